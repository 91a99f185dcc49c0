import PyProof.Rows.All
import Wide.All
import OpenK.AllK
import Wide.FinOn
import HandS.ForMost
import HandS.ForExc
import HandS.AnyAll
import HandS.IsInst
import HandS.ExcIs
import HandS.ExcValue
import HandS.EndTab
import HandS.Walk
import KE.DataMinMax
import HandS.Conv
import HandS.Style
import HandS.Codes
import HandS.DictComp
import HandS.RevRange
import PySem.Challenge.RW_mirrorwords_k06_fewest_words
set_option Elab.async false
set_option linter.all false
set_option maxRecDepth 100000
set_option maxHeartbeats 4000000
namespace Mw
open PySem PySem.Spec PyProof.Rows L2

/-! ### texts as lists of codes -/
def T (l : List Nat) : Str := ⟨l.toArray⟩
theorem T_tl (z : Str) : T (TL.tl z) = z := TL.ext_tl rfl
theorem tl_T (l : List Nat) : TL.tl (T l) = l := rfl
theorem T_len (l : List Nat) : (T l).length = l.length := by
  rw [TL.len_tl, tl_T]
theorem T_inj {a b : List Nat} (h : T a = T b) : a = b := congrArg TL.tl h
theorem T_app (a b : List Nat) : T a ++ T b = T (a ++ b) := TL.ext_tl (by rw [TL.tl_append]; rfl)
theorem T_dec (a b : List Nat) : decide (V.str (T a) = V.str (T b)) = decide (a = b) := by
  by_cases e : a = b
  · rw [e, decide_eq_true rfl, decide_eq_true rfl]
  · rw [decide_eq_false e, decide_eq_false fun z => e (T_inj (V.str.inj z))]

/-! ### the text read from behind -/
section
variable {X : Cx}
def tRevS (te : TE) : TE := fun σ H Q => te σ H fun x H1 => ∃ l : List Nat, x = .str (T l) ∧ l.length ≤ sizeLine ∧ Q (.str (T l.reverse)) H1
theorem rev_codes (l : List Nat) (u : Tok) : Txt.sliceBy (T l) none none (-1, u) = T l.reverse := by
  refine TL.ext_tl ?_
  show (Txt.sliceBy (T l) none none (-1, u)).cps.toList = l.reverse
  rw [step_rev_list, T_len]
  apply List.ext_getElem
  · rw [List.length_map, List.length_range, List.length_reverse]
  · intro i h1 h2
    have hi : i < l.length := by
      rw [List.length_reverse] at h2
      exact h2
    rw [List.getElem_map, List.getElem_range, List.getElem_reverse]
    show (l.toArray).getD (l.length - 1 - i) 0 = _
    have hj : l.length - 1 - i < l.length := by omega
    simp [Array.getD, hj]
theorem pe_revS {e : Expr} {te : TE} {k : Nat} {p1 p2 p3 pos : Pos} (he : PE X e te) : PE X (.Subscript e (.Slice none none (some (.UnaryOp .USub (.Constant (.int 1) k p1) p2)) p3) pos) (tRevS te) := by
  constructor
  intro pins s σ H Q I h
  refine Subscript_ (thn (he.run pins s σ H _ I h) fun v s1 hv => ?_)
  obtain ⟨x, H1, I1, r1, l, ex, hz, q⟩ := hv
  subst ex
  obtain ⟨t, rfl⟩ := r1
  have hst : PO X (some (.UnaryOp .USub (.Constant (.int 1) k p1) p2)) (tPart (tUn (rU fun i => .int (-i)) (tC (.int 1)))) := po_some (pe_un un_neg pe_int)
  refine wpAny_Slice (thn (po_none.run pins s1 σ H1 (fun o G => o = none ∧ G = H1) I1 ⟨rfl, rfl⟩) fun vl s2 hl => ?_)
  obtain ⟨o1, G1, J1, pl, rfl, rfl⟩ := hl
  refine thn (po_none.run pins s2 σ G1 (fun o G => o = none ∧ G = G1) J1 ⟨rfl, rfl⟩) fun vu s3 hu => ?_
  obtain ⟨o2, G2, J2, pu, rfl, rfl⟩ := hu
  refine thn (hst.run pins s3 σ G2 (fun o G => o = some (-1) ∧ G = G2) J2 ⟨1, rfl, -1, rfl, rfl, rfl⟩) fun vs s4 hs => ?_
  obtain ⟨o3, G3, J3, ps, rfl, rfl⟩ := hs
  have K5 : Inv X pins σ G3 { s4 with heap := s4.heap.push { cls := .type "slice", data := .fields #[vl, vu, vs] } } := J3.kept (t' := s4.toks) fun b ob z => Heap.get?_push_of_some _ z
  cases pl
  cases pu
  cases ps with
  | int i u =>
    refine tail_any (ops := [.str (T l) t, .ref s4.heap.objs.size]) (typeIs_str _ _ _) F.slot_str_getitem.lookup ?_ (by with_unfolding_all rfl)
    refine wpAny_getItem_str_slice (l := none) (u := none) (st := some (-1, u)) ⟨_, Heap.get?_push_size _ rfl, rfl, rfl⟩ rfl ?_
    have hne : ¬ ((((some ((-1 : Int), u)).map (·.1)).getD 1 == 1 && (slicePicked (T l) none none (some (-1, u))).length == (T l).length) = true) := by
      intro z
      have z1 := (Bool.and_eq_true _ _ ▸ z).1
      exact absurd (show ((-1 : Int) == 1) = true from z1) (by decide)
    have e1 := rev_codes l u
    unfold Txt.sliceBy at e1
    rw [if_neg hne] at e1
    unfold sliceMade
    rw [if_neg hne, e1]
    refine ⟨?_, .str (T l.reverse), G3, K5.tok _, ⟨_, rfl⟩, q⟩
    show (T l.reverse).length ≤ sizeLine
    rw [T_len, List.length_reverse]
    exact hz
end
end Mw
namespace Mw
open PySem PySem.Spec PyProof.Rows L2

/-! ### a text n times -/
theorem fold_cat (c : Array Nat) : ∀ (n : Nat) (acc : List Nat), ((List.replicate n c).foldl (· ++ ·) acc.toArray) = (acc ++ (List.replicate n c.toList).flatten).toArray
  | 0, acc => by simp
  | n + 1, acc => by
    have e : acc.toArray ++ c = (acc ++ c.toList).toArray := by simp
    rw [List.replicate_succ, List.foldl_cons, e, fold_cat c n, List.replicate_succ, List.flatten_cons, List.append_assoc]
theorem mul_T (l : List Nat) {n : Nat} (hn : 1 ≤ n) : Txt.mul (T l) (n : Int) = T (List.replicate n l).flatten := by
  unfold Txt.mul
  rw [if_neg (show ¬ ((n : Int) < 1) by omega)]
  by_cases c : (((n : Int) == 1) || (T l).length == 0) = true
  · rw [if_pos c]
    rcases (Bool.or_eq_true _ _).mp c with h | h
    · have e : n = 1 := by
        have := eq_of_beq h
        omega
      subst e
      simp [T]
    · have e : l = [] := by
        have e0 := eq_of_beq h
        rw [T_len] at e0
        exact List.length_eq_zero_iff.mp e0
      subst e
      simp [T]
  · rw [if_neg c, Int.toNat_natCast]
    show (⟨(List.replicate n l.toArray).foldl (· ++ ·) ([] : List Nat).toArray⟩ : Str) = _
    rw [fold_cat]
    simp [T]
def rRepS : R2 := fun x y H Q => ∃ (l : List Nat) (n : Nat), x = .str (T l) ∧ y = .int (n : Int) ∧ 1 ≤ n ∧ l.length * n ≤ sizeLine ∧ n ≤ 1000 ∧ Q (.str (T (List.replicate n l).flatten)) H
theorem op_repS {X : Cx} : OpR X (binaryOp .Mult) rRepS := by
  intro pins s σ H x y v u Q I rx ry h
  obtain ⟨l, n, rfl, rfl, hn, hz, hk, q⟩ := h
  obtain ⟨t, rfl⟩ := rx
  obtain ⟨t2, rfl⟩ := ry
  have hz' : l.length * n ≤ 16777216 := by
    rw [← sizeLine_eq]
    exact hz
  have hl : l.length ≤ 16777216 := Nat.le_trans (Nat.le_mul_of_pos_right _ hn) hz'
  refine SB.mul ⟨?_, fun _ _ => ?_, fun _ _ => ?_⟩ fun t' k => ?_
  · rw [decide_eq_false (by omega), decide_eq_false (by omega)]
    rfl
  · rw [T_len]
    have h1 : ((16777216 : Int)) ≤ (2 ^ 63 - 1) / (n : Int) := by
      refine Int.le_ediv_of_mul_le (by omega) ?_
      have : (16777216 : Int) * n ≤ 16777216 * 1000 := by omega
      refine Int.le_trans this (by decide)
    omega
  · unfold Builtin.Str.tooLong
    rw [T_len, Int.toNat_natCast]
    exact decide_eq_false (by omega)
  · rw [mul_T l hn]
    exact ⟨.str _, H, I.tok k, ⟨t', rfl⟩, q⟩

/-! ### letters -/
def az (c : Nat) : Bool := decide (97 ≤ c) && decide (c ≤ 122)
theorem lt_one (a b : Nat) : decide (([a] : List Nat) < [b]) = decide (a < b) := by
  by_cases h : a < b
  · rw [decide_eq_true h]
    exact decide_eq_true (List.Lex.rel h)
  · rw [decide_eq_false h]
    refine decide_eq_false fun z => ?_
    cases z with
    | rel k => exact h k
    | cons k => cases k
theorem elt_az {prog : Program} {w : World} {scope : Scope} {x : Str} {j j2 : Nat} {p1 p2 p3 p4 : Pos} (hk : scope.kind = .function) (hl : scope.names.lookup x = some .local) (hd : (x == ("__debug__" : Str)) = false := by decide) :
    GxR.EltP prog w scope x (.Compare (.Constant (.str "a") j p1) [.LtE, .LtE] [.Name x p2, .Constant (.str "z") j2 p3] p4) az := by
  intro cenv A' E' c t s₂ m₂ hs hn hm
  have nm : ∀ {s3 : Shared} {Q : Value → Shared → Prop}, s3.heap.Ns cenv.locals m₂ → Q (.str ⟨#[c]⟩ t) s3 → wpAny (model prog w) A' (eval (.Name x p2) cenv) Q E' s3 := fun {s3 Q} hn3 q =>
    wpAny_Name (wpAny_loadName_local (by rw [hs]; exact hk) (show cenv.scope.names.lookup x = some .local by rw [hs]; exact hl) hn3 hm q) hd
  refine Compare_chain (Calls.Constant_str (chain_link (nm hn (PySem.P.le_str ?_)))) (by with_unfolding_all rfl)
  have e1 : (!decide (([c] : List Nat) < [97])) = decide (97 ≤ c) := by
    rw [lt_one]
    by_cases h : c < 97
    · rw [decide_eq_true h, decide_eq_false (by omega)] <;> rfl
    · rw [decide_eq_false h, decide_eq_true (by omega)] <;> rfl
  have e2 : (!decide (([122] : List Nat) < [c])) = decide (c ≤ 122) := by
    rw [lt_one]
    by_cases h : 122 < c
    · rw [decide_eq_true h, decide_eq_false (by omega)] <;> rfl
    · rw [decide_eq_false h, decide_eq_true (by omega)] <;> rfl
  show wpAny _ _ (truthy (.bool (!decide (([c] : List Nat) < [97])))) _ _ _
  rw [e1]
  refine wpAny_truthy_bool ?_
  unfold az
  by_cases h : 97 ≤ c
  · rw [decide_eq_true h]
    refine ite_tt (chain_last (Calls.Constant_str (PySem.P.le_str ?_)))
    show (Value.bool (!decide (([122] : List Nat) < [c])) = _) ∧ _
    rw [e2, Bool.true_and]
    exact ⟨rfl, GxR.keeps_tok _ _⟩
  · rw [decide_eq_false h]
    refine ite_ff ⟨?_, GxR.keeps_tok _ _⟩
    show Value.bool (!decide (([c] : List Nat) < [97])) = Value.bool (false && decide (c ≤ 122))
    rw [e1, decide_eq_false h, Bool.false_and]
theorem genS {env : Env} {scope : Scope} {x : Str} (h1 : scope.kind = .function) (h2 : scope.isCoroutine = false) (h3 : ∀ y ∈ scope.names, y.2 = .local) (h4 : scope.names.lookup (".0" : Str) = some NameKind.local) (h5 : scope.names.lookup x = some .local) :
    GxR.GenS env scope x := ⟨h1, h2, fun y hy e => (by rw [h3 y hy] at e; cases e), h4, h5, fun y hy e => (by rw [h3 y hy] at e; cases e)⟩
end Mw
namespace Mw
open PySem PySem.Spec PyProof.Rows L2

/-! ### a def whose code object is told -/
theorem okC {P : Program} {w : World} {K : PySem.W.Frag} {mg : Str → Option Value} {base : Heap} {x qual : Str} {st : Stmt} {f : Addr} {fd : FuncData} {N ps : List Str} {k : Nat} {sp : Sp}
    (F : Fun K x qual st f fd) (S : FnScope N ps (defScope st)) (len : ∀ vs H Q E, sp vs H Q E → vs.length = ps.length)
    (body : ∀ (A : Around) (outer : List Env) (s : Shared) (H : Hp) (vs : List V) (Q : VK) (E : XK), Room k (A.deeper (envOfC qual (defScope st) s.heap.objs.size f fd.code)) → sp vs H Q E →
      ∃ t, PSs (cxOf CX0 P w K mg base N qual (defScope st) f fd.code A outer s H E).nox (defBody st) t ∧ t { nx := fun _ H' => Q .non H', rt := Q } (start N vs) H) :
    FnOk P w K mg base CX0 (k + 1) f fd ps sp := by
  obtain ⟨oc, od, kV, doc, pm, an, cdv, ct, osl, rfl, lk, hcd⟩ := F.ex
  refine fn_of lk hcd S len ?_
  intro A outer s H vs Q E hr hsp
  obtain ⟨t, h, q⟩ := body A outer s H vs Q E hr hsp
  exact ⟨t, h.nox, q⟩

/-! ### the heap behind a call: all stays but the table at P -/
structure Kp (P : Addr) (H H' : Hp) : Prop where
  tab : GxR.TabG H' P
  keep : ∀ b o, b ≠ P → H b = some o → H' b = some o
theorem Kp.refl {P : Addr} {H : Hp} (t : GxR.TabG H P) : Kp P H H := ⟨t, fun _ _ _ h => h⟩
theorem Kp.trans {P : Addr} {H H1 H2 : Hp} (a : Kp P H H1) (b : Kp P H1 H2) : Kp P H H2 := ⟨b.tab, fun c o n h => b.keep c o n (a.keep c o n h)⟩
theorem Kp.tabbed {P : Addr} {H H' : Hp} (t : GxR.Tabbed P H H') : Kp P H H' := ⟨t.1, fun b o n h => by rw [t.2 b n]; exact h⟩
theorem Kp.same {P : Addr} {H H' : Hp} (t : GxR.TabG H P) (s : Same H H') : Kp P H H' := by
  obtain ⟨ps, h1, h2⟩ := t
  exact ⟨⟨ps, s _ _ h1, h2⟩, fun b o _ h => s b o h⟩
theorem Kp.new {P p : Addr} {H : Hp} {o : HO} (t : GxR.TabG H P) (n : H p = none) : Kp P H (upd H p o) := .same t fun b u e => by
  rw [upd_ne (ne_of_none e n)]
  exact e
theorem Kp.step {P p : Addr} {H H1 : Hp} {o : HO} (a : Kp P H H1) (n : H1 p = none) : Kp P H (upd H1 p o) := a.trans (.new a.tab n)
/-- a list of one's own is written: what stood ahead of it stays -/
theorem Kp.own {P p : Addr} {H H1 : Hp} {o : HO} (a : Kp P H H1) (n : H p = none) (hp : p ≠ P) : Kp P H (upd H1 p o) := by
  refine ⟨?_, fun b u nb h => ?_⟩
  · obtain ⟨ps, h1, h2⟩ := a.tab
    exact ⟨ps, by rw [upd_ne (Ne.symm hp)]; exact h1, h2⟩
  · rw [upd_ne (ne_of_none h n)]
    exact a.keep b u nb h
theorem tab_ne {P p : Addr} {H : Hp} {o : HO} (t : GxR.TabG H P) (h : H p = some o) (n : ∀ ps, o ≠ .tbl ps) : p ≠ P := by
  obtain ⟨ps, h1, _⟩ := t
  exact ne_of h h1 (n ps)
theorem new_ne {P p : Addr} {H : Hp} (t : GxR.TabG H P) (h : H p = none) : p ≠ P := by
  obtain ⟨ps, h1, _⟩ := t
  exact (ne_of_none h1 h).symm
theorem Kp.lst {P p : Addr} {H H' : Hp} {xs : List V} (a : Kp P H H') (t : GxR.TabG H P) (h : H p = some (.lst xs)) : H' p = some (.lst xs) := a.keep _ _ (tab_ne t h fun _ z => by cases z) h
theorem Kp.seq {P p : Addr} {K : PySem.W.Frag} {H H' : Hp} {xs : List V} (a : Kp P H H') (t : GxR.TabG H P) (h : SqL K H p xs) : SqL K H' p xs := by
  rcases h with (h | ⟨o, h⟩) | h
  · exact .inl (.inl (a.lst t h))
  · exact .inl (.inr ⟨o, a.keep _ _ (tab_ne t h fun _ z => by cases z) h⟩)
  · exact .inr h
theorem Kp.free {P : Addr} {H H' : Hp} (a : Kp P H H') (t : GxR.TabG H P) {p : Addr} (h : H' p = none) : H p = none := by
  cases q : H p with
  | none => rfl
  | some o =>
    by_cases e : p = P
    · obtain ⟨ps, h1, _⟩ := a.tab
      rw [← e, h] at h1
      cases h1
    · rw [a.keep p o e q] at h
      cases h

/-! ### the law's end: the tables of code objects, by what the top says of them -/
theorem tab_from {K : PySem.W.Frag} {x : Str} {f c P : Addr} {o1 : Value} {o2 : Option Addr} {fd : FuncData} {o3 : Array (Option Value)} {e1 : Value} {e2 : Option Addr} {vs : Array Value} {e3 : Array (Option Value)}
    (a : PySem.W.nsIn K mainGlobals x = some (some (.ref f))) (l : K.lookup f = some ⟨o1, o2, .func fd, o3⟩) (hc : fd.code = .ref c) (lc : K.lookup c = some ⟨e1, e2, .fields vs, e3⟩) (hv : vs[11]? = some (.ref P)) : PySem.W.tabIn K x = some (c, P) := by
  unfold PySem.W.tabIn
  rw [a]
  show (match K.lookup f with
    | some ⟨_, _, .func fd, _⟩ => _
    | _ => none) = _
  rw [l]
  show (match fd.code with
    | .ref c => _
    | _ => none) = _
  rw [hc]
  show (match K.lookup c with
    | some ⟨_, _, .fields vs, _⟩ => _
    | _ => none) = _
  rw [lc]
  show (match (vs[11]? : Option Value) with
    | some (.ref P) => some (c, P)
    | _ => none) = _
  rw [hv]
theorem walk_tab {l : PySem.W.OpenLaw} {n k : Nat} {q : Program} {loose : List Str} {XP : (Str → Option Value) → Heap → Prop} {YP : World → Heap → Prop} {d : DefRec} {K : Params → PySem.W.Frag} {CX : World → CXT} {x : Str}
    (hn : l.most = some n) (hn2 : n ≤ sizeLine) (hdf : d.params.defaults = []) (hr : Room k callerA) (hY : ∀ (w : World) (h : Heap), YP w h → (K w.params).In h)
    (F : ∀ (w : World) (mg : Str → Option Value) (fa : Addr) (h : Heap),
      (∀ (y : Str) (c P : Addr), ((recsOf q).find? (fun e => e.name == y)).isSome = true → PySem.W.tabIn (K w.params) y = some (c, P) → PySem.W.CodeHd h c P ∧ h.get? P = some { cls := .none, data := .fields #[] }) →
      (K w.params).In h → h.Ns mainGlobals mg → mg d.name = some (.ref fa) → LamX.LawAtS l w (K w.params) (CX w) k n x mg fa h)
    (hCX : ∀ (w : World) (H : Hp) (s : Shared) (e : Value) (s' : Shared), CX w [] H s (fun _ _ _ => False) e s' → False) :
    PySem.W.WalkO q loose XP YP l.row.toRowW d [] (fun f vs => PySem.call f vs) := by
  refine Att.attach_callB hn hdf ?_
  intro w s₀ s₁ mg mb fa o pm cd doc a vs ns G Y ho hd hcd hmg hobj hints hlen hbits hg
  have KX := hY w _ Y
  have hF := F w mg fa _ (fun y c P hy ht => by
    obtain ⟨dd, hdd⟩ := Option.isSome_iff_exists.mp hy
    exact PySem.W.tab_of G.T KX hdd ht) KX G.T.g hmg
  obtain ⟨fd, cs, sp, hT, nT, C, hb, hsp, hok⟩ := hF
  refine LamX.law_callTs KX G.T.g G.T.b G.T.builtins G.T.nolimit hg hT nT C G.T.bmain hobj hints (Nat.le_trans hlen hn2) hr hok hb ?_ fun H e s' => hCX w H s₁ e s'
  exact fun H hH hS => hsp H a ns hlen hbits hH hS

/-! ### an error that is kept behind its except suite -/
/-- an error of the class at C stands at a -/
def ExS (C a : Addr) : HO := .ext fun h => ∃ (oe : Obj) (vs : Array Value), h.get? a = some oe ∧ Zc (.ref C) none oe ∧ oe.data = .fields vs
theorem exS_ok {P : Program} {w : World} {H : Hp} {h : Heap} {a C : Addr} {oe : Obj} {vs : Array Value} (e : h.get? a = some oe) (z : Zc (.ref C) none oe) (d : oe.data = .fields vs) : ObjOk P w H h a (ExS C a) :=
  ⟨⟨oe, vs, e, z, d⟩, ⟨oe, e⟩, fun _ _ ⟨o, v, q, r⟩ k => ⟨o, v, k o q, r⟩⟩
theorem exS_ne {C a : Addr} : ∀ ps, ExS C a ≠ .tbl ps := fun ps z => by
  unfold ExS at z
  cases z
section
variable {X : Cx} {pins : List (Addr × Obj)} {σ : L2.St} {H : Hp} {s : Shared}
theorem unpin {a : Addr} {q : Addr × Obj} (I : Inv (X.suite a (q :: (X.pn ++ pins))) [] σ H s) (ok : X.Ok) : Inv X (q :: pins) σ H s := by
  refine ⟨ok, I.os, I.bare, I.base, I.loc, I.cell, I.free, I.freeC, fun p hp => I.pin p ?_, I.hok, I.len⟩
  rw [List.append_nil]
  rcases List.mem_append.mp hp with z | z
  · exact List.mem_cons_of_mem _ (List.mem_append_left _ z)
  · rcases List.mem_cons.mp z with e | z
    · rw [e]
      exact List.mem_cons_self
    · exact List.mem_cons_of_mem _ (List.mem_append_right _ z)
theorem track {a C : Addr} {oe : Obj} (J : Inv X ((a, oe) :: pins) σ H s) (hz : Zc (.ref C) none oe) (hd : ∃ vs, oe.data = .fields vs) (n0 : X.s_0.heap.get? a = none) (np : ∀ p ∈ X.pn ++ pins, p.1 ≠ a) :
    Inv X pins σ (upd H a (ExS C a)) s := by
  obtain ⟨ha, na, nL, nF, ncell⟩ := J.pin (a, oe) (List.mem_append_right _ List.mem_cons_self)
  have ha : s.heap.get? a = some oe := ha
  have na : H a = none := na
  have nL : a ≠ X.env.locals := nL
  obtain ⟨vs, hv⟩ := hd
  have tr : ∀ b u, H b = some u → upd H a (ExS C a) b = some u := fun b u e => by
    rw [upd_ne (ne_of_none e na)]
    exact e
  have ns : ∀ b o, X.s_0.heap.get? b = some o → b ≠ a := fun b o e z => by
    rw [z, n0] at e
    cases e
  refine ⟨J.ok, J.os, J.bare, ⟨J.base.keep, J.base.slot, fun b o e n hx => ?_, J.base.there, fun b xs e => tr _ _ (J.base.tups b xs e), fun b o u e => tr _ _ (J.base.frzs b o u e), fun b ps e => ?_⟩, J.loc, J.cell, ?_, fun x c e => ?_, fun p hp => ?_, fun b u e => ?_, J.len⟩
  · rw [upd_ne (ns b o e)]
    exact J.base.free b o e n hx
  · obtain ⟨m, e1⟩ := J.base.tbls b ps e
    exact ⟨m, tr _ _ e1⟩
  · rw [upd_ne (Ne.symm nL)]
    exact J.free
  · have nc : c ≠ a := fun z => by
      obtain ⟨v, o, ho, hdc⟩ := J.cell x c e
      rw [z, ha] at ho
      cases ho
      exact ncell v hdc
    rw [upd_ne nc]
    exact J.freeC x c e
  · have hp' : p ∈ X.pn ++ ((a, oe) :: pins) := by
      rcases List.mem_append.mp hp with z | z
      · exact List.mem_append_left _ z
      · exact List.mem_append_right _ (List.mem_cons_of_mem _ z)
    obtain ⟨e, n, r⟩ := J.pin p hp'
    exact ⟨e, by rw [upd_ne (np p hp)]; exact n, r⟩
  · by_cases hb : b = a
    · subst hb
      rw [upd_same] at e
      cases e
      exact exS_ok ha hz hv
    · rw [upd_ne hb] at e
      exact (J.hok b u e).stay (fun c w _ q => q) (fun c q => tr _ _ q) fun c xs q => tr _ _ q
end
end Mw
namespace Mw
open PySem PySem.Spec PyProof.Rows L2

/-! ### try: body, except c as n: suite, where the clause takes all that the body raises; the error stays known behind it -/
def wKeep (K : PySem.W.Frag) (c : Value) (i : Nat) (ts : Addr → TS) (D : Ends) : WX := fun cls d σ H =>
  PySem.W.exmOne K cls c = some true ∧ d = none ∧ ∃ C, cls = .ref C ∧ ∀ a, H a = none →
    ts a { nx := fun σ' H' => D.nx (σ'.set i none) (upd H' a (ExS C a)), rt := fun _ _ => False } (σ.set i (some (.ref a))) H
section
variable {X : Cx} {x n : Str} {c : Value} {i : Nat} {body suite : List Stmt} {b₀ : Stmt} {np pos pos' : Pos} {tb : WX → TS} {ts : Addr → TS}
theorem ps_tryK (hs : X.stack = X.env :: X.outer) (hf : X.env.frame = some X.env.locals) (hex : X.ex = []) (hN : X.N.Nodup) (hi : X.N[i]? = some n) (hln : X.env.kindOf n = some .local) (hc : Names X x c)
    (hb : ∀ (W : WX) (pn : List (Addr × Obj)) (xe : Value → Shared → Prop), Takes (X.tr pn xe) W → PassesOwn (model X.prog X.w) X.A X.env xe → PSs (X.tr pn xe) body (tb W))
    (hsu : ∀ (a : Addr) (pn : List (Addr × Obj)), PSs (X.suite a pn) (b₀ :: suite) (ts a)) :
    PS X (.Try body [.ExceptHandler (some (.Name x np)) (some n) (b₀ :: suite) pos'] [] [] pos) (fun D σ H => tb (wKeep X.K c i ts D) D σ H) := by
  constructor
  intro pins s σ H D I h
  have ok := I.ok
  have hfr : X.A.frames = some (X.env :: X.outer) := by
    rw [ok.frames, hs]
  have caught : ∀ (u : Value) (s' : Shared), XE (X.tr (X.pn ++ pins) fun _ _ => True) (wKeep X.K c i ts D) u s' →
      wpAny (model X.prog X.w) X.A (noteFrame u X.env) (fun _ s₂ => wpAny (model X.prog X.w) X.A (setFlight u none) (fun _ s₃ =>
        wpAny (model X.prog X.w) X.A (handleBy u X.env [.ExceptHandler (some (.Name x np)) (some n) (b₀ :: suite) pos']) (SP X pins D) X.xe s₃) X.xe s₂) X.xe s' := by
    intro u s' xx
    obtain ⟨a, B, sI, pins', σ', H', cls, d, rfl, J', nb, up, sky, na, os, ag, hm, rfl, C, rfl, hyes⟩ := xx
    have J : Inv X pins σ' H' sI := J'.ofTry ok
    have sky2 : Sky B (X.env :: X.outer) a (Zc (.ref C) none) X.env.locals s'.heap := hs ▸ sky
    refine Sky.land Zc.steady hfr hf sky2 fun h3 fl3 up3 => ?_
    have J3 : Inv X pins σ' H' { s' with heap := h3 } := J.landed nb fl3.1 (up.trans up3) os ag
    obtain ⟨oe3, vs3, he3, hz3, hd3⟩ := fl3.there
    have nfr : a ∉ frs (X.env :: X.outer) := fun hm => by
      obtain ⟨_, o', e', hnf⟩ := fl3.2.2.1.mem hm
      rw [he3] at e'
      cases e'
      exact hnf _ hd3
    have nL : a ≠ X.env.locals := fun z => nfr (List.mem_filterMap.mpr ⟨X.env, List.mem_cons_self, by rw [hf, z]⟩)
    have nF : a ∉ X.fs := fun z => by
      obtain ⟨e, he, q⟩ := List.mem_filterMap.mp z
      exact nfr (List.mem_filterMap.mpr ⟨e, List.mem_cons_of_mem _ he, q⟩)
    have nI : sI.heap.get? a = none := by
      cases q : sI.heap.get? a with
      | none => rfl
      | some o =>
        have z := nb a o q (by rw [show X.stack = X.env :: X.outer from hs]; exact nfr)
        rw [fl3.2.1] at z
        cases z
    have n0 : X.s_0.heap.get? a = none := by
      cases q : X.s_0.heap.get? a with
      | none => rfl
      | some o =>
        obtain ⟨o', z⟩ := J.base.there a o q (by rw [hex]; exact fun z => nomatch z)
        rw [nI] at z
        cases z
    have npin : ∀ p ∈ X.pn ++ pins, p.1 ≠ a := fun p hp z => by
      obtain ⟨e, _⟩ := J.pin p hp
      rw [z, nI] at e
      cases e
    have S3 := J3.suite he3 hd3 na nL nF
    refine wpAny_handleBy_cons (codeAny_handlers_test ?_) (by intro q; cases q)
    have LT : PySem.W.Looks (model X.prog X.w) h3 (typeOf (.ref a)) (.ref C) := fun A Q E s k q => wpAny_typeOf_ref (k _ _ he3) (by rw [hz3.1]; exact q)
    have LM := PySem.W.exm_one (M := model X.prog X.w) J3.kIn LT hm
    have test : ∀ {Q : Value → Shared → Prop} {E : Value → Shared → Prop}, Q c { s' with heap := h3 } → wpAny (model X.prog X.w) (X.A.mark (some (.ref a))) (eval (.Name x np) X.env) Q E { s' with heap := h3 } := by
      intro Q E q
      obtain ⟨hg, hdb, hm | ⟨hm, hv, hnn⟩⟩ := hc
      · exact ld_glob S3 hg hm q hdb
      · exact ld_blt S3 hg hm hv q hnn hdb
    refine test (LM.here ?_)
    refine codeAny_handlers_suite_as ?_
    refine HandSPX.lands_againZ fl3 fun h4 fl4 up4 => ?_
    have J4 : Inv X pins σ' H' { s' with heap := h4 } := J.landed nb fl4.1 ((up.trans up3).trans up4) os ag
    obtain ⟨oe4, vs4, he4, hz4, hd4⟩ := fl4.there
    have S4 := J4.suite he4 hd4 na nL nF
    refine store_ok (X := X.suite a ((a, oe4) :: (X.pn ++ pins))) (v := .ref a) S4 hN hi (.inl hln) rfl (fun s5 S5 => ?_) (.inr hln)
    refine wpAny_mono ((hsu a ((a, oe4) :: (X.pn ++ pins))).run [] s5 _ H' _ S5 (hyes a na)) (fun f s6 hsp => ?_) fun _ _ z => False.elim z
    cases f with
    | next =>
      obtain ⟨σ6, H6, S6, q6⟩ := hsp
      refine gone_ok (unpin S6 ok) hN hi hln fun s7 J7 => ?_
      exact ⟨_, _, track J7 hz4 ⟨_, hd4⟩ n0 npin, q6⟩
    | brk =>
      obtain ⟨_, _, _, q6⟩ := hsp
      exact q6.elim
    | cont =>
      obtain ⟨_, _, _, q6⟩ := hsp
      exact q6.elim
    | ret u =>
      obtain ⟨_, _, _, _, _, q6⟩ := hsp
      exact q6.elim
  refine wpAny_Try_except (wpAny_mono ((hb (wKeep X.K c i ts D) (X.pn ++ pins) _ (fun u s' xx => caught u s' ?_) PassesOwn.looking).run [] s σ H D (I.toTry _) h) (fun f s1 hsp => ?_) fun e s1 he => he)
  · obtain ⟨a, B, sI, pins', σ', H', cls, d, e, J', r⟩ := xx
    exact ⟨a, B, sI, pins', σ', H', cls, d, e, ⟨J'.ok.ofTry.toTry _ _, J'.os, J'.bare, J'.base, J'.loc, J'.cell, J'.free, J'.freeC, J'.pin, J'.hok, J'.len⟩, r⟩
  · cases f with
    | next =>
      obtain ⟨σ', H', J', q⟩ := hsp
      exact wpAny_execs_nil ⟨σ', H', J'.ofTry ok, q⟩
    | brk =>
      obtain ⟨σ', H', J', q⟩ := hsp
      exact ⟨σ', H', J'.ofTry ok, q⟩
    | cont =>
      obtain ⟨σ', H', J', q⟩ := hsp
      exact ⟨σ', H', J'.ofTry ok, q⟩
    | ret u =>
      obtain ⟨v, σ', H', J', r, q⟩ := hsp
      exact ⟨v, σ', H', J'.ofTry ok, r, q⟩
end

/-! ### isinstance of such an error -/
def rIsX (K : PySem.W.Frag) : List V → Hp → VK → Prop := fun xs H Q => ∃ (a C : Addr) (c : V) (cv : Value) (b : Bool), xs = [.ref a, c] ∧ ClsV c cv ∧ H a = some (ExS C a) ∧ ExcC K C ∧ PySem.W.kitOne K (.ref C) cv = some b ∧ Q (.bl b) H
def rIsXT (K : PySem.W.Frag) : List V → Hp → VK → Prop := fun xs H Q => ∃ (a C tp : Addr) (cs : List V) (us : List Value) (b : Bool), xs = [.ref a, .ref tp] ∧ H tp = some (.tup cs) ∧ Paired ClsV cs us ∧ H a = some (ExS C a) ∧ ExcC K C ∧
  PySem.W.kitAny K (.ref C) us = some b ∧ Q (.bl b) H
section
variable {X : Cx} {pins : List (Addr × Obj)} {σ : L2.St} {H : Hp} {s : Shared}
theorem inst_of {a C : Addr} (I : Inv X pins σ H s) (h : H a = some (ExS C a)) : ∃ oe, PySem.W.InstAt s.heap a oe C none := by
  obtain ⟨⟨oe, vs, e, hz, hv⟩, _⟩ := (show ObjOk X.prog X.w H s.heap a (ExS C a) from I.hok a _ h)
  refine ⟨oe, ?_⟩
  obtain ⟨oc, od, oda, osl⟩ := oe
  obtain ⟨h1, h2⟩ := hz
  dsimp only at h1 h2 hv
  subst h1 h2 hv
  exact ⟨e, rfl, rfl, trivial⟩
theorem call_isX : CallR X (.builtin "isinstance") (rIsX X.K) := by
  intro pins s σ H xs us Q I r h
  obtain ⟨a, C, c, cv, b, rfl, k, hx, E, e, q⟩ := h
  obtain ⟨u1, u2, rfl, r1, r2⟩ := vals2 r
  cases (show u1 = Value.ref a from r1)
  have e2 := k.eq r2
  subst e2
  obtain ⟨oe, J⟩ := inst_of I hx
  exact PySem.W.kia_one (PySem.W.handS_kitx_exc E.hg E.hk E.hs E.hd E.ha E.hn E.ht E.hm) I.kIn J e (fun z => nomatch z) fun tk => ⟨.bl b, H, I.tok tk, rfl, q⟩
theorem call_isXT : CallR X (.builtin "isinstance") (rIsXT X.K) := by
  intro pins s σ H xs us Q I r h
  obtain ⟨a, C, tp, cs, ws, b, rfl, hT, k, hx, E, e, q⟩ := h
  obtain ⟨u1, u2, rfl, r1, r2⟩ := vals2 r
  cases (show u1 = Value.ref a from r1)
  cases (show u2 = Value.ref tp from r2)
  obtain ⟨oe, J⟩ := inst_of I hx
  obtain ⟨_, its, rv, o, h1, h2, n, h3⟩ := (show ObjOk X.prog X.w H s.heap tp (.tup cs) from I.hok tp _ hT)
  have e3 := ClsV.all k rv
  subst e3
  obtain ⟨oc, od, dt, sl⟩ := o
  simp only at h2 h3
  subst h2 h3
  exact PySem.W.kia_tup (PySem.W.handS_kitx_exc E.hg E.hk E.hs E.hd E.ha E.hn E.ht E.hm) I.kIn J h1 e (fun z => nomatch z) fun tk => ⟨.bl b, H, I.tok tk, rfl, q⟩
end
end Mw
namespace Mw
/-! ### stretches that read alike from behind -/
def Pal (l : List Nat) (i j : Nat) : Prop := ∀ x, i ≤ x → x ≤ j → l[x]? = l[i + j - x]?
theorem pal_short {l : List Nat} {i j : Nat} (h : j ≤ i) : Pal l i j := fun x a b => by
  have e : i + j - x = x := by omega
  rw [e]
theorem pal_out {l : List Nat} {i j : Nat} (h : i < j) : Pal l i j ↔ Pal l (i + 1) (j - 1) ∧ l[i]? = l[j]? := by
  constructor
  · intro p
    refine ⟨fun x a b => ?_, ?_⟩
    · have z := p x (by omega) (by omega)
      have e : i + 1 + (j - 1) - x = i + j - x := by omega
      rw [e]
      exact z
    · have z := p i (Nat.le_refl _) (by omega)
      have e : i + j - i = j := by omega
      rw [e] at z
      exact z
  · intro ⟨p, e⟩ x a b
    by_cases c : x = i
    · have q : i + j - x = j := by omega
      rw [q, c]
      exact e
    · by_cases d : x = j
      · have q : i + j - x = i := by omega
        rw [q, d]
        exact e.symm
      · have z := p x (by omega) (by omega)
        have q : i + 1 + (j - 1) - x = i + j - x := by omega
        rw [q] at z
        exact z
/-- a stretch within a mirror word, seen from behind -/
theorem pal_turn {l : List Nat} {a b i j : Nat} (h : Pal l a b) (ai : a ≤ i) (jb : j ≤ b) (ij : i ≤ j) (p : Pal l i j) : Pal l (a + b - j) (a + b - i) := fun x u v => by
  have e1 := h x (by omega) (by omega)
  have e2 := p (a + b - x) (by omega) (by omega)
  have e3 := h (i + j - (a + b - x)) (by omega) (by omega)
  have q1 : a + b - (i + j - (a + b - x)) = a + b - j + (a + b - i) - x := by omega
  rw [q1] at e3
  rw [e1, e2, e3]
theorem pal_turn' {l : List Nat} {a b i j : Nat} (h : Pal l a b) (ai : a ≤ i) (jb : j ≤ b) (p : Pal l i j) : Pal l (a + b - j) (a + b - i) := by
  by_cases ij : i ≤ j
  · exact pal_turn h ai jb ij p
  · exact pal_short (by omega)
theorem pal_mid {l : List Nat} {i j : Nat} (h : Pal l i j) (k : Nat) (hk : i + k ≤ j) : Pal l (i + k) (j - k) := fun x a b => by
  have z := h x (by omega) (by omega)
  have e : i + k + (j - k) - x = i + j - x := by omega
  rw [e]
  exact z

/-! ### what arms say of two places -/
def tie (R : Nat → Nat) (i j : Nat) : Bool := decide (j < (i + j) / 2 + 1 + R (i + j))
def cut (R : Nat → Nat) (i j : Nat) : Bool := decide ((i + j) / 2 + 1 + R (i + j) = j)
/-- the letters: 97 .. 122 -/
def abcL : List Nat := (List.range 26).map (97 + ·)
def barred (R : Nat → Nat) (g : List Nat) (p : Nat) : List Nat := ((List.range p).filter fun i => cut R i p).map fun i => g.getD i 0
def nxt (R : Nat → Nat) (g : List Nat) : Nat :=
  match (List.range g.length).find? fun i => tie R i g.length with
  | some i => g.getD i 0
  | none => ((abcL.find? fun c => !(barred R g g.length).contains c)).getD 0
def gr (R : Nat → Nat) : Nat → List Nat
  | 0 => []
  | p + 1 => gr R p ++ [nxt R (gr R p)]
theorem gr_len (R : Nat → Nat) : ∀ p, (gr R p).length = p
  | 0 => rfl
  | p + 1 => by
    show (gr R p ++ [_]).length = p + 1
    rw [List.length_append, gr_len R p]
    rfl
theorem gr_at {R : Nat → Nat} {i : Nat} : ∀ {p : Nat}, i < p → (gr R p)[i]? = some (nxt R (gr R i))
  | p + 1, h => by
    show (gr R p ++ [_])[i]? = _
    by_cases c : i = p
    · rw [c, List.getElem?_append_right (by rw [gr_len]; exact Nat.le_refl _), gr_len, Nat.sub_self]
      rfl
    · rw [List.getElem?_append_left (by rw [gr_len]; omega)]
      exact gr_at (by omega)
theorem gr_take {R : Nat → Nat} {q : Nat} : ∀ {p : Nat}, q ≤ p → (gr R p).take q = gr R q
  | 0, h => by
    have e : q = 0 := by omega
    subst e
    rfl
  | p + 1, h => by
    by_cases c : q = p + 1
    · subst c
      exact List.take_of_length_le (by rw [gr_len]; exact Nat.le_refl _)
    · show (gr R p ++ [_]).take q = _
      rw [List.take_append_of_le_length (by rw [gr_len]; omega)]
      exact gr_take (by omega)

/-- R is what the arms of t say -/
structure Arms (t : List Nat) (R : Nat → Nat) : Prop where
  tie : ∀ i j, i < j → j < t.length → (tie R i j = true ↔ Pal t i j)
  cut : ∀ i j, i < j → j < t.length → (cut R i j = true ↔ Pal t (i + 1) (j - 1) ∧ ¬ t[i]? = t[j]?)
/-- a letter is left at each place that is tied to none -/
def Left (R : Nat → Nat) (n : Nat) : Prop := ∀ p, p < n → ((List.range p).find? fun i => tie R i p) = none → ∃ c, (abcL.find? fun c => !(barred R (gr R p) p).contains c) = some c

theorem nxt_tied {R : Nat → Nat} {p i : Nat} (h : ((List.range p).find? fun i => tie R i p) = some i) : nxt R (gr R p) = (gr R p).getD i 0 := by
  unfold nxt
  rw [gr_len, h]
theorem nxt_free {R : Nat → Nat} {p : Nat} (h : ((List.range p).find? fun i => tie R i p) = none) : nxt R (gr R p) = (abcL.find? fun c => !(barred R (gr R p) p).contains c).getD 0 := by
  unfold nxt
  rw [gr_len, h]
theorem gr_getD {R : Nat → Nat} {p i : Nat} (h : i < p) : (gr R p).getD i 0 = nxt R (gr R i) := by
  rw [List.getD_eq_getElem?_getD, gr_at h]
  rfl
theorem first_tied {R : Nat → Nat} {p i : Nat} (h : ((List.range p).find? fun i => tie R i p) = some i) : i < p ∧ tie R i p = true ∧ ∀ j, j < i → tie R j p = false := by
  obtain ⟨h1, as, bs, e, h2⟩ := List.find?_eq_some_iff_append.mp h
  have hl : as.length + bs.length + 1 = p := by
    have := congrArg List.length e
    rw [List.length_range, List.length_append, List.length_cons] at this
    omega
  have at_ : ∀ k, k < p → (as ++ i :: bs)[k]? = some k := fun k hk => by rw [← e, List.getElem?_range hk]
  have hi : as.length = i := by
    have z := at_ as.length (by omega)
    rw [List.getElem?_append_right (Nat.le_refl _), Nat.sub_self] at z
    exact (Option.some.inj z).symm
  refine ⟨by omega, h1, fun j hj => ?_⟩
  have z := at_ j (by omega)
  rw [List.getElem?_append_left (by omega)] at z
  have := h2 j (List.mem_of_getElem? z)
  simpa using this
theorem none_tied {R : Nat → Nat} {p : Nat} (h : ((List.range p).find? fun i => tie R i p) = none) : ∀ j, j < p → tie R j p = false := fun j hj => by
  have z := List.find?_eq_none.mp h j (List.mem_range.mpr hj)
  simpa using z
theorem mem_barred {R : Nat → Nat} {g : List Nat} {p c : Nat} : c ∈ barred R g p ↔ ∃ i, i < p ∧ cut R i p = true ∧ g.getD i 0 = c := by
  unfold barred
  rw [List.mem_map]
  constructor
  · rintro ⟨i, hi, e⟩
    obtain ⟨h1, h2⟩ := List.mem_filter.mp hi
    exact ⟨i, List.mem_range.mp h1, h2, e⟩
  · rintro ⟨i, h1, h2, e⟩
    exact ⟨i, List.mem_filter.mpr ⟨List.mem_range.mpr h1, h2⟩, e⟩
theorem free_letter {R : Nat → Nat} {p : Nat} {c : Nat} (h : (abcL.find? fun c => !(barred R (gr R p) p).contains c) = some c) : ¬ c ∈ barred R (gr R p) p := by
  have z := List.find?_some h
  simpa using z

/-- the text built letter by letter has the mirror words of each text with these arms -/
theorem gr_pal {t : List Nat} {R : Nat → Nat} (A : Arms t R) (L : Left R t.length) {n : Nat} (hn : t.length = n) : ∀ i j, i < j → j < n → (Pal (gr R n) i j ↔ Pal t i j) := by
  -- by the later place
  have key : ∀ p, p < n → ∀ i, i < p → (Pal (gr R n) i p ↔ Pal t i p) := by
    intro p
    induction p using Nat.strongRecOn with
    | ind p ih =>
    intro hp
    have ihp : ∀ i j, i < j → j < p → (Pal (gr R n) i j ↔ Pal t i j) := fun i j hij hj => ih j hj (by omega) i hij
    have inn : ∀ i j, j < p → (Pal (gr R n) i j ↔ Pal t i j) := fun i j hj => by
      by_cases c : i < j
      · exact ihp i j c hj
      · exact ⟨fun _ => pal_short (by omega), fun _ => pal_short (by omega)⟩
    have gat : ∀ i, i < n → (gr R n)[i]? = some (nxt R (gr R i)) := fun i hi => gr_at hi
    -- two places with a mirror word between them: alike in both or in none
    have alike : ∀ i j, i < j → j < p → Pal t (i + 1) (j - 1) → ((gr R n)[i]? = (gr R n)[j]? ↔ t[i]? = t[j]?) := by
      intro i j hij hj hP
      have z := ihp i j hij hj
      rw [pal_out hij, pal_out hij] at z
      have hG := (inn (i + 1) (j - 1) (by omega)).mpr hP
      exact ⟨fun e => (z.mp ⟨hG, e⟩).2, fun e => (z.mpr ⟨hP, e⟩).2⟩
    intro i hi
    rw [pal_out hi, pal_out hi, inn (i + 1) (p - 1) (by omega)]
    refine and_congr_right fun hP => ?_
    cases hf : (List.range p).find? fun i => tie R i p with
    | some q =>
      obtain ⟨hq, htq, hmin⟩ := first_tied hf
      have hpq : Pal t q p := (A.tie q p hq (by omega)).mp htq
      have hin := (pal_out hq).mp hpq
      have eg : (gr R n)[p]? = (gr R n)[q]? := by
        rw [gat p hp, gat q (by omega), nxt_tied hf, gr_getD hq]
      rw [eg, ← hin.2]
      by_cases c : i = q
      · subst c
        exact ⟨fun _ => rfl, fun _ => rfl⟩
      · by_cases d : q < i
        · -- seen within the mirror word between q and p
          have hGq := (inn (q + 1) (p - 1) (by omega)).mpr hin.1
          have e1 := hin.1 i (by omega) (by omega)
          have e2 := hGq i (by omega) (by omega)
          have q1 : q + 1 + (p - 1) - i = q + p - i := by omega
          rw [q1] at e1 e2
          rw [e1, e2]
          have hP2 := pal_turn' (i := i + 1) (j := p - 1) hin.1 (by omega) (by omega) hP
          have q2 : q + 1 + (p - 1) - (p - 1) = q + 1 := by omega
          have q3 : q + 1 + (p - 1) - (i + 1) = (q + p - i) - 1 := by omega
          rw [q2, q3] at hP2
          have z := alike q (q + p - i) (by omega) (by omega) hP2
          exact ⟨fun e => (z.mp e.symm).symm, fun e => (z.mpr e.symm).symm⟩
        · have hiq : i < q := by omega
          have nt : ¬ Pal t i p := fun w => by
            have z := (A.tie i p hi (by omega)).mpr w
            rw [hmin i hiq] at z
            cases z
          have ne : ¬ t[i]? = t[q]? := fun e => nt ((pal_out hi).mpr ⟨hP, by rw [e]; exact hin.2⟩)
          refine ⟨fun e => absurd ?_ ne, fun e => absurd e ne⟩
          have hG := (inn (i + 1) (p - 1) (by omega)).mpr hP
          have e1 := hP q (by omega) (by omega)
          have e2 := hG q (by omega) (by omega)
          have q1 : i + 1 + (p - 1) - q = i + p - q := by omega
          rw [q1] at e1 e2
          have hP2 := pal_turn' (i := q + 1) (j := p - 1) hP (by omega) (by omega) hin.1
          have q2 : i + 1 + (p - 1) - (p - 1) = i + 1 := by omega
          have q3 : i + 1 + (p - 1) - (q + 1) = (i + p - q) - 1 := by omega
          rw [q2, q3] at hP2
          have z := alike i (i + p - q) (by omega) (by omega) hP2
          rw [e1]
          exact z.mp (by rw [e, e2])
    | none =>
      have nt := none_tied hf i hi
      have ntp : ¬ Pal t i p := fun w => by
        have z := (A.tie i p hi (by omega)).mpr w
        rw [nt] at z
        cases z
      have ne : ¬ t[i]? = t[p]? := fun e => ntp ((pal_out hi).mpr ⟨hP, e⟩)
      have hc : cut R i p = true := (A.cut i p hi (by omega)).mpr ⟨hP, ne⟩
      refine ⟨fun e => absurd ?_ (fun z => z), fun e => absurd e ne⟩
      obtain ⟨c, hcf⟩ := L p (by omega) hf
      rw [gat i (by omega), gat p hp, nxt_free hf, hcf] at e
      exact free_letter hcf (mem_barred.mpr ⟨i, hi, hc, by rw [gr_getD hi]; exact Option.some.inj e⟩)
  exact fun i j hij hj => key j hj i hij
end Mw
namespace Mw
/-! ### the arm of a middle -/
def okAt (l : List Nat) (m j : Nat) : Bool := decide (j + 1 ≤ (m + 1) / 2) && (decide (m / 2 + 1 + j < l.length) && (l[(m + 1) / 2 - (j + 1)]? == l[m / 2 + 1 + j]?))
/-- the first place from k on, within f, where p holds no more -/
def lead (p : Nat → Bool) : Nat → Nat → Nat
  | 0, k => k
  | f + 1, k => if p k = true then lead p f (k + 1) else k
theorem lead_eq {p : Nat → Bool} : ∀ (f k0 k : Nat), k0 ≤ k → k ≤ k0 + f → (∀ j, k0 ≤ j → j < k → p j = true) → (k < k0 + f → p k = false) → lead p f k0 = k
  | 0, k0, k, h1, h2, _, _ => by
    show k0 = k
    omega
  | f + 1, k0, k, h1, h2, h3, h4 => by
    show (if p k0 = true then lead p f (k0 + 1) else k0) = k
    by_cases e : k0 = k
    · subst e
      rw [h4 (by omega), if_neg Bool.false_ne_true]
    · rw [if_pos (h3 k0 (Nat.le_refl _) (by omega))]
      exact lead_eq f (k0 + 1) k (by omega) (by omega) (fun j a b => h3 j (by omega) b) fun a => h4 (by omega)
theorem lead_spec {p : Nat → Bool} : ∀ (f k0 : Nat), k0 ≤ lead p f k0 ∧ lead p f k0 ≤ k0 + f ∧ (∀ j, k0 ≤ j → j < lead p f k0 → p j = true) ∧ (lead p f k0 < k0 + f → p (lead p f k0) = false)
  | 0, k0 => ⟨Nat.le_refl _, Nat.le_refl _, fun j a b => absurd b (by show ¬ j < k0; omega), fun h => absurd h (by show ¬ k0 < k0 + 0; omega)⟩
  | f + 1, k0 => by
    have ih := lead_spec (p := p) f (k0 + 1)
    by_cases c : p k0 = true
    · have e : lead p (f + 1) k0 = lead p f (k0 + 1) := if_pos c
      rw [e]
      refine ⟨by omega, by omega, fun j a b => ?_, fun h => ih.2.2.2 (by omega)⟩
      by_cases z : j = k0
      · rw [z]
        exact c
      · exact ih.2.2.1 j (by omega) b
    · have e : lead p (f + 1) k0 = k0 := if_neg c
      rw [e]
      exact ⟨Nat.le_refl _, by omega, fun j a b => absurd b (by omega), fun _ => by simpa using c⟩
def armL (l : List Nat) (m : Nat) : Nat := lead (okAt l m) l.length 0
theorem okAt_lt {l : List Nat} {m j : Nat} (h : okAt l m j = true) : m / 2 + 1 + j < l.length := by
  unfold okAt at h
  simp only [Bool.and_eq_true, decide_eq_true_eq] at h
  exact h.2.1
theorem armL_of {l : List Nat} {m k : Nat} (h : ∀ j, j < k → okAt l m j = true) (hk : okAt l m k = false) : armL l m = k := by
  refine lead_eq _ 0 k (Nat.zero_le _) ?_ (fun j _ b => h j b) fun _ => hk
  cases k with
  | zero => exact Nat.zero_le _
  | succ i =>
    have := okAt_lt (h i (Nat.lt_succ_self _))
    omega

theorem lead_succ (p : Nat → Bool) (i : Nat) : lead p (i + 1) 0 = if lead p i 0 = i ∧ p i = true then i + 1 else lead p i 0 := by
  obtain ⟨_, h2, h3, h4⟩ := lead_spec (p := p) i 0
  by_cases c : lead p i 0 = i ∧ p i = true
  · rw [if_pos c]
    refine lead_eq (i + 1) 0 (i + 1) (by omega) (by omega) (fun j _ b => ?_) fun z => absurd z (by omega)
    by_cases e : j = i
    · rw [e]
      exact c.2
    · exact h3 j (by omega) (by rw [c.1]; omega)
  · rw [if_neg c]
    refine lead_eq (i + 1) 0 _ (by omega) (by omega) h3 fun z => ?_
    by_cases e : lead p i 0 = i
    · rw [e]
      cases q : p i with
      | false => rfl
      | true => exact absurd ⟨e, q⟩ c
    · exact h4 (by omega)
theorem armL_end (l : List Nat) (m : Nat) : lead (okAt l m) (l.length - 1) 0 = armL l m := by
  unfold armL
  cases h : l.length with
  | zero => rfl
  | succ k =>
    rw [lead_succ]
    have z : ¬ (lead (okAt l m) k 0 = k ∧ okAt l m k = true) := fun c => by
      have := okAt_lt c.2
      omega
    rw [if_neg z]
    rfl

theorem okAt_of {l : List Nat} {m j : Nat} (h : okAt l m j = true) : j + 1 ≤ (m + 1) / 2 ∧ m / 2 + 1 + j < l.length ∧ l[(m + 1) / 2 - (j + 1)]? = l[m / 2 + 1 + j]? := by
  unfold okAt at h
  simp only [Bool.and_eq_true, decide_eq_true_eq, beq_iff_eq] at h
  exact ⟨h.1, h.2.1, h.2.2⟩
theorem okAt_iff {l : List Nat} {m j : Nat} : okAt l m j = true ↔ j + 1 ≤ (m + 1) / 2 ∧ m / 2 + 1 + j < l.length ∧ l[(m + 1) / 2 - (j + 1)]? = l[m / 2 + 1 + j]? := by
  refine ⟨okAt_of, fun h => ?_⟩
  unfold okAt
  simp only [Bool.and_eq_true, decide_eq_true_eq, beq_iff_eq]
  exact ⟨h.1, h.2.1, h.2.2⟩
theorem lt_armL {l : List Nat} {m k : Nat} : k < armL l m ↔ ∀ j, j ≤ k → okAt l m j = true := by
  obtain ⟨_, h2, h3, h4⟩ := lead_spec (p := okAt l m) l.length 0
  constructor
  · intro h j hj
    exact h3 j (Nat.zero_le _) (by unfold armL at h; omega)
  · intro h
    by_cases c : k < armL l m
    · exact c
    · have z : armL l m < 0 + l.length := by
        have := okAt_lt (h k (Nat.le_refl _))
        omega
      have q := h4 z
      rw [h _ (by unfold armL at c; omega)] at q
      cases q
theorem not_armL {l : List Nat} {m : Nat} : okAt l m (armL l m) = false := by
  cases h : okAt l m (armL l m) with
  | false => rfl
  | true =>
    have z : armL l m < armL l m := lt_armL.mpr fun j hj => by
      by_cases c : j = armL l m
      · rw [c]
        exact h
      · exact (lt_armL (k := j)).mp (by omega) j (Nat.le_refl _)
    omega
/-- places i < j and the middle between them -/
theorem pal_arm {l : List Nat} {i j : Nat} (hij : i < j) (hj : j < l.length) : Pal l i j ↔ j < (i + j) / 2 + 1 + armL l (i + j) := by
  have e1 : (i + j + 1) / 2 - (j - ((i + j) / 2 + 1) + 1) = i := by omega
  constructor
  · intro p
    have z : j - ((i + j) / 2 + 1) < armL l (i + j) := lt_armL.mpr fun k hk => okAt_iff.mpr ⟨by omega, by omega, by
      have q := p ((i + j + 1) / 2 - (k + 1)) (by omega) (by omega)
      have e : i + j - ((i + j + 1) / 2 - (k + 1)) = (i + j) / 2 + 1 + k := by omega
      rw [e] at q
      exact q⟩
    omega
  · intro h x a b
    have w := (lt_armL (l := l) (m := i + j) (k := j - ((i + j) / 2 + 1))).mp (by omega)
    by_cases c : x + x < i + j
    · have q := (okAt_of (w ((i + j + 1) / 2 - 1 - x) (by omega))).2.2
      have e2 : (i + j + 1) / 2 - ((i + j + 1) / 2 - 1 - x + 1) = x := by omega
      have e3 : (i + j) / 2 + 1 + ((i + j + 1) / 2 - 1 - x) = i + j - x := by omega
      rw [e2, e3] at q
      exact q
    · by_cases d : x + x = i + j
      · have e : i + j - x = x := by omega
        rw [e]
      · have q := (okAt_of (w (x - ((i + j) / 2 + 1)) (by omega))).2.2
        have e2 : (i + j + 1) / 2 - (x - ((i + j) / 2 + 1) + 1) = i + j - x := by omega
        have e3 : (i + j) / 2 + 1 + (x - ((i + j) / 2 + 1)) = x := by omega
        rw [e2, e3] at q
        exact q.symm
theorem pal_arm' {l : List Nat} {i j : Nat} (hij : i ≤ j + 1) (hj : j < l.length) : Pal l i j ↔ j < (i + j) / 2 + 1 + armL l (i + j) := by
  by_cases c : i < j
  · exact pal_arm c hj
  · exact ⟨fun _ => by omega, fun _ => pal_short (by omega)⟩
theorem cut_arm {l : List Nat} {i j : Nat} (hij : i < j) (hj : j < l.length) : (i + j) / 2 + 1 + armL l (i + j) = j ↔ Pal l (i + 1) (j - 1) ∧ ¬ l[i]? = l[j]? := by
  have z := pal_arm' (l := l) (i := i + 1) (j := j - 1) (by omega) (by omega)
  have e : i + 1 + (j - 1) = i + j := by omega
  rw [e] at z
  have y := pal_arm hij hj
  rw [pal_out hij] at y
  rw [z] at y ⊢
  constructor
  · intro h
    refine ⟨by omega, fun q => ?_⟩
    have := y.mp ⟨by omega, q⟩
    omega
  · intro ⟨h, q⟩
    have w : ¬ j < (i + j) / 2 + 1 + armL l (i + j) := fun v => q (y.mpr v).2
    omega
theorem arms_of (t : List Nat) : Arms t (armL t) := by
  refine ⟨fun i j hij hj => ?_, fun i j hij hj => ?_⟩
  · unfold tie
    rw [decide_eq_true_eq]
    exact (pal_arm hij hj).symm
  · unfold cut
    rw [decide_eq_true_eq]
    exact cut_arm hij hj
/-- texts as long with the same mirror words have the same arms -/
theorem armL_congr {a b : List Nat} (h : a.length = b.length) (p : ∀ i j, i < j → j < a.length → (Pal a i j ↔ Pal b i j)) (m : Nat) : armL a m = armL b m := by
  have ok : ∀ k, (∀ j, j ≤ k → okAt a m j = true) ↔ (∀ j, j ≤ k → okAt b m j = true) := fun k => by
    have half : ∀ (a b : List Nat), a.length = b.length → (∀ i j, i < j → j < a.length → (Pal a i j ↔ Pal b i j)) → (∀ j, j ≤ k → okAt a m j = true) → (∀ j, j ≤ k → okAt b m j = true) := by
      intro a b h p w j hj
      obtain ⟨w1, w2, _⟩ := okAt_of (w j hj)
      have lt : (m + 1) / 2 - (j + 1) < m / 2 + 1 + j := by omega
      have es : (m + 1) / 2 - (j + 1) + (m / 2 + 1 + j) = m := by omega
      have z := (pal_arm lt w2).mpr (by
        rw [es]
        have := (lt_armL (l := a) (m := m) (k := j)).mpr fun i hi => w i (by omega)
        omega)
      have z2 := (pal_arm lt (h ▸ w2)).mp ((p _ _ lt w2).mp z)
      rw [es] at z2
      exact (lt_armL (l := b) (m := m) (k := j)).mp (by omega) j (Nat.le_refl _)
    exact ⟨half a b h p, half b a h.symm fun i j x y => (p i j x (by omega)).symm⟩
  have lt : ∀ k, k < armL a m ↔ k < armL b m := fun k => by rw [lt_armL, lt_armL]; exact ok k
  have h1 := lt (armL a m)
  have h2 := lt (armL b m)
  omega
end Mw
namespace Mw
open PySem PySem.Spec PyProof.Rows L2
def isT : V → Bool
  | .str z => decide (z.length ≤ 200) && (TL.tl z).all az
  | _ => false
inductive Thing (K : PySem.W.Frag) (H : Hp) : V → Prop
  | text (l : List Nat) (h : l.length ≤ sizeLine) : Thing K H (.str (T l))
  | other {x : V} {n : String} (t : TyX K H x (.type n)) (k : kitB n "str" = some false) (no : isT x = false) : Thing K H x
def spIs (K : PySem.W.Frag) (P : Addr) : Sp := fun vs H Q _ => ∃ x, vs = [x] ∧ GxR.TabG H P ∧ Thing K H x ∧ ∀ H', GxR.Tabbed P H H' → Q (.bl (isT x)) H'

def spArmAt : Sp := fun vs H Q _ => ∃ (l : List Nat) (m : Nat), vs = [.str (T l), .int (m : Int)] ∧ l.length ≤ 200 ∧ Q (.int (armL l m : Nat)) H
theorem small200 {n : Nat} (h : n ≤ 200) : n ≤ sizeLine := Nat.le_trans h (by decide)
theorem sgn_dec (a b : Nat) : decide (V.str ⟨#[a]⟩ = V.str ⟨#[b]⟩) = decide (a = b) := by
  have z : decide (V.str (T [a]) = V.str (T [b])) = decide ([a] = [b]) := T_dec [a] [b]
  have e : decide ([a] = [b]) = decide (a = b) := by
    by_cases c : a = b
    · rw [c, decide_eq_true rfl, decide_eq_true rfl]
    · rw [decide_eq_false c, decide_eq_false fun q => c (List.cons.inj q).1]
  exact z.trans e

/-! ### the classes of refusals, as the top has written them -/
structure ErrC (K : PySem.W.Frag) (mg : Str → Option Value) (x : Str) (C : Addr) : Prop where
  g : mg x = some (.ref C)
  x : PySem.W.excIn K C [.type "ValueError", .type "Exception", .type "BaseException", .type "object"] "ValueError.__new__" = true
  k : PySem.W.keepIn K (.ref C) = true
  b : PySem.W.subIn K (.ref C) (.type "BaseException") = some true
  t : PySem.W.typeIn K (.ref C) = some (.type "type")
/-- a def with its promise, and what its callers ask -/
structure Fn (Pr : Program) (w : World) (K : PySem.W.Frag) (mg : Str → Option Value) (base : Heap) (CX : CXT) (k : Nat) (x : Str) (f : Addr) (fd : FuncData) (ps : List Str) (sp : Sp) : Prop where
  ok : FnOk Pr w K mg base CX k f fd ps sp
  g : mg x = some (.ref f)
  k : PySem.W.keepIn K (.ref f) = true
  b : Binds K fd ps []

def nV (n : Nat) : V := .int (n : Int)
def armsL (l : List Nat) : List Nat := (List.range (2 * l.length - 1)).map (armL l)
theorem armsL_len (l : List Nat) : (armsL l).length = 2 * l.length - 1 := by
  unfold armsL
  rw [List.length_map, List.length_range]
theorem armsL_take {l : List Nat} {i : Nat} (h : i < 2 * l.length - 1) : (armsL l).take (i + 1) = (armsL l).take i ++ [armL l i] := by
  rw [List.take_add_one]
  unfold armsL
  rw [List.getElem?_map, List.getElem?_range h]
  rfl


def spArms (K : PySem.W.Frag) (P BT : Addr) : Sp := fun vs H Q E => ∃ x, vs = [x] ∧ GxR.TabG H P ∧ Thing K H x ∧ (isT x = false → ∀ H', GxR.Tabbed P H H' → E (.ref BT) none H') ∧
  (isT x = true → ∀ l, x = .str (T l) → l.length ≤ 200 → ∀ H' p, Kp P H H' → H p = none → H' p = some (.lst ((armsL l).map nV)) → Q (.ref p) H')

def spDraw (K : PySem.W.Frag) : Sp := fun vs H Q _ => ∃ (a : Addr) (ns : List Int) (k : Nat), vs = [.ref a, .int (k : Int)] ∧ SqL K H a (ns.map V.int) ∧ Q (.int (ns.getD k 0)) H

theorem cut_len (xs : List V) (a b : Nat) : (cutV xs (some (a : Int)) (some ((a : Int) + (b : Int)))).length ≤ b := by
  unfold cutV
  have e : ((a : Int) + (b : Int)) = ((a + b : Nat) : Int) := by omega
  rw [e, HT.sIx_nat, HT.sIx_nat, List.length_take, List.length_drop]
  omega
theorem cut_map (ns : List Int) (lo hi : Option Int) : ∃ ms : List Int, cutV (ns.map V.int) lo hi = ms.map V.int := by
  unfold cutV
  exact ⟨(ns.drop (HT.sIx (ns.map V.int).length 0 lo)).take (HT.sIx (ns.map V.int).length (ns.map V.int).length hi - HT.sIx (ns.map V.int).length 0 lo), by rw [List.map_take, List.map_drop]⟩
theorem cutS_T (l : List Nat) (lo hi : Option Int) : cutS (T l) lo hi = T ((l.drop (HT.sIx l.length 0 lo)).take (HT.sIx l.length l.length hi - HT.sIx l.length 0 lo)) := by
  unfold cutS
  rw [T_len]
  rfl
theorem cutS_all {l : List Nat} (h : l.all az = true) (lo hi : Option Int) : ∃ m : List Nat, cutS (T l) lo hi = T m ∧ m.all az = true ∧ m.length ≤ l.length := by
  refine ⟨_, cutS_T l lo hi, ?_, ?_⟩
  · rw [List.all_eq_true] at h ⊢
    exact fun c hc => h c (List.mem_of_mem_drop (List.mem_of_mem_take hc))
  · rw [List.length_take, List.length_drop]
    omega
theorem join_signs (cs : List Nat) : Txt.join (Str.ofString "") (cs.map fun c => T [c]) = T cs := by
  refine TL.ext_tl ?_
  rw [TL.join_eq, TL.tl_join, tl_T]
  have e : TL.tl (Str.ofString "") = [] := rfl
  rw [e]
  induction cs with
  | nil => rfl
  | cons c r ih =>
    cases r with
    | nil => rfl
    | cons d r =>
      show [c] ++ ([] ++ TL.joinL [] (((d :: r).map fun c => T [c]).map TL.tl)) = c :: d :: r
      rw [ih]
      rfl
theorem abc : TL.tl (Str.ofString "abcdefghijklmnopqrstuvwxyz") = (List.range 26).map (97 + ·) := by decide +kernel
theorem abc_at {j : Nat} (h : j < 26) : atI (Str.ofString "abcdefghijklmnopqrstuvwxyz").cps.toList (j : Int) = some (97 + j) := by
  refine atI_nat ?_
  show (TL.tl (Str.ofString "abcdefghijklmnopqrstuvwxyz"))[j]? = _
  rw [abc, List.getElem?_map, List.getElem?_range h]
  rfl
theorem mod26 (i : Int) : ∃ j : Nat, i.fmod 26 = (j : Int) ∧ j < 26 := by
  refine ⟨(i % 26).toNat, ?_, ?_⟩
  · rw [Int.fmod_eq_emod_of_nonneg _ (by decide)]
    omega
  · omega
theorem mod6 (i : Int) : ∃ j : Nat, i.fmod 6 = (j : Int) ∧ j < 6 := by
  refine ⟨(i % 6).toNat, ?_, ?_⟩
  · rw [Int.fmod_eq_emod_of_nonneg _ (by decide)]
    omega
  · omega
theorem all_app {a b : List Nat} (h1 : a.all az = true) (h2 : b.all az = true) : (a ++ b).all az = true := by
  rw [List.all_append, h1, h2]
  rfl
theorem all_rev {a : List Nat} (h1 : a.all az = true) : a.reverse.all az = true := by
  rw [List.all_reverse]
  exact h1
theorem all_rep {a : List Nat} (h1 : a.all az = true) : ∀ n, (List.replicate n a).flatten.all az = true
  | 0 => rfl
  | n + 1 => by
    rw [List.replicate_succ, List.flatten_cons]
    exact all_app h1 (all_rep h1 n)
theorem same_upd {H : Hp} {p : Addr} {o : HO} (h : H p = none) : Same H (upd H p o) := fun b x e => by
  rw [upd_ne (ne_of_none e h)]
  exact e

theorem cut_to (l : List Nat) (k : Nat) : cutS (T l) none (some (k : Int)) = T (l.take k) := by
  rw [cutS_T, HT.sIx_none, HT.sIx_nat, List.drop_zero, Nat.sub_zero]
  congr 1
  by_cases h : k ≤ l.length
  · rw [Nat.min_eq_left h]
  · rw [Nat.min_eq_right (by omega), List.take_of_length_le (Nat.le_refl _), List.take_of_length_le (by omega)]
theorem half_of (n : Nat) : ((n : Int)).fdiv 2 = ((n / 2 : Nat) : Int) := by
  rw [Int.fdiv_eq_ediv_of_nonneg _ (by decide)]
  omega
theorem all_take {l : List Nat} (h : l.all az = true) (k : Nat) : (l.take k).all az = true := by
  rw [List.all_eq_true] at h ⊢
  exact fun c hc => h c (List.mem_of_mem_take hc)


def spText (K : PySem.W.Frag) : Sp := fun vs H Q _ => ∃ (a : Addr) (ns : List Int) (i n : Nat), vs = [.ref a, .int (i : Int), .int (n : Int)] ∧ SqL K H a (ns.map V.int) ∧ n ≤ 100 ∧
  ∀ H' l, Same H H' → l.all az = true → l.length ≤ n + 1 → Q (.str (T l)) H'

/-! ### lists of numbers compared -/
theorem dp_ints {K : PySem.W.Frag} {H : Hp} : ∀ xs : List Nat, DpAll K H (xs.map nV) (xs.map fun n : Nat => PyData.int (n : Int))
  | [] => .nil
  | x :: r => .cons (.int _) (dp_ints r)
theorem eqv_ints : ∀ xs : List Nat, PyData.eqvAll (xs.map fun n : Nat => PyData.int (n : Int)) (xs.map fun n : Nat => PyData.int (n : Int)) = true
  | [] => rfl
  | x :: r => by
    show (((x : Int) == (x : Int)) && PyData.eqvAll _ _) = true
    rw [beq_self_eq_true, eqv_ints r]
    rfl
theorem eqv_lists (xs : List Nat) : PyData.eqv (.list (xs.map fun n : Nat => PyData.int (n : Int))) (.list (xs.map fun n : Nat => PyData.int (n : Int))) = true := eqv_ints xs
theorem shaped_nats (xs : List Nat) : SeqAt.shaped (.list (xs.map fun n : Nat => PyData.int (n : Int))) = true := by
  have z := PySem.W.shaped_ints (xs.map fun n : Nat => (n : Int))
  rw [List.map_map] at z
  exact z
theorem Thing.str {K : PySem.W.Frag} {H : Hp} (z : Str) (h : z.length ≤ sizeLine) : Thing K H (.str z) := by
  have e : Thing K H (.str (T (TL.tl z))) := .text _ (by rw [← TL.len_tl]; exact h)
  rw [T_tl] at e
  exact e
theorem isT_az {l : List Nat} (h : l.all az = true) (hl : l.length ≤ 200) : isT (.str (T l)) = true := by
  show (decide ((T l).length ≤ 200) && l.all az) = true
  rw [T_len, decide_eq_true hl, h]
  rfl
def odds (p1 p2 p3 : Addr) : List V := [.str "A", .str "a a", .str "\n", .non, .int 5, .bl true, .ref p1, .ref p2, .ref p3, .str (T (List.replicate 201 [97]).flatten), .str "a{", .str "a1"]
theorem odd_at {K : PySem.W.Frag} {H : Hp} {p1 p2 p3 : Addr} {xs ys : List V} {kvs : List (Key × V)} (h1 : H p1 = some (.lst xs)) (h2 : H p2 = some (.tup ys)) (h3 : H p3 = some (.dK kvs)) :
    ∀ j, j < 12 → ∃ x, (odds p1 p2 p3)[j]? = some x ∧ isT x = false ∧ Thing K H x
  | 0, _ => ⟨_, rfl, by decide +kernel, .str _ (by decide +kernel)⟩
  | 1, _ => ⟨_, rfl, by decide +kernel, .str _ (by decide +kernel)⟩
  | 2, _ => ⟨_, rfl, by decide +kernel, .str _ (by decide +kernel)⟩
  | 3, _ => ⟨_, rfl, rfl, .other (.base .non) (by decide +kernel) rfl⟩
  | 4, _ => ⟨_, rfl, rfl, .other (.base (.int _)) (by decide +kernel) rfl⟩
  | 5, _ => ⟨_, rfl, rfl, .other (.base (.bl _)) (by decide +kernel) rfl⟩
  | 6, _ => ⟨_, rfl, rfl, .other (.base (.lst h1)) (by decide +kernel) rfl⟩
  | 7, _ => ⟨_, rfl, rfl, .other (.base (.tup h2)) (by decide +kernel) rfl⟩
  | 8, _ => ⟨_, rfl, rfl, .other (.base (.dK h3)) (by decide +kernel) rfl⟩
  | 9, _ => ⟨_, rfl, by decide +kernel, .str _ (by decide +kernel)⟩
  | 10, _ => ⟨_, rfl, by decide +kernel, .str _ (by decide +kernel)⟩
  | 11, _ => ⟨_, rfl, by decide +kernel, .str _ (by decide +kernel)⟩
  | n + 12, h => absurd h (by omega)
theorem mod12 (i : Int) : ∃ j : Nat, i.fmod 12 = (j : Int) ∧ j < 12 := by
  refine ⟨(i % 12).toNat, ?_, ?_⟩
  · rw [Int.fmod_eq_emod_of_nonneg _ (by decide)]
    omega
  · omega


def spRef (K : PySem.W.Frag) (P : Addr) : Sp := fun vs H Q _ => ∃ x, vs = [x] ∧ GxR.TabG H P ∧ Thing K H x ∧ isT x = false ∧ ∀ H', Kp P H H' → Q (.bl true) H'
theorem Kp.tabL {P : Addr} {H H' : Hp} (k : Kp P H H') : GxR.TabG H' P := k.tab

def isM : V → Bool
  | .str z => isT (.str z) && (decide (0 < z.length) && decide (TL.tl z = (TL.tl z).reverse))
  | _ => false
def pal (l : List Nat) : Bool := decide (l = l.reverse)
theorem isM_T (l : List Nat) : isM (.str (T l)) = (isT (.str (T l)) && (decide (0 < l.length) && pal l)) := by
  show (isT (.str (T l)) && (decide (0 < (T l).length) && decide (l = l.reverse))) = _
  rw [T_len]
  rfl
theorem isM_isT {x : V} (h : isM x = true) : isT x = true := by
  cases x with
  | str z => exact ((Bool.and_eq_true _ _).mp h).1
  | _ => cases h
theorem isT_le {l : List Nat} (h : isT (.str (T l)) = true) : l.length ≤ 200 := by
  have z1 := of_decide_eq_true ((Bool.and_eq_true _ _).mp h).1
  rw [T_len] at z1
  exact z1
theorem isT_all {l : List Nat} (h : isT (.str (T l)) = true) : l.all az = true := ((Bool.and_eq_true _ _).mp h).2
theorem isT_mk {l : List Nat} (h : l.all az = true) (hl : l.length ≤ 200) : isT (.str (T l)) = true := by
  show (decide ((T l).length ≤ 200) && l.all az) = true
  rw [T_len, decide_eq_true hl, h]
  rfl
theorem isM_some {x : V} (h : isM x = true) : ∃ l, x = .str (T l) ∧ l.length ≤ 200 ∧ 0 < l.length ∧ pal l = true ∧ l.all az = true := by
  cases x with
  | str z =>
    have ht := isM_isT h
    have e : z = T (TL.tl z) := (T_tl z).symm
    rw [e] at h ht
    refine ⟨TL.tl z, by rw [← e], isT_le ht, ?_⟩
    rw [isM_T, Bool.and_eq_true, Bool.and_eq_true] at h
    exact ⟨of_decide_eq_true h.2.1, h.2.2, isT_all ht⟩
  | _ => cases h

def sV (l : List Nat) : V := .str (T l)
/-- the mirror words at the end of l that begin ahead of i, the longest first -/
def endsN (l : List Nat) (i : Nat) : List (List Nat) := ((List.range i).map fun j => l.drop j).filter pal
theorem endsN_succ (l : List Nat) (i : Nat) : endsN l (i + 1) = endsN l i ++ if pal (l.drop i) = true then [l.drop i] else [] := by
  unfold endsN
  rw [List.range_succ, List.map_append, List.filter_append]
  congr 1
  by_cases h : pal (l.drop i) = true
  · rw [if_pos h, List.map_singleton, List.filter_cons_of_pos h]
    rfl
  · rw [if_neg h, List.map_singleton, List.filter_cons_of_neg h]
    rfl
theorem endsN_len (l : List Nat) (i : Nat) : (endsN l i).length ≤ i := by
  unfold endsN
  refine Nat.le_trans (List.length_filter_le _ _) ?_
  rw [List.length_map, List.length_range]
  exact Nat.le_refl _
theorem endsN_head {l : List Nat} (h : pal l = true) : ∀ i, 0 < i → ∃ r, endsN l i = l :: r
  | 0, z => absurd z (Nat.lt_irrefl _)
  | 1, _ => ⟨[], by
      rw [endsN_succ]
      show [] ++ (if pal (l.drop 0) = true then [l.drop 0] else []) = [l]
      rw [List.drop_zero, if_pos h]
      rfl⟩
  | i + 2, _ => by
    obtain ⟨r, e⟩ := endsN_head h (i + 1) (Nat.succ_pos _)
    rw [endsN_succ, e]
    exact ⟨_, rfl⟩
def tailL (l : List Nat) : List Nat := (endsN l l.length ++ [[]]).getD 1 []
theorem cut_from (l : List Nat) (i : Nat) : cutS (T l) (some (i : Int)) none = T (l.drop i) := by
  rw [cutS_T, HT.sIx_none, HT.sIx_nat]
  congr 1
  by_cases h : i ≤ l.length
  · rw [Nat.min_eq_left h]
    exact List.take_of_length_le (by rw [List.length_drop]; exact Nat.le_refl _)
  · rw [Nat.min_eq_right (by omega), Nat.sub_self, List.take_zero, List.drop_eq_nil_of_le (by omega)]

def spAlike : Sp := fun vs H Q _ => ∃ l : List Nat, vs = [.str (T l)] ∧ l.length ≤ sizeLine ∧ Q (.bl (pal l)) H
def spMir (K : PySem.W.Frag) (P : Addr) : Sp := fun vs H Q _ => ∃ x, vs = [x] ∧ GxR.TabG H P ∧ Thing K H x ∧ ∀ H', GxR.Tabbed P H H' → Q (.bl (isM x)) H'
def spNoM (K : PySem.W.Frag) (P BW : Addr) : Sp := fun vs H Q E => ∃ x, vs = [x] ∧ GxR.TabG H P ∧ Thing K H x ∧ (isM x = false → ∀ H', GxR.Tabbed P H H' → E (.ref BW) none H') ∧ (isM x = true → ∀ H', GxR.Tabbed P H H' → Q .non H')

end Mw
namespace Mw
open PySem PySem.Spec PyProof.Rows L2
def spNoT (K : PySem.W.Frag) (P BT : Addr) : Sp := fun vs H Q E => ∃ x, vs = [x] ∧ GxR.TabG H P ∧ Thing K H x ∧ (isT x = false → ∀ H', GxR.Tabbed P H H' → E (.ref BT) none H') ∧ (isT x = true → ∀ H', GxR.Tabbed P H H' → Q .non H')
end Mw
namespace Mw
open PySem PySem.Spec PyProof.Rows L2

/-! ### min of texts -/
theorem best_txt (f : Nat → List Nat) : ∀ k, argBest (fun i j => decide (f i < f j)) k ≤ k ∧ ∀ j, j ≤ k → ¬ f j < f (argBest (fun i j => decide (f i < f j)) k)
  | 0 => ⟨Nat.le_refl _, fun j hj => by
    have e : j = 0 := by omega
    rw [e]
    exact List.lt_irrefl _⟩
  | k + 1 => by
    obtain ⟨h1, h2⟩ := best_txt f k
    simp only [argBest]
    by_cases hc : f (k + 1) < f (argBest (fun i j => decide (f i < f j)) k)
    · rw [if_pos (by simpa using hc)]
      refine ⟨Nat.le_refl _, fun j hj z => ?_⟩
      by_cases e : j = k + 1
      · rw [e] at z
        exact List.lt_irrefl _ z
      · exact h2 j (by omega) (List.lt_trans z hc)
    · rw [if_neg (by simpa using hc)]
      refine ⟨by omega, fun j hj z => ?_⟩
      by_cases e : j = k + 1
      · rw [e] at z
        exact hc z
      · exact h2 j (by omega) z
theorem vals_txt : ∀ {ts : List (List Nat)} {us : List Value}, Vals (ts.map sV) us → us.length = ts.length ∧ ∀ (i : Nat) (v : Value), us[i]? = some v → ∃ l t, ts[i]? = some l ∧ v = Value.str (T l) t
  | [], _, .nil => ⟨rfl, fun i v h => by simp at h⟩
  | l :: r, _, .cons x y => by
    obtain ⟨t, rfl⟩ := x
    obtain ⟨h1, h2⟩ := vals_txt y
    refine ⟨by rw [List.length_cons, List.length_cons, h1], fun i v h => ?_⟩
    cases i with
    | zero => exact ⟨l, t, rfl, (Option.some.inj h).symm⟩
    | succ i => exact h2 i v h
def rMinS (K : PySem.W.Frag) : List V → Hp → VK → Prop := fun vs H Q => ∃ (a : Addr) (ts : List (List Nat)), vs = [V.ref a] ∧ SqL K H a (ts.map sV) ∧ ts ≠ [] ∧ ∀ m, m ∈ ts → (∀ y, y ∈ ts → ¬ y < m) → Q (sV m) H
theorem cr_minS {X : Cx} (hc : X.calm = true) : CallR X (.builtin "min") (rMinS X.K) := by
  intro pins s σ H vs us Q I r h
  obtain ⟨a, ts, rfl, hs, hne, q⟩ := h
  obtain ⟨its, rv, hl, _⟩ := I.list hs
  rw [Vals.ref1 r]
  obtain ⟨hlen, hat⟩ := vals_txt rv
  have hpos : 0 < ts.length := List.length_pos_iff.mpr hne
  refine call_min_walkH (PySem.W.iter_listW (A := X.A.in1) (I.ok.hd hc) hl.isList fun s₂ e W st hfp hw hk => ?_)
  have hsz : its.toArray.size = ts.length := hlen
  refine ⟨_, _, _, _, _, _, _, s.heap, fun i j => decide (ts.getD i [] < ts.getD j []), rfl, W, st, hfp, by rw [hsz]; exact hpos, hw, hk, ?_, fun v s' hP m => ?_⟩
  · intro i j vi vj s3 Q3 E3 _ hi hj hQ
    obtain ⟨li, ti, e1, rfl⟩ := hat i vi (by simpa using hi)
    obtain ⟨lj, tj, e2, rfl⟩ := hat j vj (by simpa using hj)
    refine PySem.P.lt_str ?_
    have hQ : Q3 (Value.bool (decide (ts.getD i [] < ts.getD j []))) s3 := hQ
    rw [List.getD_eq_getElem?_getD, List.getD_eq_getElem?_getD, e1, e2] at hQ
    exact hQ
  · obtain ⟨h', tk, rfl, hk'⟩ := PySem.W.moved_old e rfl m
    obtain ⟨b1, b2⟩ := best_txt (fun i => ts.getD i []) (its.toArray.size - 1)
    have hP : its[argBest (fun i j => decide (ts.getD i [] < ts.getD j [])) (its.toArray.size - 1)]? = some v := by
      rw [List.getElem?_toArray] at hP
      exact hP
    generalize argBest (fun i j => decide (ts.getD i [] < ts.getD j [])) (its.toArray.size - 1) = k at *
    obtain ⟨l, t, e1, rfl⟩ := hat k v hP
    have e2 : ts.getD k [] = l := by
      rw [List.getD_eq_getElem?_getD, e1]
      rfl
    refine ⟨sV l, H, I.kept hk', ⟨t, rfl⟩, q l (List.mem_of_getElem? e1) fun y hy => ?_⟩
    obtain ⟨j, hj, ej⟩ := List.getElem_of_mem hy
    have z := b2 j (by omega)
    rw [e2] at z
    have e3 : ts.getD j [] = y := by
      rw [List.getD_eq_getElem?_getD, List.getElem?_eq_getElem hj, ej]
      rfl
    rw [e3] at z
    exact z
end Mw
namespace Mw
theorem gr_getD' {R : Nat → Nat} {n i : Nat} (h : i < n) : (gr R n)[i]? = some (nxt R (gr R i)) := gr_at h
/-! ### no text with these arms is less -/
theorem find_le {p : Nat → Bool} : ∀ {l : List Nat} {c x : Nat}, l.Pairwise (· ≤ ·) → l.find? p = some c → x ∈ l → p x = true → c ≤ x
  | a :: r, c, x, hp, h, hx, px => by
    rw [List.pairwise_cons] at hp
    rw [List.find?_cons] at h
    cases q : p a with
    | true =>
      rw [q] at h
      have e : a = c := Option.some.inj h
      rcases List.mem_cons.mp hx with z | z
      · omega
      · have := hp.1 x z
        omega
    | false =>
      rw [q] at h
      rcases List.mem_cons.mp hx with z | z
      · rw [← z, px] at q
        cases q
      · exact find_le hp.2 h z px
theorem abcL_sorted : abcL.Pairwise (· ≤ ·) := by decide
theorem mem_abcL {c : Nat} : c ∈ abcL ↔ 97 ≤ c ∧ c ≤ 122 := by
  unfold abcL
  rw [List.mem_map]
  constructor
  · rintro ⟨a, h, e⟩
    have := List.mem_range.mp h
    omega
  · intro h
    exact ⟨c - 97, List.mem_range.mpr (by omega), by omega⟩
/-- the next letter of a text with these arms is no less -/
theorem nxt_le {u : List Nat} {R : Nat → Nat} (A : Arms u R) (az : ∀ c ∈ u, c ∈ abcL) {p v : Nat} (hp : u.take p = gr R p) (hv : u[p]? = some v) : nxt R (gr R p) ≤ v ∧ ∀ i, i < p → tie R i p = true → nxt R (gr R p) = v := by
  have lt : p < u.length := (List.getElem?_eq_some_iff.mp hv).1
  have eu : ∀ i, i < p → (gr R p).getD i 0 = u.getD i 0 := fun i hi => by
    rw [← hp, List.getD_eq_getElem?_getD, List.getD_eq_getElem?_getD, List.getElem?_take_of_lt hi]
  have ug : ∀ i, i < u.length → u[i]? = some (u.getD i 0) := fun i hi => by
    rw [List.getD_eq_getElem?_getD, List.getElem?_eq_getElem hi]
    rfl
  cases hf : (List.range p).find? fun i => tie R i p with
  | some q =>
    obtain ⟨hq, htq, _⟩ := first_tied hf
    have z := ((pal_out hq).mp ((A.tie q p hq lt).mp htq)).2
    rw [hv, ug q (by omega)] at z
    have e : nxt R (gr R p) = v := by
      rw [nxt_tied hf, eu q hq]
      exact Option.some.inj z
    exact ⟨by omega, fun _ _ _ => e⟩
  | none =>
    refine ⟨?_, fun i hi h => by rw [none_tied hf i hi] at h; cases h⟩
    rw [nxt_free hf]
    have vin := az v (List.mem_of_getElem? hv)
    have vnot : ¬ v ∈ barred R (gr R p) p := fun w => by
      obtain ⟨i, hi, hc, e⟩ := mem_barred.mp w
      have z := ((A.cut i p hi lt).mp hc).2
      rw [hv, ug i (by omega)] at z
      rw [eu i hi] at e
      exact z (by rw [e])
    cases hs : abcL.find? fun c => !(barred R (gr R p) p).contains c with
    | none => exact Nat.zero_le _
    | some c => exact find_le abcL_sorted hs vin (by simpa using vnot)
theorem gr_least {u : List Nat} {R : Nat → Nat} (A : Arms u R) (az : ∀ c ∈ u, c ∈ abcL) : ¬ u < gr R u.length := by
  intro h
  rcases List.lt_iff_exists.mp h with ⟨_, z⟩ | ⟨i, h1, h2, he, hl⟩
  · rw [gr_len] at z
    omega
  · have pre : u.take i = gr R i := by
      rw [← gr_take (R := R) (q := i) (p := u.length) (by omega)]
      refine List.ext_getElem? fun j => ?_
      by_cases c : j < i
      · rw [List.getElem?_take_of_lt c, List.getElem?_take_of_lt c, List.getElem?_eq_getElem (by omega), List.getElem?_eq_getElem (by rw [gr_len]; omega), he j c]
      · rw [List.getElem?_eq_none (by rw [List.length_take]; omega), List.getElem?_eq_none (by rw [List.length_take]; omega)]
    have z := (nxt_le A az pre (List.getElem?_eq_getElem h1)).1
    have e := gr_at (R := R) (i := i) (p := u.length) h1
    rw [List.getElem?_eq_getElem h2] at e
    have := Option.some.inj e
    omega
theorem nodup_sub : ∀ {l m : List Nat}, l.Nodup → (∀ c ∈ l, c ∈ m) → l.length ≤ m.length
  | [], m, _, _ => Nat.zero_le _
  | a :: r, m, hn, hs => by
    rw [List.nodup_cons] at hn
    obtain ⟨s, t, rfl⟩ := List.append_of_mem (hs a List.mem_cons_self)
    have z := nodup_sub (l := r) (m := s ++ t) hn.2 fun c hc => by
      have q := hs c (List.mem_cons_of_mem _ hc)
      rw [List.mem_append, List.mem_cons] at q
      rw [List.mem_append]
      rcases q with q | q | q
      · exact .inl q
      · exact absurd (q ▸ hc) hn.1
      · exact .inr q
    rw [List.length_append] at z ⊢
    rw [List.length_cons, List.length_cons]
    omega
/-- few places: a letter is left -/
theorem few_left {R : Nat → Nat} {n : Nat} (h : n ≤ 26) : Left R n := by
  intro p hp _
  cases hs : abcL.find? fun c => !(barred R (gr R p) p).contains c with
  | some c => exact ⟨c, rfl⟩
  | none =>
    exfalso
    have all : ∀ c ∈ abcL, c ∈ barred R (gr R p) p := fun c hc => by
      have z := List.find?_eq_none.mp hs c hc
      simpa using z
    have l1 : (barred R (gr R p) p).length ≤ p := by
      unfold barred
      rw [List.length_map]
      exact Nat.le_trans (List.length_filter_le _ _) (by rw [List.length_range]; exact Nat.le_refl _)
    have l2 : abcL.length ≤ (barred R (gr R p) p).length := nodup_sub (by decide) all
    have : abcL.length = 26 := by decide
    omega

/-! ### the first place that is tied to each -/
def rl (R : Nat → Nat) : Nat → List Nat
  | 0 => []
  | p + 1 => rl R p ++ [match (List.range p).find? fun i => tie R i p with
    | some i => (rl R p).getD i 0
    | none => p]
def rt (R : Nat → Nat) (p : Nat) : Nat := match (List.range p).find? fun i => tie R i p with
    | some i => (rl R p).getD i 0
    | none => p
theorem rl_len (R : Nat → Nat) : ∀ p, (rl R p).length = p
  | 0 => rfl
  | p + 1 => by
    show (rl R p ++ [_]).length = p + 1
    rw [List.length_append, rl_len R p]
    rfl
theorem rl_at {R : Nat → Nat} {i : Nat} : ∀ {p : Nat}, i < p → (rl R p)[i]? = some (rt R i)
  | p + 1, h => by
    show (rl R p ++ [_])[i]? = _
    by_cases c : i = p
    · rw [c, List.getElem?_append_right (by rw [rl_len]; exact Nat.le_refl _), rl_len, Nat.sub_self]
      rfl
    · rw [List.getElem?_append_left (by rw [rl_len]; omega)]
      exact rl_at (by omega)
theorem rt_tied {R : Nat → Nat} {p i : Nat} (h : ((List.range p).find? fun i => tie R i p) = some i) : rt R p = rt R i := by
  have e : rt R p = (rl R p).getD i 0 := by
    unfold rt
    rw [h]
  rw [e, List.getD_eq_getElem?_getD, rl_at (first_tied h).1]
  rfl
theorem rt_free {R : Nat → Nat} {p : Nat} (h : ((List.range p).find? fun i => tie R i p) = none) : rt R p = p := by
  unfold rt
  rw [h]
theorem rt_le (R : Nat → Nat) (p : Nat) : rt R p ≤ p := by
  induction p using Nat.strongRecOn with
  | ind p ih =>
    cases h : (List.range p).find? fun i => tie R i p with
    | some i =>
      have z := (first_tied h).1
      rw [rt_tied h]
      have := ih i z
      omega
    | none =>
      rw [rt_free h]
      exact Nat.le_refl _
theorem rt_rt (R : Nat → Nat) (p : Nat) : rt R (rt R p) = rt R p := by
  induction p using Nat.strongRecOn with
  | ind p ih =>
    cases h : (List.range p).find? fun i => tie R i p with
    | some i =>
      rw [rt_tied h]
      exact ih i (first_tied h).1
    | none => rw [rt_free h, rt_free h]
theorem gr_rt {R : Nat → Nat} {n p : Nat} (hp : p < n) : (gr R n)[p]? = (gr R n)[rt R p]? := by
  induction p using Nat.strongRecOn with
  | ind p ih =>
    cases h : (List.range p).find? fun i => tie R i p with
    | some i =>
      have z := (first_tied h).1
      rw [rt_tied h, ← ih i z (by omega), gr_at hp, gr_at (by omega), nxt_tied h, gr_getD z]
    | none => rw [rt_free h]
theorem edge_rt {t : List Nat} {R : Nat → Nat} (A : Arms t R) : ∀ p, p < t.length → ∀ i, i < p → Pal t i p → rt R i = rt R p := by
  intro p
  induction p using Nat.strongRecOn with
  | ind p ih =>
    intro hp i hi hP
    cases h : (List.range p).find? fun i => tie R i p with
    | none =>
      have z := (A.tie i p hi hp).mpr hP
      rw [none_tied h i hi] at z
      cases z
    | some q =>
      obtain ⟨hq, htq, hmin⟩ := first_tied h
      rw [rt_tied h]
      have hPq := (A.tie q p hq hp).mp htq
      by_cases c : i < q
      · have z := hmin i c
        rw [(A.tie i p hi hp).mpr hP] at z
        cases z
      · by_cases d : i = q
        · rw [d]
        · -- the other end within the mirror word between q and p
          have z1 := pal_turn' (i := i) (j := p) hPq (by omega) (Nat.le_refl _) hP
          have e1 : q + p - p = q := by omega
          rw [e1] at z1
          have r1 : rt R q = rt R (q + p - i) := ih (q + p - i) (by omega) (by omega) q (by omega) z1
          rw [r1]
          rcases Nat.lt_trichotomy i (q + p - i) with g | g | g
          · have z2 := pal_mid hPq (i - q) (by omega)
            have e2 : q + (i - q) = i := by omega
            have e3 : p - (i - q) = q + p - i := by omega
            rw [e2, e3] at z2
            exact ih (q + p - i) (by omega) (by omega) i g z2
          · rw [← g]
          · have z2 := pal_mid hPq (p - i) (by omega)
            have e2 : q + (p - i) = q + p - i := by omega
            have e3 : p - (p - i) = i := by omega
            rw [e2, e3] at z2
            exact (ih i hi (by omega) (q + p - i) g z2).symm

/-! ### marks told again and again -/
structure MarkI (R : Nat → Nat) (n : Nat) (M : List Nat) : Prop where
  len : M.length = n
  ok : ∀ x, x < n → ∃ v, M[x]? = some v ∧ v ≤ x ∧ rt R v = rt R x
theorem MarkI.start (R : Nat → Nat) (n : Nat) : MarkI R n (List.range n) := ⟨List.length_range, fun x hx => ⟨x, List.getElem?_range hx, Nat.le_refl _, rfl⟩⟩
theorem MarkI.ge {R : Nat → Nat} {n : Nat} {M : List Nat} (I : MarkI R n M) {x v : Nat} (h : M[x]? = some v) : rt R x ≤ v ∧ v ≤ x := by
  have hx : x < n := by
    rw [← I.len]
    exact (List.getElem?_eq_some_iff.mp h).1
  obtain ⟨u, e, h1, h2⟩ := I.ok x hx
  rw [h] at e
  cases e
  refine ⟨?_, h1⟩
  rw [← h2]
  exact rt_le R v
def mset (M : List Nat) (l r v : Nat) : List Nat := (M.set l v).set r v
theorem mset_at {M : List Nat} {l r v x : Nat} (hl : l < M.length) (hr : r < M.length) : (mset M l r v)[x]? = if x = l ∨ x = r then some v else M[x]? := by
  unfold mset
  rw [List.getElem?_set]
  by_cases c : r = x
  · rw [if_pos c, if_pos (by rw [List.length_set]; exact hr), if_pos (.inr c.symm)]
  · rw [if_neg c, List.getElem?_set]
    by_cases d : l = x
    · rw [if_pos d, if_pos hl, if_pos (.inl d.symm)]
    · rw [if_neg d, if_neg fun z => z.elim (fun z => d z.symm) fun z => c z.symm]
theorem MarkI.step {R : Nat → Nat} {n : Nat} {M : List Nat} (I : MarkI R n M) {l r a b : Nat} (hl : M[l]? = some a) (hr : M[r]? = some b) (e : rt R l = rt R r) : MarkI R n (mset M l r (min a b)) ∧
    (∀ x, M[x]? = some (rt R x) → (mset M l r (min a b))[x]? = some (rt R x)) ∧ (M[l]? = some (rt R l) → (mset M l r (min a b))[r]? = some (rt R r)) := by
  have ll := (List.getElem?_eq_some_iff.mp hl).1
  have lr := (List.getElem?_eq_some_iff.mp hr).1
  obtain ⟨a1, a2⟩ := I.ge hl
  obtain ⟨b1, b2⟩ := I.ge hr
  have ra : rt R a = rt R l := by
    obtain ⟨u, q, _, h⟩ := I.ok l (I.len ▸ ll)
    rw [hl] at q
    cases q
    exact h
  have rb : rt R b = rt R r := by
    obtain ⟨u, q, _, h⟩ := I.ok r (I.len ▸ lr)
    rw [hr] at q
    cases q
    exact h
  have rm : rt R (min a b) = rt R l := by
    rcases Nat.le_total a b with h | h
    · rw [Nat.min_eq_left h, ra]
    · rw [Nat.min_eq_right h, rb, e]
  refine ⟨⟨by unfold mset; rw [List.length_set, List.length_set, I.len], fun x hx => ?_⟩, fun x hx => ?_, fun h => ?_⟩
  · rw [mset_at ll lr]
    by_cases c : x = l ∨ x = r
    · rw [if_pos c]
      refine ⟨_, rfl, ?_, ?_⟩
      · rcases c with c | c <;> omega
      · rcases c with c | c
        · rw [rm, c]
        · rw [rm, c, e]
    · rw [if_neg c]
      exact I.ok x hx
  · rw [mset_at ll lr]
    by_cases c : x = l ∨ x = r
    · rw [if_pos c]
      congr 1
      rcases c with c | c
      · subst c
        rw [hl] at hx
        have := Option.some.inj hx
        omega
      · subst c
        rw [hr] at hx
        have := Option.some.inj hx
        omega
    · rw [if_neg c]
      exact hx
  · rw [mset_at ll lr, if_pos (.inr rfl)]
    rw [hl] at h
    have := Option.some.inj h
    congr 1
    omega
/-- within turn k, ahead of the middle m's step s -/
structure Turn (R : Nat → Nat) (n k m s : Nat) (M : List Nat) : Prop where
  I : MarkI R n M
  done : ∀ x, x < k → x < n → M[x]? = some (rt R x)
  seen : ∀ i, ((List.range k).find? fun i => tie R i k) = some i → k < n → i + k < m ∨ (i + k = m ∧ k < m / 2 + 1 + s) → M[k]? = some (rt R k)
theorem Turn.first {R : Nat → Nat} {n : Nat} : Turn R n 0 0 0 (List.range n) := ⟨.start R n, fun x h _ => absurd h (by omega), fun i h _ _ => by cases h⟩
theorem Turn.next {R : Nat → Nat} {n k : Nat} {M : List Nat} (T : Turn R n k (2 * n - 1) 0 M) (hk : k < n) : Turn R n (k + 1) 0 0 M := by
  refine ⟨T.I, fun x hx hn => ?_, fun i h _ z => by omega⟩
  by_cases c : x < k
  · exact T.done x c hn
  · have e : x = k := by omega
    subst e
    cases h : (List.range x).find? fun i => tie R i x with
    | some i =>
      have := (first_tied h).1
      exact T.seen i h hn (.inl (by omega))
    | none =>
      obtain ⟨v, hv, h1, h2⟩ := T.I.ok x hn
      have := (T.I.ge hv).1
      rw [rt_free h] at this ⊢
      rw [hv]
      congr 1
      omega
theorem Turn.mid {R : Nat → Nat} {n k m : Nat} {M : List Nat} (T : Turn R n k m (R m) M) : Turn R n k (m + 1) 0 M := by
  refine ⟨T.I, T.done, fun i h hn z => ?_⟩
  rcases z with z | z
  · by_cases c : i + k < m
    · exact T.seen i h hn (.inl c)
    · have e : i + k = m := by omega
      have q := (first_tied h).2.1
      unfold tie at q
      rw [decide_eq_true_eq, e] at q
      exact T.seen i h hn (.inr ⟨e, by omega⟩)
  · have := (first_tied h).1
    omega
theorem Turn.step {t : List Nat} {R : Nat → Nat} (A : Arms t R) {k m s l r a b : Nat} {M : List Nat} (T : Turn R t.length k m s M) (hs : s < R m) (el : l + s + 1 = (m + 1) / 2) (er : r = m / 2 + 1 + s) (hr : r < t.length) (hla : M[l]? = some a) (hrb : M[r]? = some b) :
    Turn R t.length k m (s + 1) (mset M l r (min a b)) := by
  have elr : l + r = m := by omega
  have lt : l < r := by omega
  have ti : tie R l r = true := by
    unfold tie
    rw [decide_eq_true_eq, elr]
    omega
  have e := edge_rt A r hr l lt ((A.tie l r lt hr).mp ti)
  obtain ⟨I2, st, nw⟩ := T.I.step hla hrb e
  refine ⟨I2, fun x h1 h2 => st x (T.done x h1 h2), fun i h hn z => ?_⟩
  by_cases c : i + k < m ∨ (i + k = m ∧ k < m / 2 + 1 + s)
  · exact st k (T.seen i h hn c)
  · have q : i + k = m ∧ k = r := by omega
    obtain ⟨q1, q2⟩ := q
    subst q2
    have q3 : i = l := by omega
    subst q3
    exact nw (T.done i (first_tied h).1 (by omega))
end Mw
namespace Mw
open PySem PySem.Spec PyProof.Rows L2

/-! ### whole numbers, and what may be handed in for them -/
theorem ip_addT {X : Cx} : PIp X .Add (fun x y H Q => ∃ i j, x = .str i ∧ y = .str j ∧ i.length + j.length ≤ sizeLine ∧ Q (.str (i ++ j)) H) := iop_add_str
theorem tyx_same {K : PySem.W.Frag} {H H' : Hp} {x : V} {t : Value} (s : Same H H') (h : TyX K H x t) : TyX K H' x t := by
  cases h with
  | base h =>
    refine .base ?_
    cases h with
    | non => exact .non
    | bl x => exact .bl x
    | int i => exact .int i
    | str x => exact .str x
    | flt x => exact .flt x
    | lst e => exact .lst (s _ _ e)
    | frz e => exact .frz (s _ _ e)
    | tup e => exact .tup (s _ _ e)
    | dK e => exact .dK (s _ _ e)
    | dT e => exact .dT (s _ _ e)
    | ins e cl ha hn htk hm => exact .ins (s _ _ e) cl ha hn htk hm
  | byt b => exact .byt b
  | set e => exact .set (s _ _ e)
  | kList e c => exact .kList e c
  | kTuple e c => exact .kTuple e c
  | kDict e c => exact .kDict e c
  | fTuple e => exact .fTuple (s _ _ e)
  | fDict e => exact .fDict (s _ _ e)
def rLenSeq (K : PySem.W.Frag) : List V → Hp → VK → Prop := fun xs H Q => ∃ p ys, xs = [.ref p] ∧ (SqL K H p ys ∨ SqT K H p ys) ∧ Q (.int ys.length) H
inductive NThing (K : PySem.W.Frag) (H : Hp) : V → Prop
  | int (i : Int) : NThing K H (.int i)
  | bl (b : Bool) : NThing K H (.bl b)
  | other {x : V} {n : String} (t : TyX K H x (.type n)) (k : kitB n "int" = some false) (no : ∀ i, x ≠ .int i) : NThing K H x
theorem NThing.same {K : PySem.W.Frag} {H H' : Hp} {x : V} (s : Same H H') (h : NThing K H x) : NThing K H' x := by
  cases h with
  | int i => exact .int i
  | bl b => exact .bl b
  | other t k no => exact .other (tyx_same s t) k no
def numTo : V → Int → Bool
  | .int i, m => decide (0 ≤ i) && decide (i ≤ m)
  | _, _ => false
theorem numTo_no {x : V} (no : ∀ i, x ≠ .int i) (m : Int) : numTo x m = false := by
  cases x with
  | int i => exact absurd rfl (no i)
  | _ => rfl
def spNumTo (K : PySem.W.Frag) : Sp := fun vs H Q _ => ∃ (x : V) (m : Int), vs = [x, .int m] ∧ NThing K H x ∧ Q (.bl (numTo x m)) H

theorem dec_int (i j : Int) : decide (V.int i = V.int j) = decide (i = j) := by
  by_cases c : i = j
  · rw [c, decide_eq_true rfl, decide_eq_true rfl]
  · rw [decide_eq_false c, decide_eq_false fun z => c (V.int.inj z)]
theorem dec_nat (a b : Nat) : decide (V.int (a : Int) = V.int (b : Int)) = decide (a = b) := by
  rw [dec_int]
  by_cases c : a = b
  · rw [c, decide_eq_true rfl, decide_eq_true rfl]
  · rw [decide_eq_false c, decide_eq_false (by omega)]
/-! ### lists of arms -/
def midsB (n : Nat) : Bool := decide (n = 0) || (decide (n % 2 = 1) && decide (n < 400))
def spMids : Sp := fun vs H Q _ => ∃ n : Nat, vs = [.int (n : Int)] ∧ Q (.bl (midsB n)) H
def roomN (m n : Nat) : Nat := min (m + 1) (n - m) / 2
def spRoom : Sp := fun vs H Q _ => ∃ m n : Nat, vs = [.int (m : Int), .int (n : Int)] ∧ m ≤ n ∧ Q (.int (roomN m n : Nat)) H
def armOk (xs : List V) (i : Nat) : Bool := numTo (xs.getD i .non) (roomN i xs.length : Nat)
def isArmsL (xs : List V) : Bool := midsB xs.length && (List.range xs.length).all (armOk xs)
inductive AThing (K : PySem.W.Frag) (H : Hp) : V → Bool → Prop
  | list {a : Addr} {xs : List V} (h : H a = some (.lst xs)) (n : ∀ x ∈ xs, NThing K H x) (z : xs.length ≤ 1000) : AThing K H (.ref a) (isArmsL xs)
  | other {x : V} {n : String} (t : TyX K H x (.type n)) (k : kitB n "list" = some false) : AThing K H x false
def spIsArms (K : PySem.W.Frag) : Sp := fun vs H Q _ => ∃ (x : V) (b : Bool), vs = [x] ∧ AThing K H x b ∧ ∀ H', Same H H' → Q (.bl b) H'
/-- the arms of a text are such a list -/
theorem armL_room {l : List Nat} {m : Nat} (h : m < 2 * l.length - 1) : armL l m ≤ roomN m (2 * l.length - 1) := by
  unfold roomN
  by_cases c : armL l m = 0
  · omega
  · obtain ⟨h1, h2, _⟩ := okAt_of ((lt_armL (l := l) (m := m) (k := armL l m - 1)).mp (by omega) (armL l m - 1) (Nat.le_refl _))
    rw [Nat.le_div_iff_mul_le (by decide)]
    rw [Nat.le_min]
    omega
theorem numTo_nat {a m : Nat} : numTo (nV a) (m : Int) = decide (a ≤ m) := by
  show (decide (0 ≤ (a : Int)) && decide ((a : Int) ≤ (m : Int))) = _
  rw [decide_eq_true (by omega), Bool.true_and]
  by_cases h : a ≤ m
  · rw [decide_eq_true h, decide_eq_true (by omega)]
  · rw [decide_eq_false h, decide_eq_false (by omega)]
theorem isArmsL_arms {l : List Nat} (h : l.length ≤ 200) : isArmsL ((armsL l).map nV) = true := by
  unfold isArmsL
  rw [List.length_map, armsL_len, Bool.and_eq_true]
  constructor
  · unfold midsB
    by_cases c : l.length = 0
    · rw [c]
      rfl
    · rw [decide_eq_true (show (2 * l.length - 1) % 2 = 1 by omega), decide_eq_true (show 2 * l.length - 1 < 400 by omega), Bool.and_self, Bool.or_true]
  · rw [List.all_eq_true]
    intro i hi
    have hi := List.mem_range.mp hi
    unfold armOk
    rw [List.length_map, armsL_len]
    have e : ((armsL l).map nV).getD i .non = nV (armL l i) := by
      unfold armsL
      rw [List.getD_eq_getElem?_getD, List.getElem?_map, List.getElem?_map, List.getElem?_range hi]
      rfl
    rw [e, numTo_nat]
    exact decide_eq_true (armL_room hi)
theorem nthing_nats {K : PySem.W.Frag} {H : Hp} (ns : List Nat) : ∀ x ∈ ns.map nV, NThing K H x := fun x hx => by
  obtain ⟨n, _, rfl⟩ := List.mem_map.mp hx
  exact .int _
end Mw
namespace Mw
open PySem PySem.Spec PyProof.Rows L2

/-! ### rows of letters -/
theorem T_beq (a b : List Nat) : (T a == T b) = (a == b) := by
  by_cases c : a = b
  · rw [c, beq_self_eq_true, beq_self_eq_true]
  · rw [beq_eq_false_iff_ne.mpr c, beq_eq_false_iff_ne.mpr fun z => c (T_inj z)]
theorem inV_txt (x : List Nat) : ∀ ys : List (List Nat), inV (sV x) (ys.map sV) = ys.contains x
  | [] => rfl
  | y :: r => by
    have ih := inV_txt x r
    unfold inV at ih ⊢
    rw [List.map_cons, List.any_cons, ih, List.contains_cons]
    congr 1
    show (T y == T x) = (x == y)
    rw [T_beq]
    exact Bool.beq_comm
def gV (c : Nat) : V := .str (T [c])
theorem gV_map (cs : List Nat) : cs.map gV = (cs.map fun c => [c]).map sV := by
  rw [List.map_map]
  rfl
theorem inV_sgn (x : Nat) (ys : List Nat) : inV (gV x) (ys.map gV) = ys.contains x := by
  rw [gV_map]
  show inV (sV [x]) _ = _
  rw [inV_txt]
  induction ys with
  | nil => rfl
  | cons y r ih =>
    rw [List.map_cons, List.contains_cons, List.contains_cons, ih]
    congr 1
    show ([x] == [y]) = (x == y)
    by_cases c : x = y
    · rw [c, beq_self_eq_true, beq_self_eq_true]
    · rw [beq_eq_false_iff_ne.mpr c, beq_eq_false_iff_ne.mpr fun z => c (List.cons.inj z).1]
theorem flat_txt (ys : List (List Nat)) : (ys.map sV).all flatV = true := by
  rw [List.all_eq_true]
  intro x hx
  obtain ⟨y, _, rfl⟩ := List.mem_map.mp hx
  rfl
theorem flat_sgn (ys : List Nat) : (ys.map gV).all flatV = true := by
  rw [gV_map]
  exact flat_txt _
theorem find_range {q : Nat → Bool} {p i : Nat} (h1 : ∀ j, j < i → q j = false) (h2 : q i = true) (h3 : i < p) : (List.range p).find? q = some i := by
  cases h : (List.range p).find? q with
  | none =>
    have z := List.find?_eq_none.mp h i (List.mem_range.mpr h3)
    exact absurd h2 z
  | some k =>
    obtain ⟨h4, as, bs, e, h5⟩ := List.find?_eq_some_iff_append.mp h
    have hl : as.length + bs.length + 1 = p := by
      have := congrArg List.length e
      rw [List.length_range, List.length_append, List.length_cons] at this
      omega
    have at_ : ∀ x, x < p → (as ++ k :: bs)[x]? = some x := fun x hx => by rw [← e, List.getElem?_range hx]
    have hk : as.length = k := by
      have z := at_ as.length (by omega)
      rw [List.getElem?_append_right (Nat.le_refl _), Nat.sub_self] at z
      exact (Option.some.inj z).symm
    congr 1
    by_cases c : k < i
    · have z := h1 k c
      rw [h4] at z
      cases z
    · by_cases d : i < k
      · have z := at_ i (by omega)
        rw [List.getElem?_append_left (by omega)] at z
        have := h5 i (List.mem_of_getElem? z)
        simp [h2] at this
      · omega
theorem find_none {q : Nat → Bool} {p : Nat} (h1 : ∀ j, j < p → q j = false) : (List.range p).find? q = none :=
  List.find?_eq_none.mpr fun x hx => by
    rw [h1 x (List.mem_range.mp hx)]
    exact Bool.false_ne_true
theorem barred_succ (R : Nat → Nat) (g : List Nat) (p i : Nat) : (((List.range (i + 1)).filter fun i => cut R i p).map fun i => g.getD i 0) = (((List.range i).filter fun i => cut R i p).map fun i => g.getD i 0) ++ if cut R i p = true then [g.getD i 0] else [] := by
  rw [List.range_succ, List.filter_append, List.map_append]
  congr 1
  by_cases c : cut R i p = true
  · rw [if_pos c]
    simp [c]
  · rw [if_neg c]
    simp [c]
/-- the least of the letters that are left -/
theorem least_left {q : Nat → Bool} {c m : Nat} (h : abcL.find? q = some c) (hm : [m] ∈ (abcL.filter q).map fun c => [c]) (hl : ∀ y ∈ (abcL.filter q).map fun c => [c], ¬ y < [m]) : m = c := by
  have hc : c ∈ abcL.filter q := List.mem_filter.mpr ⟨List.mem_of_find?_eq_some h, List.find?_some h⟩
  obtain ⟨m2, hm2, e⟩ := List.mem_map.mp hm
  cases (List.cons.inj e).1
  have hm3 := List.mem_filter.mp hm2
  have le := find_le abcL_sorted h hm3.1 hm3.2
  have z := hl [c] (List.mem_map.mpr ⟨c, hc, rfl⟩)
  by_cases lt : c < m
  · exact absurd (List.Lex.rel lt) z
  · omega
theorem abc_size : (Str.ofString "abcdefghijklmnopqrstuvwxyz").cps.size = 26 := by decide +kernel
theorem abc_cps : (Str.ofString "abcdefghijklmnopqrstuvwxyz").cps.toList = abcL := abc
theorem abc_some {i c : Nat} (h : (Str.ofString "abcdefghijklmnopqrstuvwxyz").cps[i]? = some c) : abcL[i]? = some c := by
  rw [← abc_cps, Array.getElem?_toList]
  exact h
theorem take_succ_of {α : Type} {l : List α} {i : Nat} {x : α} (h : l[i]? = some x) : l.take (i + 1) = l.take i ++ [x] := by
  rw [List.take_add_one, h]
  rfl
/-- arms by the places of a row -/
def rsR (rs : List Nat) : Nat → Nat := fun m => rs.getD m 0
def spNext (K : PySem.W.Frag) : Sp := fun vs H Q _ => ∃ (g rs : List Nat) (a : Addr), vs = [.str (T g), .ref a] ∧ SqL K H a (rs.map nV) ∧ g.length ≤ 200 ∧ 2 * g.length ≤ rs.length ∧
  (((List.range g.length).find? fun i => tie (rsR rs) i g.length) = none → ∃ c, (abcL.find? fun c => !(barred (rsR rs) g g.length).contains c) = some c) ∧ ∀ H', Same H H' → Q (gV (nxt (rsR rs) g)) H'
end Mw
namespace Mw
open PySem PySem.Spec PyProof.Rows L2
def lenN (rs : List Nat) : Nat := (rs.length + 1) / 2
def badArms (rs : List Nat) : Bool := (List.range rs.length).any fun m => !decide (armL (gr (rsR rs) (lenN rs)) m = rsR rs m)
def spLeast (K : PySem.W.Frag) (BA NT : Addr) : Sp := fun vs H Q E => ∃ (x : V) (b : Bool), vs = [x] ∧ AThing K H x b ∧ (b = false → ∀ H', Same H H' → E (.ref BA) none H') ∧
  (b = true → ∃ (a : Addr) (rs : List Nat), x = .ref a ∧ H a = some (.lst (rs.map nV)) ∧ rs.length < 400 ∧ Left (rsR rs) (lenN rs) ∧ (badArms rs = false → ∀ H', Same H H' → Q (.str (T (gr (rsR rs) (lenN rs)))) H') ∧ (badArms rs = true → ∀ H', Same H H' → E (.ref NT) none H'))
end Mw
namespace Mw
open PySem PySem.Spec PyProof.Rows L2
theorem psNox {X : Cx} {st : Stmt} {t : TS} (h : PS X.nox st t) : PS X st t := ⟨fun pins s σ H D I hw => 
  wpAny_mono (h.run pins s σ H D (I.wish _) hw) (fun _ _ q => SP.unwish q) fun _ _ z => False.elim z⟩
end Mw
namespace Mw
open PySem PySem.Spec PyProof.Rows L2
def spLArms : Sp := fun vs H Q _ => ∃ l : List Nat, vs = [.str (T l)] ∧ l.length ≤ 200 ∧ ∀ H' p, Same H H' → H p = none → H' p = some (.lst ((armsL l).map nV)) → Q (.ref p) H'
theorem left_of (m : Nat) : ((m : Int) - 1).fdiv 2 = (((m + 1) / 2 : Nat) : Int) - 1 := by
  rw [Int.fdiv_eq_ediv_of_nonneg _ (by decide)]
  omega
theorem okAt_dec {l : List Nat} {m k : Nat} (c1 : k + 1 ≤ (m + 1) / 2) (c2 : m / 2 + 1 + k < l.length) (h1 : (m + 1) / 2 - (k + 1) < l.length) : okAt l m k = decide (l[(m + 1) / 2 - (k + 1)] = l[m / 2 + 1 + k]) := by
  unfold okAt
  rw [decide_eq_true c1, decide_eq_true c2, Bool.true_and, Bool.true_and, List.getElem?_eq_getElem h1, List.getElem?_eq_getElem c2]
  by_cases z : l[(m + 1) / 2 - (k + 1)] = l[m / 2 + 1 + k]
  · rw [z, decide_eq_true rfl]
    exact beq_self_eq_true _
  · rw [decide_eq_false z]
    exact beq_eq_false_iff_ne.mpr fun y => z (Option.some.inj y)
end Mw
namespace Mw
open PySem PySem.Spec PyProof.Rows L2
theorem ixNat {n j : Nat} (hj : j < n) : ixN n (j : Int) = some j := by
  unfold ixN
  rw [if_pos (by omega), if_pos (by omega)]
  rfl
theorem rgV_nat (n : Nat) : rgV 0 (n : Int) = (List.range n).map nV := by
  unfold rgV
  have e : ((n : Int) - 0).toNat = n := by omega
  rw [e]
  refine List.map_congr_left fun i _ => ?_
  show V.int (0 + (i : Int)) = V.int (i : Int)
  rw [Int.zero_add]
theorem set_nats (M : List Nat) (j v : Nat) : (M.map nV).set j (nV v) = (M.set j v).map nV := by
  rw [List.map_set]
theorem nats_at {M : List Nat} {j v : Nat} (h : M[j]? = some v) : (M.map nV)[j]? = some (nV v) := by
  rw [List.getElem?_map, h]
  rfl
def spMarks (K : PySem.W.Frag) : Sp := fun vs H Q _ => ∃ (a : Addr) (t : List Nat), vs = [.ref a, .int (t.length : Int)] ∧ SqL K H a ((armsL t).map nV) ∧ t.length ≤ 200 ∧
  ∀ H' p M, Same H H' → H p = none → H' p = some (.lst (M.map nV)) → MarkI (armL t) t.length M → (∀ x, x < t.length → M[x]? = some (rt (armL t) x)) → Q (.ref p) H'
theorem armsL_at {t : List Nat} {m : Nat} (h : m < 2 * t.length - 1) : (armsL t)[m]? = some (armL t m) := by
  unfold armsL
  rw [List.getElem?_map, List.getElem?_range h]
  rfl
end Mw
namespace Mw
open PySem PySem.Spec PyProof.Rows L2
/-! ### the least text by the law's own reading -/
def gL (R : Nat → Nat) (x : Nat) : Nat := nxt R (gr R x)
theorem gL_root {R : Nat → Nat} (x : Nat) : gL R x = gL R (rt R x) := by
  have z := gr_rt (R := R) (n := x + 1) (p := x) (by omega)
  have := rt_le R x
  rw [gr_at (by omega), gr_at (by omega)] at z
  exact Option.some.inj z
theorem gL_at {R : Nat → Nat} {p x : Nat} (h : x < p) : (gr R p)[x]? = some (gL R x) := gr_at h
theorem gL_cut {t : List Nat} {R : Nat → Nat} (A : Arms t R) (L : Left R t.length) {l r : Nat} (hl : l < r) (hr : r < t.length) (c : cut R l r = true) : gL R l ≠ gL R r := by
  intro e
  obtain ⟨c1, c2⟩ := (A.cut l r hl hr).mp c
  have P := gr_pal A L rfl
  have h1 : Pal (gr R t.length) (l + 1) (r - 1) := by
    by_cases d : l + 1 < r - 1
    · exact (P (l + 1) (r - 1) d (by omega)).mpr c1
    · exact pal_short (by omega)
  have h2 : Pal (gr R t.length) l r := (pal_out hl).mpr ⟨h1, by rw [gL_at (by omega), gL_at hr, e]⟩
  exact c2 ((pal_out hl).mp ((P l r hl hr).mp h2)).2
theorem cut_mid {R : Nat → Nat} {m : Nat} (h : R m + 1 ≤ (m + 1) / 2) : cut R ((m + 1) / 2 - (R m + 1)) (m / 2 + 1 + R m) = true := by
  unfold cut
  rw [decide_eq_true_eq]
  have e : (m + 1) / 2 - (R m + 1) + (m / 2 + 1 + R m) = m := by omega
  rw [e]
theorem mid_cut {R : Nat → Nat} {i p : Nat} (c : cut R i p = true) : R (i + p) + 1 ≤ (i + p + 1) / 2 ∧ (i + p + 1) / 2 - (R (i + p) + 1) = i ∧ (i + p) / 2 + 1 + R (i + p) = p := by
  unfold cut at c
  rw [decide_eq_true_eq] at c
  omega
/-- the letters noted for a place, ahead of the middle m -/
structure Used (R : Nat → Nat) (p m : Nat) (U : List Nat) : Prop where
  no : ∀ c ∈ U, c ≠ gL R p
  all : ∀ i, i < p → cut R i p = true → i + p < m → gL R i ∈ U
  len : U.length ≤ 2 * m
theorem Used.start (R : Nat → Nat) (p : Nat) : Used R p 0 [] := ⟨fun c h => absurd h List.not_mem_nil, fun i _ _ h => absurd h (by omega), Nat.le_refl _⟩
def use1 (R : Nat → Nat) (p m : Nat) : Bool := decide (rt R ((m + 1) / 2 - (R m + 1)) = rt R p) && decide (rt R (m / 2 + 1 + R m) < p)
def use2 (R : Nat → Nat) (p m : Nat) : Bool := decide (rt R (m / 2 + 1 + R m) = rt R p) && decide (rt R ((m + 1) / 2 - (R m + 1)) < p)
theorem Used.step {t : List Nat} {R : Nat → Nat} (A : Arms t R) (L : Left R t.length) {p m : Nat} {U : List Nat} (I : Used R p m U) (h1 : R m + 1 ≤ (m + 1) / 2) (h2 : m / 2 + 1 + R m < t.length) :
    Used R p (m + 1) (U ++ (if use1 R p m = true then [gL R (rt R (m / 2 + 1 + R m))] else []) ++ (if use2 R p m = true then [gL R (rt R ((m + 1) / 2 - (R m + 1)))] else [])) := by
  have ne := gL_cut A L (show (m + 1) / 2 - (R m + 1) < m / 2 + 1 + R m by omega) h2 (cut_mid h1)
  refine ⟨fun c hc => ?_, fun i hi hc hm => ?_, ?_⟩
  · rw [List.mem_append, List.mem_append] at hc
    rcases hc with (hc | hc) | hc
    · exact I.no c hc
    · by_cases u : use1 R p m = true
      · rw [if_pos u] at hc
        obtain rfl := List.mem_singleton.mp hc
        unfold use1 at u
        rw [Bool.and_eq_true, decide_eq_true_eq] at u
        rw [← gL_root, gL_root p, ← u.1, ← gL_root]
        exact ne.symm
      · rw [if_neg u] at hc
        cases hc
    · by_cases u : use2 R p m = true
      · rw [if_pos u] at hc
        obtain rfl := List.mem_singleton.mp hc
        unfold use2 at u
        rw [Bool.and_eq_true, decide_eq_true_eq] at u
        rw [← gL_root, gL_root p, ← u.1, ← gL_root]
        exact ne
      · rw [if_neg u] at hc
        cases hc
  · by_cases e : i + p < m
    · rw [List.append_assoc]
      exact List.mem_append_left _ (I.all i hi hc e)
    · have em : i + p = m := by omega
      obtain ⟨_, e1, e2⟩ := mid_cut hc
      rw [em] at e1 e2
      have u : use2 R p m = true := by
        unfold use2
        rw [e1, e2, decide_eq_true rfl, Bool.true_and]
        have := rt_le R i
        exact decide_eq_true (by omega)
      rw [if_pos u, e1]
      exact List.mem_append_right _ (by rw [← gL_root]; exact List.mem_cons_self)
  · rw [List.length_append, List.length_append]
    have := I.len
    have a1 : (if use1 R p m = true then [gL R (rt R (m / 2 + 1 + R m))] else []).length ≤ 1 := by split <;> simp
    have a2 : (if use2 R p m = true then [gL R (rt R ((m + 1) / 2 - (R m + 1)))] else []).length ≤ 1 := by split <;> simp
    omega
theorem Used.skip {R : Nat → Nat} {n p m : Nat} {U : List Nat} (I : Used R p m U) (hp : p < n) (h : ¬ (R m + 1 ≤ (m + 1) / 2 ∧ m / 2 + 1 + R m < n)) : Used R p (m + 1) U := by
  refine ⟨I.no, fun i hi hc hm => ?_, by have := I.len; omega⟩
  by_cases e : i + p < m
  · exact I.all i hi hc e
  · have em : i + p = m := by omega
    obtain ⟨e0, e1, e2⟩ := mid_cut hc
    rw [em] at e0 e1 e2
    exact absurd ⟨e0, by omega⟩ h
theorem find_same {q1 q2 : Nat → Bool} {l : List Nat} {c : Nat} (h : l.find? q1 = some c) (h2 : q2 c = true) (h3 : ∀ x, q1 x = false → q2 x = false) : l.find? q2 = some c := by
  induction l with
  | nil => cases h
  | cons a r ih =>
    rw [List.find?_cons] at h ⊢
    cases e : q1 a with
    | true =>
      rw [e] at h
      cases Option.some.inj h
      rw [h2]
    | false =>
      rw [e] at h
      rw [h3 a e]
      exact ih h
theorem Used.letter {t : List Nat} {R : Nat → Nat} (L : Left R t.length) {p : Nat} {U : List Nat} (I : Used R p (2 * t.length - 1) U) (hp : p < t.length) (hr : ¬ rt R p < p) : (abcL.filter fun c => !U.contains c)[0]? = some (gL R p) := by
  have hf : ((List.range p).find? fun i => tie R i p) = none := by
    cases h : (List.range p).find? fun i => tie R i p with
    | none => rfl
    | some i =>
      have := (first_tied h).1
      rw [rt_tied h] at hr
      have := rt_le R i
      omega
  obtain ⟨c, hc⟩ := L p hp hf
  have e : gL R p = c := by
    unfold gL
    rw [nxt_free hf, hc]
    rfl
  rw [← List.head?_eq_getElem?, List.head?_filter, e]
  refine find_same hc ?_ fun x hx => ?_
  · cases q : U.contains c with
    | false => rfl
    | true => exact absurd e.symm (I.no c (by simpa using q))
  · have hx : x ∈ barred R (gr R p) p := by simpa using hx
    obtain ⟨i, hi, hci, ei⟩ := mem_barred.mp hx
    rw [gr_getD hi] at ei
    have := I.all i hi hci (by omega)
    rw [show gL R i = x from ei] at this
    simpa using this
def spLLeast (K : PySem.W.Frag) : Sp := fun vs H Q _ => ∃ (a : Addr) (t : List Nat), vs = [.ref a] ∧ SqL K H a ((armsL t).map nV) ∧ t.length ≤ 26 ∧ ∀ H', Same H H' → Q (.str (T (gr (armL t) t.length))) H'
end Mw
namespace Mw
open PySem PySem.Spec PyProof.Rows L2
theorem rsR_arms (t : List Nat) : rsR (armsL t) = armL t := by
  funext m
  unfold rsR
  rw [List.getD_eq_getElem?_getD]
  by_cases h : m < 2 * t.length - 1
  · rw [armsL_at h]
    rfl
  · rw [List.getElem?_eq_none (by rw [armsL_len]; omega)]
    show 0 = armL t m
    by_cases c : armL t m = 0
    · exact c.symm
    · have := (okAt_of ((lt_armL (l := t) (m := m) (k := 0)).mp (by omega) 0 (Nat.le_refl _))).2.1
      omega
theorem lenN_arms (t : List Nat) : lenN (armsL t) = t.length := by
  unfold lenN
  rw [armsL_len]
  omega
theorem arms_gr {t : List Nat} (L : Left (armL t) t.length) (m : Nat) : armL (gr (armL t) t.length) m = armL t m :=
  armL_congr (gr_len _ _) (fun i j hij hj => gr_pal (arms_of t) L rfl i j hij (by rw [gr_len] at hj; exact hj)) m
theorem bad_arms {t : List Nat} (L : Left (armL t) t.length) : badArms (armsL t) = false := by
  unfold badArms
  rw [rsR_arms, lenN_arms]
  cases h : (List.range (armsL t).length).any fun m => !decide (armL (gr (armL t) t.length) m = armL t m) with
  | false => rfl
  | true =>
    obtain ⟨m, _, e⟩ := List.any_eq_true.mp h
    rw [arms_gr L m, decide_eq_true rfl] at e
    cases e
theorem armsL_gr {t : List Nat} (L : Left (armL t) t.length) : armsL (gr (armL t) t.length) = armsL t := by
  unfold armsL
  rw [gr_len]
  exact List.map_congr_left fun m _ => arms_gr L m
theorem az_abc {l : List Nat} (h : l.all az = true) : ∀ c ∈ l, c ∈ abcL := fun c hc => by
  have z := List.all_eq_true.mp h c hc
  unfold az at z
  rw [Bool.and_eq_true, decide_eq_true_eq, decide_eq_true_eq] at z
  exact mem_abcL.mpr z
def spLaw (K : PySem.W.Frag) : Sp := fun vs H Q _ => ∃ (a : Addr) (ns : List Int), vs = [.ref a] ∧ SqL K H a (ns.map V.int) ∧ ∀ H', Q (.bl true) H'
/-- the arms of a text handed to is_arms and to least_text -/
theorem athing_arms {K : PySem.W.Frag} {H : Hp} {p : Addr} {t : List Nat} (h : H p = some (.lst ((armsL t).map nV))) (ht : t.length ≤ 200) : AThing K H (.ref p) true := by
  have z : AThing K H (.ref p) (isArmsL ((armsL t).map nV)) := .list h (nthing_nats _) (by rw [List.length_map, armsL_len]; omega)
  rw [isArmsL_arms ht] at z
  exact z
end Mw
namespace Mw
open PySem PySem.Spec PyProof.Rows L2

/-! ### all that is no table of code objects stays -/
def Sm (H H' : Hp) : Prop := ∀ b o, (∀ ps, o ≠ HO.tbl ps) → H b = some o → H' b = some o
theorem Sm.of {H H' : Hp} (s : Same H H') : Sm H H' := fun b o _ h => s b o h
theorem Kp.sm {P : Addr} {H H' : Hp} (k : Kp P H H') (t : GxR.TabG H P) : Sm H H' := fun b o n h => by
  by_cases e : b = P
  · obtain ⟨ps, h1, _⟩ := t
    rw [e, h1] at h
    exact absurd (Option.some.inj h).symm (n ps)
  · exact k.keep b o e h
theorem Sm.refl (H : Hp) : Sm H H := fun _ _ _ h => h
theorem Sm.trans {H H1 H2 : Hp} (a : Sm H H1) (b : Sm H1 H2) : Sm H H2 := fun c o n h => b c o n (a c o n h)
theorem Sm.lst {H H' : Hp} {p : Addr} {xs : List V} (s : Sm H H') (h : H p = some (.lst xs)) : H' p = some (.lst xs) := s _ _ (fun _ z => by cases z) h
theorem tyx_sm {K : PySem.W.Frag} {H H' : Hp} {x : V} {t : Value} (s : Sm H H') (h : TyX K H x t) : TyX K H' x t := by
  cases h with
  | base h =>
    refine .base ?_
    cases h with
    | non => exact .non
    | bl x => exact .bl x
    | int i => exact .int i
    | str x => exact .str x
    | flt x => exact .flt x
    | lst e => exact .lst (s _ _ (fun _ z => by cases z) e)
    | frz e => exact .frz (s _ _ (fun _ z => by cases z) e)
    | tup e => exact .tup (s _ _ (fun _ z => by cases z) e)
    | dK e => exact .dK (s _ _ (fun _ z => by cases z) e)
    | dT e => exact .dT (s _ _ (fun _ z => by cases z) e)
    | ins e cl ha hn htk hm => exact .ins (s _ _ (fun _ z => by cases z) e) cl ha hn htk hm
  | byt b => exact .byt b
  | set e => exact .set (s _ _ (fun _ z => by cases z) e)
  | kList e c => exact .kList e c
  | kTuple e c => exact .kTuple e c
  | kDict e c => exact .kDict e c
  | fTuple e => exact .fTuple (s _ _ (fun _ z => by cases z) e)
  | fDict e => exact .fDict (s _ _ (fun _ z => by cases z) e)
theorem nthing_sm {K : PySem.W.Frag} {H H' : Hp} {x : V} (s : Sm H H') (h : NThing K H x) : NThing K H' x := by
  cases h with
  | int i => exact .int i
  | bl b => exact .bl b
  | other t k no => exact .other (tyx_sm s t) k no
theorem sql_sm {K : PySem.W.Frag} {H H' : Hp} {p : Addr} {xs : List V} (s : Sm H H') (h : SqL K H p xs) : SqL K H' p xs := by
  rcases h with (h | ⟨o, h⟩) | h
  · exact .inl (.inl (s.lst h))
  · exact .inl (.inr ⟨o, s _ _ (fun _ z => by cases z) h⟩)
  · exact .inr h
theorem sqt_sm {K : PySem.W.Frag} {H H' : Hp} {p : Addr} {xs : List V} (s : Sm H H') (h : SqT K H p xs) : SqT K H' p xs := by
  rcases h with (h | ⟨o, h⟩) | h
  · exact .inl (.inl (s _ _ (fun _ z => by cases z) h))
  · exact .inl (.inr ⟨o, s _ _ (fun _ z => by cases z) h⟩)
  · exact .inr h
theorem athing_sm {K : PySem.W.Frag} {H H' : Hp} {x : V} {b : Bool} (s : Sm H H') (h : AThing K H x b) : AThing K H' x b := by
  cases h with
  | list h n z => exact .list (s.lst h) (fun x hx => nthing_sm s (n x hx)) z
  | other t k => exact .other (tyx_sm s t) k
mutual
theorem dp_sm {K : PySem.W.Frag} {H H' : Hp} (s : Sm H H') : ∀ (d : PyData) (v : V), Dp K H v d → Dp K H' v d
  | .none, _, h => by
    cases h
    exact .non
  | .bool b, _, h => by
    cases h
    exact .bl b
  | .int i, _, h => by
    cases h
    exact .int i
  | .str x, _, h => by
    cases h
    exact .str x
  | .list ds, _, h => by
    cases h with
    | lst q r => exact .lst (sql_sm s q) (dpAll_sm s ds _ r)
  | .tuple ds, _, h => by
    cases h with
    | tup q r => exact .tup (sqt_sm s q) (dpAll_sm s ds _ r)
  | .dict _, _, h => by cases h
theorem dpAll_sm {K : PySem.W.Frag} {H H' : Hp} (s : Sm H H') : ∀ (ds : List PyData) (vs : List V), DpAll K H vs ds → DpAll K H' vs ds
  | [], _, h => by
    cases h
    exact .nil
  | d :: ds, _, h => by
    cases h with
    | cons h1 h2 => exact .cons (dp_sm s d _ h1) (dpAll_sm s ds _ h2)
end
theorem dpAll_app {K : PySem.W.Frag} {H : Hp} : ∀ {vs ws : List V} {ds es : List PyData}, DpAll K H vs ds → DpAll K H ws es → DpAll K H (vs ++ ws) (ds ++ es)
  | _, _, [], _, h, k => by
    cases h
    exact k
  | _, _, d :: ds, _, h, k => by
    cases h with
    | cons h1 h2 => exact .cons h1 (dpAll_app h2 k)
theorem dpAll_take {K : PySem.W.Frag} {H : Hp} : ∀ (k : Nat) {vs : List V} {ds : List PyData}, DpAll K H vs ds → DpAll K H (vs.take k) (ds.take k)
  | 0, _, _, _ => .nil
  | k + 1, _, [], h => by
    cases h
    exact .nil
  | k + 1, _, d :: ds, h => by
    cases h with
    | cons h1 h2 => exact .cons h1 (dpAll_take k h2)
theorem dpAll_drop {K : PySem.W.Frag} {H : Hp} : ∀ (k : Nat) {vs : List V} {ds : List PyData}, DpAll K H vs ds → DpAll K H (vs.drop k) (ds.drop k)
  | 0, _, _, h => h
  | k + 1, _, [], h => by
    cases h
    exact .nil
  | k + 1, _, d :: ds, h => by
    cases h with
    | cons h1 h2 => exact dpAll_drop k h2
/-- data that can be compared -/
def Okd (d : PyData) : Prop := d.canLay0 = true ∧ d.depth ≤ 2
theorem okd_all : ∀ {ds : List PyData}, (∀ d ∈ ds, Okd d) → PyData.canLayAll0 ds = true ∧ PyData.depthAll ds ≤ 2
  | [], _ => ⟨rfl, Nat.zero_le _⟩
  | d :: ds, h => by
    obtain ⟨h1, h2⟩ := okd_all fun x hx => h x (List.mem_cons_of_mem _ hx)
    obtain ⟨k1, k2⟩ := h d List.mem_cons_self
    refine ⟨?_, ?_⟩
    · show (d.canLay0 && PyData.canLayAll0 ds) = true
      rw [h1, k1]
      rfl
    · show max d.depth (PyData.depthAll ds) ≤ 2
      exact Nat.max_le.mpr ⟨k2, h2⟩
theorem shaped_list {ds : List PyData} (h : ∀ d ∈ ds, Okd d) : SeqAt.shaped (.list ds) = true := by
  obtain ⟨h1, h2⟩ := okd_all h
  show (PyData.canLayAll0 ds && decide (PyData.depthAll ds + 1 ≤ 64)) = true
  rw [h1, decide_eq_true (by omega)]
  rfl
theorem shaped_tuple {ds : List PyData} (h : ∀ d ∈ ds, Okd d) : SeqAt.shaped (.tuple ds) = true := by
  obtain ⟨h1, h2⟩ := okd_all h
  show (PyData.canLayAll0 ds && decide (PyData.depthAll ds + 1 ≤ 64)) = true
  rw [h1, decide_eq_true (by omega)]
  rfl
def dN (n : Nat) : PyData := .int (n : Int)
theorem okd_nats (ns : List Nat) : ∀ d ∈ ns.map dN, Okd d := fun d hd => by
  obtain ⟨n, _, rfl⟩ := List.mem_map.mp hd
  exact ⟨rfl, Nat.zero_le _⟩
/-- != of data, or of two dicts that are equal -/
theorem op_neX {X : Cx} (hu : X.A.units + 64 < cLine) : OpR X (compareOp .NotEq) (fun x y H Q => rNeD X.K x y H Q ∨ rNeDA x y H Q) := by
  intro pins s σ H x y v u Q I rx ry h
  rcases h with h | h
  · exact op_neD hu pins s σ H x y v u Q I rx ry h
  · exact op_ne_dictA (by omega) pins s σ H x y v u Q I rx ry h

/-! ### things that are no arms -/
inductive Spoilt (K : PySem.W.Frag) (H : Hp) : V → Prop
  | list {a : Addr} {xs : List V} {ds : List PyData} (h : H a = some (.lst xs)) (n : ∀ x ∈ xs, NThing K H x) (z : xs.length ≤ 1000) (bad : isArmsL xs = false) (d : DpAll K H xs ds) (sh : ∀ d ∈ ds, Okd d) : Spoilt K H (.ref a)
  | other {x : V} {n : String} {d : PyData} (t : TyX K H x (.type n)) (k : kitB n "list" = some false) (dp : Dp K H x d) (sh : SeqAt.shaped d = true) : Spoilt K H x
  | dict {a : Addr} (h : H a = some (.dK [(.inl 0, .int 0)])) : Spoilt K H (.ref a)
theorem Spoilt.thing {K : PySem.W.Frag} {H : Hp} {x : V} (h : Spoilt K H x) : AThing K H x false := by
  cases h with
  | list h n z bad d sh =>
    have := AThing.list (K := K) h n z
    rw [bad] at this
    exact this
  | other t k d sh => exact .other t k
  | dict h => exact .other (.base (.dK h)) (by decide +kernel)
theorem spoilt_sm {K : PySem.W.Frag} {H H' : Hp} {x : V} (s : Sm H H') (h : Spoilt K H x) : Spoilt K H' x := by
  cases h with
  | list h n z bad d sh => exact .list (s.lst h) (fun x hx => nthing_sm s (n x hx)) z bad (dpAll_sm s _ _ d) sh
  | other t k d sh => exact .other (tyx_sm s t) k (dp_sm s _ _ d) sh
  | dict h => exact .dict (s _ _ (fun _ z => by cases z) h)
/-- one of the arms told otherwise -/
theorem isArms_set {xs : List V} {i : Nat} {v : V} (hi : i < xs.length) (h : numTo v (roomN i xs.length : Nat) = false) : isArmsL (xs.set i v) = false := by
  unfold isArmsL
  rw [List.length_set]
  cases c : (List.range xs.length).all (armOk (xs.set i v)) with
  | false => rw [Bool.and_false]
  | true =>
    have z := List.all_eq_true.mp c i (List.mem_range.mpr hi)
    unfold armOk at z
    rw [List.length_set, List.getD_eq_getElem?_getD, List.getElem?_set_self hi] at z
    have z : numTo v (roomN i xs.length : Nat) = true := z
    rw [h] at z
    cases z
def spSpoiltK (K : PySem.W.Frag) : Sp := fun vs H Q _ => ∃ (a : Addr) (t : List Nat) (c : Int), vs = [.ref a, .int c] ∧ H a = some (.lst ((armsL t).map nV)) ∧ t.length ≤ 30 ∧ ∀ H' x, Same H H' → Spoilt K H' x → Q x H'
def spRefA (K : PySem.W.Frag) : Sp := fun vs H Q _ => ∃ x, vs = [x] ∧ AThing K H x false ∧ ∀ H', Same H H' → Q (.bl true) H'
theorem modK (i : Int) {k : Nat} (hk : 0 < k) : ∃ j : Nat, i.fmod (k : Int) = (j : Int) ∧ j < k := by
  refine ⟨(i % (k : Int)).toNat, ?_, ?_⟩
  · rw [Int.fmod_eq_emod_of_nonneg _ (by omega)]
    have := Int.emod_nonneg i (show (k : Int) ≠ 0 by omega)
    omega
  · have h1 := Int.emod_nonneg i (show (k : Int) ≠ 0 by omega)
    have h2 := Int.emod_lt_of_pos i (show (0 : Int) < (k : Int) by omega)
    omega
end Mw
namespace Mw
open PySem PySem.Spec PyProof.Rows L2

/-! ### a text parted into as few mirror words as can be -/
def str (t : List Nat) (i j : Nat) : List Nat := (t.drop i).take (j - i)
def Ed (t : List Nat) (i j : Nat) : Prop := i < j ∧ j ≤ t.length ∧ pal (str t i j) = true
theorem pal_one (c : Nat) : pal [c] = true := by
  unfold pal
  exact decide_eq_true rfl
theorem str_one {t : List Nat} {i : Nat} (h : i < t.length) : str t i (i + 1) = [t[i]] := by
  unfold str
  rw [List.drop_eq_getElem_cons h, show i + 1 - i = 1 by omega]
  rfl
theorem ed_one {t : List Nat} {i : Nat} (h : i < t.length) : Ed t i (i + 1) := ⟨by omega, h, by rw [str_one h]; exact pal_one _⟩
/-- of those up to m that are let by: the last one of the least -/
theorem best_ex (E : Nat → Prop) (N : Nat → Nat) (i : Nat) : ∀ m, (∃ j, E j ∧ j ≤ m) → ∃ j, E j ∧ j ≤ m ∧ ∀ k, E k → k ≤ m → N j ≤ N k ∧ (j < k → N j < N k)
  | 0, ⟨j, h, hj⟩ => ⟨j, h, hj, fun k _ hk => by
    have e : k = j := by omega
    rw [e]
    exact ⟨Nat.le_refl _, fun z => absurd z (by omega)⟩⟩
  | m + 1, ⟨j, h, hj⟩ => by
    by_cases c : E (m + 1)
    · by_cases d : ∃ j, E j ∧ j ≤ m
      · obtain ⟨b, h1, h2, h3⟩ := best_ex E N i m d
        by_cases e : N (m + 1) ≤ N b
        · refine ⟨m + 1, c, Nat.le_refl _, fun k hk hm => ⟨?_, fun z => absurd z (by omega)⟩⟩
          by_cases f : k = m + 1
          · rw [f]
            exact Nat.le_refl _
          · have := (h3 k hk (by omega)).1
            omega
        · refine ⟨b, h1, by omega, fun k hk hm => ?_⟩
          by_cases f : k = m + 1
          · rw [f]
            exact ⟨by omega, fun _ => by omega⟩
          · exact h3 k hk (by omega)
      · refine ⟨m + 1, c, Nat.le_refl _, fun k hk hm => ?_⟩
        by_cases f : k = m + 1
        · rw [f]
          exact ⟨Nat.le_refl _, fun z => absurd z (by omega)⟩
        · exact absurd ⟨k, hk, by omega⟩ d
    · have : j ≤ m := by
        by_cases f : j = m + 1
        · rw [f] at h
          exact absurd h c
        · omega
      obtain ⟨b, h1, h2, h3⟩ := best_ex E N i m ⟨j, h, this⟩
      refine ⟨b, h1, by omega, fun k hk hm => ?_⟩
      by_cases f : k = m + 1
      · rw [f] at hk
        exact absurd hk c
      · exact h3 k hk (by omega)
/-- the first word's end -/
def Jp (t : List Nat) (N : Nat → Nat) (i j : Nat) : Prop := Ed t i j ∧ N i = 1 + N j ∧ ∀ k, Ed t i k → N j ≤ N k ∧ (j < k → N j < N k)
theorem need_ex (t : List Nat) : ∀ k, k ≤ t.length → ∃ N : Nat → Nat, N t.length = 0 ∧ ∀ i, t.length - k ≤ i → i < t.length → ∃ j, Jp t N i j
  | 0, _ => ⟨fun _ => 0, rfl, fun i h1 h2 => absurd h1 (by omega)⟩
  | k + 1, h => by
    obtain ⟨N, h0, hN⟩ := need_ex t k (by omega)
    have hi : t.length - (k + 1) < t.length := by omega
    obtain ⟨b, b1, b2, b3⟩ := best_ex (Ed t (t.length - (k + 1))) N 0 t.length ⟨_, ed_one hi, by omega⟩
    refine ⟨fun x => if x = t.length - (k + 1) then 1 + N b else N x, by show (if _ then _ else _) = 0; rw [if_neg (by omega)]; exact h0, fun i h1 h2 => ?_⟩
    have later : ∀ {i j}, t.length - (k + 1) ≤ i → Ed t i j → (if j = t.length - (k + 1) then 1 + N b else N j) = N j := fun {i j} h e => if_neg (by have := e.1; omega)
    by_cases c : i = t.length - (k + 1)
    · subst c
      refine ⟨b, b1, ?_, fun x hx => ?_⟩
      · show (if _ then _ else _) = 1 + (if _ then _ else _)
        rw [if_pos rfl, later (Nat.le_refl _) b1]
      · show (if _ then _ else _) ≤ (if _ then _ else _) ∧ (_ → (if _ then _ else _) < (if _ then _ else _))
        rw [later (Nat.le_refl _) b1, later (Nat.le_refl _) hx]
        exact b3 x hx hx.2.1
    · obtain ⟨j, j1, j2, j3⟩ := hN i (by omega) h2
      refine ⟨j, j1, ?_, fun x hx => ?_⟩
      · show (if _ then _ else _) = 1 + (if _ then _ else _)
        rw [if_neg c, later h1 j1]
        exact j2
      · show (if _ then _ else _) ≤ (if _ then _ else _) ∧ (_ → (if _ then _ else _) < (if _ then _ else _))
        rw [later h1 j1, later h1 hx]
        exact j3 x hx
noncomputable def need (t : List Nat) : Nat → Nat := Classical.choose (need_ex t t.length (Nat.le_refl _))
theorem need_end (t : List Nat) : need t t.length = 0 := (Classical.choose_spec (need_ex t t.length (Nat.le_refl _))).1
theorem need_jp (t : List Nat) {i : Nat} (h : i < t.length) : ∃ j, Jp t (need t) i j := (Classical.choose_spec (need_ex t t.length (Nat.le_refl _))).2 i (by omega) h
open Classical in
noncomputable def jmp (t : List Nat) (i : Nat) : Nat := if h : i < t.length then Classical.choose (need_jp t h) else i
theorem jmp_ok (t : List Nat) {i : Nat} (h : i < t.length) : Jp t (need t) i (jmp t i) := by
  unfold jmp
  rw [dif_pos h]
  exact Classical.choose_spec (need_jp t h)
theorem jp_one {t : List Nat} {i j k : Nat} (a : Jp t (need t) i j) (b : Jp t (need t) i k) : j = k := by
  have h1 := a.2.2 k b.1
  have h2 := b.2.2 j a.1
  rcases Nat.lt_trichotomy j k with h | h | h
  · have := h1.2 h
    omega
  · exact h
  · have := h2.2 h
    omega
noncomputable def prtF (t : List Nat) : Nat → Nat → List (List Nat)
  | 0, _ => []
  | f + 1, i => if i < t.length then str t i (jmp t i) :: prtF t f (jmp t i) else []
noncomputable def prt (t : List Nat) (i : Nat) : List (List Nat) := prtF t (t.length - i) i
theorem prtF_eq (t : List Nat) : ∀ (f i : Nat), t.length - i ≤ f → prtF t f i = prtF t (t.length - i) i := by
  intro f
  induction f with
  | zero =>
    intro i h
    have e : t.length - i = 0 := by omega
    rw [e]
  | succ f ih =>
    intro i h
    by_cases c : i < t.length
    · obtain ⟨k, hk⟩ : ∃ k, t.length - i = k + 1 := ⟨t.length - i - 1, by omega⟩
      rw [hk]
      show (if i < t.length then str t i (jmp t i) :: prtF t f (jmp t i) else []) = (if i < t.length then str t i (jmp t i) :: prtF t k (jmp t i) else [])
      rw [if_pos c, if_pos c]
      have hj := (jmp_ok t c).1.1
      by_cases e : k = f
      · rw [e]
      · have z := ih (jmp t i) (by omega)
        rw [z]
        have : ∀ g, t.length - jmp t i ≤ g → g ≤ f → prtF t g (jmp t i) = prtF t (t.length - jmp t i) (jmp t i) := by
          intro g
          induction g with
          | zero =>
            intro h1 _
            have e : t.length - jmp t i = 0 := by omega
            rw [e]
          | succ g ih2 =>
            intro h1 h2
            by_cases d : t.length - jmp t i = g + 1
            · rw [d]
            · by_cases e2 : g + 1 = f
              · rw [e2, ← z]
              · -- one more turn does not matter
                have w : ∀ (a b x : Nat), t.length - x ≤ a → t.length - x ≤ b → prtF t a x = prtF t b x := by
                  intro a
                  induction a with
                  | zero =>
                    intro b x h1 h2
                    have hx : ¬ x < t.length := by omega
                    cases b with
                    | zero => rfl
                    | succ b =>
                      show [] = (if x < t.length then _ else [])
                      rw [if_neg hx]
                  | succ a iha =>
                    intro b x h1 h2
                    by_cases hx : x < t.length
                    · cases b with
                      | zero => omega
                      | succ b =>
                        show (if x < t.length then _ else []) = (if x < t.length then _ else [])
                        rw [if_pos hx, if_pos hx]
                        have := (jmp_ok t hx).1.1
                        rw [iha b (jmp t x) (by omega) (by omega)]
                    · cases b with
                      | zero =>
                        show (if x < t.length then _ else []) = []
                        rw [if_neg hx]
                      | succ b =>
                        show (if x < t.length then _ else []) = (if x < t.length then _ else [])
                        rw [if_neg hx, if_neg hx]
                exact w _ _ _ h1 (Nat.le_refl _)
        rw [this k (by omega) (by omega)]
    · have e : t.length - i = 0 := by omega
      rw [e]
      show (if i < t.length then _ else []) = []
      rw [if_neg c]
theorem prt_end (t : List Nat) : prt t t.length = [] := by
  unfold prt
  rw [Nat.sub_self]
  rfl
theorem prt_step {t : List Nat} {i : Nat} (h : i < t.length) : prt t i = str t i (jmp t i) :: prt t (jmp t i) := by
  unfold prt
  obtain ⟨k, hk⟩ : ∃ k, t.length - i = k + 1 := ⟨t.length - i - 1, by omega⟩
  rw [hk]
  show (if i < t.length then str t i (jmp t i) :: prtF t k (jmp t i) else []) = _
  have := (jmp_ok t h).1.1
  rw [if_pos h, prtF_eq t k (jmp t i) (by omega)]
theorem prt_need (t : List Nat) : ∀ k, k ≤ t.length → (prt t (t.length - k)).length = need t (t.length - k) := by
  intro k
  induction k using Nat.strongRecOn with
  | ind k ih =>
    intro h
    by_cases c : k = 0
    · rw [c, Nat.sub_zero, prt_end, need_end]
      rfl
    · have hi : t.length - k < t.length := by omega
      obtain ⟨⟨a, b, _⟩, e, _⟩ := jmp_ok t hi
      rw [prt_step hi, List.length_cons, e]
      have z := ih (t.length - jmp t (t.length - k)) (by omega) (by omega)
      have y : t.length - (t.length - jmp t (t.length - k)) = jmp t (t.length - k) := by omega
      rw [y] at z
      omega
theorem prt_len {t : List Nat} {i : Nat} (h : i ≤ t.length) : (prt t i).length = need t i := by
  have z := prt_need t (t.length - i) (by omega)
  have e : t.length - (t.length - i) = i := by omega
  rw [e] at z
  exact z
theorem need_le (t : List Nat) : ∀ k, k ≤ t.length → need t (t.length - k) ≤ k := by
  intro k
  induction k using Nat.strongRecOn with
  | ind k ih =>
    intro h
    by_cases c : k = 0
    · rw [c, Nat.sub_zero, need_end]
      exact Nat.le_refl _
    · have hi : t.length - k < t.length := by omega
      obtain ⟨⟨a, b, _⟩, e, _⟩ := jmp_ok t hi
      have z := ih (t.length - jmp t (t.length - k)) (by omega) (by omega)
      have y : t.length - (t.length - jmp t (t.length - k)) = jmp t (t.length - k) := by omega
      rw [y] at z
      omega
theorem need_le' {t : List Nat} {i : Nat} (h : i ≤ t.length) : need t i ≤ t.length - i := by
  have z := need_le t (t.length - i) (by omega)
  have e : t.length - (t.length - i) = i := by omega
  rw [e] at z
  exact z
theorem prt_flat (t : List Nat) : ∀ k, k ≤ t.length → (prt t (t.length - k)).flatten = t.drop (t.length - k) := by
  intro k
  induction k using Nat.strongRecOn with
  | ind k ih =>
    intro h
    by_cases c : k = 0
    · rw [c, Nat.sub_zero, prt_end, List.drop_length]
      rfl
    · have hi : t.length - k < t.length := by omega
      obtain ⟨⟨a, b, _⟩, e, _⟩ := jmp_ok t hi
      rw [prt_step hi, List.flatten_cons]
      have z := ih (t.length - jmp t (t.length - k)) (by omega) (by omega)
      have y : t.length - (t.length - jmp t (t.length - k)) = jmp t (t.length - k) := by omega
      rw [y] at z
      rw [z]
      unfold str
      have w : t.drop (jmp t (t.length - k)) = (t.drop (t.length - k)).drop (jmp t (t.length - k) - (t.length - k)) := by
        rw [List.drop_drop]
        congr 1
        omega
      rw [w, List.take_append_drop]
theorem prt_flat0 (t : List Nat) : (prt t 0).flatten = t := by
  have z := prt_flat t t.length (Nat.le_refl _)
  rw [Nat.sub_self, List.drop_zero] at z
  exact z
/-- the ends of the mirror words that begin at i -/
def endsL (t : List Nat) (i : Nat) : List Nat := ((List.range (t.length - i)).map (i + 1 + ·)).filter fun j => pal (str t i j)
theorem mem_endsL {t : List Nat} {i j : Nat} : j ∈ endsL t i ↔ Ed t i j := by
  unfold endsL Ed
  rw [List.mem_filter, List.mem_map]
  constructor
  · rintro ⟨⟨k, h1, h2⟩, h3⟩
    have := List.mem_range.mp h1
    exact ⟨by omega, by omega, h3⟩
  · rintro ⟨h1, h2, h3⟩
    exact ⟨⟨j - i - 1, List.mem_range.mpr (by omega), by omega⟩, h3⟩
theorem endsL_len (t : List Nat) (i : Nat) : (endsL t i).length ≤ t.length := by
  unfold endsL
  refine Nat.le_trans (List.length_filter_le _ _) ?_
  rw [List.length_map, List.length_range]
  omega
theorem cut_str {t : List Nat} {i j : Nat} (h1 : i ≤ t.length) (h2 : j ≤ t.length) : cutS (T t) (some (i : Int)) (some (j : Int)) = T (str t i j) := by
  rw [cutS_T, HT.sIx_nat, HT.sIx_nat, Nat.min_eq_left h1, Nat.min_eq_left h2]
  rfl
theorem str_len {t : List Nat} {i j : Nat} : (str t i j).length ≤ t.length := by
  unfold str
  rw [List.length_take, List.length_drop]
  omega
theorem join_txt (ts : List (List Nat)) : Txt.join (Str.ofString "") (ts.map T) = T ts.flatten := by
  refine TL.ext_tl ?_
  rw [TL.join_eq, TL.tl_join, tl_T]
  have e : TL.tl (Str.ofString "") = [] := rfl
  rw [e]
  induction ts with
  | nil => rfl
  | cons c r ih =>
    cases r with
    | nil =>
      show c = c ++ []
      rw [List.append_nil]
    | cons d r =>
      show c ++ ([] ++ TL.joinL [] (((d :: r).map T).map TL.tl)) = c ++ (d :: r).flatten
      rw [ih]
      rfl
def spEndsF : Sp := fun vs H Q _ => ∃ (t : List Nat) (i : Nat), vs = [.str (T t), .int (i : Int)] ∧ t.length ≤ 200 ∧ i ≤ t.length ∧ ∀ H' p, Same H H' → H p = none → H' p = some (.lst ((endsL t i).map nV)) → Q (.ref p) H'
def spNeeded : Sp := fun vs H Q _ => ∃ t : List Nat, vs = [.str (T t)] ∧ t.length ≤ 200 ∧ ∀ (H' : Hp) (p : Addr) (M : List Nat), Same H H' → H p = none → H' p = some (.lst (M.map nV)) → M.length = t.length + 1 → (∀ x, x ≤ t.length → M[x]? = some (need t x)) → Q (.ref p) H'
def spFewest (K : PySem.W.Frag) (P BT : Addr) : Sp := fun vs H Q E => ∃ x, vs = [x] ∧ GxR.TabG H P ∧ Thing K H x ∧ (isT x = false → ∀ H', GxR.Tabbed P H H' → E (.ref BT) none H') ∧
  (isT x = true → ∀ l, x = .str (T l) → l.length ≤ 200 → ∀ H' p, Kp P H H' → H p = none → H' p = some (.lst ((prt l 0).map sV)) → Q (.ref p) H')
def spLFewest : Sp := fun vs H Q _ => ∃ t : List Nat, vs = [.str (T t)] ∧ t.length ≤ 200 ∧ ∀ H' p, Same H H' → H' p = some (.lst ((prt t 0).map sV)) → Q (.ref p) H'
/-- texts as data -/
def dS (l : List Nat) : PyData := .str (T l)
theorem dp_txts {K : PySem.W.Frag} {H : Hp} : ∀ ts : List (List Nat), DpAll K H (ts.map sV) (ts.map dS)
  | [] => .nil
  | t :: r => .cons (.str _) (dp_txts r)
theorem strOk_az {t : List Nat} (h : t.all az = true) : (dS t).canLay0 = true := by
  show (t.toArray).all (· < 0x110000) = true
  rw [List.all_toArray, List.all_eq_true]
  intro c hc
  have z := List.all_eq_true.mp h c hc
  unfold az at z
  rw [Bool.and_eq_true, decide_eq_true_eq, decide_eq_true_eq] at z
  exact decide_eq_true (by omega)
theorem okd_txts {ts : List (List Nat)} (h : ∀ t ∈ ts, t.all az = true) : ∀ d ∈ ts.map dS, Okd d := fun d hd => by
  obtain ⟨t, ht, rfl⟩ := List.mem_map.mp hd
  exact ⟨strOk_az (h t ht), Nat.zero_le _⟩
theorem prt_az {t : List Nat} (h : t.all az = true) {i : Nat} (hi : i ≤ t.length) : ∀ w ∈ prt t i, w.all az = true := fun w hw => by
  have z := prt_flat t (t.length - i) (by omega)
  have e : t.length - (t.length - i) = i := by omega
  rw [e] at z
  rw [List.all_eq_true] at h ⊢
  intro c hc
  have m : c ∈ (prt t i).flatten := List.mem_flatten.mpr ⟨w, hw, hc⟩
  rw [z] at m
  exact h c (List.mem_of_mem_drop m)
theorem txts_eq {K : PySem.W.Frag} {ts : List (List Nat)} (h : ∀ t ∈ ts, t.all az = true) : PyData.eqv (.list (ts.map dS)) (.list (ts.map dS)) = true :=
  SeqAt.eqv_refl _ (SeqAt.canLay_of_shaped (shaped_list (okd_txts h)))
end Mw
namespace Mw
open PySem PySem.Spec PyProof.Rows L2
def topS (i : Nat) : Stmt := PySem.Challenge.pw_mirrorwords_k06_fewest_words.main.body.getD i (.Pass ⟨0, 0, 0, 0⟩)
abbrev sIs : Stmt := topS 11 -- is_text
abbrev sAlike : Stmt := topS 12 -- reads_alike
abbrev sRNT : Stmt := topS 13 -- refuse_no_text
abbrev sFewest : Stmt := topS 15 -- fewest
abbrev sNeeded : Stmt := topS 16 -- words_needed
abbrev sEndsF : Stmt := topS 17 -- ends_from
abbrev sDraw : Stmt := topS 19 -- _law_draw
abbrev sText : Stmt := topS 20 -- _law_text
abbrev sLFewest : Stmt := topS 21 -- _law_fewest
abbrev sRef : Stmt := topS 22 -- _law_refused
abbrev sLaw : Stmt := topS 23 -- law
end Mw
namespace Mw
open PySem PySem.Spec PyProof.Rows L2
/-! ### is_text -/
theorem scIs : FnScope ["thing"] ["thing"] (defScope sIs) := ⟨rfl, rfl, rfl, by decide +kernel, rfl, by decide +kernel, by decide +kernel⟩
section
variable {Pr : Program} {w : World} {K : PySem.W.Frag} {mg : Str → Option Value} {base : Heap} {P : Addr}
theorem ok_is {f c : Addr} {fd : FuncData} {tm : Tok} (F : Fun K "is_text" "is_text" sIs f fd) (hcode : fd.code = .ref c) (TB : GxR.TabB base mg c P) (mi : mg "isinstance" = none) (ml : mg "len" = none) (ma : mg "all" = none) (ms : mg "str" = none)
    (mm : mg "MOST" = some (.int 200 tm)) : FnOk Pr w K mg base CX0 1 f fd ["thing"] (spIs K P) := by
  refine okC F scIs (fun vs H Q E h => ?_) (fun A outer s H vs Q E hr h => ?_)
  · obtain ⟨x, rfl, _⟩ := h
    rfl
  · obtain ⟨x, rfl, tab, th, q⟩ := h
    refine ⟨_, pss_one (ps_ret (pe_and (pe_callB call_isi (by rfl) mi boot_isinstance (pa_cons (pv 0) (pa_cons (pe_bltn (v := .ty "str") (by rfl) ms PyProof.Rows.boot_str rfl) pa_nil)))
      (pe_and (pe_cmpR op_le (pe_callB call_len_str (by rfl) ml PySem.boot_len (pa_cons (pv 0) pa_nil)) (pe_glob (v := .int 200) (by rfl) mm ⟨_, rfl⟩) (nomark _))
      (pe_one (GxR.pe_allS hr (by rfl) ma boot_all TB hcode (genS rfl rfl (by decide +kernel) rfl rfl) (pv 0) (elt_az rfl rfl) (fun _ => rfl)))))), ?_⟩
    cases th with
    | other t k no =>
      refine ⟨x, rfl, x, .ty "str", _, _, false, rfl, .ty _, t, kit_ty k, false, rfl, iteF ?_⟩
      have z := q H ⟨tab, fun _ _ => rfl⟩
      rw [no] at z
      exact z
    | text l hl =>
      refine ⟨.str (T l), rfl, .str (T l), .ty "str", _, _, true, rfl, .ty _, .base (.str _), kit_ty (by decide +kernel), true, rfl, iteT ?_⟩
      refine ⟨.str (T l), rfl, T l, rfl, by rw [T_len]; exact hl, _, 200, rfl, rfl, _, rfl, ?_⟩
      by_cases h : l.length ≤ 200
      · have e : decide (((T l).length : Int) ≤ 200) = true := decide_eq_true (by rw [T_len]; omega)
        rw [e]
        refine iteT ⟨.str (T l), rfl, T l, rfl, tab, fun H2 hT => ?_⟩
        have z := q H2 hT
        have e2 : isT (.str (T l)) = (T l).cps.toList.all az := by
          show (decide ((T l).length ≤ 200) && l.all az) = l.all az
          rw [T_len, decide_eq_true h, Bool.true_and]
        rw [e2] at z
        exact z
      · have e : decide (((T l).length : Int) ≤ 200) = false := decide_eq_false (by rw [T_len]; omega)
        rw [e]
        refine iteF ?_
        have z := q H ⟨tab, fun _ _ => rfl⟩
        have e2 : isT (.str (T l)) = false := by
          show (decide ((T l).length ≤ 200) && l.all az) = false
          rw [T_len, decide_eq_false h, Bool.false_and]
        rw [e2] at z
        exact z
end
end Mw
namespace Mw
open PySem PySem.Spec PyProof.Rows L2

/-! ### what is no text is refused -/
theorem scRNT : FnScope ["text"] ["text"] (defScope sRNT) := ⟨rfl, rfl, rfl, by decide +kernel, rfl, by decide +kernel, by decide +kernel⟩
section
variable {Pr : Program} {w : World} {K : PySem.W.Frag} {mg : Str → Option Value} {base : Heap} {P BT fI : Addr} {dI : FuncData}
theorem ok_rnt {f : Addr} {fd : FuncData} (F : Fun K "refuse_no_text" "refuse_no_text" sRNT f fd) (FI : Fn Pr w K mg base CX0 1 "is_text" fI dI ["thing"] (spIs K P)) (EB : ErrC K mg "BadText" BT) :
    FnOk Pr w K mg base (L2.CX Pr w) 2 f fd ["text"] (spNoT K P BT) := by
  refine F.okX scRNT (fun vs H Q E h => ?_) (fun cdv A outer s H vs Q E hr h => ?_)
  · obtain ⟨x, rfl, _⟩ := h
    rfl
  · obtain ⟨x, rfl, tab, th, qE, q⟩ := h
    refine ⟨_, pss_one (ps_if (pt_not (pt_val (pe_call FI.ok hr (by rfl) FI.g FI.k FI.b .nil pass0 (pa_cons (pv 0) pa_nil))))
        (pss_one (ps_raise rfl (takes_of rfl rfl rfl rfl) (pmk_own PySem.F.excBase_ValueError EB.x EB.g EB.k (raises_own EB.b EB.t) (by rfl)))) pss_nil), ?_⟩
    refine ⟨_, rfl, x, rfl, tab, th, fun H1 hT => ⟨isT x, rfl, ?_⟩⟩
    cases e : isT x with
    | false => exact iteT (qE e H1 hT)
    | true => exact iteF (q e H1 hT)
end
end Mw
namespace Mw
open PySem PySem.Spec PyProof.Rows L2

/-! ### the same from behind -/
theorem scAlike : FnScope ["text"] ["text"] (defScope sAlike) := ⟨rfl, rfl, rfl, by decide +kernel, rfl, by decide +kernel, by decide +kernel⟩
section
variable {Pr : Program} {w : World} {K : PySem.W.Frag} {mg : Str → Option Value} {base : Heap}
theorem ok_alike {f : Addr} {fd : FuncData} (F : Fun K "reads_alike" "reads_alike" sAlike f fd) : FnOk Pr w K mg base CX0 1 f fd ["text"] spAlike := by
  refine F.ok scAlike (fun vs H Q E h => ?_) (fun cdv A outer s H vs Q E hr h => ?_)
  · obtain ⟨l, rfl, _⟩ := h
    rfl
  · obtain ⟨l, rfl, hl, q⟩ := h
    refine ⟨_, pss_one (ps_ret (pe_cmpR op_eq (pv 0) (pe_revS (pv 0)) (nomark _))), _, rfl, _, rfl, l, rfl, hl, rfl, ?_⟩
    rw [T_dec]
    exact q
end
end Mw
namespace Mw
open PySem PySem.Spec PyProof.Rows L2

/-! ### a text parted -/
abbrev nEndsF : List Str := ["text", "start", "end"]
theorem scEndsF : FnScope nEndsF ["text", "start"] (defScope sEndsF) := ⟨rfl, rfl, rfl, by decide +kernel, rfl, by decide +kernel, by decide +kernel⟩
abbrev nNeeded : List Str := ["text", "needed", "start", "end"]
theorem scNeeded : FnScope nNeeded ["text"] (defScope sNeeded) := ⟨rfl, rfl, rfl, by decide +kernel, rfl, by decide +kernel, by decide +kernel⟩
abbrev nFewest : List Str := ["text", "needed", "parted", "start", "stop", "end"]
theorem scFewest : FnScope nFewest ["text"] (defScope sFewest) := ⟨rfl, rfl, rfl, by decide +kernel, rfl, by decide +kernel, by decide +kernel⟩
theorem lst_nat {xs : List Nat} {i : Nat} {x : V} (h : (xs.map nV)[i]? = some x) : ∃ z, xs[i]? = some z ∧ x = nV z := by
  rw [List.getElem?_map] at h
  cases e : xs[i]? with
  | none =>
    rw [e] at h
    cases h
  | some z =>
    rw [e] at h
    exact ⟨z, rfl, (Option.some.inj h).symm⟩
section
variable {Pr : Program} {w : World} {K : PySem.W.Frag} {mg : Str → Option Value} {base : Heap} {P BT fA fE fN fT : Addr} {dA dE dN dT : FuncData}
theorem ok_endsF {f : Addr} {fd : FuncData} (F : Fun K "ends_from" "ends_from" sEndsF f fd) (FA : Fn Pr w K mg base CX0 1 "reads_alike" fA dA ["text"] spAlike) (ml : mg "len" = none) (mr : mg "range" = none) : FnOk Pr w K mg base CX0 2 f fd ["text", "start"] spEndsF := by
  refine F.ok scEndsF (fun vs H Q E h => ?_) (fun cdv A outer s H vs Q E hr h => ?_)
  · obtain ⟨t, i, rfl, _⟩ := h
    rfl
  · obtain ⟨t, i, rfl, ht, hi, q⟩ := h
    refine ⟨_, pss_one (ps_ret (pe_lc (own := [("end", 2)]) (g := gName 2) rfl scEndsF.nd (pi_range2 (by rfl) mr (pa_cons (pe_op op_add (pv 1) pe_int) (pa_cons (pe_op op_add (pe_callB call_len_str (by rfl) ml PySem.boot_len (pa_cons (pv 0) pa_nil)) pe_int) pa_nil)))
      (blkOk_by (own := [("end", 2)]) (N := nEndsF) (sc := defScope sEndsF) (by decide +kernel)) (fun _ _ _ _ _ => pg_name (i := 2) scEndsF.nd rfl (Or.inl rfl))
      (fun _ _ _ _ _ => pts_one (pt_val (pe_call FA.ok hr (by rfl) FA.g FA.k FA.b .nil pass0 (pa_cons (pe_slice sl_str (pv 0) (po_some (pv 1)) (po_some (pv 2))) pa_nil)))) (fun _ _ _ _ _ => pv 2))), ?_⟩
    have tT : (T t).length ≤ sizeLine := by
      rw [T_len]
      exact small200 ht
    have en : (((T t).length : Int) + 1 - ((i : Int) + 1)).toNat = t.length - i := by
      rw [T_len]
      omega
    refine ⟨_, rfl, _, 1, rfl, rfl, _, rfl, T t, rfl, tT, _, 1, rfl, rfl, (i : Int) + 1, ((T t).length : Int) + 1, rfl, ⟨by omega, by omega, by rw [T_len]; omega, by rw [T_len]; omega⟩, fun D hD => ?_⟩
    show ∃ W : Nat → Nat → Hp → Prop, (∃ m, W 0 m (upd H D (.lst []))) ∧ ∀ k m H, W k m H → ((Itr ((i : Int) + 1) (((T t).length : Int) + 1 - ((i : Int) + 1)).toNat).stop k H ∧ _) ∨ ((Itr ((i : Int) + 1) (((T t).length : Int) + 1 - ((i : Int) + 1)).toNat).go k H ∧ _)
    rw [en]
    refine lc_range (lo := (i : Int) + 1) (n := t.length - i) (fun k H' => Same H H' ∧ H' D = some (.lst ((((List.range k).map (i + 1 + ·)).filter fun j => pal (str t i j)).map nV))) ⟨same_upd hD, upd_same⟩ (fun k H' hk hW => ?_) (fun H' hW => ?_)
    · obtain ⟨sm, hd⟩ := hW
      have ej : (i : Int) + 1 + (k : Int) = ((i + 1 + k : Nat) : Int) := by omega
      refine ⟨rfl, _, rfl, _, rfl, _, rfl, _, rfl, _, rfl, T t, rfl, tT, ?_⟩
      have ec : cutS (T t) (some (i : Int)) (some ((i : Int) + 1 + (k : Int))) = T (str t i (i + 1 + k)) := by
        rw [ej, cut_str hi (by omega)]
      rw [ec]
      refine ⟨str t i (i + 1 + k), rfl, Nat.le_trans str_len (small200 ht), _, rfl, ?_⟩
      have ln : ((((List.range k).map (i + 1 + ·)).filter fun j => pal (str t i j)).map nV).length ≤ 1000 := by
        rw [List.length_map]
        refine Nat.le_trans (List.length_filter_le _ _) ?_
        rw [List.length_map, List.length_range]
        omega
      have er : ((List.range (k + 1)).map (i + 1 + ·)).filter (fun j => pal (str t i j)) = (((List.range k).map (i + 1 + ·)).filter fun j => pal (str t i j)) ++ if pal (str t i (i + 1 + k)) = true then [i + 1 + k] else [] := by
        rw [List.range_succ, List.map_append, List.filter_append]
        congr 1
        by_cases c : pal (str t i (i + 1 + k)) = true
        · rw [if_pos c]
          simp [c]
        · rw [if_neg c]
          simp [c]
      rw [er]
      cases cp : pal (str t i (i + 1 + k)) with
      | true =>
        refine iteT ⟨_, rfl, _, hd, small1000 ln, fun b u e => ?_, ?_⟩
        · rw [upd_ne (ne_of_none e hD)]
          exact sm b u e
        · rw [upd_same, if_pos rfl, List.map_append, ej]
          rfl
      | false =>
        refine iteF ⟨sm, ?_⟩
        rw [if_neg Bool.false_ne_true, List.append_nil]
        exact hd
    · obtain ⟨sm, hd⟩ := hW
      exact q H' D sm hD hd
theorem ok_needed {f : Addr} {fd : FuncData} (F : Fun K "words_needed" "words_needed" sNeeded f fd) (FE : Fn Pr w K mg base CX0 2 "ends_from" fE dE ["text", "start"] spEndsF) (ml : mg "len" = none) (mr : mg "range" = none) (mv : mg "reversed" = none) (mn : mg "min" = none) :
    FnOk Pr w K mg base CX0 3 f fd ["text"] spNeeded := by
  refine F.ok scNeeded (fun vs H Q E h => ?_) (fun cdv A outer s H vs Q E hr h => ?_)
  · obtain ⟨t, rfl, _⟩ := h
    rfl
  · obtain ⟨t, rfl, ht, q⟩ := h
    refine ⟨_, pss_cons (ps_set (i := 1) scNeeded.nd rfl (.inr rfl) (pe_op op_rep (pe_lst (pa_cons pe_int pa_nil)) (pe_op op_add (pe_callB call_len_str (by rfl) ml PySem.boot_len (pa_cons (pv 0) pa_nil)) pe_int))) <|
      pss_cons (ps_for PassesOwn.never rfl (pi_revR (by rfl) mv (prg_1 (by rfl) mr (pe_callB call_len_str (by rfl) ml PySem.boot_len (pa_cons (pv 0) pa_nil)))) (pg_name (i := 2) scNeeded.nd rfl (.inl rfl))
        (pss_one (ps_asg (pe_op op_add pe_int (pe_callB (cr_min rfl) (by rfl) mn (by decide +kernel) (pa_cons (pe_lc (own := [("end", 3)]) (g := gName 3) (tt := tYes) rfl scNeeded.nd
            (pi_list (pe_call FE.ok hr (by rfl) FE.g FE.k FE.b .nil pass0 (pa_cons (pv 0) (pa_cons (pv 2) pa_nil)))) (blkOk_by (own := [("end", 3)]) (N := nNeeded) (sc := defScope sNeeded) (by decide +kernel))
            (fun _ _ _ _ _ => pg_name (i := 3) scNeeded.nd rfl (Or.inl rfl)) (fun _ _ _ _ _ => pts_nil) (fun _ _ _ _ _ => pe_ix (r := rIxL K) ix_list (pv 1) (pv 3) (fun _ _ => rfl))) pa_nil)))
          (pg_sub (pv 1) (pv 2) set_list)))) <|
      pss_one (ps_ret (pv 1)), ?_⟩
    have tT : (T t).length ≤ sizeLine := by
      rw [T_len]
      exact small200 ht
    have e1 : (((T t).length : Int) + 1).toNat = t.length + 1 := by
      rw [T_len]
      omega
    refine ⟨by show 1 ≤ sizeLine; decide, fun p0 hp0 => ?_⟩
    have s0 : Same H (upd H p0 (.lst [.int 0])) := same_upd hp0
    have h0 : (upd H p0 (.lst [.int 0])) p0 = some (.lst [.int 0]) := upd_same
    generalize upd H p0 (.lst [.int 0]) = H0 at *
    refine ⟨_, rfl, T t, rfl, tT, _, 1, rfl, rfl, p0, _, _, rfl, rfl, h0, by rw [T_len]; omega, by rw [T_len]; omega, ?_, fun M0 hM0 => ?_⟩
    · rw [e1]
      exact Nat.le_of_lt (small1000 (show 1 * (t.length + 1) ≤ 1000 by omega))
    have hM0' : H M0 = none := by
      cases z : H M0 with
      | none => rfl
      | some o =>
        rw [s0 _ _ z] at hM0
        cases hM0
    have s1 : Same H (upd H0 M0 (.lst (List.replicate (((T t).length : Int) + 1).toNat [V.int 0]).flatten)) := s0.trans (same_upd hM0)
    have m0 : (upd H0 M0 (.lst (List.replicate (((T t).length : Int) + 1).toNat [V.int 0]).flatten)) M0 = some (.lst ((List.replicate (t.length + 1) 0).map nV)) := by
      rw [upd_same, e1]
      have rep : ∀ k, (List.replicate k [V.int 0]).flatten = (List.replicate k 0).map nV := fun k => by
        induction k with
        | zero => rfl
        | succ k ih =>
          rw [List.replicate_succ, List.replicate_succ, List.flatten_cons, ih]
          rfl
      rw [rep]
    generalize upd H0 M0 (.lst (List.replicate (((T t).length : Int) + 1).toNat [V.int 0]).flatten) = H1 at *
    have en : (((T t).length : Int) - 0).toNat = t.length := by
      rw [T_len]
      omega
    refine ⟨_, rfl, T t, rfl, tT, ((T t).length : Int), rfl, by decide, by decide, by rw [T_len]; omega, by rw [T_len]; omega, ?_⟩
    rw [en]
    refine for_rangeC (lo := 0 + ((t.length : Nat) : Int) - 1) (c := -1) (n := t.length) (fun k σ H' => Same H H' ∧ ∃ (M : List Nat) (y2 : Option V), σ = [some (.str (T t)), some (.ref M0), y2, none] ∧ H' M0 = some (.lst (M.map nV)) ∧ M.length = t.length + 1 ∧ ∀ x, t.length - k ≤ x → x ≤ t.length → M[x]? = some (need t x))
      ⟨s1, _, none, rfl, m0, List.length_replicate, fun x h1 h2 => ?_⟩ (fun k σ H' hk hW => ?_) (fun σ H' hW => ?_)
    · have e : x = t.length := by omega
      rw [e, List.getElem?_replicate, if_pos (by omega), need_end]
    · obtain ⟨sm, M, y2, rfl, hm, hl, hM⟩ := hW
      have ei : 0 + ((t.length : Nat) : Int) - 1 + (k : Int) * (-1) = ((t.length - 1 - k : Nat) : Int) := by omega
      have hi : t.length - 1 - k < t.length := by omega
      generalize hii : t.length - 1 - k = i at *
      refine ⟨_, rfl, _, rfl, t, i, by rw [ei]; rfl, ht, by omega, fun H2 L2 s2 hL2 h2 => ?_⟩
      refine ⟨L2, rfl, ⟨_, .inl (.inl h2)⟩, fun D hD => ?_⟩
      have hm2 := s2 _ _ hm
      refine lc_list (K := K) (a := L2) (xs := (endsL t i).map nV) (fun m H3 => Same H2 H3 ∧ H3 D = some (.lst ((((endsL t i).take m).map fun j => ((need t j : Nat) : Int)).map V.int))) ⟨same_upd hD, upd_same⟩ (fun m H3 _ hW => .inl (.inl (hW.1 _ _ h2))) (fun m x H3 hx hW => ?_) (fun H3 hW => ?_)
      · obtain ⟨s3, hd⟩ := hW
        obtain ⟨z, hz, rfl⟩ := lst_nat hx
        obtain ⟨z1, z2, _⟩ := mem_endsL.mp (List.mem_of_getElem? hz)
        refine ⟨rfl, _, rfl, _, rfl, M0, _, _, _, rfl, rfl, .inl (.inl (s3 _ _ hm2)), atI_nat (nats_at (hM z (by omega) z2)), _, hd, ?_, fun b u e => ?_, ?_⟩
        · rw [List.length_map, List.length_map, List.length_take]
          exact small1000 (by have := endsL_len t i; omega)
        · rw [upd_ne (ne_of_none e hD)]
          exact s3 b u e
        · rw [upd_same, take_succ_of hz, List.map_append, List.map_append]
          rfl
      · obtain ⟨s3, hd⟩ := hW
        rw [List.length_map, List.take_length] at hd
        obtain ⟨j, hj1, hj2, hj3⟩ := need_jp t hi
        refine ⟨D, _, rfl, .inl (.inl hd), ?_, fun m hm1 hm2' => ?_⟩
        · rw [List.length_map]
          exact List.length_pos_of_mem (mem_endsL.mpr hj1)
        · obtain ⟨j', hj', rfl⟩ := List.mem_map.mp hm1
          have le1 := hm2' _ (List.mem_map.mpr ⟨j, mem_endsL.mpr hj1, rfl⟩)
          have le2 := (hj3 j' (mem_endsL.mp hj')).1
          have e3 : (1 : Int) + ((need t j' : Nat) : Int) = ((need t i : Nat) : Int) := by omega
          refine ⟨1, _, rfl, rfl, _, rfl, _, rfl, M0, M.map nV, _, i, rfl, rfl, s3 _ _ hm2, ?_, fun b u e => ?_, M.set i (need t i), _, rfl, ?_, ?_, fun x h1 h2 => ?_⟩
          · rw [ei, List.length_map, hl]
            exact ixNat (by omega)
          · rw [upd_ne (ne_of_none e hM0')]
            exact s3 b u (s2 b u (sm b u e))
          · rw [upd_same]
            show some (HO.lst ((M.map nV).set i (V.int (1 + ((need t j' : Nat) : Int))))) = _
            rw [e3]
            show some (HO.lst ((M.map nV).set i (nV (need t i)))) = _
            rw [set_nats]
          · rw [List.length_set, hl]
          · by_cases c : x = i
            · rw [c, List.getElem?_set_self (by omega)]
            · rw [List.getElem?_set_ne (by omega)]
              exact hM x (by omega) h2
    · obtain ⟨sm, M, y2, rfl, hm, hl, hM⟩ := hW
      exact ⟨_, rfl, q H' M0 M sm hM0' hm hl fun x hx => hM x (by omega) hx⟩
theorem ok_fewest {f : Addr} {fd : FuncData} (F : Fun K "fewest" "fewest" sFewest f fd) (FT : Fn Pr w K mg base (L2.CX Pr w) 2 "refuse_no_text" fT dT ["text"] (spNoT K P BT)) (FN : Fn Pr w K mg base CX0 3 "words_needed" fN dN ["text"] spNeeded)
    (FE : Fn Pr w K mg base CX0 2 "ends_from" fE dE ["text", "start"] spEndsF) (ml : mg "len" = none) (mx : mg "max" = none) : FnOk Pr w K mg base (L2.CX Pr w) 4 f fd ["text"] (spFewest K P BT) := by
  refine F.okX scFewest (fun vs H Q E h => ?_) (fun cdv A outer s H vs Q E hr h => ?_)
  · obtain ⟨x, rfl, _⟩ := h
    rfl
  · obtain ⟨x, rfl, tab, th, qE, q⟩ := h
    refine ⟨_, pss_cons (ps_expr (pe_call (E := E) FT.ok (hr.mono (by decide)) (by rfl) FT.g FT.k FT.b .nil (passes_call (takes_of rfl rfl rfl rfl) (fun _ _ _ _ h => h)) (pa_cons (pv 0) pa_nil))) <|
      PSs.nox <| pss_cons (ps_set (i := 1) scFewest.nd rfl (.inr rfl) (pe_call FN.ok hr (by rfl) FN.g FN.k FN.b .nil pass0 (pa_cons (pv 0) pa_nil))) <|
      pss_cons (ps_set (i := 2) scFewest.nd rfl (.inl rfl) (pe_lst pa_nil)) <|
      pss_cons (ps_set (i := 3) scFewest.nd rfl (.inr rfl) pe_int) <|
      pss_cons (ps_while PassesOwn.never (pt_cmpR op_lt (pv 3) (pe_callB call_len_str (by rfl) ml PySem.boot_len (pa_cons (pv 0) pa_nil)) (nomark _))
        (pss_cons (ps_set (i := 4) scFewest.nd rfl (.inl rfl) (pe_callB (cr_max rfl) (by rfl) mx (by decide +kernel) (pa_cons (pe_lc (own := [("end", 5)]) (g := gName 5) rfl scFewest.nd
            (pi_list (pe_call FE.ok (hr.mono (by decide)) (by rfl) FE.g FE.k FE.b .nil pass0 (pa_cons (pv 0) (pa_cons (pv 3) pa_nil)))) (blkOk_by (own := [("end", 5)]) (N := nFewest) (sc := defScope sFewest) (by decide +kernel))
            (fun _ _ _ _ _ => pg_name (i := 5) scFewest.nd rfl (Or.inl rfl)) (fun _ _ _ _ _ => pts_one (pt_cmpR op_eq (pe_ix (r := rIxL K) ix_list (pv 1) (pv 5) (fun _ _ => rfl)) (pe_op op_sub (pe_ix (r := rIxL K) ix_list (pv 1) (pv 3) (fun _ _ => rfl)) pe_int) (nomark _))) (fun _ _ _ _ _ => pv 5)) pa_nil))) <|
        pss_cons (ps_expr (pe_bm PySem.F.plainAttrs_list PySem.F.slot_list_append PySem.F.type_list_append mt_append (pv 2) (pa_cons (pe_slice sl_str (pv 0) (po_some (pv 3)) (po_some (pv 4))) pa_nil))) <|
        pss_one (ps_set (i := 3) scFewest.nd rfl (.inr rfl) (pv 4)))) <|
      pss_one (ps_ret (pv 2)), ?_⟩
    refine ⟨_, rfl, x, rfl, tab, th, qE, fun e H1 hT => ?_⟩
    cases th with
    | other _ _ no =>
      rw [no] at e
      cases e
    | text t ht0 =>
      have ht : t.length ≤ 200 := isT_le e
      have tT : (T t).length ≤ sizeLine := by
        rw [T_len]
        exact small200 ht
      have kp1 : Kp P H H1 := .tabbed hT
      refine ⟨_, rfl, t, rfl, ht, fun H2 M0 M s2 hM0 hm hl hM => ?_⟩
      have kp2 : Kp P H H2 := kp1.trans (.same kp1.tab s2)
      refine ⟨Nat.zero_le _, fun L0 hL0 => ?_⟩
      have kp3 : Kp P H (upd H2 L0 (.lst [])) := kp2.step hL0
      have hL0' : H L0 = none := kp2.free tab hL0
      have hLP : L0 ≠ P := new_ne kp2.tab hL0
      have hML : M0 ≠ L0 := ne_of_none hm hL0
      refine ⟨fun n σ H' => Kp P H H' ∧ H' M0 = some (.lst (M.map nV)) ∧ ∃ (x : Nat) (PL : List (List Nat)) (y4 : Option V), σ = [some (.str (T t)), some (.ref M0), some (.ref L0), some (.int (x : Int)), y4, none] ∧ H' L0 = some (.lst (PL.map sV)) ∧ x ≤ t.length ∧ PL.length ≤ x ∧ PL ++ prt t x = prt t 0 ∧ n = t.length - x,
        ⟨t.length, kp3, by rw [upd_ne hML]; exact hm, 0, [], none, rfl, upd_same, Nat.zero_le _, Nat.le_refl _, rfl, rfl⟩, fun n σ H' hW => ?_⟩
      obtain ⟨kp, hm', x, PL, y4, rfl, hL, hx, hPl, hP, rfl⟩ := hW
      refine ⟨_, rfl, _, rfl, T t, rfl, tT, _, _, rfl, rfl, _, rfl, ?_⟩
      show if decide ((x : Int) < ((T t).length : Int)) = true then _ else _
      rw [T_len]
      by_cases c : x < t.length
      · rw [decide_eq_true (show (x : Int) < ((t.length : Nat) : Int) by omega)]
        obtain ⟨⟨j1, j2, j3⟩, jn, jl⟩ := jmp_ok t c
        refine iteT ⟨fun σ' H2 => Kp P H H2 ∧ H2 M0 = some (.lst (M.map nV)) ∧ ∃ y4, σ' = [some (.str (T t)), some (.ref M0), some (.ref L0), some (.int (jmp t x : Int)), y4, none] ∧ H2 L0 = some (.lst ((PL ++ [str t x (jmp t x)]).map sV)), fun σ' H2 hN => ?_, ?_⟩
        · obtain ⟨k2, m2, y, e2, l2⟩ := hN
          refine ⟨t.length - jmp t x, by omega, k2, m2, jmp t x, PL ++ [str t x (jmp t x)], y, e2, l2, j2, ?_, ?_, rfl⟩
          · rw [List.length_append]
            show PL.length + 1 ≤ jmp t x
            omega
          · rw [← hP, prt_step c, List.append_assoc]
            rfl
        · refine ⟨_, rfl, _, rfl, t, x, rfl, ht, by omega, fun H3 E0 s3 hE0 h3 => ?_⟩
          refine ⟨E0, rfl, ⟨_, .inl (.inl h3)⟩, fun D hD => ?_⟩
          have kp3 : Kp P H H3 := kp.trans (.same kp.tab s3)
          have hm3 := s3 _ _ hm'
          have hL3 := s3 _ _ hL
          refine lc_list (K := K) (a := E0) (xs := (endsL t x).map nV) (fun m H4 => Same H3 H4 ∧ H4 D = some (.lst (((((endsL t x).take m).filter fun j => decide (need t j + 1 = need t x)).map fun j => ((j : Nat) : Int)).map V.int))) ⟨same_upd hD, upd_same⟩ (fun m H4 _ hW => .inl (.inl (hW.1 _ _ h3))) (fun m v H4 hv hW => ?_) (fun H4 hW => ?_)
          · obtain ⟨s4, hd⟩ := hW
            obtain ⟨z, hz, rfl⟩ := lst_nat hv
            obtain ⟨z1, z2, _⟩ := mem_endsL.mp (List.mem_of_getElem? hz)
            have hx1 : 1 ≤ need t x := by omega
            refine ⟨rfl, _, rfl, _, rfl, M0, _, _, _, rfl, rfl, .inl (.inl (s4 _ _ hm3)), atI_nat (nats_at (hM z z2)), _, rfl, _, rfl, M0, _, _, _, rfl, rfl, .inl (.inl (s4 _ _ hm3)), atI_nat (nats_at (hM x (by omega))), _, 1, rfl, rfl, rfl, _, rfl, ?_⟩
            have ed : decide (nV (need t z) = V.int (((need t x : Nat) : Int) - 1)) = decide (need t z + 1 = need t x) := by
              show decide (V.int ((need t z : Nat) : Int) = V.int (((need t x : Nat) : Int) - 1)) = _
              rw [dec_int]
              by_cases d : need t z + 1 = need t x
              · rw [decide_eq_true d, decide_eq_true (by omega)]
              · rw [decide_eq_false d, decide_eq_false (by omega)]
            show if decide (nV (need t z) = V.int (((need t x : Nat) : Int) - 1)) = true then _ else _
            rw [ed, take_succ_of hz, List.filter_append]
            cases cd : decide (need t z + 1 = need t x) with
            | true =>
              refine iteT ⟨_, rfl, _, hd, ?_, fun b u e => ?_, ?_⟩
              · rw [List.length_map, List.length_map]
                refine small1000 (Nat.le_trans (List.length_filter_le _ _) ?_)
                rw [List.length_take]
                have := endsL_len t x
                omega
              · rw [upd_ne (ne_of_none e hD)]
                exact s4 b u e
              · rw [upd_same, List.filter_cons_of_pos (by exact cd), List.filter_nil, List.map_append, List.map_append]
                rfl
            | false =>
              refine iteF ⟨s4, ?_⟩
              rw [List.filter_cons_of_neg (by rw [cd]; exact Bool.false_ne_true), List.filter_nil, List.append_nil]
              exact hd
          · obtain ⟨s4, hd⟩ := hW
            rw [List.length_map, List.take_length] at hd
            have jin : jmp t x ∈ (endsL t x).filter fun j => decide (need t j + 1 = need t x) := List.mem_filter.mpr ⟨mem_endsL.mpr ⟨j1, j2, j3⟩, decide_eq_true (by omega)⟩
            refine ⟨D, _, rfl, .inl (.inl hd), ?_, fun m hm1 hm2 => ?_⟩
            · rw [List.length_map]
              exact List.length_pos_of_mem jin
            · obtain ⟨z, hz, rfl⟩ := List.mem_map.mp hm1
              obtain ⟨z1, z2⟩ := List.mem_filter.mp hz
              have z2 := of_decide_eq_true z2
              have le := hm2 _ (List.mem_map.mpr ⟨jmp t x, jin, rfl⟩)
              have ez : z = jmp t x := by
                by_cases lt : jmp t x < z
                · have := (jl z (mem_endsL.mp z1)).2 lt
                  omega
                · omega
              subst ez
              have k4 : Kp P H H4 := kp3.trans (.same kp3.tab s4)
              refine ⟨_, rfl, .inl ⟨rfl, _, .inl (.inl (s4 _ _ hL3))⟩, _, rfl, _, rfl, _, rfl, _, rfl, _, rfl, T t, rfl, tT, L0, _, _, rfl, rfl, s4 _ _ hL3, ?_, _, rfl, k4.own hL0' hLP, ?_, _, rfl, ?_⟩
              · rw [List.length_map]
                exact small1000 (by omega)
              · rw [upd_ne hML]
                exact s4 _ _ hm3
              · rw [upd_same, cut_str (by omega) j2, List.map_append]
                rfl
      · rw [decide_eq_false (show ¬ (x : Int) < ((t.length : Nat) : Int) by omega)]
        have ex : x = t.length := by omega
        subst ex
        rw [prt_end, List.append_nil] at hP
        subst hP
        exact iteF ⟨_, rfl, q e t rfl ht H' L0 kp hL0' hL⟩
end
end Mw
namespace Mw
open PySem PySem.Spec PyProof.Rows L2

/-! ### a cell of the script, or nought -/
theorem scDraw : FnScope ["_law_script", "_law_k"] ["_law_script", "_law_k"] (defScope sDraw) := ⟨rfl, rfl, rfl, by decide +kernel, rfl, by decide +kernel, by decide +kernel⟩
section
variable {Pr : Program} {w : World} {K : PySem.W.Frag} {mg : Str → Option Value} {base : Heap}
theorem ok_draw {f : Addr} {fd : FuncData} (F : Fun K "_law_draw" "_law_draw" sDraw f fd) (ml : mg "len" = none) : FnOk Pr w K mg base CX0 1 f fd ["_law_script", "_law_k"] (spDraw K) := by
  refine F.ok scDraw (fun vs H Q E h => ?_) (fun cdv A outer s H vs Q E hr h => ?_)
  · obtain ⟨a, ns, k, rfl, _⟩ := h
    rfl
  · obtain ⟨a, ns, k, rfl, hS, q⟩ := h
    refine ⟨_, pss_one (ps_ret (pe_ifExp (pt_cmpR op_gt (pe_callB call_len_seq (by rfl) ml PySem.boot_len (pa_cons (pv 0) pa_nil)) (pv 1) (nomark _)) (pe_ix ix_list (pv 0) (pv 1) (fun _ _ => rfl)) pe_int)), ?_⟩
    refine ⟨.ref a, rfl, a, _, rfl, .inl hS, _, rfl, _, _, rfl, rfl, _, rfl, ?_⟩
    by_cases h : k < ns.length
    · rw [decide_eq_true (show (k : Int) < ((ns.map V.int).length : Int) by rw [List.length_map]; omega)]
      refine iteT ⟨_, rfl, _, rfl, a, _, _, .int (ns.getD k 0), rfl, rfl, hS, atI_nat ?_, q⟩
      rw [List.getElem?_map, List.getElem?_eq_getElem h, List.getD_eq_getElem?_getD, List.getElem?_eq_getElem h]
      rfl
    · rw [decide_eq_false (show ¬ (k : Int) < ((ns.map V.int).length : Int) by rw [List.length_map]; omega)]
      refine iteF ?_
      rw [List.getD_eq_getElem?_getD, List.getElem?_eq_none (by omega)] at q
      exact q
end

/-! ### the drawn text -/
abbrev nText : List Str := ["_law_script", "_law_first", "_law_most", "_law_way", "_law_many", "_law_letters", "_law_start", "_law_word", "_law_half", "_law_cell"]
theorem scText : FnScope nText ["_law_script", "_law_first", "_law_most"] (defScope sText) := ⟨rfl, rfl, rfl, by decide +kernel, rfl, by decide +kernel, by decide +kernel⟩
section
variable {Pr : Program} {w : World} {K : PySem.W.Frag} {mg : Str → Option Value} {base : Heap} {fD : Addr} {dD : FuncData}
theorem ok_text {f : Addr} {fd : FuncData} (F : Fun K "_law_text" "_law_text" sText f fd) (FD : Fn Pr w K mg base CX0 1 "_law_draw" fD dD ["_law_script", "_law_k"] (spDraw K)) (ml : mg "len" = none) :
    FnOk Pr w K mg base CX0 2 f fd ["_law_script", "_law_first", "_law_most"] (spText K) := by
  refine F.ok scText (fun vs H Q E h => ?_) (fun cdv A outer s H vs Q E hr h => ?_)
  · obtain ⟨a, ns, i, n, rfl, _⟩ := h
    rfl
  · obtain ⟨a, ns, i, n, rfl, hS, hn, q⟩ := h
    refine ⟨_, pss_cons (ps_set (i := 3) scText.nd rfl (.inl rfl) (pe_op op_modN (pe_call FD.ok hr (by rfl) FD.g FD.k FD.b .nil pass0 (pa_cons (pv 0) (pa_cons pe_int pa_nil))) pe_int)) <|
      pss_cons (ps_set (i := 4) scText.nd rfl (.inr rfl) (pe_ix ix_list (pe_lst (pa_cons pe_int (pa_cons pe_int (pa_cons pe_int (pa_cons pe_int (pa_cons pe_int (pa_cons pe_int pa_nil)))))))
          (pe_op op_modN (pe_op op_fdivN (pe_call FD.ok hr (by rfl) FD.g FD.k FD.b .nil pass0 (pa_cons (pv 0) (pa_cons pe_int pa_nil))) pe_int) pe_int) (fun _ _ => rfl))) <|
      pss_cons (ps_set (i := 5) scText.nd rfl (.inr rfl) pe_str) <|
      pss_cons (ps_set (i := 6) scText.nd rfl (.inr rfl) (pe_op op_modN (pe_op op_fdivN (pe_call FD.ok hr (by rfl) FD.g FD.k FD.b .nil pass0 (pa_cons (pv 0) (pa_cons pe_int pa_nil))) pe_int) pe_int)) <|
      pss_cons (ps_set (i := 7) scText.nd rfl (.inl rfl) (pe_join pe_str (pe_lc (own := [("_law_cell", 9)]) (g := gName 9) (tt := tYes) rfl scText.nd
          (pi_list (pe_slice sl_list (pv 0) (po_some (pv 1)) (po_some (pe_op op_add (pv 1) (pv 2))))) (blkOk_by (own := [("_law_cell", 9)]) (N := nText) (sc := defScope sText) (by decide +kernel))
          (fun _ _ _ _ _ => pg_name (i := 9) scText.nd rfl (Or.inl rfl)) (fun _ _ _ _ _ => pts_nil)
          (fun _ _ _ _ _ => pe_ix ix_str (pv 5) (pe_op op_modN (pe_op op_add (pv 6) (pe_op op_modN (pe_op op_fdivN (pv 9) pe_int) (pv 4))) pe_int) (fun _ _ => rfl))))) <|
      pss_cons (ps_set (i := 8) scText.nd rfl (.inl rfl) (pe_slice sl_str (pv 7) po_none (po_some (pe_op op_fdivN (pe_callB call_len_str (by rfl) ml PySem.boot_len (pa_cons (pv 7) pa_nil)) pe_int)))) <|
      pss_cons (ps_if (pt_cmpR op_eq (pv 3) pe_int (nomark _)) (pss_one (ps_ret (pe_op op_add_str (pv 8) (pv 8)))) pss_nil) <|
      pss_cons (ps_if (pt_cmpR op_eq (pv 3) pe_int (nomark _)) (pss_one (ps_ret (pe_op op_add_str (pv 8) (pe_revS (pv 8))))) pss_nil) <|
      pss_cons (ps_if (pt_cmpR op_eq (pv 3) pe_int (nomark _)) (pss_one (ps_ret (pe_op op_add_str (pe_op op_add_str (pv 8) (pe_slice sl_str (pv 7) (po_some (pe_callB call_len_str (by rfl) ml PySem.boot_len (pa_cons (pv 8) pa_nil)))
          (po_some (pe_op op_add (pe_callB call_len_str (by rfl) ml PySem.boot_len (pa_cons (pv 8) pa_nil)) pe_int)))) (pe_revS (pv 8))))) pss_nil) <|
      pss_cons (ps_if (pt_cmpR op_eq (pv 3) pe_int (nomark _)) (pss_one (ps_ret (pe_slice sl_str (pe_op op_repS (pe_slice sl_str (pv 7) po_none (po_some (pe_op op_add pe_int (pe_op op_fdivN (pe_callB call_len_str (by rfl) ml PySem.boot_len (pa_cons (pv 7) pa_nil)) pe_int)))) pe_int)
          po_none (po_some (pe_callB call_len_str (by rfl) ml PySem.boot_len (pa_cons (pv 7) pa_nil)))))) pss_nil) <|
      pss_one (ps_ret (pv 7)), ?_⟩
    -- way, many
    obtain ⟨j6, e6, h6⟩ := mod6 ((ns.getD 0 0).fdiv 6)
    obtain ⟨s26, es, hs26⟩ := mod26 ((ns.getD 0 0).fdiv 36)
    refine ⟨_, rfl, a, ns, 0, rfl, hS, _, 6, rfl, rfl, show (6 : Int) ≠ 0 by decide, ?_⟩
    refine ⟨by decide, fun p0 hp0 => ?_⟩
    have s0 : Same H (upd H p0 (.lst [.int 1, .int 2, .int 2, .int 3, .int 26, .int 2])) := same_upd hp0
    refine ⟨_, rfl, a, ns, 0, rfl, s0.seq hS, _, 6, rfl, rfl, ⟨by decide, by decide⟩, _, 6, rfl, rfl, show (6 : Int) ≠ 0 by decide, ?_⟩
    have hmany : ∃ mv : Int, atI ([.int 1, .int 2, .int 2, .int 3, .int 26, .int 2] : List V) (((ns.getD 0 0).fdiv 6).fmod 6) = some (.int mv) ∧ mv ≠ 0 := by
      rw [e6]
      match j6, h6 with
      | 0, _ => exact ⟨1, atI_nat rfl, by decide⟩
      | 1, _ => exact ⟨2, atI_nat rfl, by decide⟩
      | 2, _ => exact ⟨2, atI_nat rfl, by decide⟩
      | 3, _ => exact ⟨3, atI_nat rfl, by decide⟩
      | 4, _ => exact ⟨26, atI_nat rfl, by decide⟩
      | 5, _ => exact ⟨2, atI_nat rfl, by decide⟩
    obtain ⟨mv, hmv, hm0⟩ := hmany
    refine ⟨p0, _, _, .int mv, rfl, rfl, .inl (.inl upd_same), hmv, ?_⟩
    -- start
    refine ⟨_, rfl, a, ns, 0, rfl, s0.seq hS, _, 36, rfl, rfl, ⟨by decide, by decide⟩, _, 26, rfl, rfl, show (26 : Int) ≠ 0 by decide, ?_⟩
    -- word
    refine ⟨⟨_, rfl⟩, _, rfl, _, rfl, _, rfl, _, rfl, _, rfl, _, _, rfl, rfl, _, rfl, a, _, rfl, s0.seq hS, fun p1 hp1 => ?_⟩
    obtain ⟨ms, hms⟩ := cut_map ns (some (i : Int)) (some ((i : Int) + (n : Int)))
    have lms : ms.length ≤ n := by
      have z := cut_len (ns.map V.int) i n
      rw [hms, List.length_map] at z
      exact z
    have s1 : Same H (upd (upd H p0 (.lst [.int 1, .int 2, .int 2, .int 3, .int 26, .int 2])) p1 (.lst (ms.map V.int))) := s0.trans (same_upd hp1)
    rw [hms]
    refine ⟨p1, rfl, ⟨_, .inl (.inl upd_same)⟩, fun D hD => ?_⟩
    generalize hH1 : upd (upd H p0 (.lst [.int 1, .int 2, .int 2, .int 3, .int 26, .int 2])) p1 (.lst (ms.map V.int)) = H1 at *
    have q1 : H1 p1 = some (.lst (ms.map V.int)) := by
      rw [← hH1]
      exact upd_same
    have D1 : D ≠ p1 := (ne_of_none q1 hD).symm
    refine lc_list (K := K) (a := p1) (xs := ms.map V.int) (fun i H' => Same H H' ∧ H' p1 = some (.lst (ms.map V.int)) ∧ ∃ cs : List Nat, cs.length = i ∧ cs.all az = true ∧ H' D = some (.lst (cs.map fun c => V.str (T [c]))))
      ⟨s1.trans (same_upd hD), by rw [upd_ne D1.symm]; exact q1, [], rfl, rfl, upd_same⟩ (fun i H' _ hW => .inl (.inl hW.2.1)) (fun i x H' hx hW => ?_) (fun H' hW => ?_)
    · obtain ⟨sm, hp, cs, hcl, hca, hD'⟩ := hW
      obtain ⟨z, rfl⟩ : ∃ z, x = .int z := by
        rw [List.getElem?_map] at hx
        cases e : ms[i]? with
        | none =>
          rw [e] at hx
          cases hx
        | some z =>
          rw [e] at hx
          exact ⟨z, (Option.some.inj hx).symm⟩
      obtain ⟨jx, ejx, hjx⟩ := mod26 (((ns.getD 0 0).fdiv 36).fmod 26 + (z.fdiv 5).fmod mv)
      have hi : i < ms.length := by
        have := (List.getElem?_eq_some_iff.mp hx).1
        rw [List.length_map] at this
        exact this
      refine ⟨rfl, ?_⟩
      have at1 : atI (Str.ofString "abcdefghijklmnopqrstuvwxyz").cps.toList ((((ns.getD 0 0).fdiv 36).fmod 26 + (z.fdiv 5).fmod mv).fmod 26) = some (97 + jx) := by
        rw [ejx]
        exact abc_at hjx
      refine ⟨_, rfl, _, rfl, _, rfl, _, 5, rfl, rfl, ⟨by decide, by decide⟩, _, rfl, _, mv, rfl, rfl, hm0, _, _, rfl, rfl, _, 26, rfl, rfl, show (26 : Int) ≠ 0 by decide, _, _, 97 + jx, rfl, rfl, by decide, at1, ?_⟩
      have HD : H D = none := s1.free hD
      refine ⟨_, hD', by rw [List.length_map, hcl]; exact small1000 (by omega), fun b u e => ?_, ?_, cs ++ [97 + jx], ?_, ?_, ?_⟩
      · rw [upd_ne (ne_of_none e HD)]
        exact sm b u e
      · rw [upd_ne D1.symm]
        exact hp
      · rw [List.length_append, hcl]
        rfl
      · refine all_app hca ?_
        show (az (97 + jx) && true) = true
        unfold az
        rw [decide_eq_true (by omega), decide_eq_true (by omega)]
        rfl
      · rw [upd_same, List.map_append]
        rfl
    · obtain ⟨sm, hp, cs, hcl, hca, hD'⟩ := hW
      have lcs : cs.length ≤ n := by
        rw [hcl, List.length_map]
        exact lms
      have sq : SqL K H' D ((cs.map fun c => T [c]).map V.str) := by
        rw [List.map_map]
        exact .inl (.inl hD')
      refine ⟨_, D, _, rfl, rfl, .inl sq, ?_, ?_⟩
      · have e0 : ∀ l : List Nat, ((l.map fun c => T [c]).map (·.length)).sum = l.length := fun l => by
          induction l with
          | nil => rfl
          | cons c r ih =>
            show (T [c]).length + (((r.map fun c => T [c]).map (·.length)).sum) = r.length + 1
            rw [ih, T_len]
            show 1 + r.length = r.length + 1
            omega
        rw [e0, List.length_map]
        show cs.length + cs.length * 0 ≤ 16777216
        omega
      rw [join_signs]
      have hcz : cs.length ≤ sizeLine := Nat.le_of_lt (small1000 (by omega))
      -- half
      have hcT : (T cs).length ≤ sizeLine := by
        rw [T_len]
        exact hcz
      refine ⟨_, rfl, _, rfl, T cs, rfl, hcT, _, 2, rfl, rfl, ⟨by decide, by decide⟩, _, rfl, T cs, rfl, hcT, ?_⟩
      rw [T_len, half_of, cut_to]
      have hh : (cs.take (cs.length / 2)).length = cs.length / 2 := by
        rw [List.length_take]
        omega
      have ha := all_take hca (cs.length / 2)
      generalize cs.take (cs.length / 2) = hf at hh ha
      have hfT : (T hf).length ≤ sizeLine := by
        rw [T_len]
        omega
      have fits : ∀ a b : List Nat, a.length + b.length ≤ 300 → (T a).length + (T b).length ≤ sizeLine := fun a b h => by
        rw [T_len, T_len]
        exact Nat.le_of_lt (small1000 (by omega))
      -- way 1
      refine ⟨_, rfl, rfl, _, rfl, ite2 (fun _ => ?_) (fun _ => ?_)⟩
      · refine ⟨_, rfl, _, rfl, _, _, rfl, rfl, fits hf hf (by omega), ?_⟩
        have z := q H' (hf ++ hf) sm (all_app ha ha) (by rw [List.length_append]; omega)
        rw [← T_app] at z
        exact z
      -- way 2
      refine ⟨_, rfl, rfl, _, rfl, ite2 (fun _ => ?_) (fun _ => ?_)⟩
      · refine ⟨_, rfl, _, rfl, hf, rfl, by omega, _, _, rfl, rfl, fits hf hf.reverse (by rw [List.length_reverse]; omega), ?_⟩
        have z := q H' (hf ++ hf.reverse) sm (all_app ha (all_rev ha)) (by rw [List.length_append, List.length_reverse]; omega)
        rw [← T_app] at z
        exact z
      -- way 3
      refine ⟨_, rfl, rfl, _, rfl, ite2 (fun _ => ?_) (fun _ => ?_)⟩
      · obtain ⟨m1, em, ham, _⟩ := cutS_all hca (some ((T hf).length : Int)) (some (((T hf).length : Int) + 1))
        have lm : m1.length ≤ 1 := by
          have e := cutS_T cs (some ((T hf).length : Int)) (some (((T hf).length : Int) + 1))
          rw [em] at e
          have e1 := T_inj e
          have e2 : (((T hf).length : Int) + 1) = (((T hf).length + 1 : Nat) : Int) := by omega
          rw [e1, e2, HT.sIx_nat, HT.sIx_nat, List.length_take]
          omega
        refine ⟨_, rfl, _, rfl, _, rfl, T hf, rfl, hfT, _, rfl, _, rfl, T hf, rfl, hfT, _, 1, rfl, rfl, _, rfl, T cs, rfl, hcT, ?_⟩
        rw [em]
        refine ⟨_, _, rfl, rfl, fits hf m1 (by omega), _, rfl, hf, rfl, by omega, ?_⟩
        rw [T_app]
        refine ⟨_, _, rfl, rfl, fits (hf ++ m1) hf.reverse (by rw [List.length_append, List.length_reverse]; omega), ?_⟩
        have z := q H' (hf ++ m1 ++ hf.reverse) sm (all_app (all_app ha ham) (all_rev ha)) (by rw [List.length_append, List.length_append, List.length_reverse]; omega)
        rw [← T_app] at z
        exact z
      -- way 4
      refine ⟨_, rfl, rfl, _, rfl, ite2 (fun _ => ?_) (fun _ => ?_)⟩
      · obtain ⟨m1, em, ham, lm⟩ := cutS_all hca none (some (1 + ((T cs).length : Int).fdiv 5))
        refine ⟨_, rfl, _, rfl, T cs, rfl, hcT, _, 5, rfl, rfl, ⟨by decide, by decide⟩, 1, _, rfl, rfl, _, rfl, T cs, rfl, hcT, ?_⟩
        rw [em]
        have l5 : (List.replicate 5 m1).flatten.length = m1.length * 5 := by
          show (m1 ++ (m1 ++ (m1 ++ (m1 ++ (m1 ++ []))))).length = _
          simp only [List.length_append, List.length_nil]
          omega
        have s5 : (T (List.replicate 5 m1).flatten).length ≤ sizeLine := by
          rw [T_len, l5]
          exact Nat.le_of_lt (small1000 (by omega))
        refine ⟨m1, 5, rfl, rfl, by decide, Nat.le_of_lt (small1000 (by omega)), by decide, _, rfl, T cs, rfl, hcT, _, rfl, _, rfl, s5, ?_⟩
        have z := q H' ((List.replicate 5 m1).flatten.take cs.length) sm (all_take (all_rep ham 5) _) (by rw [List.length_take]; omega)
        rw [← cut_to] at z
        rw [T_len]
        exact z
      -- as it is
      · exact ⟨_, rfl, q H' cs sm hca (by omega)⟩
end
end Mw
namespace Mw
open PySem PySem.Spec PyProof.Rows L2

/-! ### the parting by the law's own reading -/
abbrev nLFew : List Str := ["_law_text_here", "_law_best", "_law_place", "_law_found", "_law_end", "_law_word", "_law_rest"]
theorem scLFew : FnScope nLFew ["_law_text_here"] (defScope sLFewest) := ⟨rfl, rfl, rfl, by decide +kernel, rfl, by decide +kernel, by decide +kernel⟩
theorem at_last {xs : List V} {n : Nat} {v : V} (hl : xs.length = n + 1) (h : xs[n]? = some v) : atI xs (-1) = some v := by
  unfold atI ixN
  rw [hl, if_neg (by omega), if_pos (by omega)]
  have e : (-1 + ((n + 1 : Nat) : Int)).toNat = n := by omega
  show xs[(-1 + ((n + 1 : Nat) : Int)).toNat]? = _
  rw [e]
  exact h
/-- what has been found for the words that end behind e -/
def Fnd (t : List Nat) (i e : Nat) (H : Hp) (y : V) : Prop :=
  (y = .non ∧ ∀ j, Ed t i j → ¬ e < j) ∨ ∃ p j, y = .ref p ∧ H p = some (.lst ((str t i j :: prt t j).map sV)) ∧ Ed t i j ∧ e < j ∧ ∀ k, Ed t i k → e < k → need t j ≤ need t k ∧ (j < k → need t j < need t k)
theorem Fnd.same {t : List Nat} {i e : Nat} {H H' : Hp} {y : V} (s : Same H H') (h : Fnd t i e H y) : Fnd t i e H' y := by
  rcases h with h | ⟨p, j, h1, h2, h3⟩
  · exact .inl h
  · exact .inr ⟨p, j, h1, s _ _ h2, h3⟩
/-- the lists found so far, from the end -/
def Bst (t : List Nat) (k : Nat) (H : Hp) (ps : List Addr) : Prop := ps.length = k ∧ ∀ m p, ps[m]? = some p → H p = some (.lst ((prt t (t.length - m)).map sV))
theorem Bst.same {t : List Nat} {k : Nat} {H H' : Hp} {ps : List Addr} (s : Same H H') (h : Bst t k H ps) : Bst t k H' ps := ⟨h.1, fun m p e => s _ _ (h.2 m p e)⟩
section
variable {Pr : Program} {w : World} {K : PySem.W.Frag} {mg : Str → Option Value} {base : Heap}
theorem ok_lfewest {f : Addr} {fd : FuncData} (F : Fun K "_law_fewest" "_law_fewest" sLFewest f fd) (ml : mg "len" = none) (mr : mg "range" = none) (mv : mg "reversed" = none) : FnOk Pr w K mg base CX0 1 f fd ["_law_text_here"] spLFewest := by
  refine F.ok scLFew (fun vs H Q E h => ?_) (fun cdv A outer s H vs Q E hr h => ?_)
  · obtain ⟨t, rfl, _⟩ := h
    rfl
  · obtain ⟨t, rfl, ht, q⟩ := h
    refine ⟨_, pss_cons (ps_set (i := 1) scLFew.nd rfl (.inl rfl) (pe_lst (pa_cons (pe_lst pa_nil) pa_nil))) <|
      pss_cons (ps_for PassesOwn.never rfl (pi_revR (by rfl) mv (prg_1 (by rfl) mr (pe_callB call_len_str (by rfl) ml PySem.boot_len (pa_cons (pv 0) pa_nil)))) (pg_name (i := 2) scLFew.nd rfl (.inl rfl))
        (pss_cons (ps_set (i := 3) scLFew.nd rfl (.inl rfl) pe_non) <|
        pss_cons (ps_for PassesOwn.never rfl (pi_range3 (by rfl) mr (pa_cons (pe_callB call_len_str (by rfl) ml PySem.boot_len (pa_cons (pv 0) pa_nil)) (pa_cons (pv 2) (pa_cons (pe_un un_neg pe_int) pa_nil)))) (pg_name (i := 4) scLFew.nd rfl (.inl rfl))
          (pss_cons (ps_set (i := 5) scLFew.nd rfl (.inl rfl) (pe_slice sl_str (pv 0) (po_some (pv 2)) (po_some (pv 4)))) <|
          pss_cons (ps_set (i := 6) scLFew.nd rfl (.inl rfl) (pe_ix ix_list (pv 1) (pe_op op_sub (pe_callB call_len_str (by rfl) ml PySem.boot_len (pa_cons (pv 0) pa_nil)) (pv 4)) (fun _ _ => rfl))) <|
          pss_one (ps_if (PW.pt (pw_and (pt_cmpR op_eq (pv 5) (pe_revS (pv 5)) (nomark _)) (pw_and1 (PW.pt (pw_or (pt_cmpR op_isN (pv 3) pe_non (nomark _))
              (pw_or1 (pt_cmpR op_lt (pe_op op_add pe_int (pe_callB call_len_seq (by rfl) ml PySem.boot_len (pa_cons (pv 6) pa_nil))) (pe_callB call_len_seq (by rfl) ml PySem.boot_len (pa_cons (pv 3) pa_nil)) (nomark _))))))))
            (pss_one (ps_set (i := 3) scLFew.nd rfl (.inl rfl) (pe_op op_cat (pe_lst (pa_cons (pv 5) pa_nil)) (pv 6)))) pss_nil))) <|
        pss_one (ps_expr (pe_bm PySem.F.plainAttrs_list PySem.F.slot_list_append PySem.F.type_list_append mt_append (pv 1) (pa_cons (pv 3) pa_nil))))) <|
      pss_one (ps_ret (pe_ix ix_list (pv 1) (pe_un un_neg pe_int) (fun _ _ => rfl))), ?_⟩
    have tT : (T t).length ≤ sizeLine := by
      rw [T_len]
      exact small200 ht
    refine ⟨Nat.zero_le _, fun p0 hp0 => ?_⟩
    have s0 : Same H (upd H p0 (.lst [])) := same_upd hp0
    have h0 : (upd H p0 (.lst [])) p0 = some (.lst []) := upd_same
    generalize upd H p0 (.lst []) = H0 at *
    refine ⟨by show 1 ≤ sizeLine; decide, fun B hB => ?_⟩
    have hB' : H B = none := by
      cases z : H B with
      | none => rfl
      | some o =>
        rw [s0 _ _ z] at hB
        cases hB
    have s1 : Same H (upd H0 B (.lst [.ref p0])) := s0.trans (same_upd hB)
    have b1 : (upd H0 B (.lst [.ref p0])) B = some (.lst ([p0].map V.ref)) := upd_same
    have q1 : (upd H0 B (.lst [.ref p0])) p0 = some (.lst []) := by
      rw [upd_ne (ne_of_none h0 hB)]
      exact h0
    have np0 : p0 ≠ B := ne_of_none h0 hB
    generalize upd H0 B (.lst [.ref p0]) = H1 at *
    have en : (((T t).length : Int) - 0).toNat = t.length := by
      rw [T_len]
      omega
    refine ⟨_, rfl, T t, rfl, tT, ((T t).length : Int), rfl, by decide, by decide, by rw [T_len]; omega, by rw [T_len]; omega, ?_⟩
    rw [en]
    refine for_rangeC (lo := 0 + ((t.length : Nat) : Int) - 1) (c := -1) (n := t.length) (fun k σ H' => Same H H' ∧ ∃ (ps : List Addr) (y2 y3 y4 y5 y6 : Option V), σ = [some (.str (T t)), some (.ref B), y2, y3, y4, y5, y6] ∧ H' B = some (.lst (ps.map V.ref)) ∧ Bst t (k + 1) H' ps ∧ B ∉ ps)
      ⟨s1, [p0], none, none, none, none, none, rfl, b1, ⟨rfl, fun m p e => ?_⟩, fun z => np0 (List.mem_singleton.mp z).symm⟩ (fun k σ H' hk hW => ?_) (fun σ H' hW => ?_)
    · cases m with
      | zero =>
        cases Option.some.inj e
        rw [Nat.sub_zero, prt_end]
        exact q1
      | succ m => simp at e
    · obtain ⟨sm, ps, y2, y3, y4, y5, y6, rfl, hb, hps, nB⟩ := hW
      have ei : 0 + ((t.length : Nat) : Int) - 1 + (k : Int) * (-1) = ((t.length - 1 - k : Nat) : Int) := by omega
      have hi : t.length - 1 - k < t.length := by omega
      have hik : t.length - 1 - k + k + 1 = t.length := by omega
      generalize hii : t.length - 1 - k = i at *
      refine ⟨_, rfl, T t, rfl, tT, _, rfl, 1, rfl, ((T t).length : Int), 0 + ((t.length : Nat) : Int) - 1 + (k : Int) * (-1), -1, t.length - i, rfl, ?_, ?_⟩
      · rw [ei, T_len]
        have z := RgC.neg (i := (t.length : Int)) (j := (i : Int)) (by omega) (by omega) (by omega) (by omega)
        have e : ((t.length : Int) - (i : Int)).toNat = t.length - i := by omega
        rw [e] at z
        exact z
      rw [T_len]
      refine for_rangeC (lo := ((t.length : Nat) : Int)) (c := -1) (n := t.length - i) (fun s σ H2 => Same H' H2 ∧ ∃ (y : V) (y4 y5 y6 : Option V), σ = [some (.str (T t)), some (.ref B), some (.int (i : Int)), some y, y4, y5, y6] ∧ Fnd t i (t.length - s) H2 y ∧ y ≠ .ref B)
        ⟨fun _ _ h => h, .non, y4, y5, y6, ?_, .inl ⟨rfl, fun j hj z => ?_⟩, fun z => by cases z⟩ (fun s σ H2 hs hW => ?_) (fun σ H2 hW => ?_)
      · show [some (V.str (T t)), some (V.ref B), some (V.int (0 + ((t.length : Nat) : Int) - 1 + (k : Int) * (-1))), some V.non, y4, y5, y6] = _
        rw [ei]
      · have := hj.2.1
        omega
      · obtain ⟨s2, y, y4, y5, y6, rfl, fy, nyB⟩ := hW
        have ej : ((t.length : Nat) : Int) + (s : Int) * (-1) = ((t.length - s : Nat) : Int) := by omega
        have hj : i < t.length - s := by omega
        have hj2 : t.length - s ≤ t.length := by omega
        have hsj : t.length - s + s = t.length := by omega
        generalize hjj : t.length - s = j at *
        have b2 := s2 _ _ hb
        have B2 := hps.same s2
        have hsl : s < ps.length := by
          rw [hps.1]
          omega
        have hp : ps[s]? = some ps[s] := List.getElem?_eq_getElem hsl
        have hr2 := B2.2 s _ hp
        have ejs : t.length - s = j := hjj
        rw [ejs] at hr2
        have ec : cutS (T t) (some (i : Int)) (some (((t.length : Nat) : Int) + (s : Int) * (-1))) = T (str t i j) := by
          rw [ej, cut_str (by omega) hj2]
        refine ⟨_, rfl, _, rfl, _, rfl, _, rfl, _, rfl, T t, rfl, tT, ?_⟩
        rw [ec]
        have sl : (str t i j).length ≤ 200 := Nat.le_trans str_len ht
        refine ⟨_, rfl, _, rfl, T t, rfl, tT, _, rfl, _, _, rfl, rfl, B, _, _, .ref ps[s], rfl, rfl, .inl (.inl b2), ?_, ?_⟩
        · have e : ((T t).length : Int) - (((t.length : Nat) : Int) + (s : Int) * (-1)) = (s : Int) := by
            rw [T_len]
            omega
          rw [e]
          refine atI_nat ?_
          rw [List.getElem?_map, hp]
          rfl
        refine ⟨_, rfl, _, rfl, str t i j, rfl, small200 sl, rfl, _, rfl, ?_⟩
        have ep : decide (V.str (T (str t i j)) = V.str (T (str t i j).reverse)) = pal (str t i j) := T_dec _ _
        rw [ep]
        have lr : (prt t j).length = need t j := prt_len hj2
        have step : Same H' H2 ∧ Fnd t i (t.length - (s + 1)) H2 y → ∃ y' y4 y5 y6, [some (V.str (T t)), some (V.ref B), some (V.int (i : Int)), some y, some (V.int (((t.length : Nat) : Int) + (s : Int) * (-1))), some (V.str (T (str t i j))), some (V.ref ps[s])] = [some (.str (T t)), some (.ref B), some (.int (i : Int)), some y', y4, y5, y6] ∧ Fnd t i (t.length - (s + 1)) H2 y' ∧ y' ≠ .ref B := fun h => ⟨y, _, _, _, rfl, h.2, nyB⟩
        have e1 : t.length - (s + 1) = j - 1 := by omega
        rw [e1] at step ⊢
        have newf : ∀ (H3 : Hp) (p : Addr), H3 p = some (.lst ((str t i j :: prt t j).map sV)) → Ed t i j → (∀ k, Ed t i k → j < k → need t j < need t k) → Fnd t i (j - 1) H3 (.ref p) := fun H3 p hp he hl => .inr ⟨p, j, rfl, hp, he, by omega, fun k hk hk2 => by
          by_cases c : k = j
          · rw [c]
            exact ⟨Nat.le_refl _, fun z => absurd z (by omega)⟩
          · have := hl k hk (by omega)
            exact ⟨by omega, fun _ => this⟩⟩
        have make : ∀ (he : Ed t i j), (∀ k, Ed t i k → j < k → need t j < need t k) →
            tAsg (tOp rCat (tLst (tCons (tVar 5) tNil)) (tVar 6)) (gName 3) { nx := fun σ H2 => Same H' H2 ∧ ∃ y y4 y5 y6, σ = [some (V.str (T t)), some (V.ref B), some (V.int (i : Int)), some y, y4, y5, y6] ∧ Fnd t i (j - 1) H2 y ∧ y ≠ .ref B, rt := Q }
              [some (V.str (T t)), some (V.ref B), some (V.int (i : Int)), some y, some (V.int (((t.length : Nat) : Int) + (s : Int) * (-1))), some (V.str (T (str t i j))), some (V.ref ps[s])] H2 := fun he hl => by
          refine ⟨_, rfl, by show 1 ≤ sizeLine; decide, fun p5 hp5 => ?_⟩
          have s5 : Same H2 (upd H2 p5 (.lst [sV (str t i j)])) := same_upd hp5
          have h5 : (upd H2 p5 (.lst [sV (str t i j)])) p5 = some (.lst [sV (str t i j)]) := upd_same
          refine ⟨_, rfl, p5, ps[s], _, _, rfl, rfl, h5, s5 _ _ hr2, ?_, fun p6 hp6 => ?_⟩
          · rw [List.length_map, lr]
            have := need_le' hj2
            exact Nat.le_of_lt (small1000 (show 1 + need t j ≤ 1000 by omega))
          · refine ⟨s2.trans (s5.trans (same_upd hp6)), .ref p6, _, _, _, rfl, newf _ _ upd_same he hl, fun z => ?_⟩
            cases z
            exact absurd (hp6.symm.trans (s5 _ _ b2)) (fun z => by cases z)
        cases cp : pal (str t i j) with
        | false =>
          refine iteF (iteF ⟨s2, step ⟨s2, ?_⟩⟩)
          rcases fy with ⟨f1, f2⟩ | ⟨p, J, f1, f2, f3, f4, f5⟩
          · refine .inl ⟨f1, fun x hx z => ?_⟩
            by_cases c : x = j
            · rw [c] at hx
              have := hx.2.2
              rw [cp] at this
              cases this
            · exact f2 x hx (by omega)
          · refine .inr ⟨p, J, f1, f2, f3, by omega, fun x hx z => ?_⟩
            by_cases c : x = j
            · rw [c] at hx
              have := hx.2.2
              rw [cp] at this
              cases this
            · exact f5 x hx (by omega)
        | true =>
          have he : Ed t i j := ⟨hj, hj2, cp⟩
          refine iteT ⟨_, rfl, rfl, _, rfl, ?_⟩
          rcases fy with ⟨rfl, f2⟩ | ⟨p, J, rfl, f2, f3, f4, f5⟩
          · rw [decide_eq_true (show V.non = V.non from rfl)]
            exact iteT (iteT (make he fun x hx z => absurd z (f2 x hx)))
          · rw [decide_eq_false (show ¬ V.ref p = V.non from fun z => by cases z)]
            have lJ : (prt t J).length = need t J := prt_len f3.2.1
            refine iteF ⟨_, rfl, ps[s], _, rfl, .inl (.inl (.inl hr2)), 1, _, rfl, rfl, _, rfl, p, _, rfl, .inl (.inl (.inl f2)), _, _, rfl, rfl, _, rfl, ?_⟩
            have ed : decide ((1 : Int) + (((prt t j).map sV).length : Int) < (((str t i J :: prt t J).map sV).length : Int)) = decide (need t j < need t J) := by
              rw [List.length_map, List.length_map, List.length_cons, lr, lJ]
              by_cases d : need t j < need t J
              · rw [decide_eq_true d, decide_eq_true (by omega)]
              · rw [decide_eq_false d, decide_eq_false (by omega)]
            show if decide ((1 : Int) + (((prt t j).map sV).length : Int) < (((str t i J :: prt t J).map sV).length : Int)) = true then _ else _
            rw [ed]
            by_cases d : need t j < need t J
            · rw [decide_eq_true d]
              refine iteT (make he fun x hx z => ?_)
              have := (f5 x hx z).1
              omega
            · rw [decide_eq_false d]
              refine iteF ⟨s2, step ⟨s2, .inr ⟨p, J, rfl, f2, f3, by omega, fun x hx z => ?_⟩⟩⟩
              by_cases c : x = j
              · rw [c]
                exact ⟨by omega, fun z => absurd z (by omega)⟩
              · exact f5 x hx (by omega)
      · obtain ⟨s2, y, y4, y5, y6, rfl, fy, nyB⟩ := hW
        have e1 : t.length - (t.length - i) = i := by omega
        rw [e1] at fy
        have b2 := s2 _ _ hb
        rcases fy with ⟨_, f2⟩ | ⟨p, J, rfl, f2, f3, f4, f5⟩
        · exact absurd (Nat.lt_succ_self i) (f2 _ (ed_one hi))
        · have eJ : J = jmp t i := by
            obtain ⟨g1, g2, g3⟩ := jmp_ok t hi
            have a1 := f5 _ g1 g1.1
            have a2 := g3 _ f3
            rcases Nat.lt_trichotomy J (jmp t i) with z | z | z
            · have := a1.2 z
              omega
            · exact z
            · have := a2.2 z
              omega
          rw [eJ, ← prt_step hi] at f2
          have npB : p ≠ B := fun z => nyB (by rw [z])
          refine ⟨_, rfl, .inl ⟨rfl, _, .inl (.inl b2)⟩, _, rfl, B, _, _, rfl, rfl, b2, ?_, fun b u e => ?_, ps ++ [p], _, _, _, _, _, rfl, ?_, ⟨?_, fun m x hx => ?_⟩, fun z => ?_⟩
          · rw [List.length_map, hps.1]
            exact small1000 (by omega)
          · rw [upd_ne (ne_of_none e hB')]
            exact s2 b u (sm b u e)
          · rw [upd_same, List.map_append]
            rfl
          · rw [List.length_append, hps.1]
            rfl
          · by_cases c : m < ps.length
            · rw [List.getElem?_append_left c] at hx
              rw [upd_ne (fun z => nB (by rw [← z]; exact List.mem_of_getElem? hx))]
              exact s2 _ _ (hps.2 m x hx)
            · rw [List.getElem?_append_right (by omega)] at hx
              have em : m - ps.length = 0 := by
                have := (List.getElem?_eq_some_iff.mp hx).1
                simp at this
                omega
              rw [em] at hx
              cases Option.some.inj hx
              have e2 : t.length - m = i := by
                have := hps.1
                omega
              rw [e2, upd_ne npB]
              exact f2
          · rcases List.mem_append.mp z with z | z
            · exact nB z
            · exact npB (List.mem_singleton.mp z).symm
    · obtain ⟨sm, ps, y2, y3, y4, y5, y6, rfl, hb, hps, nB⟩ := hW
      have hl := hps.1
      obtain ⟨pl, hp⟩ : ∃ p, ps[t.length]? = some p := ⟨_, List.getElem?_eq_getElem (by omega)⟩
      have hr2 := hps.2 _ _ hp
      rw [Nat.sub_self] at hr2
      exact ⟨_, rfl, 1, rfl, B, _, _, .ref pl, rfl, rfl, .inl (.inl hb), at_last (by rw [List.length_map, hl]) (by rw [List.getElem?_map, hp]; rfl), q H' pl sm hr2⟩
end
end Mw
namespace Mw
open PySem PySem.Spec PyProof.Rows L2

/-! ### what is no text is refused -/
theorem scRef : FnScope ["_law_thing", "_law_caught", "e"] ["_law_thing"] (defScope sRef) := ⟨rfl, rfl, rfl, by decide +kernel, rfl, by decide +kernel, by decide +kernel⟩
section
variable {Pr : Program} {w : World} {K : PySem.W.Frag} {mg : Str → Option Value} {base : Heap} {P BT ME c1 c2 c3 c4 c5 c6 fA : Addr} {dA : FuncData}
theorem ok_ref {f : Addr} {fd : FuncData} (F : Fun K "_law_refused" "_law_refused" sRef f fd) (FA : Fn Pr w K mg base (L2.CX Pr w) 4 "fewest" fA dA ["text"] (spFewest K P BT)) (EB : ErrC K mg "BadText" BT) (XB : ExcC K BT)
    (gM : mg "MirrorError" = some (.ref ME)) (hm : PySem.W.exmOne K (.ref BT) (.ref ME) = some true) (g1 : mg "BadArms" = some (.ref c1)) (g2 : mg "BadLetter" = some (.ref c2)) (g3 : mg "BadWord" = some (.ref c3)) (g4 : mg "Full" = some (.ref c4)) (g5 : mg "NoPlace" = some (.ref c5)) (g6 : mg "NoText" = some (.ref c6))
    (k6 : PySem.W.kitAny K (.ref BT) [.ref c1, .ref c2, .ref c3, .ref c4, .ref c5, .ref c6] = some false) (k1 : PySem.W.kitOne K (.ref BT) (.ref BT) = some true) (kv : PySem.W.kitOne K (.ref BT) (.type "ValueError") = some true)
    (mi : mg "isinstance" = none) (mv : mg "ValueError" = none) : FnOk Pr w K mg base CX0 5 f fd ["_law_thing"] (spRef K P) := by
  refine F.ok scRef (fun vs H Q E h => ?_) (fun cdv A outer s H vs Q E hr h => ?_)
  · obtain ⟨x, rfl, _⟩ := h
    rfl
  · obtain ⟨x, rfl, tab, th, no, q⟩ := h
    refine ⟨_, pss_cons (ps_set (i := 1) scRef.nd rfl (.inl rfl) pe_non) <|
      pss_cons (ps_tryK (i := 2) (tb := fun W => tDrop (tCallS (spFewest K P BT) (WE W) (tCons (tVar 0) tNil))) (ts := fun _ => tAsg (tVar 2) (gName 1)) rfl rfl rfl scRef.nd rfl rfl ⟨by rfl, by decide, .inl gM⟩
        (fun W pn xe tk _ => pss_one (ps_expr (pe_callS FA.ok hr (by rfl) FA.g FA.k FA.b (fun σ => passAt tk σ) (pa_cons (pv 0) pa_nil))))
        (fun a pn => pss_one (ps_set (i := 1) scRef.nd rfl (.inl rfl) (pv 2)))) <|
      pss_cons (ps_if (PW.pt (pw_or (pt_cmpR op_isN (pv 1) pe_non (nomark _)) (pw_or1 (pt_val (pe_callB call_isXT (by rfl) mi boot_isinstance (pa_cons (pv 1) (pa_cons (pe_tup (pa_cons (pe_glob (v := .ref c1) (by rfl) g1 rfl) (pa_cons (pe_glob (v := .ref c2) (by rfl) g2 rfl)
          (pa_cons (pe_glob (v := .ref c3) (by rfl) g3 rfl) (pa_cons (pe_glob (v := .ref c4) (by rfl) g4 rfl) (pa_cons (pe_glob (v := .ref c5) (by rfl) g5 rfl) (pa_cons (pe_glob (v := .ref c6) (by rfl) g6 rfl) pa_nil))))))) pa_nil)))))))
        (pss_one (ps_ret pe_bl)) pss_nil) <|
      pss_one (ps_ret (pe_and (pe_callB call_isX (by rfl) mi boot_isinstance (pa_cons (pv 1) (pa_cons (pe_glob (v := .ref BT) (by rfl) EB.g rfl) pa_nil)))
        (pe_one (pe_callB call_isX (by rfl) mi boot_isinstance (pa_cons (pv 1) (pa_cons (pe_bltn (v := .ty "ValueError") (by rfl) mv (by decide +kernel) rfl) pa_nil)))))), ?_⟩
    refine ⟨_, rfl, x, rfl, tab, th, fun _ H1 hT => ⟨hm, rfl, BT, rfl, fun a ha => ⟨_, rfl, ?_⟩⟩, fun z => absurd z (by rw [no]; exact Bool.false_ne_true)⟩
    have kp1 : Kp P H (upd H1 a (ExS BT a)) := (Kp.tabbed hT).step ha
    refine ⟨_, rfl, rfl, _, rfl, ?_⟩
    rw [decide_eq_false (show ¬ V.ref a = V.non from fun z => by cases z)]
    refine iteF ⟨_, rfl, by show 6 ≤ sizeLine; decide, fun p hp => ?_⟩
    have kp2 : Kp P H (upd (upd H1 a (ExS BT a)) p (.tup [.ref c1, .ref c2, .ref c3, .ref c4, .ref c5, .ref c6])) := kp1.step hp
    have hpa : a ≠ p := fun z => by
      rw [← z, upd_same] at hp
      cases hp
    have hx : (upd (upd H1 a (ExS BT a)) p (.tup [.ref c1, .ref c2, .ref c3, .ref c4, .ref c5, .ref c6])) a = some (ExS BT a) := by
      rw [upd_ne hpa]
      exact upd_same
    refine ⟨a, BT, p, _, _, false, rfl, upd_same, .cons (.own c1) (.cons (.own c2) (.cons (.own c3) (.cons (.own c4) (.cons (.own c5) (.cons (.own c6) .nil))))), hx, XB, k6, false, rfl, iteF ?_⟩
    refine ⟨_, rfl, a, BT, .ref BT, _, true, rfl, .own BT, hx, XB, k1, true, rfl, iteT ?_⟩
    exact ⟨_, rfl, a, BT, .ty "ValueError", _, true, rfl, .ty _, hx, XB, kv, q _ kp2⟩
end
end Mw
namespace Mw
open PySem PySem.Spec PyProof.Rows L2

/-! ### the law -/
def odd6 (z : Str) (p1 p2 p3 p5 : Addr) : List V := [.str "A", .str "a a", .str "\n", .non, .int 5, .bl true, .ref p1, .ref p2, .ref p3, .str z, .str "a1", .ref p5]
theorem odd6_at {K : PySem.W.Frag} {H : Hp} {z : Str} {p1 p2 p3 p5 : Addr} {xs ys zs : List V} {kvs : List (Key × V)} (h1 : H p1 = some (.lst xs)) (h2 : H p2 = some (.tup ys)) (h3 : H p3 = some (.dK kvs)) (h5 : H p5 = some (.lst zs)) (hz : z = T (List.replicate 201 [97]).flatten) :
    ∀ j, j < 12 → ∃ x, (odd6 z p1 p2 p3 p5)[j]? = some x ∧ isT x = false ∧ Thing K H x
  | 0, _ => ⟨_, rfl, by decide +kernel, .str _ (by decide +kernel)⟩
  | 1, _ => ⟨_, rfl, by decide +kernel, .str _ (by decide +kernel)⟩
  | 2, _ => ⟨_, rfl, by decide +kernel, .str _ (by decide +kernel)⟩
  | 3, _ => ⟨_, rfl, rfl, .other (.base .non) (by decide +kernel) rfl⟩
  | 4, _ => ⟨_, rfl, rfl, .other (.base (.int _)) (by decide +kernel) rfl⟩
  | 5, _ => ⟨_, rfl, rfl, .other (.base (.bl _)) (by decide +kernel) rfl⟩
  | 6, _ => ⟨_, rfl, rfl, .other (.base (.lst h1)) (by decide +kernel) rfl⟩
  | 7, _ => ⟨_, rfl, rfl, .other (.base (.tup h2)) (by decide +kernel) rfl⟩
  | 8, _ => ⟨_, rfl, rfl, .other (.base (.dK h3)) (by decide +kernel) rfl⟩
  | 9, _ => ⟨_, rfl, by rw [hz]; decide +kernel, .str _ (by rw [hz]; decide +kernel)⟩
  | 10, _ => ⟨_, rfl, by decide +kernel, .str _ (by decide +kernel)⟩
  | 11, _ => ⟨_, rfl, rfl, .other (.base (.lst h5)) (by decide +kernel) rfl⟩
  | n + 12, h => absurd h (by omega)
abbrev nLaw : List Str := ["_law_script", "_law_text_here", "_law_due", "_law_found", "_law_odd"]
theorem scLaw : FnScope nLaw ["_law_script"] (defScope sLaw) := ⟨rfl, rfl, rfl, by decide +kernel, rfl, by decide +kernel, by decide +kernel⟩
def spLaw6 (K : PySem.W.Frag) (P : Addr) : Sp := fun vs H Q _ => ∃ (a : Addr) (ns : List Int), vs = [.ref a] ∧ GxR.TabG H P ∧ SqL K H a (ns.map V.int) ∧ ∀ H', Q (.bl true) H'
section
variable {Pr : Program} {w : World} {K : PySem.W.Frag} {mg : Str → Option Value} {base : Heap} {P BT fF fD fT fL fR : Addr} {dF dD dT dL dR : FuncData}
theorem ok_law {f : Addr} {fd : FuncData} (F : Fun K "law" "law" sLaw f fd) (FF : Fn Pr w K mg base (L2.CX Pr w) 4 "fewest" fF dF ["text"] (spFewest K P BT)) (FD : Fn Pr w K mg base CX0 1 "_law_draw" fD dD ["_law_script", "_law_k"] (spDraw K))
    (FT : Fn Pr w K mg base CX0 2 "_law_text" fT dT ["_law_script", "_law_first", "_law_most"] (spText K)) (FL : Fn Pr w K mg base CX0 1 "_law_fewest" fL dL ["_law_text_here"] spLFewest) (FR : Fn Pr w K mg base CX0 5 "_law_refused" fR dR ["_law_thing"] (spRef K P))
    (mi : mg "isinstance" = none) (mL : mg "list" = none) : FnOk Pr w K mg base CX0 6 f fd ["_law_script"] (spLaw6 K P) := by
  refine F.ok scLaw (fun vs H Q E h => ?_) (fun cdv A outer s H vs Q E hr h => ?_)
  · obtain ⟨a, ns, rfl, _⟩ := h
    rfl
  · obtain ⟨a, ns, rfl, tab, hS, q⟩ := h
    have hu := hr.units
    refine ⟨_, pss_cons (ps_set (i := 1) scLaw.nd rfl (.inl rfl) (pe_call FT.ok (hr.mono (by decide)) (by rfl) FT.g FT.k FT.b .nil pass0 (pa_cons (pv 0) (pa_cons pe_int (pa_cons pe_int pa_nil))))) <|
      pss_cons (ps_set (i := 2) scLaw.nd rfl (.inl rfl) (pe_call FL.ok (hr.mono (by decide)) (by rfl) FL.g FL.k FL.b .nil pass0 (pa_cons (pv 1) pa_nil))) <|
      pss_cons (ps_set (i := 3) scLaw.nd rfl (.inl rfl) (pe_call FF.ok (hr.mono (by decide)) (by rfl) FF.g FF.k FF.b .nil passL (pa_cons (pv 1) pa_nil))) <|
      pss_cons (ps_if (PW.pt (pw_or (pt_not (pt_val (pe_callB call_isi (by rfl) mi boot_isinstance (pa_cons (pv 3) (pa_cons (pe_bltn (v := .ty "list") (by rfl) mL PyProof.Rows.boot_list rfl) pa_nil)))))
          (pw_or (pt_cmpR (op_neD hu) (pv 3) (pv 2) (nomark _)) (pw_or1 (pt_cmpR op_ne (pe_join pe_str (pv 3)) (pv 1) (nomark _))))))
        (pss_one (ps_ret pe_bl)) pss_nil) <|
      pss_cons (ps_expr (pe_bm PySem.F.plainAttrs_list PySem.F.slot_list_append PySem.F.type_list_append mt_append (pv 3) (pa_cons pe_str pa_nil))) <|
      pss_cons (ps_set (i := 4) scLaw.nd rfl (.inl rfl) (pe_lst (pa_cons pe_str (pa_cons pe_str (pa_cons pe_str (pa_cons pe_non (pa_cons pe_int (pa_cons pe_bl (pa_cons (pe_lst (pa_cons pe_str pa_nil)) (pa_cons (pe_tup (pa_cons pe_str (pa_cons pe_str pa_nil)))
        (pa_cons pe_dnewK (pa_cons (pe_op op_repS pe_str pe_int) (pa_cons pe_str (pa_cons (pe_lst (pa_cons (pv 1) pa_nil)) pa_nil)))))))))))))) <|
      pss_one (ps_ret (pe_and (pe_call FR.ok hr (by rfl) FR.g FR.k FR.b .nil pass0 (pa_cons (pe_ix ix_list (pv 4) (pe_op op_modN (pe_call FD.ok (hr.mono (by decide)) (by rfl) FD.g FD.k FD.b .nil pass0 (pa_cons (pv 0) (pa_cons pe_int pa_nil))) pe_int) (fun _ _ => rfl)) pa_nil))
        (pe_one (pe_cmpR (op_eqD hu) (pe_call FF.ok (hr.mono (by decide)) (by rfl) FF.g FF.k FF.b .nil passL (pa_cons (pv 1) pa_nil)) (pv 2) (nomark _))))), ?_⟩
    refine ⟨_, rfl, a, ns, 2, 30, rfl, hS, by decide, fun H1 t sm1 hz hl => ?_⟩
    have ht : t.length ≤ 31 := hl
    have k1 : Kp P H H1 := .same tab sm1
    have good : isT (.str (T t)) = true := isT_az hz (by omega)
    have pz : ∀ w ∈ prt t 0, w.all az = true := prt_az hz (Nat.zero_le _)
    refine ⟨_, rfl, t, rfl, by omega, fun H2 pd s2 hd => ?_⟩
    have k2 : Kp P H H2 := k1.trans (.same k1.tab s2)
    refine ⟨_, rfl, .str (T t), rfl, k2.tab, .text t (small200 (by omega)), fun no => absurd no (by rw [good]; exact fun z => by cases z), fun _ t2 et _ H3 pf k3 hpf hf => ?_⟩
    obtain rfl : t = t2 := T_inj (V.str.inj et)
    have hd3 : H3 pd = some (.lst ((prt t 0).map sV)) := k3.lst k2.tab hd
    have npd : pd ≠ pf := ne_of_none hd hpf
    refine ⟨_, rfl, _, .ty "list", _, _, true, rfl, .ty _, .base (.lst hf), kit_ty (by decide +kernel), true, rfl, iteF ?_⟩
    refine ⟨_, rfl, _, rfl, _, _, .lst (.inl (.inl hf)) (dp_txts _), .lst (.inl (.inl hd3)) (dp_txts _), shaped_list (okd_txts pz), shaped_list (okd_txts pz), _, rfl, ?_⟩
    rw [txts_eq (K := K) pz]
    have sq : SqL K H3 pf (((prt t 0).map T).map V.str) := by
      rw [List.map_map]
      exact .inl (.inl hf)
    have nl : (prt t 0).length ≤ t.length := by
      rw [prt_len (Nat.zero_le _)]
      exact need_le' (Nat.zero_le _)
    refine iteF ⟨⟨_, rfl⟩, _, rfl, _, pf, _, rfl, rfl, .inl sq, ?_, ?_⟩
    · have e0 : ∀ l : List (List Nat), ((l.map T).map (·.length)).sum = l.flatten.length := fun l => by
        induction l with
        | nil => rfl
        | cons c r ih =>
          show (T c).length + (((r.map T).map (·.length)).sum) = (c ++ r.flatten).length
          rw [ih, T_len, List.length_append]
      rw [e0, prt_flat0, List.length_map]
      show t.length + (prt t 0).length * 0 ≤ 16777216
      omega
    rw [join_txt, prt_flat0]
    refine ⟨_, rfl, rfl, _, rfl, ?_⟩
    rw [decide_eq_true rfl]
    refine iteF ⟨_, rfl, .inl ⟨rfl, _, .inl (.inl hf)⟩, pf, _, _, rfl, rfl, hf, ?_, ?_⟩
    · rw [List.length_map]
      exact small1000 (by omega)
    have k4 : Kp P H2 (upd H3 pf (.lst ((prt t 0).map sV ++ [.str "a"]))) := k3.own hpf (new_ne k2.tab hpf)
    generalize upd H3 pf (.lst ((prt t 0).map sV ++ [.str "a"])) = H4 at *
    have hd4 : H4 pd = some (.lst ((prt t 0).map sV)) := k4.lst k2.tab hd
    -- the odd things
    refine ⟨by decide, fun p1 hp1 => ⟨by decide, fun p2 hp2 => fun p3 hp3 => ⟨[97], 201, by decide +kernel, rfl, by decide, by decide, by decide, _, rfl, by show 1 ≤ sizeLine; decide, fun p5 hp5 => ⟨by show 12 ≤ sizeLine; decide, fun p4 hp4 => ?_⟩⟩⟩⟩
    have ka : Kp P H2 (upd H4 p1 (.lst [.str "a"])) := k4.step hp1
    have f1 : (upd H4 p1 (.lst [.str "a"])) p1 = some (.lst [.str "a"]) := upd_same
    have sa : Same H4 (upd H4 p1 (.lst [.str "a"])) := same_upd hp1
    generalize upd H4 p1 (.lst [.str "a"]) = Ha at *
    have kb : Kp P Ha (upd Ha p2 (.tup [.str "a", .str "b"])) := .new ka.tab hp2
    have f2 : (upd Ha p2 (.tup [.str "a", .str "b"])) p2 = some (.tup [.str "a", .str "b"]) := upd_same
    have sb : Same Ha (upd Ha p2 (.tup [.str "a", .str "b"])) := same_upd hp2
    generalize upd Ha p2 (.tup [.str "a", .str "b"]) = Hb at *
    have kc : Kp P Hb (upd Hb p3 (.dK [])) := .new kb.tab hp3
    have f3 : (upd Hb p3 (.dK [])) p3 = some (.dK []) := upd_same
    have sc : Same Hb (upd Hb p3 (.dK [])) := same_upd hp3
    generalize upd Hb p3 (.dK []) = Hc at *
    have kd : Kp P Hc (upd Hc p5 (.lst [.str (T t)])) := .new kc.tab hp5
    have f5 : (upd Hc p5 (.lst [.str (T t)])) p5 = some (.lst [.str (T t)]) := upd_same
    have sd : Same Hc (upd Hc p5 (.lst [.str (T t)])) := same_upd hp5
    generalize upd Hc p5 (.lst [.str (T t)]) = Hd at *
    have ke : Kp P Hd (upd Hd p4 (.lst (odd6 (T (List.replicate 201 [97]).flatten) p1 p2 p3 p5))) := .new kd.tab hp4
    have f4 : (upd Hd p4 (.lst (odd6 (T (List.replicate 201 [97]).flatten) p1 p2 p3 p5))) p4 = some (.lst (odd6 (T (List.replicate 201 [97]).flatten) p1 p2 p3 p5)) := upd_same
    have se : Same Hd (upd Hd p4 (.lst (odd6 (T (List.replicate 201 [97]).flatten) p1 p2 p3 p5))) := same_upd hp4
    have hre : upd Hd p4 (.lst [.str "A", .str "a a", .str "\n", .non, .int 5, .bl true, .ref p1, .ref p2, .ref p3, .str (T (List.replicate 201 [97]).flatten), .str "a1", .ref p5]) = upd Hd p4 (.lst (odd6 (T (List.replicate 201 [97]).flatten) p1 p2 p3 p5)) := rfl
    rw [hre]
    generalize upd Hd p4 (.lst (odd6 (T (List.replicate 201 [97]).flatten) p1 p2 p3 p5)) = He at *
    have s4e : Same H4 He := sa.trans (sb.trans (sc.trans (sd.trans se)))
    have kf : Kp P H He := k2.trans (k4.trans (.same k4.tab s4e))
    obtain ⟨j, ej, hj⟩ := modK (ns.getD 1 0) (show 0 < 12 by decide)
    obtain ⟨x, hx, no, th⟩ := odd6_at (K := K) (H := He) (z := T (List.replicate 201 [97]).flatten) (se _ _ (sd _ _ (sc _ _ (sb _ _ f1)))) (se _ _ (sd _ _ (sc _ _ f2))) (se _ _ (sd _ _ f3)) (se _ _ f5) rfl j hj
    refine ⟨_, rfl, _, rfl, a, ns, 1, rfl, kf.seq tab hS, _, 12, rfl, rfl, show (12 : Int) ≠ 0 by decide, p4, _, _, x, rfl, rfl, .inl (.inl f4), ?_, ?_⟩
    · show atI _ ((ns.getD 1 0).fmod ((12 : Nat) : Int)) = _
      rw [ej]
      exact atI_nat hx
    refine ⟨x, rfl, kf.tab, th, no, fun H6 k6 => ⟨true, rfl, iteT ?_⟩⟩
    have hd6 : H6 pd = some (.lst ((prt t 0).map sV)) := k6.lst kf.tab (s4e _ _ hd4)
    refine ⟨_, rfl, .str (T t), rfl, k6.tab, .text t (small200 (by omega)), fun no => absurd no (by rw [good]; exact fun z => by cases z), fun _ t2 et _ H7 p7 k7 hp7 h7 => ?_⟩
    obtain rfl : t = t2 := T_inj (V.str.inj et)
    refine ⟨_, rfl, _, _, .lst (.inl (.inl h7)) (dp_txts _), .lst (.inl (.inl (k7.lst k6.tab hd6))) (dp_txts _), shaped_list (okd_txts pz), shaped_list (okd_txts pz), ?_⟩
    rw [txts_eq (K := K) pz]
    exact q H7
end
end Mw
namespace Mw
open PySem PySem.Spec PyProof.Rows L2
theorem all_mk {l : PySem.W.OpenLaw} {qq : Program} {w : World} {K : PySem.W.Frag} {h : Heap} {mg : Str → Option Value} {fa : Addr} (X : K.In h) (G : h.Ns mainGlobals mg) (hfa : mg "law" = some (.ref fa))
    {f1 cc1 : Addr} {od1 an1 : Option Addr} {sl1 : Array (Option Value)} {oc1 kV1 dc1 pm1 ct1 : Value}
    (a1 : PySem.W.nsIn K mainGlobals "is_text" = some (some (.ref f1))) (l1 : K.lookup f1 = some ⟨oc1, od1, .func (PySem.W.fnOf "is_text" "is_text" (defArgs sIs) (defBody sIs) (defScope sIs) .none kV1 dc1 pm1 an1 (.ref cc1) ct1), sl1⟩) (c1 : PySem.W.codeIn K (.ref cc1) "is_text" = true) (k1 : PySem.W.keepIn K (.ref f1) = true)
    {f2 : Addr} {od2 an2 : Option Addr} {sl2 : Array (Option Value)} {oc2 kV2 dc2 pm2 ct2 cd2 : Value}
    (a2 : PySem.W.nsIn K mainGlobals "refuse_no_text" = some (some (.ref f2))) (l2 : K.lookup f2 = some ⟨oc2, od2, .func (PySem.W.fnOf "refuse_no_text" "refuse_no_text" (defArgs sRNT) (defBody sRNT) (defScope sRNT) .none kV2 dc2 pm2 an2 cd2 ct2), sl2⟩) (c2 : PySem.W.codeIn K cd2 "refuse_no_text" = true) (k2 : PySem.W.keepIn K (.ref f2) = true)
    {f3 : Addr} {od3 an3 : Option Addr} {sl3 : Array (Option Value)} {oc3 kV3 dc3 pm3 ct3 cd3 : Value}
    (a3 : PySem.W.nsIn K mainGlobals "reads_alike" = some (some (.ref f3))) (l3 : K.lookup f3 = some ⟨oc3, od3, .func (PySem.W.fnOf "reads_alike" "reads_alike" (defArgs sAlike) (defBody sAlike) (defScope sAlike) .none kV3 dc3 pm3 an3 cd3 ct3), sl3⟩) (c3 : PySem.W.codeIn K cd3 "reads_alike" = true) (k3 : PySem.W.keepIn K (.ref f3) = true)
    {f4 : Addr} {od4 an4 : Option Addr} {sl4 : Array (Option Value)} {oc4 kV4 dc4 pm4 ct4 cd4 : Value}
    (a4 : PySem.W.nsIn K mainGlobals "ends_from" = some (some (.ref f4))) (l4 : K.lookup f4 = some ⟨oc4, od4, .func (PySem.W.fnOf "ends_from" "ends_from" (defArgs sEndsF) (defBody sEndsF) (defScope sEndsF) .none kV4 dc4 pm4 an4 cd4 ct4), sl4⟩) (c4 : PySem.W.codeIn K cd4 "ends_from" = true) (k4 : PySem.W.keepIn K (.ref f4) = true)
    {f5 : Addr} {od5 an5 : Option Addr} {sl5 : Array (Option Value)} {oc5 kV5 dc5 pm5 ct5 cd5 : Value}
    (a5 : PySem.W.nsIn K mainGlobals "words_needed" = some (some (.ref f5))) (l5 : K.lookup f5 = some ⟨oc5, od5, .func (PySem.W.fnOf "words_needed" "words_needed" (defArgs sNeeded) (defBody sNeeded) (defScope sNeeded) .none kV5 dc5 pm5 an5 cd5 ct5), sl5⟩) (c5 : PySem.W.codeIn K cd5 "words_needed" = true) (k5 : PySem.W.keepIn K (.ref f5) = true)
    {f6 : Addr} {od6 an6 : Option Addr} {sl6 : Array (Option Value)} {oc6 kV6 dc6 pm6 ct6 cd6 : Value}
    (a6 : PySem.W.nsIn K mainGlobals "fewest" = some (some (.ref f6))) (l6 : K.lookup f6 = some ⟨oc6, od6, .func (PySem.W.fnOf "fewest" "fewest" (defArgs sFewest) (defBody sFewest) (defScope sFewest) .none kV6 dc6 pm6 an6 cd6 ct6), sl6⟩) (c6 : PySem.W.codeIn K cd6 "fewest" = true) (k6 : PySem.W.keepIn K (.ref f6) = true)
    {f7 : Addr} {od7 an7 : Option Addr} {sl7 : Array (Option Value)} {oc7 kV7 dc7 pm7 ct7 cd7 : Value}
    (a7 : PySem.W.nsIn K mainGlobals "_law_draw" = some (some (.ref f7))) (l7 : K.lookup f7 = some ⟨oc7, od7, .func (PySem.W.fnOf "_law_draw" "_law_draw" (defArgs sDraw) (defBody sDraw) (defScope sDraw) .none kV7 dc7 pm7 an7 cd7 ct7), sl7⟩) (c7 : PySem.W.codeIn K cd7 "_law_draw" = true) (k7 : PySem.W.keepIn K (.ref f7) = true)
    {f8 : Addr} {od8 an8 : Option Addr} {sl8 : Array (Option Value)} {oc8 kV8 dc8 pm8 ct8 cd8 : Value}
    (a8 : PySem.W.nsIn K mainGlobals "_law_text" = some (some (.ref f8))) (l8 : K.lookup f8 = some ⟨oc8, od8, .func (PySem.W.fnOf "_law_text" "_law_text" (defArgs sText) (defBody sText) (defScope sText) .none kV8 dc8 pm8 an8 cd8 ct8), sl8⟩) (c8 : PySem.W.codeIn K cd8 "_law_text" = true) (k8 : PySem.W.keepIn K (.ref f8) = true)
    {f9 : Addr} {od9 an9 : Option Addr} {sl9 : Array (Option Value)} {oc9 kV9 dc9 pm9 ct9 cd9 : Value}
    (a9 : PySem.W.nsIn K mainGlobals "_law_fewest" = some (some (.ref f9))) (l9 : K.lookup f9 = some ⟨oc9, od9, .func (PySem.W.fnOf "_law_fewest" "_law_fewest" (defArgs sLFewest) (defBody sLFewest) (defScope sLFewest) .none kV9 dc9 pm9 an9 cd9 ct9), sl9⟩) (c9 : PySem.W.codeIn K cd9 "_law_fewest" = true) (k9 : PySem.W.keepIn K (.ref f9) = true)
    {f10 : Addr} {od10 an10 : Option Addr} {sl10 : Array (Option Value)} {oc10 kV10 dc10 pm10 ct10 cd10 : Value}
    (a10 : PySem.W.nsIn K mainGlobals "_law_refused" = some (some (.ref f10))) (l10 : K.lookup f10 = some ⟨oc10, od10, .func (PySem.W.fnOf "_law_refused" "_law_refused" (defArgs sRef) (defBody sRef) (defScope sRef) .none kV10 dc10 pm10 an10 cd10 ct10), sl10⟩) (c10 : PySem.W.codeIn K cd10 "_law_refused" = true) (k10 : PySem.W.keepIn K (.ref f10) = true)
    {f11 : Addr} {od11 an11 : Option Addr} {sl11 : Array (Option Value)} {oc11 kV11 dc11 pm11 ct11 cd11 : Value}
    (a11 : PySem.W.nsIn K mainGlobals "law" = some (some (.ref f11))) (l11 : K.lookup f11 = some ⟨oc11, od11, .func (PySem.W.fnOf "law" "law" (defArgs sLaw) (defBody sLaw) (defScope sLaw) .none kV11 dc11 pm11 an11 cd11 ct11), sl11⟩) (c11 : PySem.W.codeIn K cd11 "law" = true) (k11 : PySem.W.keepIn K (.ref f11) = true)
    (z1 : PySem.W.nsIn K mainGlobals "isinstance" = some none)
    (z2 : PySem.W.nsIn K mainGlobals "len" = some none)
    (z3 : PySem.W.nsIn K mainGlobals "all" = some none)
    (z4 : PySem.W.nsIn K mainGlobals "str" = some none)
    (z5 : PySem.W.nsIn K mainGlobals "range" = some none)
    (z6 : PySem.W.nsIn K mainGlobals "list" = some none)
    (z7 : PySem.W.nsIn K mainGlobals "ValueError" = some none)
    (z8 : PySem.W.nsIn K mainGlobals "reversed" = some none)
    (z9 : PySem.W.nsIn K mainGlobals "min" = some none)
    (z10 : PySem.W.nsIn K mainGlobals "max" = some none)
    {C0 : Addr} (e0 : PySem.W.nsIn K mainGlobals "MirrorError" = some (some (.ref C0)))
    {C1 : Addr} (e1 : PySem.W.nsIn K mainGlobals "BadText" = some (some (.ref C1)))
    {C2 : Addr} (e2 : PySem.W.nsIn K mainGlobals "BadArms" = some (some (.ref C2)))
    {C3 : Addr} (e3 : PySem.W.nsIn K mainGlobals "BadLetter" = some (some (.ref C3)))
    {C4 : Addr} (e4 : PySem.W.nsIn K mainGlobals "BadWord" = some (some (.ref C4)))
    {C5 : Addr} (e5 : PySem.W.nsIn K mainGlobals "Full" = some (some (.ref C5)))
    {C6 : Addr} (e6 : PySem.W.nsIn K mainGlobals "NoPlace" = some (some (.ref C6)))
    {C7 : Addr} (e7 : PySem.W.nsIn K mainGlobals "NoText" = some (some (.ref C7)))
    {tm : Tok} (gm : PySem.W.nsIn K mainGlobals "MOST" = some (some (.int 200 tm)))
    {P : Addr} {q1 : Value} {q2 : Option Addr} {vs : Array Value} {q3 : Array (Option Value)} (lc : K.lookup cc1 = some ⟨q1, q2, .fields vs, q3⟩)
    (hv : vs[11]? = some (.ref P))
    (nP : K.lookup P = none)
    (x1 : PySem.W.excIn K C1 [.type "ValueError", .type "Exception", .type "BaseException", .type "object"] "ValueError.__new__" = true)
    (xk1 : PySem.W.keepIn K (.ref C1) = true) (xb1 : PySem.W.subIn K (.ref C1) (.type "BaseException") = some true) (xt1 : PySem.W.typeIn K (.ref C1) = some (.type "type"))
    (y11 : PySem.W.findIn K (.ref C1) "__getattribute__" = some (some (.builtin "BaseException.__getattribute__"))) (y12 : PySem.W.findIn K (.ref C1) "__getattr__" = some none) (y13 : PySem.W.hasDictIn K C1 = true) (y14 : PySem.W.findIn K (.ref C1) "__class__" = some (some (.builtin "object.__class__")))
    (y17 : PySem.W.mroIn K C1 (.type "object") = some true)
    (y5 : PySem.W.specialIn K (.builtin "object.__class__") "__get__" = some (some (.builtin "getset_descriptor.__get__"))) (y6 : PySem.W.takesIn K (.builtin "object.__class__") = some true)
    (t1 : PySem.W.exmOne K (.ref C1) (.ref C0) = some true) (t2 : PySem.W.kitAny K (.ref C1) [.ref C2, .ref C3, .ref C4, .ref C5, .ref C6, .ref C7] = some false) (t3 : PySem.W.kitOne K (.ref C1) (.ref C1) = some true) (t4 : PySem.W.kitOne K (.ref C1) (.type "ValueError") = some true)
    (tabs : ∀ (y : Str) (c P : Addr), ((recsOf qq).find? (fun e => e.name == y)).isSome = true → PySem.W.tabIn K y = some (c, P) → PySem.W.CodeHd h c P ∧ h.get? P = some { cls := .none, data := .fields #[] })
    (isr : ((recsOf qq).find? (fun e => e.name == ("is_text" : Str))).isSome = true) :
    LamX.LawAtS l w K CX0 6 63 "_law_script" mg fa h := by
  have e := hfa.symm.trans (PySem.W.mg_of X G a11)
  cases e
  have F1 := fun_mk (st := sIs) l1 c1 k1
  have F2 := fun_mk (st := sRNT) l2 c2 k2
  have F3 := fun_mk (st := sAlike) l3 c3 k3
  have F4 := fun_mk (st := sEndsF) l4 c4 k4
  have F5 := fun_mk (st := sNeeded) l5 c5 k5
  have F6 := fun_mk (st := sFewest) l6 c6 k6
  have F7 := fun_mk (st := sDraw) l7 c7 k7
  have F8 := fun_mk (st := sText) l8 c8 k8
  have F9 := fun_mk (st := sLFewest) l9 c9 k9
  have F10 := fun_mk (st := sRef) l10 c10 k10
  have F11 := fun_mk (st := sLaw) l11 c11 k11
  have b1 := F1.binds (ps := ["thing"]) fun _ _ _ _ _ _ us hl => match us, hl with | [_], _ => rfl
  have b2 := F2.binds (ps := ["text"]) fun _ _ _ _ _ _ us hl => match us, hl with | [_], _ => rfl
  have b3 := F3.binds (ps := ["text"]) fun _ _ _ _ _ _ us hl => match us, hl with | [_], _ => rfl
  have b4 := F4.binds (ps := ["text", "start"]) fun _ _ _ _ _ _ us hl => match us, hl with | [_, _], _ => rfl
  have b5 := F5.binds (ps := ["text"]) fun _ _ _ _ _ _ us hl => match us, hl with | [_], _ => rfl
  have b6 := F6.binds (ps := ["text"]) fun _ _ _ _ _ _ us hl => match us, hl with | [_], _ => rfl
  have b7 := F7.binds (ps := ["_law_script", "_law_k"]) fun _ _ _ _ _ _ us hl => match us, hl with | [_, _], _ => rfl
  have b8 := F8.binds (ps := ["_law_script", "_law_first", "_law_most"]) fun _ _ _ _ _ _ us hl => match us, hl with | [_, _, _], _ => rfl
  have b9 := F9.binds (ps := ["_law_text_here"]) fun _ _ _ _ _ _ us hl => match us, hl with | [_], _ => rfl
  have b10 := F10.binds (ps := ["_law_thing"]) fun _ _ _ _ _ _ us hl => match us, hl with | [_], _ => rfl
  have g : ∀ {x : Str} {v : Value}, PySem.W.nsIn K mainGlobals x = some (some v) → mg x = some v := fun e => PySem.W.mg_of X G e
  have gn : ∀ {x : Str}, PySem.W.nsIn K mainGlobals x = some none → mg x = none := fun e => PySem.W.mg_none_of X G e
  have tb := tabs "is_text" cc1 P isr (tab_from a1 l1 rfl lc hv)
  refine ⟨PySem.W.fnOf "law" "law" (defArgs sLaw) (defBody sLaw) (defScope sLaw) .none kV11 dc11 pm11 an11 cd11 ct11, [(cc1, P)], spLaw6 K P, fun p hp => ?_, fun p hp => ?_, fun p hp => ?_, fun s u => .of_eq rfl, fun H a ns hlen hbits hT hS => ⟨a, ns, rfl, ⟨#[], hT (cc1, P) List.mem_cons_self, trivial⟩, hS, fun _ => rfl⟩, fun base _ _ TB => ?_⟩
  · obtain rfl := List.mem_singleton.mp hp
    exact tb.2
  · obtain rfl := List.mem_singleton.mp hp
    exact nP
  · obtain rfl := List.mem_singleton.mp hp
    exact tb.1
  · have TB1 : GxR.TabB base mg cc1 P := ⟨(TB (cc1, P) List.mem_cons_self).code, (TB (cc1, P) List.mem_cons_self).bm, (TB (cc1, P) List.mem_cons_self).gP⟩
    have EB : ErrC K mg "BadText" C1 := ⟨g e1, x1, xk1, xb1, xt1⟩
    have N1 : Fn l.prog w K mg base CX0 1 "is_text" f1 _ ["thing"] (spIs K P) := ⟨ok_is F1 rfl TB1 (gn z1) (gn z2) (gn z3) (gn z4) (g gm), g a1, k1, b1⟩
    have N2 : Fn l.prog w K mg base (L2.CX l.prog w) 2 "refuse_no_text" f2 _ ["text"] (spNoT K P C1) := ⟨ok_rnt F2 N1 EB, g a2, k2, b2⟩
    have N3 : Fn l.prog w K mg base CX0 1 "reads_alike" f3 _ ["text"] spAlike := ⟨ok_alike F3, g a3, k3, b3⟩
    have N4 : Fn l.prog w K mg base CX0 2 "ends_from" f4 _ ["text", "start"] spEndsF := ⟨ok_endsF F4 N3 (gn z2) (gn z5), g a4, k4, b4⟩
    have N5 : Fn l.prog w K mg base CX0 3 "words_needed" f5 _ ["text"] spNeeded := ⟨ok_needed F5 N4 (gn z2) (gn z5) (gn z8) (gn z9), g a5, k5, b5⟩
    have N6 : Fn l.prog w K mg base (L2.CX l.prog w) 4 "fewest" f6 _ ["text"] (spFewest K P C1) := ⟨ok_fewest F6 N2 N5 N4 (gn z2) (gn z10), g a6, k6, b6⟩
    have N7 : Fn l.prog w K mg base CX0 1 "_law_draw" f7 _ ["_law_script", "_law_k"] (spDraw K) := ⟨ok_draw F7 (gn z2), g a7, k7, b7⟩
    have N8 : Fn l.prog w K mg base CX0 2 "_law_text" f8 _ ["_law_script", "_law_first", "_law_most"] (spText K) := ⟨ok_text F8 N7 (gn z2), g a8, k8, b8⟩
    have N9 : Fn l.prog w K mg base CX0 1 "_law_fewest" f9 _ ["_law_text_here"] spLFewest := ⟨ok_lfewest F9 (gn z2) (gn z5) (gn z8), g a9, k9, b9⟩
    have N10 : Fn l.prog w K mg base CX0 5 "_law_refused" f10 _ ["_law_thing"] (spRef K P) := ⟨ok_ref F10 N6 EB ⟨y11, y12, xb1, y13, y14, y5, y6, y17⟩ (g e0) t1 (g e2) (g e3) (g e4) (g e5) (g e6) (g e7) t2 t3 t4 (gn z1) (gn z7), g a10, k10, b10⟩
    exact ok_law F11 N6 N7 N8 N9 N10 (gn z1) (gn z6)
end Mw
open PySem PySem.W PyProof.Rows
set_option maxHeartbeats 0 in
theorem PySem.Challenge.cw_mirrorwords_k06_fewest_words_holds : PySem.Challenge.rw_mirrorwords_k06_fewest_words.Holds := by
  w_on; o_law; k_head; (case hw => w_witness2)
  k_fill
  refine Mw.walk_tab (l := PySem.Challenge.rw_mirrorwords_k06_fewest_words) (n := 63) (k := 6) (x := "_law_script") (CX := fun _ => L2.CX0) rfl (by decide) rfl ⟨rfl, by decide, by decide⟩ (fun w h Y => PySem.W.kIn_of Y) ?F (fun _ _ _ _ _ h => h)
  case F =>
    intro w mg fa h tabs KX G hmg
    refine' Mw.all_mk KX G hmg ?a1 ?l1 ?c1 ?k1 ?a2 ?l2 ?c2 ?k2 ?a3 ?l3 ?c3 ?k3 ?a4 ?l4 ?c4 ?k4 ?a5 ?l5 ?c5 ?k5 ?a6 ?l6 ?c6 ?k6 ?a7 ?l7 ?c7 ?k7 ?a8 ?l8 ?c8 ?k8 ?a9 ?l9 ?c9 ?k9 ?a10 ?l10 ?c10 ?k10 ?a11 ?l11 ?c11 ?k11 ?z1 ?z2 ?z3 ?z4 ?z5 ?z6 ?z7 ?z8 ?z9 ?z10 ?e0 ?e1 ?e2 ?e3 ?e4 ?e5 ?e6 ?e7 ?gm ?lc ?hv ?nP ?x1 ?xk1 ?xb1 ?xt1 ?y11 ?y12 ?y13 ?y14 ?y17 ?y5 ?y6 ?t1 ?t2 ?t3 ?t4 tabs (by decide +kernel)
    (case a1 => k_is); (case l1 => k_is); (case c1 => k_is); (case k1 => k_is); (case a2 => k_is); (case l2 => k_is); (case c2 => k_is); (case k2 => k_is); (case a3 => k_is); (case l3 => k_is); (case c3 => k_is); (case k3 => k_is); (case a4 => k_is); (case l4 => k_is); (case c4 => k_is); (case k4 => k_is); (case a5 => k_is); (case l5 => k_is); (case c5 => k_is); (case k5 => k_is); (case a6 => k_is); (case l6 => k_is); (case c6 => k_is); (case k6 => k_is); (case a7 => k_is); (case l7 => k_is); (case c7 => k_is); (case k7 => k_is); (case a8 => k_is); (case l8 => k_is); (case c8 => k_is); (case k8 => k_is); (case a9 => k_is); (case l9 => k_is); (case c9 => k_is); (case k9 => k_is); (case a10 => k_is); (case l10 => k_is); (case c10 => k_is); (case k10 => k_is); (case a11 => k_is); (case l11 => k_is); (case c11 => k_is); (case k11 => k_is); (case z1 => k_is); (case z2 => k_is); (case z3 => k_is); (case z4 => k_is); (case z5 => k_is); (case z6 => k_is); (case z7 => k_is); (case z8 => k_is); (case z9 => k_is); (case z10 => k_is); (case e0 => k_is); (case e1 => k_is); (case e2 => k_is); (case e3 => k_is); (case e4 => k_is); (case e5 => k_is); (case e6 => k_is); (case e7 => k_is); (case gm => k_is); (case lc => k_is); (case hv => exact rfl); (case nP => kernel_rfl); (case x1 => k_exc); (case xk1 => k_is); (case xb1 => k_is); (case xt1 => k_is); (case y11 => k_is); (case y12 => k_is); (case y13 => k_is); (case y14 => k_is); (case y17 => k_is); (case y5 => k_is); (case y6 => k_is); (case t1 => kernel_rfl); (case t2 => kernel_rfl); (case t3 => kernel_rfl); (case t4 => kernel_rfl)
