import PyProof.Rows.All
import Wide.All
import OpenK.AllK
import Wide.FinOn
import HandS.ForMost
import HandS.ForExc
import HandS.AnyAll
import HandS.IsInst
import HandS.ExcIs
import HandS.ExcValue
import HandS.EndTab
import HandS.Walk
import KE.DataMinMax
import HandS.Conv
import HandS.Style
import HandS.Codes
import HandS.DictComp
import HandS.Zip
import HandS.SetTxt0
import HandS.Set
import HandS.SetBool
import PyProof.StrWalks
import HandS.RevRange
import HandS.SortKw
import KE.DataMinKey
import PySem.Challenge.RW_mirrorwords_k04_whole_least_of_all_texts
set_option Elab.async false
set_option linter.all false
set_option maxRecDepth 100000
set_option maxHeartbeats 4000000
namespace Mw
open PySem PySem.Spec PyProof.Rows L2

/-! ### texts as lists of codes -/
def T (l : List Nat) : Str := ⟨l.toArray⟩
theorem T_tl (z : Str) : T (TL.tl z) = z := TL.ext_tl rfl
theorem tl_T (l : List Nat) : TL.tl (T l) = l := rfl
theorem T_len (l : List Nat) : (T l).length = l.length := by
  rw [TL.len_tl, tl_T]
theorem T_inj {a b : List Nat} (h : T a = T b) : a = b := congrArg TL.tl h
theorem T_app (a b : List Nat) : T a ++ T b = T (a ++ b) := TL.ext_tl (by rw [TL.tl_append]; rfl)
theorem T_dec (a b : List Nat) : decide (V.str (T a) = V.str (T b)) = decide (a = b) := by
  by_cases e : a = b
  · rw [e, decide_eq_true rfl, decide_eq_true rfl]
  · rw [decide_eq_false e, decide_eq_false fun z => e (T_inj (V.str.inj z))]

/-! ### the text read from behind -/
section
variable {X : Cx}
def tRevS (te : TE) : TE := fun σ H Q => te σ H fun x H1 => ∃ l : List Nat, x = .str (T l) ∧ l.length ≤ sizeLine ∧ Q (.str (T l.reverse)) H1
theorem rev_codes (l : List Nat) (u : Tok) : Txt.sliceBy (T l) none none (-1, u) = T l.reverse := by
  refine TL.ext_tl ?_
  show (Txt.sliceBy (T l) none none (-1, u)).cps.toList = l.reverse
  rw [step_rev_list, T_len]
  apply List.ext_getElem
  · rw [List.length_map, List.length_range, List.length_reverse]
  · intro i h1 h2
    have hi : i < l.length := by
      rw [List.length_reverse] at h2
      exact h2
    rw [List.getElem_map, List.getElem_range, List.getElem_reverse]
    show (l.toArray).getD (l.length - 1 - i) 0 = _
    have hj : l.length - 1 - i < l.length := by omega
    simp [Array.getD, hj]
theorem pe_revS {e : Expr} {te : TE} {k : Nat} {p1 p2 p3 pos : Pos} (he : PE X e te) : PE X (.Subscript e (.Slice none none (some (.UnaryOp .USub (.Constant (.int 1) k p1) p2)) p3) pos) (tRevS te) := by
  constructor
  intro pins s σ H Q I h
  refine Subscript_ (thn (he.run pins s σ H _ I h) fun v s1 hv => ?_)
  obtain ⟨x, H1, I1, r1, l, ex, hz, q⟩ := hv
  subst ex
  obtain ⟨t, rfl⟩ := r1
  have hst : PO X (some (.UnaryOp .USub (.Constant (.int 1) k p1) p2)) (tPart (tUn (rU fun i => .int (-i)) (tC (.int 1)))) := po_some (pe_un un_neg pe_int)
  refine wpAny_Slice (thn (po_none.run pins s1 σ H1 (fun o G => o = none ∧ G = H1) I1 ⟨rfl, rfl⟩) fun vl s2 hl => ?_)
  obtain ⟨o1, G1, J1, pl, rfl, rfl⟩ := hl
  refine thn (po_none.run pins s2 σ G1 (fun o G => o = none ∧ G = G1) J1 ⟨rfl, rfl⟩) fun vu s3 hu => ?_
  obtain ⟨o2, G2, J2, pu, rfl, rfl⟩ := hu
  refine thn (hst.run pins s3 σ G2 (fun o G => o = some (-1) ∧ G = G2) J2 ⟨1, rfl, -1, rfl, rfl, rfl⟩) fun vs s4 hs => ?_
  obtain ⟨o3, G3, J3, ps, rfl, rfl⟩ := hs
  have K5 : Inv X pins σ G3 { s4 with heap := s4.heap.push { cls := .type "slice", data := .fields #[vl, vu, vs] } } := J3.kept (t' := s4.toks) fun b ob z => Heap.get?_push_of_some _ z
  cases pl
  cases pu
  cases ps with
  | int i u =>
    refine tail_any (ops := [.str (T l) t, .ref s4.heap.objs.size]) (typeIs_str _ _ _) F.slot_str_getitem.lookup ?_ (by with_unfolding_all rfl)
    refine wpAny_getItem_str_slice (l := none) (u := none) (st := some (-1, u)) ⟨_, Heap.get?_push_size _ rfl, rfl, rfl⟩ rfl ?_
    have hne : ¬ ((((some ((-1 : Int), u)).map (·.1)).getD 1 == 1 && (slicePicked (T l) none none (some (-1, u))).length == (T l).length) = true) := by
      intro z
      have z1 := (Bool.and_eq_true _ _ ▸ z).1
      exact absurd (show ((-1 : Int) == 1) = true from z1) (by decide)
    have e1 := rev_codes l u
    unfold Txt.sliceBy at e1
    rw [if_neg hne] at e1
    unfold sliceMade
    rw [if_neg hne, e1]
    refine ⟨?_, .str (T l.reverse), G3, K5.tok _, ⟨_, rfl⟩, q⟩
    show (T l.reverse).length ≤ sizeLine
    rw [T_len, List.length_reverse]
    exact hz
end
end Mw
namespace Mw
open PySem PySem.Spec PyProof.Rows L2

/-! ### a text n times -/
theorem fold_cat (c : Array Nat) : ∀ (n : Nat) (acc : List Nat), ((List.replicate n c).foldl (· ++ ·) acc.toArray) = (acc ++ (List.replicate n c.toList).flatten).toArray
  | 0, acc => by simp
  | n + 1, acc => by
    have e : acc.toArray ++ c = (acc ++ c.toList).toArray := by simp
    rw [List.replicate_succ, List.foldl_cons, e, fold_cat c n, List.replicate_succ, List.flatten_cons, List.append_assoc]
theorem mul_T (l : List Nat) {n : Nat} (hn : 1 ≤ n) : Txt.mul (T l) (n : Int) = T (List.replicate n l).flatten := by
  unfold Txt.mul
  rw [if_neg (show ¬ ((n : Int) < 1) by omega)]
  by_cases c : (((n : Int) == 1) || (T l).length == 0) = true
  · rw [if_pos c]
    rcases (Bool.or_eq_true _ _).mp c with h | h
    · have e : n = 1 := by
        have := eq_of_beq h
        omega
      subst e
      simp [T]
    · have e : l = [] := by
        have e0 := eq_of_beq h
        rw [T_len] at e0
        exact List.length_eq_zero_iff.mp e0
      subst e
      simp [T]
  · rw [if_neg c, Int.toNat_natCast]
    show (⟨(List.replicate n l.toArray).foldl (· ++ ·) ([] : List Nat).toArray⟩ : Str) = _
    rw [fold_cat]
    simp [T]
def rRepS : R2 := fun x y H Q => ∃ (l : List Nat) (n : Nat), x = .str (T l) ∧ y = .int (n : Int) ∧ 1 ≤ n ∧ l.length * n ≤ sizeLine ∧ n ≤ 1000 ∧ Q (.str (T (List.replicate n l).flatten)) H
theorem op_repS {X : Cx} : OpR X (binaryOp .Mult) rRepS := by
  intro pins s σ H x y v u Q I rx ry h
  obtain ⟨l, n, rfl, rfl, hn, hz, hk, q⟩ := h
  obtain ⟨t, rfl⟩ := rx
  obtain ⟨t2, rfl⟩ := ry
  have hz' : l.length * n ≤ 16777216 := by
    rw [← sizeLine_eq]
    exact hz
  have hl : l.length ≤ 16777216 := Nat.le_trans (Nat.le_mul_of_pos_right _ hn) hz'
  refine SB.mul ⟨?_, fun _ _ => ?_, fun _ _ => ?_⟩ fun t' k => ?_
  · rw [decide_eq_false (by omega), decide_eq_false (by omega)]
    rfl
  · rw [T_len]
    have h1 : ((16777216 : Int)) ≤ (2 ^ 63 - 1) / (n : Int) := by
      refine Int.le_ediv_of_mul_le (by omega) ?_
      have : (16777216 : Int) * n ≤ 16777216 * 1000 := by omega
      refine Int.le_trans this (by decide)
    omega
  · unfold Builtin.Str.tooLong
    rw [T_len, Int.toNat_natCast]
    exact decide_eq_false (by omega)
  · rw [mul_T l hn]
    exact ⟨.str _, H, I.tok k, ⟨t', rfl⟩, q⟩

/-! ### letters -/
def az (c : Nat) : Bool := decide (97 ≤ c) && decide (c ≤ 122)
theorem lt_one (a b : Nat) : decide (([a] : List Nat) < [b]) = decide (a < b) := by
  by_cases h : a < b
  · rw [decide_eq_true h]
    exact decide_eq_true (List.Lex.rel h)
  · rw [decide_eq_false h]
    refine decide_eq_false fun z => ?_
    cases z with
    | rel k => exact h k
    | cons k => cases k
theorem elt_az {prog : Program} {w : World} {scope : Scope} {x : Str} {j j2 : Nat} {p1 p2 p3 p4 : Pos} (hk : scope.kind = .function) (hl : scope.names.lookup x = some .local) (hd : (x == ("__debug__" : Str)) = false := by decide) :
    GxR.EltP prog w scope x (.Compare (.Constant (.str "a") j p1) [.LtE, .LtE] [.Name x p2, .Constant (.str "z") j2 p3] p4) az := by
  intro cenv A' E' c t s₂ m₂ hs hn hm
  have nm : ∀ {s3 : Shared} {Q : Value → Shared → Prop}, s3.heap.Ns cenv.locals m₂ → Q (.str ⟨#[c]⟩ t) s3 → wpAny (model prog w) A' (eval (.Name x p2) cenv) Q E' s3 := fun {s3 Q} hn3 q =>
    wpAny_Name (wpAny_loadName_local (by rw [hs]; exact hk) (show cenv.scope.names.lookup x = some .local by rw [hs]; exact hl) hn3 hm q) hd
  refine Compare_chain (Calls.Constant_str (chain_link (nm hn (PySem.P.le_str ?_)))) (by with_unfolding_all rfl)
  have e1 : (!decide (([c] : List Nat) < [97])) = decide (97 ≤ c) := by
    rw [lt_one]
    by_cases h : c < 97
    · rw [decide_eq_true h, decide_eq_false (by omega)] <;> rfl
    · rw [decide_eq_false h, decide_eq_true (by omega)] <;> rfl
  have e2 : (!decide (([122] : List Nat) < [c])) = decide (c ≤ 122) := by
    rw [lt_one]
    by_cases h : 122 < c
    · rw [decide_eq_true h, decide_eq_false (by omega)] <;> rfl
    · rw [decide_eq_false h, decide_eq_true (by omega)] <;> rfl
  show wpAny _ _ (truthy (.bool (!decide (([c] : List Nat) < [97])))) _ _ _
  rw [e1]
  refine wpAny_truthy_bool ?_
  unfold az
  by_cases h : 97 ≤ c
  · rw [decide_eq_true h]
    refine ite_tt (chain_last (Calls.Constant_str (PySem.P.le_str ?_)))
    show (Value.bool (!decide (([122] : List Nat) < [c])) = _) ∧ _
    rw [e2, Bool.true_and]
    exact ⟨rfl, GxR.keeps_tok _ _⟩
  · rw [decide_eq_false h]
    refine ite_ff ⟨?_, GxR.keeps_tok _ _⟩
    show Value.bool (!decide (([c] : List Nat) < [97])) = Value.bool (false && decide (c ≤ 122))
    rw [e1, decide_eq_false h, Bool.false_and]
theorem genS {env : Env} {scope : Scope} {x : Str} (h1 : scope.kind = .function) (h2 : scope.isCoroutine = false) (h3 : ∀ y ∈ scope.names, y.2 = .local) (h4 : scope.names.lookup (".0" : Str) = some NameKind.local) (h5 : scope.names.lookup x = some .local) :
    GxR.GenS env scope x := ⟨h1, h2, fun y hy e => (by rw [h3 y hy] at e; cases e), h4, h5, fun y hy e => (by rw [h3 y hy] at e; cases e)⟩
end Mw
namespace Mw
open PySem PySem.Spec PyProof.Rows L2

/-! ### a def whose code object is told -/
theorem okC {P : Program} {w : World} {K : PySem.W.Frag} {mg : Str → Option Value} {base : Heap} {x qual : Str} {st : Stmt} {f : Addr} {fd : FuncData} {N ps : List Str} {k : Nat} {sp : Sp}
    (F : Fun K x qual st f fd) (S : FnScope N ps (defScope st)) (len : ∀ vs H Q E, sp vs H Q E → vs.length = ps.length)
    (body : ∀ (A : Around) (outer : List Env) (s : Shared) (H : Hp) (vs : List V) (Q : VK) (E : XK), Room k (A.deeper (envOfC qual (defScope st) s.heap.objs.size f fd.code)) → sp vs H Q E →
      ∃ t, PSs (cxOf CX0 P w K mg base N qual (defScope st) f fd.code A outer s H E).nox (defBody st) t ∧ t { nx := fun _ H' => Q .non H', rt := Q } (start N vs) H) :
    FnOk P w K mg base CX0 (k + 1) f fd ps sp := by
  obtain ⟨oc, od, kV, doc, pm, an, cdv, ct, osl, rfl, lk, hcd⟩ := F.ex
  refine fn_of lk hcd S len ?_
  intro A outer s H vs Q E hr hsp
  obtain ⟨t, h, q⟩ := body A outer s H vs Q E hr hsp
  exact ⟨t, h.nox, q⟩

/-! ### the heap behind a call: all stays but the table at P -/
structure Kp (P : Addr) (H H' : Hp) : Prop where
  tab : GxR.TabG H' P
  keep : ∀ b o, b ≠ P → H b = some o → H' b = some o
theorem Kp.refl {P : Addr} {H : Hp} (t : GxR.TabG H P) : Kp P H H := ⟨t, fun _ _ _ h => h⟩
theorem Kp.trans {P : Addr} {H H1 H2 : Hp} (a : Kp P H H1) (b : Kp P H1 H2) : Kp P H H2 := ⟨b.tab, fun c o n h => b.keep c o n (a.keep c o n h)⟩
theorem Kp.tabbed {P : Addr} {H H' : Hp} (t : GxR.Tabbed P H H') : Kp P H H' := ⟨t.1, fun b o n h => by rw [t.2 b n]; exact h⟩
theorem Kp.same {P : Addr} {H H' : Hp} (t : GxR.TabG H P) (s : Same H H') : Kp P H H' := by
  obtain ⟨ps, h1, h2⟩ := t
  exact ⟨⟨ps, s _ _ h1, h2⟩, fun b o _ h => s b o h⟩
theorem Kp.new {P p : Addr} {H : Hp} {o : HO} (t : GxR.TabG H P) (n : H p = none) : Kp P H (upd H p o) := .same t fun b u e => by
  rw [upd_ne (ne_of_none e n)]
  exact e
theorem Kp.step {P p : Addr} {H H1 : Hp} {o : HO} (a : Kp P H H1) (n : H1 p = none) : Kp P H (upd H1 p o) := a.trans (.new a.tab n)
/-- a list of one's own is written: what stood ahead of it stays -/
theorem Kp.own {P p : Addr} {H H1 : Hp} {o : HO} (a : Kp P H H1) (n : H p = none) (hp : p ≠ P) : Kp P H (upd H1 p o) := by
  refine ⟨?_, fun b u nb h => ?_⟩
  · obtain ⟨ps, h1, h2⟩ := a.tab
    exact ⟨ps, by rw [upd_ne (Ne.symm hp)]; exact h1, h2⟩
  · rw [upd_ne (ne_of_none h n)]
    exact a.keep b u nb h
theorem tab_ne {P p : Addr} {H : Hp} {o : HO} (t : GxR.TabG H P) (h : H p = some o) (n : ∀ ps, o ≠ .tbl ps) : p ≠ P := by
  obtain ⟨ps, h1, _⟩ := t
  exact ne_of h h1 (n ps)
theorem new_ne {P p : Addr} {H : Hp} (t : GxR.TabG H P) (h : H p = none) : p ≠ P := by
  obtain ⟨ps, h1, _⟩ := t
  exact (ne_of_none h1 h).symm
theorem Kp.lst {P p : Addr} {H H' : Hp} {xs : List V} (a : Kp P H H') (t : GxR.TabG H P) (h : H p = some (.lst xs)) : H' p = some (.lst xs) := a.keep _ _ (tab_ne t h fun _ z => by cases z) h
theorem Kp.seq {P p : Addr} {K : PySem.W.Frag} {H H' : Hp} {xs : List V} (a : Kp P H H') (t : GxR.TabG H P) (h : SqL K H p xs) : SqL K H' p xs := by
  rcases h with (h | ⟨o, h⟩) | h
  · exact .inl (.inl (a.lst t h))
  · exact .inl (.inr ⟨o, a.keep _ _ (tab_ne t h fun _ z => by cases z) h⟩)
  · exact .inr h
theorem Kp.free {P : Addr} {H H' : Hp} (a : Kp P H H') (t : GxR.TabG H P) {p : Addr} (h : H' p = none) : H p = none := by
  cases q : H p with
  | none => rfl
  | some o =>
    by_cases e : p = P
    · obtain ⟨ps, h1, _⟩ := a.tab
      rw [← e, h] at h1
      cases h1
    · rw [a.keep p o e q] at h
      cases h

/-! ### the law's end: the tables of code objects, by what the top says of them -/
theorem tab_from {K : PySem.W.Frag} {x : Str} {f c P : Addr} {o1 : Value} {o2 : Option Addr} {fd : FuncData} {o3 : Array (Option Value)} {e1 : Value} {e2 : Option Addr} {vs : Array Value} {e3 : Array (Option Value)}
    (a : PySem.W.nsIn K mainGlobals x = some (some (.ref f))) (l : K.lookup f = some ⟨o1, o2, .func fd, o3⟩) (hc : fd.code = .ref c) (lc : K.lookup c = some ⟨e1, e2, .fields vs, e3⟩) (hv : vs[11]? = some (.ref P)) : PySem.W.tabIn K x = some (c, P) := by
  unfold PySem.W.tabIn
  rw [a]
  show (match K.lookup f with
    | some ⟨_, _, .func fd, _⟩ => _
    | _ => none) = _
  rw [l]
  show (match fd.code with
    | .ref c => _
    | _ => none) = _
  rw [hc]
  show (match K.lookup c with
    | some ⟨_, _, .fields vs, _⟩ => _
    | _ => none) = _
  rw [lc]
  show (match (vs[11]? : Option Value) with
    | some (.ref P) => some (c, P)
    | _ => none) = _
  rw [hv]
theorem walk_tab {l : PySem.W.OpenLaw} {n k : Nat} {q : Program} {loose : List Str} {XP : (Str → Option Value) → Heap → Prop} {YP : World → Heap → Prop} {d : DefRec} {K : Params → PySem.W.Frag} {CX : World → CXT} {x : Str}
    (hn : l.most = some n) (hn2 : n ≤ sizeLine) (hdf : d.params.defaults = []) (hr : Room k callerA) (hY : ∀ (w : World) (h : Heap), YP w h → (K w.params).In h)
    (F : ∀ (w : World) (mg : Str → Option Value) (fa : Addr) (h : Heap),
      (∀ (y : Str) (c P : Addr), ((recsOf q).find? (fun e => e.name == y)).isSome = true → PySem.W.tabIn (K w.params) y = some (c, P) → PySem.W.CodeHd h c P ∧ h.get? P = some { cls := .none, data := .fields #[] }) →
      (K w.params).In h → h.Ns mainGlobals mg → mg d.name = some (.ref fa) → LamX.LawAtS l w (K w.params) (CX w) k n x mg fa h)
    (hCX : ∀ (w : World) (H : Hp) (s : Shared) (e : Value) (s' : Shared), CX w [] H s (fun _ _ _ => False) e s' → False) :
    PySem.W.WalkO q loose XP YP l.row.toRowW d [] (fun f vs => PySem.call f vs) := by
  refine Att.attach_callB hn hdf ?_
  intro w s₀ s₁ mg mb fa o pm cd doc a vs ns G Y ho hd hcd hmg hobj hints hlen hbits hg
  have KX := hY w _ Y
  have hF := F w mg fa _ (fun y c P hy ht => by
    obtain ⟨dd, hdd⟩ := Option.isSome_iff_exists.mp hy
    exact PySem.W.tab_of G.T KX hdd ht) KX G.T.g hmg
  obtain ⟨fd, cs, sp, hT, nT, C, hb, hsp, hok⟩ := hF
  refine LamX.law_callTs KX G.T.g G.T.b G.T.builtins G.T.nolimit hg hT nT C G.T.bmain hobj hints (Nat.le_trans hlen hn2) hr hok hb ?_ fun H e s' => hCX w H s₁ e s'
  exact fun H hH hS => hsp H a ns hlen hbits hH hS

/-! ### an error that is kept behind its except suite -/
/-- an error of the class at C stands at a -/
def ExS (C a : Addr) : HO := .ext fun h => ∃ (oe : Obj) (vs : Array Value), h.get? a = some oe ∧ Zc (.ref C) none oe ∧ oe.data = .fields vs
theorem exS_ok {P : Program} {w : World} {H : Hp} {h : Heap} {a C : Addr} {oe : Obj} {vs : Array Value} (e : h.get? a = some oe) (z : Zc (.ref C) none oe) (d : oe.data = .fields vs) : ObjOk P w H h a (ExS C a) :=
  ⟨⟨oe, vs, e, z, d⟩, ⟨oe, e⟩, fun _ _ ⟨o, v, q, r⟩ k => ⟨o, v, k o q, r⟩⟩
theorem exS_ne {C a : Addr} : ∀ ps, ExS C a ≠ .tbl ps := fun ps z => by
  unfold ExS at z
  cases z
section
variable {X : Cx} {pins : List (Addr × Obj)} {σ : L2.St} {H : Hp} {s : Shared}
theorem unpin {a : Addr} {q : Addr × Obj} (I : Inv (X.suite a (q :: (X.pn ++ pins))) [] σ H s) (ok : X.Ok) : Inv X (q :: pins) σ H s := by
  refine ⟨ok, I.os, I.bare, I.base, I.loc, I.cell, I.free, I.freeC, fun p hp => I.pin p ?_, I.hok, I.len⟩
  rw [List.append_nil]
  rcases List.mem_append.mp hp with z | z
  · exact List.mem_cons_of_mem _ (List.mem_append_left _ z)
  · rcases List.mem_cons.mp z with e | z
    · rw [e]
      exact List.mem_cons_self
    · exact List.mem_cons_of_mem _ (List.mem_append_right _ z)
theorem track {a C : Addr} {oe : Obj} (J : Inv X ((a, oe) :: pins) σ H s) (hz : Zc (.ref C) none oe) (hd : ∃ vs, oe.data = .fields vs) (n0 : X.s_0.heap.get? a = none) (np : ∀ p ∈ X.pn ++ pins, p.1 ≠ a) :
    Inv X pins σ (upd H a (ExS C a)) s := by
  obtain ⟨ha, na, nL, nF, ncell⟩ := J.pin (a, oe) (List.mem_append_right _ List.mem_cons_self)
  have ha : s.heap.get? a = some oe := ha
  have na : H a = none := na
  have nL : a ≠ X.env.locals := nL
  obtain ⟨vs, hv⟩ := hd
  have tr : ∀ b u, H b = some u → upd H a (ExS C a) b = some u := fun b u e => by
    rw [upd_ne (ne_of_none e na)]
    exact e
  have ns : ∀ b o, X.s_0.heap.get? b = some o → b ≠ a := fun b o e z => by
    rw [z, n0] at e
    cases e
  refine ⟨J.ok, J.os, J.bare, ⟨J.base.keep, J.base.slot, fun b o e n hx => ?_, J.base.there, fun b xs e => tr _ _ (J.base.tups b xs e), fun b o u e => tr _ _ (J.base.frzs b o u e), fun b ps e => ?_⟩, J.loc, J.cell, ?_, fun x c e => ?_, fun p hp => ?_, fun b u e => ?_, J.len⟩
  · rw [upd_ne (ns b o e)]
    exact J.base.free b o e n hx
  · obtain ⟨m, e1⟩ := J.base.tbls b ps e
    exact ⟨m, tr _ _ e1⟩
  · rw [upd_ne (Ne.symm nL)]
    exact J.free
  · have nc : c ≠ a := fun z => by
      obtain ⟨v, o, ho, hdc⟩ := J.cell x c e
      rw [z, ha] at ho
      cases ho
      exact ncell v hdc
    rw [upd_ne nc]
    exact J.freeC x c e
  · have hp' : p ∈ X.pn ++ ((a, oe) :: pins) := by
      rcases List.mem_append.mp hp with z | z
      · exact List.mem_append_left _ z
      · exact List.mem_append_right _ (List.mem_cons_of_mem _ z)
    obtain ⟨e, n, r⟩ := J.pin p hp'
    exact ⟨e, by rw [upd_ne (np p hp)]; exact n, r⟩
  · by_cases hb : b = a
    · subst hb
      rw [upd_same] at e
      cases e
      exact exS_ok ha hz hv
    · rw [upd_ne hb] at e
      exact (J.hok b u e).stay (fun c w _ q => q) (fun c q => tr _ _ q) fun c xs q => tr _ _ q
end
end Mw
namespace Mw
open PySem PySem.Spec PyProof.Rows L2

/-! ### try: body, except c as n: suite, where the clause takes all that the body raises; the error stays known behind it -/
def wKeep (K : PySem.W.Frag) (c : Value) (i : Nat) (ts : Addr → TS) (D : Ends) : WX := fun cls d σ H =>
  PySem.W.exmOne K cls c = some true ∧ d = none ∧ ∃ C, cls = .ref C ∧ ∀ a, H a = none →
    ts a { nx := fun σ' H' => D.nx (σ'.set i none) (upd H' a (ExS C a)), rt := fun _ _ => False } (σ.set i (some (.ref a))) H
section
variable {X : Cx} {x n : Str} {c : Value} {i : Nat} {body suite : List Stmt} {b₀ : Stmt} {np pos pos' : Pos} {tb : WX → TS} {ts : Addr → TS}
theorem ps_tryK (hs : X.stack = X.env :: X.outer) (hf : X.env.frame = some X.env.locals) (hex : X.ex = []) (hN : X.N.Nodup) (hi : X.N[i]? = some n) (hln : X.env.kindOf n = some .local) (hc : Names X x c)
    (hb : ∀ (W : WX) (pn : List (Addr × Obj)) (xe : Value → Shared → Prop), Takes (X.tr pn xe) W → PassesOwn (model X.prog X.w) X.A X.env xe → PSs (X.tr pn xe) body (tb W))
    (hsu : ∀ (a : Addr) (pn : List (Addr × Obj)), PSs (X.suite a pn) (b₀ :: suite) (ts a)) :
    PS X (.Try body [.ExceptHandler (some (.Name x np)) (some n) (b₀ :: suite) pos'] [] [] pos) (fun D σ H => tb (wKeep X.K c i ts D) D σ H) := by
  constructor
  intro pins s σ H D I h
  have ok := I.ok
  have hfr : X.A.frames = some (X.env :: X.outer) := by
    rw [ok.frames, hs]
  have caught : ∀ (u : Value) (s' : Shared), XE (X.tr (X.pn ++ pins) fun _ _ => True) (wKeep X.K c i ts D) u s' →
      wpAny (model X.prog X.w) X.A (noteFrame u X.env) (fun _ s₂ => wpAny (model X.prog X.w) X.A (setFlight u none) (fun _ s₃ =>
        wpAny (model X.prog X.w) X.A (handleBy u X.env [.ExceptHandler (some (.Name x np)) (some n) (b₀ :: suite) pos']) (SP X pins D) X.xe s₃) X.xe s₂) X.xe s' := by
    intro u s' xx
    obtain ⟨a, B, sI, pins', σ', H', cls, d, rfl, J', nb, up, sky, na, os, ag, hm, rfl, C, rfl, hyes⟩ := xx
    have J : Inv X pins σ' H' sI := J'.ofTry ok
    have sky2 : Sky B (X.env :: X.outer) a (Zc (.ref C) none) X.env.locals s'.heap := hs ▸ sky
    refine Sky.land Zc.steady hfr hf sky2 fun h3 fl3 up3 => ?_
    have J3 : Inv X pins σ' H' { s' with heap := h3 } := J.landed nb fl3.1 (up.trans up3) os ag
    obtain ⟨oe3, vs3, he3, hz3, hd3⟩ := fl3.there
    have nfr : a ∉ frs (X.env :: X.outer) := fun hm => by
      obtain ⟨_, o', e', hnf⟩ := fl3.2.2.1.mem hm
      rw [he3] at e'
      cases e'
      exact hnf _ hd3
    have nL : a ≠ X.env.locals := fun z => nfr (List.mem_filterMap.mpr ⟨X.env, List.mem_cons_self, by rw [hf, z]⟩)
    have nF : a ∉ X.fs := fun z => by
      obtain ⟨e, he, q⟩ := List.mem_filterMap.mp z
      exact nfr (List.mem_filterMap.mpr ⟨e, List.mem_cons_of_mem _ he, q⟩)
    have nI : sI.heap.get? a = none := by
      cases q : sI.heap.get? a with
      | none => rfl
      | some o =>
        have z := nb a o q (by rw [show X.stack = X.env :: X.outer from hs]; exact nfr)
        rw [fl3.2.1] at z
        cases z
    have n0 : X.s_0.heap.get? a = none := by
      cases q : X.s_0.heap.get? a with
      | none => rfl
      | some o =>
        obtain ⟨o', z⟩ := J.base.there a o q (by rw [hex]; exact fun z => nomatch z)
        rw [nI] at z
        cases z
    have npin : ∀ p ∈ X.pn ++ pins, p.1 ≠ a := fun p hp z => by
      obtain ⟨e, _⟩ := J.pin p hp
      rw [z, nI] at e
      cases e
    have S3 := J3.suite he3 hd3 na nL nF
    refine wpAny_handleBy_cons (codeAny_handlers_test ?_) (by intro q; cases q)
    have LT : PySem.W.Looks (model X.prog X.w) h3 (typeOf (.ref a)) (.ref C) := fun A Q E s k q => wpAny_typeOf_ref (k _ _ he3) (by rw [hz3.1]; exact q)
    have LM := PySem.W.exm_one (M := model X.prog X.w) J3.kIn LT hm
    have test : ∀ {Q : Value → Shared → Prop} {E : Value → Shared → Prop}, Q c { s' with heap := h3 } → wpAny (model X.prog X.w) (X.A.mark (some (.ref a))) (eval (.Name x np) X.env) Q E { s' with heap := h3 } := by
      intro Q E q
      obtain ⟨hg, hdb, hm | ⟨hm, hv, hnn⟩⟩ := hc
      · exact ld_glob S3 hg hm q hdb
      · exact ld_blt S3 hg hm hv q hnn hdb
    refine test (LM.here ?_)
    refine codeAny_handlers_suite_as ?_
    refine HandSPX.lands_againZ fl3 fun h4 fl4 up4 => ?_
    have J4 : Inv X pins σ' H' { s' with heap := h4 } := J.landed nb fl4.1 ((up.trans up3).trans up4) os ag
    obtain ⟨oe4, vs4, he4, hz4, hd4⟩ := fl4.there
    have S4 := J4.suite he4 hd4 na nL nF
    refine store_ok (X := X.suite a ((a, oe4) :: (X.pn ++ pins))) (v := .ref a) S4 hN hi (.inl hln) rfl (fun s5 S5 => ?_) (.inr hln)
    refine wpAny_mono ((hsu a ((a, oe4) :: (X.pn ++ pins))).run [] s5 _ H' _ S5 (hyes a na)) (fun f s6 hsp => ?_) fun _ _ z => False.elim z
    cases f with
    | next =>
      obtain ⟨σ6, H6, S6, q6⟩ := hsp
      refine gone_ok (unpin S6 ok) hN hi hln fun s7 J7 => ?_
      exact ⟨_, _, track J7 hz4 ⟨_, hd4⟩ n0 npin, q6⟩
    | brk =>
      obtain ⟨_, _, _, q6⟩ := hsp
      exact q6.elim
    | cont =>
      obtain ⟨_, _, _, q6⟩ := hsp
      exact q6.elim
    | ret u =>
      obtain ⟨_, _, _, _, _, q6⟩ := hsp
      exact q6.elim
  refine wpAny_Try_except (wpAny_mono ((hb (wKeep X.K c i ts D) (X.pn ++ pins) _ (fun u s' xx => caught u s' ?_) PassesOwn.looking).run [] s σ H D (I.toTry _) h) (fun f s1 hsp => ?_) fun e s1 he => he)
  · obtain ⟨a, B, sI, pins', σ', H', cls, d, e, J', r⟩ := xx
    exact ⟨a, B, sI, pins', σ', H', cls, d, e, ⟨J'.ok.ofTry.toTry _ _, J'.os, J'.bare, J'.base, J'.loc, J'.cell, J'.free, J'.freeC, J'.pin, J'.hok, J'.len⟩, r⟩
  · cases f with
    | next =>
      obtain ⟨σ', H', J', q⟩ := hsp
      exact wpAny_execs_nil ⟨σ', H', J'.ofTry ok, q⟩
    | brk =>
      obtain ⟨σ', H', J', q⟩ := hsp
      exact ⟨σ', H', J'.ofTry ok, q⟩
    | cont =>
      obtain ⟨σ', H', J', q⟩ := hsp
      exact ⟨σ', H', J'.ofTry ok, q⟩
    | ret u =>
      obtain ⟨v, σ', H', J', r, q⟩ := hsp
      exact ⟨v, σ', H', J'.ofTry ok, r, q⟩
end

/-! ### isinstance of such an error -/
def rIsX (K : PySem.W.Frag) : List V → Hp → VK → Prop := fun xs H Q => ∃ (a C : Addr) (c : V) (cv : Value) (b : Bool), xs = [.ref a, c] ∧ ClsV c cv ∧ H a = some (ExS C a) ∧ ExcC K C ∧ PySem.W.kitOne K (.ref C) cv = some b ∧ Q (.bl b) H
def rIsXT (K : PySem.W.Frag) : List V → Hp → VK → Prop := fun xs H Q => ∃ (a C tp : Addr) (cs : List V) (us : List Value) (b : Bool), xs = [.ref a, .ref tp] ∧ H tp = some (.tup cs) ∧ Paired ClsV cs us ∧ H a = some (ExS C a) ∧ ExcC K C ∧
  PySem.W.kitAny K (.ref C) us = some b ∧ Q (.bl b) H
section
variable {X : Cx} {pins : List (Addr × Obj)} {σ : L2.St} {H : Hp} {s : Shared}
theorem inst_of {a C : Addr} (I : Inv X pins σ H s) (h : H a = some (ExS C a)) : ∃ oe, PySem.W.InstAt s.heap a oe C none := by
  obtain ⟨⟨oe, vs, e, hz, hv⟩, _⟩ := (show ObjOk X.prog X.w H s.heap a (ExS C a) from I.hok a _ h)
  refine ⟨oe, ?_⟩
  obtain ⟨oc, od, oda, osl⟩ := oe
  obtain ⟨h1, h2⟩ := hz
  dsimp only at h1 h2 hv
  subst h1 h2 hv
  exact ⟨e, rfl, rfl, trivial⟩
theorem call_isX : CallR X (.builtin "isinstance") (rIsX X.K) := by
  intro pins s σ H xs us Q I r h
  obtain ⟨a, C, c, cv, b, rfl, k, hx, E, e, q⟩ := h
  obtain ⟨u1, u2, rfl, r1, r2⟩ := vals2 r
  cases (show u1 = Value.ref a from r1)
  have e2 := k.eq r2
  subst e2
  obtain ⟨oe, J⟩ := inst_of I hx
  exact PySem.W.kia_one (PySem.W.handS_kitx_exc E.hg E.hk E.hs E.hd E.ha E.hn E.ht E.hm) I.kIn J e (fun z => nomatch z) fun tk => ⟨.bl b, H, I.tok tk, rfl, q⟩
theorem call_isXT : CallR X (.builtin "isinstance") (rIsXT X.K) := by
  intro pins s σ H xs us Q I r h
  obtain ⟨a, C, tp, cs, ws, b, rfl, hT, k, hx, E, e, q⟩ := h
  obtain ⟨u1, u2, rfl, r1, r2⟩ := vals2 r
  cases (show u1 = Value.ref a from r1)
  cases (show u2 = Value.ref tp from r2)
  obtain ⟨oe, J⟩ := inst_of I hx
  obtain ⟨_, its, rv, o, h1, h2, n, h3⟩ := (show ObjOk X.prog X.w H s.heap tp (.tup cs) from I.hok tp _ hT)
  have e3 := ClsV.all k rv
  subst e3
  obtain ⟨oc, od, dt, sl⟩ := o
  simp only at h2 h3
  subst h2 h3
  exact PySem.W.kia_tup (PySem.W.handS_kitx_exc E.hg E.hk E.hs E.hd E.ha E.hn E.ht E.hm) I.kIn J h1 e (fun z => nomatch z) fun tk => ⟨.bl b, H, I.tok tk, rfl, q⟩
end
end Mw
namespace Mw
/-! ### stretches that read alike from behind -/
def Pal (l : List Nat) (i j : Nat) : Prop := ∀ x, i ≤ x → x ≤ j → l[x]? = l[i + j - x]?
theorem pal_short {l : List Nat} {i j : Nat} (h : j ≤ i) : Pal l i j := fun x a b => by
  have e : i + j - x = x := by omega
  rw [e]
theorem pal_out {l : List Nat} {i j : Nat} (h : i < j) : Pal l i j ↔ Pal l (i + 1) (j - 1) ∧ l[i]? = l[j]? := by
  constructor
  · intro p
    refine ⟨fun x a b => ?_, ?_⟩
    · have z := p x (by omega) (by omega)
      have e : i + 1 + (j - 1) - x = i + j - x := by omega
      rw [e]
      exact z
    · have z := p i (Nat.le_refl _) (by omega)
      have e : i + j - i = j := by omega
      rw [e] at z
      exact z
  · intro ⟨p, e⟩ x a b
    by_cases c : x = i
    · have q : i + j - x = j := by omega
      rw [q, c]
      exact e
    · by_cases d : x = j
      · have q : i + j - x = i := by omega
        rw [q, d]
        exact e.symm
      · have z := p x (by omega) (by omega)
        have q : i + 1 + (j - 1) - x = i + j - x := by omega
        rw [q] at z
        exact z
/-- a stretch within a mirror word, seen from behind -/
theorem pal_turn {l : List Nat} {a b i j : Nat} (h : Pal l a b) (ai : a ≤ i) (jb : j ≤ b) (ij : i ≤ j) (p : Pal l i j) : Pal l (a + b - j) (a + b - i) := fun x u v => by
  have e1 := h x (by omega) (by omega)
  have e2 := p (a + b - x) (by omega) (by omega)
  have e3 := h (i + j - (a + b - x)) (by omega) (by omega)
  have q1 : a + b - (i + j - (a + b - x)) = a + b - j + (a + b - i) - x := by omega
  rw [q1] at e3
  rw [e1, e2, e3]
theorem pal_turn' {l : List Nat} {a b i j : Nat} (h : Pal l a b) (ai : a ≤ i) (jb : j ≤ b) (p : Pal l i j) : Pal l (a + b - j) (a + b - i) := by
  by_cases ij : i ≤ j
  · exact pal_turn h ai jb ij p
  · exact pal_short (by omega)
theorem pal_mid {l : List Nat} {i j : Nat} (h : Pal l i j) (k : Nat) (hk : i + k ≤ j) : Pal l (i + k) (j - k) := fun x a b => by
  have z := h x (by omega) (by omega)
  have e : i + k + (j - k) - x = i + j - x := by omega
  rw [e]
  exact z

/-! ### what arms say of two places -/
def tie (R : Nat → Nat) (i j : Nat) : Bool := decide (j < (i + j) / 2 + 1 + R (i + j))
def cut (R : Nat → Nat) (i j : Nat) : Bool := decide ((i + j) / 2 + 1 + R (i + j) = j)
/-- the letters: 97 .. 122 -/
def abcL : List Nat := (List.range 26).map (97 + ·)
def barred (R : Nat → Nat) (g : List Nat) (p : Nat) : List Nat := ((List.range p).filter fun i => cut R i p).map fun i => g.getD i 0
def nxt (R : Nat → Nat) (g : List Nat) : Nat :=
  match (List.range g.length).find? fun i => tie R i g.length with
  | some i => g.getD i 0
  | none => ((abcL.find? fun c => !(barred R g g.length).contains c)).getD 0
def gr (R : Nat → Nat) : Nat → List Nat
  | 0 => []
  | p + 1 => gr R p ++ [nxt R (gr R p)]
theorem gr_len (R : Nat → Nat) : ∀ p, (gr R p).length = p
  | 0 => rfl
  | p + 1 => by
    show (gr R p ++ [_]).length = p + 1
    rw [List.length_append, gr_len R p]
    rfl
theorem gr_at {R : Nat → Nat} {i : Nat} : ∀ {p : Nat}, i < p → (gr R p)[i]? = some (nxt R (gr R i))
  | p + 1, h => by
    show (gr R p ++ [_])[i]? = _
    by_cases c : i = p
    · rw [c, List.getElem?_append_right (by rw [gr_len]; exact Nat.le_refl _), gr_len, Nat.sub_self]
      rfl
    · rw [List.getElem?_append_left (by rw [gr_len]; omega)]
      exact gr_at (by omega)
theorem gr_take {R : Nat → Nat} {q : Nat} : ∀ {p : Nat}, q ≤ p → (gr R p).take q = gr R q
  | 0, h => by
    have e : q = 0 := by omega
    subst e
    rfl
  | p + 1, h => by
    by_cases c : q = p + 1
    · subst c
      exact List.take_of_length_le (by rw [gr_len]; exact Nat.le_refl _)
    · show (gr R p ++ [_]).take q = _
      rw [List.take_append_of_le_length (by rw [gr_len]; omega)]
      exact gr_take (by omega)

/-- R is what the arms of t say -/
structure Arms (t : List Nat) (R : Nat → Nat) : Prop where
  tie : ∀ i j, i < j → j < t.length → (tie R i j = true ↔ Pal t i j)
  cut : ∀ i j, i < j → j < t.length → (cut R i j = true ↔ Pal t (i + 1) (j - 1) ∧ ¬ t[i]? = t[j]?)
/-- a letter is left at each place that is tied to none -/
def Left (R : Nat → Nat) (n : Nat) : Prop := ∀ p, p < n → ((List.range p).find? fun i => tie R i p) = none → ∃ c, (abcL.find? fun c => !(barred R (gr R p) p).contains c) = some c

theorem nxt_tied {R : Nat → Nat} {p i : Nat} (h : ((List.range p).find? fun i => tie R i p) = some i) : nxt R (gr R p) = (gr R p).getD i 0 := by
  unfold nxt
  rw [gr_len, h]
theorem nxt_free {R : Nat → Nat} {p : Nat} (h : ((List.range p).find? fun i => tie R i p) = none) : nxt R (gr R p) = (abcL.find? fun c => !(barred R (gr R p) p).contains c).getD 0 := by
  unfold nxt
  rw [gr_len, h]
theorem gr_getD {R : Nat → Nat} {p i : Nat} (h : i < p) : (gr R p).getD i 0 = nxt R (gr R i) := by
  rw [List.getD_eq_getElem?_getD, gr_at h]
  rfl
theorem first_tied {R : Nat → Nat} {p i : Nat} (h : ((List.range p).find? fun i => tie R i p) = some i) : i < p ∧ tie R i p = true ∧ ∀ j, j < i → tie R j p = false := by
  obtain ⟨h1, as, bs, e, h2⟩ := List.find?_eq_some_iff_append.mp h
  have hl : as.length + bs.length + 1 = p := by
    have := congrArg List.length e
    rw [List.length_range, List.length_append, List.length_cons] at this
    omega
  have at_ : ∀ k, k < p → (as ++ i :: bs)[k]? = some k := fun k hk => by rw [← e, List.getElem?_range hk]
  have hi : as.length = i := by
    have z := at_ as.length (by omega)
    rw [List.getElem?_append_right (Nat.le_refl _), Nat.sub_self] at z
    exact (Option.some.inj z).symm
  refine ⟨by omega, h1, fun j hj => ?_⟩
  have z := at_ j (by omega)
  rw [List.getElem?_append_left (by omega)] at z
  have := h2 j (List.mem_of_getElem? z)
  simpa using this
theorem none_tied {R : Nat → Nat} {p : Nat} (h : ((List.range p).find? fun i => tie R i p) = none) : ∀ j, j < p → tie R j p = false := fun j hj => by
  have z := List.find?_eq_none.mp h j (List.mem_range.mpr hj)
  simpa using z
theorem mem_barred {R : Nat → Nat} {g : List Nat} {p c : Nat} : c ∈ barred R g p ↔ ∃ i, i < p ∧ cut R i p = true ∧ g.getD i 0 = c := by
  unfold barred
  rw [List.mem_map]
  constructor
  · rintro ⟨i, hi, e⟩
    obtain ⟨h1, h2⟩ := List.mem_filter.mp hi
    exact ⟨i, List.mem_range.mp h1, h2, e⟩
  · rintro ⟨i, h1, h2, e⟩
    exact ⟨i, List.mem_filter.mpr ⟨List.mem_range.mpr h1, h2⟩, e⟩
theorem free_letter {R : Nat → Nat} {p : Nat} {c : Nat} (h : (abcL.find? fun c => !(barred R (gr R p) p).contains c) = some c) : ¬ c ∈ barred R (gr R p) p := by
  have z := List.find?_some h
  simpa using z

/-- the text built letter by letter has the mirror words of each text with these arms -/
theorem gr_pal {t : List Nat} {R : Nat → Nat} (A : Arms t R) (L : Left R t.length) {n : Nat} (hn : t.length = n) : ∀ i j, i < j → j < n → (Pal (gr R n) i j ↔ Pal t i j) := by
  -- by the later place
  have key : ∀ p, p < n → ∀ i, i < p → (Pal (gr R n) i p ↔ Pal t i p) := by
    intro p
    induction p using Nat.strongRecOn with
    | ind p ih =>
    intro hp
    have ihp : ∀ i j, i < j → j < p → (Pal (gr R n) i j ↔ Pal t i j) := fun i j hij hj => ih j hj (by omega) i hij
    have inn : ∀ i j, j < p → (Pal (gr R n) i j ↔ Pal t i j) := fun i j hj => by
      by_cases c : i < j
      · exact ihp i j c hj
      · exact ⟨fun _ => pal_short (by omega), fun _ => pal_short (by omega)⟩
    have gat : ∀ i, i < n → (gr R n)[i]? = some (nxt R (gr R i)) := fun i hi => gr_at hi
    -- two places with a mirror word between them: alike in both or in none
    have alike : ∀ i j, i < j → j < p → Pal t (i + 1) (j - 1) → ((gr R n)[i]? = (gr R n)[j]? ↔ t[i]? = t[j]?) := by
      intro i j hij hj hP
      have z := ihp i j hij hj
      rw [pal_out hij, pal_out hij] at z
      have hG := (inn (i + 1) (j - 1) (by omega)).mpr hP
      exact ⟨fun e => (z.mp ⟨hG, e⟩).2, fun e => (z.mpr ⟨hP, e⟩).2⟩
    intro i hi
    rw [pal_out hi, pal_out hi, inn (i + 1) (p - 1) (by omega)]
    refine and_congr_right fun hP => ?_
    cases hf : (List.range p).find? fun i => tie R i p with
    | some q =>
      obtain ⟨hq, htq, hmin⟩ := first_tied hf
      have hpq : Pal t q p := (A.tie q p hq (by omega)).mp htq
      have hin := (pal_out hq).mp hpq
      have eg : (gr R n)[p]? = (gr R n)[q]? := by
        rw [gat p hp, gat q (by omega), nxt_tied hf, gr_getD hq]
      rw [eg, ← hin.2]
      by_cases c : i = q
      · subst c
        exact ⟨fun _ => rfl, fun _ => rfl⟩
      · by_cases d : q < i
        · -- seen within the mirror word between q and p
          have hGq := (inn (q + 1) (p - 1) (by omega)).mpr hin.1
          have e1 := hin.1 i (by omega) (by omega)
          have e2 := hGq i (by omega) (by omega)
          have q1 : q + 1 + (p - 1) - i = q + p - i := by omega
          rw [q1] at e1 e2
          rw [e1, e2]
          have hP2 := pal_turn' (i := i + 1) (j := p - 1) hin.1 (by omega) (by omega) hP
          have q2 : q + 1 + (p - 1) - (p - 1) = q + 1 := by omega
          have q3 : q + 1 + (p - 1) - (i + 1) = (q + p - i) - 1 := by omega
          rw [q2, q3] at hP2
          have z := alike q (q + p - i) (by omega) (by omega) hP2
          exact ⟨fun e => (z.mp e.symm).symm, fun e => (z.mpr e.symm).symm⟩
        · have hiq : i < q := by omega
          have nt : ¬ Pal t i p := fun w => by
            have z := (A.tie i p hi (by omega)).mpr w
            rw [hmin i hiq] at z
            cases z
          have ne : ¬ t[i]? = t[q]? := fun e => nt ((pal_out hi).mpr ⟨hP, by rw [e]; exact hin.2⟩)
          refine ⟨fun e => absurd ?_ ne, fun e => absurd e ne⟩
          have hG := (inn (i + 1) (p - 1) (by omega)).mpr hP
          have e1 := hP q (by omega) (by omega)
          have e2 := hG q (by omega) (by omega)
          have q1 : i + 1 + (p - 1) - q = i + p - q := by omega
          rw [q1] at e1 e2
          have hP2 := pal_turn' (i := q + 1) (j := p - 1) hP (by omega) (by omega) hin.1
          have q2 : i + 1 + (p - 1) - (p - 1) = i + 1 := by omega
          have q3 : i + 1 + (p - 1) - (q + 1) = (i + p - q) - 1 := by omega
          rw [q2, q3] at hP2
          have z := alike i (i + p - q) (by omega) (by omega) hP2
          rw [e1]
          exact z.mp (by rw [e, e2])
    | none =>
      have nt := none_tied hf i hi
      have ntp : ¬ Pal t i p := fun w => by
        have z := (A.tie i p hi (by omega)).mpr w
        rw [nt] at z
        cases z
      have ne : ¬ t[i]? = t[p]? := fun e => ntp ((pal_out hi).mpr ⟨hP, e⟩)
      have hc : cut R i p = true := (A.cut i p hi (by omega)).mpr ⟨hP, ne⟩
      refine ⟨fun e => absurd ?_ (fun z => z), fun e => absurd e ne⟩
      obtain ⟨c, hcf⟩ := L p (by omega) hf
      rw [gat i (by omega), gat p hp, nxt_free hf, hcf] at e
      exact free_letter hcf (mem_barred.mpr ⟨i, hi, hc, by rw [gr_getD hi]; exact Option.some.inj e⟩)
  exact fun i j hij hj => key j hj i hij
end Mw
namespace Mw
/-! ### the arm of a middle -/
def okAt (l : List Nat) (m j : Nat) : Bool := decide (j + 1 ≤ (m + 1) / 2) && (decide (m / 2 + 1 + j < l.length) && (l[(m + 1) / 2 - (j + 1)]? == l[m / 2 + 1 + j]?))
/-- the first place from k on, within f, where p holds no more -/
def lead (p : Nat → Bool) : Nat → Nat → Nat
  | 0, k => k
  | f + 1, k => if p k = true then lead p f (k + 1) else k
theorem lead_eq {p : Nat → Bool} : ∀ (f k0 k : Nat), k0 ≤ k → k ≤ k0 + f → (∀ j, k0 ≤ j → j < k → p j = true) → (k < k0 + f → p k = false) → lead p f k0 = k
  | 0, k0, k, h1, h2, _, _ => by
    show k0 = k
    omega
  | f + 1, k0, k, h1, h2, h3, h4 => by
    show (if p k0 = true then lead p f (k0 + 1) else k0) = k
    by_cases e : k0 = k
    · subst e
      rw [h4 (by omega), if_neg Bool.false_ne_true]
    · rw [if_pos (h3 k0 (Nat.le_refl _) (by omega))]
      exact lead_eq f (k0 + 1) k (by omega) (by omega) (fun j a b => h3 j (by omega) b) fun a => h4 (by omega)
theorem lead_spec {p : Nat → Bool} : ∀ (f k0 : Nat), k0 ≤ lead p f k0 ∧ lead p f k0 ≤ k0 + f ∧ (∀ j, k0 ≤ j → j < lead p f k0 → p j = true) ∧ (lead p f k0 < k0 + f → p (lead p f k0) = false)
  | 0, k0 => ⟨Nat.le_refl _, Nat.le_refl _, fun j a b => absurd b (by show ¬ j < k0; omega), fun h => absurd h (by show ¬ k0 < k0 + 0; omega)⟩
  | f + 1, k0 => by
    have ih := lead_spec (p := p) f (k0 + 1)
    by_cases c : p k0 = true
    · have e : lead p (f + 1) k0 = lead p f (k0 + 1) := if_pos c
      rw [e]
      refine ⟨by omega, by omega, fun j a b => ?_, fun h => ih.2.2.2 (by omega)⟩
      by_cases z : j = k0
      · rw [z]
        exact c
      · exact ih.2.2.1 j (by omega) b
    · have e : lead p (f + 1) k0 = k0 := if_neg c
      rw [e]
      exact ⟨Nat.le_refl _, by omega, fun j a b => absurd b (by omega), fun _ => by simpa using c⟩
def armL (l : List Nat) (m : Nat) : Nat := lead (okAt l m) l.length 0
theorem okAt_lt {l : List Nat} {m j : Nat} (h : okAt l m j = true) : m / 2 + 1 + j < l.length := by
  unfold okAt at h
  simp only [Bool.and_eq_true, decide_eq_true_eq] at h
  exact h.2.1
theorem armL_of {l : List Nat} {m k : Nat} (h : ∀ j, j < k → okAt l m j = true) (hk : okAt l m k = false) : armL l m = k := by
  refine lead_eq _ 0 k (Nat.zero_le _) ?_ (fun j _ b => h j b) fun _ => hk
  cases k with
  | zero => exact Nat.zero_le _
  | succ i =>
    have := okAt_lt (h i (Nat.lt_succ_self _))
    omega

theorem lead_succ (p : Nat → Bool) (i : Nat) : lead p (i + 1) 0 = if lead p i 0 = i ∧ p i = true then i + 1 else lead p i 0 := by
  obtain ⟨_, h2, h3, h4⟩ := lead_spec (p := p) i 0
  by_cases c : lead p i 0 = i ∧ p i = true
  · rw [if_pos c]
    refine lead_eq (i + 1) 0 (i + 1) (by omega) (by omega) (fun j _ b => ?_) fun z => absurd z (by omega)
    by_cases e : j = i
    · rw [e]
      exact c.2
    · exact h3 j (by omega) (by rw [c.1]; omega)
  · rw [if_neg c]
    refine lead_eq (i + 1) 0 _ (by omega) (by omega) h3 fun z => ?_
    by_cases e : lead p i 0 = i
    · rw [e]
      cases q : p i with
      | false => rfl
      | true => exact absurd ⟨e, q⟩ c
    · exact h4 (by omega)
theorem armL_end (l : List Nat) (m : Nat) : lead (okAt l m) (l.length - 1) 0 = armL l m := by
  unfold armL
  cases h : l.length with
  | zero => rfl
  | succ k =>
    rw [lead_succ]
    have z : ¬ (lead (okAt l m) k 0 = k ∧ okAt l m k = true) := fun c => by
      have := okAt_lt c.2
      omega
    rw [if_neg z]
    rfl

theorem okAt_of {l : List Nat} {m j : Nat} (h : okAt l m j = true) : j + 1 ≤ (m + 1) / 2 ∧ m / 2 + 1 + j < l.length ∧ l[(m + 1) / 2 - (j + 1)]? = l[m / 2 + 1 + j]? := by
  unfold okAt at h
  simp only [Bool.and_eq_true, decide_eq_true_eq, beq_iff_eq] at h
  exact ⟨h.1, h.2.1, h.2.2⟩
theorem okAt_iff {l : List Nat} {m j : Nat} : okAt l m j = true ↔ j + 1 ≤ (m + 1) / 2 ∧ m / 2 + 1 + j < l.length ∧ l[(m + 1) / 2 - (j + 1)]? = l[m / 2 + 1 + j]? := by
  refine ⟨okAt_of, fun h => ?_⟩
  unfold okAt
  simp only [Bool.and_eq_true, decide_eq_true_eq, beq_iff_eq]
  exact ⟨h.1, h.2.1, h.2.2⟩
theorem lt_armL {l : List Nat} {m k : Nat} : k < armL l m ↔ ∀ j, j ≤ k → okAt l m j = true := by
  obtain ⟨_, h2, h3, h4⟩ := lead_spec (p := okAt l m) l.length 0
  constructor
  · intro h j hj
    exact h3 j (Nat.zero_le _) (by unfold armL at h; omega)
  · intro h
    by_cases c : k < armL l m
    · exact c
    · have z : armL l m < 0 + l.length := by
        have := okAt_lt (h k (Nat.le_refl _))
        omega
      have q := h4 z
      rw [h _ (by unfold armL at c; omega)] at q
      cases q
theorem not_armL {l : List Nat} {m : Nat} : okAt l m (armL l m) = false := by
  cases h : okAt l m (armL l m) with
  | false => rfl
  | true =>
    have z : armL l m < armL l m := lt_armL.mpr fun j hj => by
      by_cases c : j = armL l m
      · rw [c]
        exact h
      · exact (lt_armL (k := j)).mp (by omega) j (Nat.le_refl _)
    omega
/-- places i < j and the middle between them -/
theorem pal_arm {l : List Nat} {i j : Nat} (hij : i < j) (hj : j < l.length) : Pal l i j ↔ j < (i + j) / 2 + 1 + armL l (i + j) := by
  have e1 : (i + j + 1) / 2 - (j - ((i + j) / 2 + 1) + 1) = i := by omega
  constructor
  · intro p
    have z : j - ((i + j) / 2 + 1) < armL l (i + j) := lt_armL.mpr fun k hk => okAt_iff.mpr ⟨by omega, by omega, by
      have q := p ((i + j + 1) / 2 - (k + 1)) (by omega) (by omega)
      have e : i + j - ((i + j + 1) / 2 - (k + 1)) = (i + j) / 2 + 1 + k := by omega
      rw [e] at q
      exact q⟩
    omega
  · intro h x a b
    have w := (lt_armL (l := l) (m := i + j) (k := j - ((i + j) / 2 + 1))).mp (by omega)
    by_cases c : x + x < i + j
    · have q := (okAt_of (w ((i + j + 1) / 2 - 1 - x) (by omega))).2.2
      have e2 : (i + j + 1) / 2 - ((i + j + 1) / 2 - 1 - x + 1) = x := by omega
      have e3 : (i + j) / 2 + 1 + ((i + j + 1) / 2 - 1 - x) = i + j - x := by omega
      rw [e2, e3] at q
      exact q
    · by_cases d : x + x = i + j
      · have e : i + j - x = x := by omega
        rw [e]
      · have q := (okAt_of (w (x - ((i + j) / 2 + 1)) (by omega))).2.2
        have e2 : (i + j + 1) / 2 - (x - ((i + j) / 2 + 1) + 1) = i + j - x := by omega
        have e3 : (i + j) / 2 + 1 + (x - ((i + j) / 2 + 1)) = x := by omega
        rw [e2, e3] at q
        exact q.symm
theorem pal_arm' {l : List Nat} {i j : Nat} (hij : i ≤ j + 1) (hj : j < l.length) : Pal l i j ↔ j < (i + j) / 2 + 1 + armL l (i + j) := by
  by_cases c : i < j
  · exact pal_arm c hj
  · exact ⟨fun _ => by omega, fun _ => pal_short (by omega)⟩
theorem cut_arm {l : List Nat} {i j : Nat} (hij : i < j) (hj : j < l.length) : (i + j) / 2 + 1 + armL l (i + j) = j ↔ Pal l (i + 1) (j - 1) ∧ ¬ l[i]? = l[j]? := by
  have z := pal_arm' (l := l) (i := i + 1) (j := j - 1) (by omega) (by omega)
  have e : i + 1 + (j - 1) = i + j := by omega
  rw [e] at z
  have y := pal_arm hij hj
  rw [pal_out hij] at y
  rw [z] at y ⊢
  constructor
  · intro h
    refine ⟨by omega, fun q => ?_⟩
    have := y.mp ⟨by omega, q⟩
    omega
  · intro ⟨h, q⟩
    have w : ¬ j < (i + j) / 2 + 1 + armL l (i + j) := fun v => q (y.mpr v).2
    omega
theorem arms_of (t : List Nat) : Arms t (armL t) := by
  refine ⟨fun i j hij hj => ?_, fun i j hij hj => ?_⟩
  · unfold tie
    rw [decide_eq_true_eq]
    exact (pal_arm hij hj).symm
  · unfold cut
    rw [decide_eq_true_eq]
    exact cut_arm hij hj
/-- texts as long with the same mirror words have the same arms -/
theorem armL_congr {a b : List Nat} (h : a.length = b.length) (p : ∀ i j, i < j → j < a.length → (Pal a i j ↔ Pal b i j)) (m : Nat) : armL a m = armL b m := by
  have ok : ∀ k, (∀ j, j ≤ k → okAt a m j = true) ↔ (∀ j, j ≤ k → okAt b m j = true) := fun k => by
    have half : ∀ (a b : List Nat), a.length = b.length → (∀ i j, i < j → j < a.length → (Pal a i j ↔ Pal b i j)) → (∀ j, j ≤ k → okAt a m j = true) → (∀ j, j ≤ k → okAt b m j = true) := by
      intro a b h p w j hj
      obtain ⟨w1, w2, _⟩ := okAt_of (w j hj)
      have lt : (m + 1) / 2 - (j + 1) < m / 2 + 1 + j := by omega
      have es : (m + 1) / 2 - (j + 1) + (m / 2 + 1 + j) = m := by omega
      have z := (pal_arm lt w2).mpr (by
        rw [es]
        have := (lt_armL (l := a) (m := m) (k := j)).mpr fun i hi => w i (by omega)
        omega)
      have z2 := (pal_arm lt (h ▸ w2)).mp ((p _ _ lt w2).mp z)
      rw [es] at z2
      exact (lt_armL (l := b) (m := m) (k := j)).mp (by omega) j (Nat.le_refl _)
    exact ⟨half a b h p, half b a h.symm fun i j x y => (p i j x (by omega)).symm⟩
  have lt : ∀ k, k < armL a m ↔ k < armL b m := fun k => by rw [lt_armL, lt_armL]; exact ok k
  have h1 := lt (armL a m)
  have h2 := lt (armL b m)
  omega
end Mw
namespace Mw
open PySem PySem.Spec PyProof.Rows L2
def isT : V → Bool
  | .str z => decide (z.length ≤ 200) && (TL.tl z).all az
  | _ => false
inductive Thing (K : PySem.W.Frag) (H : Hp) : V → Prop
  | text (l : List Nat) (h : l.length ≤ sizeLine) : Thing K H (.str (T l))
  | other {x : V} {n : String} (t : TyX K H x (.type n)) (k : kitB n "str" = some false) (no : isT x = false) : Thing K H x
def spIs (K : PySem.W.Frag) (P : Addr) : Sp := fun vs H Q _ => ∃ x, vs = [x] ∧ GxR.TabG H P ∧ Thing K H x ∧ ∀ H', GxR.Tabbed P H H' → Q (.bl (isT x)) H'

def spArmAt : Sp := fun vs H Q _ => ∃ (l : List Nat) (m : Nat), vs = [.str (T l), .int (m : Int)] ∧ l.length ≤ 200 ∧ Q (.int (armL l m : Nat)) H
theorem small200 {n : Nat} (h : n ≤ 200) : n ≤ sizeLine := Nat.le_trans h (by decide)
theorem sgn_dec (a b : Nat) : decide (V.str ⟨#[a]⟩ = V.str ⟨#[b]⟩) = decide (a = b) := by
  have z : decide (V.str (T [a]) = V.str (T [b])) = decide ([a] = [b]) := T_dec [a] [b]
  have e : decide ([a] = [b]) = decide (a = b) := by
    by_cases c : a = b
    · rw [c, decide_eq_true rfl, decide_eq_true rfl]
    · rw [decide_eq_false c, decide_eq_false fun q => c (List.cons.inj q).1]
  exact z.trans e

/-! ### the classes of refusals, as the top has written them -/
structure ErrC (K : PySem.W.Frag) (mg : Str → Option Value) (x : Str) (C : Addr) : Prop where
  g : mg x = some (.ref C)
  x : PySem.W.excIn K C [.type "ValueError", .type "Exception", .type "BaseException", .type "object"] "ValueError.__new__" = true
  k : PySem.W.keepIn K (.ref C) = true
  b : PySem.W.subIn K (.ref C) (.type "BaseException") = some true
  t : PySem.W.typeIn K (.ref C) = some (.type "type")
/-- a def with its promise, and what its callers ask -/
structure Fn (Pr : Program) (w : World) (K : PySem.W.Frag) (mg : Str → Option Value) (base : Heap) (CX : CXT) (k : Nat) (x : Str) (f : Addr) (fd : FuncData) (ps : List Str) (sp : Sp) : Prop where
  ok : FnOk Pr w K mg base CX k f fd ps sp
  g : mg x = some (.ref f)
  k : PySem.W.keepIn K (.ref f) = true
  b : Binds K fd ps []

def nV (n : Nat) : V := .int (n : Int)
def armsL (l : List Nat) : List Nat := (List.range (2 * l.length - 1)).map (armL l)
theorem armsL_len (l : List Nat) : (armsL l).length = 2 * l.length - 1 := by
  unfold armsL
  rw [List.length_map, List.length_range]
theorem armsL_take {l : List Nat} {i : Nat} (h : i < 2 * l.length - 1) : (armsL l).take (i + 1) = (armsL l).take i ++ [armL l i] := by
  rw [List.take_add_one]
  unfold armsL
  rw [List.getElem?_map, List.getElem?_range h]
  rfl


def spArms (K : PySem.W.Frag) (P BT : Addr) : Sp := fun vs H Q E => ∃ x, vs = [x] ∧ GxR.TabG H P ∧ Thing K H x ∧ (isT x = false → ∀ H', GxR.Tabbed P H H' → E (.ref BT) none H') ∧
  (isT x = true → ∀ l, x = .str (T l) → l.length ≤ 200 → ∀ H' p, Kp P H H' → H p = none → H' p = some (.lst ((armsL l).map nV)) → Q (.ref p) H')

def spDraw (K : PySem.W.Frag) : Sp := fun vs H Q _ => ∃ (a : Addr) (ns : List Int) (k : Nat), vs = [.ref a, .int (k : Int)] ∧ SqL K H a (ns.map V.int) ∧ Q (.int (ns.getD k 0)) H

theorem cut_len (xs : List V) (a b : Nat) : (cutV xs (some (a : Int)) (some ((a : Int) + (b : Int)))).length ≤ b := by
  unfold cutV
  have e : ((a : Int) + (b : Int)) = ((a + b : Nat) : Int) := by omega
  rw [e, HT.sIx_nat, HT.sIx_nat, List.length_take, List.length_drop]
  omega
theorem cut_map (ns : List Int) (lo hi : Option Int) : ∃ ms : List Int, cutV (ns.map V.int) lo hi = ms.map V.int := by
  unfold cutV
  exact ⟨(ns.drop (HT.sIx (ns.map V.int).length 0 lo)).take (HT.sIx (ns.map V.int).length (ns.map V.int).length hi - HT.sIx (ns.map V.int).length 0 lo), by rw [List.map_take, List.map_drop]⟩
theorem cutS_T (l : List Nat) (lo hi : Option Int) : cutS (T l) lo hi = T ((l.drop (HT.sIx l.length 0 lo)).take (HT.sIx l.length l.length hi - HT.sIx l.length 0 lo)) := by
  unfold cutS
  rw [T_len]
  rfl
theorem cutS_all {l : List Nat} (h : l.all az = true) (lo hi : Option Int) : ∃ m : List Nat, cutS (T l) lo hi = T m ∧ m.all az = true ∧ m.length ≤ l.length := by
  refine ⟨_, cutS_T l lo hi, ?_, ?_⟩
  · rw [List.all_eq_true] at h ⊢
    exact fun c hc => h c (List.mem_of_mem_drop (List.mem_of_mem_take hc))
  · rw [List.length_take, List.length_drop]
    omega
theorem join_signs (cs : List Nat) : Txt.join (Str.ofString "") (cs.map fun c => T [c]) = T cs := by
  refine TL.ext_tl ?_
  rw [TL.join_eq, TL.tl_join, tl_T]
  have e : TL.tl (Str.ofString "") = [] := rfl
  rw [e]
  induction cs with
  | nil => rfl
  | cons c r ih =>
    cases r with
    | nil => rfl
    | cons d r =>
      show [c] ++ ([] ++ TL.joinL [] (((d :: r).map fun c => T [c]).map TL.tl)) = c :: d :: r
      rw [ih]
      rfl
theorem abc : TL.tl (Str.ofString "abcdefghijklmnopqrstuvwxyz") = (List.range 26).map (97 + ·) := by decide +kernel
theorem abc_at {j : Nat} (h : j < 26) : atI (Str.ofString "abcdefghijklmnopqrstuvwxyz").cps.toList (j : Int) = some (97 + j) := by
  refine atI_nat ?_
  show (TL.tl (Str.ofString "abcdefghijklmnopqrstuvwxyz"))[j]? = _
  rw [abc, List.getElem?_map, List.getElem?_range h]
  rfl
theorem mod26 (i : Int) : ∃ j : Nat, i.fmod 26 = (j : Int) ∧ j < 26 := by
  refine ⟨(i % 26).toNat, ?_, ?_⟩
  · rw [Int.fmod_eq_emod_of_nonneg _ (by decide)]
    omega
  · omega
theorem mod6 (i : Int) : ∃ j : Nat, i.fmod 6 = (j : Int) ∧ j < 6 := by
  refine ⟨(i % 6).toNat, ?_, ?_⟩
  · rw [Int.fmod_eq_emod_of_nonneg _ (by decide)]
    omega
  · omega
theorem all_app {a b : List Nat} (h1 : a.all az = true) (h2 : b.all az = true) : (a ++ b).all az = true := by
  rw [List.all_append, h1, h2]
  rfl
theorem all_rev {a : List Nat} (h1 : a.all az = true) : a.reverse.all az = true := by
  rw [List.all_reverse]
  exact h1
theorem all_rep {a : List Nat} (h1 : a.all az = true) : ∀ n, (List.replicate n a).flatten.all az = true
  | 0 => rfl
  | n + 1 => by
    rw [List.replicate_succ, List.flatten_cons]
    exact all_app h1 (all_rep h1 n)
theorem same_upd {H : Hp} {p : Addr} {o : HO} (h : H p = none) : Same H (upd H p o) := fun b x e => by
  rw [upd_ne (ne_of_none e h)]
  exact e

theorem cut_to (l : List Nat) (k : Nat) : cutS (T l) none (some (k : Int)) = T (l.take k) := by
  rw [cutS_T, HT.sIx_none, HT.sIx_nat, List.drop_zero, Nat.sub_zero]
  congr 1
  by_cases h : k ≤ l.length
  · rw [Nat.min_eq_left h]
  · rw [Nat.min_eq_right (by omega), List.take_of_length_le (Nat.le_refl _), List.take_of_length_le (by omega)]
theorem half_of (n : Nat) : ((n : Int)).fdiv 2 = ((n / 2 : Nat) : Int) := by
  rw [Int.fdiv_eq_ediv_of_nonneg _ (by decide)]
  omega
theorem all_take {l : List Nat} (h : l.all az = true) (k : Nat) : (l.take k).all az = true := by
  rw [List.all_eq_true] at h ⊢
  exact fun c hc => h c (List.mem_of_mem_take hc)


def spText (K : PySem.W.Frag) : Sp := fun vs H Q _ => ∃ (a : Addr) (ns : List Int) (i n : Nat), vs = [.ref a, .int (i : Int), .int (n : Int)] ∧ SqL K H a (ns.map V.int) ∧ n ≤ 100 ∧
  ∀ H' l, Same H H' → l.all az = true → l.length ≤ n + 1 → Q (.str (T l)) H'

/-! ### lists of numbers compared -/
theorem dp_ints {K : PySem.W.Frag} {H : Hp} : ∀ xs : List Nat, DpAll K H (xs.map nV) (xs.map fun n : Nat => PyData.int (n : Int))
  | [] => .nil
  | x :: r => .cons (.int _) (dp_ints r)
theorem eqv_ints : ∀ xs : List Nat, PyData.eqvAll (xs.map fun n : Nat => PyData.int (n : Int)) (xs.map fun n : Nat => PyData.int (n : Int)) = true
  | [] => rfl
  | x :: r => by
    show (((x : Int) == (x : Int)) && PyData.eqvAll _ _) = true
    rw [beq_self_eq_true, eqv_ints r]
    rfl
theorem eqv_lists (xs : List Nat) : PyData.eqv (.list (xs.map fun n : Nat => PyData.int (n : Int))) (.list (xs.map fun n : Nat => PyData.int (n : Int))) = true := eqv_ints xs
theorem shaped_nats (xs : List Nat) : SeqAt.shaped (.list (xs.map fun n : Nat => PyData.int (n : Int))) = true := by
  have z := PySem.W.shaped_ints (xs.map fun n : Nat => (n : Int))
  rw [List.map_map] at z
  exact z
theorem Thing.str {K : PySem.W.Frag} {H : Hp} (z : Str) (h : z.length ≤ sizeLine) : Thing K H (.str z) := by
  have e : Thing K H (.str (T (TL.tl z))) := .text _ (by rw [← TL.len_tl]; exact h)
  rw [T_tl] at e
  exact e
theorem isT_az {l : List Nat} (h : l.all az = true) (hl : l.length ≤ 200) : isT (.str (T l)) = true := by
  show (decide ((T l).length ≤ 200) && l.all az) = true
  rw [T_len, decide_eq_true hl, h]
  rfl
def odds (p1 p2 p3 : Addr) : List V := [.str "A", .str "a a", .str "\n", .non, .int 5, .bl true, .ref p1, .ref p2, .ref p3, .str (T (List.replicate 201 [97]).flatten), .str "a{", .str "a1"]
theorem odd_at {K : PySem.W.Frag} {H : Hp} {p1 p2 p3 : Addr} {xs ys : List V} {kvs : List (Key × V)} (h1 : H p1 = some (.lst xs)) (h2 : H p2 = some (.tup ys)) (h3 : H p3 = some (.dK kvs)) :
    ∀ j, j < 12 → ∃ x, (odds p1 p2 p3)[j]? = some x ∧ isT x = false ∧ Thing K H x
  | 0, _ => ⟨_, rfl, by decide +kernel, .str _ (by decide +kernel)⟩
  | 1, _ => ⟨_, rfl, by decide +kernel, .str _ (by decide +kernel)⟩
  | 2, _ => ⟨_, rfl, by decide +kernel, .str _ (by decide +kernel)⟩
  | 3, _ => ⟨_, rfl, rfl, .other (.base .non) (by decide +kernel) rfl⟩
  | 4, _ => ⟨_, rfl, rfl, .other (.base (.int _)) (by decide +kernel) rfl⟩
  | 5, _ => ⟨_, rfl, rfl, .other (.base (.bl _)) (by decide +kernel) rfl⟩
  | 6, _ => ⟨_, rfl, rfl, .other (.base (.lst h1)) (by decide +kernel) rfl⟩
  | 7, _ => ⟨_, rfl, rfl, .other (.base (.tup h2)) (by decide +kernel) rfl⟩
  | 8, _ => ⟨_, rfl, rfl, .other (.base (.dK h3)) (by decide +kernel) rfl⟩
  | 9, _ => ⟨_, rfl, by decide +kernel, .str _ (by decide +kernel)⟩
  | 10, _ => ⟨_, rfl, by decide +kernel, .str _ (by decide +kernel)⟩
  | 11, _ => ⟨_, rfl, by decide +kernel, .str _ (by decide +kernel)⟩
  | n + 12, h => absurd h (by omega)
theorem mod12 (i : Int) : ∃ j : Nat, i.fmod 12 = (j : Int) ∧ j < 12 := by
  refine ⟨(i % 12).toNat, ?_, ?_⟩
  · rw [Int.fmod_eq_emod_of_nonneg _ (by decide)]
    omega
  · omega


def spRef (K : PySem.W.Frag) (P : Addr) : Sp := fun vs H Q _ => ∃ x, vs = [x] ∧ GxR.TabG H P ∧ Thing K H x ∧ isT x = false ∧ ∀ H', Kp P H H' → Q (.bl true) H'
theorem Kp.tabL {P : Addr} {H H' : Hp} (k : Kp P H H') : GxR.TabG H' P := k.tab

def isM : V → Bool
  | .str z => isT (.str z) && (decide (0 < z.length) && decide (TL.tl z = (TL.tl z).reverse))
  | _ => false
def pal (l : List Nat) : Bool := decide (l = l.reverse)
theorem isM_T (l : List Nat) : isM (.str (T l)) = (isT (.str (T l)) && (decide (0 < l.length) && pal l)) := by
  show (isT (.str (T l)) && (decide (0 < (T l).length) && decide (l = l.reverse))) = _
  rw [T_len]
  rfl
theorem isM_isT {x : V} (h : isM x = true) : isT x = true := by
  cases x with
  | str z => exact ((Bool.and_eq_true _ _).mp h).1
  | _ => cases h
theorem isT_le {l : List Nat} (h : isT (.str (T l)) = true) : l.length ≤ 200 := by
  have z1 := of_decide_eq_true ((Bool.and_eq_true _ _).mp h).1
  rw [T_len] at z1
  exact z1
theorem isT_all {l : List Nat} (h : isT (.str (T l)) = true) : l.all az = true := ((Bool.and_eq_true _ _).mp h).2
theorem isT_mk {l : List Nat} (h : l.all az = true) (hl : l.length ≤ 200) : isT (.str (T l)) = true := by
  show (decide ((T l).length ≤ 200) && l.all az) = true
  rw [T_len, decide_eq_true hl, h]
  rfl
theorem isM_some {x : V} (h : isM x = true) : ∃ l, x = .str (T l) ∧ l.length ≤ 200 ∧ 0 < l.length ∧ pal l = true ∧ l.all az = true := by
  cases x with
  | str z =>
    have ht := isM_isT h
    have e : z = T (TL.tl z) := (T_tl z).symm
    rw [e] at h ht
    refine ⟨TL.tl z, by rw [← e], isT_le ht, ?_⟩
    rw [isM_T, Bool.and_eq_true, Bool.and_eq_true] at h
    exact ⟨of_decide_eq_true h.2.1, h.2.2, isT_all ht⟩
  | _ => cases h

def sV (l : List Nat) : V := .str (T l)
/-- the mirror words at the end of l that begin ahead of i, the longest first -/
def endsN (l : List Nat) (i : Nat) : List (List Nat) := ((List.range i).map fun j => l.drop j).filter pal
theorem endsN_succ (l : List Nat) (i : Nat) : endsN l (i + 1) = endsN l i ++ if pal (l.drop i) = true then [l.drop i] else [] := by
  unfold endsN
  rw [List.range_succ, List.map_append, List.filter_append]
  congr 1
  by_cases h : pal (l.drop i) = true
  · rw [if_pos h, List.map_singleton, List.filter_cons_of_pos h]
    rfl
  · rw [if_neg h, List.map_singleton, List.filter_cons_of_neg h]
    rfl
theorem endsN_len (l : List Nat) (i : Nat) : (endsN l i).length ≤ i := by
  unfold endsN
  refine Nat.le_trans (List.length_filter_le _ _) ?_
  rw [List.length_map, List.length_range]
  exact Nat.le_refl _
theorem endsN_head {l : List Nat} (h : pal l = true) : ∀ i, 0 < i → ∃ r, endsN l i = l :: r
  | 0, z => absurd z (Nat.lt_irrefl _)
  | 1, _ => ⟨[], by
      rw [endsN_succ]
      show [] ++ (if pal (l.drop 0) = true then [l.drop 0] else []) = [l]
      rw [List.drop_zero, if_pos h]
      rfl⟩
  | i + 2, _ => by
    obtain ⟨r, e⟩ := endsN_head h (i + 1) (Nat.succ_pos _)
    rw [endsN_succ, e]
    exact ⟨_, rfl⟩
def tailL (l : List Nat) : List Nat := (endsN l l.length ++ [[]]).getD 1 []
theorem cut_from (l : List Nat) (i : Nat) : cutS (T l) (some (i : Int)) none = T (l.drop i) := by
  rw [cutS_T, HT.sIx_none, HT.sIx_nat]
  congr 1
  by_cases h : i ≤ l.length
  · rw [Nat.min_eq_left h]
    exact List.take_of_length_le (by rw [List.length_drop]; exact Nat.le_refl _)
  · rw [Nat.min_eq_right (by omega), Nat.sub_self, List.take_zero, List.drop_eq_nil_of_le (by omega)]

def spAlike : Sp := fun vs H Q _ => ∃ l : List Nat, vs = [.str (T l)] ∧ l.length ≤ sizeLine ∧ Q (.bl (pal l)) H
def spMir (K : PySem.W.Frag) (P : Addr) : Sp := fun vs H Q _ => ∃ x, vs = [x] ∧ GxR.TabG H P ∧ Thing K H x ∧ ∀ H', GxR.Tabbed P H H' → Q (.bl (isM x)) H'
def spNoM (K : PySem.W.Frag) (P BW : Addr) : Sp := fun vs H Q E => ∃ x, vs = [x] ∧ GxR.TabG H P ∧ Thing K H x ∧ (isM x = false → ∀ H', GxR.Tabbed P H H' → E (.ref BW) none H') ∧ (isM x = true → ∀ H', GxR.Tabbed P H H' → Q .non H')

end Mw
namespace Mw
open PySem PySem.Spec PyProof.Rows L2
def spNoT (K : PySem.W.Frag) (P BT : Addr) : Sp := fun vs H Q E => ∃ x, vs = [x] ∧ GxR.TabG H P ∧ Thing K H x ∧ (isT x = false → ∀ H', GxR.Tabbed P H H' → E (.ref BT) none H') ∧ (isT x = true → ∀ H', GxR.Tabbed P H H' → Q .non H')
end Mw
namespace Mw
open PySem PySem.Spec PyProof.Rows L2

/-! ### min of texts -/
theorem best_txt (f : Nat → List Nat) : ∀ k, argBest (fun i j => decide (f i < f j)) k ≤ k ∧ ∀ j, j ≤ k → ¬ f j < f (argBest (fun i j => decide (f i < f j)) k)
  | 0 => ⟨Nat.le_refl _, fun j hj => by
    have e : j = 0 := by omega
    rw [e]
    exact List.lt_irrefl _⟩
  | k + 1 => by
    obtain ⟨h1, h2⟩ := best_txt f k
    simp only [argBest]
    by_cases hc : f (k + 1) < f (argBest (fun i j => decide (f i < f j)) k)
    · rw [if_pos (by simpa using hc)]
      refine ⟨Nat.le_refl _, fun j hj z => ?_⟩
      by_cases e : j = k + 1
      · rw [e] at z
        exact List.lt_irrefl _ z
      · exact h2 j (by omega) (List.lt_trans z hc)
    · rw [if_neg (by simpa using hc)]
      refine ⟨by omega, fun j hj z => ?_⟩
      by_cases e : j = k + 1
      · rw [e] at z
        exact hc z
      · exact h2 j (by omega) z
theorem vals_txt : ∀ {ts : List (List Nat)} {us : List Value}, Vals (ts.map sV) us → us.length = ts.length ∧ ∀ (i : Nat) (v : Value), us[i]? = some v → ∃ l t, ts[i]? = some l ∧ v = Value.str (T l) t
  | [], _, .nil => ⟨rfl, fun i v h => by simp at h⟩
  | l :: r, _, .cons x y => by
    obtain ⟨t, rfl⟩ := x
    obtain ⟨h1, h2⟩ := vals_txt y
    refine ⟨by rw [List.length_cons, List.length_cons, h1], fun i v h => ?_⟩
    cases i with
    | zero => exact ⟨l, t, rfl, (Option.some.inj h).symm⟩
    | succ i => exact h2 i v h
def rMinS (K : PySem.W.Frag) : List V → Hp → VK → Prop := fun vs H Q => ∃ (a : Addr) (ts : List (List Nat)), vs = [V.ref a] ∧ SqL K H a (ts.map sV) ∧ ts ≠ [] ∧ ∀ m, m ∈ ts → (∀ y, y ∈ ts → ¬ y < m) → Q (sV m) H
theorem cr_minS {X : Cx} (hc : X.calm = true) : CallR X (.builtin "min") (rMinS X.K) := by
  intro pins s σ H vs us Q I r h
  obtain ⟨a, ts, rfl, hs, hne, q⟩ := h
  obtain ⟨its, rv, hl, _⟩ := I.list hs
  rw [Vals.ref1 r]
  obtain ⟨hlen, hat⟩ := vals_txt rv
  have hpos : 0 < ts.length := List.length_pos_iff.mpr hne
  refine call_min_walkH (PySem.W.iter_listW (A := X.A.in1) (I.ok.hd hc) hl.isList fun s₂ e W st hfp hw hk => ?_)
  have hsz : its.toArray.size = ts.length := hlen
  refine ⟨_, _, _, _, _, _, _, s.heap, fun i j => decide (ts.getD i [] < ts.getD j []), rfl, W, st, hfp, by rw [hsz]; exact hpos, hw, hk, ?_, fun v s' hP m => ?_⟩
  · intro i j vi vj s3 Q3 E3 _ hi hj hQ
    obtain ⟨li, ti, e1, rfl⟩ := hat i vi (by simpa using hi)
    obtain ⟨lj, tj, e2, rfl⟩ := hat j vj (by simpa using hj)
    refine PySem.P.lt_str ?_
    have hQ : Q3 (Value.bool (decide (ts.getD i [] < ts.getD j []))) s3 := hQ
    rw [List.getD_eq_getElem?_getD, List.getD_eq_getElem?_getD, e1, e2] at hQ
    exact hQ
  · obtain ⟨h', tk, rfl, hk'⟩ := PySem.W.moved_old e rfl m
    obtain ⟨b1, b2⟩ := best_txt (fun i => ts.getD i []) (its.toArray.size - 1)
    have hP : its[argBest (fun i j => decide (ts.getD i [] < ts.getD j [])) (its.toArray.size - 1)]? = some v := by
      rw [List.getElem?_toArray] at hP
      exact hP
    generalize argBest (fun i j => decide (ts.getD i [] < ts.getD j [])) (its.toArray.size - 1) = k at *
    obtain ⟨l, t, e1, rfl⟩ := hat k v hP
    have e2 : ts.getD k [] = l := by
      rw [List.getD_eq_getElem?_getD, e1]
      rfl
    refine ⟨sV l, H, I.kept hk', ⟨t, rfl⟩, q l (List.mem_of_getElem? e1) fun y hy => ?_⟩
    obtain ⟨j, hj, ej⟩ := List.getElem_of_mem hy
    have z := b2 j (by omega)
    rw [e2] at z
    have e3 : ts.getD j [] = y := by
      rw [List.getD_eq_getElem?_getD, List.getElem?_eq_getElem hj, ej]
      rfl
    rw [e3] at z
    exact z
end Mw
namespace Mw
theorem gr_getD' {R : Nat → Nat} {n i : Nat} (h : i < n) : (gr R n)[i]? = some (nxt R (gr R i)) := gr_at h
/-! ### no text with these arms is less -/
theorem find_le {p : Nat → Bool} : ∀ {l : List Nat} {c x : Nat}, l.Pairwise (· ≤ ·) → l.find? p = some c → x ∈ l → p x = true → c ≤ x
  | a :: r, c, x, hp, h, hx, px => by
    rw [List.pairwise_cons] at hp
    rw [List.find?_cons] at h
    cases q : p a with
    | true =>
      rw [q] at h
      have e : a = c := Option.some.inj h
      rcases List.mem_cons.mp hx with z | z
      · omega
      · have := hp.1 x z
        omega
    | false =>
      rw [q] at h
      rcases List.mem_cons.mp hx with z | z
      · rw [← z, px] at q
        cases q
      · exact find_le hp.2 h z px
theorem abcL_sorted : abcL.Pairwise (· ≤ ·) := by decide
theorem mem_abcL {c : Nat} : c ∈ abcL ↔ 97 ≤ c ∧ c ≤ 122 := by
  unfold abcL
  rw [List.mem_map]
  constructor
  · rintro ⟨a, h, e⟩
    have := List.mem_range.mp h
    omega
  · intro h
    exact ⟨c - 97, List.mem_range.mpr (by omega), by omega⟩
/-- the next letter of a text with these arms is no less -/
theorem nxt_le {u : List Nat} {R : Nat → Nat} (A : Arms u R) (az : ∀ c ∈ u, c ∈ abcL) {p v : Nat} (hp : u.take p = gr R p) (hv : u[p]? = some v) : nxt R (gr R p) ≤ v ∧ ∀ i, i < p → tie R i p = true → nxt R (gr R p) = v := by
  have lt : p < u.length := (List.getElem?_eq_some_iff.mp hv).1
  have eu : ∀ i, i < p → (gr R p).getD i 0 = u.getD i 0 := fun i hi => by
    rw [← hp, List.getD_eq_getElem?_getD, List.getD_eq_getElem?_getD, List.getElem?_take_of_lt hi]
  have ug : ∀ i, i < u.length → u[i]? = some (u.getD i 0) := fun i hi => by
    rw [List.getD_eq_getElem?_getD, List.getElem?_eq_getElem hi]
    rfl
  cases hf : (List.range p).find? fun i => tie R i p with
  | some q =>
    obtain ⟨hq, htq, _⟩ := first_tied hf
    have z := ((pal_out hq).mp ((A.tie q p hq lt).mp htq)).2
    rw [hv, ug q (by omega)] at z
    have e : nxt R (gr R p) = v := by
      rw [nxt_tied hf, eu q hq]
      exact Option.some.inj z
    exact ⟨by omega, fun _ _ _ => e⟩
  | none =>
    refine ⟨?_, fun i hi h => by rw [none_tied hf i hi] at h; cases h⟩
    rw [nxt_free hf]
    have vin := az v (List.mem_of_getElem? hv)
    have vnot : ¬ v ∈ barred R (gr R p) p := fun w => by
      obtain ⟨i, hi, hc, e⟩ := mem_barred.mp w
      have z := ((A.cut i p hi lt).mp hc).2
      rw [hv, ug i (by omega)] at z
      rw [eu i hi] at e
      exact z (by rw [e])
    cases hs : abcL.find? fun c => !(barred R (gr R p) p).contains c with
    | none => exact Nat.zero_le _
    | some c => exact find_le abcL_sorted hs vin (by simpa using vnot)
theorem gr_least {u : List Nat} {R : Nat → Nat} (A : Arms u R) (az : ∀ c ∈ u, c ∈ abcL) : ¬ u < gr R u.length := by
  intro h
  rcases List.lt_iff_exists.mp h with ⟨_, z⟩ | ⟨i, h1, h2, he, hl⟩
  · rw [gr_len] at z
    omega
  · have pre : u.take i = gr R i := by
      rw [← gr_take (R := R) (q := i) (p := u.length) (by omega)]
      refine List.ext_getElem? fun j => ?_
      by_cases c : j < i
      · rw [List.getElem?_take_of_lt c, List.getElem?_take_of_lt c, List.getElem?_eq_getElem (by omega), List.getElem?_eq_getElem (by rw [gr_len]; omega), he j c]
      · rw [List.getElem?_eq_none (by rw [List.length_take]; omega), List.getElem?_eq_none (by rw [List.length_take]; omega)]
    have z := (nxt_le A az pre (List.getElem?_eq_getElem h1)).1
    have e := gr_at (R := R) (i := i) (p := u.length) h1
    rw [List.getElem?_eq_getElem h2] at e
    have := Option.some.inj e
    omega
theorem nodup_sub : ∀ {l m : List Nat}, l.Nodup → (∀ c ∈ l, c ∈ m) → l.length ≤ m.length
  | [], m, _, _ => Nat.zero_le _
  | a :: r, m, hn, hs => by
    rw [List.nodup_cons] at hn
    obtain ⟨s, t, rfl⟩ := List.append_of_mem (hs a List.mem_cons_self)
    have z := nodup_sub (l := r) (m := s ++ t) hn.2 fun c hc => by
      have q := hs c (List.mem_cons_of_mem _ hc)
      rw [List.mem_append, List.mem_cons] at q
      rw [List.mem_append]
      rcases q with q | q | q
      · exact .inl q
      · exact absurd (q ▸ hc) hn.1
      · exact .inr q
    rw [List.length_append] at z ⊢
    rw [List.length_cons, List.length_cons]
    omega
/-- few places: a letter is left -/
theorem few_left {R : Nat → Nat} {n : Nat} (h : n ≤ 26) : Left R n := by
  intro p hp _
  cases hs : abcL.find? fun c => !(barred R (gr R p) p).contains c with
  | some c => exact ⟨c, rfl⟩
  | none =>
    exfalso
    have all : ∀ c ∈ abcL, c ∈ barred R (gr R p) p := fun c hc => by
      have z := List.find?_eq_none.mp hs c hc
      simpa using z
    have l1 : (barred R (gr R p) p).length ≤ p := by
      unfold barred
      rw [List.length_map]
      exact Nat.le_trans (List.length_filter_le _ _) (by rw [List.length_range]; exact Nat.le_refl _)
    have l2 : abcL.length ≤ (barred R (gr R p) p).length := nodup_sub (by decide) all
    have : abcL.length = 26 := by decide
    omega

/-! ### the first place that is tied to each -/
def rl (R : Nat → Nat) : Nat → List Nat
  | 0 => []
  | p + 1 => rl R p ++ [match (List.range p).find? fun i => tie R i p with
    | some i => (rl R p).getD i 0
    | none => p]
def rt (R : Nat → Nat) (p : Nat) : Nat := match (List.range p).find? fun i => tie R i p with
    | some i => (rl R p).getD i 0
    | none => p
theorem rl_len (R : Nat → Nat) : ∀ p, (rl R p).length = p
  | 0 => rfl
  | p + 1 => by
    show (rl R p ++ [_]).length = p + 1
    rw [List.length_append, rl_len R p]
    rfl
theorem rl_at {R : Nat → Nat} {i : Nat} : ∀ {p : Nat}, i < p → (rl R p)[i]? = some (rt R i)
  | p + 1, h => by
    show (rl R p ++ [_])[i]? = _
    by_cases c : i = p
    · rw [c, List.getElem?_append_right (by rw [rl_len]; exact Nat.le_refl _), rl_len, Nat.sub_self]
      rfl
    · rw [List.getElem?_append_left (by rw [rl_len]; omega)]
      exact rl_at (by omega)
theorem rt_tied {R : Nat → Nat} {p i : Nat} (h : ((List.range p).find? fun i => tie R i p) = some i) : rt R p = rt R i := by
  have e : rt R p = (rl R p).getD i 0 := by
    unfold rt
    rw [h]
  rw [e, List.getD_eq_getElem?_getD, rl_at (first_tied h).1]
  rfl
theorem rt_free {R : Nat → Nat} {p : Nat} (h : ((List.range p).find? fun i => tie R i p) = none) : rt R p = p := by
  unfold rt
  rw [h]
theorem rt_le (R : Nat → Nat) (p : Nat) : rt R p ≤ p := by
  induction p using Nat.strongRecOn with
  | ind p ih =>
    cases h : (List.range p).find? fun i => tie R i p with
    | some i =>
      have z := (first_tied h).1
      rw [rt_tied h]
      have := ih i z
      omega
    | none =>
      rw [rt_free h]
      exact Nat.le_refl _
theorem rt_rt (R : Nat → Nat) (p : Nat) : rt R (rt R p) = rt R p := by
  induction p using Nat.strongRecOn with
  | ind p ih =>
    cases h : (List.range p).find? fun i => tie R i p with
    | some i =>
      rw [rt_tied h]
      exact ih i (first_tied h).1
    | none => rw [rt_free h, rt_free h]
theorem gr_rt {R : Nat → Nat} {n p : Nat} (hp : p < n) : (gr R n)[p]? = (gr R n)[rt R p]? := by
  induction p using Nat.strongRecOn with
  | ind p ih =>
    cases h : (List.range p).find? fun i => tie R i p with
    | some i =>
      have z := (first_tied h).1
      rw [rt_tied h, ← ih i z (by omega), gr_at hp, gr_at (by omega), nxt_tied h, gr_getD z]
    | none => rw [rt_free h]
theorem edge_rt {t : List Nat} {R : Nat → Nat} (A : Arms t R) : ∀ p, p < t.length → ∀ i, i < p → Pal t i p → rt R i = rt R p := by
  intro p
  induction p using Nat.strongRecOn with
  | ind p ih =>
    intro hp i hi hP
    cases h : (List.range p).find? fun i => tie R i p with
    | none =>
      have z := (A.tie i p hi hp).mpr hP
      rw [none_tied h i hi] at z
      cases z
    | some q =>
      obtain ⟨hq, htq, hmin⟩ := first_tied h
      rw [rt_tied h]
      have hPq := (A.tie q p hq hp).mp htq
      by_cases c : i < q
      · have z := hmin i c
        rw [(A.tie i p hi hp).mpr hP] at z
        cases z
      · by_cases d : i = q
        · rw [d]
        · -- the other end within the mirror word between q and p
          have z1 := pal_turn' (i := i) (j := p) hPq (by omega) (Nat.le_refl _) hP
          have e1 : q + p - p = q := by omega
          rw [e1] at z1
          have r1 : rt R q = rt R (q + p - i) := ih (q + p - i) (by omega) (by omega) q (by omega) z1
          rw [r1]
          rcases Nat.lt_trichotomy i (q + p - i) with g | g | g
          · have z2 := pal_mid hPq (i - q) (by omega)
            have e2 : q + (i - q) = i := by omega
            have e3 : p - (i - q) = q + p - i := by omega
            rw [e2, e3] at z2
            exact ih (q + p - i) (by omega) (by omega) i g z2
          · rw [← g]
          · have z2 := pal_mid hPq (p - i) (by omega)
            have e2 : q + (p - i) = q + p - i := by omega
            have e3 : p - (p - i) = i := by omega
            rw [e2, e3] at z2
            exact (ih i hi (by omega) (q + p - i) g z2).symm

/-! ### marks told again and again -/
structure MarkI (R : Nat → Nat) (n : Nat) (M : List Nat) : Prop where
  len : M.length = n
  ok : ∀ x, x < n → ∃ v, M[x]? = some v ∧ v ≤ x ∧ rt R v = rt R x
theorem MarkI.start (R : Nat → Nat) (n : Nat) : MarkI R n (List.range n) := ⟨List.length_range, fun x hx => ⟨x, List.getElem?_range hx, Nat.le_refl _, rfl⟩⟩
theorem MarkI.ge {R : Nat → Nat} {n : Nat} {M : List Nat} (I : MarkI R n M) {x v : Nat} (h : M[x]? = some v) : rt R x ≤ v ∧ v ≤ x := by
  have hx : x < n := by
    rw [← I.len]
    exact (List.getElem?_eq_some_iff.mp h).1
  obtain ⟨u, e, h1, h2⟩ := I.ok x hx
  rw [h] at e
  cases e
  refine ⟨?_, h1⟩
  rw [← h2]
  exact rt_le R v
def mset (M : List Nat) (l r v : Nat) : List Nat := (M.set l v).set r v
theorem mset_at {M : List Nat} {l r v x : Nat} (hl : l < M.length) (hr : r < M.length) : (mset M l r v)[x]? = if x = l ∨ x = r then some v else M[x]? := by
  unfold mset
  rw [List.getElem?_set]
  by_cases c : r = x
  · rw [if_pos c, if_pos (by rw [List.length_set]; exact hr), if_pos (.inr c.symm)]
  · rw [if_neg c, List.getElem?_set]
    by_cases d : l = x
    · rw [if_pos d, if_pos hl, if_pos (.inl d.symm)]
    · rw [if_neg d, if_neg fun z => z.elim (fun z => d z.symm) fun z => c z.symm]
theorem MarkI.step {R : Nat → Nat} {n : Nat} {M : List Nat} (I : MarkI R n M) {l r a b : Nat} (hl : M[l]? = some a) (hr : M[r]? = some b) (e : rt R l = rt R r) : MarkI R n (mset M l r (min a b)) ∧
    (∀ x, M[x]? = some (rt R x) → (mset M l r (min a b))[x]? = some (rt R x)) ∧ (M[l]? = some (rt R l) → (mset M l r (min a b))[r]? = some (rt R r)) := by
  have ll := (List.getElem?_eq_some_iff.mp hl).1
  have lr := (List.getElem?_eq_some_iff.mp hr).1
  obtain ⟨a1, a2⟩ := I.ge hl
  obtain ⟨b1, b2⟩ := I.ge hr
  have ra : rt R a = rt R l := by
    obtain ⟨u, q, _, h⟩ := I.ok l (I.len ▸ ll)
    rw [hl] at q
    cases q
    exact h
  have rb : rt R b = rt R r := by
    obtain ⟨u, q, _, h⟩ := I.ok r (I.len ▸ lr)
    rw [hr] at q
    cases q
    exact h
  have rm : rt R (min a b) = rt R l := by
    rcases Nat.le_total a b with h | h
    · rw [Nat.min_eq_left h, ra]
    · rw [Nat.min_eq_right h, rb, e]
  refine ⟨⟨by unfold mset; rw [List.length_set, List.length_set, I.len], fun x hx => ?_⟩, fun x hx => ?_, fun h => ?_⟩
  · rw [mset_at ll lr]
    by_cases c : x = l ∨ x = r
    · rw [if_pos c]
      refine ⟨_, rfl, ?_, ?_⟩
      · rcases c with c | c <;> omega
      · rcases c with c | c
        · rw [rm, c]
        · rw [rm, c, e]
    · rw [if_neg c]
      exact I.ok x hx
  · rw [mset_at ll lr]
    by_cases c : x = l ∨ x = r
    · rw [if_pos c]
      congr 1
      rcases c with c | c
      · subst c
        rw [hl] at hx
        have := Option.some.inj hx
        omega
      · subst c
        rw [hr] at hx
        have := Option.some.inj hx
        omega
    · rw [if_neg c]
      exact hx
  · rw [mset_at ll lr, if_pos (.inr rfl)]
    rw [hl] at h
    have := Option.some.inj h
    congr 1
    omega
/-- within turn k, ahead of the middle m's step s -/
structure Turn (R : Nat → Nat) (n k m s : Nat) (M : List Nat) : Prop where
  I : MarkI R n M
  done : ∀ x, x < k → x < n → M[x]? = some (rt R x)
  seen : ∀ i, ((List.range k).find? fun i => tie R i k) = some i → k < n → i + k < m ∨ (i + k = m ∧ k < m / 2 + 1 + s) → M[k]? = some (rt R k)
theorem Turn.first {R : Nat → Nat} {n : Nat} : Turn R n 0 0 0 (List.range n) := ⟨.start R n, fun x h _ => absurd h (by omega), fun i h _ _ => by cases h⟩
theorem Turn.next {R : Nat → Nat} {n k : Nat} {M : List Nat} (T : Turn R n k (2 * n - 1) 0 M) (hk : k < n) : Turn R n (k + 1) 0 0 M := by
  refine ⟨T.I, fun x hx hn => ?_, fun i h _ z => by omega⟩
  by_cases c : x < k
  · exact T.done x c hn
  · have e : x = k := by omega
    subst e
    cases h : (List.range x).find? fun i => tie R i x with
    | some i =>
      have := (first_tied h).1
      exact T.seen i h hn (.inl (by omega))
    | none =>
      obtain ⟨v, hv, h1, h2⟩ := T.I.ok x hn
      have := (T.I.ge hv).1
      rw [rt_free h] at this ⊢
      rw [hv]
      congr 1
      omega
theorem Turn.mid {R : Nat → Nat} {n k m : Nat} {M : List Nat} (T : Turn R n k m (R m) M) : Turn R n k (m + 1) 0 M := by
  refine ⟨T.I, T.done, fun i h hn z => ?_⟩
  rcases z with z | z
  · by_cases c : i + k < m
    · exact T.seen i h hn (.inl c)
    · have e : i + k = m := by omega
      have q := (first_tied h).2.1
      unfold tie at q
      rw [decide_eq_true_eq, e] at q
      exact T.seen i h hn (.inr ⟨e, by omega⟩)
  · have := (first_tied h).1
    omega
theorem Turn.step {t : List Nat} {R : Nat → Nat} (A : Arms t R) {k m s l r a b : Nat} {M : List Nat} (T : Turn R t.length k m s M) (hs : s < R m) (el : l + s + 1 = (m + 1) / 2) (er : r = m / 2 + 1 + s) (hr : r < t.length) (hla : M[l]? = some a) (hrb : M[r]? = some b) :
    Turn R t.length k m (s + 1) (mset M l r (min a b)) := by
  have elr : l + r = m := by omega
  have lt : l < r := by omega
  have ti : tie R l r = true := by
    unfold tie
    rw [decide_eq_true_eq, elr]
    omega
  have e := edge_rt A r hr l lt ((A.tie l r lt hr).mp ti)
  obtain ⟨I2, st, nw⟩ := T.I.step hla hrb e
  refine ⟨I2, fun x h1 h2 => st x (T.done x h1 h2), fun i h hn z => ?_⟩
  by_cases c : i + k < m ∨ (i + k = m ∧ k < m / 2 + 1 + s)
  · exact st k (T.seen i h hn c)
  · have q : i + k = m ∧ k = r := by omega
    obtain ⟨q1, q2⟩ := q
    subst q2
    have q3 : i = l := by omega
    subst q3
    exact nw (T.done i (first_tied h).1 (by omega))
end Mw
namespace Mw
open PySem PySem.Spec PyProof.Rows L2

/-! ### whole numbers, and what may be handed in for them -/
theorem ip_addT {X : Cx} : PIp X .Add (fun x y H Q => ∃ i j, x = .str i ∧ y = .str j ∧ i.length + j.length ≤ sizeLine ∧ Q (.str (i ++ j)) H) := iop_add_str
theorem tyx_same {K : PySem.W.Frag} {H H' : Hp} {x : V} {t : Value} (s : Same H H') (h : TyX K H x t) : TyX K H' x t := by
  cases h with
  | base h =>
    refine .base ?_
    cases h with
    | non => exact .non
    | bl x => exact .bl x
    | int i => exact .int i
    | str x => exact .str x
    | flt x => exact .flt x
    | lst e => exact .lst (s _ _ e)
    | frz e => exact .frz (s _ _ e)
    | tup e => exact .tup (s _ _ e)
    | dK e => exact .dK (s _ _ e)
    | dT e => exact .dT (s _ _ e)
    | ins e cl ha hn htk hm => exact .ins (s _ _ e) cl ha hn htk hm
  | byt b => exact .byt b
  | set e => exact .set (s _ _ e)
  | kList e c => exact .kList e c
  | kTuple e c => exact .kTuple e c
  | kDict e c => exact .kDict e c
  | fTuple e => exact .fTuple (s _ _ e)
  | fDict e => exact .fDict (s _ _ e)
def rLenSeq (K : PySem.W.Frag) : List V → Hp → VK → Prop := fun xs H Q => ∃ p ys, xs = [.ref p] ∧ (SqL K H p ys ∨ SqT K H p ys) ∧ Q (.int ys.length) H
inductive NThing (K : PySem.W.Frag) (H : Hp) : V → Prop
  | int (i : Int) : NThing K H (.int i)
  | bl (b : Bool) : NThing K H (.bl b)
  | other {x : V} {n : String} (t : TyX K H x (.type n)) (k : kitB n "int" = some false) (no : ∀ i, x ≠ .int i) : NThing K H x
theorem NThing.same {K : PySem.W.Frag} {H H' : Hp} {x : V} (s : Same H H') (h : NThing K H x) : NThing K H' x := by
  cases h with
  | int i => exact .int i
  | bl b => exact .bl b
  | other t k no => exact .other (tyx_same s t) k no
def numTo : V → Int → Bool
  | .int i, m => decide (0 ≤ i) && decide (i ≤ m)
  | _, _ => false
theorem numTo_no {x : V} (no : ∀ i, x ≠ .int i) (m : Int) : numTo x m = false := by
  cases x with
  | int i => exact absurd rfl (no i)
  | _ => rfl
def spNumTo (K : PySem.W.Frag) : Sp := fun vs H Q _ => ∃ (x : V) (m : Int), vs = [x, .int m] ∧ NThing K H x ∧ Q (.bl (numTo x m)) H

theorem dec_int (i j : Int) : decide (V.int i = V.int j) = decide (i = j) := by
  by_cases c : i = j
  · rw [c, decide_eq_true rfl, decide_eq_true rfl]
  · rw [decide_eq_false c, decide_eq_false fun z => c (V.int.inj z)]
theorem dec_nat (a b : Nat) : decide (V.int (a : Int) = V.int (b : Int)) = decide (a = b) := by
  rw [dec_int]
  by_cases c : a = b
  · rw [c, decide_eq_true rfl, decide_eq_true rfl]
  · rw [decide_eq_false c, decide_eq_false (by omega)]
/-! ### lists of arms -/
def midsB (n : Nat) : Bool := decide (n = 0) || (decide (n % 2 = 1) && decide (n < 400))
def spMids : Sp := fun vs H Q _ => ∃ n : Nat, vs = [.int (n : Int)] ∧ Q (.bl (midsB n)) H
def roomN (m n : Nat) : Nat := min (m + 1) (n - m) / 2
def spRoom : Sp := fun vs H Q _ => ∃ m n : Nat, vs = [.int (m : Int), .int (n : Int)] ∧ m ≤ n ∧ Q (.int (roomN m n : Nat)) H
def armOk (xs : List V) (i : Nat) : Bool := numTo (xs.getD i .non) (roomN i xs.length : Nat)
def isArmsL (xs : List V) : Bool := midsB xs.length && (List.range xs.length).all (armOk xs)
inductive AThing (K : PySem.W.Frag) (H : Hp) : V → Bool → Prop
  | list {a : Addr} {xs : List V} (h : H a = some (.lst xs)) (n : ∀ x ∈ xs, NThing K H x) (z : xs.length ≤ 1000) : AThing K H (.ref a) (isArmsL xs)
  | other {x : V} {n : String} (t : TyX K H x (.type n)) (k : kitB n "list" = some false) : AThing K H x false
def spIsArms (K : PySem.W.Frag) : Sp := fun vs H Q _ => ∃ (x : V) (b : Bool), vs = [x] ∧ AThing K H x b ∧ ∀ H', Same H H' → Q (.bl b) H'
/-- the arms of a text are such a list -/
theorem armL_room {l : List Nat} {m : Nat} (h : m < 2 * l.length - 1) : armL l m ≤ roomN m (2 * l.length - 1) := by
  unfold roomN
  by_cases c : armL l m = 0
  · omega
  · obtain ⟨h1, h2, _⟩ := okAt_of ((lt_armL (l := l) (m := m) (k := armL l m - 1)).mp (by omega) (armL l m - 1) (Nat.le_refl _))
    rw [Nat.le_div_iff_mul_le (by decide)]
    rw [Nat.le_min]
    omega
theorem numTo_nat {a m : Nat} : numTo (nV a) (m : Int) = decide (a ≤ m) := by
  show (decide (0 ≤ (a : Int)) && decide ((a : Int) ≤ (m : Int))) = _
  rw [decide_eq_true (by omega), Bool.true_and]
  by_cases h : a ≤ m
  · rw [decide_eq_true h, decide_eq_true (by omega)]
  · rw [decide_eq_false h, decide_eq_false (by omega)]
theorem isArmsL_arms {l : List Nat} (h : l.length ≤ 200) : isArmsL ((armsL l).map nV) = true := by
  unfold isArmsL
  rw [List.length_map, armsL_len, Bool.and_eq_true]
  constructor
  · unfold midsB
    by_cases c : l.length = 0
    · rw [c]
      rfl
    · rw [decide_eq_true (show (2 * l.length - 1) % 2 = 1 by omega), decide_eq_true (show 2 * l.length - 1 < 400 by omega), Bool.and_self, Bool.or_true]
  · rw [List.all_eq_true]
    intro i hi
    have hi := List.mem_range.mp hi
    unfold armOk
    rw [List.length_map, armsL_len]
    have e : ((armsL l).map nV).getD i .non = nV (armL l i) := by
      unfold armsL
      rw [List.getD_eq_getElem?_getD, List.getElem?_map, List.getElem?_map, List.getElem?_range hi]
      rfl
    rw [e, numTo_nat]
    exact decide_eq_true (armL_room hi)
theorem nthing_nats {K : PySem.W.Frag} {H : Hp} (ns : List Nat) : ∀ x ∈ ns.map nV, NThing K H x := fun x hx => by
  obtain ⟨n, _, rfl⟩ := List.mem_map.mp hx
  exact .int _
end Mw
namespace Mw
open PySem PySem.Spec PyProof.Rows L2

/-! ### rows of letters -/
theorem T_beq (a b : List Nat) : (T a == T b) = (a == b) := by
  by_cases c : a = b
  · rw [c, beq_self_eq_true, beq_self_eq_true]
  · rw [beq_eq_false_iff_ne.mpr c, beq_eq_false_iff_ne.mpr fun z => c (T_inj z)]
theorem inV_txt (x : List Nat) : ∀ ys : List (List Nat), inV (sV x) (ys.map sV) = ys.contains x
  | [] => rfl
  | y :: r => by
    have ih := inV_txt x r
    unfold inV at ih ⊢
    rw [List.map_cons, List.any_cons, ih, List.contains_cons]
    congr 1
    show (T y == T x) = (x == y)
    rw [T_beq]
    exact Bool.beq_comm
def gV (c : Nat) : V := .str (T [c])
theorem gV_map (cs : List Nat) : cs.map gV = (cs.map fun c => [c]).map sV := by
  rw [List.map_map]
  rfl
theorem inV_sgn (x : Nat) (ys : List Nat) : inV (gV x) (ys.map gV) = ys.contains x := by
  rw [gV_map]
  show inV (sV [x]) _ = _
  rw [inV_txt]
  induction ys with
  | nil => rfl
  | cons y r ih =>
    rw [List.map_cons, List.contains_cons, List.contains_cons, ih]
    congr 1
    show ([x] == [y]) = (x == y)
    by_cases c : x = y
    · rw [c, beq_self_eq_true, beq_self_eq_true]
    · rw [beq_eq_false_iff_ne.mpr c, beq_eq_false_iff_ne.mpr fun z => c (List.cons.inj z).1]
theorem flat_txt (ys : List (List Nat)) : (ys.map sV).all flatV = true := by
  rw [List.all_eq_true]
  intro x hx
  obtain ⟨y, _, rfl⟩ := List.mem_map.mp hx
  rfl
theorem flat_sgn (ys : List Nat) : (ys.map gV).all flatV = true := by
  rw [gV_map]
  exact flat_txt _
theorem find_range {q : Nat → Bool} {p i : Nat} (h1 : ∀ j, j < i → q j = false) (h2 : q i = true) (h3 : i < p) : (List.range p).find? q = some i := by
  cases h : (List.range p).find? q with
  | none =>
    have z := List.find?_eq_none.mp h i (List.mem_range.mpr h3)
    exact absurd h2 z
  | some k =>
    obtain ⟨h4, as, bs, e, h5⟩ := List.find?_eq_some_iff_append.mp h
    have hl : as.length + bs.length + 1 = p := by
      have := congrArg List.length e
      rw [List.length_range, List.length_append, List.length_cons] at this
      omega
    have at_ : ∀ x, x < p → (as ++ k :: bs)[x]? = some x := fun x hx => by rw [← e, List.getElem?_range hx]
    have hk : as.length = k := by
      have z := at_ as.length (by omega)
      rw [List.getElem?_append_right (Nat.le_refl _), Nat.sub_self] at z
      exact (Option.some.inj z).symm
    congr 1
    by_cases c : k < i
    · have z := h1 k c
      rw [h4] at z
      cases z
    · by_cases d : i < k
      · have z := at_ i (by omega)
        rw [List.getElem?_append_left (by omega)] at z
        have := h5 i (List.mem_of_getElem? z)
        simp [h2] at this
      · omega
theorem find_none {q : Nat → Bool} {p : Nat} (h1 : ∀ j, j < p → q j = false) : (List.range p).find? q = none :=
  List.find?_eq_none.mpr fun x hx => by
    rw [h1 x (List.mem_range.mp hx)]
    exact Bool.false_ne_true
theorem barred_succ (R : Nat → Nat) (g : List Nat) (p i : Nat) : (((List.range (i + 1)).filter fun i => cut R i p).map fun i => g.getD i 0) = (((List.range i).filter fun i => cut R i p).map fun i => g.getD i 0) ++ if cut R i p = true then [g.getD i 0] else [] := by
  rw [List.range_succ, List.filter_append, List.map_append]
  congr 1
  by_cases c : cut R i p = true
  · rw [if_pos c]
    simp [c]
  · rw [if_neg c]
    simp [c]
/-- the least of the letters that are left -/
theorem least_left {q : Nat → Bool} {c m : Nat} (h : abcL.find? q = some c) (hm : [m] ∈ (abcL.filter q).map fun c => [c]) (hl : ∀ y ∈ (abcL.filter q).map fun c => [c], ¬ y < [m]) : m = c := by
  have hc : c ∈ abcL.filter q := List.mem_filter.mpr ⟨List.mem_of_find?_eq_some h, List.find?_some h⟩
  obtain ⟨m2, hm2, e⟩ := List.mem_map.mp hm
  cases (List.cons.inj e).1
  have hm3 := List.mem_filter.mp hm2
  have le := find_le abcL_sorted h hm3.1 hm3.2
  have z := hl [c] (List.mem_map.mpr ⟨c, hc, rfl⟩)
  by_cases lt : c < m
  · exact absurd (List.Lex.rel lt) z
  · omega
theorem abc_size : (Str.ofString "abcdefghijklmnopqrstuvwxyz").cps.size = 26 := by decide +kernel
theorem abc_cps : (Str.ofString "abcdefghijklmnopqrstuvwxyz").cps.toList = abcL := abc
theorem abc_some {i c : Nat} (h : (Str.ofString "abcdefghijklmnopqrstuvwxyz").cps[i]? = some c) : abcL[i]? = some c := by
  rw [← abc_cps, Array.getElem?_toList]
  exact h
theorem take_succ_of {α : Type} {l : List α} {i : Nat} {x : α} (h : l[i]? = some x) : l.take (i + 1) = l.take i ++ [x] := by
  rw [List.take_add_one, h]
  rfl
/-- arms by the places of a row -/
def rsR (rs : List Nat) : Nat → Nat := fun m => rs.getD m 0
def spNext (K : PySem.W.Frag) : Sp := fun vs H Q _ => ∃ (g rs : List Nat) (a : Addr), vs = [.str (T g), .ref a] ∧ SqL K H a (rs.map nV) ∧ g.length ≤ 200 ∧ 2 * g.length ≤ rs.length ∧
  (((List.range g.length).find? fun i => tie (rsR rs) i g.length) = none → ∃ c, (abcL.find? fun c => !(barred (rsR rs) g g.length).contains c) = some c) ∧ ∀ H', Same H H' → Q (gV (nxt (rsR rs) g)) H'
end Mw
namespace Mw
open PySem PySem.Spec PyProof.Rows L2
def lenN (rs : List Nat) : Nat := (rs.length + 1) / 2
def badArms (rs : List Nat) : Bool := (List.range rs.length).any fun m => !decide (armL (gr (rsR rs) (lenN rs)) m = rsR rs m)
def spLeast (K : PySem.W.Frag) (BA NT : Addr) : Sp := fun vs H Q E => ∃ (x : V) (b : Bool), vs = [x] ∧ AThing K H x b ∧ (b = false → ∀ H', Same H H' → E (.ref BA) none H') ∧
  (b = true → ∃ (a : Addr) (rs : List Nat), x = .ref a ∧ H a = some (.lst (rs.map nV)) ∧ rs.length < 400 ∧ Left (rsR rs) (lenN rs) ∧ (badArms rs = false → ∀ H', Same H H' → Q (.str (T (gr (rsR rs) (lenN rs)))) H') ∧ (badArms rs = true → ∀ H', Same H H' → E (.ref NT) none H'))
end Mw
namespace Mw
open PySem PySem.Spec PyProof.Rows L2
theorem psNox {X : Cx} {st : Stmt} {t : TS} (h : PS X.nox st t) : PS X st t := ⟨fun pins s σ H D I hw => 
  wpAny_mono (h.run pins s σ H D (I.wish _) hw) (fun _ _ q => SP.unwish q) fun _ _ z => False.elim z⟩
end Mw
namespace Mw
open PySem PySem.Spec PyProof.Rows L2
def spLArms : Sp := fun vs H Q _ => ∃ l : List Nat, vs = [.str (T l)] ∧ l.length ≤ 200 ∧ ∀ H' p, Same H H' → H p = none → H' p = some (.lst ((armsL l).map nV)) → Q (.ref p) H'
theorem left_of (m : Nat) : ((m : Int) - 1).fdiv 2 = (((m + 1) / 2 : Nat) : Int) - 1 := by
  rw [Int.fdiv_eq_ediv_of_nonneg _ (by decide)]
  omega
theorem okAt_dec {l : List Nat} {m k : Nat} (c1 : k + 1 ≤ (m + 1) / 2) (c2 : m / 2 + 1 + k < l.length) (h1 : (m + 1) / 2 - (k + 1) < l.length) : okAt l m k = decide (l[(m + 1) / 2 - (k + 1)] = l[m / 2 + 1 + k]) := by
  unfold okAt
  rw [decide_eq_true c1, decide_eq_true c2, Bool.true_and, Bool.true_and, List.getElem?_eq_getElem h1, List.getElem?_eq_getElem c2]
  by_cases z : l[(m + 1) / 2 - (k + 1)] = l[m / 2 + 1 + k]
  · rw [z, decide_eq_true rfl]
    exact beq_self_eq_true _
  · rw [decide_eq_false z]
    exact beq_eq_false_iff_ne.mpr fun y => z (Option.some.inj y)
end Mw
namespace Mw
open PySem PySem.Spec PyProof.Rows L2
theorem ixNat {n j : Nat} (hj : j < n) : ixN n (j : Int) = some j := by
  unfold ixN
  rw [if_pos (by omega), if_pos (by omega)]
  rfl
theorem rgV_nat (n : Nat) : rgV 0 (n : Int) = (List.range n).map nV := by
  unfold rgV
  have e : ((n : Int) - 0).toNat = n := by omega
  rw [e]
  refine List.map_congr_left fun i _ => ?_
  show V.int (0 + (i : Int)) = V.int (i : Int)
  rw [Int.zero_add]
theorem set_nats (M : List Nat) (j v : Nat) : (M.map nV).set j (nV v) = (M.set j v).map nV := by
  rw [List.map_set]
theorem nats_at {M : List Nat} {j v : Nat} (h : M[j]? = some v) : (M.map nV)[j]? = some (nV v) := by
  rw [List.getElem?_map, h]
  rfl
def spMarks (K : PySem.W.Frag) : Sp := fun vs H Q _ => ∃ (a : Addr) (t : List Nat), vs = [.ref a, .int (t.length : Int)] ∧ SqL K H a ((armsL t).map nV) ∧ t.length ≤ 200 ∧
  ∀ H' p M, Same H H' → H p = none → H' p = some (.lst (M.map nV)) → MarkI (armL t) t.length M → (∀ x, x < t.length → M[x]? = some (rt (armL t) x)) → Q (.ref p) H'
theorem armsL_at {t : List Nat} {m : Nat} (h : m < 2 * t.length - 1) : (armsL t)[m]? = some (armL t m) := by
  unfold armsL
  rw [List.getElem?_map, List.getElem?_range h]
  rfl
end Mw
namespace Mw
open PySem PySem.Spec PyProof.Rows L2
/-! ### the least text by the law's own reading -/
def gL (R : Nat → Nat) (x : Nat) : Nat := nxt R (gr R x)
theorem gL_root {R : Nat → Nat} (x : Nat) : gL R x = gL R (rt R x) := by
  have z := gr_rt (R := R) (n := x + 1) (p := x) (by omega)
  have := rt_le R x
  rw [gr_at (by omega), gr_at (by omega)] at z
  exact Option.some.inj z
theorem gL_at {R : Nat → Nat} {p x : Nat} (h : x < p) : (gr R p)[x]? = some (gL R x) := gr_at h
theorem gL_cut {t : List Nat} {R : Nat → Nat} (A : Arms t R) (L : Left R t.length) {l r : Nat} (hl : l < r) (hr : r < t.length) (c : cut R l r = true) : gL R l ≠ gL R r := by
  intro e
  obtain ⟨c1, c2⟩ := (A.cut l r hl hr).mp c
  have P := gr_pal A L rfl
  have h1 : Pal (gr R t.length) (l + 1) (r - 1) := by
    by_cases d : l + 1 < r - 1
    · exact (P (l + 1) (r - 1) d (by omega)).mpr c1
    · exact pal_short (by omega)
  have h2 : Pal (gr R t.length) l r := (pal_out hl).mpr ⟨h1, by rw [gL_at (by omega), gL_at hr, e]⟩
  exact c2 ((pal_out hl).mp ((P l r hl hr).mp h2)).2
theorem cut_mid {R : Nat → Nat} {m : Nat} (h : R m + 1 ≤ (m + 1) / 2) : cut R ((m + 1) / 2 - (R m + 1)) (m / 2 + 1 + R m) = true := by
  unfold cut
  rw [decide_eq_true_eq]
  have e : (m + 1) / 2 - (R m + 1) + (m / 2 + 1 + R m) = m := by omega
  rw [e]
theorem mid_cut {R : Nat → Nat} {i p : Nat} (c : cut R i p = true) : R (i + p) + 1 ≤ (i + p + 1) / 2 ∧ (i + p + 1) / 2 - (R (i + p) + 1) = i ∧ (i + p) / 2 + 1 + R (i + p) = p := by
  unfold cut at c
  rw [decide_eq_true_eq] at c
  omega
/-- the letters noted for a place, ahead of the middle m -/
structure Used (R : Nat → Nat) (p m : Nat) (U : List Nat) : Prop where
  no : ∀ c ∈ U, c ≠ gL R p
  all : ∀ i, i < p → cut R i p = true → i + p < m → gL R i ∈ U
  len : U.length ≤ 2 * m
theorem Used.start (R : Nat → Nat) (p : Nat) : Used R p 0 [] := ⟨fun c h => absurd h List.not_mem_nil, fun i _ _ h => absurd h (by omega), Nat.le_refl _⟩
def use1 (R : Nat → Nat) (p m : Nat) : Bool := decide (rt R ((m + 1) / 2 - (R m + 1)) = rt R p) && decide (rt R (m / 2 + 1 + R m) < p)
def use2 (R : Nat → Nat) (p m : Nat) : Bool := decide (rt R (m / 2 + 1 + R m) = rt R p) && decide (rt R ((m + 1) / 2 - (R m + 1)) < p)
theorem Used.step {t : List Nat} {R : Nat → Nat} (A : Arms t R) (L : Left R t.length) {p m : Nat} {U : List Nat} (I : Used R p m U) (h1 : R m + 1 ≤ (m + 1) / 2) (h2 : m / 2 + 1 + R m < t.length) :
    Used R p (m + 1) (U ++ (if use1 R p m = true then [gL R (rt R (m / 2 + 1 + R m))] else []) ++ (if use2 R p m = true then [gL R (rt R ((m + 1) / 2 - (R m + 1)))] else [])) := by
  have ne := gL_cut A L (show (m + 1) / 2 - (R m + 1) < m / 2 + 1 + R m by omega) h2 (cut_mid h1)
  refine ⟨fun c hc => ?_, fun i hi hc hm => ?_, ?_⟩
  · rw [List.mem_append, List.mem_append] at hc
    rcases hc with (hc | hc) | hc
    · exact I.no c hc
    · by_cases u : use1 R p m = true
      · rw [if_pos u] at hc
        obtain rfl := List.mem_singleton.mp hc
        unfold use1 at u
        rw [Bool.and_eq_true, decide_eq_true_eq] at u
        rw [← gL_root, gL_root p, ← u.1, ← gL_root]
        exact ne.symm
      · rw [if_neg u] at hc
        cases hc
    · by_cases u : use2 R p m = true
      · rw [if_pos u] at hc
        obtain rfl := List.mem_singleton.mp hc
        unfold use2 at u
        rw [Bool.and_eq_true, decide_eq_true_eq] at u
        rw [← gL_root, gL_root p, ← u.1, ← gL_root]
        exact ne
      · rw [if_neg u] at hc
        cases hc
  · by_cases e : i + p < m
    · rw [List.append_assoc]
      exact List.mem_append_left _ (I.all i hi hc e)
    · have em : i + p = m := by omega
      obtain ⟨_, e1, e2⟩ := mid_cut hc
      rw [em] at e1 e2
      have u : use2 R p m = true := by
        unfold use2
        rw [e1, e2, decide_eq_true rfl, Bool.true_and]
        have := rt_le R i
        exact decide_eq_true (by omega)
      rw [if_pos u, e1]
      exact List.mem_append_right _ (by rw [← gL_root]; exact List.mem_cons_self)
  · rw [List.length_append, List.length_append]
    have := I.len
    have a1 : (if use1 R p m = true then [gL R (rt R (m / 2 + 1 + R m))] else []).length ≤ 1 := by split <;> simp
    have a2 : (if use2 R p m = true then [gL R (rt R ((m + 1) / 2 - (R m + 1)))] else []).length ≤ 1 := by split <;> simp
    omega
theorem Used.skip {R : Nat → Nat} {n p m : Nat} {U : List Nat} (I : Used R p m U) (hp : p < n) (h : ¬ (R m + 1 ≤ (m + 1) / 2 ∧ m / 2 + 1 + R m < n)) : Used R p (m + 1) U := by
  refine ⟨I.no, fun i hi hc hm => ?_, by have := I.len; omega⟩
  by_cases e : i + p < m
  · exact I.all i hi hc e
  · have em : i + p = m := by omega
    obtain ⟨e0, e1, e2⟩ := mid_cut hc
    rw [em] at e0 e1 e2
    exact absurd ⟨e0, by omega⟩ h
theorem find_same {q1 q2 : Nat → Bool} {l : List Nat} {c : Nat} (h : l.find? q1 = some c) (h2 : q2 c = true) (h3 : ∀ x, q1 x = false → q2 x = false) : l.find? q2 = some c := by
  induction l with
  | nil => cases h
  | cons a r ih =>
    rw [List.find?_cons] at h ⊢
    cases e : q1 a with
    | true =>
      rw [e] at h
      cases Option.some.inj h
      rw [h2]
    | false =>
      rw [e] at h
      rw [h3 a e]
      exact ih h
theorem Used.letter {t : List Nat} {R : Nat → Nat} (L : Left R t.length) {p : Nat} {U : List Nat} (I : Used R p (2 * t.length - 1) U) (hp : p < t.length) (hr : ¬ rt R p < p) : (abcL.filter fun c => !U.contains c)[0]? = some (gL R p) := by
  have hf : ((List.range p).find? fun i => tie R i p) = none := by
    cases h : (List.range p).find? fun i => tie R i p with
    | none => rfl
    | some i =>
      have := (first_tied h).1
      rw [rt_tied h] at hr
      have := rt_le R i
      omega
  obtain ⟨c, hc⟩ := L p hp hf
  have e : gL R p = c := by
    unfold gL
    rw [nxt_free hf, hc]
    rfl
  rw [← List.head?_eq_getElem?, List.head?_filter, e]
  refine find_same hc ?_ fun x hx => ?_
  · cases q : U.contains c with
    | false => rfl
    | true => exact absurd e.symm (I.no c (by simpa using q))
  · have hx : x ∈ barred R (gr R p) p := by simpa using hx
    obtain ⟨i, hi, hci, ei⟩ := mem_barred.mp hx
    rw [gr_getD hi] at ei
    have := I.all i hi hci (by omega)
    rw [show gL R i = x from ei] at this
    simpa using this
def spLLeast (K : PySem.W.Frag) : Sp := fun vs H Q _ => ∃ (a : Addr) (t : List Nat), vs = [.ref a] ∧ SqL K H a ((armsL t).map nV) ∧ t.length ≤ 26 ∧ ∀ H', Same H H' → Q (.str (T (gr (armL t) t.length))) H'
end Mw
namespace Mw
open PySem PySem.Spec PyProof.Rows L2
theorem rsR_arms (t : List Nat) : rsR (armsL t) = armL t := by
  funext m
  unfold rsR
  rw [List.getD_eq_getElem?_getD]
  by_cases h : m < 2 * t.length - 1
  · rw [armsL_at h]
    rfl
  · rw [List.getElem?_eq_none (by rw [armsL_len]; omega)]
    show 0 = armL t m
    by_cases c : armL t m = 0
    · exact c.symm
    · have := (okAt_of ((lt_armL (l := t) (m := m) (k := 0)).mp (by omega) 0 (Nat.le_refl _))).2.1
      omega
theorem lenN_arms (t : List Nat) : lenN (armsL t) = t.length := by
  unfold lenN
  rw [armsL_len]
  omega
theorem arms_gr {t : List Nat} (L : Left (armL t) t.length) (m : Nat) : armL (gr (armL t) t.length) m = armL t m :=
  armL_congr (gr_len _ _) (fun i j hij hj => gr_pal (arms_of t) L rfl i j hij (by rw [gr_len] at hj; exact hj)) m
theorem bad_arms {t : List Nat} (L : Left (armL t) t.length) : badArms (armsL t) = false := by
  unfold badArms
  rw [rsR_arms, lenN_arms]
  cases h : (List.range (armsL t).length).any fun m => !decide (armL (gr (armL t) t.length) m = armL t m) with
  | false => rfl
  | true =>
    obtain ⟨m, _, e⟩ := List.any_eq_true.mp h
    rw [arms_gr L m, decide_eq_true rfl] at e
    cases e
theorem armsL_gr {t : List Nat} (L : Left (armL t) t.length) : armsL (gr (armL t) t.length) = armsL t := by
  unfold armsL
  rw [gr_len]
  exact List.map_congr_left fun m _ => arms_gr L m
theorem az_abc {l : List Nat} (h : l.all az = true) : ∀ c ∈ l, c ∈ abcL := fun c hc => by
  have z := List.all_eq_true.mp h c hc
  unfold az at z
  rw [Bool.and_eq_true, decide_eq_true_eq, decide_eq_true_eq] at z
  exact mem_abcL.mpr z
def spLaw (K : PySem.W.Frag) : Sp := fun vs H Q _ => ∃ (a : Addr) (ns : List Int), vs = [.ref a] ∧ SqL K H a (ns.map V.int) ∧ ∀ H', Q (.bl true) H'
/-- the arms of a text handed to is_arms and to least_text -/
theorem athing_arms {K : PySem.W.Frag} {H : Hp} {p : Addr} {t : List Nat} (h : H p = some (.lst ((armsL t).map nV))) (ht : t.length ≤ 200) : AThing K H (.ref p) true := by
  have z : AThing K H (.ref p) (isArmsL ((armsL t).map nV)) := .list h (nthing_nats _) (by rw [List.length_map, armsL_len]; omega)
  rw [isArmsL_arms ht] at z
  exact z
end Mw
namespace Mw
open PySem PySem.Spec PyProof.Rows L2

/-! ### all that is no table of code objects stays -/
def Sm (H H' : Hp) : Prop := ∀ b o, (∀ ps, o ≠ HO.tbl ps) → H b = some o → H' b = some o
theorem Sm.of {H H' : Hp} (s : Same H H') : Sm H H' := fun b o _ h => s b o h
theorem Kp.sm {P : Addr} {H H' : Hp} (k : Kp P H H') (t : GxR.TabG H P) : Sm H H' := fun b o n h => by
  by_cases e : b = P
  · obtain ⟨ps, h1, _⟩ := t
    rw [e, h1] at h
    exact absurd (Option.some.inj h).symm (n ps)
  · exact k.keep b o e h
theorem Sm.refl (H : Hp) : Sm H H := fun _ _ _ h => h
theorem Sm.trans {H H1 H2 : Hp} (a : Sm H H1) (b : Sm H1 H2) : Sm H H2 := fun c o n h => b c o n (a c o n h)
theorem Sm.lst {H H' : Hp} {p : Addr} {xs : List V} (s : Sm H H') (h : H p = some (.lst xs)) : H' p = some (.lst xs) := s _ _ (fun _ z => by cases z) h
theorem tyx_sm {K : PySem.W.Frag} {H H' : Hp} {x : V} {t : Value} (s : Sm H H') (h : TyX K H x t) : TyX K H' x t := by
  cases h with
  | base h =>
    refine .base ?_
    cases h with
    | non => exact .non
    | bl x => exact .bl x
    | int i => exact .int i
    | str x => exact .str x
    | flt x => exact .flt x
    | lst e => exact .lst (s _ _ (fun _ z => by cases z) e)
    | frz e => exact .frz (s _ _ (fun _ z => by cases z) e)
    | tup e => exact .tup (s _ _ (fun _ z => by cases z) e)
    | dK e => exact .dK (s _ _ (fun _ z => by cases z) e)
    | dT e => exact .dT (s _ _ (fun _ z => by cases z) e)
    | ins e cl ha hn htk hm => exact .ins (s _ _ (fun _ z => by cases z) e) cl ha hn htk hm
  | byt b => exact .byt b
  | set e => exact .set (s _ _ (fun _ z => by cases z) e)
  | kList e c => exact .kList e c
  | kTuple e c => exact .kTuple e c
  | kDict e c => exact .kDict e c
  | fTuple e => exact .fTuple (s _ _ (fun _ z => by cases z) e)
  | fDict e => exact .fDict (s _ _ (fun _ z => by cases z) e)
theorem nthing_sm {K : PySem.W.Frag} {H H' : Hp} {x : V} (s : Sm H H') (h : NThing K H x) : NThing K H' x := by
  cases h with
  | int i => exact .int i
  | bl b => exact .bl b
  | other t k no => exact .other (tyx_sm s t) k no
theorem sql_sm {K : PySem.W.Frag} {H H' : Hp} {p : Addr} {xs : List V} (s : Sm H H') (h : SqL K H p xs) : SqL K H' p xs := by
  rcases h with (h | ⟨o, h⟩) | h
  · exact .inl (.inl (s.lst h))
  · exact .inl (.inr ⟨o, s _ _ (fun _ z => by cases z) h⟩)
  · exact .inr h
theorem sqt_sm {K : PySem.W.Frag} {H H' : Hp} {p : Addr} {xs : List V} (s : Sm H H') (h : SqT K H p xs) : SqT K H' p xs := by
  rcases h with (h | ⟨o, h⟩) | h
  · exact .inl (.inl (s _ _ (fun _ z => by cases z) h))
  · exact .inl (.inr ⟨o, s _ _ (fun _ z => by cases z) h⟩)
  · exact .inr h
theorem athing_sm {K : PySem.W.Frag} {H H' : Hp} {x : V} {b : Bool} (s : Sm H H') (h : AThing K H x b) : AThing K H' x b := by
  cases h with
  | list h n z => exact .list (s.lst h) (fun x hx => nthing_sm s (n x hx)) z
  | other t k => exact .other (tyx_sm s t) k
mutual
theorem dp_sm {K : PySem.W.Frag} {H H' : Hp} (s : Sm H H') : ∀ (d : PyData) (v : V), Dp K H v d → Dp K H' v d
  | .none, _, h => by
    cases h
    exact .non
  | .bool b, _, h => by
    cases h
    exact .bl b
  | .int i, _, h => by
    cases h
    exact .int i
  | .str x, _, h => by
    cases h
    exact .str x
  | .list ds, _, h => by
    cases h with
    | lst q r => exact .lst (sql_sm s q) (dpAll_sm s ds _ r)
  | .tuple ds, _, h => by
    cases h with
    | tup q r => exact .tup (sqt_sm s q) (dpAll_sm s ds _ r)
  | .dict _, _, h => by cases h
theorem dpAll_sm {K : PySem.W.Frag} {H H' : Hp} (s : Sm H H') : ∀ (ds : List PyData) (vs : List V), DpAll K H vs ds → DpAll K H' vs ds
  | [], _, h => by
    cases h
    exact .nil
  | d :: ds, _, h => by
    cases h with
    | cons h1 h2 => exact .cons (dp_sm s d _ h1) (dpAll_sm s ds _ h2)
end
theorem dpAll_app {K : PySem.W.Frag} {H : Hp} : ∀ {vs ws : List V} {ds es : List PyData}, DpAll K H vs ds → DpAll K H ws es → DpAll K H (vs ++ ws) (ds ++ es)
  | _, _, [], _, h, k => by
    cases h
    exact k
  | _, _, d :: ds, _, h, k => by
    cases h with
    | cons h1 h2 => exact .cons h1 (dpAll_app h2 k)
theorem dpAll_take {K : PySem.W.Frag} {H : Hp} : ∀ (k : Nat) {vs : List V} {ds : List PyData}, DpAll K H vs ds → DpAll K H (vs.take k) (ds.take k)
  | 0, _, _, _ => .nil
  | k + 1, _, [], h => by
    cases h
    exact .nil
  | k + 1, _, d :: ds, h => by
    cases h with
    | cons h1 h2 => exact .cons h1 (dpAll_take k h2)
theorem dpAll_drop {K : PySem.W.Frag} {H : Hp} : ∀ (k : Nat) {vs : List V} {ds : List PyData}, DpAll K H vs ds → DpAll K H (vs.drop k) (ds.drop k)
  | 0, _, _, h => h
  | k + 1, _, [], h => by
    cases h
    exact .nil
  | k + 1, _, d :: ds, h => by
    cases h with
    | cons h1 h2 => exact dpAll_drop k h2
/-- data that can be compared -/
def Okd (d : PyData) : Prop := d.canLay0 = true ∧ d.depth ≤ 2
theorem okd_all : ∀ {ds : List PyData}, (∀ d ∈ ds, Okd d) → PyData.canLayAll0 ds = true ∧ PyData.depthAll ds ≤ 2
  | [], _ => ⟨rfl, Nat.zero_le _⟩
  | d :: ds, h => by
    obtain ⟨h1, h2⟩ := okd_all fun x hx => h x (List.mem_cons_of_mem _ hx)
    obtain ⟨k1, k2⟩ := h d List.mem_cons_self
    refine ⟨?_, ?_⟩
    · show (d.canLay0 && PyData.canLayAll0 ds) = true
      rw [h1, k1]
      rfl
    · show max d.depth (PyData.depthAll ds) ≤ 2
      exact Nat.max_le.mpr ⟨k2, h2⟩
theorem shaped_list {ds : List PyData} (h : ∀ d ∈ ds, Okd d) : SeqAt.shaped (.list ds) = true := by
  obtain ⟨h1, h2⟩ := okd_all h
  show (PyData.canLayAll0 ds && decide (PyData.depthAll ds + 1 ≤ 64)) = true
  rw [h1, decide_eq_true (by omega)]
  rfl
theorem shaped_tuple {ds : List PyData} (h : ∀ d ∈ ds, Okd d) : SeqAt.shaped (.tuple ds) = true := by
  obtain ⟨h1, h2⟩ := okd_all h
  show (PyData.canLayAll0 ds && decide (PyData.depthAll ds + 1 ≤ 64)) = true
  rw [h1, decide_eq_true (by omega)]
  rfl
def dN (n : Nat) : PyData := .int (n : Int)
theorem okd_nats (ns : List Nat) : ∀ d ∈ ns.map dN, Okd d := fun d hd => by
  obtain ⟨n, _, rfl⟩ := List.mem_map.mp hd
  exact ⟨rfl, Nat.zero_le _⟩
/-- != of data, or of two dicts that are equal -/
theorem op_neX {X : Cx} (hu : X.A.units + 64 < cLine) : OpR X (compareOp .NotEq) (fun x y H Q => rNeD X.K x y H Q ∨ rNeDA x y H Q) := by
  intro pins s σ H x y v u Q I rx ry h
  rcases h with h | h
  · exact op_neD hu pins s σ H x y v u Q I rx ry h
  · exact op_ne_dictA (by omega) pins s σ H x y v u Q I rx ry h

/-! ### things that are no arms -/
inductive Spoilt (K : PySem.W.Frag) (H : Hp) : V → Prop
  | list {a : Addr} {xs : List V} {ds : List PyData} (h : H a = some (.lst xs)) (n : ∀ x ∈ xs, NThing K H x) (z : xs.length ≤ 1000) (bad : isArmsL xs = false) (d : DpAll K H xs ds) (sh : ∀ d ∈ ds, Okd d) : Spoilt K H (.ref a)
  | other {x : V} {n : String} {d : PyData} (t : TyX K H x (.type n)) (k : kitB n "list" = some false) (dp : Dp K H x d) (sh : SeqAt.shaped d = true) : Spoilt K H x
  | dict {a : Addr} (h : H a = some (.dK [(.inl 0, .int 0)])) : Spoilt K H (.ref a)
theorem Spoilt.thing {K : PySem.W.Frag} {H : Hp} {x : V} (h : Spoilt K H x) : AThing K H x false := by
  cases h with
  | list h n z bad d sh =>
    have := AThing.list (K := K) h n z
    rw [bad] at this
    exact this
  | other t k d sh => exact .other t k
  | dict h => exact .other (.base (.dK h)) (by decide +kernel)
theorem spoilt_sm {K : PySem.W.Frag} {H H' : Hp} {x : V} (s : Sm H H') (h : Spoilt K H x) : Spoilt K H' x := by
  cases h with
  | list h n z bad d sh => exact .list (s.lst h) (fun x hx => nthing_sm s (n x hx)) z bad (dpAll_sm s _ _ d) sh
  | other t k d sh => exact .other (tyx_sm s t) k (dp_sm s _ _ d) sh
  | dict h => exact .dict (s _ _ (fun _ z => by cases z) h)
/-- one of the arms told otherwise -/
theorem isArms_set {xs : List V} {i : Nat} {v : V} (hi : i < xs.length) (h : numTo v (roomN i xs.length : Nat) = false) : isArmsL (xs.set i v) = false := by
  unfold isArmsL
  rw [List.length_set]
  cases c : (List.range xs.length).all (armOk (xs.set i v)) with
  | false => rw [Bool.and_false]
  | true =>
    have z := List.all_eq_true.mp c i (List.mem_range.mpr hi)
    unfold armOk at z
    rw [List.length_set, List.getD_eq_getElem?_getD, List.getElem?_set_self hi] at z
    have z : numTo v (roomN i xs.length : Nat) = true := z
    rw [h] at z
    cases z
def spSpoiltK (K : PySem.W.Frag) : Sp := fun vs H Q _ => ∃ (a : Addr) (t : List Nat) (c : Int), vs = [.ref a, .int c] ∧ H a = some (.lst ((armsL t).map nV)) ∧ t.length ≤ 30 ∧ ∀ H' x, Same H H' → Spoilt K H' x → Q x H'
def spRefA (K : PySem.W.Frag) : Sp := fun vs H Q _ => ∃ x, vs = [x] ∧ AThing K H x false ∧ ∀ H', Same H H' → Q (.bl true) H'
theorem modK (i : Int) {k : Nat} (hk : 0 < k) : ∃ j : Nat, i.fmod (k : Int) = (j : Int) ∧ j < k := by
  refine ⟨(i % (k : Int)).toNat, ?_, ?_⟩
  · rw [Int.fmod_eq_emod_of_nonneg _ (by omega)]
    have := Int.emod_nonneg i (show (k : Int) ≠ 0 by omega)
    omega
  · have h1 := Int.emod_nonneg i (show (k : Int) ≠ 0 by omega)
    have h2 := Int.emod_lt_of_pos i (show (0 : Int) < (k : Int) by omega)
    omega
end Mw
namespace Mw
open PySem PySem.Spec PyProof.Rows L2

/-! ### len(set(text)) -/
/-- the texts met at the first i places, each once, the last one met first -/
def met (val : Nat → Str) : Nat → List Str
  | 0 => []
  | i + 1 => if val i ∈ met val i then met val i else val i :: met val i
theorem met_len (val : Nat → Str) : ∀ i, (met val i).length ≤ i
  | 0 => Nat.le_refl _
  | i + 1 => by
    have ih := met_len val i
    show (if val i ∈ met val i then met val i else val i :: met val i).length ≤ i + 1
    split
    · omega
    · rw [List.length_cons]
      omega
section
variable {prog : Program} {w : World} {A : Around} {R : Result → Shared → Prop} {I : Addr} {fp wr : List Addr} {G : Array GenState → Array GenState → Prop} {n : Nat} {Pv : Nat → Value → Prop} {St : Nat → Shared → Prop}
abbrev MetAt (prog : Program) (w : World) (val : Nat → Str) (Z : Addr) (h : Heap) (i : Nat) : Prop := h.SetOf (PySem.strKind prog w) Z (fun k => decide (k ∈ met val i)) (met val i).length
theorem metAt_moved {val : Nat → Str} {Z : Addr} {i : Nat} {h h' : Heap} (k : ∀ o, h.get? Z = some o → h'.get? Z = some o) (m : MetAt prog w val Z h i) : MetAt prog w val Z h' i := by
  obtain ⟨o, es, ep, tb, e, more⟩ := m
  exact ⟨o, es, ep, tb, k o e, more⟩
theorem loop_txt (W : WalksS prog w A.in1 I fp wr G n Pv St) (Z : Addr) (nZ : Z ∉ fp) (val : Nat → Str) (hv : ∀ i v, Pv i v → ∃ t, v = .str (val i) t) (room : n + 1 < scanBound) :
    ∀ (left i : Nat) (s : Shared), i + left = n → St i s → MetAt prog w val Z s.heap i → (∀ s', Moved (Z :: wr) G s s' → MetAt prog w val Z s'.heap n → R (.ok (.ret .none)) s') →
      codeAny (model prog w) A (.builtin "set.update.loop" ⟨[.ref Z, .ref I], []⟩) R s
  | 0, i, s, e, st, m, fin => by
    have ei : i = n := by omega
    subst ei
    refine codeAny_builtin PyProof.Rows.F.entry_set_update_loop (?_ : wpAny _ _ _ _ _ _)
    rw [Around.under_plainId PyProof.Rows.F.plain_set_update_loop _]
    change wpAny _ A.in1 (pyNext (.ref I) >>= _) _ _ s
    refine wpAny_bind (W.done s _ _ st fun s2 mv => ?_)
    change wpAny _ A.in1 (ret Value.none) _ _ s2
    exact wpAny_pure (fin s2 (mv.mono fun b hb => List.mem_cons_of_mem _ hb) (metAt_moved (fun o q => mv.heap Z o (fun z => nZ (W.sub _ z)) q) m))
  | left + 1, i, s, e, st, m, fin => by
    have lt : i < n := by omega
    refine codeAny_builtin PyProof.Rows.F.entry_set_update_loop (?_ : wpAny _ _ _ _ _ _)
    rw [Around.under_plainId PyProof.Rows.F.plain_set_update_loop _]
    change wpAny _ A.in1 (pyNext (.ref I) >>= _) _ _ s
    refine wpAny_bind (W.item i s _ _ lt st fun v s2 pv st2 mv => ?_)
    obtain ⟨u, rfl⟩ := hv i v pv
    have m2 := metAt_moved (fun o q => mv.heap Z o (fun z => nZ (W.sub _ z)) q) m
    change wpAny _ A.in1 (holding [Value.str (val i) u] (setAdd Z (.str (val i) u)) >>= _) _ _ s2
    refine wpAny_bind (wpAny_holding (?_ : wpAny _ _ _ _ _ _))
    unfold setAdd
    refine wpAny_holding (wpAny_bind ((PySem.strKind prog w).pyHash (k := val i) (PySem.Froz.is_str _ _) ?_))
    have room2 : (met val i).length + 1 < scanBound := by
      have := met_len val i
      omega
    refine wpAny_setAddHashed_of (knd := PySem.strKind prog w) (s := { s2 with toks := s2.toks + 1 }) (PySem.Froz.is_str _ _) rfl m2 room2 fun h3 sb m3 => ?_
    have m4 : MetAt prog w val Z h3 (i + 1) := by
      refine PyProof.Rows.SetOf_congr m3 (fun k => ?_) ?_
      · show (decide (k ∈ met val i) || decide (k = val i)) = decide (k ∈ if val i ∈ met val i then met val i else val i :: met val i)
        by_cases c : val i ∈ met val i
        · rw [if_pos c]
          by_cases d : k = val i
          · rw [d, decide_eq_true c]
            rfl
          · rw [decide_eq_false d, Bool.or_false]
        · rw [if_neg c]
          by_cases d : k = val i
          · rw [d, decide_eq_true rfl, Bool.or_true, decide_eq_true List.mem_cons_self]
          · rw [decide_eq_false d, Bool.or_false]
            by_cases f : k ∈ met val i
            · rw [decide_eq_true f, decide_eq_true (List.mem_cons_of_mem _ f)]
            · rw [decide_eq_false f, decide_eq_false fun z => (List.mem_cons.mp z).elim d f]
      · show (if decide (val i ∈ met val i) = true then _ else _) = (if val i ∈ met val i then met val i else val i :: met val i).length
        by_cases c : val i ∈ met val i
        · rw [if_pos c, if_pos (decide_eq_true c)]
        · rw [if_neg c, if_neg (by rw [decide_eq_false c]; exact Bool.false_ne_true)]
          rfl
    have st3 := W.frame _ s2 h3 (s2.toks + 1) st2 (Nat.le_succ _) fun b hb o q => (sb.2 b fun z => nZ (by rw [← z]; exact hb)).trans q
    refine wpAny_pure ⟨plainId_quiet PyProof.Rows.F.plain_set_update_loop _, loop_txt W Z nZ val hv room left (i + 1) _ (by omega) st3 m4 fun s4 mv4 m5 => fin s4 ?_ m5⟩
    refine Moved.trans W.gtrans ((mv.mono fun b hb => List.mem_cons_of_mem _ hb).then_heap (Nat.le_succ _) fun b o hb q => ?_) mv4
    exact (sb.2 b fun z => hb (by rw [z]; exact List.mem_cons_self)).trans q
end
theorem no_set_str : isSubtype (.type "str") (.type "set") = pure false := by
  rw [isSubtype_type]
  kernel_rfl
theorem no_frozen_str : isSubtype (.type "str") (.type "frozenset") = pure false := by
  rw [isSubtype_type]
  kernel_rfl
theorem one_set (v : Value) : checkTypeCall "set" ⟨[v], []⟩ = pure () := by kernel_rfl
section
variable {prog : Program} {w : World} {A : Around} {E : Value → Shared → Prop} {s : Shared}
def sgn (x : Str) (i : Nat) : Str := ⟨#[x.cps.getD i 0]⟩
theorem call_set_txt {x : Str} {u : Tok} {Q : Value → Shared → Prop} (hh : A.handled = none) (hb : x.cps.size + 1 < scanBound)
    (hQ : ∀ (h' : Heap) (tk : Nat), MetAt prog w (sgn x) s.heap.objs.size h' x.cps.size → (∀ b o, b < s.heap.objs.size → s.heap.get? b = some o → h'.get? b = some o) → Q (.ref s.heap.objs.size) { s with heap := h', toks := tk }) :
    wpAny (model prog w) A (call (.type "set") [.str x u]) Q E s := by
  obtain ⟨c, tl, mro⟩ := PySem.F.called_set.mro
  have made := PySem.F.called_set.made
  have sub := PySem.F.called_set.sub
  refine wpAny_call (codeAny_of_tree (?_ : wpAny _ _ _ _ _ _))
  change wpAny _ _ (callAny (.type "set") _) _ _ _
  refine wpAny_pure ⟨Code.quiet_builtin _ (by decide +kernel), codeAny_builtin PySem.F.entry_type_call (?_ : wpAny _ _ _ _ _ _)⟩
  rw [Around.under_plain (weight_type_call_type "set" [.str x u] []) rfl]
  have g1 := PySem.F.called_set.notType
  have g2 := PySem.F.called_set.canCreate
  have g3 := one_set (.str x u)
  repeat (any_goals (first | assumption | wp_step))
  refine codeAny_mono (code_set_new_1 (.str x u) (E := E) (Q₁ := fun obj s₁ => ∃ led : Bool, obj = .ref s.heap.objs.size ∧ s₁ = { s with heap := s.heap.push { cls := .type "set", dict := none, data := .set #[] 0 (.fresh 0 0 led) } }) fun led => ⟨led, rfl, rfl⟩) fun r s1 hr => ?_
  cases r with
  | error e => exact hr
  | ok fl =>
    cases fl with
    | ret obj =>
      obtain ⟨led, rfl, rfl⟩ := hr
      have new : (s.heap.push { cls := .type "set", dict := none, data := .set #[] 0 (.fresh 0 0 led) }).get? s.heap.objs.size = some { cls := .type "set", dict := none, data := .set #[] 0 (.fresh 0 0 led) } := Heap.get?_push_size _ rfl
      have ty : Shared.TypeIs { s with heap := s.heap.push { cls := .type "set", dict := none, data := .set #[] 0 (.fresh 0 0 led) } } (.ref s.heap.objs.size) "set" := ⟨_, new, rfl⟩
      have g4 := PySem.F.called_set.init.lookup
      have g5 := PySem.F.called_set.init.bind (.ref s.heap.objs.size)
      repeat (any_goals (first | assumption | wp_step))
      refine codeAny_mono (codeAny_call_builtin (R := wants (fun r s2 => r = .none ∧ ∃ h' tk, s2 = { s with heap := h', toks := tk } ∧ MetAt prog w (sgn x) s.heap.objs.size h' x.cps.size ∧
          (∀ b o, b < s.heap.objs.size → s.heap.get? b = some o → h'.get? b = some o)) E) PySem.F.called_set.init.plain PySem.F.entry_set_init (check_set_init_1 ty ?_)) fun r2 s2 hr2 => ?_
      · have n1 := no_set_str
        have n2 := no_frozen_str
        have n3 : (Value.type "str" == Value.type "dict") = false := by decide
        unfold Builtin.«set.__init__» noKeywords Builtin.Frozenset.updateFrom
        generalize hPI : pyIter = PI
        wp_walk
        subst hPI
        refine wpAny_pyIter_str fun o St W st0 => ?_
        refine wpAny_bind (wpAny_runValue (?_ : codeAny _ _ _ _ _))
        have hh3 : A.in1.in1.in1.handled = none := by simp [hh]
        have sz : (s.heap.push { cls := .type "set", dict := none, data := .set #[] 0 (.fresh 0 0 led) }).objs.size = s.heap.objs.size + 1 := Heap.size_push _ _
        refine loop_txt (R := _) ((W A.in1.in1.in1 hh3).toS) s.heap.objs.size ?nz (sgn x) ?val hb x.cps.size 0 _ (Nat.zero_add _) st0 ?start ?fin
        case nz =>
          rw [sz]
          intro z
          have := List.mem_singleton.mp z
          exact absurd this (Nat.ne_of_lt (Nat.lt_succ_self _))
        case val =>
          rintro i v ⟨c, t, hc, rfl⟩
          refine ⟨t, ?_⟩
          have e : x.cps.getD i 0 = c := by
            rw [Array.getD_eq_getD_getElem?, hc]
            rfl
          unfold sgn
          rw [e]
        case start =>
          have at1 := Heap.get?_push_of_some o new
          exact PyProof.Rows.SetOf_congr ((PyProof.Rows.setObjOf_fresh (knd := PySem.strKind prog w) led).setOf at1 (by unfold scanBound; omega)) (fun _ => rfl) rfl
        case fin =>
          intro s3 mv m
          obtain ⟨h3, g, d, t3, os⟩ := s3
          obtain rfl : g = s.gens := mv.gens
          obtain rfl : d = s.drawn := mv.drawn
          obtain rfl : os = s.os := mv.os
          change wpAny _ _ _ _ _ _
          refine wpAny_pure (?_ : wpAny _ _ (ret Value.none) _ _ _)
          refine wpAny_pure ⟨rfl, h3, t3, rfl, m, fun b o hb e => ?_⟩
          refine mv.heap b _ (fun z => ?_) (Heap.get?_push_of_some _ (Heap.get?_push_of_some _ e))
          rcases List.mem_cons.mp z with z | z
          · exact absurd hb (by rw [z]; exact Nat.lt_irrefl _)
          · have z := List.mem_singleton.mp z
            rw [sz] at z
            rw [z] at hb
            exact absurd hb (Nat.not_lt_of_le (Nat.le_succ _))
      · cases r2 with
        | error e => exact hr2
        | ok fl2 =>
          cases fl2 with
          | ret r =>
            obtain ⟨rfl, h3, tk, rfl, m, kp⟩ := hr2
            repeat (any_goals (first | assumption | wp_step))
            exact hQ _ _ m kp
          | _ => exact hr2.elim
    | _ => exact hr.elim
end
/-- how many unlike letters a text has -/
def unlike (l : List Nat) : Nat := (met (sgn (T l)) l.length).length
def tLenSetS (ta : TE) : TE := fun σ H Q => ta σ H fun x H1 => ∃ l : List Nat, x = .str (T l) ∧ l.length ≤ 1000 ∧ Q (.int (unlike l : Nat)) H1
theorem pe_lenSetS {X : Cx} {a : Expr} {ta : TE} {p p2 q pos : Pos} (hg : Gl X "len") (hm : X.mg "len" = none) (hg2 : Gl X "set") (hm2 : X.mg "set" = none) (ha : PE X a ta) (hc : X.calm = true := by rfl)
    (na : starEach [a] X.env = (false, eval a X.env) :: starEach [] X.env := by rfl) : PE X (.Call (.Name "len" p) [.Call (.Name "set" p2) [a] [] q] [] pos) (tLenSetS ta) := by
  constructor
  intro pins s σ H Q I h
  refine Call_ (ld_blt I hg hm boot_len (PyProof.Rows.callWith_builtin1 (PyProof.Rows.args_cons ?_ rfl) rfl rfl))
  refine Call_ (ld_blt I hg2 hm2 boot_set (PyProof.Rows.callWith_type1 (PyProof.Rows.args_cons (thn (ha.run pins s σ H _ I h) fun v s1 hx => PyProof.Rows.args_nil ?_) na) na rfl))
  obtain ⟨x, H1, I1, r1, l, rfl, hl, q1⟩ := hx
  obtain ⟨u, rfl⟩ := r1
  have hsz : (T l).cps.size = l.length := T_len l
  refine call_set_txt (I1.ok.hd hc) (by rw [hsz]; unfold scanBound; omega) fun h3 tk m kp => PyProof.Rows.args_nil ?_
  rw [hsz] at m
  obtain ⟨o, es, ep, tb, ho, hex, hd, _, _, _, hf, hn⟩ := m
  have I2 : Inv X pins σ H1 { s1 with heap := h3, toks := tk } := I1.kept fun b o e => kp b o (Heap.lt_size e) e
  have lt := met_len (sgn (T l)) l.length
  exact call_len_set ho hex hd hf (by rw [hn]; omega) ⟨.int (unlike l : Nat), H1, I2.tok _, ⟨_, by rw [hn]; rfl⟩, q1⟩
end Mw
namespace Mw
open PySem PySem.Spec PyProof.Rows L2

/-! ### a text parted into as few mirror words as can be -/
def str (t : List Nat) (i j : Nat) : List Nat := (t.drop i).take (j - i)
def Ed (t : List Nat) (i j : Nat) : Prop := i < j ∧ j ≤ t.length ∧ pal (str t i j) = true
theorem pal_one (c : Nat) : pal [c] = true := by
  unfold pal
  exact decide_eq_true rfl
theorem str_one {t : List Nat} {i : Nat} (h : i < t.length) : str t i (i + 1) = [t[i]] := by
  unfold str
  rw [List.drop_eq_getElem_cons h, show i + 1 - i = 1 by omega]
  rfl
theorem ed_one {t : List Nat} {i : Nat} (h : i < t.length) : Ed t i (i + 1) := ⟨by omega, h, by rw [str_one h]; exact pal_one _⟩
/-- of those up to m that are let by: the last one of the least -/
theorem best_ex (E : Nat → Prop) (N : Nat → Nat) (i : Nat) : ∀ m, (∃ j, E j ∧ j ≤ m) → ∃ j, E j ∧ j ≤ m ∧ ∀ k, E k → k ≤ m → N j ≤ N k ∧ (j < k → N j < N k)
  | 0, ⟨j, h, hj⟩ => ⟨j, h, hj, fun k _ hk => by
    have e : k = j := by omega
    rw [e]
    exact ⟨Nat.le_refl _, fun z => absurd z (by omega)⟩⟩
  | m + 1, ⟨j, h, hj⟩ => by
    by_cases c : E (m + 1)
    · by_cases d : ∃ j, E j ∧ j ≤ m
      · obtain ⟨b, h1, h2, h3⟩ := best_ex E N i m d
        by_cases e : N (m + 1) ≤ N b
        · refine ⟨m + 1, c, Nat.le_refl _, fun k hk hm => ⟨?_, fun z => absurd z (by omega)⟩⟩
          by_cases f : k = m + 1
          · rw [f]
            exact Nat.le_refl _
          · have := (h3 k hk (by omega)).1
            omega
        · refine ⟨b, h1, by omega, fun k hk hm => ?_⟩
          by_cases f : k = m + 1
          · rw [f]
            exact ⟨by omega, fun _ => by omega⟩
          · exact h3 k hk (by omega)
      · refine ⟨m + 1, c, Nat.le_refl _, fun k hk hm => ?_⟩
        by_cases f : k = m + 1
        · rw [f]
          exact ⟨Nat.le_refl _, fun z => absurd z (by omega)⟩
        · exact absurd ⟨k, hk, by omega⟩ d
    · have : j ≤ m := by
        by_cases f : j = m + 1
        · rw [f] at h
          exact absurd h c
        · omega
      obtain ⟨b, h1, h2, h3⟩ := best_ex E N i m ⟨j, h, this⟩
      refine ⟨b, h1, by omega, fun k hk hm => ?_⟩
      by_cases f : k = m + 1
      · rw [f] at hk
        exact absurd hk c
      · exact h3 k hk (by omega)
/-- the first word's end -/
def Jp (t : List Nat) (N : Nat → Nat) (i j : Nat) : Prop := Ed t i j ∧ N i = 1 + N j ∧ ∀ k, Ed t i k → N j ≤ N k ∧ (j < k → N j < N k)
theorem need_ex (t : List Nat) : ∀ k, k ≤ t.length → ∃ N : Nat → Nat, N t.length = 0 ∧ ∀ i, t.length - k ≤ i → i < t.length → ∃ j, Jp t N i j
  | 0, _ => ⟨fun _ => 0, rfl, fun i h1 h2 => absurd h1 (by omega)⟩
  | k + 1, h => by
    obtain ⟨N, h0, hN⟩ := need_ex t k (by omega)
    have hi : t.length - (k + 1) < t.length := by omega
    obtain ⟨b, b1, b2, b3⟩ := best_ex (Ed t (t.length - (k + 1))) N 0 t.length ⟨_, ed_one hi, by omega⟩
    refine ⟨fun x => if x = t.length - (k + 1) then 1 + N b else N x, by show (if _ then _ else _) = 0; rw [if_neg (by omega)]; exact h0, fun i h1 h2 => ?_⟩
    have later : ∀ {i j}, t.length - (k + 1) ≤ i → Ed t i j → (if j = t.length - (k + 1) then 1 + N b else N j) = N j := fun {i j} h e => if_neg (by have := e.1; omega)
    by_cases c : i = t.length - (k + 1)
    · subst c
      refine ⟨b, b1, ?_, fun x hx => ?_⟩
      · show (if _ then _ else _) = 1 + (if _ then _ else _)
        rw [if_pos rfl, later (Nat.le_refl _) b1]
      · show (if _ then _ else _) ≤ (if _ then _ else _) ∧ (_ → (if _ then _ else _) < (if _ then _ else _))
        rw [later (Nat.le_refl _) b1, later (Nat.le_refl _) hx]
        exact b3 x hx hx.2.1
    · obtain ⟨j, j1, j2, j3⟩ := hN i (by omega) h2
      refine ⟨j, j1, ?_, fun x hx => ?_⟩
      · show (if _ then _ else _) = 1 + (if _ then _ else _)
        rw [if_neg c, later h1 j1]
        exact j2
      · show (if _ then _ else _) ≤ (if _ then _ else _) ∧ (_ → (if _ then _ else _) < (if _ then _ else _))
        rw [later h1 j1, later h1 hx]
        exact j3 x hx
noncomputable def need (t : List Nat) : Nat → Nat := Classical.choose (need_ex t t.length (Nat.le_refl _))
theorem need_end (t : List Nat) : need t t.length = 0 := (Classical.choose_spec (need_ex t t.length (Nat.le_refl _))).1
theorem need_jp (t : List Nat) {i : Nat} (h : i < t.length) : ∃ j, Jp t (need t) i j := (Classical.choose_spec (need_ex t t.length (Nat.le_refl _))).2 i (by omega) h
open Classical in
noncomputable def jmp (t : List Nat) (i : Nat) : Nat := if h : i < t.length then Classical.choose (need_jp t h) else i
theorem jmp_ok (t : List Nat) {i : Nat} (h : i < t.length) : Jp t (need t) i (jmp t i) := by
  unfold jmp
  rw [dif_pos h]
  exact Classical.choose_spec (need_jp t h)
theorem jp_one {t : List Nat} {i j k : Nat} (a : Jp t (need t) i j) (b : Jp t (need t) i k) : j = k := by
  have h1 := a.2.2 k b.1
  have h2 := b.2.2 j a.1
  rcases Nat.lt_trichotomy j k with h | h | h
  · have := h1.2 h
    omega
  · exact h
  · have := h2.2 h
    omega
noncomputable def prtF (t : List Nat) : Nat → Nat → List (List Nat)
  | 0, _ => []
  | f + 1, i => if i < t.length then str t i (jmp t i) :: prtF t f (jmp t i) else []
noncomputable def prt (t : List Nat) (i : Nat) : List (List Nat) := prtF t (t.length - i) i
theorem prtF_eq (t : List Nat) : ∀ (f i : Nat), t.length - i ≤ f → prtF t f i = prtF t (t.length - i) i := by
  intro f
  induction f with
  | zero =>
    intro i h
    have e : t.length - i = 0 := by omega
    rw [e]
  | succ f ih =>
    intro i h
    by_cases c : i < t.length
    · obtain ⟨k, hk⟩ : ∃ k, t.length - i = k + 1 := ⟨t.length - i - 1, by omega⟩
      rw [hk]
      show (if i < t.length then str t i (jmp t i) :: prtF t f (jmp t i) else []) = (if i < t.length then str t i (jmp t i) :: prtF t k (jmp t i) else [])
      rw [if_pos c, if_pos c]
      have hj := (jmp_ok t c).1.1
      by_cases e : k = f
      · rw [e]
      · have z := ih (jmp t i) (by omega)
        rw [z]
        have : ∀ g, t.length - jmp t i ≤ g → g ≤ f → prtF t g (jmp t i) = prtF t (t.length - jmp t i) (jmp t i) := by
          intro g
          induction g with
          | zero =>
            intro h1 _
            have e : t.length - jmp t i = 0 := by omega
            rw [e]
          | succ g ih2 =>
            intro h1 h2
            by_cases d : t.length - jmp t i = g + 1
            · rw [d]
            · by_cases e2 : g + 1 = f
              · rw [e2, ← z]
              · -- one more turn does not matter
                have w : ∀ (a b x : Nat), t.length - x ≤ a → t.length - x ≤ b → prtF t a x = prtF t b x := by
                  intro a
                  induction a with
                  | zero =>
                    intro b x h1 h2
                    have hx : ¬ x < t.length := by omega
                    cases b with
                    | zero => rfl
                    | succ b =>
                      show [] = (if x < t.length then _ else [])
                      rw [if_neg hx]
                  | succ a iha =>
                    intro b x h1 h2
                    by_cases hx : x < t.length
                    · cases b with
                      | zero => omega
                      | succ b =>
                        show (if x < t.length then _ else []) = (if x < t.length then _ else [])
                        rw [if_pos hx, if_pos hx]
                        have := (jmp_ok t hx).1.1
                        rw [iha b (jmp t x) (by omega) (by omega)]
                    · cases b with
                      | zero =>
                        show (if x < t.length then _ else []) = []
                        rw [if_neg hx]
                      | succ b =>
                        show (if x < t.length then _ else []) = (if x < t.length then _ else [])
                        rw [if_neg hx, if_neg hx]
                exact w _ _ _ h1 (Nat.le_refl _)
        rw [this k (by omega) (by omega)]
    · have e : t.length - i = 0 := by omega
      rw [e]
      show (if i < t.length then _ else []) = []
      rw [if_neg c]
theorem prt_end (t : List Nat) : prt t t.length = [] := by
  unfold prt
  rw [Nat.sub_self]
  rfl
theorem prt_step {t : List Nat} {i : Nat} (h : i < t.length) : prt t i = str t i (jmp t i) :: prt t (jmp t i) := by
  unfold prt
  obtain ⟨k, hk⟩ : ∃ k, t.length - i = k + 1 := ⟨t.length - i - 1, by omega⟩
  rw [hk]
  show (if i < t.length then str t i (jmp t i) :: prtF t k (jmp t i) else []) = _
  have := (jmp_ok t h).1.1
  rw [if_pos h, prtF_eq t k (jmp t i) (by omega)]
theorem prt_need (t : List Nat) : ∀ k, k ≤ t.length → (prt t (t.length - k)).length = need t (t.length - k) := by
  intro k
  induction k using Nat.strongRecOn with
  | ind k ih =>
    intro h
    by_cases c : k = 0
    · rw [c, Nat.sub_zero, prt_end, need_end]
      rfl
    · have hi : t.length - k < t.length := by omega
      obtain ⟨⟨a, b, _⟩, e, _⟩ := jmp_ok t hi
      rw [prt_step hi, List.length_cons, e]
      have z := ih (t.length - jmp t (t.length - k)) (by omega) (by omega)
      have y : t.length - (t.length - jmp t (t.length - k)) = jmp t (t.length - k) := by omega
      rw [y] at z
      omega
theorem prt_len {t : List Nat} {i : Nat} (h : i ≤ t.length) : (prt t i).length = need t i := by
  have z := prt_need t (t.length - i) (by omega)
  have e : t.length - (t.length - i) = i := by omega
  rw [e] at z
  exact z
theorem need_le (t : List Nat) : ∀ k, k ≤ t.length → need t (t.length - k) ≤ k := by
  intro k
  induction k using Nat.strongRecOn with
  | ind k ih =>
    intro h
    by_cases c : k = 0
    · rw [c, Nat.sub_zero, need_end]
      exact Nat.le_refl _
    · have hi : t.length - k < t.length := by omega
      obtain ⟨⟨a, b, _⟩, e, _⟩ := jmp_ok t hi
      have z := ih (t.length - jmp t (t.length - k)) (by omega) (by omega)
      have y : t.length - (t.length - jmp t (t.length - k)) = jmp t (t.length - k) := by omega
      rw [y] at z
      omega
theorem need_le' {t : List Nat} {i : Nat} (h : i ≤ t.length) : need t i ≤ t.length - i := by
  have z := need_le t (t.length - i) (by omega)
  have e : t.length - (t.length - i) = i := by omega
  rw [e] at z
  exact z
theorem prt_flat (t : List Nat) : ∀ k, k ≤ t.length → (prt t (t.length - k)).flatten = t.drop (t.length - k) := by
  intro k
  induction k using Nat.strongRecOn with
  | ind k ih =>
    intro h
    by_cases c : k = 0
    · rw [c, Nat.sub_zero, prt_end, List.drop_length]
      rfl
    · have hi : t.length - k < t.length := by omega
      obtain ⟨⟨a, b, _⟩, e, _⟩ := jmp_ok t hi
      rw [prt_step hi, List.flatten_cons]
      have z := ih (t.length - jmp t (t.length - k)) (by omega) (by omega)
      have y : t.length - (t.length - jmp t (t.length - k)) = jmp t (t.length - k) := by omega
      rw [y] at z
      rw [z]
      unfold str
      have w : t.drop (jmp t (t.length - k)) = (t.drop (t.length - k)).drop (jmp t (t.length - k) - (t.length - k)) := by
        rw [List.drop_drop]
        congr 1
        omega
      rw [w, List.take_append_drop]
theorem prt_flat0 (t : List Nat) : (prt t 0).flatten = t := by
  have z := prt_flat t t.length (Nat.le_refl _)
  rw [Nat.sub_self, List.drop_zero] at z
  exact z
/-- the ends of the mirror words that begin at i -/
def endsL (t : List Nat) (i : Nat) : List Nat := ((List.range (t.length - i)).map (i + 1 + ·)).filter fun j => pal (str t i j)
theorem mem_endsL {t : List Nat} {i j : Nat} : j ∈ endsL t i ↔ Ed t i j := by
  unfold endsL Ed
  rw [List.mem_filter, List.mem_map]
  constructor
  · rintro ⟨⟨k, h1, h2⟩, h3⟩
    have := List.mem_range.mp h1
    exact ⟨by omega, by omega, h3⟩
  · rintro ⟨h1, h2, h3⟩
    exact ⟨⟨j - i - 1, List.mem_range.mpr (by omega), by omega⟩, h3⟩
theorem endsL_len (t : List Nat) (i : Nat) : (endsL t i).length ≤ t.length := by
  unfold endsL
  refine Nat.le_trans (List.length_filter_le _ _) ?_
  rw [List.length_map, List.length_range]
  omega
theorem cut_str {t : List Nat} {i j : Nat} (h1 : i ≤ t.length) (h2 : j ≤ t.length) : cutS (T t) (some (i : Int)) (some (j : Int)) = T (str t i j) := by
  rw [cutS_T, HT.sIx_nat, HT.sIx_nat, Nat.min_eq_left h1, Nat.min_eq_left h2]
  rfl
theorem str_len {t : List Nat} {i j : Nat} : (str t i j).length ≤ t.length := by
  unfold str
  rw [List.length_take, List.length_drop]
  omega
theorem join_txt (ts : List (List Nat)) : Txt.join (Str.ofString "") (ts.map T) = T ts.flatten := by
  refine TL.ext_tl ?_
  rw [TL.join_eq, TL.tl_join, tl_T]
  have e : TL.tl (Str.ofString "") = [] := rfl
  rw [e]
  induction ts with
  | nil => rfl
  | cons c r ih =>
    cases r with
    | nil =>
      show c = c ++ []
      rw [List.append_nil]
    | cons d r =>
      show c ++ ([] ++ TL.joinL [] (((d :: r).map T).map TL.tl)) = c ++ (d :: r).flatten
      rw [ih]
      rfl
def spEndsF : Sp := fun vs H Q _ => ∃ (t : List Nat) (i : Nat), vs = [.str (T t), .int (i : Int)] ∧ t.length ≤ 200 ∧ i ≤ t.length ∧ ∀ H' p, Same H H' → H p = none → H' p = some (.lst ((endsL t i).map nV)) → Q (.ref p) H'
def spNeeded : Sp := fun vs H Q _ => ∃ t : List Nat, vs = [.str (T t)] ∧ t.length ≤ 200 ∧ ∀ (H' : Hp) (p : Addr) (M : List Nat), Same H H' → H p = none → H' p = some (.lst (M.map nV)) → M.length = t.length + 1 → (∀ x, x ≤ t.length → M[x]? = some (need t x)) → Q (.ref p) H'
def spFewest (K : PySem.W.Frag) (P BT : Addr) : Sp := fun vs H Q E => ∃ x, vs = [x] ∧ GxR.TabG H P ∧ Thing K H x ∧ (isT x = false → ∀ H', GxR.Tabbed P H H' → E (.ref BT) none H') ∧
  (isT x = true → ∀ l, x = .str (T l) → l.length ≤ 200 → ∀ H' p, Kp P H H' → H p = none → H' p = some (.lst ((prt l 0).map sV)) → Q (.ref p) H')
def spLFewest : Sp := fun vs H Q _ => ∃ t : List Nat, vs = [.str (T t)] ∧ t.length ≤ 200 ∧ ∀ H' p, Same H H' → H' p = some (.lst ((prt t 0).map sV)) → Q (.ref p) H'
/-- texts as data -/
def dS (l : List Nat) : PyData := .str (T l)
theorem dp_txts {K : PySem.W.Frag} {H : Hp} : ∀ ts : List (List Nat), DpAll K H (ts.map sV) (ts.map dS)
  | [] => .nil
  | t :: r => .cons (.str _) (dp_txts r)
theorem strOk_az {t : List Nat} (h : t.all az = true) : (dS t).canLay0 = true := by
  show (t.toArray).all (· < 0x110000) = true
  rw [List.all_toArray, List.all_eq_true]
  intro c hc
  have z := List.all_eq_true.mp h c hc
  unfold az at z
  rw [Bool.and_eq_true, decide_eq_true_eq, decide_eq_true_eq] at z
  exact decide_eq_true (by omega)
theorem okd_txts {ts : List (List Nat)} (h : ∀ t ∈ ts, t.all az = true) : ∀ d ∈ ts.map dS, Okd d := fun d hd => by
  obtain ⟨t, ht, rfl⟩ := List.mem_map.mp hd
  exact ⟨strOk_az (h t ht), Nat.zero_le _⟩
theorem prt_az {t : List Nat} (h : t.all az = true) {i : Nat} (hi : i ≤ t.length) : ∀ w ∈ prt t i, w.all az = true := fun w hw => by
  have z := prt_flat t (t.length - i) (by omega)
  have e : t.length - (t.length - i) = i := by omega
  rw [e] at z
  rw [List.all_eq_true] at h ⊢
  intro c hc
  have m : c ∈ (prt t i).flatten := List.mem_flatten.mpr ⟨w, hw, hc⟩
  rw [z] at m
  exact h c (List.mem_of_mem_drop m)
theorem txts_eq {K : PySem.W.Frag} {ts : List (List Nat)} (h : ∀ t ∈ ts, t.all az = true) : PyData.eqv (.list (ts.map dS)) (.list (ts.map dS)) = true :=
  SeqAt.eqv_refl _ (SeqAt.canLay_of_shaped (shaped_list (okd_txts h)))
end Mw
namespace Mw
open PySem PySem.Spec PyProof.Rows L2
end Mw
namespace Mw
open PySem PySem.Spec PyProof.Rows L2
def topS (i : Nat) : Stmt := PySem.Challenge.pw_mirrorwords_k04_whole_least_of_all_texts.main.body.getD i (.Pass ⟨0, 0, 0, 0⟩)
abbrev sArmAt : Stmt := topS 11 -- arm_at
abbrev sNumTo : Stmt := topS 13 -- is_number_to
abbrev sIsArms : Stmt := topS 16 -- is_arms
abbrev sAreMid : Stmt := topS 17 -- are_middles
abbrev sRoom : Stmt := topS 18 -- room_at
abbrev sLeast : Stmt := topS 19 -- least_text
abbrev sNext : Stmt := topS 20 -- next_letter
abbrev sDraw : Stmt := topS 22 -- _law_draw
abbrev sLArms : Stmt := topS 23 -- _law_arms
abbrev sLAll : Stmt := topS 24 -- _law_all
abbrev sLMost : Stmt := topS 25 -- _law_most
abbrev sLSaid : Stmt := topS 26 -- _law_said
abbrev sLaw : Stmt := topS 27 -- law
end Mw
namespace Mw
open PySem PySem.Spec PyProof.Rows L2
theorem scArmAt : FnScope ["text", "middle", "left", "right", "arm"] ["text", "middle"] (defScope sArmAt) := ⟨rfl, rfl, rfl, by decide +kernel, rfl, by decide +kernel, by decide +kernel⟩
section
variable {Pr : Program} {w : World} {K : PySem.W.Frag} {mg : Str → Option Value} {base : Heap}
theorem ok_armAt {f : Addr} {fd : FuncData} (F : Fun K "arm_at" "arm_at" sArmAt f fd) (ml : mg "len" = none) : FnOk Pr w K mg base CX0 1 f fd ["text", "middle"] spArmAt := by
  refine F.ok scArmAt (fun vs H Q E h => ?_) (fun cdv A outer s H vs Q E hr h => ?_)
  · obtain ⟨l, m, rfl, _⟩ := h
    rfl
  · obtain ⟨l, m, rfl, hl, q⟩ := h
    refine ⟨_, pss_cons (ps_set (i := 2) scArmAt.nd rfl (.inl rfl) (pe_op op_fdivN (pe_op op_sub (pv 1) pe_int) pe_int))
      (pss_cons (ps_set (i := 3) scArmAt.nd rfl (.inl rfl) (pe_op op_add (pe_op op_fdivN (pv 1) pe_int) pe_int))
      (pss_cons (ps_set (i := 4) scArmAt.nd rfl (.inl rfl) pe_int)
      (pss_cons (ps_while PassesOwn.never (PW.pt (pw_and (pt_cmpR op_ge (pv 2) pe_int (nomark _)) (pw_and (pt_cmpR op_lt (pv 3) (pe_callB call_len_str (by rfl) ml PySem.boot_len (pa_cons (pv 0) pa_nil)) (nomark _))
          (pw_and1 (pt_cmpR op_eq (pe_ix ix_str (pv 0) (pv 2) (fun _ _ => rfl)) (pe_ix ix_str (pv 0) (pv 3) (fun _ _ => rfl)) (nomark _))))))
        (pss_cons (ps_aug (i := 4) scArmAt.nd rfl (.inl rfl) pe_int ip_add) (pss_cons (ps_aug (i := 2) scArmAt.nd rfl (.inl rfl) pe_int ip_sub) (pss_one (ps_aug (i := 3) scArmAt.nd rfl (.inl rfl) pe_int ip_add)))))
      (pss_one (ps_ret (pv 4)))))), ?_⟩
    refine ⟨_, rfl, _, 1, rfl, rfl, (m : Int) - 1, 2, rfl, rfl, ⟨by decide, by decide⟩, ?_⟩
    refine ⟨_, rfl, (m : Int), 2, rfl, rfl, ⟨by decide, by decide⟩, (m : Int).fdiv 2, 1, rfl, rfl, ?_⟩
    have eL : ((m : Int) - 1).fdiv 2 = (((m + 1) / 2 : Nat) : Int) - 1 := by
      rw [Int.fdiv_eq_ediv_of_nonneg _ (by decide)]
      omega
    have eR : (m : Int).fdiv 2 = ((m / 2 : Nat) : Int) := by
      rw [Int.fdiv_eq_ediv_of_nonneg _ (by decide)]
      omega
    refine ⟨fun n σ H' => H' = H ∧ ∃ k : Nat, σ = [some (.str (T l)), some (.int (m : Int)), some (.int ((((m + 1) / 2 : Nat) : Int) - 1 - k)), some (.int (((m / 2 : Nat) : Int) + 1 + k)), some (.int (k : Int))] ∧ k + n = l.length + 1 ∧ ∀ j, j < k → okAt l m j = true,
      ⟨l.length + 1, rfl, 0, ?_, by omega, fun j h => absurd h (by omega)⟩, fun n σ H' hW => ?_⟩
    · show [some (V.str (T l)), some (V.int (m : Int)), some (V.int (((m : Int) - 1).fdiv 2)), some (V.int ((m : Int).fdiv 2 + 1)), some (V.int 0)] = _
      rw [eL, eR]
      simp
    obtain ⟨rfl, k, rfl, hn, hk⟩ := hW
    have hkl : k ≤ l.length := by
      cases k with
      | zero => exact Nat.zero_le _
      | succ i =>
        have := okAt_lt (hk i (Nat.lt_succ_self _))
        omega
    have done : okAt l m k = false → Q (.int ((armL l m : Nat) : Int)) H' → Q (.int (k : Int)) H' := fun z q => by
      rw [armL_of hk z] at q
      exact q
    refine ⟨_, rfl, _, 0, rfl, rfl, _, rfl, ?_⟩
    by_cases c1 : k + 1 ≤ (m + 1) / 2
    · rw [decide_eq_true (show (0 : Int) ≤ (((m + 1) / 2 : Nat) : Int) - 1 - k by omega)]
      refine iteT ⟨_, rfl, _, rfl, T l, rfl, by rw [T_len]; exact small200 hl, _, _, rfl, rfl, _, rfl, ?_⟩
      by_cases c2 : m / 2 + 1 + k < l.length
      · rw [decide_eq_true (show ((m / 2 : Nat) : Int) + 1 + k < ((T l).length : Int) by rw [T_len]; omega)]
        have h1 : (m + 1) / 2 - (k + 1) < l.length := by omega
        have a1 : atI (T l).cps.toList ((((m + 1) / 2 : Nat) : Int) - 1 - k) = some l[(m + 1) / 2 - (k + 1)] := by
          have e : ((((m + 1) / 2 : Nat) : Int) - 1 - k) = (((m + 1) / 2 - (k + 1) : Nat) : Int) := by omega
          rw [e]
          exact atI_nat (List.getElem?_eq_getElem h1)
        have a2 : atI (T l).cps.toList (((m / 2 : Nat) : Int) + 1 + k) = some l[m / 2 + 1 + k] := by
          have e : (((m / 2 : Nat) : Int) + 1 + k) = ((m / 2 + 1 + k : Nat) : Int) := by omega
          rw [e]
          exact atI_nat (List.getElem?_eq_getElem c2)
        refine iteT ⟨_, rfl, _, rfl, T l, _, _, rfl, rfl, by rw [T_len]; exact small200 hl, a1, _, rfl, _, rfl, T l, _, _, rfl, rfl, by rw [T_len]; exact small200 hl, a2, rfl, _, rfl, ?_⟩
        rw [sgn_dec]
        have ok : okAt l m k = decide (l[(m + 1) / 2 - (k + 1)] = l[m / 2 + 1 + k]) := by
          unfold okAt
          rw [decide_eq_true c1, decide_eq_true c2, Bool.true_and, Bool.true_and, List.getElem?_eq_getElem h1, List.getElem?_eq_getElem c2]
          by_cases z : l[(m + 1) / 2 - (k + 1)] = l[m / 2 + 1 + k]
          · rw [z, decide_eq_true rfl]
            exact beq_self_eq_true _
          · rw [decide_eq_false z]
            exact beq_eq_false_iff_ne.mpr fun y => z (Option.some.inj y)
        by_cases c3 : l[(m + 1) / 2 - (k + 1)] = l[m / 2 + 1 + k]
        · rw [decide_eq_true c3] at ok ⊢
          refine iteT ⟨fun σ' H2 => H2 = H' ∧ σ' = [some (.str (T l)), some (.int (m : Int)), some (.int ((((m + 1) / 2 : Nat) : Int) - 1 - (k + 1 : Nat))), some (.int (((m / 2 : Nat) : Int) + 1 + (k + 1 : Nat))), some (.int ((k + 1 : Nat) : Int))], fun σ' H2 hN => ?_, ?_⟩
          · obtain ⟨e1, e2⟩ := hN
            refine ⟨n - 1, by omega, e1, k + 1, e2, by omega, fun j hj => ?_⟩
            by_cases z : j = k
            · rw [z]
              exact ok
            · exact hk j (by omega)
          · refine ⟨_, rfl, _, _, rfl, rfl, _, rfl, _, _, rfl, rfl, _, rfl, _, _, rfl, rfl, rfl, ?_⟩
            show [some (V.str (T l)), some (.int (m : Int)), some (.int ((((m + 1) / 2 : Nat) : Int) - 1 - k - 1)), some (.int (((m / 2 : Nat) : Int) + 1 + k + 1)), some (.int ((k : Int) + 1))] = _
            have e1 : ((((m + 1) / 2 : Nat) : Int) - 1 - k - 1) = (((m + 1) / 2 : Nat) : Int) - 1 - (k + 1 : Nat) := by omega
            have e2 : (((m / 2 : Nat) : Int) + 1 + k + 1) = ((m / 2 : Nat) : Int) + 1 + (k + 1 : Nat) := by omega
            have e3 : ((k : Int) + 1) = ((k + 1 : Nat) : Int) := by omega
            rw [e1, e2, e3]
        · rw [decide_eq_false c3] at ok ⊢
          exact iteF ⟨_, rfl, done ok q⟩
      · rw [decide_eq_false (show ¬ ((m / 2 : Nat) : Int) + 1 + k < ((T l).length : Int) by rw [T_len]; omega)]
        refine iteF (iteF ⟨_, rfl, done ?_ q⟩)
        unfold okAt
        rw [decide_eq_false c2, Bool.false_and, Bool.and_false]
    · rw [decide_eq_false (show ¬ (0 : Int) ≤ (((m + 1) / 2 : Nat) : Int) - 1 - k by omega)]
      refine iteF (iteF ⟨_, rfl, done ?_ q⟩)
      unfold okAt
      rw [decide_eq_false c1, Bool.false_and]
end
end Mw
namespace Mw
open PySem PySem.Spec PyProof.Rows L2

/-! ### whole numbers up to one -/
theorem scNumTo : FnScope ["thing", "most"] ["thing", "most"] (defScope sNumTo) := ⟨rfl, rfl, rfl, by decide +kernel, rfl, by decide +kernel, by decide +kernel⟩
section
variable {Pr : Program} {w : World} {K : PySem.W.Frag} {mg : Str → Option Value} {base : Heap}
theorem ok_numTo {f : Addr} {fd : FuncData} (F : Fun K "is_number_to" "is_number_to" sNumTo f fd) (mi : mg "isinstance" = none) (mI : mg "int" = none) (mB : mg "bool" = none) : FnOk Pr w K mg base CX0 1 f fd ["thing", "most"] (spNumTo K) := by
  refine F.ok scNumTo (fun vs H Q E h => ?_) (fun cdv A outer s H vs Q E hr h => ?_)
  · obtain ⟨x, m, rfl, _⟩ := h
    rfl
  · obtain ⟨x, m, rfl, th, q⟩ := h
    refine ⟨_, pss_one (ps_ret (pe_and (pe_callB call_isi (by rfl) mi boot_isinstance (pa_cons (pv 0) (pa_cons (pe_bltn (v := .ty "int") (by rfl) mI PyProof.Rows.boot_int rfl) pa_nil)))
      (pe_and (pe_not (pe_callB call_isi (by rfl) mi boot_isinstance (pa_cons (pv 0) (pa_cons (pe_bltn (v := .ty "bool") (by rfl) mB PyProof.Rows.boot_bool rfl) pa_nil))))
      (pe_one (pe_chain op_le op_le pe_int (pv 0) (pv 1)))))), ?_⟩
    cases th with
    | other t k no =>
      refine ⟨x, rfl, x, .ty "int", _, _, false, rfl, .ty _, t, kit_ty k, false, rfl, iteF ?_⟩
      rw [numTo_no no] at q
      exact q
    | bl b =>
      exact ⟨_, rfl, _, .ty "int", _, _, true, rfl, .ty _, .base (.bl b), kit_ty (by decide +kernel), true, rfl, iteT ⟨_, rfl, _, .ty "bool", _, _, true, rfl, .ty _, .base (.bl b), kit_ty (by decide +kernel), true, rfl, false, rfl, iteF q⟩⟩
    | int i =>
      refine ⟨_, rfl, _, .ty "int", _, _, true, rfl, .ty _, .base (.int i), kit_ty (by decide +kernel), true, rfl, iteT ⟨_, rfl, _, .ty "bool", _, _, false, rfl, .ty _, .base (.int i), kit_ty (by decide +kernel), false, rfl, true, rfl, iteT ?_⟩⟩
      refine ⟨_, rfl, 0, i, rfl, rfl, _, rfl, ?_⟩
      have q : Q (.bl (decide (0 ≤ i) && decide (i ≤ m))) H := q
      by_cases h : 0 ≤ i
      · rw [decide_eq_true h] at q ⊢
        exact iteT ⟨_, rfl, i, m, rfl, rfl, q⟩
      · rw [decide_eq_false h] at q ⊢
        exact iteF q
end
end Mw
namespace Mw
open PySem PySem.Spec PyProof.Rows L2

/-! ### lists of arms -/
theorem scMids : FnScope ["many"] ["many"] (defScope sAreMid) := ⟨rfl, rfl, rfl, by decide +kernel, rfl, by decide +kernel, by decide +kernel⟩
theorem scRoom : FnScope ["middle", "many"] ["middle", "many"] (defScope sRoom) := ⟨rfl, rfl, rfl, by decide +kernel, rfl, by decide +kernel, by decide +kernel⟩
abbrev nIsArms : List Str := ["thing", "middle", "arm"]
theorem scIsArms : FnScope nIsArms ["thing"] (defScope sIsArms) := ⟨rfl, rfl, rfl, by decide +kernel, rfl, by decide +kernel, by decide +kernel⟩
section
variable {Pr : Program} {w : World} {K : PySem.W.Frag} {mg : Str → Option Value} {base : Heap} {fN fM fR : Addr} {dN dM dR : FuncData}
theorem ok_mids {f : Addr} {fd : FuncData} {tm : Tok} (F : Fun K "are_middles" "are_middles" sAreMid f fd) (mm : mg "MOST" = some (.int 200 tm)) : FnOk Pr w K mg base CX0 1 f fd ["many"] spMids := by
  refine F.ok scMids (fun vs H Q E h => ?_) (fun cdv A outer s H vs Q E hr h => ?_)
  · obtain ⟨n, rfl, _⟩ := h
    rfl
  · obtain ⟨n, rfl, q⟩ := h
    refine ⟨_, pss_one (ps_ret (pe_or (pe_cmpR op_eq (pv 0) pe_int (nomark _)) (pe_one (pe_and (pe_cmpR op_eq (pe_op op_mod (pv 0) pe_int) pe_int (nomark _))
      (pe_one (pe_cmpR op_lt (pv 0) (pe_op op_mul pe_int (pe_glob (v := .int 200) (by rfl) mm ⟨_, rfl⟩)) (nomark _))))))), ?_⟩
    have e0 : decide (V.int (n : Int) = V.int 0) = decide (n = 0) := dec_nat n 0
    refine ⟨_, rfl, rfl, _, rfl, ?_⟩
    rw [e0]
    unfold midsB at q
    by_cases c : n = 0
    · rw [decide_eq_true c] at q ⊢
      exact iteT q
    · rw [decide_eq_false c] at q ⊢
      refine iteF ⟨_, rfl, (n : Int), 2, rfl, rfl, show (0 : Int) < 2 by decide, rfl, _, rfl, ?_⟩
      have e1 : decide (V.int ((n : Int) % 2) = V.int 1) = decide (n % 2 = 1) := dec_nat (n % 2) 1
      show if decide (V.int ((n : Int) % 2) = V.int 1) = true then _ else _
      rw [e1]
      by_cases d : n % 2 = 1
      · rw [decide_eq_true d] at q ⊢
        refine iteT ⟨_, rfl, 2, 200, rfl, rfl, .inl ⟨by decide, by decide⟩, _, _, rfl, rfl, ?_⟩
        have e2 : decide ((n : Int) < 2 * 200) = decide (n < 400) := by
          by_cases y : n < 400
          · rw [decide_eq_true y, decide_eq_true (by omega)]
          · rw [decide_eq_false y, decide_eq_false (by omega)]
        show Q (.bl (decide ((n : Int) < 2 * 200))) H
        rw [e2]
        exact q
      · rw [decide_eq_false d] at q ⊢
        exact iteF q
theorem ok_room {f : Addr} {fd : FuncData} (F : Fun K "room_at" "room_at" sRoom f fd) (mn : mg "min" = none) : FnOk Pr w K mg base CX0 1 f fd ["middle", "many"] spRoom := by
  refine F.ok scRoom (fun vs H Q E h => ?_) (fun cdv A outer s H vs Q E hr h => ?_)
  · obtain ⟨m, n, rfl, _⟩ := h
    rfl
  · obtain ⟨m, n, rfl, hmn, q⟩ := h
    refine ⟨_, pss_one (ps_ret (pe_op op_fdiv (pe_callB (call_min2 rfl) (by rfl) mn (by decide +kernel) (pa_cons (pe_op op_add (pv 0) pe_int) (pa_cons (pe_op op_sub (pv 1) (pv 0)) pa_nil))) pe_int)), ?_⟩
    refine ⟨_, rfl, _, 1, rfl, rfl, _, rfl, _, rfl, _, _, rfl, rfl, (m : Int) + 1, (n : Int) - m, rfl, _, 2, rfl, rfl, show CDiv _ 2 from ⟨by decide, by decide⟩, ?_⟩
    have e : (if (n : Int) - m < (m : Int) + 1 then (n : Int) - m else (m : Int) + 1) / 2 = ((roomN m n : Nat) : Int) := by
      unfold roomN
      by_cases c : (n : Int) - m < (m : Int) + 1
      · rw [if_pos c, Nat.min_eq_right (by omega)]
        omega
      · rw [if_neg c, Nat.min_eq_left (by omega)]
        omega
    show Q (.int ((if (n : Int) - m < (m : Int) + 1 then (n : Int) - m else (m : Int) + 1) / 2)) H
    rw [e]
    exact q
theorem ok_isArms {f : Addr} {fd : FuncData} (F : Fun K "is_arms" "is_arms" sIsArms f fd) (FN : Fn Pr w K mg base CX0 1 "is_number_to" fN dN ["thing", "most"] (spNumTo K)) (FM : Fn Pr w K mg base CX0 1 "are_middles" fM dM ["many"] spMids)
    (FR : Fn Pr w K mg base CX0 1 "room_at" fR dR ["middle", "many"] spRoom) (mi : mg "isinstance" = none) (mL : mg "list" = none) (ml : mg "len" = none) (ma : mg "all" = none) (me : mg "enumerate" = none) : FnOk Pr w K mg base CX0 2 f fd ["thing"] (spIsArms K) := by
  refine F.ok scIsArms (fun vs H Q E h => ?_) (fun cdv A outer s H vs Q E hr h => ?_)
  · obtain ⟨x, b, rfl, _⟩ := h
    rfl
  · obtain ⟨x, b, rfl, th, q⟩ := h
    refine ⟨_, pss_one (ps_ret (pe_and (pe_callB call_isi (by rfl) mi boot_isinstance (pa_cons (pv 0) (pa_cons (pe_bltn (v := .ty "list") (by rfl) mL PyProof.Rows.boot_list rfl) pa_nil)))
      (pe_and (pe_call FM.ok hr (by rfl) FM.g FM.k FM.b .nil pass0 (pa_cons (pe_callB call_len_seq (by rfl) ml PySem.boot_len (pa_cons (pv 0) pa_nil)) pa_nil))
      (pe_one (pe_callB (cr_all rfl) (by rfl) ma (by decide +kernel) (pa_cons (pe_lc (own := [("middle", 1), ("arm", 2)]) (g := gTup K 2 (gCons (gName 1) (gCons (gName 2) gNil))) (tt := tYes) rfl scIsArms.nd
          (pi_enum (by rfl) me (pa_cons (pv 0) pa_nil)) (blkOk_by (own := [("middle", 1), ("arm", 2)]) (N := nIsArms) (sc := defScope sIsArms) (by decide +kernel))
          (fun _ _ _ _ _ => pg_tup (by rfl) (pgs_cons (pg_name (i := 1) scIsArms.nd rfl (Or.inl rfl)) (pgs_cons (pg_name (i := 2) scIsArms.nd rfl (Or.inl rfl)) pgs_nil))) (fun _ _ _ _ _ => pts_nil)
          (fun _ _ _ _ _ => pe_call FN.ok hr (by rfl) FN.g FN.k FN.b .nil pass0 (pa_cons (pv 2) (pa_cons (pe_call FR.ok hr (by rfl) FR.g FR.k FR.b .nil pass0 (pa_cons (pv 1) (pa_cons (pe_callB (r := rLenSeq K) call_len_seq (by rfl) ml PySem.boot_len (pa_cons (pv 0) pa_nil)) pa_nil))) pa_nil))))
          pa_nil)))))), ?_⟩
    cases th with
    | other t k => exact ⟨x, rfl, x, .ty "list", _, _, false, rfl, .ty _, t, kit_ty k, false, rfl, iteF (q H fun _ _ h => h)⟩
    | @list a xs h n z =>
      refine ⟨_, rfl, _, .ty "list", _, _, true, rfl, .ty _, .base (.lst h), kit_ty (by decide +kernel), true, rfl, iteT ?_⟩
      refine ⟨_, rfl, a, _, rfl, .inl (.inl (.inl h)), xs.length, rfl, _, rfl, ?_⟩
      unfold isArmsL at q
      cases c : midsB xs.length with
      | false =>
        rw [c] at q
        exact iteF (q H fun _ _ h => h)
      | true =>
        rw [c, Bool.true_and] at q
        refine iteT ⟨_, rfl, a, xs, rfl, .inl (.inl h), fun D hD => ?_⟩
        have hDa : D ≠ a := (ne_of_none h hD).symm
        refine lc_it (walk_enum (K := K) (a := a) (xs := xs)) (fun i H' => Same H H' ∧ H' D = some (.lst (((List.range i).map (armOk xs)).map V.bl))) ⟨same_upd hD, upd_same⟩ (fun i H' _ hW => .inl (.inl (hW.1 _ _ h)))
          (fun i v H' H2 hi hW hy => ?_) (fun H' hW => ?_)
        · obtain ⟨sm, hd⟩ := hW
          obtain ⟨T, x1, x2, rfl, hT, rfl, e1, e2⟩ := hy
          cases Option.some.inj e1
          have s2 : Same H (upd H' T (.tup [.int (i : Nat), x2])) := sm.trans (same_upd hT)
          have hd2 : (upd H' T (.tup [.int (i : Nat), x2])) D = some (.lst (((List.range i).map (armOk xs)).map V.bl)) := by
            rw [upd_ne (ne_of_none hd hT)]
            exact hd
          have hT2 : (upd H' T (.tup [.int (i : Nat), x2])) T = some (.tup [.int (i : Nat), x2]) := upd_same
          generalize upd H' T (.tup [.int (i : Nat), x2]) = H3 at *
          have e2 : xs[i]? = some x2 := e2
          have ex : xs.getD i .non = x2 := by
            rw [List.getD_eq_getElem?_getD, e2]
            rfl
          refine ⟨T, _, rfl, .inl (.inl hT2), rfl, _, _, rfl, _, _, rfl, rfl, rfl, ?_⟩
          refine ⟨_, rfl, _, rfl, _, rfl, a, _, rfl, .inl (.inl (.inl (s2 _ _ h))), i, xs.length, rfl, by omega, x2, _, rfl, (n x2 (List.mem_of_getElem? e2)).same s2, _, hd2, ?_, fun b u e => ?_, ?_⟩
          · rw [List.length_map, List.length_map, List.length_range]
            exact small1000 (by omega)
          · rw [upd_ne (ne_of_none e hD)]
            exact s2 b u e
          · rw [upd_same, List.range_succ, List.map_append, List.map_append]
            show _ = some (HO.lst (_ ++ [V.bl (armOk xs i)]))
            unfold armOk
            rw [ex]
        · obtain ⟨sm, hd⟩ := hW
          refine ⟨D, _, rfl, .inl (.inl hd), ?_⟩
          have e : ((List.range xs.length).map (armOk xs)).all id = (List.range xs.length).all (armOk xs) := by
            rw [List.all_map]
            rfl
          rw [e]
          exact q H' sm
end
end Mw
namespace Mw
open PySem PySem.Spec PyProof.Rows L2

/-! ### the next letter -/
abbrev nNext : List Str := ["text", "arms", "place", "barred", "middle", "across", "stop", "letter"]
theorem scNext : FnScope nNext ["text", "arms"] (defScope sNext) := ⟨rfl, rfl, rfl, by decide +kernel, rfl, by decide +kernel, by decide +kernel⟩
section
variable {Pr : Program} {w : World} {K : PySem.W.Frag} {mg : Str → Option Value} {base : Heap}
theorem ok_next {f : Addr} {fd : FuncData} {tl : Tok} (F : Fun K "next_letter" "next_letter" sNext f fd) (ml : mg "len" = none) (mr : mg "range" = none) (mn : mg "min" = none) (gL : mg "LETTERS" = some (.str "abcdefghijklmnopqrstuvwxyz" tl)) :
    FnOk Pr w K mg base CX0 1 f fd ["text", "arms"] (spNext K) := by
  refine F.ok scNext (fun vs H Q E h => ?_) (fun cdv A outer s H vs Q E hr h => ?_)
  · obtain ⟨g, rs, a, rfl, _⟩ := h
    rfl
  · obtain ⟨g, rs, a, rfl, hS, hg, hrs, left, q⟩ := h
    refine ⟨_, pss_cons (ps_set (i := 2) scNext.nd rfl (.inl rfl) (pe_callB call_len_str (by rfl) ml PySem.boot_len (pa_cons (pv 0) pa_nil))) <|
      pss_cons (ps_set (i := 3) scNext.nd rfl (.inr rfl) (pe_lst pa_nil)) <|
      pss_cons (ps_for PassesOwn.never rfl (pi_range2 (by rfl) mr (pa_cons (pv 2) (pa_cons (pe_op op_mul pe_int (pv 2)) pa_nil))) (pg_name (i := 4) scNext.nd rfl (.inl rfl))
        (pss_cons (ps_set (i := 5) scNext.nd rfl (.inl rfl) (pe_ix ix_str (pv 0) (pe_op op_sub (pv 4) (pv 2)) (fun _ _ => rfl))) <|
        pss_cons (ps_set (i := 6) scNext.nd rfl (.inl rfl) (pe_op op_add (pe_op op_add (pe_op op_fdivN (pv 4) pe_int) pe_int) (pe_ix ix_list (pv 1) (pv 4) (fun _ _ => rfl)))) <|
        pss_cons (ps_if (pt_cmpR op_gt (pv 6) (pv 2) (nomark _)) (pss_one (ps_ret (pv 5))) pss_nil) <|
        pss_one (ps_if (pt_cmpR op_eq (pv 6) (pv 2) (nomark _)) (pss_one (ps_expr (pe_bm PySem.F.plainAttrs_list PySem.F.slot_list_append PySem.F.type_list_append mt_append (pv 3) (pa_cons (pv 5) pa_nil)))) pss_nil))) <|
      pss_one (ps_ret (pe_callB (cr_minS rfl) (by rfl) mn (by decide +kernel) (pa_cons (pe_lc (own := [("letter", 7)]) (g := gName 7) rfl scNext.nd (pi_str (pe_glob (v := .str "abcdefghijklmnopqrstuvwxyz") (by rfl) gL ⟨_, rfl⟩))
        (blkOk_by (own := [("letter", 7)]) (N := nNext) (sc := defScope sNext) (by decide +kernel)) (fun _ _ _ _ _ => pg_name (i := 7) scNext.nd rfl (Or.inl rfl))
        (fun _ _ _ _ _ => pts_one (pt_cmpR (r := rIn K true) op_notIn_seq (pv 7) (pv 3) rfl)) (fun _ _ _ _ _ => pv 7)) pa_nil))), ?_⟩
    have hgT : (T g).length ≤ sizeLine := by
      rw [T_len]
      exact small200 hg
    refine ⟨_, rfl, T g, rfl, hgT, Nat.zero_le _, fun B hB => ?_⟩
    have hBa : B ≠ a ∨ True := .inr trivial
    refine ⟨_, rfl, _, rfl, 2, _, rfl, rfl, .inl ⟨by decide, by decide⟩, ((T g).length : Int), 2 * ((T g).length : Int), rfl, ⟨by rw [T_len]; omega, by rw [T_len]; omega, by rw [T_len]; omega, by rw [T_len]; omega⟩, ?_⟩
    rw [T_len]
    have en : ((2 * (g.length : Int)) - (g.length : Int)).toNat = g.length := by omega
    have cutL : ∀ i, (((List.range i).filter fun i => cut (rsR rs) i g.length).map fun i => g.getD i 0).length ≤ i := fun i => by
      rw [List.length_map]
      exact Nat.le_trans (List.length_filter_le _ _) (by rw [List.length_range]; exact Nat.le_refl _)
    refine for_range (lo := (g.length : Int)) (n := ((2 * (g.length : Int)) - (g.length : Int)).toNat) (fun i σ H' => Same H H' ∧ H' B = some (.lst ((((List.range i).filter fun i => cut (rsR rs) i g.length).map fun i => g.getD i 0).map gV)) ∧
        (∀ j, j < i → tie (rsR rs) j g.length = false) ∧ ∃ x4 x5 x6, σ = [some (.str (T g)), some (.ref a), some (.int (g.length : Int)), some (.ref B), x4, x5, x6, none]) ⟨same_upd hB, upd_same, fun j h => absurd h (by omega), none, none, none, rfl⟩ (fun i σ H' hi hW => ?_) (fun σ H' hW => ?_)
    · rw [en] at hi
      obtain ⟨sm, hb, nt, x4, x5, x6, rfl⟩ := hW
      have e1 : ((g.length : Int) + (i : Int) - (g.length : Int)) = (i : Int) := by omega
      have e2 : ((g.length : Int) + (i : Int)) = ((i + g.length : Nat) : Int) := by omega
      have gi : g[i]? = some (g.getD i 0) := by
        rw [List.getD_eq_getElem?_getD, List.getElem?_eq_getElem hi]
        rfl
      have a1 : atI (T g).cps.toList ((g.length : Int) + (i : Int) - (g.length : Int)) = some (g.getD i 0) := by
        rw [e1]
        exact atI_nat gi
      have a2 : atI (rs.map nV) ((g.length : Int) + (i : Int)) = some (nV (rsR rs (i + g.length))) := by
        rw [e2]
        refine atI_nat ?_
        unfold rsR
        rw [List.getElem?_map, List.getD_eq_getElem?_getD, List.getElem?_eq_getElem (show i + g.length < rs.length by omega)]
        rfl
      refine ⟨_, rfl, _, rfl, _, rfl, _, _, rfl, rfl, T g, _, _, rfl, rfl, hgT, a1, ?_⟩
      refine ⟨_, rfl, _, 2, rfl, rfl, ⟨by decide, by decide⟩, _, 1, rfl, rfl, _, rfl, _, rfl, a, _, _, _, rfl, rfl, sm.seq hS, a2, _, _, rfl, rfl, ?_⟩
      have e3 : ((g.length : Int) + (i : Int)).fdiv 2 + 1 + ((rsR rs (i + g.length) : Nat) : Int) = (((i + g.length) / 2 + 1 + rsR rs (i + g.length) : Nat) : Int) := by
        rw [e2, half_of]
        omega
      refine ⟨_, rfl, _, rfl, _, _, rfl, rfl, _, rfl, ?_⟩
      show if decide ((g.length : Int) < ((g.length : Int) + (i : Int)).fdiv 2 + 1 + ((rsR rs (i + g.length) : Nat) : Int)) = true then _ else _
      rw [e3]
      have t1 : decide ((g.length : Int) < (((i + g.length) / 2 + 1 + rsR rs (i + g.length) : Nat) : Int)) = tie (rsR rs) i g.length := by
        unfold tie
        by_cases c : g.length < (i + g.length) / 2 + 1 + rsR rs (i + g.length)
        · rw [decide_eq_true c, decide_eq_true (by omega)]
        · rw [decide_eq_false c, decide_eq_false (by omega)]
      rw [t1]
      cases ct : tie (rsR rs) i g.length with
      | true =>
        refine iteT ⟨_, rfl, ?_⟩
        have z := q H' sm
        have e4 : nxt (rsR rs) g = g.getD i 0 := by
          unfold nxt
          rw [find_range nt ct hi]
        rw [e4] at z
        exact z
      | false =>
        have nt2 : ∀ j, j < i + 1 → tie (rsR rs) j g.length = false := fun j hj => by
          by_cases c : j = i
          · rw [c]
            exact ct
          · exact nt j (by omega)
        refine iteF ⟨_, rfl, _, rfl, rfl, _, rfl, ?_⟩
        show if decide (V.int (((g.length : Int) + (i : Int)).fdiv 2 + 1 + ((rsR rs (i + g.length) : Nat) : Int)) = V.int (g.length : Int)) = true then _ else _
        rw [e3, dec_nat]
        have c1 : decide ((i + g.length) / 2 + 1 + rsR rs (i + g.length) = g.length) = cut (rsR rs) i g.length := rfl
        rw [c1]
        have bs := barred_succ (rsR rs) g g.length i
        cases cc : cut (rsR rs) i g.length with
        | true =>
          rw [cc, if_pos rfl] at bs
          refine iteT ⟨_, rfl, .inl ⟨rfl, _, .inl (.inl hb)⟩, _, rfl, B, _, _, rfl, rfl, hb, ?_, fun b u e => ?_, ?_, nt2, _, _, _, rfl⟩
          · rw [List.length_map]
            exact small1000 (by have := cutL i; omega)
          · rw [upd_ne (ne_of_none e hB)]
            exact sm b u e
          · rw [upd_same, bs, List.map_append]
            rfl
        | false =>
          rw [cc, if_neg Bool.false_ne_true, List.append_nil] at bs
          exact iteF ⟨sm, by rw [bs]; exact hb, nt2, _, _, _, rfl⟩
    · rw [en] at hW
      obtain ⟨sm, hb, nt, x4, x5, x6, rfl⟩ := hW
      obtain ⟨c, hc⟩ := left (find_none nt)
      have eb : (((List.range g.length).filter fun i => cut (rsR rs) i g.length).map fun i => g.getD i 0) = barred (rsR rs) g g.length := rfl
      rw [eb] at hb
      refine ⟨_, rfl, fun D hD => ?_⟩
      have hDB : D ≠ B := (ne_of_none hb hD).symm
      refine lc_it walk_str (fun i H2 => Same H' H2 ∧ H2 D = some (.lst (((abcL.take i).filter fun c => !(barred (rsR rs) g g.length).contains c).map gV))) ⟨same_upd hD, upd_same⟩ (fun _ _ _ _ => trivial) (fun i x H2 H3 hi hW2 hy => ?_) (fun H2 hW2 => ?_)
      · obtain ⟨sm2, hd⟩ := hW2
        obtain ⟨rfl, c0, hc0, rfl⟩ := hy
        have et := take_succ_of (abc_some hc0)
        refine ⟨rfl, _, rfl, _, rfl, B, _, rfl, .inl (.inl (.inl (sm2 _ _ hb))), rfl, flat_sgn _, _, rfl, ?_⟩
        have ei : inV (.str ⟨#[c0]⟩) ((barred (rsR rs) g g.length).map gV) = (barred (rsR rs) g g.length).contains c0 := inV_sgn c0 _
        show if (!inV (.str ⟨#[c0]⟩) ((barred (rsR rs) g g.length).map gV)) = true then _ else _
        rw [ei, et, List.filter_append]
        have li : ((abcL.take i).filter fun c => !(barred (rsR rs) g g.length).contains c).length ≤ 26 := by
          refine Nat.le_trans (List.length_filter_le _ _) ?_
          rw [List.length_take]
          exact Nat.le_trans (Nat.min_le_right _ _) (by decide)
        cases cb : (barred (rsR rs) g g.length).contains c0 with
        | false =>
          refine iteT ⟨_, rfl, _, hd, by rw [List.length_map]; exact small1000 (by omega), fun b u e => ?_, ?_⟩
          · rw [upd_ne (ne_of_none e hD)]
            exact sm2 b u e
          · rw [upd_same, List.filter_cons_of_pos (by rw [cb]; rfl), List.filter_nil, List.map_append]
            rfl
        | true =>
          refine iteF ⟨sm2, ?_⟩
          rw [List.filter_cons_of_neg (by rw [cb]; exact Bool.false_ne_true), List.filter_nil, List.append_nil]
          exact hd
      · obtain ⟨sm2, hd⟩ := hW2
        rw [abc_size, List.take_of_length_le (by decide)] at hd
        rw [gV_map] at hd
        refine ⟨D, (abcL.filter fun c => !(barred (rsR rs) g g.length).contains c).map fun c => [c], rfl, .inl (.inl hd), ?_, fun m hm hl => ?_⟩
        · intro z
          have hcm : c ∈ abcL.filter fun c => !(barred (rsR rs) g g.length).contains c := List.mem_filter.mpr ⟨List.mem_of_find?_eq_some hc, List.find?_some (p := fun c => !(barred (rsR rs) g g.length).contains c) hc⟩
          rw [List.map_eq_nil_iff.mp z] at hcm
          cases hcm
        · obtain ⟨m0, _, rfl⟩ := List.mem_map.mp hm
          have e5 := least_left hc hm hl
          have z := q H2 (sm.trans sm2)
          have e6 : nxt (rsR rs) g = m0 := by
            unfold nxt
            rw [find_none nt, hc, e5]
            rfl
          rw [e6] at z
          exact z
end
end Mw
namespace Mw
open PySem PySem.Spec PyProof.Rows L2

/-! ### the least text -/
abbrev nLeast : List Str := ["arms", "text", "_", "middle", "arm"]
theorem scLeast : FnScope nLeast ["arms"] (defScope sLeast) := ⟨rfl, rfl, rfl, by decide +kernel, rfl, by decide +kernel, by decide +kernel⟩
section
variable {Pr : Program} {w : World} {K : PySem.W.Frag} {mg : Str → Option Value} {base : Heap} {BA NT fI fN fA : Addr} {dI dN dA : FuncData}
theorem ok_least {f : Addr} {fd : FuncData} (F : Fun K "least_text" "least_text" sLeast f fd) (FI : Fn Pr w K mg base CX0 2 "is_arms" fI dI ["thing"] (spIsArms K)) (FN : Fn Pr w K mg base CX0 1 "next_letter" fN dN ["text", "arms"] (spNext K))
    (FA : Fn Pr w K mg base CX0 1 "arm_at" fA dA ["text", "middle"] spArmAt) (EA : ErrC K mg "BadArms" BA) (EN : ErrC K mg "NoText" NT) (ml : mg "len" = none) (mr : mg "range" = none) (my : mg "any" = none) (me : mg "enumerate" = none) :
    FnOk Pr w K mg base (L2.CX Pr w) 3 f fd ["arms"] (spLeast K BA NT) := by
  refine F.okX scLeast (fun vs H Q E h => ?_) (fun cdv A outer s H vs Q E hr h => ?_)
  · obtain ⟨x, b, rfl, _⟩ := h
    rfl
  · obtain ⟨x, b, rfl, th, qE, q⟩ := h
    refine ⟨_, pss_cons (ps_if (pt_not (pt_val (pe_call FI.ok hr (by rfl) FI.g FI.k FI.b .nil pass0 (pa_cons (pv 0) pa_nil))))
        (pss_one (ps_raise rfl (takes_of rfl rfl rfl rfl) (pmk_own PySem.F.excBase_ValueError EA.x EA.g EA.k (raises_own EA.b EA.t) (by rfl)))) pss_nil) <|
      pss_cons (ps_set (i := 1) scLeast.nd rfl (.inr rfl) pe_str) <|
      pss_cons (psNox (ps_for PassesOwn.never rfl (pi_range1 (by rfl) mr (pa_cons (pe_op op_fdivN (pe_op op_add (pe_callB call_len_seq (by rfl) ml PySem.boot_len (pa_cons (pv 0) pa_nil)) pe_int) pe_int) pa_nil)) (pg_name (i := 2) scLeast.nd rfl (.inl rfl))
        (pss_one (ps_aug (i := 1) scLeast.nd rfl (.inr rfl) (pe_call FN.ok (hr.mono (by decide)) (by rfl) FN.g FN.k FN.b .nil pass0 (pa_cons (pv 1) (pa_cons (pv 0) pa_nil))) ip_addT)))) <|
      pss_cons (ps_if (pt_val (pe_callB (cr_any rfl) (by rfl) my (by decide +kernel) (pa_cons (pe_lc (own := [("middle", 3), ("arm", 4)]) (g := gTup K 2 (gCons (gName 3) (gCons (gName 4) gNil))) (tt := tYes) rfl scLeast.nd
          (pi_enum (by rfl) me (pa_cons (pv 0) pa_nil)) (blkOk_by (own := [("middle", 3), ("arm", 4)]) (N := nLeast) (sc := defScope sLeast) (by decide +kernel))
          (fun _ _ _ _ _ => pg_tup (by rfl) (pgs_cons (pg_name (i := 3) scLeast.nd rfl (Or.inl rfl)) (pgs_cons (pg_name (i := 4) scLeast.nd rfl (Or.inl rfl)) pgs_nil))) (fun _ _ _ _ _ => pts_nil)
          (fun _ _ _ _ _ => pe_cmpR op_ne (pe_call FA.ok (hr.mono (by decide)) (by rfl) FA.g FA.k FA.b .nil pass0 (pa_cons (pv 1) (pa_cons (pv 3) pa_nil))) (pv 4) (nomark _))) pa_nil)))
        (pss_one (ps_raise rfl (takes_of rfl rfl rfl rfl) (pmk_own PySem.F.excBase_ValueError EN.x EN.g EN.k (raises_own EN.b EN.t) (by rfl)))) pss_nil) <|
      pss_one (ps_ret (pv 1)), ?_⟩
    refine ⟨_, rfl, x, b, rfl, th, fun H1 sm1 => ⟨b, rfl, ?_⟩⟩
    cases b with
    | false => exact iteT (qE rfl H1 sm1)
    | true =>
      obtain ⟨a, rs, rfl, hS0, hlen, left, qQ, qN⟩ := q rfl
      have hS : H1 a = some (.lst (rs.map nV)) := sm1 _ _ hS0
      have hL : SqL K H1 a (rs.map nV) := .inl (.inl hS)
      have ell : ((rs.map nV).length : Int) = (rs.length : Int) := by rw [List.length_map]
      have en : ((((rs.map nV).length : Int) + 1).fdiv 2).toNat = lenN rs := by
        rw [ell, Int.fdiv_eq_ediv_of_nonneg _ (by decide)]
        unfold lenN
        omega
      have hn : lenN rs ≤ 200 := by
        unfold lenN
        omega
      refine iteF ⟨_, rfl, a, _, rfl, .inl hL, _, 1, rfl, rfl, _, 2, rfl, rfl, ⟨by decide, by decide⟩, _, rfl, ?_, ?_, ?_⟩
      · rw [ell, Int.fdiv_eq_ediv_of_nonneg _ (by decide)]
        omega
      · rw [ell, Int.fdiv_eq_ediv_of_nonneg _ (by decide)]
        omega
      refine for_range (lo := 0) (n := ((((rs.map nV).length : Int) + 1).fdiv 2).toNat) (fun i σ H' => Same H1 H' ∧ ∃ x2, σ = [some (.ref a), some (.str (T (gr (rsR rs) i))), x2, none, none]) ⟨fun _ _ h => h, none, rfl⟩ (fun i σ H' hi hW => ?_) (fun σ H' hW => ?_)
      · rw [en] at hi
        obtain ⟨sm, x2, rfl⟩ := hW
        have hi2 : i ≤ 200 := by omega
        refine ⟨_, rfl, _, rfl, _, rfl, gr (rsR rs) i, rs, a, rfl, sm.seq hL, by rw [gr_len]; exact hi2, by rw [gr_len]; unfold lenN at hi; omega, ?_, fun H2 sm2 => ?_⟩
        · rw [gr_len]
          exact fun h => left i hi h
        · refine ⟨_, _, rfl, rfl, ?_, sm.trans sm2, some (.int (0 + (i : Int))), ?_⟩
          · show (T (gr (rsR rs) i)).length + (T [nxt (rsR rs) (gr (rsR rs) i)]).length ≤ sizeLine
            rw [T_len, T_len, gr_len]
            exact Nat.le_of_lt (small1000 (show i + 1 ≤ 1000 by omega))
          · rw [T_app]
            rfl
      · rw [en] at hW
        obtain ⟨sm, x2, rfl⟩ := hW
        have gl : (gr (rsR rs) (lenN rs)).length = lenN rs := gr_len _ _
        have badE : badArms rs = (List.range rs.length).any fun m => !decide (armL (gr (rsR rs) (lenN rs)) m = rsR rs m) := rfl
        generalize gr (rsR rs) (lenN rs) = g at *
        refine ⟨_, rfl, a, _, rfl, sm.seq hL, fun D hD => ?_⟩
        have hS' : H' a = some (.lst (rs.map nV)) := sm _ _ hS
        refine lc_it (walk_enum (K := K) (a := a) (xs := rs.map nV)) (fun i H2 => Same H' H2 ∧ H2 D = some (.lst (((List.range i).map fun m => !decide (armL g m = rsR rs m)).map V.bl))) ⟨same_upd hD, upd_same⟩ (fun i H2 _ hW => .inl (.inl (hW.1 _ _ hS')))
          (fun i v H2 H3 hi hW hy => ?_) (fun H2 hW => ?_)
        · obtain ⟨sm2, hd⟩ := hW
          obtain ⟨T', x1, y2, rfl, hT, rfl, e1, e2⟩ := hy
          cases Option.some.inj e1
          have e2 : (rs.map nV)[i]? = some y2 := e2
          have hi : i < rs.length := by
            rw [List.length_map] at hi
            exact hi
          have ey : y2 = nV (rsR rs i) := by
            rw [List.getElem?_map, List.getElem?_eq_getElem hi] at e2
            unfold rsR
            rw [List.getD_eq_getElem?_getD, List.getElem?_eq_getElem hi]
            exact (Option.some.inj e2).symm
          subst ey
          have s3 : Same H' (upd H2 T' (.tup [.int (i : Nat), nV (rsR rs i)])) := sm2.trans (same_upd hT)
          have hd2 : (upd H2 T' (.tup [.int (i : Nat), nV (rsR rs i)])) D = some (.lst (((List.range i).map fun m => !decide (armL g m = rsR rs m)).map V.bl)) := by
            rw [upd_ne (ne_of_none hd hT)]
            exact hd
          have hT2 : (upd H2 T' (.tup [.int (i : Nat), nV (rsR rs i)])) T' = some (.tup [.int (i : Nat), nV (rsR rs i)]) := upd_same
          generalize upd H2 T' (.tup [.int (i : Nat), nV (rsR rs i)]) = H3 at *
          refine ⟨T', _, rfl, .inl (.inl hT2), rfl, _, _, rfl, _, _, rfl, rfl, rfl, ?_⟩
          refine ⟨_, rfl, _, rfl, g, i, rfl, by omega, _, rfl, rfl, _, hd2, ?_, fun b u e => ?_, ?_⟩
          · rw [List.length_map, List.length_map, List.length_range]
            exact small1000 (by omega)
          · rw [upd_ne (ne_of_none e hD)]
            exact s3 b u e
          · have ed : decide (V.int ((armL g i : Nat) : Int) = nV (rsR rs i)) = decide (armL g i = rsR rs i) := dec_nat _ _
            rw [upd_same, List.range_succ, List.map_append, List.map_append]
            show some (HO.lst (_ ++ [V.bl (!decide (V.int ((armL g i : Nat) : Int) = nV (rsR rs i)))])) = _
            rw [ed]
            rfl
        · obtain ⟨sm2, hd⟩ := hW
          rw [List.length_map] at hd
          refine ⟨D, _, rfl, .inl (.inl hd), ?_⟩
          have e : ((List.range rs.length).map fun m => !decide (armL g m = rsR rs m)).any id = badArms rs := by
            rw [List.any_map, badE]
            rfl
          have sm3 : Same H H2 := sm1.trans (sm.trans sm2)
          refine ⟨_, rfl, ?_⟩
          rw [e]
          cases c : badArms rs with
          | true => exact iteT (qN c H2 sm3)
          | false => exact iteF ⟨_, rfl, qQ c H2 sm3⟩
end
end Mw
namespace Mw
open PySem PySem.Spec PyProof.Rows L2

/-! ### a cell of the script, or nought -/
theorem scDraw : FnScope ["_law_script", "_law_k"] ["_law_script", "_law_k"] (defScope sDraw) := ⟨rfl, rfl, rfl, by decide +kernel, rfl, by decide +kernel, by decide +kernel⟩
section
variable {Pr : Program} {w : World} {K : PySem.W.Frag} {mg : Str → Option Value} {base : Heap}
theorem ok_draw {f : Addr} {fd : FuncData} (F : Fun K "_law_draw" "_law_draw" sDraw f fd) (ml : mg "len" = none) : FnOk Pr w K mg base CX0 1 f fd ["_law_script", "_law_k"] (spDraw K) := by
  refine F.ok scDraw (fun vs H Q E h => ?_) (fun cdv A outer s H vs Q E hr h => ?_)
  · obtain ⟨a, ns, k, rfl, _⟩ := h
    rfl
  · obtain ⟨a, ns, k, rfl, hS, q⟩ := h
    refine ⟨_, pss_one (ps_ret (pe_ifExp (pt_cmpR op_gt (pe_callB call_len_seq (by rfl) ml PySem.boot_len (pa_cons (pv 0) pa_nil)) (pv 1) (nomark _)) (pe_ix ix_list (pv 0) (pv 1) (fun _ _ => rfl)) pe_int)), ?_⟩
    refine ⟨.ref a, rfl, a, _, rfl, .inl hS, _, rfl, _, _, rfl, rfl, _, rfl, ?_⟩
    by_cases h : k < ns.length
    · rw [decide_eq_true (show (k : Int) < ((ns.map V.int).length : Int) by rw [List.length_map]; omega)]
      refine iteT ⟨_, rfl, _, rfl, a, _, _, .int (ns.getD k 0), rfl, rfl, hS, atI_nat ?_, q⟩
      rw [List.getElem?_map, List.getElem?_eq_getElem h, List.getD_eq_getElem?_getD, List.getElem?_eq_getElem h]
      rfl
    · rw [decide_eq_false (show ¬ (k : Int) < ((ns.map V.int).length : Int) by rw [List.length_map]; omega)]
      refine iteF ?_
      rw [List.getD_eq_getElem?_getD, List.getElem?_eq_none (by omega)] at q
      exact q
end

end Mw
namespace Mw
open PySem PySem.Spec PyProof.Rows L2

/-! ### the arms by the law's own reading -/
abbrev nLArms : List Str := ["_law_text", "_law_found", "_law_middle", "_law_left", "_law_right", "_law_arm"]
theorem scLArms : FnScope nLArms ["_law_text"] (defScope sLArms) := ⟨rfl, rfl, rfl, by decide +kernel, rfl, by decide +kernel, by decide +kernel⟩
section
variable {Pr : Program} {w : World} {K : PySem.W.Frag} {mg : Str → Option Value} {base : Heap}
theorem ok_larms {f : Addr} {fd : FuncData} (F : Fun K "_law_arms" "_law_arms" sLArms f fd) (ml : mg "len" = none) (mr : mg "range" = none) : FnOk Pr w K mg base CX0 1 f fd ["_law_text"] spLArms := by
  refine F.ok scLArms (fun vs H Q E h => ?_) (fun cdv A outer s H vs Q E hr h => ?_)
  · obtain ⟨l, rfl, _⟩ := h
    rfl
  · obtain ⟨l, rfl, hl, q⟩ := h
    refine ⟨_, pss_cons (ps_set (i := 1) scLArms.nd rfl (.inl rfl) (pe_lst pa_nil)) <|
      pss_cons (ps_for PassesOwn.never rfl (pi_range1 (by rfl) mr (pa_cons (pe_op op_sub (pe_op op_mul pe_int (pe_callB call_len_str (by rfl) ml PySem.boot_len (pa_cons (pv 0) pa_nil))) pe_int) pa_nil)) (pg_name (i := 2) scLArms.nd rfl (.inl rfl))
        (pss_cons (ps_par (i := 3) (j := 4) rfl scLArms.nd rfl rfl (by decide) rfl rfl (pa_cons (pe_op op_fdivN (pe_op op_sub (pv 2) pe_int) pe_int) (pa_cons (pe_op op_add (pe_op op_fdivN (pv 2) pe_int) pe_int) pa_nil)) (by rfl)) <|
        pss_cons (ps_set (i := 5) scLArms.nd rfl (.inl rfl) pe_int) <|
        pss_cons (ps_while PassesOwn.never (PW.pt (pw_and (pt_cmpR op_ge (pe_op op_sub (pv 3) (pv 5)) pe_int (nomark _)) (pw_and (pt_cmpR op_lt (pe_op op_add (pv 4) (pv 5)) (pe_callB call_len_str (by rfl) ml PySem.boot_len (pa_cons (pv 0) pa_nil)) (nomark _))
          (pw_and1 (pt_cmpR op_eq (pe_ix ix_str (pv 0) (pe_op op_sub (pv 3) (pv 5)) (fun _ _ => rfl)) (pe_ix ix_str (pv 0) (pe_op op_add (pv 4) (pv 5)) (fun _ _ => rfl)) (nomark _))))))
          (pss_one (ps_set (i := 5) scLArms.nd rfl (.inl rfl) (pe_op op_add (pv 5) pe_int)))) <|
        pss_one (ps_expr (pe_bm PySem.F.plainAttrs_list PySem.F.slot_list_append PySem.F.type_list_append mt_append (pv 1) (pa_cons (pv 5) pa_nil))))) <|
      pss_one (ps_ret (pv 1)), ?_⟩
    have hT : (T l).length ≤ sizeLine := by
      rw [T_len]
      exact small200 hl
    refine ⟨Nat.zero_le _, fun B hB => ?_⟩
    have en : ((2 : Int) * ((T l).length : Int) - 1).toNat = 2 * l.length - 1 := by rw [T_len]; omega
    refine ⟨_, rfl, T l, rfl, hT, 2, ((T l).length : Int), rfl, rfl, .inl ⟨by decide, by decide⟩, _, 1, rfl, rfl, _, rfl, by rw [T_len]; omega, by rw [T_len]; omega, ?_⟩
    refine for_range (lo := 0) (n := ((2 : Int) * ((T l).length : Int) - 1).toNat) (fun i σ H' => Same H H' ∧ H' B = some (.lst (((armsL l).take i).map nV)) ∧ ∃ y2 y3 y4 y5, σ = [some (.str (T l)), some (.ref B), y2, y3, y4, y5])
      ⟨same_upd hB, upd_same, none, none, none, none, rfl⟩ (fun m σ H' hi hW => ?_) (fun σ H' hW => ?_)
    · rw [en] at hi
      obtain ⟨sm, hb, y2, y3, y4, y5, rfl⟩ := hW
      refine ⟨_, rfl, _, 1, rfl, rfl, _, 2, rfl, rfl, ⟨by decide, by decide⟩, _, rfl, _, 2, rfl, rfl, ⟨by decide, by decide⟩, _, 1, rfl, rfl, _, _, rfl, ?_⟩
      -- the reading
      have fin : ∀ k : Nat, (∀ j, j < k → okAt l m j = true) → okAt l m k = false →
          tDrop (tBM K "list" rAppend (tVar 1) (tCons (tVar 5) tNil)) { nx := fun σ H3 => Same H H3 ∧ H3 B = some (.lst (((armsL l).take (m + 1)).map nV)) ∧ ∃ y2 y3 y4 y5, σ = [some (.str (T l)), some (.ref B), y2, y3, y4, y5], rt := Q }
            [some (.str (T l)), some (.ref B), some (.int (m : Int)), some (.int ((((m + 1) / 2 : Nat) : Int) - 1)), some (.int (((m / 2 : Nat) : Int) + 1)), some (.int (k : Int))] H' := fun k hk hn => by
        refine ⟨_, rfl, .inl ⟨rfl, _,   .inl (.inl hb)⟩, _, rfl, B, _, _, rfl, rfl, hb, ?_, fun b u e => ?_, ?_, _, _, _, _, rfl⟩
        · rw [List.length_map, List.length_take, armsL_len]
          exact small1000 (by omega)
        · rw [upd_ne (ne_of_none e hB)]
          exact sm b u e
        · rw [upd_same, armsL_take hi, List.map_append, armL_of hk hn]
          rfl
      refine ⟨fun n σ H3 => H3 = H' ∧ ∃ k : Nat, σ = [some (.str (T l)), some (.ref B), some (.int (m : Int)), some (.int ((((m + 1) / 2 : Nat) : Int) - 1)), some (.int (((m / 2 : Nat) : Int) + 1)), some (.int (k : Int))] ∧ k + n = l.length + 1 ∧ ∀ j, j < k → okAt l m j = true,
        ⟨l.length + 1, rfl, 0, ?_, by omega, fun j h => absurd h (by omega)⟩, fun n σ H3 hW => ?_⟩
      · show [some (V.str (T l)), some (V.ref B), some (V.int (0 + (m : Int))), some (V.int ((0 + (m : Int) - 1).fdiv 2)), some (V.int ((0 + (m : Int)).fdiv 2 + 1)), some (V.int 0)] = _
        rw [Int.zero_add, left_of, half_of]
        rfl
      obtain ⟨rfl, k, rfl, hn, hk⟩ := hW
      have hkl : k ≤ l.length := by
        cases k with
        | zero => exact Nat.zero_le _
        | succ i =>
          have := okAt_lt (hk i (Nat.lt_succ_self _))
          omega
      refine ⟨_, rfl, _, rfl, _, _, rfl, rfl, _, 0, rfl, rfl, _, rfl, ?_⟩
      by_cases c1 : k + 1 ≤ (m + 1) / 2
      · rw [decide_eq_true (show (0 : Int) ≤ (((m + 1) / 2 : Nat) : Int) - 1 - k by omega)]
        refine iteT ⟨_, rfl, _, rfl, _, _, rfl, rfl, _, rfl, T l, rfl, hT, _, _, rfl, rfl, _, rfl, ?_⟩
        by_cases c2 : m / 2 + 1 + k < l.length
        · rw [decide_eq_true (show ((m / 2 : Nat) : Int) + 1 + k < ((T l).length : Int) by rw [T_len]; omega)]
          have h1 : (m + 1) / 2 - (k + 1) < l.length := by omega
          have a1 : atI (T l).cps.toList ((((m + 1) / 2 : Nat) : Int) - 1 - k) = some l[(m + 1) / 2 - (k + 1)] := by
            have e : ((((m + 1) / 2 : Nat) : Int) - 1 - k) = (((m + 1) / 2 - (k + 1) : Nat) : Int) := by omega
            rw [e]
            exact atI_nat (List.getElem?_eq_getElem h1)
          have a2 : atI (T l).cps.toList (((m / 2 : Nat) : Int) + 1 + k) = some l[m / 2 + 1 + k] := by
            have e : (((m / 2 : Nat) : Int) + 1 + k) = ((m / 2 + 1 + k : Nat) : Int) := by omega
            rw [e]
            exact atI_nat (List.getElem?_eq_getElem c2)
          refine iteT ⟨_, rfl, _, rfl, _, rfl, _, _, rfl, rfl, T l, _, _, rfl, rfl, hT, a1, _, rfl, _, rfl, _, rfl, _, _, rfl, rfl, T l, _, _, rfl, rfl, hT, a2, rfl, _, rfl, ?_⟩
          rw [sgn_dec]
          have ok := okAt_dec c1 c2 h1
          by_cases c3 : l[(m + 1) / 2 - (k + 1)] = l[m / 2 + 1 + k]
          · rw [decide_eq_true c3] at ok ⊢
            refine iteT ⟨fun σ' H4 => H4 = H3 ∧ σ' = [some (.str (T l)), some (.ref B), some (.int (m : Int)), some (.int ((((m + 1) / 2 : Nat) : Int) - 1)), some (.int (((m / 2 : Nat) : Int) + 1)), some (.int ((k + 1 : Nat) : Int))], fun σ' H4 hN => ?_, ?_⟩
            · obtain ⟨e1, e2⟩ := hN
              refine ⟨n - 1, by omega, e1, k + 1, e2, by omega, fun j hj => ?_⟩
              by_cases z : j = k
              · rw [z]
                exact ok
              · exact hk j (by omega)
            · exact ⟨_, rfl, _, _, rfl, rfl, rfl, rfl⟩
          · rw [decide_eq_false c3] at ok ⊢
            exact iteF (fin k hk ok)
        · rw [decide_eq_false (show ¬ ((m / 2 : Nat) : Int) + 1 + k < ((T l).length : Int) by rw [T_len]; omega)]
          refine iteF (iteF (fin k hk ?_))
          unfold okAt
          rw [decide_eq_false c2, Bool.false_and, Bool.and_false]
      · rw [decide_eq_false (show ¬ (0 : Int) ≤ (((m + 1) / 2 : Nat) : Int) - 1 - k by omega)]
        refine iteF (iteF (fin k hk ?_))
        unfold okAt
        rw [decide_eq_false c1, Bool.false_and]
    · rw [en] at hW
      obtain ⟨sm, hb, y2, y3, y4, y5, rfl⟩ := hW
      rw [List.take_of_length_le (by rw [armsL_len]; exact Nat.le_refl _)] at hb
      exact ⟨_, rfl, q H' B sm hB hb⟩
end
end Mw
namespace Mw
open PySem PySem.Spec PyProof.Rows L2

/-! ### min of texts, or what stands for none -/
def rMinSd (K : PySem.W.Frag) : List V → List V → Hp → VK → Prop := fun vs zs H Q => ∃ (a : Addr) (ts : List (List Nat)) (d : V), vs = [V.ref a] ∧ zs = [d] ∧ SqL K H a (ts.map sV) ∧ (ts = [] → Q d H) ∧ ∀ m, m ∈ ts → (∀ y, y ∈ ts → ¬ y < m) → Q (sV m) H
theorem cr_minSd {X : Cx} (hc : X.calm = true) : CallRK X (.builtin "min") [Str.ofString "default"] (rMinSd X.K) := by
  intro pins s σ H vs zs us ws Q I r rz h
  obtain ⟨a, ts, d, rfl, rfl, hs, q0, q⟩ := h
  obtain ⟨its, rv, hl, _⟩ := I.list hs
  rw [Vals.ref1 r]
  cases rz with
  | @cons _ dv _ _ rd rn =>
    cases rn
    obtain ⟨hlen, hat⟩ := vals_txt rv
    show wpAny _ _ (call (.builtin "min") [.ref a] [(Str.ofString "default", dv)]) _ _ _
    refine call_min_walkD (PySem.W.iter_listW (A := X.A.in1) (I.ok.hd hc) hl.isList fun s₂ e W st hfp hw hk => ?_)
    have hsz : its.toArray.size = ts.length := hlen
    refine ⟨_, _, _, _, _, _, _, s.heap, fun i j => decide (ts.getD i [] < ts.getD j []), rfl, W, st, hfp, hw, hk, fun hz s' m => ?_, fun hp => ⟨?_, fun v s' hP m => ?_⟩⟩
    · obtain ⟨h', tk, rfl, hk'⟩ := PySem.W.moved_old e rfl m
      exact ⟨d, H, I.kept hk', rd, q0 (List.eq_nil_of_length_eq_zero (by omega))⟩
    · intro i j vi vj s3 Q3 E3 _ hi hj hQ
      obtain ⟨li, ti, e1, rfl⟩ := hat i vi (by simpa using hi)
      obtain ⟨lj, tj, e2, rfl⟩ := hat j vj (by simpa using hj)
      refine PySem.P.lt_str ?_
      have hQ : Q3 (Value.bool (decide (ts.getD i [] < ts.getD j []))) s3 := hQ
      rw [List.getD_eq_getElem?_getD, List.getD_eq_getElem?_getD, e1, e2] at hQ
      exact hQ
    · obtain ⟨h', tk, rfl, hk'⟩ := PySem.W.moved_old e rfl m
      obtain ⟨b1, b2⟩ := best_txt (fun i => ts.getD i []) (its.toArray.size - 1)
      have hP : its[argBest (fun i j => decide (ts.getD i [] < ts.getD j [])) (its.toArray.size - 1)]? = some v := by
        rw [List.getElem?_toArray] at hP
        exact hP
      generalize argBest (fun i j => decide (ts.getD i [] < ts.getD j [])) (its.toArray.size - 1) = k at *
      obtain ⟨l, t, e1, rfl⟩ := hat k v hP
      have e2 : ts.getD k [] = l := by
        rw [List.getD_eq_getElem?_getD, e1]
        rfl
      refine ⟨sV l, H, I.kept hk', ⟨t, rfl⟩, q l (List.mem_of_getElem? e1) fun y hy => ?_⟩
      obtain ⟨j, hj, ej⟩ := List.getElem_of_mem hy
      have z := b2 j (by omega)
      rw [e2] at z
      have e3 : ts.getD j [] = y := by
        rw [List.getD_eq_getElem?_getD, List.getElem?_eq_getElem hj, ej]
        rfl
      rw [e3] at z
      exact z

/-! ### all texts so long, but for which letter stands for which -/
def sixL : List Nat := (List.range 6).map (97 + ·)
def lets (k : Nat) : List Nat := sixL.take k
def ext (t : List Nat) : List (List Nat) := (lets (1 + unlike t)).map fun c => t ++ [c]
def allL : Nat → List (List Nat)
  | 0 => [[]]
  | p + 1 => (allL p).flatMap ext
theorem lets_len (k : Nat) : (lets k).length ≤ 6 := by
  unfold lets sixL
  rw [List.length_take, List.length_map, List.length_range]
  omega
theorem ext_len (t : List Nat) : (ext t).length ≤ 6 := by
  unfold ext
  rw [List.length_map]
  exact lets_len _
theorem flat_len : ∀ L : List (List Nat), (L.flatMap ext).length ≤ 6 * L.length
  | [] => Nat.le_refl _
  | t :: r => by
    rw [List.flatMap_cons, List.length_append, List.length_cons]
    have := flat_len r
    have := ext_len t
    omega
theorem allL_len : ∀ p, (allL p).length ≤ 6 ^ p
  | 0 => Nat.le_refl _
  | p + 1 => by
    have h1 := flat_len (allL p)
    have h2 := allL_len p
    show ((allL p).flatMap ext).length ≤ 6 ^ (p + 1)
    rw [Nat.pow_succ]
    omega
theorem pow6 {p : Nat} (h : p ≤ 6) : 6 ^ p ≤ 46656 := Nat.le_trans (Nat.pow_le_pow_right (by decide) h) (by decide)
theorem allL_ok : ∀ p, ∀ t ∈ allL p, t.length = p ∧ t.all az = true
  | 0, t, h => by
    obtain rfl := List.mem_singleton.mp h
    exact ⟨rfl, rfl⟩
  | p + 1, t, h => by
    obtain ⟨u, hu, hx⟩ := List.mem_flatMap.mp h
    obtain ⟨c, hc, rfl⟩ := List.mem_map.mp hx
    obtain ⟨h1, h2⟩ := allL_ok p u hu
    refine ⟨by rw [List.length_append, h1]; rfl, all_app h2 ?_⟩
    have hc := List.mem_of_mem_take hc
    obtain ⟨i, hi, rfl⟩ := List.mem_map.mp hc
    have := List.mem_range.mp hi
    show (az (97 + i) && true) = true
    unfold az
    rw [decide_eq_true (by omega), decide_eq_true (by omega)]
    rfl
theorem met_mem (t : List Nat) (c : Nat) : ∀ i, i ≤ t.length → (T [c] ∈ met (sgn (T t)) i ↔ c ∈ t.take i)
  | 0, _ => by
    constructor
    · intro h
      exact absurd h List.not_mem_nil
    · intro h
      exact absurd h (by rw [List.take_zero]; exact List.not_mem_nil)
  | i + 1, h => by
    have ih := met_mem t c i (by omega)
    have ei : t[i]? = some t[i] := List.getElem?_eq_getElem (by omega)
    have es : sgn (T t) i = T [t[i]] := by
      unfold sgn
      show (⟨#[(t.toArray).getD i 0]⟩ : Str) = T [t[i]]
      have e : (t.toArray).getD i 0 = t[i] := by
        rw [Array.getD_eq_getD_getElem?, List.getElem?_toArray, ei]
        rfl
      rw [e]
      rfl
    rw [take_succ_of ei, List.mem_append, List.mem_singleton]
    show (T [c] ∈ if sgn (T t) i ∈ met (sgn (T t)) i then met (sgn (T t)) i else sgn (T t) i :: met (sgn (T t)) i) ↔ _
    have inj : T [c] = T [t[i]] ↔ c = t[i] := ⟨fun z => (List.cons.inj (T_inj z)).1, fun z => by rw [z]⟩
    by_cases m : sgn (T t) i ∈ met (sgn (T t)) i
    · rw [if_pos m, ih]
      constructor
      · exact .inl
      · rintro (z | z)
        · exact z
        · rw [es] at m
          rw [← ih, z]
          exact m
    · rw [if_neg m, List.mem_cons, es, inj, ih]
      exact Or.comm
theorem met_congr {f g : Nat → Str} : ∀ i, (∀ j, j < i → f j = g j) → met f i = met g i
  | 0, _ => rfl
  | i + 1, h => by
    show (if f i ∈ met f i then met f i else f i :: met f i) = (if g i ∈ met g i then met g i else g i :: met g i)
    rw [met_congr i fun j hj => h j (by omega), h i (by omega)]
theorem unlike_app (t : List Nat) (c : Nat) : unlike (t ++ [c]) = if c ∈ t then unlike t else unlike t + 1 := by
  unfold unlike
  rw [List.length_append]
  show (if sgn (T (t ++ [c])) t.length ∈ met (sgn (T (t ++ [c]))) t.length then met (sgn (T (t ++ [c]))) t.length else sgn (T (t ++ [c])) t.length :: met (sgn (T (t ++ [c]))) t.length).length = _
  have e1 : met (sgn (T (t ++ [c]))) t.length = met (sgn (T t)) t.length := met_congr _ fun j hj => by
    unfold sgn
    show (⟨#[((t ++ [c]).toArray).getD j 0]⟩ : Str) = ⟨#[(t.toArray).getD j 0]⟩
    rw [Array.getD_eq_getD_getElem?, Array.getD_eq_getD_getElem?, List.getElem?_toArray, List.getElem?_toArray, List.getElem?_append_left hj]
  have e2 : sgn (T (t ++ [c])) t.length = T [c] := by
    unfold sgn
    show (⟨#[((t ++ [c]).toArray).getD t.length 0]⟩ : Str) = T [c]
    rw [Array.getD_eq_getD_getElem?, List.getElem?_toArray, List.getElem?_append_right (Nat.le_refl _), Nat.sub_self]
    rfl
  rw [e1, e2]
  have m := met_mem t c t.length (Nat.le_refl _)
  rw [List.take_length] at m
  by_cases h : c ∈ t
  · rw [if_pos h, if_pos (m.mpr h)]
  · rw [if_neg h, if_neg fun z => h (m.mp z)]
    rfl
/-- the letters of the text are the first ones -/
def Rg (t : List Nat) : Prop := ∀ c, c ∈ t ↔ 97 ≤ c ∧ c < 97 + unlike t
theorem nxt_rg {R : Nat → Nat} {p : Nat} (hp : p < 6) (g : Rg (gr R p)) (hk : unlike (gr R p) ≤ p) (L : Left R (p + 1)) : 97 ≤ nxt R (gr R p) ∧ nxt R (gr R p) ≤ 97 + unlike (gr R p) := by
  cases hf : (List.range p).find? fun i => tie R i p with
  | some i =>
    have hi := (first_tied hf).1
    rw [nxt_tied hf]
    have m : (gr R p).getD i 0 ∈ gr R p := by
      rw [List.getD_eq_getElem?_getD, gr_at hi]
      exact List.mem_of_getElem? (gr_at hi)
    obtain ⟨a, b⟩ := (g _).mp m
    exact ⟨a, by omega⟩
  | none =>
    obtain ⟨c, hc⟩ := L p (by omega) hf
    rw [nxt_free hf, hc]
    refine ⟨(mem_abcL.mp (List.mem_of_find?_eq_some hc)).1, ?_⟩
    refine find_le abcL_sorted hc (mem_abcL.mpr ⟨by omega, by omega⟩) ?_
    have no : ¬ 97 + unlike (gr R p) ∈ barred R (gr R p) p := fun z => by
      obtain ⟨i, hi, _, e⟩ := mem_barred.mp z
      have m : (gr R p).getD i 0 ∈ gr R p := by
        rw [List.getD_eq_getElem?_getD, gr_at hi]
        exact List.mem_of_getElem? (gr_at hi)
      rw [e] at m
      have := ((g _).mp m).2
      omega
    simpa using no
theorem gr_all {R : Nat → Nat} : ∀ p, p ≤ 6 → Left R p → gr R p ∈ allL p ∧ Rg (gr R p) ∧ unlike (gr R p) ≤ p
  | 0, _, _ => ⟨List.mem_cons_self, fun c => ⟨fun h => absurd h List.not_mem_nil, fun h => absurd h.2 (by show ¬ c < 97 + 0; omega)⟩, Nat.le_refl _⟩
  | p + 1, h, L => by
    obtain ⟨h1, h2, h3⟩ := gr_all p (by omega) fun q hq => L q (by omega)
    obtain ⟨n1, n2⟩ := nxt_rg (by omega) h2 h3 L
    have e := unlike_app (gr R p) (nxt R (gr R p))
    refine ⟨List.mem_flatMap.mpr ⟨_, h1, List.mem_map.mpr ⟨nxt R (gr R p), ?_, rfl⟩⟩, ?_, ?_⟩
    · unfold lets sixL
      rw [← List.map_take, List.take_range, List.mem_map]
      exact ⟨nxt R (gr R p) - 97, List.mem_range.mpr (by omega), by omega⟩
    · intro c
      show c ∈ gr R p ++ [nxt R (gr R p)] ↔ _ ∧ c < 97 + unlike (gr R p ++ [nxt R (gr R p)])
      rw [e, List.mem_append, List.mem_singleton, h2 c]
      by_cases m : nxt R (gr R p) ∈ gr R p
      · rw [if_pos m]
        have := (h2 _).mp m
        constructor
        · rintro (z | z)
          · exact z
          · rw [z]
            exact this
        · exact .inl
      · rw [if_neg m]
        have : ¬ nxt R (gr R p) < 97 + unlike (gr R p) := fun z => m ((h2 _).mpr ⟨n1, z⟩)
        omega
    · show unlike (gr R p ++ [nxt R (gr R p)]) ≤ p + 1
      rw [e]
      split <;> omega
/-- a list within the bounds of arms -/
structure Fits (n : Nat) (rs : List Nat) : Prop where
  len : rs.length = 2 * n - 1
  room : ∀ m, m < rs.length → rs.getD m 0 ≤ roomN m rs.length
theorem Fits.arms {t : List Nat} : Fits t.length (armsL t) := ⟨armsL_len t, fun m hm => by
  rw [armsL_len] at hm ⊢
  rw [List.getD_eq_getElem?_getD, armsL_at hm]
  exact armL_room hm⟩
theorem Fits.isArms {n : Nat} {rs : List Nat} (h : Fits n rs) (hn : n ≤ 6) : isArmsL (rs.map nV) = true := by
  unfold isArmsL
  rw [List.length_map, Bool.and_eq_true]
  constructor
  · unfold midsB
    have := h.len
    by_cases c : n = 0
    · rw [decide_eq_true (show rs.length = 0 by omega)]
      rfl
    · rw [decide_eq_true (show rs.length % 2 = 1 by omega), decide_eq_true (show rs.length < 400 by omega), Bool.and_self, Bool.or_true]
  · rw [List.all_eq_true]
    intro i hi
    have hi := List.mem_range.mp hi
    unfold armOk
    rw [List.length_map]
    have e : (rs.map nV).getD i .non = nV (rs.getD i 0) := by
      rw [List.getD_eq_getElem?_getD, List.getElem?_map, List.getD_eq_getElem?_getD, List.getElem?_eq_getElem hi]
      rfl
    rw [e, numTo_nat]
    exact decide_eq_true (h.room i hi)
theorem Fits.lenN {n : Nat} {rs : List Nat} (h : Fits n rs) : lenN rs = n := by
  unfold Mw.lenN
  rw [h.len]
  omega
def noneL : List Nat := [110, 111, 110, 101]
def dueL (rs : List Nat) : List Nat := if badArms rs = true then noneL else gr (rsR rs) (lenN rs)
def fitsL (n : Nat) (rs : List Nat) : List (List Nat) := (allL n).filter fun u => decide (armsL u = rs)
theorem good_arms {n : Nat} {rs : List Nat} (h : Fits n rs) (hb : badArms rs = false) : armsL (gr (rsR rs) n) = rs := by
  have e : ∀ m, m < rs.length → armL (gr (rsR rs) n) m = rs.getD m 0 := fun m hm => by
    unfold badArms at hb
    rw [h.lenN] at hb
    have z := List.any_eq_false.mp hb m (List.mem_range.mpr hm)
    simpa [rsR] using z
  refine List.ext_getElem? fun m => ?_
  by_cases c : m < rs.length
  · have hl := h.len
    rw [armsL_at (by rw [gr_len]; omega), e m c, List.getD_eq_getElem?_getD, List.getElem?_eq_getElem c]
    rfl
  · rw [List.getElem?_eq_none (by rw [armsL_len, gr_len, ← h.len]; omega), List.getElem?_eq_none (by omega)]
/-- the least of those that fit -/
theorem due_fits {n : Nat} {rs : List Nat} (h : Fits n rs) (hn : n ≤ 6) : (fitsL n rs = [] → badArms rs = true) ∧ ∀ m, m ∈ fitsL n rs → (∀ y, y ∈ fitsL n rs → ¬ y < m) → m = dueL rs := by
  have L : Left (rsR rs) n := few_left (by omega)
  have gin : badArms rs = false → gr (rsR rs) n ∈ fitsL n rs := fun hb => List.mem_filter.mpr ⟨(gr_all n hn L).1, decide_eq_true (good_arms h hb)⟩
  refine ⟨fun e => ?_, fun m hm hl => ?_⟩
  · cases hb : badArms rs with
    | true => rfl
    | false =>
      have := gin hb
      rw [e] at this
      cases this
  · obtain ⟨m1, m2⟩ := List.mem_filter.mp hm
    have m2 := of_decide_eq_true m2
    obtain ⟨k1, k2⟩ := allL_ok n m m1
    have eR : rsR rs = armL m := by rw [← m2, rsR_arms]
    have Lm : Left (armL m) m.length := few_left (by omega)
    have hb : badArms rs = false := by
      rw [← m2]
      exact bad_arms Lm
    unfold dueL
    rw [hb, if_neg Bool.false_ne_true, h.lenN]
    have a1 := hl _ (gin hb)
    have a2 : ¬ m < gr (rsR rs) n := by
      rw [eR, ← k1]
      exact gr_least (arms_of m) (az_abc k2)
    exact List.le_antisymm (List.not_lt.mp a1) (List.not_lt.mp a2)
def spAll : Sp := fun vs H Q _ => ∃ n : Nat, vs = [.int (n : Int)] ∧ n ≤ 6 ∧ ∀ H' p, Same H H' → H' p = some (.lst ((allL n).map sV)) → Q (.ref p) H'
def spMost : Sp := fun vs H Q _ => ∃ m n : Nat, vs = [.int (m : Int), .int (n : Int)] ∧ m < 2 * n - 1 ∧ Q (.int (roomN m (2 * n - 1) : Nat)) H
def spSaid (K : PySem.W.Frag) : Sp := fun vs H Q _ => ∃ (a : Addr) (n : Nat) (rs : List Nat), vs = [.ref a] ∧ H a = some (.lst (rs.map nV)) ∧ Fits n rs ∧ n ≤ 6 ∧ ∀ H', Same H H' → Q (.str (T (dueL rs))) H'
end Mw
namespace Mw
open PySem PySem.Spec PyProof.Rows L2

/-! ### all texts so long, by the law -/
abbrev nLAll : List Str := ["_law_many", "_law_found", "_law_place", "_law_longer", "_law_text", "_law_letter"]
theorem scLAll : FnScope nLAll ["_law_many"] (defScope sLAll) := ⟨rfl, rfl, rfl, by decide +kernel, rfl, by decide +kernel, by decide +kernel⟩
theorem scLMost : FnScope ["_law_middle", "_law_many"] ["_law_middle", "_law_many"] (defScope sLMost) := ⟨rfl, rfl, rfl, by decide +kernel, rfl, by decide +kernel, by decide +kernel⟩
theorem scLSaid : FnScope ["_law_reach", "_law_caught", "_law_found", "e"] ["_law_reach"] (defScope sLSaid) := ⟨rfl, rfl, rfl, by decide +kernel, rfl, by decide +kernel, by decide +kernel⟩
theorem six_cut (k : Nat) : cutS (Str.ofString "abcdef") none (some ((1 : Int) + (k : Int))) = T (lets (1 + k)) := by
  have e : (Str.ofString "abcdef") = T sixL := by decide +kernel
  have e2 : ((1 : Int) + (k : Int)) = ((1 + k : Nat) : Int) := by omega
  rw [e, e2, cut_to]
  rfl
section
variable {Pr : Program} {w : World} {K : PySem.W.Frag} {mg : Str → Option Value} {base : Heap} {BA NT ME c1 c2 c3 c4 c5 c6 fA : Addr} {dA : FuncData}
theorem ok_lall {f : Addr} {fd : FuncData} (F : Fun K "_law_all" "_law_all" sLAll f fd) (mr : mg "range" = none) (ml : mg "len" = none) (mS : mg "set" = none) : FnOk Pr w K mg base CX0 1 f fd ["_law_many"] spAll := by
  refine F.ok scLAll (fun vs H Q E h => ?_) (fun cdv A outer s H vs Q E hr h => ?_)
  · obtain ⟨n, rfl, _⟩ := h
    rfl
  · obtain ⟨n, rfl, hn, q⟩ := h
    refine ⟨_, pss_cons (ps_set (i := 1) scLAll.nd rfl (.inl rfl) (pe_lst (pa_cons pe_str pa_nil))) <|
      pss_cons (ps_for PassesOwn.never rfl (pi_range1 (by rfl) mr (pa_cons (pv 0) pa_nil)) (pg_name (i := 2) scLAll.nd rfl (.inl rfl))
        (pss_cons (ps_set (i := 3) scLAll.nd rfl (.inl rfl) (pe_lst pa_nil)) <|
        pss_cons (ps_for PassesOwn.never rfl (pi_list (pv 1)) (pg_name (i := 4) scLAll.nd rfl (.inl rfl))
          (pss_one (ps_for PassesOwn.never rfl (pi_str (pe_slice sl_str pe_str po_none (po_some (pe_op op_add pe_int (pe_lenSetS (by rfl) ml (by rfl) mS (pv 4)))))) (pg_name (i := 5) scLAll.nd rfl (.inl rfl))
            (pss_one (ps_expr (pe_bm PySem.F.plainAttrs_list PySem.F.slot_list_append PySem.F.type_list_append mt_append (pv 3) (pa_cons (pe_op op_add_str (pv 4) (pv 5)) pa_nil))))))) <|
        pss_one (ps_set (i := 1) scLAll.nd rfl (.inl rfl) (pv 3)))) <|
      pss_one (ps_ret (pv 1)), ?_⟩
    refine ⟨by show 1 ≤ sizeLine; decide, fun p0 hp0 => ?_⟩
    refine ⟨_, rfl, (n : Int), rfl, by omega, by omega, ?_⟩
    have en : ((n : Nat) : Int).toNat = n := by omega
    refine for_range (lo := 0) (n := ((n : Nat) : Int).toNat) (fun p σ H' => Same H H' ∧ ∃ pf y2 y3 y4 y5, σ = [some (.int (n : Int)), some (.ref pf), y2, y3, y4, y5] ∧ H' pf = some (.lst ((allL p).map sV)))
      ⟨same_upd hp0, p0, none, none, none, none, rfl, upd_same⟩ (fun p σ H' hp hW => ?_) (fun σ H' hW => ?_)
    · rw [en] at hp
      obtain ⟨sm, pf, y2, y3, y4, y5, rfl, hf⟩ := hW
      have ln : (allL p).length ≤ 46656 := Nat.le_trans (allL_len p) (pow6 (by omega))
      have ln1 : 6 * (allL p).length ≤ 46656 := by
        have h1 := allL_len p
        have h2 := pow6 (p := p + 1) (by omega)
        rw [Nat.pow_succ] at h2
        omega
      refine ⟨Nat.zero_le _, fun pl hpl => ?_⟩
      have hnl : pf ≠ pl := ne_of_none hf hpl
      refine ⟨_, rfl, pf, rfl, ⟨_, .inl (.inl (by rw [upd_ne hnl]; exact hf))⟩, ?_⟩
      refine for_list (K := K) (a := pf) (xs := (allL p).map sV) (fun i σ H2 => Same H' H2 ∧ H2 pl = some (.lst ((((allL p).take i).flatMap ext).map sV)) ∧ ∃ y4 y5, σ = [some (.int (n : Int)), some (.ref pf), some (.int (0 + (p : Int))), some (.ref pl), y4, y5])
        ⟨same_upd hpl, upd_same, y4, y5, rfl⟩ (fun i σ H2 _ hW => .inl (.inl (hW.1 _ _ hf))) (fun i x σ H2 hx hW => ?_) (fun σ H2 hW => ?_)
      · obtain ⟨s2, h2, y4, y5, rfl⟩ := hW
        obtain ⟨t, ht, rfl⟩ : ∃ t, (allL p)[i]? = some t ∧ x = sV t := by
          rw [List.getElem?_map] at hx
          cases e : (allL p)[i]? with
          | none =>
            rw [e] at hx
            cases hx
          | some t =>
            rw [e] at hx
            exact ⟨t, rfl, (Option.some.inj hx).symm⟩
        obtain ⟨tl, _⟩ := allL_ok p t (List.mem_of_getElem? ht)
        have il : i < (allL p).length := (List.getElem?_eq_some_iff.mp ht).1
        have bl : (((allL p).take i).flatMap ext).length ≤ 6 * i := by
          have := flat_len ((allL p).take i)
          rw [List.length_take] at this
          omega
        refine ⟨_, rfl, t, rfl, by omega, 1, _, rfl, rfl, _, rfl, _, rfl, by decide +kernel, ?_⟩
        rw [six_cut]
        refine ⟨_, rfl, ?_⟩
        refine for_it walk_str (fun j σ H3 => Same H' H3 ∧ H3 pl = some (.lst ((((allL p).take i).flatMap ext ++ ((lets (1 + unlike t)).take j).map fun c => t ++ [c]).map sV)) ∧ ∃ y5, σ = [some (.int (n : Int)), some (.ref pf), some (.int (0 + (p : Int))), some (.ref pl), some (sV t), y5])
          ⟨s2, by rw [List.take_zero, List.map_nil, List.append_nil]; exact h2, y5, rfl⟩ (fun _ _ _ _ _ => trivial) (fun j v σ H3 H4 hj hW hy => ?_) (fun σ H3 hW => ?_)
        · obtain ⟨s3, h3, y5, rfl⟩ := hW
          obtain ⟨rfl, c, hc, rfl⟩ := hy
          have hc2 : (lets (1 + unlike t))[j]? = some c := by
            have z : ((lets (1 + unlike t)).toArray)[j]? = some c := hc
            rw [List.getElem?_toArray] at z
            exact z
          have jl : j < 6 := by
            have := lets_len (1 + unlike t)
            have := (List.getElem?_eq_some_iff.mp hc2).1
            omega
          refine ⟨_, rfl, .inl ⟨rfl, _, .inl (.inl h3)⟩, _, rfl, _, rfl, T t, T [c], rfl, rfl, ?_, pl, _, _, rfl, rfl, h3, ?_, fun b u e => ?_, ?_, _, rfl⟩
          · rw [T_len, T_len]
            exact Nat.le_of_lt (small1000 (show t.length + 1 ≤ 1000 by omega))
          · rw [List.length_map, List.length_append, List.length_map, List.length_take]
            have z : (((allL p).take i).flatMap ext).length + min j (lets (1 + unlike t)).length ≤ 46656 := by omega
            exact Nat.lt_of_le_of_lt z (by decide)
          · rw [upd_ne (ne_of_none e hpl)]
            exact s3 b u e
          · have e : ((((allL p).take i).flatMap ext ++ ((lets (1 + unlike t)).take j ++ [c]).map fun c => t ++ [c]).map sV) = ((((allL p).take i).flatMap ext ++ ((lets (1 + unlike t)).take j).map fun c => t ++ [c]).map sV) ++ [sV (t ++ [c])] := by
              simp only [List.map_append, List.map_cons, List.map_nil, List.append_assoc]
            rw [upd_same, take_succ_of hc2, e]
            show some (HO.lst (_ ++ [V.str (T t ++ T [c])])) = _
            rw [T_app]
            rfl
        · obtain ⟨s3, h3, y5, rfl⟩ := hW
          have ez : (T (lets (1 + unlike t))).cps.size = (lets (1 + unlike t)).length := T_len _
          rw [ez, List.take_length] at h3
          refine ⟨s3, ?_, _, _, rfl⟩
          rw [h3, take_succ_of ht, List.flatMap_append]
          show some (HO.lst ((((allL p).take i).flatMap ext ++ ext t).map sV)) = some (HO.lst ((((allL p).take i).flatMap ext ++ [t].flatMap ext).map sV))
          rw [List.flatMap_singleton]
      · obtain ⟨s2, h2, y4, y5, rfl⟩ := hW
        rw [List.length_map, List.take_length] at h2
        exact ⟨_, rfl, sm.trans s2, pl, _, _, _, _, rfl, h2⟩
    · rw [en] at hW
      obtain ⟨sm, pf, y2, y3, y4, y5, rfl, hf⟩ := hW
      exact ⟨_, rfl, q H' pf sm hf⟩
theorem ok_lmost {f : Addr} {fd : FuncData} (F : Fun K "_law_most" "_law_most" sLMost f fd) (mn : mg "min" = none) : FnOk Pr w K mg base CX0 1 f fd ["_law_middle", "_law_many"] spMost := by
  refine F.ok scLMost (fun vs H Q E h => ?_) (fun cdv A outer s H vs Q E hr h => ?_)
  · obtain ⟨m, n, rfl, _⟩ := h
    rfl
  · obtain ⟨m, n, rfl, hm, q⟩ := h
    refine ⟨_, pss_one (ps_ret (pe_callB (call_min2 rfl) (by rfl) mn (by decide +kernel) (pa_cons (pe_op op_fdivN (pe_op op_add (pv 0) pe_int) pe_int) (pa_cons (pe_op op_sub (pe_op op_sub (pv 1) pe_int) (pe_op op_fdivN (pv 0) pe_int)) pa_nil)))), ?_⟩
    refine ⟨_, rfl, _, 1, rfl, rfl, _, 2, rfl, rfl, ⟨by decide, by decide⟩, _, rfl, _, 1, rfl, rfl, _, rfl, _, 2, rfl, rfl, ⟨by decide, by decide⟩, _, _, rfl, rfl, _, _, rfl, ?_⟩
    have e : (if ((n : Int) - 1 - (m : Int).fdiv 2 < ((m : Int) + 1).fdiv 2) then (n : Int) - 1 - (m : Int).fdiv 2 else ((m : Int) + 1).fdiv 2) = ((roomN m (2 * n - 1) : Nat) : Int) := by
      rw [Int.fdiv_eq_ediv_of_nonneg _ (by decide), Int.fdiv_eq_ediv_of_nonneg _ (by decide)]
      unfold roomN
      rw [Nat.min_def]
      split <;> split <;> omega
    rw [e]
    exact q
theorem ok_lsaid {f : Addr} {fd : FuncData} (F : Fun K "_law_said" "_law_said" sLSaid f fd) (FA : Fn Pr w K mg base (L2.CX Pr w) 3 "least_text" fA dA ["arms"] (spLeast K BA NT)) (XN : ExcC K NT)
    (gM : mg "MirrorError" = some (.ref ME)) (hm : PySem.W.exmOne K (.ref NT) (.ref ME) = some true) (g1 : mg "BadArms" = some (.ref BA)) (g2 : mg "BadLetter" = some (.ref c2)) (g3 : mg "BadText" = some (.ref c3)) (g4 : mg "BadWord" = some (.ref c4)) (g5 : mg "Full" = some (.ref c5)) (g6 : mg "NoPlace" = some (.ref c6))
    (g7 : mg "NoText" = some (.ref NT)) (k6 : PySem.W.kitAny K (.ref NT) [.ref BA, .ref c2, .ref c3, .ref c4, .ref c5, .ref c6] = some false) (k1 : PySem.W.kitOne K (.ref NT) (.ref NT) = some true) (kv : PySem.W.kitOne K (.ref NT) (.type "ValueError") = some true)
    (mi : mg "isinstance" = none) (mv : mg "ValueError" = none) : FnOk Pr w K mg base CX0 4 f fd ["_law_reach"] (spSaid K) := by
  refine F.ok scLSaid (fun vs H Q E h => ?_) (fun cdv A outer s H vs Q E hr h => ?_)
  · obtain ⟨a, n, rs, rfl, _⟩ := h
    rfl
  · obtain ⟨a, n, rs, rfl, hS, ft, hn, q⟩ := h
    refine ⟨_, pss_cons (ps_set (i := 1) scLSaid.nd rfl (.inl rfl) pe_non) <|
      pss_cons (ps_set (i := 2) scLSaid.nd rfl (.inl rfl) pe_str) <|
      pss_cons (ps_tryK (i := 3) (tb := fun W => tAsg (tCallS (spLeast K BA NT) (WE W) (tCons (tVar 0) tNil)) (gName 2)) (ts := fun _ => tAsg (tVar 3) (gName 1)) rfl rfl rfl scLSaid.nd rfl rfl ⟨by rfl, by decide, .inl gM⟩
        (fun W pn xe tk _ => pss_one (ps_set (i := 2) scLSaid.nd rfl (.inl rfl) (pe_callS FA.ok hr (by rfl) FA.g FA.k FA.b (fun σ => passAt tk σ) (pa_cons (pv 0) pa_nil))))
        (fun a pn => pss_one (ps_set (i := 1) scLSaid.nd rfl (.inl rfl) (pv 3)))) <|
      pss_cons (ps_if (pt_cmpR op_isN (pv 1) pe_non (nomark _)) (pss_one (ps_ret (pv 2))) pss_nil) <|
      pss_cons (ps_if (PW.pt (pw_or (pt_val (pe_callB call_isXT (by rfl) mi boot_isinstance (pa_cons (pv 1) (pa_cons (pe_tup (pa_cons (pe_glob (v := .ref BA) (by rfl) g1 rfl) (pa_cons (pe_glob (v := .ref c2) (by rfl) g2 rfl)
          (pa_cons (pe_glob (v := .ref c3) (by rfl) g3 rfl) (pa_cons (pe_glob (v := .ref c4) (by rfl) g4 rfl) (pa_cons (pe_glob (v := .ref c5) (by rfl) g5 rfl) (pa_cons (pe_glob (v := .ref c6) (by rfl) g6 rfl) pa_nil))))))) pa_nil))))
          (pw_or1 (pt_not (pt_val (pe_callB call_isX (by rfl) mi boot_isinstance (pa_cons (pv 1) (pa_cons (pe_bltn (v := .ty "ValueError") (by rfl) mv (by decide +kernel) rfl) pa_nil))))))))
        (pss_one (ps_ret pe_str)) pss_nil) <|
      pss_one (ps_ret (pe_ifExp (pt_val (pe_callB call_isX (by rfl) mi boot_isinstance (pa_cons (pv 1) (pa_cons (pe_glob (v := .ref NT) (by rfl) g7 rfl) pa_nil)))) pe_str pe_str)), ?_⟩
    have th : AThing K H (.ref a) true := by
      have z := AThing.list (K := K) hS (nthing_nats _) (by rw [List.length_map, ft.len]; omega)
      rw [ft.isArms hn] at z
      exact z
    have L : Left (rsR rs) (lenN rs) := by
      rw [ft.lenN]
      exact few_left (by omega)
    refine ⟨_, rfl, _, true, rfl, th, fun z => (nomatch z), fun _ => ⟨a, rs, rfl, hS, by rw [ft.len]; omega, L, fun hb H1 s1 => ?_, fun hb H1 s1 => ⟨hm, rfl, NT, rfl, fun x hx => ⟨_, rfl, ?_⟩⟩⟩⟩
    · refine ⟨_, rfl, rfl, _, rfl, ?_⟩
      rw [decide_eq_true (show V.non = V.non from rfl)]
      refine iteT ⟨_, rfl, ?_⟩
      have z := q H1 s1
      unfold dueL at z
      rw [hb, if_neg Bool.false_ne_true] at z
      exact z
    · have kp1 : Same H (upd H1 x (ExS NT x)) := s1.trans (same_upd hx)
      refine ⟨_, rfl, rfl, _, rfl, ?_⟩
      rw [decide_eq_false (show ¬ V.ref x = V.non from fun z => by cases z)]
      refine iteF ⟨_, rfl, by show 6 ≤ sizeLine; decide, fun p hp => ?_⟩
      have kp2 : Same H (upd (upd H1 x (ExS NT x)) p (.tup [.ref BA, .ref c2, .ref c3, .ref c4, .ref c5, .ref c6])) := kp1.trans (same_upd hp)
      have hpa : x ≠ p := fun z => by
        rw [← z, upd_same] at hp
        cases hp
      have hx2 : (upd (upd H1 x (ExS NT x)) p (.tup [.ref BA, .ref c2, .ref c3, .ref c4, .ref c5, .ref c6])) x = some (ExS NT x) := by
        rw [upd_ne hpa]
        exact upd_same
      refine ⟨x, NT, p, _, _, false, rfl, upd_same, .cons (.own BA) (.cons (.own c2) (.cons (.own c3) (.cons (.own c4) (.cons (.own c5) (.cons (.own c6) .nil))))), hx2, XN, k6, false, rfl, iteF ?_⟩
      refine ⟨_, rfl, x, NT, .ty "ValueError", _, true, rfl, .ty _, hx2, XN, kv, true, rfl, iteF ?_⟩
      refine ⟨_, rfl, x, NT, .ref NT, _, true, rfl, .own NT, hx2, XN, k1, true, rfl, iteT ?_⟩
      have z := q _ kp2
      unfold dueL at z
      rw [hb, if_pos rfl] at z
      exact z
end
end Mw
namespace Mw
open PySem PySem.Spec PyProof.Rows L2

/-! ### the law -/
abbrev nLaw : List Str := ["_law_script", "_law_many", "_law_text", "_law_reach", "_law_cell", "_law_middle", "_law_fits", "_law_due", "_law_handed", "_law_one"]
theorem scLaw : FnScope nLaw ["_law_script"] (defScope sLaw) := ⟨rfl, rfl, rfl, by decide +kernel, rfl, by decide +kernel, by decide +kernel⟩
theorem six_at {j : Nat} (h : j < 6) : ∃ c, atI (Str.ofString "abcabd").cps.toList (j : Int) = some c ∧ az c = true := by
  have e : ((Str.ofString "abcabd").cps.toList) = [97, 98, 99, 97, 98, 100] := by decide +kernel
  rw [e]
  match j, h with
  | 0, _ => exact ⟨97, atI_nat rfl, rfl⟩
  | 1, _ => exact ⟨98, atI_nat rfl, rfl⟩
  | 2, _ => exact ⟨99, atI_nat rfl, rfl⟩
  | 3, _ => exact ⟨97, atI_nat rfl, rfl⟩
  | 4, _ => exact ⟨98, atI_nat rfl, rfl⟩
  | 5, _ => exact ⟨100, atI_nat rfl, rfl⟩
theorem eqv_nats : ∀ xs ys : List Nat, PyData.eqv (.list (xs.map dN)) (.list (ys.map dN)) = decide (xs = ys)
  | [], [] => rfl
  | [], y :: ys => rfl
  | x :: xs, [] => rfl
  | x :: xs, y :: ys => by
    have ih : PyData.eqvAll (xs.map dN) (ys.map dN) = decide (xs = ys) := eqv_nats xs ys
    show (((x : Int) == (y : Int)) && PyData.eqvAll (xs.map dN) (ys.map dN)) = _
    rw [ih]
    by_cases c : x = y
    · subst c
      rw [beq_self_eq_true, Bool.true_and]
      by_cases d : xs = ys
      · rw [d, decide_eq_true rfl, decide_eq_true rfl]
      · rw [decide_eq_false d, decide_eq_false fun z => d (List.cons.inj z).2]
    · rw [beq_eq_false_iff_ne.mpr (by omega), Bool.false_and, decide_eq_false fun z => c (List.cons.inj z).1]
theorem none_txt : V.str (Str.ofString "none") = V.str (T noneL) := by
  have e : (Str.ofString "none") = T noneL := by decide +kernel
  rw [e]
theorem fits_set {n k r : Nat} {rs : List Nat} (h : Fits n rs) (hk : k < rs.length) (hr : r ≤ roomN k (2 * n - 1)) : Fits n (rs.set k r) := by
  refine ⟨by rw [List.length_set, h.len], fun m hm => ?_⟩
  rw [List.length_set] at hm ⊢
  rw [List.getD_eq_getElem?_getD]
  by_cases c : m = k
  · subst c
    rw [List.getElem?_set_self hk, h.len]
    exact hr
  · rw [List.getElem?_set_ne (Ne.symm c), ← List.getD_eq_getElem?_getD]
    exact h.room m hm
def spLaw4 (K : PySem.W.Frag) : Sp := fun vs H Q _ => ∃ (a : Addr) (ns : List Int), vs = [.ref a] ∧ SqL K H a (ns.map V.int) ∧ ns.length ≤ 63 ∧ ∀ H', Q (.bl true) H'
section
variable {Pr : Program} {w : World} {K : PySem.W.Frag} {mg : Str → Option Value} {base : Heap} {fD fA fL fM fS : Addr} {dD dA dL dM dS : FuncData}
theorem ok_law {f : Addr} {fd : FuncData} (F : Fun K "law" "law" sLaw f fd) (FD : Fn Pr w K mg base CX0 1 "_law_draw" fD dD ["_law_script", "_law_k"] (spDraw K)) (FA : Fn Pr w K mg base CX0 1 "_law_arms" fA dA ["_law_text"] spLArms)
    (FL : Fn Pr w K mg base CX0 1 "_law_all" fL dL ["_law_many"] spAll) (FM : Fn Pr w K mg base CX0 1 "_law_most" fM dM ["_law_middle", "_law_many"] spMost) (FS : Fn Pr w K mg base CX0 4 "_law_said" fS dS ["_law_reach"] (spSaid K))
    (ml : mg "len" = none) (mL : mg "list" = none) (mn : mg "min" = none) : FnOk Pr w K mg base CX0 5 f fd ["_law_script"] (spLaw4 K) := by
  refine F.ok scLaw (fun vs H Q E h => ?_) (fun cdv A outer s H vs Q E hr h => ?_)
  · obtain ⟨a, ns, rfl, _⟩ := h
    rfl
  · obtain ⟨a, ns, rfl, hS, hlen, q⟩ := h
    have hu := hr.units
    refine ⟨_, pss_cons (ps_set (i := 1) scLaw.nd rfl (.inl rfl) (pe_op op_modN (pe_call FD.ok (hr.mono (by decide)) (by rfl) FD.g FD.k FD.b .nil pass0 (pa_cons (pv 0) (pa_cons pe_int pa_nil))) pe_int)) <|
      pss_cons (ps_set (i := 2) scLaw.nd rfl (.inl rfl) (pe_join pe_str (pe_lc (own := [("_law_cell", 4)]) (g := gName 4) (tt := tYes) rfl scLaw.nd
          (pi_list (pe_slice sl_list (pe_op op_cat (pe_slice sl_list (pv 0) (po_some pe_int) po_none) (pe_op op_rep (pe_lst (pa_cons pe_int pa_nil)) pe_int)) po_none (po_some (pv 1)))) (blkOk_by (own := [("_law_cell", 4)]) (N := nLaw) (sc := defScope sLaw) (by decide +kernel))
          (fun _ _ _ _ _ => pg_name (i := 4) scLaw.nd rfl (Or.inl rfl)) (fun _ _ _ _ _ => pts_nil) (fun _ _ _ _ _ => pe_ix ix_str pe_str (pe_op op_modN (pv 4) pe_int) (fun _ _ => rfl))))) <|
      pss_cons (ps_set (i := 3) scLaw.nd rfl (.inr rfl) (pe_call FA.ok (hr.mono (by decide)) (by rfl) FA.g FA.k FA.b .nil pass0 (pa_cons (pv 2) pa_nil))) <|
      pss_cons (ps_for PassesOwn.never rfl (pi_list (pe_slice sl_list (pv 0) (po_some pe_int) (po_some (pe_op op_add pe_int (pe_op op_mul (pe_op op_modN (pe_op op_fdivN (pe_call FD.ok (hr.mono (by decide)) (by rfl) FD.g FD.k FD.b .nil pass0 (pa_cons (pv 0) (pa_cons pe_int pa_nil))) pe_int) pe_int)
            (pe_op op_modN (pe_op op_fdivN (pe_call FD.ok (hr.mono (by decide)) (by rfl) FD.g FD.k FD.b .nil pass0 (pa_cons (pv 0) (pa_cons pe_int pa_nil))) pe_int) pe_int)))))) (pg_name (i := 4) scLaw.nd rfl (.inl rfl))
        (pss_one (ps_if (pt_cmpR (op_neD hu) (pv 3) (pe_lst pa_nil) (nomark _))
          (pss_cons (ps_set (i := 5) scLaw.nd rfl (.inl rfl) (pe_op op_modN (pv 4) (pe_callB call_len_seq (by rfl) ml PySem.boot_len (pa_cons (pv 3) pa_nil)))) <|
          pss_one (ps_asg (pe_op op_modN (pe_op op_fdivN (pv 4) (pe_callB call_len_seq (by rfl) ml PySem.boot_len (pa_cons (pv 3) pa_nil))) (pe_op op_add pe_int (pe_call FM.ok (hr.mono (by decide)) (by rfl) FM.g FM.k FM.b .nil pass0 (pa_cons (pv 5) (pa_cons (pv 1) pa_nil)))))
            (pg_sub (pv 3) (pv 5) set_list))) pss_nil))) <|
      pss_cons (ps_setLc (i := 6) (own := [("_law_one", 9)]) (g := gName 9) rfl scLaw.nd rfl rfl (sw_true rfl rfl rfl (by decide +kernel)) (pi_list (pe_call FL.ok (hr.mono (by decide)) (by rfl) FL.g FL.k FL.b .nil pass0 (pa_cons (pv 1) pa_nil)))
        (blkOk_by (own := [("_law_one", 9)]) (N := nLaw) (sc := defScope sLaw) (by decide +kernel)) (fun _ _ _ _ _ => pg_name (i := 9) scLaw.nd rfl (Or.inl rfl))
        (fun _ _ _ _ _ => pts_one (pt_cmpR (r := rEqD K) (op_eqD hu) (pe_call FA.ok (hr.mono (by decide)) (by rfl) FA.g FA.k FA.b .nil pass0 (pa_cons (pv 9) pa_nil)) (pv 3) (nomark _))) (fun _ _ _ _ _ => pv 9)) <|
      C8.pss_cut (ps_set (i := 7) scLaw.nd rfl (.inl rfl) (pe_callBK (cr_minSd rfl) (by rfl) mn (by decide +kernel) (pa_cons (pv 6) pa_nil) (pk_cons pe_str pk_nil))) <|
      pss_cons (ps_set (i := 8) scLaw.nd rfl (.inl rfl) (pe_callTy call_list_of (by rfl) mL (by decide +kernel) (pa_cons (pv 3) pa_nil))) <|
      pss_one (ps_ret (pe_and (pe_cmpR op_eq (pe_call FS.ok hr (by rfl) FS.g FS.k FS.b .nil pass0 (pa_cons (pv 8) pa_nil)) (pv 7) (nomark _))
        (pe_and (pe_cmpR (op_eqD hu) (pv 8) (pv 3) (nomark _)) (pe_one (pe_cmpR op_eq (pe_call FS.ok hr (by rfl) FS.g FS.k FS.b .nil pass0 (pa_cons (pv 8) pa_nil)) (pv 7) (nomark _)))))), ?_⟩
    obtain ⟨n, en, hn⟩ := modK (ns.getD 0 0) (show 0 < 7 by decide)
    have en : (ns.getD 0 0).fmod 7 = (n : Int) := en
    refine ⟨_, rfl, a, ns, 0, rfl, hS, _, 7, rfl, rfl, show (7 : Int) ≠ 0 by decide, ?_⟩
    -- the text
    refine ⟨⟨_, rfl⟩, _, rfl, 1, rfl, a, _, rfl, hS, fun p1 hp1 => ?_⟩
    obtain ⟨ms, hms⟩ := cut_map ns (some 1) none
    have lms : ms.length ≤ ns.length := by
      have z := congrArg List.length hms
      unfold cutV at z
      rw [List.length_take, List.length_drop, List.length_map, List.length_map] at z
      omega
    rw [hms]
    have s1 : Same H (upd H p1 (.lst (ms.map V.int))) := same_upd hp1
    have h1 : (upd H p1 (.lst (ms.map V.int))) p1 = some (.lst (ms.map V.int)) := upd_same
    generalize upd H p1 (.lst (ms.map V.int)) = H1 at *
    refine ⟨by show 1 ≤ sizeLine; decide, fun p2 hp2 => ?_⟩
    have s2 : Same H1 (upd H1 p2 (.lst [.int 0])) := same_upd hp2
    have h2 : (upd H1 p2 (.lst [.int 0])) p2 = some (.lst [.int 0]) := upd_same
    generalize upd H1 p2 (.lst [.int 0]) = H2 at *
    refine ⟨p2, 6, _, rfl, rfl, h2, by decide, by decide, by decide +kernel, fun p3 hp3 => ?_⟩
    have e6 : (List.replicate (6 : Int).toNat [V.int 0]).flatten = ([0, 0, 0, 0, 0, 0] : List Int).map V.int := by decide +kernel
    rw [e6]
    have s3 : Same H2 (upd H2 p3 (.lst (([0, 0, 0, 0, 0, 0] : List Int).map V.int))) := same_upd hp3
    have h3 : (upd H2 p3 (.lst (([0, 0, 0, 0, 0, 0] : List Int).map V.int))) p3 = some (.lst (([0, 0, 0, 0, 0, 0] : List Int).map V.int)) := upd_same
    generalize upd H2 p3 (.lst (([0, 0, 0, 0, 0, 0] : List Int).map V.int)) = H3 at *
    refine ⟨p1, p3, _, _, rfl, rfl, s3 _ _ (s2 _ _ h1), h3, ?_, fun p4 hp4 => ?_⟩
    · rw [List.length_map]
      exact Nat.le_of_lt (small1000 (show ms.length + 6 ≤ 1000 by omega))
    rw [← List.map_append]
    have s4 : Same H3 (upd H3 p4 (.lst ((ms ++ [0, 0, 0, 0, 0, 0]).map V.int))) := same_upd hp4
    have h4 : (upd H3 p4 (.lst ((ms ++ [0, 0, 0, 0, 0, 0]).map V.int))) p4 = some (.lst ((ms ++ [0, 0, 0, 0, 0, 0]).map V.int)) := upd_same
    generalize upd H3 p4 (.lst ((ms ++ [0, 0, 0, 0, 0, 0]).map V.int)) = H4 at *
    refine ⟨_, rfl, _, rfl, p4, _, rfl, .inl (.inl h4), fun p5 hp5 => ?_⟩
    have ec : cutV ((ms ++ [0, 0, 0, 0, 0, 0]).map V.int) none (some ((ns.getD 0 0).fmod 7)) = ((ms ++ [0, 0, 0, 0, 0, 0]).take n).map V.int := by
      rw [en]
      unfold cutV
      rw [HT.sIx_none, HT.sIx_nat, List.drop_zero, Nat.sub_zero, List.map_take]
      congr 1
      rw [List.length_map, List.length_append]
      show min n (ms.length + 6) = n
      omega
    rw [ec]
    have lt5 : ((ms ++ [0, 0, 0, 0, 0, 0]).take n).length = n := by
      rw [List.length_take, List.length_append]
      show min n (ms.length + 6) = n
      omega
    generalize (ms ++ [0, 0, 0, 0, 0, 0]).take n = cells at *
    have s5 : Same H4 (upd H4 p5 (.lst (cells.map V.int))) := same_upd hp5
    have h5 : (upd H4 p5 (.lst (cells.map V.int))) p5 = some (.lst (cells.map V.int)) := upd_same
    have s05 : Same H (upd H4 p5 (.lst (cells.map V.int))) := s1.trans (s2.trans (s3.trans (s4.trans s5)))
    generalize upd H4 p5 (.lst (cells.map V.int)) = H5 at *
    refine ⟨p5, rfl, ⟨_, .inl (.inl h5)⟩, fun D hD => ?_⟩
    refine lc_list (K := K) (a := p5) (xs := cells.map V.int) (fun i H' => Same H5 H' ∧ ∃ cs : List Nat, cs.length = i ∧ cs.all az = true ∧ H' D = some (.lst (cs.map fun c => V.str (T [c]))))
      ⟨same_upd hD, [], rfl, rfl, upd_same⟩ (fun i H' _ hW => .inl (.inl (hW.1 _ _ h5))) (fun i x H' hx hW => ?_) (fun H6 hW => ?_)
    · obtain ⟨sm, cs, hcl, hca, hD'⟩ := hW
      obtain ⟨z, rfl⟩ : ∃ z, x = .int z := by
        rw [List.getElem?_map] at hx
        cases e : cells[i]? with
        | none =>
          rw [e] at hx
          cases hx
        | some z =>
          rw [e] at hx
          exact ⟨z, (Option.some.inj hx).symm⟩
      have hi : i < cells.length := by
        have := (List.getElem?_eq_some_iff.mp hx).1
        rw [List.length_map] at this
        exact this
      obtain ⟨j, ej, hj⟩ := modK z (show 0 < 6 by decide)
      have ej : z.fmod 6 = (j : Int) := ej
      obtain ⟨c, hc, hz⟩ := six_at hj
      refine ⟨rfl, _, rfl, _, 6, rfl, rfl, show (6 : Int) ≠ 0 by decide, _, _, c, rfl, rfl, by decide, by rw [ej]; exact hc, _, hD', ?_, fun b u e => ?_, cs ++ [c], ?_, ?_, ?_⟩
      · rw [List.length_map, hcl]
        exact small1000 (by omega)
      · rw [upd_ne (ne_of_none e hD)]
        exact sm b u e
      · rw [List.length_append, hcl]
        rfl
      · refine all_app hca ?_
        show (az c && true) = true
        rw [hz]
        rfl
      · rw [upd_same, List.map_append]
        rfl
    obtain ⟨s6, t, htl, htz, hD6⟩ := hW
    rw [List.length_map, lt5] at htl
    have sq : SqL K H6 D ((t.map fun c => T [c]).map V.str) := by
      rw [List.map_map]
      exact .inl (.inl hD6)
    refine ⟨_, D, _, rfl, rfl, .inl sq, ?_, ?_⟩
    · have e0 : ∀ l : List Nat, ((l.map fun c => T [c]).map (·.length)).sum = l.length := fun l => by
        induction l with
        | nil => rfl
        | cons c r ih =>
          show (T [c]).length + (((r.map fun c => T [c]).map (·.length)).sum) = r.length + 1
          rw [ih, T_len]
          show 1 + r.length = r.length + 1
          omega
      rw [e0, List.length_map]
      show t.length + t.length * 0 ≤ 16777216
      omega
    rw [join_signs]
    have s06 : Same H H6 := s05.trans s6
    -- its arms
    refine ⟨_, rfl, t, rfl, by omega, fun H7 p7 s7 hp7 h7 => ?_⟩
    have s07 := s06.trans s7
    have b4 : (0 : Int) ≤ ((ns.getD 0 0).fdiv 7).fmod 4 ∧ ((ns.getD 0 0).fdiv 7).fmod 4 < 4 := by
      obtain ⟨j, ej, hj⟩ := modK ((ns.getD 0 0).fdiv 7) (show 0 < 4 by decide)
      have ej : ((ns.getD 0 0).fdiv 7).fmod 4 = (j : Int) := ej
      omega
    refine ⟨_, rfl, 7, rfl, _, rfl, a, ns, 0, rfl, s07.seq hS, _, 7, rfl, rfl, ⟨by decide, by decide⟩, _, 4, rfl, rfl, show (4 : Int) ≠ 0 by decide, _, rfl, a, ns, 0, rfl, s07.seq hS, _, 28, rfl, rfl, ⟨by decide, by decide⟩, _, 2, rfl, rfl, show (2 : Int) ≠ 0 by decide,
      _, _, rfl, rfl, .inl ⟨by omega, by omega⟩, 7, _, rfl, rfl, _, rfl, a, _, rfl, s07.seq hS, fun p8 hp8 => ?_⟩
    generalize hlo : (7 : Int) + ((ns.getD 0 0).fdiv 7).fmod 4 * ((ns.getD 0 0).fdiv 28).fmod 2 = hi8
    obtain ⟨ws, hws⟩ := cut_map ns (some 7) (some hi8)
    rw [hws]
    have s8 : Same H7 (upd H7 p8 (.lst (ws.map V.int))) := same_upd hp8
    have h8 : (upd H7 p8 (.lst (ws.map V.int))) p8 = some (.lst (ws.map V.int)) := upd_same
    have np : p7 ≠ p8 := ne_of_none h7 hp8
    generalize upd H7 p8 (.lst (ws.map V.int)) = H8 at *
    have s68 : Same H6 H8 := s7.trans s8
    refine ⟨p8, rfl, ⟨_, .inl (.inl h8)⟩, ?_⟩
    refine for_list (K := K) (a := p8) (xs := ws.map V.int) (fun i σ H' => Same H6 H' ∧ H' p8 = some (.lst (ws.map V.int)) ∧ ∃ (rs : List Nat) (y4 y5 : Option V), σ = [some (.ref a), some (.int (n : Int)), some (.str (T t)), some (.ref p7), y4, y5, none, none, none, none] ∧ H' p7 = some (.lst (rs.map nV)) ∧ Fits n rs)
      ⟨s68, h8, armsL t, none, none, ?_, s8 _ _ h7, by rw [← htl]; exact Fits.arms⟩ (fun i σ H' _ hW => .inl (.inl hW.2.1)) (fun i x σ H' hx hW => ?_) (fun σ H' hW => ?_)
    · show [some (V.ref a), some (V.int ((ns.getD 0 0).fmod 7)), some (V.str (T t)), some (V.ref p7), none, none, none, none, none, none] = _
      rw [en]
    · obtain ⟨sm, hw8, rs, y4, y5, rfl, hr, ft⟩ := hW
      obtain ⟨z, rfl⟩ : ∃ z, x = .int z := by
        rw [List.getElem?_map] at hx
        cases e : ws[i]? with
        | none =>
          rw [e] at hx
          cases hx
        | some z =>
          rw [e] at hx
          exact ⟨z, (Option.some.inj hx).symm⟩
      refine ⟨_, rfl, Nat.zero_le _, fun p9 hp9 => ?_⟩
      have s9 : Same H' (upd H' p9 (.lst [])) := same_upd hp9
      refine ⟨_, _, .lst (.inl (.inl (s9 _ _ hr))) (dp_ints rs), .lst (.inl (.inl upd_same)) (dp_ints []), shaped_list (okd_nats rs), shaped_list (okd_nats []), _, rfl, ?_⟩
      have hr9 := s9 _ _ hr
      have hw9 := s9 _ _ hw8
      have sm9 := sm.trans s9
      generalize upd H' p9 (.lst []) = H9 at *
      have ev : PyData.eqv (.list (rs.map fun n : Nat => PyData.int (n : Int))) (.list (([] : List Nat).map fun n : Nat => PyData.int (n : Int))) = decide (rs = []) := eqv_nats rs []
      rw [ev]
      by_cases c : rs = []
      · rw [decide_eq_true c]
        exact iteF ⟨sm9, hw9, rs, _, _, rfl, hr9, ft⟩
      · rw [decide_eq_false c]
        have rl : 0 < rs.length := List.length_pos_iff.mpr c
        have fl := ft.len
        obtain ⟨k, ek, hk⟩ := modK z rl
        have el : ((rs.map nV).length : Int) = (rs.length : Int) := by rw [List.length_map]
        refine iteT ⟨_, rfl, _, rfl, p7, _, rfl, .inl (.inl (.inl hr9)), z, _, rfl, rfl, ?_, ?_⟩
        · rw [el]
          show (rs.length : Int) ≠ 0
          omega
        obtain ⟨r, er, hr'⟩ := modK (z.fdiv (rs.length : Int)) (show 0 < 1 + roomN k (2 * n - 1) by omega)
        refine ⟨_, rfl, _, rfl, p7, _, rfl, .inl (.inl (.inl hr9)), z, _, rfl, rfl, ?_, ?_⟩
        · rw [el]
          exact ⟨by omega, by omega⟩
        refine ⟨_, rfl, _, rfl, k, n, ?_, by omega, 1, _, rfl, rfl, _, _, rfl, rfl, ?_, ?_⟩
        · show [V.int (z.fmod ((rs.map nV).length : Int)), V.int (n : Int)] = _
          rw [el, ek]
        · show (1 : Int) + (roomN k (2 * n - 1) : Int) ≠ 0
          omega
        have e2 : (z.fdiv ((rs.map nV).length : Int)).fmod (1 + (roomN k (2 * n - 1) : Int)) = (r : Int) := by
          rw [el]
          have q1 : ((1 + roomN k (2 * n - 1) : Nat) : Int) = 1 + (roomN k (2 * n - 1) : Int) := by omega
          rw [← q1]
          exact er
        refine ⟨_, rfl, _, rfl, p7, rs.map nV, _, k, rfl, rfl, hr9, ?_, ?_⟩
        · rw [el, ek, List.length_map]
          exact ixNat hk
        refine ⟨fun b u e => ?_, ?_, rs.set k r, _, _, rfl, ?_, fits_set ft hk (by omega)⟩
        · rw [upd_ne (ne_of_none e hp7)]
          exact sm9 b u e
        · rw [upd_ne np.symm]
          exact hw9
        · rw [upd_same]
          show some (HO.lst ((rs.map nV).set k (V.int ((z.fdiv ((rs.map nV).length : Int)).fmod (1 + (roomN k (2 * n - 1) : Int)))))) = _
          rw [e2]
          show some (HO.lst ((rs.map nV).set k (nV r))) = _
          rw [set_nats]
    · obtain ⟨sm, hw8, rs, y4, y5, rfl, hr, ft⟩ := hW
      obtain ⟨d1, d2⟩ := due_fits ft (by omega)
      -- those that fit
      refine ⟨_, rfl, n, rfl, by omega, fun H9 p9 s9 h9 => ?_⟩
      refine ⟨p9, rfl, ⟨_, .inl (.inl h9)⟩, fun D2 hD2 => ?_⟩
      have hr9 := s9 _ _ hr
      refine lc_list (K := K) (a := p9) (xs := (allL n).map sV) (fun i H' => Same H9 H' ∧ H' D2 = some (.lst ((((allL n).take i).filter fun u => decide (armsL u = rs)).map sV))) ⟨same_upd hD2, upd_same⟩ (fun i H' _ hW => .inl (.inl (hW.1 _ _ h9))) (fun i x H' hx hW => ?_) (fun H10 hW => ?_)
      · obtain ⟨s10, hd⟩ := hW
        obtain ⟨u, hu', rfl⟩ : ∃ u, (allL n)[i]? = some u ∧ x = sV u := by
          rw [List.getElem?_map] at hx
          cases e : (allL n)[i]? with
          | none =>
            rw [e] at hx
            cases hx
          | some u =>
            rw [e] at hx
            exact ⟨u, rfl, (Option.some.inj hx).symm⟩
        obtain ⟨ul, _⟩ := allL_ok n u (List.mem_of_getElem? hu')
        have il : i < (allL n).length := (List.getElem?_eq_some_iff.mp hu').1
        have ln : (allL n).length ≤ 46656 := Nat.le_trans (allL_len n) (pow6 (by omega))
        refine ⟨rfl, _, rfl, u, rfl, by omega, fun H11 p11 s11 hp11 h11 => ?_⟩
        refine ⟨_, rfl, _, _, .lst (.inl (.inl h11)) (dp_ints _), .lst (.inl (.inl (s11 _ _ (s10 _ _ hr9)))) (dp_ints _), shaped_nats _, shaped_nats _, _, rfl, ?_⟩
        have ev : PyData.eqv (.list ((armsL u).map fun n : Nat => PyData.int (n : Int))) (.list (rs.map fun n : Nat => PyData.int (n : Int))) = decide (armsL u = rs) := eqv_nats _ _
        rw [ev, take_succ_of hu', List.filter_append]
        cases ce : decide (armsL u = rs) with
        | true =>
          refine iteT ⟨_, rfl, _, s11 _ _ hd, ?_, fun b w e => ?_, ?_⟩
          · rw [List.length_map]
            have z : (((allL n).take i).filter fun u => decide (armsL u = rs)).length ≤ 46656 := Nat.le_trans (List.length_filter_le _ _) (by rw [List.length_take]; omega)
            exact Nat.lt_of_le_of_lt z (by decide)
          · rw [upd_ne (ne_of_none e hD2)]
            exact s11 b w (s10 b w e)
          · rw [upd_same, List.filter_cons_of_pos (by exact ce), List.filter_nil, List.map_append]
            rfl
        | false =>
          refine iteF ⟨s10.trans s11, ?_⟩
          rw [List.filter_cons_of_neg (by rw [ce]; exact Bool.false_ne_true), List.filter_nil, List.append_nil]
          exact s11 _ _ hd
      · obtain ⟨s10, hd⟩ := hW
        rw [List.length_map, List.take_length] at hd
        have hr10 := s10 _ _ hr9
        refine ⟨fun σ' H' => H' = H10 ∧ σ' = [some (.ref a), some (.int (n : Int)), some (.str (T t)), some (.ref p7), y4, y5, some (.ref D2), some (.str (T (dueL rs))), none, none], ?_, fun σ' H' hM => ?_⟩
        · refine ⟨_, rfl, D2, fitsL n rs, _, rfl, rfl, .inl (.inl hd), fun e => ⟨rfl, ?_⟩, fun m hm hl => ⟨rfl, ?_⟩⟩
          · have e2 : dueL rs = noneL := by
              unfold dueL
              rw [if_pos (d1 e)]
            rw [e2, ← none_txt]
            rfl
          · rw [← d2 m hm hl]
            rfl
        · obtain ⟨rfl, rfl⟩ := hM
          refine ⟨_, rfl, p7, _, rfl, .inl (.inl (.inl hr10)), fun p12 hp12 => ?_⟩
          have s12 : Same H' (upd H' p12 (.lst (rs.map nV))) := same_upd hp12
          have h12 : (upd H' p12 (.lst (rs.map nV))) p12 = some (.lst (rs.map nV)) := upd_same
          have hr12 := s12 _ _ hr10
          generalize upd H' p12 (.lst (rs.map nV)) = H12 at *
          refine ⟨_, rfl, p12, n, rs, rfl, h12, ft, by omega, fun H13 s13 => ⟨_, rfl, rfl, _, rfl, ?_⟩⟩
          rw [decide_eq_true rfl]
          refine iteT ⟨_, rfl, _, rfl, _, _, .lst (.inl (.inl (s13 _ _ h12))) (dp_ints _), .lst (.inl (.inl (s13 _ _ hr12))) (dp_ints _), shaped_nats _, shaped_nats _, _, rfl, ?_⟩
          rw [eqv_lists]
          refine iteT ⟨_, rfl, p12, n, rs, rfl, s13 _ _ h12, ft, by omega, fun H14 s14 => ⟨_, rfl, rfl, ?_⟩⟩
          rw [decide_eq_true rfl]
          exact q H14
end
end Mw
namespace Mw
open PySem PySem.Spec PyProof.Rows L2
theorem all_mk {l : PySem.W.OpenLaw} {qq : Program} {w : World} {K : PySem.W.Frag} {h : Heap} {mg : Str → Option Value} {fa : Addr} (X : K.In h) (G : h.Ns mainGlobals mg) (hfa : mg "law" = some (.ref fa))
    {f1 : Addr} {od1 an1 : Option Addr} {sl1 : Array (Option Value)} {oc1 kV1 dc1 pm1 ct1 cd1 : Value}
    (a1 : PySem.W.nsIn K mainGlobals "arm_at" = some (some (.ref f1))) (l1 : K.lookup f1 = some ⟨oc1, od1, .func (PySem.W.fnOf "arm_at" "arm_at" (defArgs sArmAt) (defBody sArmAt) (defScope sArmAt) .none kV1 dc1 pm1 an1 cd1 ct1), sl1⟩) (c1 : PySem.W.codeIn K cd1 "arm_at" = true) (k1 : PySem.W.keepIn K (.ref f1) = true)
    {f2 : Addr} {od2 an2 : Option Addr} {sl2 : Array (Option Value)} {oc2 kV2 dc2 pm2 ct2 cd2 : Value}
    (a2 : PySem.W.nsIn K mainGlobals "is_number_to" = some (some (.ref f2))) (l2 : K.lookup f2 = some ⟨oc2, od2, .func (PySem.W.fnOf "is_number_to" "is_number_to" (defArgs sNumTo) (defBody sNumTo) (defScope sNumTo) .none kV2 dc2 pm2 an2 cd2 ct2), sl2⟩) (c2 : PySem.W.codeIn K cd2 "is_number_to" = true) (k2 : PySem.W.keepIn K (.ref f2) = true)
    {f3 : Addr} {od3 an3 : Option Addr} {sl3 : Array (Option Value)} {oc3 kV3 dc3 pm3 ct3 cd3 : Value}
    (a3 : PySem.W.nsIn K mainGlobals "are_middles" = some (some (.ref f3))) (l3 : K.lookup f3 = some ⟨oc3, od3, .func (PySem.W.fnOf "are_middles" "are_middles" (defArgs sAreMid) (defBody sAreMid) (defScope sAreMid) .none kV3 dc3 pm3 an3 cd3 ct3), sl3⟩) (c3 : PySem.W.codeIn K cd3 "are_middles" = true) (k3 : PySem.W.keepIn K (.ref f3) = true)
    {f4 : Addr} {od4 an4 : Option Addr} {sl4 : Array (Option Value)} {oc4 kV4 dc4 pm4 ct4 cd4 : Value}
    (a4 : PySem.W.nsIn K mainGlobals "room_at" = some (some (.ref f4))) (l4 : K.lookup f4 = some ⟨oc4, od4, .func (PySem.W.fnOf "room_at" "room_at" (defArgs sRoom) (defBody sRoom) (defScope sRoom) .none kV4 dc4 pm4 an4 cd4 ct4), sl4⟩) (c4 : PySem.W.codeIn K cd4 "room_at" = true) (k4 : PySem.W.keepIn K (.ref f4) = true)
    {f5 : Addr} {od5 an5 : Option Addr} {sl5 : Array (Option Value)} {oc5 kV5 dc5 pm5 ct5 cd5 : Value}
    (a5 : PySem.W.nsIn K mainGlobals "is_arms" = some (some (.ref f5))) (l5 : K.lookup f5 = some ⟨oc5, od5, .func (PySem.W.fnOf "is_arms" "is_arms" (defArgs sIsArms) (defBody sIsArms) (defScope sIsArms) .none kV5 dc5 pm5 an5 cd5 ct5), sl5⟩) (c5 : PySem.W.codeIn K cd5 "is_arms" = true) (k5 : PySem.W.keepIn K (.ref f5) = true)
    {f6 : Addr} {od6 an6 : Option Addr} {sl6 : Array (Option Value)} {oc6 kV6 dc6 pm6 ct6 cd6 : Value}
    (a6 : PySem.W.nsIn K mainGlobals "next_letter" = some (some (.ref f6))) (l6 : K.lookup f6 = some ⟨oc6, od6, .func (PySem.W.fnOf "next_letter" "next_letter" (defArgs sNext) (defBody sNext) (defScope sNext) .none kV6 dc6 pm6 an6 cd6 ct6), sl6⟩) (c6 : PySem.W.codeIn K cd6 "next_letter" = true) (k6 : PySem.W.keepIn K (.ref f6) = true)
    {f7 : Addr} {od7 an7 : Option Addr} {sl7 : Array (Option Value)} {oc7 kV7 dc7 pm7 ct7 cd7 : Value}
    (a7 : PySem.W.nsIn K mainGlobals "least_text" = some (some (.ref f7))) (l7 : K.lookup f7 = some ⟨oc7, od7, .func (PySem.W.fnOf "least_text" "least_text" (defArgs sLeast) (defBody sLeast) (defScope sLeast) .none kV7 dc7 pm7 an7 cd7 ct7), sl7⟩) (c7 : PySem.W.codeIn K cd7 "least_text" = true) (k7 : PySem.W.keepIn K (.ref f7) = true)
    {f8 : Addr} {od8 an8 : Option Addr} {sl8 : Array (Option Value)} {oc8 kV8 dc8 pm8 ct8 cd8 : Value}
    (a8 : PySem.W.nsIn K mainGlobals "_law_draw" = some (some (.ref f8))) (l8 : K.lookup f8 = some ⟨oc8, od8, .func (PySem.W.fnOf "_law_draw" "_law_draw" (defArgs sDraw) (defBody sDraw) (defScope sDraw) .none kV8 dc8 pm8 an8 cd8 ct8), sl8⟩) (c8 : PySem.W.codeIn K cd8 "_law_draw" = true) (k8 : PySem.W.keepIn K (.ref f8) = true)
    {f9 : Addr} {od9 an9 : Option Addr} {sl9 : Array (Option Value)} {oc9 kV9 dc9 pm9 ct9 cd9 : Value}
    (a9 : PySem.W.nsIn K mainGlobals "_law_arms" = some (some (.ref f9))) (l9 : K.lookup f9 = some ⟨oc9, od9, .func (PySem.W.fnOf "_law_arms" "_law_arms" (defArgs sLArms) (defBody sLArms) (defScope sLArms) .none kV9 dc9 pm9 an9 cd9 ct9), sl9⟩) (c9 : PySem.W.codeIn K cd9 "_law_arms" = true) (k9 : PySem.W.keepIn K (.ref f9) = true)
    {f10 : Addr} {od10 an10 : Option Addr} {sl10 : Array (Option Value)} {oc10 kV10 dc10 pm10 ct10 cd10 : Value}
    (a10 : PySem.W.nsIn K mainGlobals "_law_all" = some (some (.ref f10))) (l10 : K.lookup f10 = some ⟨oc10, od10, .func (PySem.W.fnOf "_law_all" "_law_all" (defArgs sLAll) (defBody sLAll) (defScope sLAll) .none kV10 dc10 pm10 an10 cd10 ct10), sl10⟩) (c10 : PySem.W.codeIn K cd10 "_law_all" = true) (k10 : PySem.W.keepIn K (.ref f10) = true)
    {f11 : Addr} {od11 an11 : Option Addr} {sl11 : Array (Option Value)} {oc11 kV11 dc11 pm11 ct11 cd11 : Value}
    (a11 : PySem.W.nsIn K mainGlobals "_law_most" = some (some (.ref f11))) (l11 : K.lookup f11 = some ⟨oc11, od11, .func (PySem.W.fnOf "_law_most" "_law_most" (defArgs sLMost) (defBody sLMost) (defScope sLMost) .none kV11 dc11 pm11 an11 cd11 ct11), sl11⟩) (c11 : PySem.W.codeIn K cd11 "_law_most" = true) (k11 : PySem.W.keepIn K (.ref f11) = true)
    {f12 : Addr} {od12 an12 : Option Addr} {sl12 : Array (Option Value)} {oc12 kV12 dc12 pm12 ct12 cd12 : Value}
    (a12 : PySem.W.nsIn K mainGlobals "_law_said" = some (some (.ref f12))) (l12 : K.lookup f12 = some ⟨oc12, od12, .func (PySem.W.fnOf "_law_said" "_law_said" (defArgs sLSaid) (defBody sLSaid) (defScope sLSaid) .none kV12 dc12 pm12 an12 cd12 ct12), sl12⟩) (c12 : PySem.W.codeIn K cd12 "_law_said" = true) (k12 : PySem.W.keepIn K (.ref f12) = true)
    {f13 : Addr} {od13 an13 : Option Addr} {sl13 : Array (Option Value)} {oc13 kV13 dc13 pm13 ct13 cd13 : Value}
    (a13 : PySem.W.nsIn K mainGlobals "law" = some (some (.ref f13))) (l13 : K.lookup f13 = some ⟨oc13, od13, .func (PySem.W.fnOf "law" "law" (defArgs sLaw) (defBody sLaw) (defScope sLaw) .none kV13 dc13 pm13 an13 cd13 ct13), sl13⟩) (c13 : PySem.W.codeIn K cd13 "law" = true) (k13 : PySem.W.keepIn K (.ref f13) = true)
    (z1 : PySem.W.nsIn K mainGlobals "isinstance" = some none)
    (z2 : PySem.W.nsIn K mainGlobals "len" = some none)
    (z3 : PySem.W.nsIn K mainGlobals "all" = some none)
    (z4 : PySem.W.nsIn K mainGlobals "any" = some none)
    (z5 : PySem.W.nsIn K mainGlobals "int" = some none)
    (z6 : PySem.W.nsIn K mainGlobals "bool" = some none)
    (z7 : PySem.W.nsIn K mainGlobals "range" = some none)
    (z8 : PySem.W.nsIn K mainGlobals "list" = some none)
    (z9 : PySem.W.nsIn K mainGlobals "min" = some none)
    (z10 : PySem.W.nsIn K mainGlobals "enumerate" = some none)
    (z11 : PySem.W.nsIn K mainGlobals "set" = some none)
    (z12 : PySem.W.nsIn K mainGlobals "ValueError" = some none)
    {C0 : Addr} (e0 : PySem.W.nsIn K mainGlobals "MirrorError" = some (some (.ref C0)))
    {C1 : Addr} (e1 : PySem.W.nsIn K mainGlobals "BadArms" = some (some (.ref C1)))
    {C2 : Addr} (e2 : PySem.W.nsIn K mainGlobals "BadLetter" = some (some (.ref C2)))
    {C3 : Addr} (e3 : PySem.W.nsIn K mainGlobals "BadWord" = some (some (.ref C3)))
    {C4 : Addr} (e4 : PySem.W.nsIn K mainGlobals "Full" = some (some (.ref C4)))
    {C5 : Addr} (e5 : PySem.W.nsIn K mainGlobals "NoPlace" = some (some (.ref C5)))
    {C7 : Addr} (e7 : PySem.W.nsIn K mainGlobals "NoText" = some (some (.ref C7)))
    {C8 : Addr} (e8 : PySem.W.nsIn K mainGlobals "BadText" = some (some (.ref C8)))
    {tm : Tok} (gm : PySem.W.nsIn K mainGlobals "MOST" = some (some (.int 200 tm)))
    {tl : Tok} (gl : PySem.W.nsIn K mainGlobals "LETTERS" = some (some (.str "abcdefghijklmnopqrstuvwxyz" tl)))
    (x1 : PySem.W.excIn K C1 [.type "ValueError", .type "Exception", .type "BaseException", .type "object"] "ValueError.__new__" = true)
    (xk1 : PySem.W.keepIn K (.ref C1) = true) (xb1 : PySem.W.subIn K (.ref C1) (.type "BaseException") = some true) (xt1 : PySem.W.typeIn K (.ref C1) = some (.type "type"))
    (x7 : PySem.W.excIn K C7 [.type "ValueError", .type "Exception", .type "BaseException", .type "object"] "ValueError.__new__" = true)
    (xk7 : PySem.W.keepIn K (.ref C7) = true) (xb7 : PySem.W.subIn K (.ref C7) (.type "BaseException") = some true) (xt7 : PySem.W.typeIn K (.ref C7) = some (.type "type"))
    (y71 : PySem.W.findIn K (.ref C7) "__getattribute__" = some (some (.builtin "BaseException.__getattribute__"))) (y72 : PySem.W.findIn K (.ref C7) "__getattr__" = some none) (y73 : PySem.W.hasDictIn K C7 = true) (y74 : PySem.W.findIn K (.ref C7) "__class__" = some (some (.builtin "object.__class__")))
    (y77 : PySem.W.mroIn K C7 (.type "object") = some true)
    (y5 : PySem.W.specialIn K (.builtin "object.__class__") "__get__" = some (some (.builtin "getset_descriptor.__get__"))) (y6 : PySem.W.takesIn K (.builtin "object.__class__") = some true)
    (t1 : PySem.W.exmOne K (.ref C7) (.ref C0) = some true) (t2 : PySem.W.kitAny K (.ref C7) [.ref C1, .ref C2, .ref C8, .ref C3, .ref C4, .ref C5] = some false) (t3 : PySem.W.kitOne K (.ref C7) (.ref C7) = some true) (t4 : PySem.W.kitOne K (.ref C7) (.type "ValueError") = some true)
    (tabs : ∀ (y : Str) (c P : Addr), ((recsOf qq).find? (fun e => e.name == y)).isSome = true → PySem.W.tabIn K y = some (c, P) → PySem.W.CodeHd h c P ∧ h.get? P = some { cls := .none, data := .fields #[] })
 :
    LamX.LawAtS l w K CX0 5 63 "_law_script" mg fa h := by
  have e := hfa.symm.trans (PySem.W.mg_of X G a13)
  cases e
  have F1 := fun_mk (st := sArmAt) l1 c1 k1
  have F2 := fun_mk (st := sNumTo) l2 c2 k2
  have F3 := fun_mk (st := sAreMid) l3 c3 k3
  have F4 := fun_mk (st := sRoom) l4 c4 k4
  have F5 := fun_mk (st := sIsArms) l5 c5 k5
  have F6 := fun_mk (st := sNext) l6 c6 k6
  have F7 := fun_mk (st := sLeast) l7 c7 k7
  have F8 := fun_mk (st := sDraw) l8 c8 k8
  have F9 := fun_mk (st := sLArms) l9 c9 k9
  have F10 := fun_mk (st := sLAll) l10 c10 k10
  have F11 := fun_mk (st := sLMost) l11 c11 k11
  have F12 := fun_mk (st := sLSaid) l12 c12 k12
  have F13 := fun_mk (st := sLaw) l13 c13 k13
  have b1 := F1.binds (ps := ["text", "middle"]) fun _ _ _ _ _ _ us hl => match us, hl with | [_, _], _ => rfl
  have b2 := F2.binds (ps := ["thing", "most"]) fun _ _ _ _ _ _ us hl => match us, hl with | [_, _], _ => rfl
  have b3 := F3.binds (ps := ["many"]) fun _ _ _ _ _ _ us hl => match us, hl with | [_], _ => rfl
  have b4 := F4.binds (ps := ["middle", "many"]) fun _ _ _ _ _ _ us hl => match us, hl with | [_, _], _ => rfl
  have b5 := F5.binds (ps := ["thing"]) fun _ _ _ _ _ _ us hl => match us, hl with | [_], _ => rfl
  have b6 := F6.binds (ps := ["text", "arms"]) fun _ _ _ _ _ _ us hl => match us, hl with | [_, _], _ => rfl
  have b7 := F7.binds (ps := ["arms"]) fun _ _ _ _ _ _ us hl => match us, hl with | [_], _ => rfl
  have b8 := F8.binds (ps := ["_law_script", "_law_k"]) fun _ _ _ _ _ _ us hl => match us, hl with | [_, _], _ => rfl
  have b9 := F9.binds (ps := ["_law_text"]) fun _ _ _ _ _ _ us hl => match us, hl with | [_], _ => rfl
  have b10 := F10.binds (ps := ["_law_many"]) fun _ _ _ _ _ _ us hl => match us, hl with | [_], _ => rfl
  have b11 := F11.binds (ps := ["_law_middle", "_law_many"]) fun _ _ _ _ _ _ us hl => match us, hl with | [_, _], _ => rfl
  have b12 := F12.binds (ps := ["_law_reach"]) fun _ _ _ _ _ _ us hl => match us, hl with | [_], _ => rfl
  have g : ∀ {x : Str} {v : Value}, PySem.W.nsIn K mainGlobals x = some (some v) → mg x = some v := fun e => PySem.W.mg_of X G e
  have gn : ∀ {x : Str}, PySem.W.nsIn K mainGlobals x = some none → mg x = none := fun e => PySem.W.mg_none_of X G e
  refine ⟨PySem.W.fnOf "law" "law" (defArgs sLaw) (defBody sLaw) (defScope sLaw) .none kV13 dc13 pm13 an13 cd13 ct13, [], spLaw4 K, fun p hp => absurd hp List.not_mem_nil, fun p hp => absurd hp List.not_mem_nil, fun p hp => absurd hp List.not_mem_nil, fun s u => .of_eq rfl, fun H a ns hlen hbits hT hS => ⟨a, ns, rfl, hS, hlen, fun _ => rfl⟩, fun base _ _ TB => ?_⟩
  · skip
    have EA : ErrC K mg "BadArms" C1 := ⟨g e1, x1, xk1, xb1, xt1⟩
    have EN : ErrC K mg "NoText" C7 := ⟨g e7, x7, xk7, xb7, xt7⟩
    have N1 : Fn l.prog w K mg base CX0 1 "arm_at" f1 _ ["text", "middle"] spArmAt := ⟨ok_armAt F1 (gn z2), g a1, k1, b1⟩
    have N2 : Fn l.prog w K mg base CX0 1 "is_number_to" f2 _ ["thing", "most"] (spNumTo K) := ⟨ok_numTo F2 (gn z1) (gn z5) (gn z6), g a2, k2, b2⟩
    have N3 : Fn l.prog w K mg base CX0 1 "are_middles" f3 _ ["many"] spMids := ⟨ok_mids F3 (g gm), g a3, k3, b3⟩
    have N4 : Fn l.prog w K mg base CX0 1 "room_at" f4 _ ["middle", "many"] spRoom := ⟨ok_room F4 (gn z9), g a4, k4, b4⟩
    have N5 : Fn l.prog w K mg base CX0 2 "is_arms" f5 _ ["thing"] (spIsArms K) := ⟨ok_isArms F5 N2 N3 N4 (gn z1) (gn z8) (gn z2) (gn z3) (gn z10), g a5, k5, b5⟩
    have N6 : Fn l.prog w K mg base CX0 1 "next_letter" f6 _ ["text", "arms"] (spNext K) := ⟨ok_next F6 (gn z2) (gn z7) (gn z9) (g gl), g a6, k6, b6⟩
    have N7 : Fn l.prog w K mg base (L2.CX l.prog w) 3 "least_text" f7 _ ["arms"] (spLeast K C1 C7) := ⟨ok_least F7 N5 N6 N1 EA EN (gn z2) (gn z7) (gn z4) (gn z10), g a7, k7, b7⟩
    have N8 : Fn l.prog w K mg base CX0 1 "_law_draw" f8 _ ["_law_script", "_law_k"] (spDraw K) := ⟨ok_draw F8 (gn z2), g a8, k8, b8⟩
    have N9 : Fn l.prog w K mg base CX0 1 "_law_arms" f9 _ ["_law_text"] spLArms := ⟨ok_larms F9 (gn z2) (gn z7), g a9, k9, b9⟩
    have N10 : Fn l.prog w K mg base CX0 1 "_law_all" f10 _ ["_law_many"] spAll := ⟨ok_lall F10 (gn z7) (gn z2) (gn z11), g a10, k10, b10⟩
    have N11 : Fn l.prog w K mg base CX0 1 "_law_most" f11 _ ["_law_middle", "_law_many"] spMost := ⟨ok_lmost F11 (gn z9), g a11, k11, b11⟩
    have N12 : Fn l.prog w K mg base CX0 4 "_law_said" f12 _ ["_law_reach"] (spSaid K) := ⟨ok_lsaid F12 N7 ⟨y71, y72, xb7, y73, y74, y5, y6, y77⟩ (g e0) t1 (g e1) (g e2) (g e8) (g e3) (g e4) (g e5) (g e7) t2 t3 t4 (gn z1) (gn z12), g a12, k12, b12⟩
    exact ok_law F13 N8 N9 N10 N11 N12 (gn z2) (gn z8) (gn z9)
end Mw
open PySem PySem.W PyProof.Rows
set_option maxHeartbeats 0 in
theorem PySem.Challenge.cw_mirrorwords_k04_whole_least_of_all_texts_holds : PySem.Challenge.rw_mirrorwords_k04_whole_least_of_all_texts.Holds := by
  w_on; o_law; k_head; (case hw => w_witness2)
  k_fill
  refine Mw.walk_tab (l := PySem.Challenge.rw_mirrorwords_k04_whole_least_of_all_texts) (n := 63) (k := 5) (x := "_law_script") (CX := fun _ => L2.CX0) rfl (by decide) rfl ⟨rfl, by decide, by decide⟩ (fun w h Y => PySem.W.kIn_of Y) ?F (fun _ _ _ _ _ h => h)
  case F =>
    intro w mg fa h tabs KX G hmg
    refine' Mw.all_mk KX G hmg ?a1 ?l1 ?c1 ?k1 ?a2 ?l2 ?c2 ?k2 ?a3 ?l3 ?c3 ?k3 ?a4 ?l4 ?c4 ?k4 ?a5 ?l5 ?c5 ?k5 ?a6 ?l6 ?c6 ?k6 ?a7 ?l7 ?c7 ?k7 ?a8 ?l8 ?c8 ?k8 ?a9 ?l9 ?c9 ?k9 ?a10 ?l10 ?c10 ?k10 ?a11 ?l11 ?c11 ?k11 ?a12 ?l12 ?c12 ?k12 ?a13 ?l13 ?c13 ?k13 ?z1 ?z2 ?z3 ?z4 ?z5 ?z6 ?z7 ?z8 ?z9 ?z10 ?z11 ?z12 ?e0 ?e1 ?e2 ?e3 ?e4 ?e5 ?e7 ?e8 ?gm ?gl ?x1 ?xk1 ?xb1 ?xt1 ?x7 ?xk7 ?xb7 ?xt7 ?y71 ?y72 ?y73 ?y74 ?y77 ?y5 ?y6 ?t1 ?t2 ?t3 ?t4 tabs 
    (case a1 => k_is); (case l1 => k_is); (case c1 => k_is); (case k1 => k_is); (case a2 => k_is); (case l2 => k_is); (case c2 => k_is); (case k2 => k_is); (case a3 => k_is); (case l3 => k_is); (case c3 => k_is); (case k3 => k_is); (case a4 => k_is); (case l4 => k_is); (case c4 => k_is); (case k4 => k_is); (case a5 => k_is); (case l5 => k_is); (case c5 => k_is); (case k5 => k_is); (case a6 => k_is); (case l6 => k_is); (case c6 => k_is); (case k6 => k_is); (case a7 => k_is); (case l7 => k_is); (case c7 => k_is); (case k7 => k_is); (case a8 => k_is); (case l8 => k_is); (case c8 => k_is); (case k8 => k_is); (case a9 => k_is); (case l9 => k_is); (case c9 => k_is); (case k9 => k_is); (case a10 => k_is); (case l10 => k_is); (case c10 => k_is); (case k10 => k_is); (case a11 => k_is); (case l11 => k_is); (case c11 => k_is); (case k11 => k_is); (case a12 => k_is); (case l12 => k_is); (case c12 => k_is); (case k12 => k_is); (case a13 => k_is); (case l13 => k_is); (case c13 => k_is); (case k13 => k_is); (case z1 => k_is); (case z2 => k_is); (case z3 => k_is); (case z4 => k_is); (case z5 => k_is); (case z6 => k_is); (case z7 => k_is); (case z8 => k_is); (case z9 => k_is); (case z10 => k_is); (case z11 => k_is); (case z12 => k_is); (case e0 => k_is); (case e1 => k_is); (case e2 => k_is); (case e3 => k_is); (case e4 => k_is); (case e5 => k_is); (case e7 => k_is); (case e8 => k_is); (case gm => k_is); (case gl => k_is); (case x1 => k_exc); (case xk1 => k_is); (case xb1 => k_is); (case xt1 => k_is); (case x7 => k_exc); (case xk7 => k_is); (case xb7 => k_is); (case xt7 => k_is); (case y71 => k_is); (case y72 => k_is); (case y73 => k_is); (case y74 => k_is); (case y77 => k_is); (case y5 => k_is); (case y6 => k_is); (case t1 => kernel_rfl); (case t2 => kernel_rfl); (case t3 => kernel_rfl); (case t4 => kernel_rfl)
