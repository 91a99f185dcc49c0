import PyProof.Rows.All
import Wide.All
import OpenK.AllK
import Wide.FinOn
import HandS.ForMost
import HandS.ForExc
import HandS.AnyAll
import HandS.IsInst
import HandS.ExcIs
import HandS.ExcValue
import HandS.EndTab
import PySem.Challenge.RW_mirrorwords_k02_arms
set_option Elab.async false
set_option linter.all false
set_option maxRecDepth 100000
set_option maxHeartbeats 4000000
namespace Mw
open PySem PySem.Spec PyProof.Rows L2

/-! ### texts as lists of codes -/
def T (l : List Nat) : Str := ⟨l.toArray⟩
theorem T_tl (z : Str) : T (TL.tl z) = z := TL.ext_tl rfl
theorem tl_T (l : List Nat) : TL.tl (T l) = l := rfl
theorem T_len (l : List Nat) : (T l).length = l.length := by
  rw [TL.len_tl, tl_T]
theorem T_inj {a b : List Nat} (h : T a = T b) : a = b := congrArg TL.tl h
theorem T_app (a b : List Nat) : T a ++ T b = T (a ++ b) := TL.ext_tl (by rw [TL.tl_append]; rfl)
theorem T_dec (a b : List Nat) : decide (V.str (T a) = V.str (T b)) = decide (a = b) := by
  by_cases e : a = b
  · rw [e, decide_eq_true rfl, decide_eq_true rfl]
  · rw [decide_eq_false e, decide_eq_false fun z => e (T_inj (V.str.inj z))]

/-! ### the text read from behind -/
section
variable {X : Cx}
def tRevS (te : TE) : TE := fun σ H Q => te σ H fun x H1 => ∃ l : List Nat, x = .str (T l) ∧ l.length ≤ sizeLine ∧ Q (.str (T l.reverse)) H1
theorem rev_codes (l : List Nat) (u : Tok) : Txt.sliceBy (T l) none none (-1, u) = T l.reverse := by
  refine TL.ext_tl ?_
  show (Txt.sliceBy (T l) none none (-1, u)).cps.toList = l.reverse
  rw [step_rev_list, T_len]
  apply List.ext_getElem
  · rw [List.length_map, List.length_range, List.length_reverse]
  · intro i h1 h2
    have hi : i < l.length := by
      rw [List.length_reverse] at h2
      exact h2
    rw [List.getElem_map, List.getElem_range, List.getElem_reverse]
    show (l.toArray).getD (l.length - 1 - i) 0 = _
    have hj : l.length - 1 - i < l.length := by omega
    simp [Array.getD, hj]
theorem pe_revS {e : Expr} {te : TE} {k : Nat} {p1 p2 p3 pos : Pos} (he : PE X e te) : PE X (.Subscript e (.Slice none none (some (.UnaryOp .USub (.Constant (.int 1) k p1) p2)) p3) pos) (tRevS te) := by
  constructor
  intro pins s σ H Q I h
  refine Subscript_ (thn (he.run pins s σ H _ I h) fun v s1 hv => ?_)
  obtain ⟨x, H1, I1, r1, l, ex, hz, q⟩ := hv
  subst ex
  obtain ⟨t, rfl⟩ := r1
  have hst : PO X (some (.UnaryOp .USub (.Constant (.int 1) k p1) p2)) (tPart (tUn (rU fun i => .int (-i)) (tC (.int 1)))) := po_some (pe_un un_neg pe_int)
  refine wpAny_Slice (thn (po_none.run pins s1 σ H1 (fun o G => o = none ∧ G = H1) I1 ⟨rfl, rfl⟩) fun vl s2 hl => ?_)
  obtain ⟨o1, G1, J1, pl, rfl, rfl⟩ := hl
  refine thn (po_none.run pins s2 σ G1 (fun o G => o = none ∧ G = G1) J1 ⟨rfl, rfl⟩) fun vu s3 hu => ?_
  obtain ⟨o2, G2, J2, pu, rfl, rfl⟩ := hu
  refine thn (hst.run pins s3 σ G2 (fun o G => o = some (-1) ∧ G = G2) J2 ⟨1, rfl, -1, rfl, rfl, rfl⟩) fun vs s4 hs => ?_
  obtain ⟨o3, G3, J3, ps, rfl, rfl⟩ := hs
  have K5 : Inv X pins σ G3 { s4 with heap := s4.heap.push { cls := .type "slice", data := .fields #[vl, vu, vs] } } := J3.kept (t' := s4.toks) fun b ob z => Heap.get?_push_of_some _ z
  cases pl
  cases pu
  cases ps with
  | int i u =>
    refine tail_any (ops := [.str (T l) t, .ref s4.heap.objs.size]) (typeIs_str _ _ _) F.slot_str_getitem.lookup ?_ (by with_unfolding_all rfl)
    refine wpAny_getItem_str_slice (l := none) (u := none) (st := some (-1, u)) ⟨_, Heap.get?_push_size _ rfl, rfl, rfl⟩ rfl ?_
    have hne : ¬ ((((some ((-1 : Int), u)).map (·.1)).getD 1 == 1 && (slicePicked (T l) none none (some (-1, u))).length == (T l).length) = true) := by
      intro z
      have z1 := (Bool.and_eq_true _ _ ▸ z).1
      exact absurd (show ((-1 : Int) == 1) = true from z1) (by decide)
    have e1 := rev_codes l u
    unfold Txt.sliceBy at e1
    rw [if_neg hne] at e1
    unfold sliceMade
    rw [if_neg hne, e1]
    refine ⟨?_, .str (T l.reverse), G3, K5.tok _, ⟨_, rfl⟩, q⟩
    show (T l.reverse).length ≤ sizeLine
    rw [T_len, List.length_reverse]
    exact hz
end
end Mw
namespace Mw
open PySem PySem.Spec PyProof.Rows L2

/-! ### a text n times -/
theorem fold_cat (c : Array Nat) : ∀ (n : Nat) (acc : List Nat), ((List.replicate n c).foldl (· ++ ·) acc.toArray) = (acc ++ (List.replicate n c.toList).flatten).toArray
  | 0, acc => by simp
  | n + 1, acc => by
    have e : acc.toArray ++ c = (acc ++ c.toList).toArray := by simp
    rw [List.replicate_succ, List.foldl_cons, e, fold_cat c n, List.replicate_succ, List.flatten_cons, List.append_assoc]
theorem mul_T (l : List Nat) {n : Nat} (hn : 1 ≤ n) : Txt.mul (T l) (n : Int) = T (List.replicate n l).flatten := by
  unfold Txt.mul
  rw [if_neg (show ¬ ((n : Int) < 1) by omega)]
  by_cases c : (((n : Int) == 1) || (T l).length == 0) = true
  · rw [if_pos c]
    rcases (Bool.or_eq_true _ _).mp c with h | h
    · have e : n = 1 := by
        have := eq_of_beq h
        omega
      subst e
      simp [T]
    · have e : l = [] := by
        have e0 := eq_of_beq h
        rw [T_len] at e0
        exact List.length_eq_zero_iff.mp e0
      subst e
      simp [T]
  · rw [if_neg c, Int.toNat_natCast]
    show (⟨(List.replicate n l.toArray).foldl (· ++ ·) ([] : List Nat).toArray⟩ : Str) = _
    rw [fold_cat]
    simp [T]
def rRepS : R2 := fun x y H Q => ∃ (l : List Nat) (n : Nat), x = .str (T l) ∧ y = .int (n : Int) ∧ 1 ≤ n ∧ l.length * n ≤ sizeLine ∧ n ≤ 1000 ∧ Q (.str (T (List.replicate n l).flatten)) H
theorem op_repS {X : Cx} : OpR X (binaryOp .Mult) rRepS := by
  intro pins s σ H x y v u Q I rx ry h
  obtain ⟨l, n, rfl, rfl, hn, hz, hk, q⟩ := h
  obtain ⟨t, rfl⟩ := rx
  obtain ⟨t2, rfl⟩ := ry
  have hz' : l.length * n ≤ 16777216 := by
    rw [← sizeLine_eq]
    exact hz
  have hl : l.length ≤ 16777216 := Nat.le_trans (Nat.le_mul_of_pos_right _ hn) hz'
  refine SB.mul ⟨?_, fun _ _ => ?_, fun _ _ => ?_⟩ fun t' k => ?_
  · rw [decide_eq_false (by omega), decide_eq_false (by omega)]
    rfl
  · rw [T_len]
    have h1 : ((16777216 : Int)) ≤ (2 ^ 63 - 1) / (n : Int) := by
      refine Int.le_ediv_of_mul_le (by omega) ?_
      have : (16777216 : Int) * n ≤ 16777216 * 1000 := by omega
      refine Int.le_trans this (by decide)
    omega
  · unfold Builtin.Str.tooLong
    rw [T_len, Int.toNat_natCast]
    exact decide_eq_false (by omega)
  · rw [mul_T l hn]
    exact ⟨.str _, H, I.tok k, ⟨t', rfl⟩, q⟩

/-! ### letters -/
def az (c : Nat) : Bool := decide (97 ≤ c) && decide (c ≤ 122)
theorem lt_one (a b : Nat) : decide (([a] : List Nat) < [b]) = decide (a < b) := by
  by_cases h : a < b
  · rw [decide_eq_true h]
    exact decide_eq_true (List.Lex.rel h)
  · rw [decide_eq_false h]
    refine decide_eq_false fun z => ?_
    cases z with
    | rel k => exact h k
    | cons k => cases k
theorem elt_az {prog : Program} {w : World} {scope : Scope} {x : Str} {j j2 : Nat} {p1 p2 p3 p4 : Pos} (hk : scope.kind = .function) (hl : scope.names.lookup x = some .local) (hd : (x == ("__debug__" : Str)) = false := by decide) :
    GxR.EltP prog w scope x (.Compare (.Constant (.str "a") j p1) [.LtE, .LtE] [.Name x p2, .Constant (.str "z") j2 p3] p4) az := by
  intro cenv A' E' c t s₂ m₂ hs hn hm
  have nm : ∀ {s3 : Shared} {Q : Value → Shared → Prop}, s3.heap.Ns cenv.locals m₂ → Q (.str ⟨#[c]⟩ t) s3 → wpAny (model prog w) A' (eval (.Name x p2) cenv) Q E' s3 := fun {s3 Q} hn3 q =>
    wpAny_Name (wpAny_loadName_local (by rw [hs]; exact hk) (show cenv.scope.names.lookup x = some .local by rw [hs]; exact hl) hn3 hm q) hd
  refine Compare_chain (Calls.Constant_str (chain_link (nm hn (PySem.P.le_str ?_)))) (by with_unfolding_all rfl)
  have e1 : (!decide (([c] : List Nat) < [97])) = decide (97 ≤ c) := by
    rw [lt_one]
    by_cases h : c < 97
    · rw [decide_eq_true h, decide_eq_false (by omega)] <;> rfl
    · rw [decide_eq_false h, decide_eq_true (by omega)] <;> rfl
  have e2 : (!decide (([122] : List Nat) < [c])) = decide (c ≤ 122) := by
    rw [lt_one]
    by_cases h : 122 < c
    · rw [decide_eq_true h, decide_eq_false (by omega)] <;> rfl
    · rw [decide_eq_false h, decide_eq_true (by omega)] <;> rfl
  show wpAny _ _ (truthy (.bool (!decide (([c] : List Nat) < [97])))) _ _ _
  rw [e1]
  refine wpAny_truthy_bool ?_
  unfold az
  by_cases h : 97 ≤ c
  · rw [decide_eq_true h]
    refine ite_tt (chain_last (Calls.Constant_str (PySem.P.le_str ?_)))
    show (Value.bool (!decide (([122] : List Nat) < [c])) = _) ∧ _
    rw [e2, Bool.true_and]
    exact ⟨rfl, GxR.keeps_tok _ _⟩
  · rw [decide_eq_false h]
    refine ite_ff ⟨?_, GxR.keeps_tok _ _⟩
    show Value.bool (!decide (([c] : List Nat) < [97])) = Value.bool (false && decide (c ≤ 122))
    rw [e1, decide_eq_false h, Bool.false_and]
theorem genS {env : Env} {scope : Scope} {x : Str} (h1 : scope.kind = .function) (h2 : scope.isCoroutine = false) (h3 : ∀ y ∈ scope.names, y.2 = .local) (h4 : scope.names.lookup (".0" : Str) = some NameKind.local) (h5 : scope.names.lookup x = some .local) :
    GxR.GenS env scope x := ⟨h1, h2, fun y hy e => (by rw [h3 y hy] at e; cases e), h4, h5, fun y hy e => (by rw [h3 y hy] at e; cases e)⟩
end Mw
namespace Mw
open PySem PySem.Spec PyProof.Rows L2

/-! ### a def whose code object is told -/
theorem okC {P : Program} {w : World} {K : PySem.W.Frag} {mg : Str → Option Value} {base : Heap} {x qual : Str} {st : Stmt} {f : Addr} {fd : FuncData} {N ps : List Str} {k : Nat} {sp : Sp}
    (F : Fun K x qual st f fd) (S : FnScope N ps (defScope st)) (len : ∀ vs H Q E, sp vs H Q E → vs.length = ps.length)
    (body : ∀ (A : Around) (outer : List Env) (s : Shared) (H : Hp) (vs : List V) (Q : VK) (E : XK), Room k (A.deeper (envOfC qual (defScope st) s.heap.objs.size f fd.code)) → sp vs H Q E →
      ∃ t, PSs (cxOf CX0 P w K mg base N qual (defScope st) f fd.code A outer s H E).nox (defBody st) t ∧ t { nx := fun _ H' => Q .non H', rt := Q } (start N vs) H) :
    FnOk P w K mg base CX0 (k + 1) f fd ps sp := by
  obtain ⟨oc, od, kV, doc, pm, an, cdv, ct, osl, rfl, lk, hcd⟩ := F.ex
  refine fn_of lk hcd S len ?_
  intro A outer s H vs Q E hr hsp
  obtain ⟨t, h, q⟩ := body A outer s H vs Q E hr hsp
  exact ⟨t, h.nox, q⟩

/-! ### the heap behind a call: all stays but the table at P -/
structure Kp (P : Addr) (H H' : Hp) : Prop where
  tab : GxR.TabG H' P
  keep : ∀ b o, b ≠ P → H b = some o → H' b = some o
theorem Kp.refl {P : Addr} {H : Hp} (t : GxR.TabG H P) : Kp P H H := ⟨t, fun _ _ _ h => h⟩
theorem Kp.trans {P : Addr} {H H1 H2 : Hp} (a : Kp P H H1) (b : Kp P H1 H2) : Kp P H H2 := ⟨b.tab, fun c o n h => b.keep c o n (a.keep c o n h)⟩
theorem Kp.tabbed {P : Addr} {H H' : Hp} (t : GxR.Tabbed P H H') : Kp P H H' := ⟨t.1, fun b o n h => by rw [t.2 b n]; exact h⟩
theorem Kp.same {P : Addr} {H H' : Hp} (t : GxR.TabG H P) (s : Same H H') : Kp P H H' := by
  obtain ⟨ps, h1, h2⟩ := t
  exact ⟨⟨ps, s _ _ h1, h2⟩, fun b o _ h => s b o h⟩
theorem Kp.new {P p : Addr} {H : Hp} {o : HO} (t : GxR.TabG H P) (n : H p = none) : Kp P H (upd H p o) := .same t fun b u e => by
  rw [upd_ne (ne_of_none e n)]
  exact e
theorem Kp.step {P p : Addr} {H H1 : Hp} {o : HO} (a : Kp P H H1) (n : H1 p = none) : Kp P H (upd H1 p o) := a.trans (.new a.tab n)
/-- a list of one's own is written: what stood ahead of it stays -/
theorem Kp.own {P p : Addr} {H H1 : Hp} {o : HO} (a : Kp P H H1) (n : H p = none) (hp : p ≠ P) : Kp P H (upd H1 p o) := by
  refine ⟨?_, fun b u nb h => ?_⟩
  · obtain ⟨ps, h1, h2⟩ := a.tab
    exact ⟨ps, by rw [upd_ne (Ne.symm hp)]; exact h1, h2⟩
  · rw [upd_ne (ne_of_none h n)]
    exact a.keep b u nb h
theorem tab_ne {P p : Addr} {H : Hp} {o : HO} (t : GxR.TabG H P) (h : H p = some o) (n : ∀ ps, o ≠ .tbl ps) : p ≠ P := by
  obtain ⟨ps, h1, _⟩ := t
  exact ne_of h h1 (n ps)
theorem new_ne {P p : Addr} {H : Hp} (t : GxR.TabG H P) (h : H p = none) : p ≠ P := by
  obtain ⟨ps, h1, _⟩ := t
  exact (ne_of_none h1 h).symm
theorem Kp.lst {P p : Addr} {H H' : Hp} {xs : List V} (a : Kp P H H') (t : GxR.TabG H P) (h : H p = some (.lst xs)) : H' p = some (.lst xs) := a.keep _ _ (tab_ne t h fun _ z => by cases z) h
theorem Kp.seq {P p : Addr} {K : PySem.W.Frag} {H H' : Hp} {xs : List V} (a : Kp P H H') (t : GxR.TabG H P) (h : SqL K H p xs) : SqL K H' p xs := by
  rcases h with (h | ⟨o, h⟩) | h
  · exact .inl (.inl (a.lst t h))
  · exact .inl (.inr ⟨o, a.keep _ _ (tab_ne t h fun _ z => by cases z) h⟩)
  · exact .inr h
theorem Kp.free {P : Addr} {H H' : Hp} (a : Kp P H H') (t : GxR.TabG H P) {p : Addr} (h : H' p = none) : H p = none := by
  cases q : H p with
  | none => rfl
  | some o =>
    by_cases e : p = P
    · obtain ⟨ps, h1, _⟩ := a.tab
      rw [← e, h] at h1
      cases h1
    · rw [a.keep p o e q] at h
      cases h

/-! ### the law's end: the tables of code objects, by what the top says of them -/
theorem tab_from {K : PySem.W.Frag} {x : Str} {f c P : Addr} {o1 : Value} {o2 : Option Addr} {fd : FuncData} {o3 : Array (Option Value)} {e1 : Value} {e2 : Option Addr} {vs : Array Value} {e3 : Array (Option Value)}
    (a : PySem.W.nsIn K mainGlobals x = some (some (.ref f))) (l : K.lookup f = some ⟨o1, o2, .func fd, o3⟩) (hc : fd.code = .ref c) (lc : K.lookup c = some ⟨e1, e2, .fields vs, e3⟩) (hv : vs[11]? = some (.ref P)) : PySem.W.tabIn K x = some (c, P) := by
  unfold PySem.W.tabIn
  rw [a]
  show (match K.lookup f with
    | some ⟨_, _, .func fd, _⟩ => _
    | _ => none) = _
  rw [l]
  show (match fd.code with
    | .ref c => _
    | _ => none) = _
  rw [hc]
  show (match K.lookup c with
    | some ⟨_, _, .fields vs, _⟩ => _
    | _ => none) = _
  rw [lc]
  show (match (vs[11]? : Option Value) with
    | some (.ref P) => some (c, P)
    | _ => none) = _
  rw [hv]
theorem walk_tab {l : PySem.W.OpenLaw} {n k : Nat} {q : Program} {loose : List Str} {XP : (Str → Option Value) → Heap → Prop} {YP : World → Heap → Prop} {d : DefRec} {K : Params → PySem.W.Frag} {CX : World → CXT} {x : Str}
    (hn : l.most = some n) (hn2 : n ≤ sizeLine) (hdf : d.params.defaults = []) (hr : Room k callerA) (hY : ∀ (w : World) (h : Heap), YP w h → (K w.params).In h)
    (F : ∀ (w : World) (mg : Str → Option Value) (fa : Addr) (h : Heap),
      (∀ (y : Str) (c P : Addr), ((recsOf q).find? (fun e => e.name == y)).isSome = true → PySem.W.tabIn (K w.params) y = some (c, P) → PySem.W.CodeHd h c P ∧ h.get? P = some { cls := .none, data := .fields #[] }) →
      (K w.params).In h → h.Ns mainGlobals mg → mg d.name = some (.ref fa) → LamX.LawAtS l w (K w.params) (CX w) k n x mg fa h)
    (hCX : ∀ (w : World) (H : Hp) (s : Shared) (e : Value) (s' : Shared), CX w [] H s (fun _ _ _ => False) e s' → False) :
    PySem.W.WalkO q loose XP YP l.row.toRowW d [] (fun f vs => PySem.call f vs) := by
  refine Att.attach_callB hn hdf ?_
  intro w s₀ s₁ mg mb fa o pm cd doc a vs ns G Y ho hd hcd hmg hobj hints hlen hbits hg
  have KX := hY w _ Y
  have hF := F w mg fa _ (fun y c P hy ht => by
    obtain ⟨dd, hdd⟩ := Option.isSome_iff_exists.mp hy
    exact PySem.W.tab_of G.T KX hdd ht) KX G.T.g hmg
  obtain ⟨fd, cs, sp, hT, nT, C, hb, hsp, hok⟩ := hF
  refine LamX.law_callTs KX G.T.g G.T.b G.T.builtins G.T.nolimit hg hT nT C G.T.bmain hobj hints (Nat.le_trans hlen hn2) hr hok hb ?_ fun H e s' => hCX w H s₁ e s'
  exact fun H hH hS => hsp H a ns hlen hbits hH hS

/-! ### an error that is kept behind its except suite -/
/-- an error of the class at C stands at a -/
def ExS (C a : Addr) : HO := .ext fun h => ∃ (oe : Obj) (vs : Array Value), h.get? a = some oe ∧ Zc (.ref C) none oe ∧ oe.data = .fields vs
theorem exS_ok {P : Program} {w : World} {H : Hp} {h : Heap} {a C : Addr} {oe : Obj} {vs : Array Value} (e : h.get? a = some oe) (z : Zc (.ref C) none oe) (d : oe.data = .fields vs) : ObjOk P w H h a (ExS C a) :=
  ⟨⟨oe, vs, e, z, d⟩, ⟨oe, e⟩, fun _ _ ⟨o, v, q, r⟩ k => ⟨o, v, k o q, r⟩⟩
theorem exS_ne {C a : Addr} : ∀ ps, ExS C a ≠ .tbl ps := fun ps z => by
  unfold ExS at z
  cases z
section
variable {X : Cx} {pins : List (Addr × Obj)} {σ : L2.St} {H : Hp} {s : Shared}
theorem unpin {a : Addr} {q : Addr × Obj} (I : Inv (X.suite a (q :: (X.pn ++ pins))) [] σ H s) (ok : X.Ok) : Inv X (q :: pins) σ H s := by
  refine ⟨ok, I.os, I.bare, I.base, I.loc, I.cell, I.free, I.freeC, fun p hp => I.pin p ?_, I.hok, I.len⟩
  rw [List.append_nil]
  rcases List.mem_append.mp hp with z | z
  · exact List.mem_cons_of_mem _ (List.mem_append_left _ z)
  · rcases List.mem_cons.mp z with e | z
    · rw [e]
      exact List.mem_cons_self
    · exact List.mem_cons_of_mem _ (List.mem_append_right _ z)
theorem track {a C : Addr} {oe : Obj} (J : Inv X ((a, oe) :: pins) σ H s) (hz : Zc (.ref C) none oe) (hd : ∃ vs, oe.data = .fields vs) (n0 : X.s_0.heap.get? a = none) (np : ∀ p ∈ X.pn ++ pins, p.1 ≠ a) :
    Inv X pins σ (upd H a (ExS C a)) s := by
  obtain ⟨ha, na, nL, nF, ncell⟩ := J.pin (a, oe) (List.mem_append_right _ List.mem_cons_self)
  have ha : s.heap.get? a = some oe := ha
  have na : H a = none := na
  have nL : a ≠ X.env.locals := nL
  obtain ⟨vs, hv⟩ := hd
  have tr : ∀ b u, H b = some u → upd H a (ExS C a) b = some u := fun b u e => by
    rw [upd_ne (ne_of_none e na)]
    exact e
  have ns : ∀ b o, X.s_0.heap.get? b = some o → b ≠ a := fun b o e z => by
    rw [z, n0] at e
    cases e
  refine ⟨J.ok, J.os, J.bare, ⟨J.base.keep, J.base.slot, fun b o e n hx => ?_, J.base.there, fun b xs e => tr _ _ (J.base.tups b xs e), fun b o u e => tr _ _ (J.base.frzs b o u e), fun b ps e => ?_⟩, J.loc, J.cell, ?_, fun x c e => ?_, fun p hp => ?_, fun b u e => ?_, J.len⟩
  · rw [upd_ne (ns b o e)]
    exact J.base.free b o e n hx
  · obtain ⟨m, e1⟩ := J.base.tbls b ps e
    exact ⟨m, tr _ _ e1⟩
  · rw [upd_ne (Ne.symm nL)]
    exact J.free
  · have nc : c ≠ a := fun z => by
      obtain ⟨v, o, ho, hdc⟩ := J.cell x c e
      rw [z, ha] at ho
      cases ho
      exact ncell v hdc
    rw [upd_ne nc]
    exact J.freeC x c e
  · have hp' : p ∈ X.pn ++ ((a, oe) :: pins) := by
      rcases List.mem_append.mp hp with z | z
      · exact List.mem_append_left _ z
      · exact List.mem_append_right _ (List.mem_cons_of_mem _ z)
    obtain ⟨e, n, r⟩ := J.pin p hp'
    exact ⟨e, by rw [upd_ne (np p hp)]; exact n, r⟩
  · by_cases hb : b = a
    · subst hb
      rw [upd_same] at e
      cases e
      exact exS_ok ha hz hv
    · rw [upd_ne hb] at e
      exact (J.hok b u e).stay (fun c w _ q => q) (fun c q => tr _ _ q) fun c xs q => tr _ _ q
end
end Mw
namespace Mw
open PySem PySem.Spec PyProof.Rows L2

/-! ### try: body, except c as n: suite, where the clause takes all that the body raises; the error stays known behind it -/
def wKeep (K : PySem.W.Frag) (c : Value) (i : Nat) (ts : Addr → TS) (D : Ends) : WX := fun cls d σ H =>
  PySem.W.exmOne K cls c = some true ∧ d = none ∧ ∃ C, cls = .ref C ∧ ∀ a, H a = none →
    ts a { nx := fun σ' H' => D.nx (σ'.set i none) (upd H' a (ExS C a)), rt := fun _ _ => False } (σ.set i (some (.ref a))) H
section
variable {X : Cx} {x n : Str} {c : Value} {i : Nat} {body suite : List Stmt} {b₀ : Stmt} {np pos pos' : Pos} {tb : WX → TS} {ts : Addr → TS}
theorem ps_tryK (hs : X.stack = X.env :: X.outer) (hf : X.env.frame = some X.env.locals) (hex : X.ex = []) (hN : X.N.Nodup) (hi : X.N[i]? = some n) (hln : X.env.kindOf n = some .local) (hc : Names X x c)
    (hb : ∀ (W : WX) (pn : List (Addr × Obj)) (xe : Value → Shared → Prop), Takes (X.tr pn xe) W → PassesOwn (model X.prog X.w) X.A X.env xe → PSs (X.tr pn xe) body (tb W))
    (hsu : ∀ (a : Addr) (pn : List (Addr × Obj)), PSs (X.suite a pn) (b₀ :: suite) (ts a)) :
    PS X (.Try body [.ExceptHandler (some (.Name x np)) (some n) (b₀ :: suite) pos'] [] [] pos) (fun D σ H => tb (wKeep X.K c i ts D) D σ H) := by
  constructor
  intro pins s σ H D I h
  have ok := I.ok
  have hfr : X.A.frames = some (X.env :: X.outer) := by
    rw [ok.frames, hs]
  have caught : ∀ (u : Value) (s' : Shared), XE (X.tr (X.pn ++ pins) fun _ _ => True) (wKeep X.K c i ts D) u s' →
      wpAny (model X.prog X.w) X.A (noteFrame u X.env) (fun _ s₂ => wpAny (model X.prog X.w) X.A (setFlight u none) (fun _ s₃ =>
        wpAny (model X.prog X.w) X.A (handleBy u X.env [.ExceptHandler (some (.Name x np)) (some n) (b₀ :: suite) pos']) (SP X pins D) X.xe s₃) X.xe s₂) X.xe s' := by
    intro u s' xx
    obtain ⟨a, B, sI, pins', σ', H', cls, d, rfl, J', nb, up, sky, na, os, ag, hm, rfl, C, rfl, hyes⟩ := xx
    have J : Inv X pins σ' H' sI := J'.ofTry ok
    have sky2 : Sky B (X.env :: X.outer) a (Zc (.ref C) none) X.env.locals s'.heap := hs ▸ sky
    refine Sky.land Zc.steady hfr hf sky2 fun h3 fl3 up3 => ?_
    have J3 : Inv X pins σ' H' { s' with heap := h3 } := J.landed nb fl3.1 (up.trans up3) os ag
    obtain ⟨oe3, vs3, he3, hz3, hd3⟩ := fl3.there
    have nfr : a ∉ frs (X.env :: X.outer) := fun hm => by
      obtain ⟨_, o', e', hnf⟩ := fl3.2.2.1.mem hm
      rw [he3] at e'
      cases e'
      exact hnf _ hd3
    have nL : a ≠ X.env.locals := fun z => nfr (List.mem_filterMap.mpr ⟨X.env, List.mem_cons_self, by rw [hf, z]⟩)
    have nF : a ∉ X.fs := fun z => by
      obtain ⟨e, he, q⟩ := List.mem_filterMap.mp z
      exact nfr (List.mem_filterMap.mpr ⟨e, List.mem_cons_of_mem _ he, q⟩)
    have nI : sI.heap.get? a = none := by
      cases q : sI.heap.get? a with
      | none => rfl
      | some o =>
        have z := nb a o q (by rw [show X.stack = X.env :: X.outer from hs]; exact nfr)
        rw [fl3.2.1] at z
        cases z
    have n0 : X.s_0.heap.get? a = none := by
      cases q : X.s_0.heap.get? a with
      | none => rfl
      | some o =>
        obtain ⟨o', z⟩ := J.base.there a o q (by rw [hex]; exact fun z => nomatch z)
        rw [nI] at z
        cases z
    have npin : ∀ p ∈ X.pn ++ pins, p.1 ≠ a := fun p hp z => by
      obtain ⟨e, _⟩ := J.pin p hp
      rw [z, nI] at e
      cases e
    have S3 := J3.suite he3 hd3 na nL nF
    refine wpAny_handleBy_cons (codeAny_handlers_test ?_) (by intro q; cases q)
    have LT : PySem.W.Looks (model X.prog X.w) h3 (typeOf (.ref a)) (.ref C) := fun A Q E s k q => wpAny_typeOf_ref (k _ _ he3) (by rw [hz3.1]; exact q)
    have LM := PySem.W.exm_one (M := model X.prog X.w) J3.kIn LT hm
    have test : ∀ {Q : Value → Shared → Prop} {E : Value → Shared → Prop}, Q c { s' with heap := h3 } → wpAny (model X.prog X.w) (X.A.mark (some (.ref a))) (eval (.Name x np) X.env) Q E { s' with heap := h3 } := by
      intro Q E q
      obtain ⟨hg, hdb, hm | ⟨hm, hv, hnn⟩⟩ := hc
      · exact ld_glob S3 hg hm q hdb
      · exact ld_blt S3 hg hm hv q hnn hdb
    refine test (LM.here ?_)
    refine codeAny_handlers_suite_as ?_
    refine HandSPX.lands_againZ fl3 fun h4 fl4 up4 => ?_
    have J4 : Inv X pins σ' H' { s' with heap := h4 } := J.landed nb fl4.1 ((up.trans up3).trans up4) os ag
    obtain ⟨oe4, vs4, he4, hz4, hd4⟩ := fl4.there
    have S4 := J4.suite he4 hd4 na nL nF
    refine store_ok (X := X.suite a ((a, oe4) :: (X.pn ++ pins))) (v := .ref a) S4 hN hi (.inl hln) rfl (fun s5 S5 => ?_) (.inr hln)
    refine wpAny_mono ((hsu a ((a, oe4) :: (X.pn ++ pins))).run [] s5 _ H' _ S5 (hyes a na)) (fun f s6 hsp => ?_) fun _ _ z => False.elim z
    cases f with
    | next =>
      obtain ⟨σ6, H6, S6, q6⟩ := hsp
      refine gone_ok (unpin S6 ok) hN hi hln fun s7 J7 => ?_
      exact ⟨_, _, track J7 hz4 ⟨_, hd4⟩ n0 npin, q6⟩
    | brk =>
      obtain ⟨_, _, _, q6⟩ := hsp
      exact q6.elim
    | cont =>
      obtain ⟨_, _, _, q6⟩ := hsp
      exact q6.elim
    | ret u =>
      obtain ⟨_, _, _, _, _, q6⟩ := hsp
      exact q6.elim
  refine wpAny_Try_except (wpAny_mono ((hb (wKeep X.K c i ts D) (X.pn ++ pins) _ (fun u s' xx => caught u s' ?_) PassesOwn.looking).run [] s σ H D (I.toTry _) h) (fun f s1 hsp => ?_) fun e s1 he => he)
  · obtain ⟨a, B, sI, pins', σ', H', cls, d, e, J', r⟩ := xx
    exact ⟨a, B, sI, pins', σ', H', cls, d, e, ⟨J'.ok.ofTry.toTry _ _, J'.os, J'.bare, J'.base, J'.loc, J'.cell, J'.free, J'.freeC, J'.pin, J'.hok, J'.len⟩, r⟩
  · cases f with
    | next =>
      obtain ⟨σ', H', J', q⟩ := hsp
      exact wpAny_execs_nil ⟨σ', H', J'.ofTry ok, q⟩
    | brk =>
      obtain ⟨σ', H', J', q⟩ := hsp
      exact ⟨σ', H', J'.ofTry ok, q⟩
    | cont =>
      obtain ⟨σ', H', J', q⟩ := hsp
      exact ⟨σ', H', J'.ofTry ok, q⟩
    | ret u =>
      obtain ⟨v, σ', H', J', r, q⟩ := hsp
      exact ⟨v, σ', H', J'.ofTry ok, r, q⟩
end

/-! ### isinstance of such an error -/
def rIsX (K : PySem.W.Frag) : List V → Hp → VK → Prop := fun xs H Q => ∃ (a C : Addr) (c : V) (cv : Value) (b : Bool), xs = [.ref a, c] ∧ ClsV c cv ∧ H a = some (ExS C a) ∧ ExcC K C ∧ PySem.W.kitOne K (.ref C) cv = some b ∧ Q (.bl b) H
def rIsXT (K : PySem.W.Frag) : List V → Hp → VK → Prop := fun xs H Q => ∃ (a C tp : Addr) (cs : List V) (us : List Value) (b : Bool), xs = [.ref a, .ref tp] ∧ H tp = some (.tup cs) ∧ Paired ClsV cs us ∧ H a = some (ExS C a) ∧ ExcC K C ∧
  PySem.W.kitAny K (.ref C) us = some b ∧ Q (.bl b) H
section
variable {X : Cx} {pins : List (Addr × Obj)} {σ : L2.St} {H : Hp} {s : Shared}
theorem inst_of {a C : Addr} (I : Inv X pins σ H s) (h : H a = some (ExS C a)) : ∃ oe, PySem.W.InstAt s.heap a oe C none := by
  obtain ⟨⟨oe, vs, e, hz, hv⟩, _⟩ := (show ObjOk X.prog X.w H s.heap a (ExS C a) from I.hok a _ h)
  refine ⟨oe, ?_⟩
  obtain ⟨oc, od, oda, osl⟩ := oe
  obtain ⟨h1, h2⟩ := hz
  dsimp only at h1 h2 hv
  subst h1 h2 hv
  exact ⟨e, rfl, rfl, trivial⟩
theorem call_isX : CallR X (.builtin "isinstance") (rIsX X.K) := by
  intro pins s σ H xs us Q I r h
  obtain ⟨a, C, c, cv, b, rfl, k, hx, E, e, q⟩ := h
  obtain ⟨u1, u2, rfl, r1, r2⟩ := vals2 r
  cases (show u1 = Value.ref a from r1)
  have e2 := k.eq r2
  subst e2
  obtain ⟨oe, J⟩ := inst_of I hx
  exact PySem.W.kia_one (PySem.W.handS_kitx_exc E.hg E.hk E.hs E.hd E.ha E.hn E.ht E.hm) I.kIn J e (fun z => nomatch z) fun tk => ⟨.bl b, H, I.tok tk, rfl, q⟩
theorem call_isXT : CallR X (.builtin "isinstance") (rIsXT X.K) := by
  intro pins s σ H xs us Q I r h
  obtain ⟨a, C, tp, cs, ws, b, rfl, hT, k, hx, E, e, q⟩ := h
  obtain ⟨u1, u2, rfl, r1, r2⟩ := vals2 r
  cases (show u1 = Value.ref a from r1)
  cases (show u2 = Value.ref tp from r2)
  obtain ⟨oe, J⟩ := inst_of I hx
  obtain ⟨_, its, rv, o, h1, h2, n, h3⟩ := (show ObjOk X.prog X.w H s.heap tp (.tup cs) from I.hok tp _ hT)
  have e3 := ClsV.all k rv
  subst e3
  obtain ⟨oc, od, dt, sl⟩ := o
  simp only at h2 h3
  subst h2 h3
  exact PySem.W.kia_tup (PySem.W.handS_kitx_exc E.hg E.hk E.hs E.hd E.ha E.hn E.ht E.hm) I.kIn J h1 e (fun z => nomatch z) fun tk => ⟨.bl b, H, I.tok tk, rfl, q⟩
end
end Mw
namespace Mw
/-! ### stretches that read alike from behind -/
def Pal (l : List Nat) (i j : Nat) : Prop := ∀ x, i ≤ x → x ≤ j → l[x]? = l[i + j - x]?
theorem pal_short {l : List Nat} {i j : Nat} (h : j ≤ i) : Pal l i j := fun x a b => by
  have e : i + j - x = x := by omega
  rw [e]
theorem pal_out {l : List Nat} {i j : Nat} (h : i < j) : Pal l i j ↔ Pal l (i + 1) (j - 1) ∧ l[i]? = l[j]? := by
  constructor
  · intro p
    refine ⟨fun x a b => ?_, ?_⟩
    · have z := p x (by omega) (by omega)
      have e : i + 1 + (j - 1) - x = i + j - x := by omega
      rw [e]
      exact z
    · have z := p i (Nat.le_refl _) (by omega)
      have e : i + j - i = j := by omega
      rw [e] at z
      exact z
  · intro ⟨p, e⟩ x a b
    by_cases c : x = i
    · have q : i + j - x = j := by omega
      rw [q, c]
      exact e
    · by_cases d : x = j
      · have q : i + j - x = i := by omega
        rw [q, d]
        exact e.symm
      · have z := p x (by omega) (by omega)
        have q : i + 1 + (j - 1) - x = i + j - x := by omega
        rw [q] at z
        exact z
/-- a stretch within a mirror word, seen from behind -/
theorem pal_turn {l : List Nat} {a b i j : Nat} (h : Pal l a b) (ai : a ≤ i) (jb : j ≤ b) (ij : i ≤ j) (p : Pal l i j) : Pal l (a + b - j) (a + b - i) := fun x u v => by
  have e1 := h x (by omega) (by omega)
  have e2 := p (a + b - x) (by omega) (by omega)
  have e3 := h (i + j - (a + b - x)) (by omega) (by omega)
  have q1 : a + b - (i + j - (a + b - x)) = a + b - j + (a + b - i) - x := by omega
  rw [q1] at e3
  rw [e1, e2, e3]
theorem pal_turn' {l : List Nat} {a b i j : Nat} (h : Pal l a b) (ai : a ≤ i) (jb : j ≤ b) (p : Pal l i j) : Pal l (a + b - j) (a + b - i) := by
  by_cases ij : i ≤ j
  · exact pal_turn h ai jb ij p
  · exact pal_short (by omega)
theorem pal_mid {l : List Nat} {i j : Nat} (h : Pal l i j) (k : Nat) (hk : i + k ≤ j) : Pal l (i + k) (j - k) := fun x a b => by
  have z := h x (by omega) (by omega)
  have e : i + k + (j - k) - x = i + j - x := by omega
  rw [e]
  exact z

/-! ### what arms say of two places -/
def tie (R : Nat → Nat) (i j : Nat) : Bool := decide (j < (i + j) / 2 + 1 + R (i + j))
def cut (R : Nat → Nat) (i j : Nat) : Bool := decide ((i + j) / 2 + 1 + R (i + j) = j)
/-- the letters: 97 .. 122 -/
def abcL : List Nat := (List.range 26).map (97 + ·)
def barred (R : Nat → Nat) (g : List Nat) (p : Nat) : List Nat := ((List.range p).filter fun i => cut R i p).map fun i => g.getD i 0
def nxt (R : Nat → Nat) (g : List Nat) : Nat :=
  match (List.range g.length).find? fun i => tie R i g.length with
  | some i => g.getD i 0
  | none => ((abcL.find? fun c => !(barred R g g.length).contains c)).getD 0
def gr (R : Nat → Nat) : Nat → List Nat
  | 0 => []
  | p + 1 => gr R p ++ [nxt R (gr R p)]
theorem gr_len (R : Nat → Nat) : ∀ p, (gr R p).length = p
  | 0 => rfl
  | p + 1 => by
    show (gr R p ++ [_]).length = p + 1
    rw [List.length_append, gr_len R p]
    rfl
theorem gr_at {R : Nat → Nat} {i : Nat} : ∀ {p : Nat}, i < p → (gr R p)[i]? = some (nxt R (gr R i))
  | p + 1, h => by
    show (gr R p ++ [_])[i]? = _
    by_cases c : i = p
    · rw [c, List.getElem?_append_right (by rw [gr_len]; exact Nat.le_refl _), gr_len, Nat.sub_self]
      rfl
    · rw [List.getElem?_append_left (by rw [gr_len]; omega)]
      exact gr_at (by omega)
theorem gr_take {R : Nat → Nat} {q : Nat} : ∀ {p : Nat}, q ≤ p → (gr R p).take q = gr R q
  | 0, h => by
    have e : q = 0 := by omega
    subst e
    rfl
  | p + 1, h => by
    by_cases c : q = p + 1
    · subst c
      exact List.take_of_length_le (by rw [gr_len]; exact Nat.le_refl _)
    · show (gr R p ++ [_]).take q = _
      rw [List.take_append_of_le_length (by rw [gr_len]; omega)]
      exact gr_take (by omega)

/-- R is what the arms of t say -/
structure Arms (t : List Nat) (R : Nat → Nat) : Prop where
  tie : ∀ i j, i < j → j < t.length → (tie R i j = true ↔ Pal t i j)
  cut : ∀ i j, i < j → j < t.length → (cut R i j = true ↔ Pal t (i + 1) (j - 1) ∧ ¬ t[i]? = t[j]?)
/-- a letter is left at each place that is tied to none -/
def Left (R : Nat → Nat) (n : Nat) : Prop := ∀ p, p < n → ((List.range p).find? fun i => tie R i p) = none → ∃ c, (abcL.find? fun c => !(barred R (gr R p) p).contains c) = some c

theorem nxt_tied {R : Nat → Nat} {p i : Nat} (h : ((List.range p).find? fun i => tie R i p) = some i) : nxt R (gr R p) = (gr R p).getD i 0 := by
  unfold nxt
  rw [gr_len, h]
theorem nxt_free {R : Nat → Nat} {p : Nat} (h : ((List.range p).find? fun i => tie R i p) = none) : nxt R (gr R p) = (abcL.find? fun c => !(barred R (gr R p) p).contains c).getD 0 := by
  unfold nxt
  rw [gr_len, h]
theorem gr_getD {R : Nat → Nat} {p i : Nat} (h : i < p) : (gr R p).getD i 0 = nxt R (gr R i) := by
  rw [List.getD_eq_getElem?_getD, gr_at h]
  rfl
theorem first_tied {R : Nat → Nat} {p i : Nat} (h : ((List.range p).find? fun i => tie R i p) = some i) : i < p ∧ tie R i p = true ∧ ∀ j, j < i → tie R j p = false := by
  obtain ⟨h1, as, bs, e, h2⟩ := List.find?_eq_some_iff_append.mp h
  have hl : as.length + bs.length + 1 = p := by
    have := congrArg List.length e
    rw [List.length_range, List.length_append, List.length_cons] at this
    omega
  have at_ : ∀ k, k < p → (as ++ i :: bs)[k]? = some k := fun k hk => by rw [← e, List.getElem?_range hk]
  have hi : as.length = i := by
    have z := at_ as.length (by omega)
    rw [List.getElem?_append_right (Nat.le_refl _), Nat.sub_self] at z
    exact (Option.some.inj z).symm
  refine ⟨by omega, h1, fun j hj => ?_⟩
  have z := at_ j (by omega)
  rw [List.getElem?_append_left (by omega)] at z
  have := h2 j (List.mem_of_getElem? z)
  simpa using this
theorem none_tied {R : Nat → Nat} {p : Nat} (h : ((List.range p).find? fun i => tie R i p) = none) : ∀ j, j < p → tie R j p = false := fun j hj => by
  have z := List.find?_eq_none.mp h j (List.mem_range.mpr hj)
  simpa using z
theorem mem_barred {R : Nat → Nat} {g : List Nat} {p c : Nat} : c ∈ barred R g p ↔ ∃ i, i < p ∧ cut R i p = true ∧ g.getD i 0 = c := by
  unfold barred
  rw [List.mem_map]
  constructor
  · rintro ⟨i, hi, e⟩
    obtain ⟨h1, h2⟩ := List.mem_filter.mp hi
    exact ⟨i, List.mem_range.mp h1, h2, e⟩
  · rintro ⟨i, h1, h2, e⟩
    exact ⟨i, List.mem_filter.mpr ⟨List.mem_range.mpr h1, h2⟩, e⟩
theorem free_letter {R : Nat → Nat} {p : Nat} {c : Nat} (h : (abcL.find? fun c => !(barred R (gr R p) p).contains c) = some c) : ¬ c ∈ barred R (gr R p) p := by
  have z := List.find?_some h
  simpa using z

/-- the text built letter by letter has the mirror words of each text with these arms -/
theorem gr_pal {t : List Nat} {R : Nat → Nat} (A : Arms t R) (L : Left R t.length) {n : Nat} (hn : t.length = n) : ∀ i j, i < j → j < n → (Pal (gr R n) i j ↔ Pal t i j) := by
  -- by the later place
  have key : ∀ p, p < n → ∀ i, i < p → (Pal (gr R n) i p ↔ Pal t i p) := by
    intro p
    induction p using Nat.strongRecOn with
    | ind p ih =>
    intro hp
    have ihp : ∀ i j, i < j → j < p → (Pal (gr R n) i j ↔ Pal t i j) := fun i j hij hj => ih j hj (by omega) i hij
    have inn : ∀ i j, j < p → (Pal (gr R n) i j ↔ Pal t i j) := fun i j hj => by
      by_cases c : i < j
      · exact ihp i j c hj
      · exact ⟨fun _ => pal_short (by omega), fun _ => pal_short (by omega)⟩
    have gat : ∀ i, i < n → (gr R n)[i]? = some (nxt R (gr R i)) := fun i hi => gr_at hi
    -- two places with a mirror word between them: alike in both or in none
    have alike : ∀ i j, i < j → j < p → Pal t (i + 1) (j - 1) → ((gr R n)[i]? = (gr R n)[j]? ↔ t[i]? = t[j]?) := by
      intro i j hij hj hP
      have z := ihp i j hij hj
      rw [pal_out hij, pal_out hij] at z
      have hG := (inn (i + 1) (j - 1) (by omega)).mpr hP
      exact ⟨fun e => (z.mp ⟨hG, e⟩).2, fun e => (z.mpr ⟨hP, e⟩).2⟩
    intro i hi
    rw [pal_out hi, pal_out hi, inn (i + 1) (p - 1) (by omega)]
    refine and_congr_right fun hP => ?_
    cases hf : (List.range p).find? fun i => tie R i p with
    | some q =>
      obtain ⟨hq, htq, hmin⟩ := first_tied hf
      have hpq : Pal t q p := (A.tie q p hq (by omega)).mp htq
      have hin := (pal_out hq).mp hpq
      have eg : (gr R n)[p]? = (gr R n)[q]? := by
        rw [gat p hp, gat q (by omega), nxt_tied hf, gr_getD hq]
      rw [eg, ← hin.2]
      by_cases c : i = q
      · subst c
        exact ⟨fun _ => rfl, fun _ => rfl⟩
      · by_cases d : q < i
        · -- seen within the mirror word between q and p
          have hGq := (inn (q + 1) (p - 1) (by omega)).mpr hin.1
          have e1 := hin.1 i (by omega) (by omega)
          have e2 := hGq i (by omega) (by omega)
          have q1 : q + 1 + (p - 1) - i = q + p - i := by omega
          rw [q1] at e1 e2
          rw [e1, e2]
          have hP2 := pal_turn' (i := i + 1) (j := p - 1) hin.1 (by omega) (by omega) hP
          have q2 : q + 1 + (p - 1) - (p - 1) = q + 1 := by omega
          have q3 : q + 1 + (p - 1) - (i + 1) = (q + p - i) - 1 := by omega
          rw [q2, q3] at hP2
          have z := alike q (q + p - i) (by omega) (by omega) hP2
          exact ⟨fun e => (z.mp e.symm).symm, fun e => (z.mpr e.symm).symm⟩
        · have hiq : i < q := by omega
          have nt : ¬ Pal t i p := fun w => by
            have z := (A.tie i p hi (by omega)).mpr w
            rw [hmin i hiq] at z
            cases z
          have ne : ¬ t[i]? = t[q]? := fun e => nt ((pal_out hi).mpr ⟨hP, by rw [e]; exact hin.2⟩)
          refine ⟨fun e => absurd ?_ ne, fun e => absurd e ne⟩
          have hG := (inn (i + 1) (p - 1) (by omega)).mpr hP
          have e1 := hP q (by omega) (by omega)
          have e2 := hG q (by omega) (by omega)
          have q1 : i + 1 + (p - 1) - q = i + p - q := by omega
          rw [q1] at e1 e2
          have hP2 := pal_turn' (i := q + 1) (j := p - 1) hP (by omega) (by omega) hin.1
          have q2 : i + 1 + (p - 1) - (p - 1) = i + 1 := by omega
          have q3 : i + 1 + (p - 1) - (q + 1) = (i + p - q) - 1 := by omega
          rw [q2, q3] at hP2
          have z := alike i (i + p - q) (by omega) (by omega) hP2
          rw [e1]
          exact z.mp (by rw [e, e2])
    | none =>
      have nt := none_tied hf i hi
      have ntp : ¬ Pal t i p := fun w => by
        have z := (A.tie i p hi (by omega)).mpr w
        rw [nt] at z
        cases z
      have ne : ¬ t[i]? = t[p]? := fun e => ntp ((pal_out hi).mpr ⟨hP, e⟩)
      have hc : cut R i p = true := (A.cut i p hi (by omega)).mpr ⟨hP, ne⟩
      refine ⟨fun e => absurd ?_ (fun z => z), fun e => absurd e ne⟩
      obtain ⟨c, hcf⟩ := L p (by omega) hf
      rw [gat i (by omega), gat p hp, nxt_free hf, hcf] at e
      exact free_letter hcf (mem_barred.mpr ⟨i, hi, hc, by rw [gr_getD hi]; exact Option.some.inj e⟩)
  exact fun i j hij hj => key j hj i hij
end Mw
namespace Mw
/-! ### the arm of a middle -/
def okAt (l : List Nat) (m j : Nat) : Bool := decide (j + 1 ≤ (m + 1) / 2) && (decide (m / 2 + 1 + j < l.length) && (l[(m + 1) / 2 - (j + 1)]? == l[m / 2 + 1 + j]?))
/-- the first place from k on, within f, where p holds no more -/
def lead (p : Nat → Bool) : Nat → Nat → Nat
  | 0, k => k
  | f + 1, k => if p k = true then lead p f (k + 1) else k
theorem lead_eq {p : Nat → Bool} : ∀ (f k0 k : Nat), k0 ≤ k → k ≤ k0 + f → (∀ j, k0 ≤ j → j < k → p j = true) → (k < k0 + f → p k = false) → lead p f k0 = k
  | 0, k0, k, h1, h2, _, _ => by
    show k0 = k
    omega
  | f + 1, k0, k, h1, h2, h3, h4 => by
    show (if p k0 = true then lead p f (k0 + 1) else k0) = k
    by_cases e : k0 = k
    · subst e
      rw [h4 (by omega), if_neg Bool.false_ne_true]
    · rw [if_pos (h3 k0 (Nat.le_refl _) (by omega))]
      exact lead_eq f (k0 + 1) k (by omega) (by omega) (fun j a b => h3 j (by omega) b) fun a => h4 (by omega)
theorem lead_spec {p : Nat → Bool} : ∀ (f k0 : Nat), k0 ≤ lead p f k0 ∧ lead p f k0 ≤ k0 + f ∧ (∀ j, k0 ≤ j → j < lead p f k0 → p j = true) ∧ (lead p f k0 < k0 + f → p (lead p f k0) = false)
  | 0, k0 => ⟨Nat.le_refl _, Nat.le_refl _, fun j a b => absurd b (by show ¬ j < k0; omega), fun h => absurd h (by show ¬ k0 < k0 + 0; omega)⟩
  | f + 1, k0 => by
    have ih := lead_spec (p := p) f (k0 + 1)
    by_cases c : p k0 = true
    · have e : lead p (f + 1) k0 = lead p f (k0 + 1) := if_pos c
      rw [e]
      refine ⟨by omega, by omega, fun j a b => ?_, fun h => ih.2.2.2 (by omega)⟩
      by_cases z : j = k0
      · rw [z]
        exact c
      · exact ih.2.2.1 j (by omega) b
    · have e : lead p (f + 1) k0 = k0 := if_neg c
      rw [e]
      exact ⟨Nat.le_refl _, by omega, fun j a b => absurd b (by omega), fun _ => by simpa using c⟩
def armL (l : List Nat) (m : Nat) : Nat := lead (okAt l m) l.length 0
theorem okAt_lt {l : List Nat} {m j : Nat} (h : okAt l m j = true) : m / 2 + 1 + j < l.length := by
  unfold okAt at h
  simp only [Bool.and_eq_true, decide_eq_true_eq] at h
  exact h.2.1
theorem armL_of {l : List Nat} {m k : Nat} (h : ∀ j, j < k → okAt l m j = true) (hk : okAt l m k = false) : armL l m = k := by
  refine lead_eq _ 0 k (Nat.zero_le _) ?_ (fun j _ b => h j b) fun _ => hk
  cases k with
  | zero => exact Nat.zero_le _
  | succ i =>
    have := okAt_lt (h i (Nat.lt_succ_self _))
    omega

theorem lead_succ (p : Nat → Bool) (i : Nat) : lead p (i + 1) 0 = if lead p i 0 = i ∧ p i = true then i + 1 else lead p i 0 := by
  obtain ⟨_, h2, h3, h4⟩ := lead_spec (p := p) i 0
  by_cases c : lead p i 0 = i ∧ p i = true
  · rw [if_pos c]
    refine lead_eq (i + 1) 0 (i + 1) (by omega) (by omega) (fun j _ b => ?_) fun z => absurd z (by omega)
    by_cases e : j = i
    · rw [e]
      exact c.2
    · exact h3 j (by omega) (by rw [c.1]; omega)
  · rw [if_neg c]
    refine lead_eq (i + 1) 0 _ (by omega) (by omega) h3 fun z => ?_
    by_cases e : lead p i 0 = i
    · rw [e]
      cases q : p i with
      | false => rfl
      | true => exact absurd ⟨e, q⟩ c
    · exact h4 (by omega)
theorem armL_end (l : List Nat) (m : Nat) : lead (okAt l m) (l.length - 1) 0 = armL l m := by
  unfold armL
  cases h : l.length with
  | zero => rfl
  | succ k =>
    rw [lead_succ]
    have z : ¬ (lead (okAt l m) k 0 = k ∧ okAt l m k = true) := fun c => by
      have := okAt_lt c.2
      omega
    rw [if_neg z]
    rfl

theorem okAt_of {l : List Nat} {m j : Nat} (h : okAt l m j = true) : j + 1 ≤ (m + 1) / 2 ∧ m / 2 + 1 + j < l.length ∧ l[(m + 1) / 2 - (j + 1)]? = l[m / 2 + 1 + j]? := by
  unfold okAt at h
  simp only [Bool.and_eq_true, decide_eq_true_eq, beq_iff_eq] at h
  exact ⟨h.1, h.2.1, h.2.2⟩
theorem okAt_iff {l : List Nat} {m j : Nat} : okAt l m j = true ↔ j + 1 ≤ (m + 1) / 2 ∧ m / 2 + 1 + j < l.length ∧ l[(m + 1) / 2 - (j + 1)]? = l[m / 2 + 1 + j]? := by
  refine ⟨okAt_of, fun h => ?_⟩
  unfold okAt
  simp only [Bool.and_eq_true, decide_eq_true_eq, beq_iff_eq]
  exact ⟨h.1, h.2.1, h.2.2⟩
theorem lt_armL {l : List Nat} {m k : Nat} : k < armL l m ↔ ∀ j, j ≤ k → okAt l m j = true := by
  obtain ⟨_, h2, h3, h4⟩ := lead_spec (p := okAt l m) l.length 0
  constructor
  · intro h j hj
    exact h3 j (Nat.zero_le _) (by unfold armL at h; omega)
  · intro h
    by_cases c : k < armL l m
    · exact c
    · have z : armL l m < 0 + l.length := by
        have := okAt_lt (h k (Nat.le_refl _))
        omega
      have q := h4 z
      rw [h _ (by unfold armL at c; omega)] at q
      cases q
theorem not_armL {l : List Nat} {m : Nat} : okAt l m (armL l m) = false := by
  cases h : okAt l m (armL l m) with
  | false => rfl
  | true =>
    have z : armL l m < armL l m := lt_armL.mpr fun j hj => by
      by_cases c : j = armL l m
      · rw [c]
        exact h
      · exact (lt_armL (k := j)).mp (by omega) j (Nat.le_refl _)
    omega
/-- places i < j and the middle between them -/
theorem pal_arm {l : List Nat} {i j : Nat} (hij : i < j) (hj : j < l.length) : Pal l i j ↔ j < (i + j) / 2 + 1 + armL l (i + j) := by
  have e1 : (i + j + 1) / 2 - (j - ((i + j) / 2 + 1) + 1) = i := by omega
  constructor
  · intro p
    have z : j - ((i + j) / 2 + 1) < armL l (i + j) := lt_armL.mpr fun k hk => okAt_iff.mpr ⟨by omega, by omega, by
      have q := p ((i + j + 1) / 2 - (k + 1)) (by omega) (by omega)
      have e : i + j - ((i + j + 1) / 2 - (k + 1)) = (i + j) / 2 + 1 + k := by omega
      rw [e] at q
      exact q⟩
    omega
  · intro h x a b
    have w := (lt_armL (l := l) (m := i + j) (k := j - ((i + j) / 2 + 1))).mp (by omega)
    by_cases c : x + x < i + j
    · have q := (okAt_of (w ((i + j + 1) / 2 - 1 - x) (by omega))).2.2
      have e2 : (i + j + 1) / 2 - ((i + j + 1) / 2 - 1 - x + 1) = x := by omega
      have e3 : (i + j) / 2 + 1 + ((i + j + 1) / 2 - 1 - x) = i + j - x := by omega
      rw [e2, e3] at q
      exact q
    · by_cases d : x + x = i + j
      · have e : i + j - x = x := by omega
        rw [e]
      · have q := (okAt_of (w (x - ((i + j) / 2 + 1)) (by omega))).2.2
        have e2 : (i + j + 1) / 2 - (x - ((i + j) / 2 + 1) + 1) = i + j - x := by omega
        have e3 : (i + j) / 2 + 1 + (x - ((i + j) / 2 + 1)) = x := by omega
        rw [e2, e3] at q
        exact q.symm
theorem pal_arm' {l : List Nat} {i j : Nat} (hij : i ≤ j + 1) (hj : j < l.length) : Pal l i j ↔ j < (i + j) / 2 + 1 + armL l (i + j) := by
  by_cases c : i < j
  · exact pal_arm c hj
  · exact ⟨fun _ => by omega, fun _ => pal_short (by omega)⟩
theorem cut_arm {l : List Nat} {i j : Nat} (hij : i < j) (hj : j < l.length) : (i + j) / 2 + 1 + armL l (i + j) = j ↔ Pal l (i + 1) (j - 1) ∧ ¬ l[i]? = l[j]? := by
  have z := pal_arm' (l := l) (i := i + 1) (j := j - 1) (by omega) (by omega)
  have e : i + 1 + (j - 1) = i + j := by omega
  rw [e] at z
  have y := pal_arm hij hj
  rw [pal_out hij] at y
  rw [z] at y ⊢
  constructor
  · intro h
    refine ⟨by omega, fun q => ?_⟩
    have := y.mp ⟨by omega, q⟩
    omega
  · intro ⟨h, q⟩
    have w : ¬ j < (i + j) / 2 + 1 + armL l (i + j) := fun v => q (y.mpr v).2
    omega
theorem arms_of (t : List Nat) : Arms t (armL t) := by
  refine ⟨fun i j hij hj => ?_, fun i j hij hj => ?_⟩
  · unfold tie
    rw [decide_eq_true_eq]
    exact (pal_arm hij hj).symm
  · unfold cut
    rw [decide_eq_true_eq]
    exact cut_arm hij hj
/-- texts as long with the same mirror words have the same arms -/
theorem armL_congr {a b : List Nat} (h : a.length = b.length) (p : ∀ i j, i < j → j < a.length → (Pal a i j ↔ Pal b i j)) (m : Nat) : armL a m = armL b m := by
  have ok : ∀ k, (∀ j, j ≤ k → okAt a m j = true) ↔ (∀ j, j ≤ k → okAt b m j = true) := fun k => by
    have half : ∀ (a b : List Nat), a.length = b.length → (∀ i j, i < j → j < a.length → (Pal a i j ↔ Pal b i j)) → (∀ j, j ≤ k → okAt a m j = true) → (∀ j, j ≤ k → okAt b m j = true) := by
      intro a b h p w j hj
      obtain ⟨w1, w2, _⟩ := okAt_of (w j hj)
      have lt : (m + 1) / 2 - (j + 1) < m / 2 + 1 + j := by omega
      have es : (m + 1) / 2 - (j + 1) + (m / 2 + 1 + j) = m := by omega
      have z := (pal_arm lt w2).mpr (by
        rw [es]
        have := (lt_armL (l := a) (m := m) (k := j)).mpr fun i hi => w i (by omega)
        omega)
      have z2 := (pal_arm lt (h ▸ w2)).mp ((p _ _ lt w2).mp z)
      rw [es] at z2
      exact (lt_armL (l := b) (m := m) (k := j)).mp (by omega) j (Nat.le_refl _)
    exact ⟨half a b h p, half b a h.symm fun i j x y => (p i j x (by omega)).symm⟩
  have lt : ∀ k, k < armL a m ↔ k < armL b m := fun k => by rw [lt_armL, lt_armL]; exact ok k
  have h1 := lt (armL a m)
  have h2 := lt (armL b m)
  omega
end Mw
namespace Mw
open PySem PySem.Spec PyProof.Rows L2
def isT : V → Bool
  | .str z => decide (z.length ≤ 200) && (TL.tl z).all az
  | _ => false
inductive Thing (K : PySem.W.Frag) (H : Hp) : V → Prop
  | text (l : List Nat) (h : l.length ≤ sizeLine) : Thing K H (.str (T l))
  | other {x : V} {n : String} (t : TyX K H x (.type n)) (k : kitB n "str" = some false) (no : isT x = false) : Thing K H x
def spIs (K : PySem.W.Frag) (P : Addr) : Sp := fun vs H Q _ => ∃ x, vs = [x] ∧ GxR.TabG H P ∧ Thing K H x ∧ ∀ H', GxR.Tabbed P H H' → Q (.bl (isT x)) H'

def spArmAt : Sp := fun vs H Q _ => ∃ (l : List Nat) (m : Nat), vs = [.str (T l), .int (m : Int)] ∧ l.length ≤ 200 ∧ Q (.int (armL l m : Nat)) H
theorem small200 {n : Nat} (h : n ≤ 200) : n ≤ sizeLine := Nat.le_trans h (by decide)
theorem sgn_dec (a b : Nat) : decide (V.str ⟨#[a]⟩ = V.str ⟨#[b]⟩) = decide (a = b) := by
  have z : decide (V.str (T [a]) = V.str (T [b])) = decide ([a] = [b]) := T_dec [a] [b]
  have e : decide ([a] = [b]) = decide (a = b) := by
    by_cases c : a = b
    · rw [c, decide_eq_true rfl, decide_eq_true rfl]
    · rw [decide_eq_false c, decide_eq_false fun q => c (List.cons.inj q).1]
  exact z.trans e

/-! ### the classes of refusals, as the top has written them -/
structure ErrC (K : PySem.W.Frag) (mg : Str → Option Value) (x : Str) (C : Addr) : Prop where
  g : mg x = some (.ref C)
  x : PySem.W.excIn K C [.type "ValueError", .type "Exception", .type "BaseException", .type "object"] "ValueError.__new__" = true
  k : PySem.W.keepIn K (.ref C) = true
  b : PySem.W.subIn K (.ref C) (.type "BaseException") = some true
  t : PySem.W.typeIn K (.ref C) = some (.type "type")
/-- a def with its promise, and what its callers ask -/
structure Fn (Pr : Program) (w : World) (K : PySem.W.Frag) (mg : Str → Option Value) (base : Heap) (CX : CXT) (k : Nat) (x : Str) (f : Addr) (fd : FuncData) (ps : List Str) (sp : Sp) : Prop where
  ok : FnOk Pr w K mg base CX k f fd ps sp
  g : mg x = some (.ref f)
  k : PySem.W.keepIn K (.ref f) = true
  b : Binds K fd ps []

def nV (n : Nat) : V := .int (n : Int)
def armsL (l : List Nat) : List Nat := (List.range (2 * l.length - 1)).map (armL l)
theorem armsL_len (l : List Nat) : (armsL l).length = 2 * l.length - 1 := by
  unfold armsL
  rw [List.length_map, List.length_range]
theorem armsL_take {l : List Nat} {i : Nat} (h : i < 2 * l.length - 1) : (armsL l).take (i + 1) = (armsL l).take i ++ [armL l i] := by
  rw [List.take_add_one]
  unfold armsL
  rw [List.getElem?_map, List.getElem?_range h]
  rfl


def spArms (K : PySem.W.Frag) (P BT : Addr) : Sp := fun vs H Q E => ∃ x, vs = [x] ∧ GxR.TabG H P ∧ Thing K H x ∧ (isT x = false → ∀ H', GxR.Tabbed P H H' → E (.ref BT) none H') ∧
  (isT x = true → ∀ l, x = .str (T l) → l.length ≤ 200 → ∀ H' p, Kp P H H' → H p = none → H' p = some (.lst ((armsL l).map nV)) → Q (.ref p) H')

def spDraw (K : PySem.W.Frag) : Sp := fun vs H Q _ => ∃ (a : Addr) (ns : List Int) (k : Nat), vs = [.ref a, .int (k : Int)] ∧ SqL K H a (ns.map V.int) ∧ Q (.int (ns.getD k 0)) H

theorem cut_len (xs : List V) (a b : Nat) : (cutV xs (some (a : Int)) (some ((a : Int) + (b : Int)))).length ≤ b := by
  unfold cutV
  have e : ((a : Int) + (b : Int)) = ((a + b : Nat) : Int) := by omega
  rw [e, HT.sIx_nat, HT.sIx_nat, List.length_take, List.length_drop]
  omega
theorem cut_map (ns : List Int) (lo hi : Option Int) : ∃ ms : List Int, cutV (ns.map V.int) lo hi = ms.map V.int := by
  unfold cutV
  exact ⟨(ns.drop (HT.sIx (ns.map V.int).length 0 lo)).take (HT.sIx (ns.map V.int).length (ns.map V.int).length hi - HT.sIx (ns.map V.int).length 0 lo), by rw [List.map_take, List.map_drop]⟩
theorem cutS_T (l : List Nat) (lo hi : Option Int) : cutS (T l) lo hi = T ((l.drop (HT.sIx l.length 0 lo)).take (HT.sIx l.length l.length hi - HT.sIx l.length 0 lo)) := by
  unfold cutS
  rw [T_len]
  rfl
theorem cutS_all {l : List Nat} (h : l.all az = true) (lo hi : Option Int) : ∃ m : List Nat, cutS (T l) lo hi = T m ∧ m.all az = true ∧ m.length ≤ l.length := by
  refine ⟨_, cutS_T l lo hi, ?_, ?_⟩
  · rw [List.all_eq_true] at h ⊢
    exact fun c hc => h c (List.mem_of_mem_drop (List.mem_of_mem_take hc))
  · rw [List.length_take, List.length_drop]
    omega
theorem join_signs (cs : List Nat) : Txt.join (Str.ofString "") (cs.map fun c => T [c]) = T cs := by
  refine TL.ext_tl ?_
  rw [TL.join_eq, TL.tl_join, tl_T]
  have e : TL.tl (Str.ofString "") = [] := rfl
  rw [e]
  induction cs with
  | nil => rfl
  | cons c r ih =>
    cases r with
    | nil => rfl
    | cons d r =>
      show [c] ++ ([] ++ TL.joinL [] (((d :: r).map fun c => T [c]).map TL.tl)) = c :: d :: r
      rw [ih]
      rfl
theorem abc : TL.tl (Str.ofString "abcdefghijklmnopqrstuvwxyz") = (List.range 26).map (97 + ·) := by decide +kernel
theorem abc_at {j : Nat} (h : j < 26) : atI (Str.ofString "abcdefghijklmnopqrstuvwxyz").cps.toList (j : Int) = some (97 + j) := by
  refine atI_nat ?_
  show (TL.tl (Str.ofString "abcdefghijklmnopqrstuvwxyz"))[j]? = _
  rw [abc, List.getElem?_map, List.getElem?_range h]
  rfl
theorem mod26 (i : Int) : ∃ j : Nat, i.fmod 26 = (j : Int) ∧ j < 26 := by
  refine ⟨(i % 26).toNat, ?_, ?_⟩
  · rw [Int.fmod_eq_emod_of_nonneg _ (by decide)]
    omega
  · omega
theorem mod6 (i : Int) : ∃ j : Nat, i.fmod 6 = (j : Int) ∧ j < 6 := by
  refine ⟨(i % 6).toNat, ?_, ?_⟩
  · rw [Int.fmod_eq_emod_of_nonneg _ (by decide)]
    omega
  · omega
theorem all_app {a b : List Nat} (h1 : a.all az = true) (h2 : b.all az = true) : (a ++ b).all az = true := by
  rw [List.all_append, h1, h2]
  rfl
theorem all_rev {a : List Nat} (h1 : a.all az = true) : a.reverse.all az = true := by
  rw [List.all_reverse]
  exact h1
theorem all_rep {a : List Nat} (h1 : a.all az = true) : ∀ n, (List.replicate n a).flatten.all az = true
  | 0 => rfl
  | n + 1 => by
    rw [List.replicate_succ, List.flatten_cons]
    exact all_app h1 (all_rep h1 n)
theorem same_upd {H : Hp} {p : Addr} {o : HO} (h : H p = none) : Same H (upd H p o) := fun b x e => by
  rw [upd_ne (ne_of_none e h)]
  exact e

theorem cut_to (l : List Nat) (k : Nat) : cutS (T l) none (some (k : Int)) = T (l.take k) := by
  rw [cutS_T, HT.sIx_none, HT.sIx_nat, List.drop_zero, Nat.sub_zero]
  congr 1
  by_cases h : k ≤ l.length
  · rw [Nat.min_eq_left h]
  · rw [Nat.min_eq_right (by omega), List.take_of_length_le (Nat.le_refl _), List.take_of_length_le (by omega)]
theorem half_of (n : Nat) : ((n : Int)).fdiv 2 = ((n / 2 : Nat) : Int) := by
  rw [Int.fdiv_eq_ediv_of_nonneg _ (by decide)]
  omega
theorem all_take {l : List Nat} (h : l.all az = true) (k : Nat) : (l.take k).all az = true := by
  rw [List.all_eq_true] at h ⊢
  exact fun c hc => h c (List.mem_of_mem_take hc)


def spText (K : PySem.W.Frag) : Sp := fun vs H Q _ => ∃ (a : Addr) (ns : List Int) (i n : Nat), vs = [.ref a, .int (i : Int), .int (n : Int)] ∧ SqL K H a (ns.map V.int) ∧ n ≤ 100 ∧
  ∀ H' l, Same H H' → l.all az = true → l.length ≤ n + 1 → Q (.str (T l)) H'

/-! ### lists of numbers compared -/
theorem dp_ints {K : PySem.W.Frag} {H : Hp} : ∀ xs : List Nat, DpAll K H (xs.map nV) (xs.map fun n : Nat => PyData.int (n : Int))
  | [] => .nil
  | x :: r => .cons (.int _) (dp_ints r)
theorem eqv_ints : ∀ xs : List Nat, PyData.eqvAll (xs.map fun n : Nat => PyData.int (n : Int)) (xs.map fun n : Nat => PyData.int (n : Int)) = true
  | [] => rfl
  | x :: r => by
    show (((x : Int) == (x : Int)) && PyData.eqvAll _ _) = true
    rw [beq_self_eq_true, eqv_ints r]
    rfl
theorem eqv_lists (xs : List Nat) : PyData.eqv (.list (xs.map fun n : Nat => PyData.int (n : Int))) (.list (xs.map fun n : Nat => PyData.int (n : Int))) = true := eqv_ints xs
theorem shaped_nats (xs : List Nat) : SeqAt.shaped (.list (xs.map fun n : Nat => PyData.int (n : Int))) = true := by
  have z := PySem.W.shaped_ints (xs.map fun n : Nat => (n : Int))
  rw [List.map_map] at z
  exact z
theorem Thing.str {K : PySem.W.Frag} {H : Hp} (z : Str) (h : z.length ≤ sizeLine) : Thing K H (.str z) := by
  have e : Thing K H (.str (T (TL.tl z))) := .text _ (by rw [← TL.len_tl]; exact h)
  rw [T_tl] at e
  exact e
theorem isT_az {l : List Nat} (h : l.all az = true) (hl : l.length ≤ 200) : isT (.str (T l)) = true := by
  show (decide ((T l).length ≤ 200) && l.all az) = true
  rw [T_len, decide_eq_true hl, h]
  rfl
def odds (p1 p2 p3 : Addr) : List V := [.str "A", .str "a a", .str "\n", .non, .int 5, .bl true, .ref p1, .ref p2, .ref p3, .str (T (List.replicate 201 [97]).flatten), .str "a{", .str "a1"]
theorem odd_at {K : PySem.W.Frag} {H : Hp} {p1 p2 p3 : Addr} {xs ys : List V} {kvs : List (Key × V)} (h1 : H p1 = some (.lst xs)) (h2 : H p2 = some (.tup ys)) (h3 : H p3 = some (.dK kvs)) :
    ∀ j, j < 12 → ∃ x, (odds p1 p2 p3)[j]? = some x ∧ isT x = false ∧ Thing K H x
  | 0, _ => ⟨_, rfl, by decide +kernel, .str _ (by decide +kernel)⟩
  | 1, _ => ⟨_, rfl, by decide +kernel, .str _ (by decide +kernel)⟩
  | 2, _ => ⟨_, rfl, by decide +kernel, .str _ (by decide +kernel)⟩
  | 3, _ => ⟨_, rfl, rfl, .other (.base .non) (by decide +kernel) rfl⟩
  | 4, _ => ⟨_, rfl, rfl, .other (.base (.int _)) (by decide +kernel) rfl⟩
  | 5, _ => ⟨_, rfl, rfl, .other (.base (.bl _)) (by decide +kernel) rfl⟩
  | 6, _ => ⟨_, rfl, rfl, .other (.base (.lst h1)) (by decide +kernel) rfl⟩
  | 7, _ => ⟨_, rfl, rfl, .other (.base (.tup h2)) (by decide +kernel) rfl⟩
  | 8, _ => ⟨_, rfl, rfl, .other (.base (.dK h3)) (by decide +kernel) rfl⟩
  | 9, _ => ⟨_, rfl, by decide +kernel, .str _ (by decide +kernel)⟩
  | 10, _ => ⟨_, rfl, by decide +kernel, .str _ (by decide +kernel)⟩
  | 11, _ => ⟨_, rfl, by decide +kernel, .str _ (by decide +kernel)⟩
  | n + 12, h => absurd h (by omega)
theorem mod12 (i : Int) : ∃ j : Nat, i.fmod 12 = (j : Int) ∧ j < 12 := by
  refine ⟨(i % 12).toNat, ?_, ?_⟩
  · rw [Int.fmod_eq_emod_of_nonneg _ (by decide)]
    omega
  · omega


def spRef (K : PySem.W.Frag) (P : Addr) : Sp := fun vs H Q _ => ∃ x, vs = [x] ∧ GxR.TabG H P ∧ Thing K H x ∧ isT x = false ∧ ∀ H', Kp P H H' → Q (.bl true) H'
theorem Kp.tabL {P : Addr} {H H' : Hp} (k : Kp P H H') : GxR.TabG H' P := k.tab

def isM : V → Bool
  | .str z => isT (.str z) && (decide (0 < z.length) && decide (TL.tl z = (TL.tl z).reverse))
  | _ => false
def pal (l : List Nat) : Bool := decide (l = l.reverse)
theorem isM_T (l : List Nat) : isM (.str (T l)) = (isT (.str (T l)) && (decide (0 < l.length) && pal l)) := by
  show (isT (.str (T l)) && (decide (0 < (T l).length) && decide (l = l.reverse))) = _
  rw [T_len]
  rfl
theorem isM_isT {x : V} (h : isM x = true) : isT x = true := by
  cases x with
  | str z => exact ((Bool.and_eq_true _ _).mp h).1
  | _ => cases h
theorem isT_le {l : List Nat} (h : isT (.str (T l)) = true) : l.length ≤ 200 := by
  have z1 := of_decide_eq_true ((Bool.and_eq_true _ _).mp h).1
  rw [T_len] at z1
  exact z1
theorem isT_all {l : List Nat} (h : isT (.str (T l)) = true) : l.all az = true := ((Bool.and_eq_true _ _).mp h).2
theorem isT_mk {l : List Nat} (h : l.all az = true) (hl : l.length ≤ 200) : isT (.str (T l)) = true := by
  show (decide ((T l).length ≤ 200) && l.all az) = true
  rw [T_len, decide_eq_true hl, h]
  rfl
theorem isM_some {x : V} (h : isM x = true) : ∃ l, x = .str (T l) ∧ l.length ≤ 200 ∧ 0 < l.length ∧ pal l = true ∧ l.all az = true := by
  cases x with
  | str z =>
    have ht := isM_isT h
    have e : z = T (TL.tl z) := (T_tl z).symm
    rw [e] at h ht
    refine ⟨TL.tl z, by rw [← e], isT_le ht, ?_⟩
    rw [isM_T, Bool.and_eq_true, Bool.and_eq_true] at h
    exact ⟨of_decide_eq_true h.2.1, h.2.2, isT_all ht⟩
  | _ => cases h

def sV (l : List Nat) : V := .str (T l)
/-- the mirror words at the end of l that begin ahead of i, the longest first -/
def endsN (l : List Nat) (i : Nat) : List (List Nat) := ((List.range i).map fun j => l.drop j).filter pal
theorem endsN_succ (l : List Nat) (i : Nat) : endsN l (i + 1) = endsN l i ++ if pal (l.drop i) = true then [l.drop i] else [] := by
  unfold endsN
  rw [List.range_succ, List.map_append, List.filter_append]
  congr 1
  by_cases h : pal (l.drop i) = true
  · rw [if_pos h, List.map_singleton, List.filter_cons_of_pos h]
    rfl
  · rw [if_neg h, List.map_singleton, List.filter_cons_of_neg h]
    rfl
theorem endsN_len (l : List Nat) (i : Nat) : (endsN l i).length ≤ i := by
  unfold endsN
  refine Nat.le_trans (List.length_filter_le _ _) ?_
  rw [List.length_map, List.length_range]
  exact Nat.le_refl _
theorem endsN_head {l : List Nat} (h : pal l = true) : ∀ i, 0 < i → ∃ r, endsN l i = l :: r
  | 0, z => absurd z (Nat.lt_irrefl _)
  | 1, _ => ⟨[], by
      rw [endsN_succ]
      show [] ++ (if pal (l.drop 0) = true then [l.drop 0] else []) = [l]
      rw [List.drop_zero, if_pos h]
      rfl⟩
  | i + 2, _ => by
    obtain ⟨r, e⟩ := endsN_head h (i + 1) (Nat.succ_pos _)
    rw [endsN_succ, e]
    exact ⟨_, rfl⟩
def tailL (l : List Nat) : List Nat := (endsN l l.length ++ [[]]).getD 1 []
theorem cut_from (l : List Nat) (i : Nat) : cutS (T l) (some (i : Int)) none = T (l.drop i) := by
  rw [cutS_T, HT.sIx_none, HT.sIx_nat]
  congr 1
  by_cases h : i ≤ l.length
  · rw [Nat.min_eq_left h]
    exact List.take_of_length_le (by rw [List.length_drop]; exact Nat.le_refl _)
  · rw [Nat.min_eq_right (by omega), Nat.sub_self, List.take_zero, List.drop_eq_nil_of_le (by omega)]

def spAlike : Sp := fun vs H Q _ => ∃ l : List Nat, vs = [.str (T l)] ∧ l.length ≤ sizeLine ∧ Q (.bl (pal l)) H
def spMir (K : PySem.W.Frag) (P : Addr) : Sp := fun vs H Q _ => ∃ x, vs = [x] ∧ GxR.TabG H P ∧ Thing K H x ∧ ∀ H', GxR.Tabbed P H H' → Q (.bl (isM x)) H'
def spNoM (K : PySem.W.Frag) (P BW : Addr) : Sp := fun vs H Q E => ∃ x, vs = [x] ∧ GxR.TabG H P ∧ Thing K H x ∧ (isM x = false → ∀ H', GxR.Tabbed P H H' → E (.ref BW) none H') ∧ (isM x = true → ∀ H', GxR.Tabbed P H H' → Q .non H')

end Mw
namespace Mw
open PySem PySem.Spec PyProof.Rows L2
def spNoT (K : PySem.W.Frag) (P BT : Addr) : Sp := fun vs H Q E => ∃ x, vs = [x] ∧ GxR.TabG H P ∧ Thing K H x ∧ (isT x = false → ∀ H', GxR.Tabbed P H H' → E (.ref BT) none H') ∧ (isT x = true → ∀ H', GxR.Tabbed P H H' → Q .non H')
end Mw
namespace Mw
open PySem PySem.Spec PyProof.Rows L2
def topS (i : Nat) : Stmt := PySem.Challenge.pw_mirrorwords_k02_arms.main.body.getD i (.Pass ⟨0, 0, 0, 0⟩)
abbrev sIs : Stmt := topS 11 -- is_text
abbrev sRNT : Stmt := topS 12 -- refuse_no_text
abbrev sArms : Stmt := topS 14 -- arms
abbrev sArmAt : Stmt := topS 15 -- arm_at
abbrev sDraw : Stmt := topS 17 -- _law_draw
abbrev sText : Stmt := topS 18 -- _law_text
abbrev sLArm : Stmt := topS 19 -- _law_arm
abbrev sRef : Stmt := topS 20 -- _law_refused
abbrev sLaw : Stmt := topS 21 -- law
end Mw
namespace Mw
open PySem PySem.Spec PyProof.Rows L2
/-! ### is_text -/
theorem scIs : FnScope ["thing"] ["thing"] (defScope sIs) := ⟨rfl, rfl, rfl, by decide +kernel, rfl, by decide +kernel, by decide +kernel⟩
section
variable {Pr : Program} {w : World} {K : PySem.W.Frag} {mg : Str → Option Value} {base : Heap} {P : Addr}
theorem ok_is {f c : Addr} {fd : FuncData} {tm : Tok} (F : Fun K "is_text" "is_text" sIs f fd) (hcode : fd.code = .ref c) (TB : GxR.TabB base mg c P) (mi : mg "isinstance" = none) (ml : mg "len" = none) (ma : mg "all" = none) (ms : mg "str" = none)
    (mm : mg "MOST" = some (.int 200 tm)) : FnOk Pr w K mg base CX0 1 f fd ["thing"] (spIs K P) := by
  refine okC F scIs (fun vs H Q E h => ?_) (fun A outer s H vs Q E hr h => ?_)
  · obtain ⟨x, rfl, _⟩ := h
    rfl
  · obtain ⟨x, rfl, tab, th, q⟩ := h
    refine ⟨_, pss_one (ps_ret (pe_and (pe_callB call_isi (by rfl) mi boot_isinstance (pa_cons (pv 0) (pa_cons (pe_bltn (v := .ty "str") (by rfl) ms PyProof.Rows.boot_str rfl) pa_nil)))
      (pe_and (pe_cmpR op_le (pe_callB call_len_str (by rfl) ml PySem.boot_len (pa_cons (pv 0) pa_nil)) (pe_glob (v := .int 200) (by rfl) mm ⟨_, rfl⟩) (nomark _))
      (pe_one (GxR.pe_allS hr (by rfl) ma boot_all TB hcode (genS rfl rfl (by decide +kernel) rfl rfl) (pv 0) (elt_az rfl rfl) (fun _ => rfl)))))), ?_⟩
    cases th with
    | other t k no =>
      refine ⟨x, rfl, x, .ty "str", _, _, false, rfl, .ty _, t, kit_ty k, false, rfl, iteF ?_⟩
      have z := q H ⟨tab, fun _ _ => rfl⟩
      rw [no] at z
      exact z
    | text l hl =>
      refine ⟨.str (T l), rfl, .str (T l), .ty "str", _, _, true, rfl, .ty _, .base (.str _), kit_ty (by decide +kernel), true, rfl, iteT ?_⟩
      refine ⟨.str (T l), rfl, T l, rfl, by rw [T_len]; exact hl, _, 200, rfl, rfl, _, rfl, ?_⟩
      by_cases h : l.length ≤ 200
      · have e : decide (((T l).length : Int) ≤ 200) = true := decide_eq_true (by rw [T_len]; omega)
        rw [e]
        refine iteT ⟨.str (T l), rfl, T l, rfl, tab, fun H2 hT => ?_⟩
        have z := q H2 hT
        have e2 : isT (.str (T l)) = (T l).cps.toList.all az := by
          show (decide ((T l).length ≤ 200) && l.all az) = l.all az
          rw [T_len, decide_eq_true h, Bool.true_and]
        rw [e2] at z
        exact z
      · have e : decide (((T l).length : Int) ≤ 200) = false := decide_eq_false (by rw [T_len]; omega)
        rw [e]
        refine iteF ?_
        have z := q H ⟨tab, fun _ _ => rfl⟩
        have e2 : isT (.str (T l)) = false := by
          show (decide ((T l).length ≤ 200) && l.all az) = false
          rw [T_len, decide_eq_false h, Bool.false_and]
        rw [e2] at z
        exact z
end
end Mw
namespace Mw
open PySem PySem.Spec PyProof.Rows L2
theorem scArmAt : FnScope ["text", "middle", "left", "right", "arm"] ["text", "middle"] (defScope sArmAt) := ⟨rfl, rfl, rfl, by decide +kernel, rfl, by decide +kernel, by decide +kernel⟩
section
variable {Pr : Program} {w : World} {K : PySem.W.Frag} {mg : Str → Option Value} {base : Heap}
theorem ok_armAt {f : Addr} {fd : FuncData} (F : Fun K "arm_at" "arm_at" sArmAt f fd) (ml : mg "len" = none) : FnOk Pr w K mg base CX0 1 f fd ["text", "middle"] spArmAt := by
  refine F.ok scArmAt (fun vs H Q E h => ?_) (fun cdv A outer s H vs Q E hr h => ?_)
  · obtain ⟨l, m, rfl, _⟩ := h
    rfl
  · obtain ⟨l, m, rfl, hl, q⟩ := h
    refine ⟨_, pss_cons (ps_set (i := 2) scArmAt.nd rfl (.inl rfl) (pe_op op_fdivN (pe_op op_sub (pv 1) pe_int) pe_int))
      (pss_cons (ps_set (i := 3) scArmAt.nd rfl (.inl rfl) (pe_op op_add (pe_op op_fdivN (pv 1) pe_int) pe_int))
      (pss_cons (ps_set (i := 4) scArmAt.nd rfl (.inl rfl) pe_int)
      (pss_cons (ps_while PassesOwn.never (PW.pt (pw_and (pt_cmpR op_ge (pv 2) pe_int (nomark _)) (pw_and (pt_cmpR op_lt (pv 3) (pe_callB call_len_str (by rfl) ml PySem.boot_len (pa_cons (pv 0) pa_nil)) (nomark _))
          (pw_and1 (pt_cmpR op_eq (pe_ix ix_str (pv 0) (pv 2) (fun _ _ => rfl)) (pe_ix ix_str (pv 0) (pv 3) (fun _ _ => rfl)) (nomark _))))))
        (pss_cons (ps_aug (i := 4) scArmAt.nd rfl (.inl rfl) pe_int ip_add) (pss_cons (ps_aug (i := 2) scArmAt.nd rfl (.inl rfl) pe_int ip_sub) (pss_one (ps_aug (i := 3) scArmAt.nd rfl (.inl rfl) pe_int ip_add)))))
      (pss_one (ps_ret (pv 4)))))), ?_⟩
    refine ⟨_, rfl, _, 1, rfl, rfl, (m : Int) - 1, 2, rfl, rfl, ⟨by decide, by decide⟩, ?_⟩
    refine ⟨_, rfl, (m : Int), 2, rfl, rfl, ⟨by decide, by decide⟩, (m : Int).fdiv 2, 1, rfl, rfl, ?_⟩
    have eL : ((m : Int) - 1).fdiv 2 = (((m + 1) / 2 : Nat) : Int) - 1 := by
      rw [Int.fdiv_eq_ediv_of_nonneg _ (by decide)]
      omega
    have eR : (m : Int).fdiv 2 = ((m / 2 : Nat) : Int) := by
      rw [Int.fdiv_eq_ediv_of_nonneg _ (by decide)]
      omega
    refine ⟨fun n σ H' => H' = H ∧ ∃ k : Nat, σ = [some (.str (T l)), some (.int (m : Int)), some (.int ((((m + 1) / 2 : Nat) : Int) - 1 - k)), some (.int (((m / 2 : Nat) : Int) + 1 + k)), some (.int (k : Int))] ∧ k + n = l.length + 1 ∧ ∀ j, j < k → okAt l m j = true,
      ⟨l.length + 1, rfl, 0, ?_, by omega, fun j h => absurd h (by omega)⟩, fun n σ H' hW => ?_⟩
    · show [some (V.str (T l)), some (V.int (m : Int)), some (V.int (((m : Int) - 1).fdiv 2)), some (V.int ((m : Int).fdiv 2 + 1)), some (V.int 0)] = _
      rw [eL, eR]
      simp
    obtain ⟨rfl, k, rfl, hn, hk⟩ := hW
    have hkl : k ≤ l.length := by
      cases k with
      | zero => exact Nat.zero_le _
      | succ i =>
        have := okAt_lt (hk i (Nat.lt_succ_self _))
        omega
    have done : okAt l m k = false → Q (.int ((armL l m : Nat) : Int)) H' → Q (.int (k : Int)) H' := fun z q => by
      rw [armL_of hk z] at q
      exact q
    refine ⟨_, rfl, _, 0, rfl, rfl, _, rfl, ?_⟩
    by_cases c1 : k + 1 ≤ (m + 1) / 2
    · rw [decide_eq_true (show (0 : Int) ≤ (((m + 1) / 2 : Nat) : Int) - 1 - k by omega)]
      refine iteT ⟨_, rfl, _, rfl, T l, rfl, by rw [T_len]; exact small200 hl, _, _, rfl, rfl, _, rfl, ?_⟩
      by_cases c2 : m / 2 + 1 + k < l.length
      · rw [decide_eq_true (show ((m / 2 : Nat) : Int) + 1 + k < ((T l).length : Int) by rw [T_len]; omega)]
        have h1 : (m + 1) / 2 - (k + 1) < l.length := by omega
        have a1 : atI (T l).cps.toList ((((m + 1) / 2 : Nat) : Int) - 1 - k) = some l[(m + 1) / 2 - (k + 1)] := by
          have e : ((((m + 1) / 2 : Nat) : Int) - 1 - k) = (((m + 1) / 2 - (k + 1) : Nat) : Int) := by omega
          rw [e]
          exact atI_nat (List.getElem?_eq_getElem h1)
        have a2 : atI (T l).cps.toList (((m / 2 : Nat) : Int) + 1 + k) = some l[m / 2 + 1 + k] := by
          have e : (((m / 2 : Nat) : Int) + 1 + k) = ((m / 2 + 1 + k : Nat) : Int) := by omega
          rw [e]
          exact atI_nat (List.getElem?_eq_getElem c2)
        refine iteT ⟨_, rfl, _, rfl, T l, _, _, rfl, rfl, by rw [T_len]; exact small200 hl, a1, _, rfl, _, rfl, T l, _, _, rfl, rfl, by rw [T_len]; exact small200 hl, a2, rfl, _, rfl, ?_⟩
        rw [sgn_dec]
        have ok : okAt l m k = decide (l[(m + 1) / 2 - (k + 1)] = l[m / 2 + 1 + k]) := by
          unfold okAt
          rw [decide_eq_true c1, decide_eq_true c2, Bool.true_and, Bool.true_and, List.getElem?_eq_getElem h1, List.getElem?_eq_getElem c2]
          by_cases z : l[(m + 1) / 2 - (k + 1)] = l[m / 2 + 1 + k]
          · rw [z, decide_eq_true rfl]
            exact beq_self_eq_true _
          · rw [decide_eq_false z]
            exact beq_eq_false_iff_ne.mpr fun y => z (Option.some.inj y)
        by_cases c3 : l[(m + 1) / 2 - (k + 1)] = l[m / 2 + 1 + k]
        · rw [decide_eq_true c3] at ok ⊢
          refine iteT ⟨fun σ' H2 => H2 = H' ∧ σ' = [some (.str (T l)), some (.int (m : Int)), some (.int ((((m + 1) / 2 : Nat) : Int) - 1 - (k + 1 : Nat))), some (.int (((m / 2 : Nat) : Int) + 1 + (k + 1 : Nat))), some (.int ((k + 1 : Nat) : Int))], fun σ' H2 hN => ?_, ?_⟩
          · obtain ⟨e1, e2⟩ := hN
            refine ⟨n - 1, by omega, e1, k + 1, e2, by omega, fun j hj => ?_⟩
            by_cases z : j = k
            · rw [z]
              exact ok
            · exact hk j (by omega)
          · refine ⟨_, rfl, _, _, rfl, rfl, _, rfl, _, _, rfl, rfl, _, rfl, _, _, rfl, rfl, rfl, ?_⟩
            show [some (V.str (T l)), some (.int (m : Int)), some (.int ((((m + 1) / 2 : Nat) : Int) - 1 - k - 1)), some (.int (((m / 2 : Nat) : Int) + 1 + k + 1)), some (.int ((k : Int) + 1))] = _
            have e1 : ((((m + 1) / 2 : Nat) : Int) - 1 - k - 1) = (((m + 1) / 2 : Nat) : Int) - 1 - (k + 1 : Nat) := by omega
            have e2 : (((m / 2 : Nat) : Int) + 1 + k + 1) = ((m / 2 : Nat) : Int) + 1 + (k + 1 : Nat) := by omega
            have e3 : ((k : Int) + 1) = ((k + 1 : Nat) : Int) := by omega
            rw [e1, e2, e3]
        · rw [decide_eq_false c3] at ok ⊢
          exact iteF ⟨_, rfl, done ok q⟩
      · rw [decide_eq_false (show ¬ ((m / 2 : Nat) : Int) + 1 + k < ((T l).length : Int) by rw [T_len]; omega)]
        refine iteF (iteF ⟨_, rfl, done ?_ q⟩)
        unfold okAt
        rw [decide_eq_false c2, Bool.false_and, Bool.and_false]
    · rw [decide_eq_false (show ¬ (0 : Int) ≤ (((m + 1) / 2 : Nat) : Int) - 1 - k by omega)]
      refine iteF (iteF ⟨_, rfl, done ?_ q⟩)
      unfold okAt
      rw [decide_eq_false c1, Bool.false_and]
end
end Mw
namespace Mw
open PySem PySem.Spec PyProof.Rows L2

/-! ### what is no text is refused -/
theorem scRNT : FnScope ["text"] ["text"] (defScope sRNT) := ⟨rfl, rfl, rfl, by decide +kernel, rfl, by decide +kernel, by decide +kernel⟩
section
variable {Pr : Program} {w : World} {K : PySem.W.Frag} {mg : Str → Option Value} {base : Heap} {P BT fI : Addr} {dI : FuncData}
theorem ok_rnt {f : Addr} {fd : FuncData} (F : Fun K "refuse_no_text" "refuse_no_text" sRNT f fd) (FI : Fn Pr w K mg base CX0 1 "is_text" fI dI ["thing"] (spIs K P)) (EB : ErrC K mg "BadText" BT) :
    FnOk Pr w K mg base (L2.CX Pr w) 2 f fd ["text"] (spNoT K P BT) := by
  refine F.okX scRNT (fun vs H Q E h => ?_) (fun cdv A outer s H vs Q E hr h => ?_)
  · obtain ⟨x, rfl, _⟩ := h
    rfl
  · obtain ⟨x, rfl, tab, th, qE, q⟩ := h
    refine ⟨_, pss_one (ps_if (pt_not (pt_val (pe_call FI.ok hr (by rfl) FI.g FI.k FI.b .nil pass0 (pa_cons (pv 0) pa_nil))))
        (pss_one (ps_raise rfl (takes_of rfl rfl rfl rfl) (pmk_own PySem.F.excBase_ValueError EB.x EB.g EB.k (raises_own EB.b EB.t) (by rfl)))) pss_nil), ?_⟩
    refine ⟨_, rfl, x, rfl, tab, th, fun H1 hT => ⟨isT x, rfl, ?_⟩⟩
    cases e : isT x with
    | false => exact iteT (qE e H1 hT)
    | true => exact iteF (q e H1 hT)
end
end Mw
namespace Mw
open PySem PySem.Spec PyProof.Rows L2

/-! ### arms -/
theorem scArms : FnScope ["text", "middle"] ["text"] (defScope sArms) := ⟨rfl, rfl, rfl, by decide +kernel, rfl, by decide +kernel, by decide +kernel⟩
section
variable {Pr : Program} {w : World} {K : PySem.W.Frag} {mg : Str → Option Value} {base : Heap} {P BT fI fA : Addr} {dI dA : FuncData}
theorem ok_arms {f : Addr} {fd : FuncData} (F : Fun K "arms" "arms" sArms f fd) (FN : Fn Pr w K mg base (L2.CX Pr w) 2 "refuse_no_text" fI dI ["text"] (spNoT K P BT)) (FA : Fn Pr w K mg base CX0 1 "arm_at" fA dA ["text", "middle"] spArmAt)
    (ml : mg "len" = none) (mr : mg "range" = none) : FnOk Pr w K mg base (L2.CX Pr w) 3 f fd ["text"] (spArms K P BT) := by
  refine F.okX scArms (fun vs H Q E h => ?_) (fun cdv A outer s H vs Q E hr h => ?_)
  · obtain ⟨x, rfl, _⟩ := h
    rfl
  · obtain ⟨x, rfl, tab, th, qE, q⟩ := h
    refine ⟨_, pss_cons (ps_expr (pe_call (E := E) FN.ok hr (by rfl) FN.g FN.k FN.b .nil (passes_call (takes_of rfl rfl rfl rfl) (fun _ _ _ _ h => h)) (pa_cons (pv 0) pa_nil)))
      (pss_one (ps_ret (pe_lc (own := [("middle", 1)]) (g := gName 1) (tt := tYes) rfl scArms.nd (pi_range1 (by rfl) mr (pa_cons (pe_op op_sub (pe_op op_mul pe_int (pe_callB call_len_str (by rfl) ml PySem.boot_len (pa_cons (pv 0) pa_nil))) pe_int) pa_nil))
        (blkOk_by (own := [("middle", 1)]) (N := ["text", "middle"]) (sc := defScope sArms) (by decide +kernel)) (fun _ _ _ _ _ => pg_name (i := 1) scArms.nd rfl (Or.inl rfl)) (fun _ _ _ _ _ => pts_nil)
        (fun _ _ _ _ _ => pe_call FA.ok (hr.mono (by decide)) (by rfl) FA.g FA.k FA.b .nil pass0 (pa_cons (pv 0) (pa_cons (pv 1) pa_nil)))))), ?_⟩
    refine ⟨_, rfl, x, rfl, tab, th, qE, fun e H1 hT => ?_⟩
    · cases th with
      | other _ _ no =>
        rw [no] at e
        cases e
      | text l hl0 =>
        have hl : l.length ≤ 200 := by
          have z : (decide ((T l).length ≤ 200) && l.all az) = true := e
          have z1 := of_decide_eq_true ((Bool.and_eq_true _ _).mp z).1
          rw [T_len] at z1
          exact z1
        refine ⟨_, rfl, T l, rfl, by rw [T_len]; exact small200 hl, 2, ((T l).length : Int), rfl, rfl, .inl ⟨by decide, by decide⟩, _, 1, rfl, rfl, _, rfl, by rw [T_len]; omega, by rw [T_len]; omega, fun D hD => ?_⟩
        have kp1 : Kp P H H1 := .tabbed hT
        have hDP : D ≠ P := new_ne kp1.tab hD
        have H0 : H D = none := kp1.free tab hD
        have en : ((2 : Int) * ((T l).length : Int) - 1).toNat = 2 * l.length - 1 := by rw [T_len]; omega
        show ∃ W : Nat → Nat → Hp → Prop, (∃ m, W 0 m (upd H1 D (.lst []))) ∧ ∀ i m H, W i m H → ((Itr 0 ((2 : Int) * ((T l).length : Int) - 1).toNat).stop i H ∧ _) ∨ ((Itr 0 ((2 : Int) * ((T l).length : Int) - 1).toNat).go i H ∧ _)
        rw [en]
        refine lc_range (lo := 0) (n := 2 * l.length - 1) (fun i H' => Kp P H H' ∧ H' D = some (.lst (((armsL l).take i).map nV))) ⟨kp1.step hD, upd_same⟩ (fun i H' hi hW => ?_) (fun H' hW => ?_)
        · obtain ⟨kp, hd⟩ := hW
          refine ⟨rfl, ?_⟩
          refine ⟨_, rfl, _, rfl, l, i, by rw [Int.zero_add]; rfl, hl, ((armsL l).take i).map nV, hd, ?_, ?_, ?_⟩
          · rw [List.length_map, List.length_take, armsL_len]
            exact small1000 (by omega)
          · exact kp.own H0 hDP
          · rw [upd_same, armsL_take hi, List.map_append]
            rfl
        · obtain ⟨kp, hd⟩ := hW
          rw [List.take_of_length_le (by rw [armsL_len]; exact Nat.le_refl _)] at hd
          exact q e l rfl hl H' D kp H0 hd
end
end Mw
namespace Mw
open PySem PySem.Spec PyProof.Rows L2

/-! ### a cell of the script, or nought -/
theorem scDraw : FnScope ["_law_script", "_law_k"] ["_law_script", "_law_k"] (defScope sDraw) := ⟨rfl, rfl, rfl, by decide +kernel, rfl, by decide +kernel, by decide +kernel⟩
section
variable {Pr : Program} {w : World} {K : PySem.W.Frag} {mg : Str → Option Value} {base : Heap}
theorem ok_draw {f : Addr} {fd : FuncData} (F : Fun K "_law_draw" "_law_draw" sDraw f fd) (ml : mg "len" = none) : FnOk Pr w K mg base CX0 1 f fd ["_law_script", "_law_k"] (spDraw K) := by
  refine F.ok scDraw (fun vs H Q E h => ?_) (fun cdv A outer s H vs Q E hr h => ?_)
  · obtain ⟨a, ns, k, rfl, _⟩ := h
    rfl
  · obtain ⟨a, ns, k, rfl, hS, q⟩ := h
    refine ⟨_, pss_one (ps_ret (pe_ifExp (pt_cmpR op_gt (pe_callB call_len_seq (by rfl) ml PySem.boot_len (pa_cons (pv 0) pa_nil)) (pv 1) (nomark _)) (pe_ix ix_list (pv 0) (pv 1) (fun _ _ => rfl)) pe_int)), ?_⟩
    refine ⟨.ref a, rfl, a, _, rfl, .inl hS, _, rfl, _, _, rfl, rfl, _, rfl, ?_⟩
    by_cases h : k < ns.length
    · rw [decide_eq_true (show (k : Int) < ((ns.map V.int).length : Int) by rw [List.length_map]; omega)]
      refine iteT ⟨_, rfl, _, rfl, a, _, _, .int (ns.getD k 0), rfl, rfl, hS, atI_nat ?_, q⟩
      rw [List.getElem?_map, List.getElem?_eq_getElem h, List.getD_eq_getElem?_getD, List.getElem?_eq_getElem h]
      rfl
    · rw [decide_eq_false (show ¬ (k : Int) < ((ns.map V.int).length : Int) by rw [List.length_map]; omega)]
      refine iteF ?_
      rw [List.getD_eq_getElem?_getD, List.getElem?_eq_none (by omega)] at q
      exact q
end

/-! ### the drawn text -/
abbrev nText : List Str := ["_law_script", "_law_first", "_law_most", "_law_way", "_law_many", "_law_letters", "_law_start", "_law_word", "_law_half", "_law_cell"]
theorem scText : FnScope nText ["_law_script", "_law_first", "_law_most"] (defScope sText) := ⟨rfl, rfl, rfl, by decide +kernel, rfl, by decide +kernel, by decide +kernel⟩
section
variable {Pr : Program} {w : World} {K : PySem.W.Frag} {mg : Str → Option Value} {base : Heap} {fD : Addr} {dD : FuncData}
theorem ok_text {f : Addr} {fd : FuncData} (F : Fun K "_law_text" "_law_text" sText f fd) (FD : Fn Pr w K mg base CX0 1 "_law_draw" fD dD ["_law_script", "_law_k"] (spDraw K)) (ml : mg "len" = none) :
    FnOk Pr w K mg base CX0 2 f fd ["_law_script", "_law_first", "_law_most"] (spText K) := by
  refine F.ok scText (fun vs H Q E h => ?_) (fun cdv A outer s H vs Q E hr h => ?_)
  · obtain ⟨a, ns, i, n, rfl, _⟩ := h
    rfl
  · obtain ⟨a, ns, i, n, rfl, hS, hn, q⟩ := h
    refine ⟨_, pss_cons (ps_set (i := 3) scText.nd rfl (.inl rfl) (pe_op op_modN (pe_call FD.ok hr (by rfl) FD.g FD.k FD.b .nil pass0 (pa_cons (pv 0) (pa_cons pe_int pa_nil))) pe_int)) <|
      pss_cons (ps_set (i := 4) scText.nd rfl (.inr rfl) (pe_ix ix_list (pe_lst (pa_cons pe_int (pa_cons pe_int (pa_cons pe_int (pa_cons pe_int (pa_cons pe_int (pa_cons pe_int pa_nil)))))))
          (pe_op op_modN (pe_op op_fdivN (pe_call FD.ok hr (by rfl) FD.g FD.k FD.b .nil pass0 (pa_cons (pv 0) (pa_cons pe_int pa_nil))) pe_int) pe_int) (fun _ _ => rfl))) <|
      pss_cons (ps_set (i := 5) scText.nd rfl (.inr rfl) pe_str) <|
      pss_cons (ps_set (i := 6) scText.nd rfl (.inr rfl) (pe_op op_modN (pe_op op_fdivN (pe_call FD.ok hr (by rfl) FD.g FD.k FD.b .nil pass0 (pa_cons (pv 0) (pa_cons pe_int pa_nil))) pe_int) pe_int)) <|
      pss_cons (ps_set (i := 7) scText.nd rfl (.inl rfl) (pe_join pe_str (pe_lc (own := [("_law_cell", 9)]) (g := gName 9) (tt := tYes) rfl scText.nd
          (pi_list (pe_slice sl_list (pv 0) (po_some (pv 1)) (po_some (pe_op op_add (pv 1) (pv 2))))) (blkOk_by (own := [("_law_cell", 9)]) (N := nText) (sc := defScope sText) (by decide +kernel))
          (fun _ _ _ _ _ => pg_name (i := 9) scText.nd rfl (Or.inl rfl)) (fun _ _ _ _ _ => pts_nil)
          (fun _ _ _ _ _ => pe_ix ix_str (pv 5) (pe_op op_modN (pe_op op_add (pv 6) (pe_op op_modN (pe_op op_fdivN (pv 9) pe_int) (pv 4))) pe_int) (fun _ _ => rfl))))) <|
      pss_cons (ps_set (i := 8) scText.nd rfl (.inl rfl) (pe_slice sl_str (pv 7) po_none (po_some (pe_op op_fdivN (pe_callB call_len_str (by rfl) ml PySem.boot_len (pa_cons (pv 7) pa_nil)) pe_int)))) <|
      pss_cons (ps_if (pt_cmpR op_eq (pv 3) pe_int (nomark _)) (pss_one (ps_ret (pe_op op_add_str (pv 8) (pv 8)))) pss_nil) <|
      pss_cons (ps_if (pt_cmpR op_eq (pv 3) pe_int (nomark _)) (pss_one (ps_ret (pe_op op_add_str (pv 8) (pe_revS (pv 8))))) pss_nil) <|
      pss_cons (ps_if (pt_cmpR op_eq (pv 3) pe_int (nomark _)) (pss_one (ps_ret (pe_op op_add_str (pe_op op_add_str (pv 8) (pe_slice sl_str (pv 7) (po_some (pe_callB call_len_str (by rfl) ml PySem.boot_len (pa_cons (pv 8) pa_nil)))
          (po_some (pe_op op_add (pe_callB call_len_str (by rfl) ml PySem.boot_len (pa_cons (pv 8) pa_nil)) pe_int)))) (pe_revS (pv 8))))) pss_nil) <|
      pss_cons (ps_if (pt_cmpR op_eq (pv 3) pe_int (nomark _)) (pss_one (ps_ret (pe_slice sl_str (pe_op op_repS (pe_slice sl_str (pv 7) po_none (po_some (pe_op op_add pe_int (pe_op op_fdivN (pe_callB call_len_str (by rfl) ml PySem.boot_len (pa_cons (pv 7) pa_nil)) pe_int)))) pe_int)
          po_none (po_some (pe_callB call_len_str (by rfl) ml PySem.boot_len (pa_cons (pv 7) pa_nil)))))) pss_nil) <|
      pss_one (ps_ret (pv 7)), ?_⟩
    -- way, many
    obtain ⟨j6, e6, h6⟩ := mod6 ((ns.getD 0 0).fdiv 6)
    obtain ⟨s26, es, hs26⟩ := mod26 ((ns.getD 0 0).fdiv 36)
    refine ⟨_, rfl, a, ns, 0, rfl, hS, _, 6, rfl, rfl, show (6 : Int) ≠ 0 by decide, ?_⟩
    refine ⟨by decide, fun p0 hp0 => ?_⟩
    have s0 : Same H (upd H p0 (.lst [.int 1, .int 2, .int 2, .int 3, .int 26, .int 2])) := same_upd hp0
    refine ⟨_, rfl, a, ns, 0, rfl, s0.seq hS, _, 6, rfl, rfl, ⟨by decide, by decide⟩, _, 6, rfl, rfl, show (6 : Int) ≠ 0 by decide, ?_⟩
    have hmany : ∃ mv : Int, atI ([.int 1, .int 2, .int 2, .int 3, .int 26, .int 2] : List V) (((ns.getD 0 0).fdiv 6).fmod 6) = some (.int mv) ∧ mv ≠ 0 := by
      rw [e6]
      match j6, h6 with
      | 0, _ => exact ⟨1, atI_nat rfl, by decide⟩
      | 1, _ => exact ⟨2, atI_nat rfl, by decide⟩
      | 2, _ => exact ⟨2, atI_nat rfl, by decide⟩
      | 3, _ => exact ⟨3, atI_nat rfl, by decide⟩
      | 4, _ => exact ⟨26, atI_nat rfl, by decide⟩
      | 5, _ => exact ⟨2, atI_nat rfl, by decide⟩
    obtain ⟨mv, hmv, hm0⟩ := hmany
    refine ⟨p0, _, _, .int mv, rfl, rfl, .inl (.inl upd_same), hmv, ?_⟩
    -- start
    refine ⟨_, rfl, a, ns, 0, rfl, s0.seq hS, _, 36, rfl, rfl, ⟨by decide, by decide⟩, _, 26, rfl, rfl, show (26 : Int) ≠ 0 by decide, ?_⟩
    -- word
    refine ⟨⟨_, rfl⟩, _, rfl, _, rfl, _, rfl, _, rfl, _, rfl, _, _, rfl, rfl, _, rfl, a, _, rfl, s0.seq hS, fun p1 hp1 => ?_⟩
    obtain ⟨ms, hms⟩ := cut_map ns (some (i : Int)) (some ((i : Int) + (n : Int)))
    have lms : ms.length ≤ n := by
      have z := cut_len (ns.map V.int) i n
      rw [hms, List.length_map] at z
      exact z
    have s1 : Same H (upd (upd H p0 (.lst [.int 1, .int 2, .int 2, .int 3, .int 26, .int 2])) p1 (.lst (ms.map V.int))) := s0.trans (same_upd hp1)
    rw [hms]
    refine ⟨p1, rfl, ⟨_, .inl (.inl upd_same)⟩, fun D hD => ?_⟩
    generalize hH1 : upd (upd H p0 (.lst [.int 1, .int 2, .int 2, .int 3, .int 26, .int 2])) p1 (.lst (ms.map V.int)) = H1 at *
    have q1 : H1 p1 = some (.lst (ms.map V.int)) := by
      rw [← hH1]
      exact upd_same
    have D1 : D ≠ p1 := (ne_of_none q1 hD).symm
    refine lc_list (K := K) (a := p1) (xs := ms.map V.int) (fun i H' => Same H H' ∧ H' p1 = some (.lst (ms.map V.int)) ∧ ∃ cs : List Nat, cs.length = i ∧ cs.all az = true ∧ H' D = some (.lst (cs.map fun c => V.str (T [c]))))
      ⟨s1.trans (same_upd hD), by rw [upd_ne D1.symm]; exact q1, [], rfl, rfl, upd_same⟩ (fun i H' _ hW => .inl (.inl hW.2.1)) (fun i x H' hx hW => ?_) (fun H' hW => ?_)
    · obtain ⟨sm, hp, cs, hcl, hca, hD'⟩ := hW
      obtain ⟨z, rfl⟩ : ∃ z, x = .int z := by
        rw [List.getElem?_map] at hx
        cases e : ms[i]? with
        | none =>
          rw [e] at hx
          cases hx
        | some z =>
          rw [e] at hx
          exact ⟨z, (Option.some.inj hx).symm⟩
      obtain ⟨jx, ejx, hjx⟩ := mod26 (((ns.getD 0 0).fdiv 36).fmod 26 + (z.fdiv 5).fmod mv)
      have hi : i < ms.length := by
        have := (List.getElem?_eq_some_iff.mp hx).1
        rw [List.length_map] at this
        exact this
      refine ⟨rfl, ?_⟩
      have at1 : atI (Str.ofString "abcdefghijklmnopqrstuvwxyz").cps.toList ((((ns.getD 0 0).fdiv 36).fmod 26 + (z.fdiv 5).fmod mv).fmod 26) = some (97 + jx) := by
        rw [ejx]
        exact abc_at hjx
      refine ⟨_, rfl, _, rfl, _, rfl, _, 5, rfl, rfl, ⟨by decide, by decide⟩, _, rfl, _, mv, rfl, rfl, hm0, _, _, rfl, rfl, _, 26, rfl, rfl, show (26 : Int) ≠ 0 by decide, _, _, 97 + jx, rfl, rfl, by decide, at1, ?_⟩
      have HD : H D = none := s1.free hD
      refine ⟨_, hD', by rw [List.length_map, hcl]; exact small1000 (by omega), fun b u e => ?_, ?_, cs ++ [97 + jx], ?_, ?_, ?_⟩
      · rw [upd_ne (ne_of_none e HD)]
        exact sm b u e
      · rw [upd_ne D1.symm]
        exact hp
      · rw [List.length_append, hcl]
        rfl
      · refine all_app hca ?_
        show (az (97 + jx) && true) = true
        unfold az
        rw [decide_eq_true (by omega), decide_eq_true (by omega)]
        rfl
      · rw [upd_same, List.map_append]
        rfl
    · obtain ⟨sm, hp, cs, hcl, hca, hD'⟩ := hW
      have lcs : cs.length ≤ n := by
        rw [hcl, List.length_map]
        exact lms
      have sq : SqL K H' D ((cs.map fun c => T [c]).map V.str) := by
        rw [List.map_map]
        exact .inl (.inl hD')
      refine ⟨_, D, _, rfl, rfl, .inl sq, ?_, ?_⟩
      · have e0 : ∀ l : List Nat, ((l.map fun c => T [c]).map (·.length)).sum = l.length := fun l => by
          induction l with
          | nil => rfl
          | cons c r ih =>
            show (T [c]).length + (((r.map fun c => T [c]).map (·.length)).sum) = r.length + 1
            rw [ih, T_len]
            show 1 + r.length = r.length + 1
            omega
        rw [e0, List.length_map]
        show cs.length + cs.length * 0 ≤ 16777216
        omega
      rw [join_signs]
      have hcz : cs.length ≤ sizeLine := Nat.le_of_lt (small1000 (by omega))
      -- half
      have hcT : (T cs).length ≤ sizeLine := by
        rw [T_len]
        exact hcz
      refine ⟨_, rfl, _, rfl, T cs, rfl, hcT, _, 2, rfl, rfl, ⟨by decide, by decide⟩, _, rfl, T cs, rfl, hcT, ?_⟩
      rw [T_len, half_of, cut_to]
      have hh : (cs.take (cs.length / 2)).length = cs.length / 2 := by
        rw [List.length_take]
        omega
      have ha := all_take hca (cs.length / 2)
      generalize cs.take (cs.length / 2) = hf at hh ha
      have hfT : (T hf).length ≤ sizeLine := by
        rw [T_len]
        omega
      have fits : ∀ a b : List Nat, a.length + b.length ≤ 300 → (T a).length + (T b).length ≤ sizeLine := fun a b h => by
        rw [T_len, T_len]
        exact Nat.le_of_lt (small1000 (by omega))
      -- way 1
      refine ⟨_, rfl, rfl, _, rfl, ite2 (fun _ => ?_) (fun _ => ?_)⟩
      · refine ⟨_, rfl, _, rfl, _, _, rfl, rfl, fits hf hf (by omega), ?_⟩
        have z := q H' (hf ++ hf) sm (all_app ha ha) (by rw [List.length_append]; omega)
        rw [← T_app] at z
        exact z
      -- way 2
      refine ⟨_, rfl, rfl, _, rfl, ite2 (fun _ => ?_) (fun _ => ?_)⟩
      · refine ⟨_, rfl, _, rfl, hf, rfl, by omega, _, _, rfl, rfl, fits hf hf.reverse (by rw [List.length_reverse]; omega), ?_⟩
        have z := q H' (hf ++ hf.reverse) sm (all_app ha (all_rev ha)) (by rw [List.length_append, List.length_reverse]; omega)
        rw [← T_app] at z
        exact z
      -- way 3
      refine ⟨_, rfl, rfl, _, rfl, ite2 (fun _ => ?_) (fun _ => ?_)⟩
      · obtain ⟨m1, em, ham, _⟩ := cutS_all hca (some ((T hf).length : Int)) (some (((T hf).length : Int) + 1))
        have lm : m1.length ≤ 1 := by
          have e := cutS_T cs (some ((T hf).length : Int)) (some (((T hf).length : Int) + 1))
          rw [em] at e
          have e1 := T_inj e
          have e2 : (((T hf).length : Int) + 1) = (((T hf).length + 1 : Nat) : Int) := by omega
          rw [e1, e2, HT.sIx_nat, HT.sIx_nat, List.length_take]
          omega
        refine ⟨_, rfl, _, rfl, _, rfl, T hf, rfl, hfT, _, rfl, _, rfl, T hf, rfl, hfT, _, 1, rfl, rfl, _, rfl, T cs, rfl, hcT, ?_⟩
        rw [em]
        refine ⟨_, _, rfl, rfl, fits hf m1 (by omega), _, rfl, hf, rfl, by omega, ?_⟩
        rw [T_app]
        refine ⟨_, _, rfl, rfl, fits (hf ++ m1) hf.reverse (by rw [List.length_append, List.length_reverse]; omega), ?_⟩
        have z := q H' (hf ++ m1 ++ hf.reverse) sm (all_app (all_app ha ham) (all_rev ha)) (by rw [List.length_append, List.length_append, List.length_reverse]; omega)
        rw [← T_app] at z
        exact z
      -- way 4
      refine ⟨_, rfl, rfl, _, rfl, ite2 (fun _ => ?_) (fun _ => ?_)⟩
      · obtain ⟨m1, em, ham, lm⟩ := cutS_all hca none (some (1 + ((T cs).length : Int).fdiv 5))
        refine ⟨_, rfl, _, rfl, T cs, rfl, hcT, _, 5, rfl, rfl, ⟨by decide, by decide⟩, 1, _, rfl, rfl, _, rfl, T cs, rfl, hcT, ?_⟩
        rw [em]
        have l5 : (List.replicate 5 m1).flatten.length = m1.length * 5 := by
          show (m1 ++ (m1 ++ (m1 ++ (m1 ++ (m1 ++ []))))).length = _
          simp only [List.length_append, List.length_nil]
          omega
        have s5 : (T (List.replicate 5 m1).flatten).length ≤ sizeLine := by
          rw [T_len, l5]
          exact Nat.le_of_lt (small1000 (by omega))
        refine ⟨m1, 5, rfl, rfl, by decide, Nat.le_of_lt (small1000 (by omega)), by decide, _, rfl, T cs, rfl, hcT, _, rfl, _, rfl, s5, ?_⟩
        have z := q H' ((List.replicate 5 m1).flatten.take cs.length) sm (all_take (all_rep ham 5) _) (by rw [List.length_take]; omega)
        rw [← cut_to] at z
        rw [T_len]
        exact z
      -- as it is
      · exact ⟨_, rfl, q H' cs sm hca (by omega)⟩
end
end Mw
namespace Mw
open PySem PySem.Spec PyProof.Rows L2
abbrev nLArm : List Str := ["_law_text_here", "_law_middle", "_law_left", "_law_right", "_law_arm_here", "_law_step"]
theorem scLArm : FnScope nLArm ["_law_text_here", "_law_middle"] (defScope sLArm) := ⟨rfl, rfl, rfl, by decide +kernel, rfl, by decide +kernel, by decide +kernel⟩
section
variable {Pr : Program} {w : World} {K : PySem.W.Frag} {mg : Str → Option Value} {base : Heap}
theorem ok_larm {f : Addr} {fd : FuncData} (F : Fun K "_law_arm" "_law_arm" sLArm f fd) (ml : mg "len" = none) (mr : mg "range" = none) : FnOk Pr w K mg base CX0 1 f fd ["_law_text_here", "_law_middle"] spArmAt := by
  refine F.ok scLArm (fun vs H Q E h => ?_) (fun cdv A outer s H vs Q E hr h => ?_)
  · obtain ⟨l, m, rfl, _⟩ := h
    rfl
  · obtain ⟨l, m, rfl, hl, q⟩ := h
    refine ⟨_, pss_cons (ps_set (i := 2) scLArm.nd rfl (.inl rfl) (pe_op op_fdivN (pe_op op_add (pv 1) pe_int) pe_int)) <|
      pss_cons (ps_set (i := 3) scLArm.nd rfl (.inl rfl) (pe_op op_add (pe_op op_fdivN (pv 1) pe_int) pe_int)) <|
      pss_cons (ps_set (i := 4) scLArm.nd rfl (.inl rfl) pe_int) <|
      pss_cons (ps_for PassesOwn.never rfl (pi_range2 (by rfl) mr (pa_cons pe_int (pa_cons (pe_callB call_len_str (by rfl) ml PySem.boot_len (pa_cons (pv 0) pa_nil)) pa_nil))) (pg_name (i := 5) scLArm.nd rfl (.inl rfl))
        (pss_one (ps_if (PW.pt (pw_and (pt_cmpR op_ge (pe_op op_sub (pv 2) (pv 5)) pe_int (nomark _)) (pw_and (pt_cmpR op_lt (pe_op op_add (pe_op op_sub (pv 3) pe_int) (pv 5)) (pe_callB call_len_str (by rfl) ml PySem.boot_len (pa_cons (pv 0) pa_nil)) (nomark _))
            (pw_and1 (pt_cmpR op_eq (pv 4) (pe_op op_sub (pv 5) pe_int) (nomark _))))))
          (pss_one (ps_if (pt_cmpR op_eq (pe_ix ix_str (pv 0) (pe_op op_sub (pv 2) (pv 5)) (fun _ _ => rfl)) (pe_ix ix_str (pv 0) (pe_op op_add (pe_op op_sub (pv 3) pe_int) (pv 5)) (fun _ _ => rfl)) (nomark _))
            (pss_one (ps_set (i := 4) scLArm.nd rfl (.inl rfl) (pv 5))) pss_nil)) pss_nil))) <|
      pss_one (ps_ret (pv 4)), ?_⟩
    have eL : ((m : Int) + 1).fdiv 2 = (((m + 1) / 2 : Nat) : Int) := by
      rw [Int.fdiv_eq_ediv_of_nonneg _ (by decide)]
      omega
    have eR := half_of m
    have hT : (T l).length ≤ sizeLine := by
      rw [T_len]
      exact small200 hl
    refine ⟨_, rfl, _, 1, rfl, rfl, (m : Int) + 1, 2, rfl, rfl, ⟨by decide, by decide⟩, ?_⟩
    refine ⟨_, rfl, (m : Int), 2, rfl, rfl, ⟨by decide, by decide⟩, (m : Int).fdiv 2, 1, rfl, rfl, ?_⟩
    refine ⟨_, rfl, T l, rfl, hT, 1, ((T l).length : Int), rfl, ⟨by decide, by decide, by rw [T_len]; omega, by rw [T_len]; omega⟩, ?_⟩
    refine for_range (lo := 1) (n := (((T l).length : Int) - 1).toNat) (fun i σ H' => H' = H ∧ ∃ y, σ = [some (.str (T l)), some (.int (m : Int)), some (.int (((m + 1) / 2 : Nat) : Int)), some (.int (((m / 2 : Nat) : Int) + 1)), some (.int ((lead (okAt l m) i 0 : Nat) : Int)), y])
      ⟨rfl, none, ?_⟩ (fun i σ H' hi hW => ?_) (fun σ H' hW => ?_)
    · show [some (V.str (T l)), some (V.int (m : Int)), some (V.int (((m : Int) + 1).fdiv 2)), some (V.int ((m : Int).fdiv 2 + 1)), some (V.int 0), none] = _
      rw [eL, eR]
      rfl
    · obtain ⟨rfl, y, rfl⟩ := hW
      obtain ⟨_, sp2, sp3, sp4⟩ := lead_spec (p := okAt l m) i 0
      have stay : ¬ (lead (okAt l m) i 0 = i ∧ okAt l m i = true) → lead (okAt l m) (i + 1) 0 = lead (okAt l m) i 0 := fun z => by rw [lead_succ, if_neg z]
      refine ⟨_, rfl, _, rfl, _, _, rfl, rfl, _, 0, rfl, rfl, _, rfl, ?_⟩
      by_cases c1 : i + 1 ≤ (m + 1) / 2
      · rw [decide_eq_true (show (0 : Int) ≤ (((m + 1) / 2 : Nat) : Int) - (1 + (i : Int)) by omega)]
        refine iteT ⟨_, rfl, _, _, rfl, rfl, _, rfl, _, _, rfl, rfl, _, rfl, T l, rfl, hT, _, _, rfl, rfl, _, rfl, ?_⟩
        by_cases c2 : m / 2 + 1 + i < l.length
        · rw [decide_eq_true (show ((m / 2 : Nat) : Int) + 1 - 1 + (1 + (i : Int)) < ((T l).length : Int) by rw [T_len]; omega)]
          refine iteT ⟨_, rfl, _, rfl, _, _, rfl, rfl, rfl, _, rfl, ?_⟩
          by_cases c3 : lead (okAt l m) i 0 = i
          · rw [decide_eq_true (show V.int ((lead (okAt l m) i 0 : Nat) : Int) = V.int (1 + (i : Int) - 1) by rw [c3]; congr 1; omega)]
            have h1 : (m + 1) / 2 - (i + 1) < l.length := by omega
            have a1 : atI (T l).cps.toList ((((m + 1) / 2 : Nat) : Int) - (1 + (i : Int))) = some l[(m + 1) / 2 - (i + 1)] := by
              have e : ((((m + 1) / 2 : Nat) : Int) - (1 + (i : Int))) = (((m + 1) / 2 - (i + 1) : Nat) : Int) := by omega
              rw [e]
              exact atI_nat (List.getElem?_eq_getElem h1)
            have a2 : atI (T l).cps.toList (((m / 2 : Nat) : Int) + 1 - 1 + (1 + (i : Int))) = some l[m / 2 + 1 + i] := by
              have e : (((m / 2 : Nat) : Int) + 1 - 1 + (1 + (i : Int))) = ((m / 2 + 1 + i : Nat) : Int) := by omega
              rw [e]
              exact atI_nat (List.getElem?_eq_getElem c2)
            have ok : okAt l m i = decide (l[(m + 1) / 2 - (i + 1)] = l[m / 2 + 1 + i]) := by
              unfold okAt
              rw [decide_eq_true c1, decide_eq_true c2, Bool.true_and, Bool.true_and, List.getElem?_eq_getElem h1, List.getElem?_eq_getElem c2]
              by_cases z : l[(m + 1) / 2 - (i + 1)] = l[m / 2 + 1 + i]
              · rw [z, decide_eq_true rfl]
                exact beq_self_eq_true _
              · rw [decide_eq_false z]
                exact beq_eq_false_iff_ne.mpr fun y => z (Option.some.inj y)
            refine iteT ⟨_, rfl, _, rfl, _, rfl, _, _, rfl, rfl, T l, _, _, rfl, rfl, hT, a1, _, rfl, _, rfl, _, _, rfl, rfl, _, rfl, _, _, rfl, rfl, T l, _, _, rfl, rfl, hT, a2, rfl, _, rfl, ?_⟩
            rw [sgn_dec]
            by_cases c4 : l[(m + 1) / 2 - (i + 1)] = l[m / 2 + 1 + i]
            · rw [decide_eq_true c4] at ok ⊢
              refine iteT ⟨_, rfl, rfl, some (V.int (1 + (i : Int))), ?_⟩
              have e : lead (okAt l m) (i + 1) 0 = i + 1 := by rw [lead_succ, if_pos ⟨c3, ok⟩]
              rw [e]
              show [some (V.str (T l)), some (V.int (m : Int)), some (V.int (((m + 1) / 2 : Nat) : Int)), some (V.int (((m / 2 : Nat) : Int) + 1)), some (V.int (1 + (i : Int))), some (V.int (1 + (i : Int)))] = _
              have e2 : (1 + (i : Int)) = ((i + 1 : Nat) : Int) := by omega
              rw [e2]
            · rw [decide_eq_false c4] at ok ⊢
              exact iteF ⟨rfl, _, by rw [stay fun z => by rw [ok] at z; exact Bool.false_ne_true z.2]; rfl⟩
          · rw [decide_eq_false (show ¬ V.int ((lead (okAt l m) i 0 : Nat) : Int) = V.int (1 + (i : Int) - 1) from fun z => c3 (by have := V.int.inj z; omega))]
            exact iteF ⟨rfl, _, by rw [stay fun z => c3 z.1]; rfl⟩
        · rw [decide_eq_false (show ¬ ((m / 2 : Nat) : Int) + 1 - 1 + (1 + (i : Int)) < ((T l).length : Int) by rw [T_len]; omega)]
          exact iteF (iteF ⟨rfl, _, by rw [stay fun z => c2 (okAt_lt z.2)]; rfl⟩)
      · rw [decide_eq_false (show ¬ (0 : Int) ≤ (((m + 1) / 2 : Nat) : Int) - (1 + (i : Int)) by omega)]
        refine iteF (iteF ⟨rfl, some (V.int (1 + (i : Int))), ?_⟩)
        have z : okAt l m i = false := by
          unfold okAt
          rw [decide_eq_false c1, Bool.false_and]
        rw [stay fun y => by rw [z] at y; exact Bool.false_ne_true y.2]
        rfl
    · obtain ⟨rfl, y, rfl⟩ := hW
      have e : (((T l).length : Int) - 1).toNat = l.length - 1 := by
        rw [T_len]
        omega
      rw [e, armL_end]
      exact ⟨_, rfl, q⟩
end
end Mw
namespace Mw
open PySem PySem.Spec PyProof.Rows L2

/-! ### what is no text is refused -/
theorem scRef : FnScope ["_law_thing", "_law_caught", "e"] ["_law_thing"] (defScope sRef) := ⟨rfl, rfl, rfl, by decide +kernel, rfl, by decide +kernel, by decide +kernel⟩
section
variable {Pr : Program} {w : World} {K : PySem.W.Frag} {mg : Str → Option Value} {base : Heap} {P BT ME c1 c2 c3 c4 c5 c6 fA : Addr} {dA : FuncData}
theorem ok_ref {f : Addr} {fd : FuncData} (F : Fun K "_law_refused" "_law_refused" sRef f fd) (FA : Fn Pr w K mg base (L2.CX Pr w) 3 "arms" fA dA ["text"] (spArms K P BT)) (EB : ErrC K mg "BadText" BT) (XB : ExcC K BT)
    (gM : mg "MirrorError" = some (.ref ME)) (hm : PySem.W.exmOne K (.ref BT) (.ref ME) = some true) (g1 : mg "BadArms" = some (.ref c1)) (g2 : mg "BadLetter" = some (.ref c2)) (g3 : mg "BadWord" = some (.ref c3)) (g4 : mg "Full" = some (.ref c4)) (g5 : mg "NoPlace" = some (.ref c5)) (g6 : mg "NoText" = some (.ref c6))
    (k6 : PySem.W.kitAny K (.ref BT) [.ref c1, .ref c2, .ref c3, .ref c4, .ref c5, .ref c6] = some false) (k1 : PySem.W.kitOne K (.ref BT) (.ref BT) = some true) (kv : PySem.W.kitOne K (.ref BT) (.type "ValueError") = some true)
    (mi : mg "isinstance" = none) (mv : mg "ValueError" = none) : FnOk Pr w K mg base CX0 4 f fd ["_law_thing"] (spRef K P) := by
  refine F.ok scRef (fun vs H Q E h => ?_) (fun cdv A outer s H vs Q E hr h => ?_)
  · obtain ⟨x, rfl, _⟩ := h
    rfl
  · obtain ⟨x, rfl, tab, th, no, q⟩ := h
    refine ⟨_, pss_cons (ps_set (i := 1) scRef.nd rfl (.inl rfl) pe_non) <|
      pss_cons (ps_tryK (i := 2) (tb := fun W => tDrop (tCallS (spArms K P BT) (WE W) (tCons (tVar 0) tNil))) (ts := fun _ => tAsg (tVar 2) (gName 1)) rfl rfl rfl scRef.nd rfl rfl ⟨by rfl, by decide, .inl gM⟩
        (fun W pn xe tk _ => pss_one (ps_expr (pe_callS FA.ok hr (by rfl) FA.g FA.k FA.b (fun σ => passAt tk σ) (pa_cons (pv 0) pa_nil))))
        (fun a pn => pss_one (ps_set (i := 1) scRef.nd rfl (.inl rfl) (pv 2)))) <|
      pss_cons (ps_if (PW.pt (pw_or (pt_cmpR op_isN (pv 1) pe_non (nomark _)) (pw_or1 (pt_val (pe_callB call_isXT (by rfl) mi boot_isinstance (pa_cons (pv 1) (pa_cons (pe_tup (pa_cons (pe_glob (v := .ref c1) (by rfl) g1 rfl) (pa_cons (pe_glob (v := .ref c2) (by rfl) g2 rfl)
          (pa_cons (pe_glob (v := .ref c3) (by rfl) g3 rfl) (pa_cons (pe_glob (v := .ref c4) (by rfl) g4 rfl) (pa_cons (pe_glob (v := .ref c5) (by rfl) g5 rfl) (pa_cons (pe_glob (v := .ref c6) (by rfl) g6 rfl) pa_nil))))))) pa_nil)))))))
        (pss_one (ps_ret pe_bl)) pss_nil) <|
      pss_one (ps_ret (pe_and (pe_callB call_isX (by rfl) mi boot_isinstance (pa_cons (pv 1) (pa_cons (pe_glob (v := .ref BT) (by rfl) EB.g rfl) pa_nil)))
        (pe_one (pe_callB call_isX (by rfl) mi boot_isinstance (pa_cons (pv 1) (pa_cons (pe_bltn (v := .ty "ValueError") (by rfl) mv (by decide +kernel) rfl) pa_nil)))))), ?_⟩
    refine ⟨_, rfl, x, rfl, tab, th, fun _ H1 hT => ⟨hm, rfl, BT, rfl, fun a ha => ⟨_, rfl, ?_⟩⟩, fun z => absurd z (by rw [no]; exact Bool.false_ne_true)⟩
    have kp1 : Kp P H (upd H1 a (ExS BT a)) := (Kp.tabbed hT).step ha
    refine ⟨_, rfl, rfl, _, rfl, ?_⟩
    rw [decide_eq_false (show ¬ V.ref a = V.non from fun z => by cases z)]
    refine iteF ⟨_, rfl, by show 6 ≤ sizeLine; decide, fun p hp => ?_⟩
    have kp2 : Kp P H (upd (upd H1 a (ExS BT a)) p (.tup [.ref c1, .ref c2, .ref c3, .ref c4, .ref c5, .ref c6])) := kp1.step hp
    have hpa : a ≠ p := fun z => by
      rw [← z, upd_same] at hp
      cases hp
    have hx : (upd (upd H1 a (ExS BT a)) p (.tup [.ref c1, .ref c2, .ref c3, .ref c4, .ref c5, .ref c6])) a = some (ExS BT a) := by
      rw [upd_ne hpa]
      exact upd_same
    refine ⟨a, BT, p, _, _, false, rfl, upd_same, .cons (.own c1) (.cons (.own c2) (.cons (.own c3) (.cons (.own c4) (.cons (.own c5) (.cons (.own c6) .nil))))), hx, XB, k6, false, rfl, iteF ?_⟩
    refine ⟨_, rfl, a, BT, .ref BT, _, true, rfl, .own BT, hx, XB, k1, true, rfl, iteT ?_⟩
    exact ⟨_, rfl, a, BT, .ty "ValueError", _, true, rfl, .ty _, hx, XB, kv, q _ kp2⟩
end
end Mw
namespace Mw
open PySem PySem.Spec PyProof.Rows L2

/-! ### the law -/
abbrev nLaw : List Str := ["_law_script", "_law_text_here", "_law_due", "_law_found", "_law_odd", "_law_middle", "_law_one"]
theorem scLaw : FnScope nLaw ["_law_script"] (defScope sLaw) := ⟨rfl, rfl, rfl, by decide +kernel, rfl, by decide +kernel, by decide +kernel⟩
def spLaw (K : PySem.W.Frag) (P : Addr) : Sp := fun vs H Q _ => ∃ (a : Addr) (ns : List Int), vs = [.ref a] ∧ GxR.TabG H P ∧ SqL K H a (ns.map V.int) ∧ ∀ H', Q (.bl true) H'
section
variable {Pr : Program} {w : World} {K : PySem.W.Frag} {mg : Str → Option Value} {base : Heap} {P BT fA fD fT fL fR : Addr} {dA dD dT dL dR : FuncData}
theorem ok_law {f : Addr} {fd : FuncData} (F : Fun K "law" "law" sLaw f fd) (FA : Fn Pr w K mg base (L2.CX Pr w) 3 "arms" fA dA ["text"] (spArms K P BT)) (FD : Fn Pr w K mg base CX0 1 "_law_draw" fD dD ["_law_script", "_law_k"] (spDraw K))
    (FT : Fn Pr w K mg base CX0 2 "_law_text" fT dT ["_law_script", "_law_first", "_law_most"] (spText K)) (FL : Fn Pr w K mg base CX0 1 "_law_arm" fL dL ["_law_text_here", "_law_middle"] spArmAt) (FR : Fn Pr w K mg base CX0 4 "_law_refused" fR dR ["_law_thing"] (spRef K P))
    (mi : mg "isinstance" = none) (ml : mg "len" = none) (mr : mg "range" = none) (mL : mg "list" = none) (mB : mg "bool" = none) : FnOk Pr w K mg base CX0 5 f fd ["_law_script"] (spLaw K P) := by
  refine F.ok scLaw (fun vs H Q E h => ?_) (fun cdv A outer s H vs Q E hr h => ?_)
  · obtain ⟨a, ns, rfl, _⟩ := h
    rfl
  · obtain ⟨a, ns, rfl, tab, hS, q⟩ := h
    have hu := hr.units
    refine ⟨_, pss_cons (ps_set (i := 1) scLaw.nd rfl (.inr rfl) (pe_call FT.ok (hr.mono (by decide)) (by rfl) FT.g FT.k FT.b .nil pass0 (pa_cons (pv 0) (pa_cons pe_int (pa_cons pe_int pa_nil))))) <|
      pss_cons (ps_setLc (i := 2) (own := [("_law_middle", 5)]) (g := gName 5) (tt := tYes) rfl scLaw.nd rfl rfl (sw_true rfl rfl rfl (by decide +kernel)) (pi_range1 (by rfl) mr (pa_cons (pe_op op_sub (pe_op op_mul pe_int (pe_callB call_len_str (by rfl) ml PySem.boot_len (pa_cons (pv 1) pa_nil))) pe_int) pa_nil))
        (blkOk_by (own := [("_law_middle", 5)]) (N := nLaw) (sc := defScope sLaw) (by decide +kernel)) (fun _ _ _ _ _ => pg_name (i := 5) scLaw.nd rfl (Or.inl rfl)) (fun _ _ _ _ _ => pts_nil)
        (fun _ _ _ _ _ => pe_call FL.ok (hr.mono (by decide)) (by rfl) FL.g FL.k FL.b .nil pass0 (pa_cons (pv 1) (pa_cons (pv 5) pa_nil)))) <|
      pss_cons (ps_set (i := 3) scLaw.nd rfl (.inl rfl) (pe_call FA.ok (hr.mono (by decide)) (by rfl) FA.g FA.k FA.b .nil passL (pa_cons (pv 1) pa_nil))) <|
      pss_cons (ps_if (PW.pt (pw_or (pt_not (pt_val (pe_callB call_isi (by rfl) mi boot_isinstance (pa_cons (pv 3) (pa_cons (pe_bltn (v := .ty "list") (by rfl) mL PyProof.Rows.boot_list rfl) pa_nil)))))
          (pw_or (pt_cmpR (op_neD hu) (pv 3) (pv 2) (nomark _)) (pw_or1 (pt_cmpR (op_neD hu) (pe_lc (own := [("_law_one", 6)]) (g := gName 6) rfl scLaw.nd (pi_list (pv 3)) (blkOk_by (own := [("_law_one", 6)]) (N := nLaw) (sc := defScope sLaw) (by decide +kernel))
            (fun _ _ _ _ _ => pg_name (i := 6) scLaw.nd rfl (Or.inl rfl)) (fun _ _ _ _ _ => pts_one (pt_val (pe_callB (r := rIsi K) call_isi (by rfl) mi boot_isinstance (pa_cons (pv 6) (pa_cons (pe_bltn (v := .ty "bool") (by rfl) mB PyProof.Rows.boot_bool rfl) pa_nil)))))
            (fun _ _ _ _ _ => pv 6)) (pe_lst pa_nil) (nomark _))))))
        (pss_one (ps_ret pe_bl)) pss_nil) <|
      pss_cons (ps_expr (pe_bm PySem.F.plainAttrs_list PySem.F.slot_list_append PySem.F.type_list_append mt_append (pv 3) (pa_cons pe_int pa_nil))) <|
      pss_cons (ps_set (i := 4) scLaw.nd rfl (.inl rfl) (pe_lst (pa_cons pe_str (pa_cons pe_str (pa_cons pe_str (pa_cons pe_non (pa_cons pe_int (pa_cons pe_bl (pa_cons (pe_lst (pa_cons pe_str pa_nil)) (pa_cons (pe_tup (pa_cons pe_str (pa_cons pe_str pa_nil)))
        (pa_cons pe_dnewK (pa_cons (pe_op op_repS pe_str pe_int) (pa_cons pe_str (pa_cons pe_str pa_nil)))))))))))))) <|
      pss_one (ps_ret (pe_and (pe_cmpR (op_eqD hu) (pe_call FA.ok (hr.mono (by decide)) (by rfl) FA.g FA.k FA.b .nil passL (pa_cons (pv 1) pa_nil)) (pv 2) (nomark _))
        (pe_and (pe_call FR.ok hr (by rfl) FR.g FR.k FR.b .nil pass0 (pa_cons (pe_ix ix_list (pv 4) (pe_op op_modN (pe_call FD.ok (hr.mono (by decide)) (by rfl) FD.g FD.k FD.b .nil pass0 (pa_cons (pv 0) (pa_cons pe_int pa_nil))) pe_int) (fun _ _ => rfl)) pa_nil))
        (pe_one (pe_cmpR (op_eqD hu) (pe_call FA.ok (hr.mono (by decide)) (by rfl) FA.g FA.k FA.b .nil passL (pa_cons (pv 1) pa_nil)) (pv 2) (nomark _)))))), ?_⟩
    -- the text
    refine ⟨_, rfl, a, ns, 2, 60, rfl, hS, by decide, fun H1 l sm1 hz hl => ?_⟩
    have k1 : Kp P H H1 := .same tab sm1
    have hlT : (T l).length ≤ sizeLine := by
      rw [T_len]
      exact small200 (by omega)
    -- what is due
    refine ⟨_, rfl, T l, rfl, hlT, 2, ((T l).length : Int), rfl, rfl, .inl ⟨by decide, by decide⟩, _, 1, rfl, rfl, _, rfl, by rw [T_len]; omega, by rw [T_len]; omega, fun D hD => ?_⟩
    have H0D : H1 D = none := hD
    have en : ((2 : Int) * ((T l).length : Int) - 1).toNat = 2 * l.length - 1 := by rw [T_len]; omega
    refine lc_range (lo := 0) (n := ((2 : Int) * ((T l).length : Int) - 1).toNat) (fun i H' => Same H1 H' ∧ H' D = some (.lst (((armsL l).take i).map nV))) ⟨same_upd hD, upd_same⟩ (fun i H' hi hW => ?_) (fun H2 hW => ?_)
    · obtain ⟨sm, hd⟩ := hW
      have hi2 : i < 2 * l.length - 1 := by omega
      refine ⟨rfl, _, rfl, _, rfl, l, i, by rw [Int.zero_add]; rfl, by omega, ((armsL l).take i).map nV, hd, ?_, fun b u e => ?_, ?_⟩
      · rw [List.length_map, List.length_take, armsL_len]
        exact small1000 (by omega)
      · rw [upd_ne (ne_of_none e hD)]
        exact sm b u e
      · rw [upd_same, armsL_take hi2, List.map_append]
        rfl
    obtain ⟨sm2, hdue⟩ := hW
    rw [en, List.take_of_length_le (by rw [armsL_len]; exact Nat.le_refl _)] at hdue
    have k2 : Kp P H H2 := k1.trans (.same k1.tab sm2)
    have good : isT (.str (T l)) = true := isT_az hz (by omega)
    -- the arms, found
    refine ⟨_, rfl, .str (T l), rfl, k2.tab, .text l (small200 (by omega)), fun no => absurd no (by rw [good]; exact fun z => by cases z), fun _ l2 el hl2 H3 p k3 hp hfound => ?_⟩
    obtain rfl : l = l2 := T_inj (V.str.inj el)
    have hdue3 : H3 D = some (.lst ((armsL l).map nV)) := k3.lst k2.tab hdue
    have hpD : p ≠ D := (ne_of_none hdue hp).symm
    -- what is found is a list, and what is due
    refine ⟨_, rfl, .ref p, .ty "list", _, _, true, rfl, .ty _, .base (.lst hfound), kit_ty (by decide +kernel), true, rfl, iteF ?_⟩
    refine ⟨_, rfl, _, rfl, _, _, .lst (.inl (.inl hfound)) (dp_ints _), .lst (.inl (.inl hdue3)) (dp_ints _), shaped_nats _, shaped_nats _, _, rfl, ?_⟩
    rw [eqv_lists]
    refine iteF ⟨_, rfl, p, rfl, ⟨_, .inl (.inl hfound)⟩, fun D2 hD2 => ?_⟩
    refine lc_list (K := K) (a := p) (xs := (armsL l).map nV) (fun i H' => Same H3 H' ∧ H' D2 = some (.lst [])) ⟨same_upd hD2, upd_same⟩ (fun i H' _ hW => .inl (.inl (hW.1 _ _ hfound))) (fun i x H' hx hW => ?_) (fun H4 hW => ?_)
    · obtain ⟨z, rfl⟩ : ∃ z : Nat, x = nV z := by
        rw [List.getElem?_map] at hx
        cases e : (armsL l)[i]? with
        | none =>
          rw [e] at hx
          cases hx
        | some z =>
          rw [e] at hx
          exact ⟨z, (Option.some.inj hx).symm⟩
      exact ⟨rfl, _, rfl, nV z, .ty "bool", _, _, false, rfl, .ty _, .base (.int _), kit_ty (by decide +kernel), false, rfl, iteF hW⟩
    obtain ⟨sm4, hD4⟩ := hW
    refine ⟨Nat.zero_le _, fun p5 hp5 => ?_⟩
    have s5 : Same H4 (upd H4 p5 (.lst [])) := same_upd hp5
    refine ⟨_, _, .lst (.inl (.inl (s5 _ _ hD4))) .nil, .lst (.inl (.inl upd_same)) .nil, by decide +kernel, by decide +kernel, _, rfl, ?_⟩
    have e0 : (!PyData.eqv (.list []) (.list [])) = false := by decide +kernel
    rw [e0]
    refine iteF ?_
    have k5 : Kp P H3 (upd H4 p5 (.lst [])) := .same k3.tab (sm4.trans s5)
    generalize upd H4 p5 (.lst []) = H5 at *
    have hf5 : H5 p = some (.lst ((armsL l).map nV)) := k5.lst k3.tab hfound
    -- the list is changed
    refine ⟨_, rfl, .inl ⟨rfl, _, .inl (.inl hf5)⟩, p, _, _, rfl, rfl, hf5, ?_, ?_⟩
    · rw [List.length_map, armsL_len]
      exact small1000 (by omega)
    have k6 : Kp P H2 (upd H5 p (.lst ((armsL l).map nV ++ [.int 0]))) := (k3.trans k5).own hp (new_ne k2.tab hp)
    generalize upd H5 p (.lst ((armsL l).map nV ++ [.int 0])) = H6 at *
    have hdue6 : H6 D = some (.lst ((armsL l).map nV)) := k6.lst k2.tab hdue
    -- the odd things
    refine ⟨by decide, fun p1 hp1 => ⟨by decide, fun p2 hp2 => fun p3 hp3 => ⟨[97], 201, by decide +kernel, rfl, by decide, by decide, by decide, by show 12 ≤ sizeLine; decide, fun p4 hp4 => ?_⟩⟩⟩
    have ka : Kp P H2 (upd H6 p1 (.lst [.str "a"])) := k6.step hp1
    have f1 : (upd H6 p1 (.lst [.str "a"])) p1 = some (.lst [.str "a"]) := upd_same
    generalize upd H6 p1 (.lst [.str "a"]) = Ha at *
    have kb : Kp P Ha (upd Ha p2 (.tup [.str "a", .str "b"])) := .new ka.tab hp2
    have f2 : (upd Ha p2 (.tup [.str "a", .str "b"])) p2 = some (.tup [.str "a", .str "b"]) := upd_same
    generalize upd Ha p2 (.tup [.str "a", .str "b"]) = Hb at *
    have kc : Kp P Hb (upd Hb p3 (.dK [])) := .new kb.tab hp3
    have f3 : (upd Hb p3 (.dK [])) p3 = some (.dK []) := upd_same
    generalize upd Hb p3 (.dK []) = Hc at *
    have kd : Kp P Hc (upd Hc p4 (.lst (odds p1 p2 p3))) := .new kc.tab hp4
    have f4 : (upd Hc p4 (.lst (odds p1 p2 p3))) p4 = some (.lst (odds p1 p2 p3)) := upd_same
    show (fun H9 => _) (upd Hc p4 (.lst (odds p1 p2 p3)))
    generalize upd Hc p4 (.lst (odds p1 p2 p3)) = Hd at *
    have k7 : Kp P H2 Hd := ka.trans (kb.trans (kc.trans kd))
    -- told again
    refine ⟨_, rfl, .str (T l), rfl, k7.tab, .text l (small200 (by omega)), fun no => absurd no (by rw [good]; exact fun z => by cases z), fun _ l2 el hl2 H8 p8 k8 hp8 hfound8 => ?_⟩
    obtain rfl : l = l2 := T_inj (V.str.inj el)
    have hdue8 : H8 D = some (.lst ((armsL l).map nV)) := (k7.trans k8).lst k2.tab hdue
    refine ⟨_, rfl, _, _, .lst (.inl (.inl hfound8)) (dp_ints _), .lst (.inl (.inl hdue8)) (dp_ints _), shaped_nats _, shaped_nats _, true, by rw [eqv_lists], iteT ?_⟩
    -- what is none is refused
    obtain ⟨j, ej, hj⟩ := mod12 (ns.getD 1 0)
    have g1 : H8 p1 = some (.lst [.str "a"]) := (kb.trans (kc.trans (kd.trans k8))).lst ka.tab f1
    have g2 : H8 p2 = some (.tup [.str "a", .str "b"]) := (kc.trans (kd.trans k8)).keep _ _ (tab_ne kb.tab f2 fun _ z => by cases z) f2
    have g3 : H8 p3 = some (.dK []) := (kd.trans k8).keep _ _ (tab_ne kc.tab f3 fun _ z => by cases z) f3
    have g4 : H8 p4 = some (.lst (odds p1 p2 p3)) := k8.lst kd.tab f4
    obtain ⟨x, hx, no, th⟩ := odd_at (K := K) g1 g2 g3 j hj
    have hat : atI (odds p1 p2 p3) ((ns.getD 1 0).fmod 12) = some x := by
      rw [ej]
      exact atI_nat hx
    refine ⟨_, rfl, _, rfl, a, ns, 1, rfl, (k2.trans (k7.trans k8)).seq tab hS, _, 12, rfl, rfl, show (12 : Int) ≠ 0 by decide, p4, _, _, x, rfl, rfl, .inl (.inl g4), hat, x, rfl, k8.tab, th, no, fun H10 k10 => ⟨true, rfl, iteT ?_⟩⟩
    refine ⟨_, rfl, .str (T l), rfl, k10.tab, .text l (small200 (by omega)), fun no => absurd no (by rw [good]; exact fun z => by cases z), fun _ l2 el hl2 H11 p11 k11 hp11 hfound11 => ?_⟩
    obtain rfl : l = l2 := T_inj (V.str.inj el)
    have hdue11 : H11 D = some (.lst ((armsL l).map nV)) := (k7.trans (k8.trans (k10.trans k11))).lst k2.tab hdue
    refine ⟨_, rfl, _, _, .lst (.inl (.inl hfound11)) (dp_ints _), .lst (.inl (.inl hdue11)) (dp_ints _), shaped_nats _, shaped_nats _, ?_⟩
    rw [eqv_lists]
    exact q H11
end
end Mw
namespace Mw
open PySem PySem.Spec PyProof.Rows L2
theorem all_mk {l : PySem.W.OpenLaw} {qq : Program} {w : World} {K : PySem.W.Frag} {h : Heap} {mg : Str → Option Value} {fa : Addr} (X : K.In h) (G : h.Ns mainGlobals mg) (hfa : mg "law" = some (.ref fa))
    {f1 cc1 : Addr} {od1 an1 : Option Addr} {sl1 : Array (Option Value)} {oc1 kV1 dc1 pm1 ct1 : Value}
    (a1 : PySem.W.nsIn K mainGlobals "is_text" = some (some (.ref f1))) (l1 : K.lookup f1 = some ⟨oc1, od1, .func (PySem.W.fnOf "is_text" "is_text" (defArgs sIs) (defBody sIs) (defScope sIs) .none kV1 dc1 pm1 an1 (.ref cc1) ct1), sl1⟩) (c1 : PySem.W.codeIn K (.ref cc1) "is_text" = true) (k1 : PySem.W.keepIn K (.ref f1) = true)
    {f2 : Addr} {od2 an2 : Option Addr} {sl2 : Array (Option Value)} {oc2 kV2 dc2 pm2 ct2 cd2 : Value}
    (a2 : PySem.W.nsIn K mainGlobals "refuse_no_text" = some (some (.ref f2))) (l2 : K.lookup f2 = some ⟨oc2, od2, .func (PySem.W.fnOf "refuse_no_text" "refuse_no_text" (defArgs sRNT) (defBody sRNT) (defScope sRNT) .none kV2 dc2 pm2 an2 cd2 ct2), sl2⟩) (c2 : PySem.W.codeIn K cd2 "refuse_no_text" = true) (k2 : PySem.W.keepIn K (.ref f2) = true)
    {f3 : Addr} {od3 an3 : Option Addr} {sl3 : Array (Option Value)} {oc3 kV3 dc3 pm3 ct3 cd3 : Value}
    (a3 : PySem.W.nsIn K mainGlobals "arm_at" = some (some (.ref f3))) (l3 : K.lookup f3 = some ⟨oc3, od3, .func (PySem.W.fnOf "arm_at" "arm_at" (defArgs sArmAt) (defBody sArmAt) (defScope sArmAt) .none kV3 dc3 pm3 an3 cd3 ct3), sl3⟩) (c3 : PySem.W.codeIn K cd3 "arm_at" = true) (k3 : PySem.W.keepIn K (.ref f3) = true)
    {f4 : Addr} {od4 an4 : Option Addr} {sl4 : Array (Option Value)} {oc4 kV4 dc4 pm4 ct4 cd4 : Value}
    (a4 : PySem.W.nsIn K mainGlobals "arms" = some (some (.ref f4))) (l4 : K.lookup f4 = some ⟨oc4, od4, .func (PySem.W.fnOf "arms" "arms" (defArgs sArms) (defBody sArms) (defScope sArms) .none kV4 dc4 pm4 an4 cd4 ct4), sl4⟩) (c4 : PySem.W.codeIn K cd4 "arms" = true) (k4 : PySem.W.keepIn K (.ref f4) = true)
    {f5 : Addr} {od5 an5 : Option Addr} {sl5 : Array (Option Value)} {oc5 kV5 dc5 pm5 ct5 cd5 : Value}
    (a5 : PySem.W.nsIn K mainGlobals "_law_draw" = some (some (.ref f5))) (l5 : K.lookup f5 = some ⟨oc5, od5, .func (PySem.W.fnOf "_law_draw" "_law_draw" (defArgs sDraw) (defBody sDraw) (defScope sDraw) .none kV5 dc5 pm5 an5 cd5 ct5), sl5⟩) (c5 : PySem.W.codeIn K cd5 "_law_draw" = true) (k5 : PySem.W.keepIn K (.ref f5) = true)
    {f6 : Addr} {od6 an6 : Option Addr} {sl6 : Array (Option Value)} {oc6 kV6 dc6 pm6 ct6 cd6 : Value}
    (a6 : PySem.W.nsIn K mainGlobals "_law_text" = some (some (.ref f6))) (l6 : K.lookup f6 = some ⟨oc6, od6, .func (PySem.W.fnOf "_law_text" "_law_text" (defArgs sText) (defBody sText) (defScope sText) .none kV6 dc6 pm6 an6 cd6 ct6), sl6⟩) (c6 : PySem.W.codeIn K cd6 "_law_text" = true) (k6 : PySem.W.keepIn K (.ref f6) = true)
    {f7 : Addr} {od7 an7 : Option Addr} {sl7 : Array (Option Value)} {oc7 kV7 dc7 pm7 ct7 cd7 : Value}
    (a7 : PySem.W.nsIn K mainGlobals "_law_arm" = some (some (.ref f7))) (l7 : K.lookup f7 = some ⟨oc7, od7, .func (PySem.W.fnOf "_law_arm" "_law_arm" (defArgs sLArm) (defBody sLArm) (defScope sLArm) .none kV7 dc7 pm7 an7 cd7 ct7), sl7⟩) (c7 : PySem.W.codeIn K cd7 "_law_arm" = true) (k7 : PySem.W.keepIn K (.ref f7) = true)
    {f8 : Addr} {od8 an8 : Option Addr} {sl8 : Array (Option Value)} {oc8 kV8 dc8 pm8 ct8 cd8 : Value}
    (a8 : PySem.W.nsIn K mainGlobals "_law_refused" = some (some (.ref f8))) (l8 : K.lookup f8 = some ⟨oc8, od8, .func (PySem.W.fnOf "_law_refused" "_law_refused" (defArgs sRef) (defBody sRef) (defScope sRef) .none kV8 dc8 pm8 an8 cd8 ct8), sl8⟩) (c8 : PySem.W.codeIn K cd8 "_law_refused" = true) (k8 : PySem.W.keepIn K (.ref f8) = true)
    {f9 : Addr} {od9 an9 : Option Addr} {sl9 : Array (Option Value)} {oc9 kV9 dc9 pm9 ct9 cd9 : Value}
    (a9 : PySem.W.nsIn K mainGlobals "law" = some (some (.ref f9))) (l9 : K.lookup f9 = some ⟨oc9, od9, .func (PySem.W.fnOf "law" "law" (defArgs sLaw) (defBody sLaw) (defScope sLaw) .none kV9 dc9 pm9 an9 cd9 ct9), sl9⟩) (c9 : PySem.W.codeIn K cd9 "law" = true) (k9 : PySem.W.keepIn K (.ref f9) = true)
    (z1 : PySem.W.nsIn K mainGlobals "isinstance" = some none)
    (z2 : PySem.W.nsIn K mainGlobals "len" = some none)
    (z3 : PySem.W.nsIn K mainGlobals "all" = some none)
    (z4 : PySem.W.nsIn K mainGlobals "str" = some none)
    (z5 : PySem.W.nsIn K mainGlobals "range" = some none)
    (z6 : PySem.W.nsIn K mainGlobals "list" = some none)
    (z7 : PySem.W.nsIn K mainGlobals "bool" = some none)
    (z8 : PySem.W.nsIn K mainGlobals "ValueError" = some none)
    {C0 : Addr} (e0 : PySem.W.nsIn K mainGlobals "MirrorError" = some (some (.ref C0)))
    {C1 : Addr} (e1 : PySem.W.nsIn K mainGlobals "BadText" = some (some (.ref C1)))
    {C2 : Addr} (e2 : PySem.W.nsIn K mainGlobals "BadArms" = some (some (.ref C2)))
    {C3 : Addr} (e3 : PySem.W.nsIn K mainGlobals "BadLetter" = some (some (.ref C3)))
    {C4 : Addr} (e4 : PySem.W.nsIn K mainGlobals "BadWord" = some (some (.ref C4)))
    {C5 : Addr} (e5 : PySem.W.nsIn K mainGlobals "Full" = some (some (.ref C5)))
    {C6 : Addr} (e6 : PySem.W.nsIn K mainGlobals "NoPlace" = some (some (.ref C6)))
    {C7 : Addr} (e7 : PySem.W.nsIn K mainGlobals "NoText" = some (some (.ref C7)))
    {tm : Tok} (gm : PySem.W.nsIn K mainGlobals "MOST" = some (some (.int 200 tm)))
    {P : Addr} {q1 : Value} {q2 : Option Addr} {vs : Array Value} {q3 : Array (Option Value)} (lc : K.lookup cc1 = some ⟨q1, q2, .fields vs, q3⟩)
    (hv : vs[11]? = some (.ref P))
    (nP : K.lookup P = none)
    (x1 : PySem.W.excIn K C1 [.type "ValueError", .type "Exception", .type "BaseException", .type "object"] "ValueError.__new__" = true)
    (xk1 : PySem.W.keepIn K (.ref C1) = true) (xb1 : PySem.W.subIn K (.ref C1) (.type "BaseException") = some true) (xt1 : PySem.W.typeIn K (.ref C1) = some (.type "type"))
    (y11 : PySem.W.findIn K (.ref C1) "__getattribute__" = some (some (.builtin "BaseException.__getattribute__"))) (y12 : PySem.W.findIn K (.ref C1) "__getattr__" = some none) (y13 : PySem.W.hasDictIn K C1 = true) (y14 : PySem.W.findIn K (.ref C1) "__class__" = some (some (.builtin "object.__class__")))
    (y17 : PySem.W.mroIn K C1 (.type "object") = some true)
    (y5 : PySem.W.specialIn K (.builtin "object.__class__") "__get__" = some (some (.builtin "getset_descriptor.__get__"))) (y6 : PySem.W.takesIn K (.builtin "object.__class__") = some true)
    (t1 : PySem.W.exmOne K (.ref C1) (.ref C0) = some true) (t2 : PySem.W.kitAny K (.ref C1) [.ref C2, .ref C3, .ref C4, .ref C5, .ref C6, .ref C7] = some false) (t3 : PySem.W.kitOne K (.ref C1) (.ref C1) = some true) (t4 : PySem.W.kitOne K (.ref C1) (.type "ValueError") = some true)
    (tabs : ∀ (y : Str) (c P : Addr), ((recsOf qq).find? (fun e => e.name == y)).isSome = true → PySem.W.tabIn K y = some (c, P) → PySem.W.CodeHd h c P ∧ h.get? P = some { cls := .none, data := .fields #[] })
    (isr : ((recsOf qq).find? (fun e => e.name == ("is_text" : Str))).isSome = true) :
    LamX.LawAtS l w K CX0 5 63 "_law_script" mg fa h := by
  have e := hfa.symm.trans (PySem.W.mg_of X G a9)
  cases e
  have F1 := fun_mk (st := sIs) l1 c1 k1
  have F2 := fun_mk (st := sRNT) l2 c2 k2
  have F3 := fun_mk (st := sArmAt) l3 c3 k3
  have F4 := fun_mk (st := sArms) l4 c4 k4
  have F5 := fun_mk (st := sDraw) l5 c5 k5
  have F6 := fun_mk (st := sText) l6 c6 k6
  have F7 := fun_mk (st := sLArm) l7 c7 k7
  have F8 := fun_mk (st := sRef) l8 c8 k8
  have F9 := fun_mk (st := sLaw) l9 c9 k9
  have b1 := F1.binds (ps := ["thing"]) fun _ _ _ _ _ _ us hl => match us, hl with | [_], _ => rfl
  have b2 := F2.binds (ps := ["text"]) fun _ _ _ _ _ _ us hl => match us, hl with | [_], _ => rfl
  have b3 := F3.binds (ps := ["text", "middle"]) fun _ _ _ _ _ _ us hl => match us, hl with | [_, _], _ => rfl
  have b4 := F4.binds (ps := ["text"]) fun _ _ _ _ _ _ us hl => match us, hl with | [_], _ => rfl
  have b5 := F5.binds (ps := ["_law_script", "_law_k"]) fun _ _ _ _ _ _ us hl => match us, hl with | [_, _], _ => rfl
  have b6 := F6.binds (ps := ["_law_script", "_law_first", "_law_most"]) fun _ _ _ _ _ _ us hl => match us, hl with | [_, _, _], _ => rfl
  have b7 := F7.binds (ps := ["_law_text_here", "_law_middle"]) fun _ _ _ _ _ _ us hl => match us, hl with | [_, _], _ => rfl
  have b8 := F8.binds (ps := ["_law_thing"]) fun _ _ _ _ _ _ us hl => match us, hl with | [_], _ => rfl
  have g : ∀ {x : Str} {v : Value}, PySem.W.nsIn K mainGlobals x = some (some v) → mg x = some v := fun e => PySem.W.mg_of X G e
  have gn : ∀ {x : Str}, PySem.W.nsIn K mainGlobals x = some none → mg x = none := fun e => PySem.W.mg_none_of X G e
  have tb := tabs "is_text" cc1 P isr (tab_from a1 l1 rfl lc hv)
  refine ⟨PySem.W.fnOf "law" "law" (defArgs sLaw) (defBody sLaw) (defScope sLaw) .none kV9 dc9 pm9 an9 cd9 ct9, [(cc1, P)], spLaw K P, fun p hp => ?_, fun p hp => ?_, fun p hp => ?_, fun s u => .of_eq rfl, fun H a ns hlen hbits hT hS => ⟨a, ns, rfl, ⟨#[], hT (cc1, P) List.mem_cons_self, trivial⟩, hS, fun _ => rfl⟩, fun base _ _ TB => ?_⟩
  · obtain rfl := List.mem_singleton.mp hp
    exact tb.2
  · obtain rfl := List.mem_singleton.mp hp
    exact nP
  · obtain rfl := List.mem_singleton.mp hp
    exact tb.1
  · have TB1 : GxR.TabB base mg cc1 P := ⟨(TB (cc1, P) List.mem_cons_self).code, (TB (cc1, P) List.mem_cons_self).bm, (TB (cc1, P) List.mem_cons_self).gP⟩
    have EB : ErrC K mg "BadText" C1 := ⟨g e1, x1, xk1, xb1, xt1⟩
    have N1 : Fn l.prog w K mg base CX0 1 "is_text" f1 _ ["thing"] (spIs K P) := ⟨ok_is F1 rfl TB1 (gn z1) (gn z2) (gn z3) (gn z4) (g gm), g a1, k1, b1⟩
    have N2 : Fn l.prog w K mg base (L2.CX l.prog w) 2 "refuse_no_text" f2 _ ["text"] (spNoT K P C1) := ⟨ok_rnt F2 N1 EB, g a2, k2, b2⟩
    have N3 : Fn l.prog w K mg base CX0 1 "arm_at" f3 _ ["text", "middle"] spArmAt := ⟨ok_armAt F3 (gn z2), g a3, k3, b3⟩
    have N4 : Fn l.prog w K mg base (L2.CX l.prog w) 3 "arms" f4 _ ["text"] (spArms K P C1) := ⟨ok_arms F4 N2 N3 (gn z2) (gn z5), g a4, k4, b4⟩
    have N5 : Fn l.prog w K mg base CX0 1 "_law_draw" f5 _ ["_law_script", "_law_k"] (spDraw K) := ⟨ok_draw F5 (gn z2), g a5, k5, b5⟩
    have N6 : Fn l.prog w K mg base CX0 2 "_law_text" f6 _ ["_law_script", "_law_first", "_law_most"] (spText K) := ⟨ok_text F6 N5 (gn z2), g a6, k6, b6⟩
    have N7 : Fn l.prog w K mg base CX0 1 "_law_arm" f7 _ ["_law_text_here", "_law_middle"] spArmAt := ⟨ok_larm F7 (gn z2) (gn z5), g a7, k7, b7⟩
    have N8 : Fn l.prog w K mg base CX0 4 "_law_refused" f8 _ ["_law_thing"] (spRef K P) := ⟨ok_ref F8 N4 EB ⟨y11, y12, xb1, y13, y14, y5, y6, y17⟩ (g e0) t1 (g e2) (g e3) (g e4) (g e5) (g e6) (g e7) t2 t3 t4 (gn z1) (gn z8), g a8, k8, b8⟩
    exact ok_law F9 N4 N5 N6 N7 N8 (gn z1) (gn z2) (gn z5) (gn z6) (gn z7)
end Mw
open PySem PySem.W PyProof.Rows
set_option maxHeartbeats 0 in
theorem PySem.Challenge.cw_mirrorwords_k02_arms_holds : PySem.Challenge.rw_mirrorwords_k02_arms.Holds := by
  w_on; o_law; k_head; (case hw => w_witness2)
  k_fill
  refine Mw.walk_tab (l := PySem.Challenge.rw_mirrorwords_k02_arms) (n := 63) (k := 5) (x := "_law_script") (CX := fun _ => L2.CX0) rfl (by decide) rfl ⟨rfl, by decide, by decide⟩ (fun w h Y => PySem.W.kIn_of Y) ?F (fun _ _ _ _ _ h => h)
  case F =>
    intro w mg fa h tabs KX G hmg
    refine' Mw.all_mk KX G hmg ?a1 ?l1 ?c1 ?k1 ?a2 ?l2 ?c2 ?k2 ?a3 ?l3 ?c3 ?k3 ?a4 ?l4 ?c4 ?k4 ?a5 ?l5 ?c5 ?k5 ?a6 ?l6 ?c6 ?k6 ?a7 ?l7 ?c7 ?k7 ?a8 ?l8 ?c8 ?k8 ?a9 ?l9 ?c9 ?k9 ?z1 ?z2 ?z3 ?z4 ?z5 ?z6 ?z7 ?z8 ?e0 ?e1 ?e2 ?e3 ?e4 ?e5 ?e6 ?e7 ?gm ?lc ?hv ?nP ?x1 ?xk1 ?xb1 ?xt1 ?y11 ?y12 ?y13 ?y14 ?y17 ?y5 ?y6 ?t1 ?t2 ?t3 ?t4 tabs (by decide +kernel)
    (case a1 => k_is); (case l1 => k_is); (case c1 => k_is); (case k1 => k_is); (case a2 => k_is); (case l2 => k_is); (case c2 => k_is); (case k2 => k_is); (case a3 => k_is); (case l3 => k_is); (case c3 => k_is); (case k3 => k_is); (case a4 => k_is); (case l4 => k_is); (case c4 => k_is); (case k4 => k_is); (case a5 => k_is); (case l5 => k_is); (case c5 => k_is); (case k5 => k_is); (case a6 => k_is); (case l6 => k_is); (case c6 => k_is); (case k6 => k_is); (case a7 => k_is); (case l7 => k_is); (case c7 => k_is); (case k7 => k_is); (case a8 => k_is); (case l8 => k_is); (case c8 => k_is); (case k8 => k_is); (case a9 => k_is); (case l9 => k_is); (case c9 => k_is); (case k9 => k_is); (case z1 => k_is); (case z2 => k_is); (case z3 => k_is); (case z4 => k_is); (case z5 => k_is); (case z6 => k_is); (case z7 => k_is); (case z8 => k_is); (case e0 => k_is); (case e1 => k_is); (case e2 => k_is); (case e3 => k_is); (case e4 => k_is); (case e5 => k_is); (case e6 => k_is); (case e7 => k_is); (case gm => k_is); (case lc => k_is); (case hv => exact rfl); (case nP => kernel_rfl); (case x1 => k_exc); (case xk1 => k_is); (case xb1 => k_is); (case xt1 => k_is); (case y11 => k_is); (case y12 => k_is); (case y13 => k_is); (case y14 => k_is); (case y17 => k_is); (case y5 => k_is); (case y6 => k_is); (case t1 => kernel_rfl); (case t2 => kernel_rfl); (case t3 => kernel_rfl); (case t4 => kernel_rfl)
