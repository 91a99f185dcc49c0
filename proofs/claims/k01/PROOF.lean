import PyProof.Rows.All
import Wide.All
import OpenK.AllK
import Wide.FinOn
import HandS.ForMost
import HandS.ForExc
import HandS.AnyAll
import HandS.IsInst
import HandS.ExcIs
import HandS.ExcValue
import HandS.EndTab
import HandS.Walk
import PySem.Challenge.RW_mirrorwords_k01_mirror_words
set_option Elab.async false
set_option linter.all false
set_option maxRecDepth 100000
set_option maxHeartbeats 4000000
namespace Mw
open PySem PySem.Spec PyProof.Rows L2

/-! ### texts as lists of codes -/
def T (l : List Nat) : Str := ⟨l.toArray⟩
theorem T_tl (z : Str) : T (TL.tl z) = z := TL.ext_tl rfl
theorem tl_T (l : List Nat) : TL.tl (T l) = l := rfl
theorem T_len (l : List Nat) : (T l).length = l.length := by
  rw [TL.len_tl, tl_T]
theorem T_inj {a b : List Nat} (h : T a = T b) : a = b := congrArg TL.tl h
theorem T_app (a b : List Nat) : T a ++ T b = T (a ++ b) := TL.ext_tl (by rw [TL.tl_append]; rfl)
theorem T_dec (a b : List Nat) : decide (V.str (T a) = V.str (T b)) = decide (a = b) := by
  by_cases e : a = b
  · rw [e, decide_eq_true rfl, decide_eq_true rfl]
  · rw [decide_eq_false e, decide_eq_false fun z => e (T_inj (V.str.inj z))]

/-! ### the text read from behind -/
section
variable {X : Cx}
def tRevS (te : TE) : TE := fun σ H Q => te σ H fun x H1 => ∃ l : List Nat, x = .str (T l) ∧ l.length ≤ sizeLine ∧ Q (.str (T l.reverse)) H1
theorem rev_codes (l : List Nat) (u : Tok) : Txt.sliceBy (T l) none none (-1, u) = T l.reverse := by
  refine TL.ext_tl ?_
  show (Txt.sliceBy (T l) none none (-1, u)).cps.toList = l.reverse
  rw [step_rev_list, T_len]
  apply List.ext_getElem
  · rw [List.length_map, List.length_range, List.length_reverse]
  · intro i h1 h2
    have hi : i < l.length := by
      rw [List.length_reverse] at h2
      exact h2
    rw [List.getElem_map, List.getElem_range, List.getElem_reverse]
    show (l.toArray).getD (l.length - 1 - i) 0 = _
    have hj : l.length - 1 - i < l.length := by omega
    simp [Array.getD, hj]
theorem pe_revS {e : Expr} {te : TE} {k : Nat} {p1 p2 p3 pos : Pos} (he : PE X e te) : PE X (.Subscript e (.Slice none none (some (.UnaryOp .USub (.Constant (.int 1) k p1) p2)) p3) pos) (tRevS te) := by
  constructor
  intro pins s σ H Q I h
  refine Subscript_ (thn (he.run pins s σ H _ I h) fun v s1 hv => ?_)
  obtain ⟨x, H1, I1, r1, l, ex, hz, q⟩ := hv
  subst ex
  obtain ⟨t, rfl⟩ := r1
  have hst : PO X (some (.UnaryOp .USub (.Constant (.int 1) k p1) p2)) (tPart (tUn (rU fun i => .int (-i)) (tC (.int 1)))) := po_some (pe_un un_neg pe_int)
  refine wpAny_Slice (thn (po_none.run pins s1 σ H1 (fun o G => o = none ∧ G = H1) I1 ⟨rfl, rfl⟩) fun vl s2 hl => ?_)
  obtain ⟨o1, G1, J1, pl, rfl, rfl⟩ := hl
  refine thn (po_none.run pins s2 σ G1 (fun o G => o = none ∧ G = G1) J1 ⟨rfl, rfl⟩) fun vu s3 hu => ?_
  obtain ⟨o2, G2, J2, pu, rfl, rfl⟩ := hu
  refine thn (hst.run pins s3 σ G2 (fun o G => o = some (-1) ∧ G = G2) J2 ⟨1, rfl, -1, rfl, rfl, rfl⟩) fun vs s4 hs => ?_
  obtain ⟨o3, G3, J3, ps, rfl, rfl⟩ := hs
  have K5 : Inv X pins σ G3 { s4 with heap := s4.heap.push { cls := .type "slice", data := .fields #[vl, vu, vs] } } := J3.kept (t' := s4.toks) fun b ob z => Heap.get?_push_of_some _ z
  cases pl
  cases pu
  cases ps with
  | int i u =>
    refine tail_any (ops := [.str (T l) t, .ref s4.heap.objs.size]) (typeIs_str _ _ _) F.slot_str_getitem.lookup ?_ (by with_unfolding_all rfl)
    refine wpAny_getItem_str_slice (l := none) (u := none) (st := some (-1, u)) ⟨_, Heap.get?_push_size _ rfl, rfl, rfl⟩ rfl ?_
    have hne : ¬ ((((some ((-1 : Int), u)).map (·.1)).getD 1 == 1 && (slicePicked (T l) none none (some (-1, u))).length == (T l).length) = true) := by
      intro z
      have z1 := (Bool.and_eq_true _ _ ▸ z).1
      exact absurd (show ((-1 : Int) == 1) = true from z1) (by decide)
    have e1 := rev_codes l u
    unfold Txt.sliceBy at e1
    rw [if_neg hne] at e1
    unfold sliceMade
    rw [if_neg hne, e1]
    refine ⟨?_, .str (T l.reverse), G3, K5.tok _, ⟨_, rfl⟩, q⟩
    show (T l.reverse).length ≤ sizeLine
    rw [T_len, List.length_reverse]
    exact hz
end
end Mw
namespace Mw
open PySem PySem.Spec PyProof.Rows L2

/-! ### a text n times -/
theorem fold_cat (c : Array Nat) : ∀ (n : Nat) (acc : List Nat), ((List.replicate n c).foldl (· ++ ·) acc.toArray) = (acc ++ (List.replicate n c.toList).flatten).toArray
  | 0, acc => by simp
  | n + 1, acc => by
    have e : acc.toArray ++ c = (acc ++ c.toList).toArray := by simp
    rw [List.replicate_succ, List.foldl_cons, e, fold_cat c n, List.replicate_succ, List.flatten_cons, List.append_assoc]
theorem mul_T (l : List Nat) {n : Nat} (hn : 1 ≤ n) : Txt.mul (T l) (n : Int) = T (List.replicate n l).flatten := by
  unfold Txt.mul
  rw [if_neg (show ¬ ((n : Int) < 1) by omega)]
  by_cases c : (((n : Int) == 1) || (T l).length == 0) = true
  · rw [if_pos c]
    rcases (Bool.or_eq_true _ _).mp c with h | h
    · have e : n = 1 := by
        have := eq_of_beq h
        omega
      subst e
      simp [T]
    · have e : l = [] := by
        have e0 := eq_of_beq h
        rw [T_len] at e0
        exact List.length_eq_zero_iff.mp e0
      subst e
      simp [T]
  · rw [if_neg c, Int.toNat_natCast]
    show (⟨(List.replicate n l.toArray).foldl (· ++ ·) ([] : List Nat).toArray⟩ : Str) = _
    rw [fold_cat]
    simp [T]
def rRepS : R2 := fun x y H Q => ∃ (l : List Nat) (n : Nat), x = .str (T l) ∧ y = .int (n : Int) ∧ 1 ≤ n ∧ l.length * n ≤ sizeLine ∧ n ≤ 1000 ∧ Q (.str (T (List.replicate n l).flatten)) H
theorem op_repS {X : Cx} : OpR X (binaryOp .Mult) rRepS := by
  intro pins s σ H x y v u Q I rx ry h
  obtain ⟨l, n, rfl, rfl, hn, hz, hk, q⟩ := h
  obtain ⟨t, rfl⟩ := rx
  obtain ⟨t2, rfl⟩ := ry
  have hz' : l.length * n ≤ 16777216 := by
    rw [← sizeLine_eq]
    exact hz
  have hl : l.length ≤ 16777216 := Nat.le_trans (Nat.le_mul_of_pos_right _ hn) hz'
  refine SB.mul ⟨?_, fun _ _ => ?_, fun _ _ => ?_⟩ fun t' k => ?_
  · rw [decide_eq_false (by omega), decide_eq_false (by omega)]
    rfl
  · rw [T_len]
    have h1 : ((16777216 : Int)) ≤ (2 ^ 63 - 1) / (n : Int) := by
      refine Int.le_ediv_of_mul_le (by omega) ?_
      have : (16777216 : Int) * n ≤ 16777216 * 1000 := by omega
      refine Int.le_trans this (by decide)
    omega
  · unfold Builtin.Str.tooLong
    rw [T_len, Int.toNat_natCast]
    exact decide_eq_false (by omega)
  · rw [mul_T l hn]
    exact ⟨.str _, H, I.tok k, ⟨t', rfl⟩, q⟩

/-! ### letters -/
def az (c : Nat) : Bool := decide (97 ≤ c) && decide (c ≤ 122)
theorem lt_one (a b : Nat) : decide (([a] : List Nat) < [b]) = decide (a < b) := by
  by_cases h : a < b
  · rw [decide_eq_true h]
    exact decide_eq_true (List.Lex.rel h)
  · rw [decide_eq_false h]
    refine decide_eq_false fun z => ?_
    cases z with
    | rel k => exact h k
    | cons k => cases k
theorem elt_az {prog : Program} {w : World} {scope : Scope} {x : Str} {j j2 : Nat} {p1 p2 p3 p4 : Pos} (hk : scope.kind = .function) (hl : scope.names.lookup x = some .local) (hd : (x == ("__debug__" : Str)) = false := by decide) :
    GxR.EltP prog w scope x (.Compare (.Constant (.str "a") j p1) [.LtE, .LtE] [.Name x p2, .Constant (.str "z") j2 p3] p4) az := by
  intro cenv A' E' c t s₂ m₂ hs hn hm
  have nm : ∀ {s3 : Shared} {Q : Value → Shared → Prop}, s3.heap.Ns cenv.locals m₂ → Q (.str ⟨#[c]⟩ t) s3 → wpAny (model prog w) A' (eval (.Name x p2) cenv) Q E' s3 := fun {s3 Q} hn3 q =>
    wpAny_Name (wpAny_loadName_local (by rw [hs]; exact hk) (show cenv.scope.names.lookup x = some .local by rw [hs]; exact hl) hn3 hm q) hd
  refine Compare_chain (Calls.Constant_str (chain_link (nm hn (PySem.P.le_str ?_)))) (by with_unfolding_all rfl)
  have e1 : (!decide (([c] : List Nat) < [97])) = decide (97 ≤ c) := by
    rw [lt_one]
    by_cases h : c < 97
    · rw [decide_eq_true h, decide_eq_false (by omega)] <;> rfl
    · rw [decide_eq_false h, decide_eq_true (by omega)] <;> rfl
  have e2 : (!decide (([122] : List Nat) < [c])) = decide (c ≤ 122) := by
    rw [lt_one]
    by_cases h : 122 < c
    · rw [decide_eq_true h, decide_eq_false (by omega)] <;> rfl
    · rw [decide_eq_false h, decide_eq_true (by omega)] <;> rfl
  show wpAny _ _ (truthy (.bool (!decide (([c] : List Nat) < [97])))) _ _ _
  rw [e1]
  refine wpAny_truthy_bool ?_
  unfold az
  by_cases h : 97 ≤ c
  · rw [decide_eq_true h]
    refine ite_tt (chain_last (Calls.Constant_str (PySem.P.le_str ?_)))
    show (Value.bool (!decide (([122] : List Nat) < [c])) = _) ∧ _
    rw [e2, Bool.true_and]
    exact ⟨rfl, GxR.keeps_tok _ _⟩
  · rw [decide_eq_false h]
    refine ite_ff ⟨?_, GxR.keeps_tok _ _⟩
    show Value.bool (!decide (([c] : List Nat) < [97])) = Value.bool (false && decide (c ≤ 122))
    rw [e1, decide_eq_false h, Bool.false_and]
theorem genS {env : Env} {scope : Scope} {x : Str} (h1 : scope.kind = .function) (h2 : scope.isCoroutine = false) (h3 : ∀ y ∈ scope.names, y.2 = .local) (h4 : scope.names.lookup (".0" : Str) = some NameKind.local) (h5 : scope.names.lookup x = some .local) :
    GxR.GenS env scope x := ⟨h1, h2, fun y hy e => (by rw [h3 y hy] at e; cases e), h4, h5, fun y hy e => (by rw [h3 y hy] at e; cases e)⟩
end Mw
namespace Mw
open PySem PySem.Spec PyProof.Rows L2

/-! ### a def whose code object is told -/
theorem okC {P : Program} {w : World} {K : PySem.W.Frag} {mg : Str → Option Value} {base : Heap} {x qual : Str} {st : Stmt} {f : Addr} {fd : FuncData} {N ps : List Str} {k : Nat} {sp : Sp}
    (F : Fun K x qual st f fd) (S : FnScope N ps (defScope st)) (len : ∀ vs H Q E, sp vs H Q E → vs.length = ps.length)
    (body : ∀ (A : Around) (outer : List Env) (s : Shared) (H : Hp) (vs : List V) (Q : VK) (E : XK), Room k (A.deeper (envOfC qual (defScope st) s.heap.objs.size f fd.code)) → sp vs H Q E →
      ∃ t, PSs (cxOf CX0 P w K mg base N qual (defScope st) f fd.code A outer s H E).nox (defBody st) t ∧ t { nx := fun _ H' => Q .non H', rt := Q } (start N vs) H) :
    FnOk P w K mg base CX0 (k + 1) f fd ps sp := by
  obtain ⟨oc, od, kV, doc, pm, an, cdv, ct, osl, rfl, lk, hcd⟩ := F.ex
  refine fn_of lk hcd S len ?_
  intro A outer s H vs Q E hr hsp
  obtain ⟨t, h, q⟩ := body A outer s H vs Q E hr hsp
  exact ⟨t, h.nox, q⟩

/-! ### the heap behind a call: all stays but the table at P -/
structure Kp (P : Addr) (H H' : Hp) : Prop where
  tab : GxR.TabG H' P
  keep : ∀ b o, b ≠ P → H b = some o → H' b = some o
theorem Kp.refl {P : Addr} {H : Hp} (t : GxR.TabG H P) : Kp P H H := ⟨t, fun _ _ _ h => h⟩
theorem Kp.trans {P : Addr} {H H1 H2 : Hp} (a : Kp P H H1) (b : Kp P H1 H2) : Kp P H H2 := ⟨b.tab, fun c o n h => b.keep c o n (a.keep c o n h)⟩
theorem Kp.tabbed {P : Addr} {H H' : Hp} (t : GxR.Tabbed P H H') : Kp P H H' := ⟨t.1, fun b o n h => by rw [t.2 b n]; exact h⟩
theorem Kp.same {P : Addr} {H H' : Hp} (t : GxR.TabG H P) (s : Same H H') : Kp P H H' := by
  obtain ⟨ps, h1, h2⟩ := t
  exact ⟨⟨ps, s _ _ h1, h2⟩, fun b o _ h => s b o h⟩
theorem Kp.new {P p : Addr} {H : Hp} {o : HO} (t : GxR.TabG H P) (n : H p = none) : Kp P H (upd H p o) := .same t fun b u e => by
  rw [upd_ne (ne_of_none e n)]
  exact e
theorem Kp.step {P p : Addr} {H H1 : Hp} {o : HO} (a : Kp P H H1) (n : H1 p = none) : Kp P H (upd H1 p o) := a.trans (.new a.tab n)
/-- a list of one's own is written: what stood ahead of it stays -/
theorem Kp.own {P p : Addr} {H H1 : Hp} {o : HO} (a : Kp P H H1) (n : H p = none) (hp : p ≠ P) : Kp P H (upd H1 p o) := by
  refine ⟨?_, fun b u nb h => ?_⟩
  · obtain ⟨ps, h1, h2⟩ := a.tab
    exact ⟨ps, by rw [upd_ne (Ne.symm hp)]; exact h1, h2⟩
  · rw [upd_ne (ne_of_none h n)]
    exact a.keep b u nb h
theorem tab_ne {P p : Addr} {H : Hp} {o : HO} (t : GxR.TabG H P) (h : H p = some o) (n : ∀ ps, o ≠ .tbl ps) : p ≠ P := by
  obtain ⟨ps, h1, _⟩ := t
  exact ne_of h h1 (n ps)
theorem new_ne {P p : Addr} {H : Hp} (t : GxR.TabG H P) (h : H p = none) : p ≠ P := by
  obtain ⟨ps, h1, _⟩ := t
  exact (ne_of_none h1 h).symm
theorem Kp.lst {P p : Addr} {H H' : Hp} {xs : List V} (a : Kp P H H') (t : GxR.TabG H P) (h : H p = some (.lst xs)) : H' p = some (.lst xs) := a.keep _ _ (tab_ne t h fun _ z => by cases z) h
theorem Kp.seq {P p : Addr} {K : PySem.W.Frag} {H H' : Hp} {xs : List V} (a : Kp P H H') (t : GxR.TabG H P) (h : SqL K H p xs) : SqL K H' p xs := by
  rcases h with (h | ⟨o, h⟩) | h
  · exact .inl (.inl (a.lst t h))
  · exact .inl (.inr ⟨o, a.keep _ _ (tab_ne t h fun _ z => by cases z) h⟩)
  · exact .inr h
theorem Kp.free {P : Addr} {H H' : Hp} (a : Kp P H H') (t : GxR.TabG H P) {p : Addr} (h : H' p = none) : H p = none := by
  cases q : H p with
  | none => rfl
  | some o =>
    by_cases e : p = P
    · obtain ⟨ps, h1, _⟩ := a.tab
      rw [← e, h] at h1
      cases h1
    · rw [a.keep p o e q] at h
      cases h

/-! ### the law's end: the tables of code objects, by what the top says of them -/
theorem tab_from {K : PySem.W.Frag} {x : Str} {f c P : Addr} {o1 : Value} {o2 : Option Addr} {fd : FuncData} {o3 : Array (Option Value)} {e1 : Value} {e2 : Option Addr} {vs : Array Value} {e3 : Array (Option Value)}
    (a : PySem.W.nsIn K mainGlobals x = some (some (.ref f))) (l : K.lookup f = some ⟨o1, o2, .func fd, o3⟩) (hc : fd.code = .ref c) (lc : K.lookup c = some ⟨e1, e2, .fields vs, e3⟩) (hv : vs[11]? = some (.ref P)) : PySem.W.tabIn K x = some (c, P) := by
  unfold PySem.W.tabIn
  rw [a]
  show (match K.lookup f with
    | some ⟨_, _, .func fd, _⟩ => _
    | _ => none) = _
  rw [l]
  show (match fd.code with
    | .ref c => _
    | _ => none) = _
  rw [hc]
  show (match K.lookup c with
    | some ⟨_, _, .fields vs, _⟩ => _
    | _ => none) = _
  rw [lc]
  show (match (vs[11]? : Option Value) with
    | some (.ref P) => some (c, P)
    | _ => none) = _
  rw [hv]
theorem walk_tab {l : PySem.W.OpenLaw} {n k : Nat} {q : Program} {loose : List Str} {XP : (Str → Option Value) → Heap → Prop} {YP : World → Heap → Prop} {d : DefRec} {K : Params → PySem.W.Frag} {CX : World → CXT} {x : Str}
    (hn : l.most = some n) (hn2 : n ≤ sizeLine) (hdf : d.params.defaults = []) (hr : Room k callerA) (hY : ∀ (w : World) (h : Heap), YP w h → (K w.params).In h)
    (F : ∀ (w : World) (mg : Str → Option Value) (fa : Addr) (h : Heap),
      (∀ (y : Str) (c P : Addr), ((recsOf q).find? (fun e => e.name == y)).isSome = true → PySem.W.tabIn (K w.params) y = some (c, P) → PySem.W.CodeHd h c P ∧ h.get? P = some { cls := .none, data := .fields #[] }) →
      (K w.params).In h → h.Ns mainGlobals mg → mg d.name = some (.ref fa) → LamX.LawAtS l w (K w.params) (CX w) k n x mg fa h)
    (hCX : ∀ (w : World) (H : Hp) (s : Shared) (e : Value) (s' : Shared), CX w [] H s (fun _ _ _ => False) e s' → False) :
    PySem.W.WalkO q loose XP YP l.row.toRowW d [] (fun f vs => PySem.call f vs) := by
  refine Att.attach_callB hn hdf ?_
  intro w s₀ s₁ mg mb fa o pm cd doc a vs ns G Y ho hd hcd hmg hobj hints hlen hbits hg
  have KX := hY w _ Y
  have hF := F w mg fa _ (fun y c P hy ht => by
    obtain ⟨dd, hdd⟩ := Option.isSome_iff_exists.mp hy
    exact PySem.W.tab_of G.T KX hdd ht) KX G.T.g hmg
  obtain ⟨fd, cs, sp, hT, nT, C, hb, hsp, hok⟩ := hF
  refine LamX.law_callTs KX G.T.g G.T.b G.T.builtins G.T.nolimit hg hT nT C G.T.bmain hobj hints (Nat.le_trans hlen hn2) hr hok hb ?_ fun H e s' => hCX w H s₁ e s'
  exact fun H hH hS => hsp H a ns hlen hbits hH hS

/-! ### an error that is kept behind its except suite -/
/-- an error of the class at C stands at a -/
def ExS (C a : Addr) : HO := .ext fun h => ∃ (oe : Obj) (vs : Array Value), h.get? a = some oe ∧ Zc (.ref C) none oe ∧ oe.data = .fields vs
theorem exS_ok {P : Program} {w : World} {H : Hp} {h : Heap} {a C : Addr} {oe : Obj} {vs : Array Value} (e : h.get? a = some oe) (z : Zc (.ref C) none oe) (d : oe.data = .fields vs) : ObjOk P w H h a (ExS C a) :=
  ⟨⟨oe, vs, e, z, d⟩, ⟨oe, e⟩, fun _ _ ⟨o, v, q, r⟩ k => ⟨o, v, k o q, r⟩⟩
theorem exS_ne {C a : Addr} : ∀ ps, ExS C a ≠ .tbl ps := fun ps z => by
  unfold ExS at z
  cases z
section
variable {X : Cx} {pins : List (Addr × Obj)} {σ : L2.St} {H : Hp} {s : Shared}
theorem unpin {a : Addr} {q : Addr × Obj} (I : Inv (X.suite a (q :: (X.pn ++ pins))) [] σ H s) (ok : X.Ok) : Inv X (q :: pins) σ H s := by
  refine ⟨ok, I.os, I.bare, I.base, I.loc, I.cell, I.free, I.freeC, fun p hp => I.pin p ?_, I.hok, I.len⟩
  rw [List.append_nil]
  rcases List.mem_append.mp hp with z | z
  · exact List.mem_cons_of_mem _ (List.mem_append_left _ z)
  · rcases List.mem_cons.mp z with e | z
    · rw [e]
      exact List.mem_cons_self
    · exact List.mem_cons_of_mem _ (List.mem_append_right _ z)
theorem track {a C : Addr} {oe : Obj} (J : Inv X ((a, oe) :: pins) σ H s) (hz : Zc (.ref C) none oe) (hd : ∃ vs, oe.data = .fields vs) (n0 : X.s_0.heap.get? a = none) (np : ∀ p ∈ X.pn ++ pins, p.1 ≠ a) :
    Inv X pins σ (upd H a (ExS C a)) s := by
  obtain ⟨ha, na, nL, nF, ncell⟩ := J.pin (a, oe) (List.mem_append_right _ List.mem_cons_self)
  have ha : s.heap.get? a = some oe := ha
  have na : H a = none := na
  have nL : a ≠ X.env.locals := nL
  obtain ⟨vs, hv⟩ := hd
  have tr : ∀ b u, H b = some u → upd H a (ExS C a) b = some u := fun b u e => by
    rw [upd_ne (ne_of_none e na)]
    exact e
  have ns : ∀ b o, X.s_0.heap.get? b = some o → b ≠ a := fun b o e z => by
    rw [z, n0] at e
    cases e
  refine ⟨J.ok, J.os, J.bare, ⟨J.base.keep, J.base.slot, fun b o e n hx => ?_, J.base.there, fun b xs e => tr _ _ (J.base.tups b xs e), fun b o u e => tr _ _ (J.base.frzs b o u e), fun b ps e => ?_⟩, J.loc, J.cell, ?_, fun x c e => ?_, fun p hp => ?_, fun b u e => ?_, J.len⟩
  · rw [upd_ne (ns b o e)]
    exact J.base.free b o e n hx
  · obtain ⟨m, e1⟩ := J.base.tbls b ps e
    exact ⟨m, tr _ _ e1⟩
  · rw [upd_ne (Ne.symm nL)]
    exact J.free
  · have nc : c ≠ a := fun z => by
      obtain ⟨v, o, ho, hdc⟩ := J.cell x c e
      rw [z, ha] at ho
      cases ho
      exact ncell v hdc
    rw [upd_ne nc]
    exact J.freeC x c e
  · have hp' : p ∈ X.pn ++ ((a, oe) :: pins) := by
      rcases List.mem_append.mp hp with z | z
      · exact List.mem_append_left _ z
      · exact List.mem_append_right _ (List.mem_cons_of_mem _ z)
    obtain ⟨e, n, r⟩ := J.pin p hp'
    exact ⟨e, by rw [upd_ne (np p hp)]; exact n, r⟩
  · by_cases hb : b = a
    · subst hb
      rw [upd_same] at e
      cases e
      exact exS_ok ha hz hv
    · rw [upd_ne hb] at e
      exact (J.hok b u e).stay (fun c w _ q => q) (fun c q => tr _ _ q) fun c xs q => tr _ _ q
end
end Mw
namespace Mw
open PySem PySem.Spec PyProof.Rows L2

/-! ### try: body, except c as n: suite, where the clause takes all that the body raises; the error stays known behind it -/
def wKeep (K : PySem.W.Frag) (c : Value) (i : Nat) (ts : Addr → TS) (D : Ends) : WX := fun cls d σ H =>
  PySem.W.exmOne K cls c = some true ∧ d = none ∧ ∃ C, cls = .ref C ∧ ∀ a, H a = none →
    ts a { nx := fun σ' H' => D.nx (σ'.set i none) (upd H' a (ExS C a)), rt := fun _ _ => False } (σ.set i (some (.ref a))) H
section
variable {X : Cx} {x n : Str} {c : Value} {i : Nat} {body suite : List Stmt} {b₀ : Stmt} {np pos pos' : Pos} {tb : WX → TS} {ts : Addr → TS}
theorem ps_tryK (hs : X.stack = X.env :: X.outer) (hf : X.env.frame = some X.env.locals) (hex : X.ex = []) (hN : X.N.Nodup) (hi : X.N[i]? = some n) (hln : X.env.kindOf n = some .local) (hc : Names X x c)
    (hb : ∀ (W : WX) (pn : List (Addr × Obj)) (xe : Value → Shared → Prop), Takes (X.tr pn xe) W → PassesOwn (model X.prog X.w) X.A X.env xe → PSs (X.tr pn xe) body (tb W))
    (hsu : ∀ (a : Addr) (pn : List (Addr × Obj)), PSs (X.suite a pn) (b₀ :: suite) (ts a)) :
    PS X (.Try body [.ExceptHandler (some (.Name x np)) (some n) (b₀ :: suite) pos'] [] [] pos) (fun D σ H => tb (wKeep X.K c i ts D) D σ H) := by
  constructor
  intro pins s σ H D I h
  have ok := I.ok
  have hfr : X.A.frames = some (X.env :: X.outer) := by
    rw [ok.frames, hs]
  have caught : ∀ (u : Value) (s' : Shared), XE (X.tr (X.pn ++ pins) fun _ _ => True) (wKeep X.K c i ts D) u s' →
      wpAny (model X.prog X.w) X.A (noteFrame u X.env) (fun _ s₂ => wpAny (model X.prog X.w) X.A (setFlight u none) (fun _ s₃ =>
        wpAny (model X.prog X.w) X.A (handleBy u X.env [.ExceptHandler (some (.Name x np)) (some n) (b₀ :: suite) pos']) (SP X pins D) X.xe s₃) X.xe s₂) X.xe s' := by
    intro u s' xx
    obtain ⟨a, B, sI, pins', σ', H', cls, d, rfl, J', nb, up, sky, na, os, ag, hm, rfl, C, rfl, hyes⟩ := xx
    have J : Inv X pins σ' H' sI := J'.ofTry ok
    have sky2 : Sky B (X.env :: X.outer) a (Zc (.ref C) none) X.env.locals s'.heap := hs ▸ sky
    refine Sky.land Zc.steady hfr hf sky2 fun h3 fl3 up3 => ?_
    have J3 : Inv X pins σ' H' { s' with heap := h3 } := J.landed nb fl3.1 (up.trans up3) os ag
    obtain ⟨oe3, vs3, he3, hz3, hd3⟩ := fl3.there
    have nfr : a ∉ frs (X.env :: X.outer) := fun hm => by
      obtain ⟨_, o', e', hnf⟩ := fl3.2.2.1.mem hm
      rw [he3] at e'
      cases e'
      exact hnf _ hd3
    have nL : a ≠ X.env.locals := fun z => nfr (List.mem_filterMap.mpr ⟨X.env, List.mem_cons_self, by rw [hf, z]⟩)
    have nF : a ∉ X.fs := fun z => by
      obtain ⟨e, he, q⟩ := List.mem_filterMap.mp z
      exact nfr (List.mem_filterMap.mpr ⟨e, List.mem_cons_of_mem _ he, q⟩)
    have nI : sI.heap.get? a = none := by
      cases q : sI.heap.get? a with
      | none => rfl
      | some o =>
        have z := nb a o q (by rw [show X.stack = X.env :: X.outer from hs]; exact nfr)
        rw [fl3.2.1] at z
        cases z
    have n0 : X.s_0.heap.get? a = none := by
      cases q : X.s_0.heap.get? a with
      | none => rfl
      | some o =>
        obtain ⟨o', z⟩ := J.base.there a o q (by rw [hex]; exact fun z => nomatch z)
        rw [nI] at z
        cases z
    have npin : ∀ p ∈ X.pn ++ pins, p.1 ≠ a := fun p hp z => by
      obtain ⟨e, _⟩ := J.pin p hp
      rw [z, nI] at e
      cases e
    have S3 := J3.suite he3 hd3 na nL nF
    refine wpAny_handleBy_cons (codeAny_handlers_test ?_) (by intro q; cases q)
    have LT : PySem.W.Looks (model X.prog X.w) h3 (typeOf (.ref a)) (.ref C) := fun A Q E s k q => wpAny_typeOf_ref (k _ _ he3) (by rw [hz3.1]; exact q)
    have LM := PySem.W.exm_one (M := model X.prog X.w) J3.kIn LT hm
    have test : ∀ {Q : Value → Shared → Prop} {E : Value → Shared → Prop}, Q c { s' with heap := h3 } → wpAny (model X.prog X.w) (X.A.mark (some (.ref a))) (eval (.Name x np) X.env) Q E { s' with heap := h3 } := by
      intro Q E q
      obtain ⟨hg, hdb, hm | ⟨hm, hv, hnn⟩⟩ := hc
      · exact ld_glob S3 hg hm q hdb
      · exact ld_blt S3 hg hm hv q hnn hdb
    refine test (LM.here ?_)
    refine codeAny_handlers_suite_as ?_
    refine HandSPX.lands_againZ fl3 fun h4 fl4 up4 => ?_
    have J4 : Inv X pins σ' H' { s' with heap := h4 } := J.landed nb fl4.1 ((up.trans up3).trans up4) os ag
    obtain ⟨oe4, vs4, he4, hz4, hd4⟩ := fl4.there
    have S4 := J4.suite he4 hd4 na nL nF
    refine store_ok (X := X.suite a ((a, oe4) :: (X.pn ++ pins))) (v := .ref a) S4 hN hi (.inl hln) rfl (fun s5 S5 => ?_) (.inr hln)
    refine wpAny_mono ((hsu a ((a, oe4) :: (X.pn ++ pins))).run [] s5 _ H' _ S5 (hyes a na)) (fun f s6 hsp => ?_) fun _ _ z => False.elim z
    cases f with
    | next =>
      obtain ⟨σ6, H6, S6, q6⟩ := hsp
      refine gone_ok (unpin S6 ok) hN hi hln fun s7 J7 => ?_
      exact ⟨_, _, track J7 hz4 ⟨_, hd4⟩ n0 npin, q6⟩
    | brk =>
      obtain ⟨_, _, _, q6⟩ := hsp
      exact q6.elim
    | cont =>
      obtain ⟨_, _, _, q6⟩ := hsp
      exact q6.elim
    | ret u =>
      obtain ⟨_, _, _, _, _, q6⟩ := hsp
      exact q6.elim
  refine wpAny_Try_except (wpAny_mono ((hb (wKeep X.K c i ts D) (X.pn ++ pins) _ (fun u s' xx => caught u s' ?_) PassesOwn.looking).run [] s σ H D (I.toTry _) h) (fun f s1 hsp => ?_) fun e s1 he => he)
  · obtain ⟨a, B, sI, pins', σ', H', cls, d, e, J', r⟩ := xx
    exact ⟨a, B, sI, pins', σ', H', cls, d, e, ⟨J'.ok.ofTry.toTry _ _, J'.os, J'.bare, J'.base, J'.loc, J'.cell, J'.free, J'.freeC, J'.pin, J'.hok, J'.len⟩, r⟩
  · cases f with
    | next =>
      obtain ⟨σ', H', J', q⟩ := hsp
      exact wpAny_execs_nil ⟨σ', H', J'.ofTry ok, q⟩
    | brk =>
      obtain ⟨σ', H', J', q⟩ := hsp
      exact ⟨σ', H', J'.ofTry ok, q⟩
    | cont =>
      obtain ⟨σ', H', J', q⟩ := hsp
      exact ⟨σ', H', J'.ofTry ok, q⟩
    | ret u =>
      obtain ⟨v, σ', H', J', r, q⟩ := hsp
      exact ⟨v, σ', H', J'.ofTry ok, r, q⟩
end

/-! ### isinstance of such an error -/
def rIsX (K : PySem.W.Frag) : List V → Hp → VK → Prop := fun xs H Q => ∃ (a C : Addr) (c : V) (cv : Value) (b : Bool), xs = [.ref a, c] ∧ ClsV c cv ∧ H a = some (ExS C a) ∧ ExcC K C ∧ PySem.W.kitOne K (.ref C) cv = some b ∧ Q (.bl b) H
def rIsXT (K : PySem.W.Frag) : List V → Hp → VK → Prop := fun xs H Q => ∃ (a C tp : Addr) (cs : List V) (us : List Value) (b : Bool), xs = [.ref a, .ref tp] ∧ H tp = some (.tup cs) ∧ Paired ClsV cs us ∧ H a = some (ExS C a) ∧ ExcC K C ∧
  PySem.W.kitAny K (.ref C) us = some b ∧ Q (.bl b) H
section
variable {X : Cx} {pins : List (Addr × Obj)} {σ : L2.St} {H : Hp} {s : Shared}
theorem inst_of {a C : Addr} (I : Inv X pins σ H s) (h : H a = some (ExS C a)) : ∃ oe, PySem.W.InstAt s.heap a oe C none := by
  obtain ⟨⟨oe, vs, e, hz, hv⟩, _⟩ := (show ObjOk X.prog X.w H s.heap a (ExS C a) from I.hok a _ h)
  refine ⟨oe, ?_⟩
  obtain ⟨oc, od, oda, osl⟩ := oe
  obtain ⟨h1, h2⟩ := hz
  dsimp only at h1 h2 hv
  subst h1 h2 hv
  exact ⟨e, rfl, rfl, trivial⟩
theorem call_isX : CallR X (.builtin "isinstance") (rIsX X.K) := by
  intro pins s σ H xs us Q I r h
  obtain ⟨a, C, c, cv, b, rfl, k, hx, E, e, q⟩ := h
  obtain ⟨u1, u2, rfl, r1, r2⟩ := vals2 r
  cases (show u1 = Value.ref a from r1)
  have e2 := k.eq r2
  subst e2
  obtain ⟨oe, J⟩ := inst_of I hx
  exact PySem.W.kia_one (PySem.W.handS_kitx_exc E.hg E.hk E.hs E.hd E.ha E.hn E.ht E.hm) I.kIn J e (fun z => nomatch z) fun tk => ⟨.bl b, H, I.tok tk, rfl, q⟩
theorem call_isXT : CallR X (.builtin "isinstance") (rIsXT X.K) := by
  intro pins s σ H xs us Q I r h
  obtain ⟨a, C, tp, cs, ws, b, rfl, hT, k, hx, E, e, q⟩ := h
  obtain ⟨u1, u2, rfl, r1, r2⟩ := vals2 r
  cases (show u1 = Value.ref a from r1)
  cases (show u2 = Value.ref tp from r2)
  obtain ⟨oe, J⟩ := inst_of I hx
  obtain ⟨_, its, rv, o, h1, h2, n, h3⟩ := (show ObjOk X.prog X.w H s.heap tp (.tup cs) from I.hok tp _ hT)
  have e3 := ClsV.all k rv
  subst e3
  obtain ⟨oc, od, dt, sl⟩ := o
  simp only at h2 h3
  subst h2 h3
  exact PySem.W.kia_tup (PySem.W.handS_kitx_exc E.hg E.hk E.hs E.hd E.ha E.hn E.ht E.hm) I.kIn J h1 e (fun z => nomatch z) fun tk => ⟨.bl b, H, I.tok tk, rfl, q⟩
end
end Mw
namespace Mw
open PySem PySem.Spec PyProof.Rows L2
def topS (i : Nat) : Stmt := PySem.Challenge.pw_mirrorwords_k01_mirror_words.main.body.getD i (.Pass ⟨0, 0, 0, 0⟩)
abbrev sIs : Stmt := topS 11
abbrev sMir : Stmt := topS 12
abbrev sAlike : Stmt := topS 13
abbrev sInner : Stmt := topS 14
abbrev sTail : Stmt := topS 15
abbrev sChain : Stmt := topS 16
abbrev sNoM : Stmt := topS 17
abbrev sDraw : Stmt := topS 19
abbrev sText : Stmt := topS 20
abbrev sOdd : Stmt := topS 21
abbrev sEnds : Stmt := topS 22
abbrev sAsk : Stmt := topS 23
abbrev sRight : Stmt := topS 24
abbrev sLIs : Stmt := topS 25
abbrev sLaw : Stmt := topS 26
/-! ### is_text -/
theorem scIs : FnScope ["thing"] ["thing"] (defScope sIs) := ⟨rfl, rfl, rfl, by decide +kernel, rfl, by decide +kernel, by decide +kernel⟩
def isT : V → Bool
  | .str z => decide (z.length ≤ 200) && (TL.tl z).all az
  | _ => false
inductive Thing (K : PySem.W.Frag) (H : Hp) : V → Prop
  | text (l : List Nat) (h : l.length ≤ sizeLine) : Thing K H (.str (T l))
  | other {x : V} {n : String} (t : TyX K H x (.type n)) (k : kitB n "str" = some false) (no : isT x = false) : Thing K H x
def spIs (K : PySem.W.Frag) (P : Addr) : Sp := fun vs H Q _ => ∃ x, vs = [x] ∧ GxR.TabG H P ∧ Thing K H x ∧ ∀ H', GxR.Tabbed P H H' → Q (.bl (isT x)) H'
section
variable {Pr : Program} {w : World} {K : PySem.W.Frag} {mg : Str → Option Value} {base : Heap} {P : Addr}
theorem ok_is {f c : Addr} {fd : FuncData} {tm : Tok} (F : Fun K "is_text" "is_text" sIs f fd) (hcode : fd.code = .ref c) (TB : GxR.TabB base mg c P) (mi : mg "isinstance" = none) (ml : mg "len" = none) (ma : mg "all" = none) (ms : mg "str" = none)
    (mm : mg "MOST" = some (.int 200 tm)) : FnOk Pr w K mg base CX0 1 f fd ["thing"] (spIs K P) := by
  refine okC F scIs (fun vs H Q E h => ?_) (fun A outer s H vs Q E hr h => ?_)
  · obtain ⟨x, rfl, _⟩ := h
    rfl
  · obtain ⟨x, rfl, tab, th, q⟩ := h
    refine ⟨_, pss_one (ps_ret (pe_and (pe_callB call_isi (by rfl) mi boot_isinstance (pa_cons (pv 0) (pa_cons (pe_bltn (v := .ty "str") (by rfl) ms PyProof.Rows.boot_str rfl) pa_nil)))
      (pe_and (pe_cmpR op_le (pe_callB call_len_str (by rfl) ml PySem.boot_len (pa_cons (pv 0) pa_nil)) (pe_glob (v := .int 200) (by rfl) mm ⟨_, rfl⟩) (nomark _))
      (pe_one (GxR.pe_allS hr (by rfl) ma boot_all TB hcode (genS rfl rfl (by decide +kernel) rfl rfl) (pv 0) (elt_az rfl rfl) (fun _ => rfl)))))), ?_⟩
    cases th with
    | other t k no =>
      refine ⟨x, rfl, x, .ty "str", _, _, false, rfl, .ty _, t, kit_ty k, false, rfl, iteF ?_⟩
      have z := q H ⟨tab, fun _ _ => rfl⟩
      rw [no] at z
      exact z
    | text l hl =>
      refine ⟨.str (T l), rfl, .str (T l), .ty "str", _, _, true, rfl, .ty _, .base (.str _), kit_ty (by decide +kernel), true, rfl, iteT ?_⟩
      refine ⟨.str (T l), rfl, T l, rfl, by rw [T_len]; exact hl, _, 200, rfl, rfl, _, rfl, ?_⟩
      by_cases h : l.length ≤ 200
      · have e : decide (((T l).length : Int) ≤ 200) = true := decide_eq_true (by rw [T_len]; omega)
        rw [e]
        refine iteT ⟨.str (T l), rfl, T l, rfl, tab, fun H2 hT => ?_⟩
        have z := q H2 hT
        have e2 : isT (.str (T l)) = (T l).cps.toList.all az := by
          show (decide ((T l).length ≤ 200) && l.all az) = l.all az
          rw [T_len, decide_eq_true h, Bool.true_and]
        rw [e2] at z
        exact z
      · have e : decide (((T l).length : Int) ≤ 200) = false := decide_eq_false (by rw [T_len]; omega)
        rw [e]
        refine iteF ?_
        have z := q H ⟨tab, fun _ _ => rfl⟩
        have e2 : isT (.str (T l)) = false := by
          show (decide ((T l).length ≤ 200) && l.all az) = false
          rw [T_len, decide_eq_false h, Bool.false_and]
        rw [e2] at z
        exact z
end
/-! ### the classes of refusals, as the top has written them -/
structure ErrC (K : PySem.W.Frag) (mg : Str → Option Value) (x : Str) (C : Addr) : Prop where
  g : mg x = some (.ref C)
  x : PySem.W.excIn K C [.type "ValueError", .type "Exception", .type "BaseException", .type "object"] "ValueError.__new__" = true
  k : PySem.W.keepIn K (.ref C) = true
  b : PySem.W.subIn K (.ref C) (.type "BaseException") = some true
  t : PySem.W.typeIn K (.ref C) = some (.type "type")
/-- a def with its promise, and what its callers ask -/
structure Fn (Pr : Program) (w : World) (K : PySem.W.Frag) (mg : Str → Option Value) (base : Heap) (CX : CXT) (k : Nat) (x : Str) (f : Addr) (fd : FuncData) (ps : List Str) (sp : Sp) : Prop where
  ok : FnOk Pr w K mg base CX k f fd ps sp
  g : mg x = some (.ref f)
  k : PySem.W.keepIn K (.ref f) = true
  b : Binds K fd ps []


/-! ### a cell of the script, or nought -/
theorem scDraw : FnScope ["_law_script", "_law_k"] ["_law_script", "_law_k"] (defScope sDraw) := ⟨rfl, rfl, rfl, by decide +kernel, rfl, by decide +kernel, by decide +kernel⟩
def spDraw (K : PySem.W.Frag) : Sp := fun vs H Q _ => ∃ (a : Addr) (ns : List Int) (k : Nat), vs = [.ref a, .int (k : Int)] ∧ SqL K H a (ns.map V.int) ∧ Q (.int (ns.getD k 0)) H
section
variable {Pr : Program} {w : World} {K : PySem.W.Frag} {mg : Str → Option Value} {base : Heap}
theorem ok_draw {f : Addr} {fd : FuncData} (F : Fun K "_law_draw" "_law_draw" sDraw f fd) (ml : mg "len" = none) : FnOk Pr w K mg base CX0 1 f fd ["_law_script", "_law_k"] (spDraw K) := by
  refine F.ok scDraw (fun vs H Q E h => ?_) (fun cdv A outer s H vs Q E hr h => ?_)
  · obtain ⟨a, ns, k, rfl, _⟩ := h
    rfl
  · obtain ⟨a, ns, k, rfl, hS, q⟩ := h
    refine ⟨_, pss_one (ps_ret (pe_ifExp (pt_cmpR op_gt (pe_callB call_len_seq (by rfl) ml PySem.boot_len (pa_cons (pv 0) pa_nil)) (pv 1) (nomark _)) (pe_ix ix_list (pv 0) (pv 1) (fun _ _ => rfl)) pe_int)), ?_⟩
    refine ⟨.ref a, rfl, a, _, rfl, .inl hS, _, rfl, _, _, rfl, rfl, _, rfl, ?_⟩
    by_cases h : k < ns.length
    · rw [decide_eq_true (show (k : Int) < ((ns.map V.int).length : Int) by rw [List.length_map]; omega)]
      refine iteT ⟨_, rfl, _, rfl, a, _, _, .int (ns.getD k 0), rfl, rfl, hS, atI_nat ?_, q⟩
      rw [List.getElem?_map, List.getElem?_eq_getElem h, List.getD_eq_getElem?_getD, List.getElem?_eq_getElem h]
      rfl
    · rw [decide_eq_false (show ¬ (k : Int) < ((ns.map V.int).length : Int) by rw [List.length_map]; omega)]
      refine iteF ?_
      rw [List.getD_eq_getElem?_getD, List.getElem?_eq_none (by omega)] at q
      exact q
end

/-! ### the drawn text -/
theorem cut_len (xs : List V) (a b : Nat) : (cutV xs (some (a : Int)) (some ((a : Int) + (b : Int)))).length ≤ b := by
  unfold cutV
  have e : ((a : Int) + (b : Int)) = ((a + b : Nat) : Int) := by omega
  rw [e, HT.sIx_nat, HT.sIx_nat, List.length_take, List.length_drop]
  omega
theorem cut_map (ns : List Int) (lo hi : Option Int) : ∃ ms : List Int, cutV (ns.map V.int) lo hi = ms.map V.int := by
  unfold cutV
  exact ⟨(ns.drop (HT.sIx (ns.map V.int).length 0 lo)).take (HT.sIx (ns.map V.int).length (ns.map V.int).length hi - HT.sIx (ns.map V.int).length 0 lo), by rw [List.map_take, List.map_drop]⟩
theorem cutS_T (l : List Nat) (lo hi : Option Int) : cutS (T l) lo hi = T ((l.drop (HT.sIx l.length 0 lo)).take (HT.sIx l.length l.length hi - HT.sIx l.length 0 lo)) := by
  unfold cutS
  rw [T_len]
  rfl
theorem cutS_all {l : List Nat} (h : l.all az = true) (lo hi : Option Int) : ∃ m : List Nat, cutS (T l) lo hi = T m ∧ m.all az = true ∧ m.length ≤ l.length := by
  refine ⟨_, cutS_T l lo hi, ?_, ?_⟩
  · rw [List.all_eq_true] at h ⊢
    exact fun c hc => h c (List.mem_of_mem_drop (List.mem_of_mem_take hc))
  · rw [List.length_take, List.length_drop]
    omega
theorem join_signs (cs : List Nat) : Txt.join (Str.ofString "") (cs.map fun c => T [c]) = T cs := by
  refine TL.ext_tl ?_
  rw [TL.join_eq, TL.tl_join, tl_T]
  have e : TL.tl (Str.ofString "") = [] := rfl
  rw [e]
  induction cs with
  | nil => rfl
  | cons c r ih =>
    cases r with
    | nil => rfl
    | cons d r =>
      show [c] ++ ([] ++ TL.joinL [] (((d :: r).map fun c => T [c]).map TL.tl)) = c :: d :: r
      rw [ih]
      rfl
theorem abc : TL.tl (Str.ofString "abcdefghijklmnopqrstuvwxyz") = (List.range 26).map (97 + ·) := by decide +kernel
theorem abc_at {j : Nat} (h : j < 26) : atI (Str.ofString "abcdefghijklmnopqrstuvwxyz").cps.toList (j : Int) = some (97 + j) := by
  refine atI_nat ?_
  show (TL.tl (Str.ofString "abcdefghijklmnopqrstuvwxyz"))[j]? = _
  rw [abc, List.getElem?_map, List.getElem?_range h]
  rfl
theorem mod26 (i : Int) : ∃ j : Nat, i.fmod 26 = (j : Int) ∧ j < 26 := by
  refine ⟨(i % 26).toNat, ?_, ?_⟩
  · rw [Int.fmod_eq_emod_of_nonneg _ (by decide)]
    omega
  · omega
theorem mod6 (i : Int) : ∃ j : Nat, i.fmod 6 = (j : Int) ∧ j < 6 := by
  refine ⟨(i % 6).toNat, ?_, ?_⟩
  · rw [Int.fmod_eq_emod_of_nonneg _ (by decide)]
    omega
  · omega
theorem all_app {a b : List Nat} (h1 : a.all az = true) (h2 : b.all az = true) : (a ++ b).all az = true := by
  rw [List.all_append, h1, h2]
  rfl
theorem all_rev {a : List Nat} (h1 : a.all az = true) : a.reverse.all az = true := by
  rw [List.all_reverse]
  exact h1
theorem all_rep {a : List Nat} (h1 : a.all az = true) : ∀ n, (List.replicate n a).flatten.all az = true
  | 0 => rfl
  | n + 1 => by
    rw [List.replicate_succ, List.flatten_cons]
    exact all_app h1 (all_rep h1 n)
theorem same_upd {H : Hp} {p : Addr} {o : HO} (h : H p = none) : Same H (upd H p o) := fun b x e => by
  rw [upd_ne (ne_of_none e h)]
  exact e

theorem cut_to (l : List Nat) (k : Nat) : cutS (T l) none (some (k : Int)) = T (l.take k) := by
  rw [cutS_T, HT.sIx_none, HT.sIx_nat, List.drop_zero, Nat.sub_zero]
  congr 1
  by_cases h : k ≤ l.length
  · rw [Nat.min_eq_left h]
  · rw [Nat.min_eq_right (by omega), List.take_of_length_le (Nat.le_refl _), List.take_of_length_le (by omega)]
theorem half_of (n : Nat) : ((n : Int)).fdiv 2 = ((n / 2 : Nat) : Int) := by
  rw [Int.fdiv_eq_ediv_of_nonneg _ (by decide)]
  omega
theorem all_take {l : List Nat} (h : l.all az = true) (k : Nat) : (l.take k).all az = true := by
  rw [List.all_eq_true] at h ⊢
  exact fun c hc => h c (List.mem_of_mem_take hc)

abbrev nText : List Str := ["_law_script", "_law_first", "_law_most", "_law_way", "_law_many", "_law_letters", "_law_start", "_law_word", "_law_half", "_law_cell"]
theorem scText : FnScope nText ["_law_script", "_law_first", "_law_most"] (defScope sText) := ⟨rfl, rfl, rfl, by decide +kernel, rfl, by decide +kernel, by decide +kernel⟩
def spText (K : PySem.W.Frag) : Sp := fun vs H Q _ => ∃ (a : Addr) (ns : List Int) (i n : Nat), vs = [.ref a, .int (i : Int), .int (n : Int)] ∧ SqL K H a (ns.map V.int) ∧ n ≤ 100 ∧
  ∀ H' l, Same H H' → l.all az = true → l.length ≤ n + 1 → Q (.str (T l)) H'
section
variable {Pr : Program} {w : World} {K : PySem.W.Frag} {mg : Str → Option Value} {base : Heap} {fD : Addr} {dD : FuncData}
theorem ok_text {f : Addr} {fd : FuncData} (F : Fun K "_law_text" "_law_text" sText f fd) (FD : Fn Pr w K mg base CX0 1 "_law_draw" fD dD ["_law_script", "_law_k"] (spDraw K)) (ml : mg "len" = none) :
    FnOk Pr w K mg base CX0 2 f fd ["_law_script", "_law_first", "_law_most"] (spText K) := by
  refine F.ok scText (fun vs H Q E h => ?_) (fun cdv A outer s H vs Q E hr h => ?_)
  · obtain ⟨a, ns, i, n, rfl, _⟩ := h
    rfl
  · obtain ⟨a, ns, i, n, rfl, hS, hn, q⟩ := h
    refine ⟨_, pss_cons (ps_set (i := 3) scText.nd rfl (.inl rfl) (pe_op op_modN (pe_call FD.ok hr (by rfl) FD.g FD.k FD.b .nil pass0 (pa_cons (pv 0) (pa_cons pe_int pa_nil))) pe_int)) <|
      pss_cons (ps_set (i := 4) scText.nd rfl (.inr rfl) (pe_ix ix_list (pe_lst (pa_cons pe_int (pa_cons pe_int (pa_cons pe_int (pa_cons pe_int (pa_cons pe_int (pa_cons pe_int pa_nil)))))))
          (pe_op op_modN (pe_op op_fdivN (pe_call FD.ok hr (by rfl) FD.g FD.k FD.b .nil pass0 (pa_cons (pv 0) (pa_cons pe_int pa_nil))) pe_int) pe_int) (fun _ _ => rfl))) <|
      pss_cons (ps_set (i := 5) scText.nd rfl (.inr rfl) pe_str) <|
      pss_cons (ps_set (i := 6) scText.nd rfl (.inr rfl) (pe_op op_modN (pe_op op_fdivN (pe_call FD.ok hr (by rfl) FD.g FD.k FD.b .nil pass0 (pa_cons (pv 0) (pa_cons pe_int pa_nil))) pe_int) pe_int)) <|
      pss_cons (ps_set (i := 7) scText.nd rfl (.inl rfl) (pe_join pe_str (pe_lc (own := [("_law_cell", 9)]) (g := gName 9) (tt := tYes) rfl scText.nd
          (pi_list (pe_slice sl_list (pv 0) (po_some (pv 1)) (po_some (pe_op op_add (pv 1) (pv 2))))) (blkOk_by (own := [("_law_cell", 9)]) (N := nText) (sc := defScope sText) (by decide +kernel))
          (fun _ _ _ _ _ => pg_name (i := 9) scText.nd rfl (Or.inl rfl)) (fun _ _ _ _ _ => pts_nil)
          (fun _ _ _ _ _ => pe_ix ix_str (pv 5) (pe_op op_modN (pe_op op_add (pv 6) (pe_op op_modN (pe_op op_fdivN (pv 9) pe_int) (pv 4))) pe_int) (fun _ _ => rfl))))) <|
      pss_cons (ps_set (i := 8) scText.nd rfl (.inl rfl) (pe_slice sl_str (pv 7) po_none (po_some (pe_op op_fdivN (pe_callB call_len_str (by rfl) ml PySem.boot_len (pa_cons (pv 7) pa_nil)) pe_int)))) <|
      pss_cons (ps_if (pt_cmpR op_eq (pv 3) pe_int (nomark _)) (pss_one (ps_ret (pe_op op_add_str (pv 8) (pv 8)))) pss_nil) <|
      pss_cons (ps_if (pt_cmpR op_eq (pv 3) pe_int (nomark _)) (pss_one (ps_ret (pe_op op_add_str (pv 8) (pe_revS (pv 8))))) pss_nil) <|
      pss_cons (ps_if (pt_cmpR op_eq (pv 3) pe_int (nomark _)) (pss_one (ps_ret (pe_op op_add_str (pe_op op_add_str (pv 8) (pe_slice sl_str (pv 7) (po_some (pe_callB call_len_str (by rfl) ml PySem.boot_len (pa_cons (pv 8) pa_nil)))
          (po_some (pe_op op_add (pe_callB call_len_str (by rfl) ml PySem.boot_len (pa_cons (pv 8) pa_nil)) pe_int)))) (pe_revS (pv 8))))) pss_nil) <|
      pss_cons (ps_if (pt_cmpR op_eq (pv 3) pe_int (nomark _)) (pss_one (ps_ret (pe_slice sl_str (pe_op op_repS (pe_slice sl_str (pv 7) po_none (po_some (pe_op op_add pe_int (pe_op op_fdivN (pe_callB call_len_str (by rfl) ml PySem.boot_len (pa_cons (pv 7) pa_nil)) pe_int)))) pe_int)
          po_none (po_some (pe_callB call_len_str (by rfl) ml PySem.boot_len (pa_cons (pv 7) pa_nil)))))) pss_nil) <|
      pss_one (ps_ret (pv 7)), ?_⟩
    -- way, many
    obtain ⟨j6, e6, h6⟩ := mod6 ((ns.getD 0 0).fdiv 6)
    obtain ⟨s26, es, hs26⟩ := mod26 ((ns.getD 0 0).fdiv 36)
    refine ⟨_, rfl, a, ns, 0, rfl, hS, _, 6, rfl, rfl, show (6 : Int) ≠ 0 by decide, ?_⟩
    refine ⟨by decide, fun p0 hp0 => ?_⟩
    have s0 : Same H (upd H p0 (.lst [.int 1, .int 2, .int 2, .int 3, .int 26, .int 2])) := same_upd hp0
    refine ⟨_, rfl, a, ns, 0, rfl, s0.seq hS, _, 6, rfl, rfl, ⟨by decide, by decide⟩, _, 6, rfl, rfl, show (6 : Int) ≠ 0 by decide, ?_⟩
    have hmany : ∃ mv : Int, atI ([.int 1, .int 2, .int 2, .int 3, .int 26, .int 2] : List V) (((ns.getD 0 0).fdiv 6).fmod 6) = some (.int mv) ∧ mv ≠ 0 := by
      rw [e6]
      match j6, h6 with
      | 0, _ => exact ⟨1, atI_nat rfl, by decide⟩
      | 1, _ => exact ⟨2, atI_nat rfl, by decide⟩
      | 2, _ => exact ⟨2, atI_nat rfl, by decide⟩
      | 3, _ => exact ⟨3, atI_nat rfl, by decide⟩
      | 4, _ => exact ⟨26, atI_nat rfl, by decide⟩
      | 5, _ => exact ⟨2, atI_nat rfl, by decide⟩
    obtain ⟨mv, hmv, hm0⟩ := hmany
    refine ⟨p0, _, _, .int mv, rfl, rfl, .inl (.inl upd_same), hmv, ?_⟩
    -- start
    refine ⟨_, rfl, a, ns, 0, rfl, s0.seq hS, _, 36, rfl, rfl, ⟨by decide, by decide⟩, _, 26, rfl, rfl, show (26 : Int) ≠ 0 by decide, ?_⟩
    -- word
    refine ⟨⟨_, rfl⟩, _, rfl, _, rfl, _, rfl, _, rfl, _, rfl, _, _, rfl, rfl, _, rfl, a, _, rfl, s0.seq hS, fun p1 hp1 => ?_⟩
    obtain ⟨ms, hms⟩ := cut_map ns (some (i : Int)) (some ((i : Int) + (n : Int)))
    have lms : ms.length ≤ n := by
      have z := cut_len (ns.map V.int) i n
      rw [hms, List.length_map] at z
      exact z
    have s1 : Same H (upd (upd H p0 (.lst [.int 1, .int 2, .int 2, .int 3, .int 26, .int 2])) p1 (.lst (ms.map V.int))) := s0.trans (same_upd hp1)
    rw [hms]
    refine ⟨p1, rfl, ⟨_, .inl (.inl upd_same)⟩, fun D hD => ?_⟩
    generalize hH1 : upd (upd H p0 (.lst [.int 1, .int 2, .int 2, .int 3, .int 26, .int 2])) p1 (.lst (ms.map V.int)) = H1 at *
    have q1 : H1 p1 = some (.lst (ms.map V.int)) := by
      rw [← hH1]
      exact upd_same
    have D1 : D ≠ p1 := (ne_of_none q1 hD).symm
    refine lc_list (K := K) (a := p1) (xs := ms.map V.int) (fun i H' => Same H H' ∧ H' p1 = some (.lst (ms.map V.int)) ∧ ∃ cs : List Nat, cs.length = i ∧ cs.all az = true ∧ H' D = some (.lst (cs.map fun c => V.str (T [c]))))
      ⟨s1.trans (same_upd hD), by rw [upd_ne D1.symm]; exact q1, [], rfl, rfl, upd_same⟩ (fun i H' _ hW => .inl (.inl hW.2.1)) (fun i x H' hx hW => ?_) (fun H' hW => ?_)
    · obtain ⟨sm, hp, cs, hcl, hca, hD'⟩ := hW
      obtain ⟨z, rfl⟩ : ∃ z, x = .int z := by
        rw [List.getElem?_map] at hx
        cases e : ms[i]? with
        | none =>
          rw [e] at hx
          cases hx
        | some z =>
          rw [e] at hx
          exact ⟨z, (Option.some.inj hx).symm⟩
      obtain ⟨jx, ejx, hjx⟩ := mod26 (((ns.getD 0 0).fdiv 36).fmod 26 + (z.fdiv 5).fmod mv)
      have hi : i < ms.length := by
        have := (List.getElem?_eq_some_iff.mp hx).1
        rw [List.length_map] at this
        exact this
      refine ⟨rfl, ?_⟩
      have at1 : atI (Str.ofString "abcdefghijklmnopqrstuvwxyz").cps.toList ((((ns.getD 0 0).fdiv 36).fmod 26 + (z.fdiv 5).fmod mv).fmod 26) = some (97 + jx) := by
        rw [ejx]
        exact abc_at hjx
      refine ⟨_, rfl, _, rfl, _, rfl, _, 5, rfl, rfl, ⟨by decide, by decide⟩, _, rfl, _, mv, rfl, rfl, hm0, _, _, rfl, rfl, _, 26, rfl, rfl, show (26 : Int) ≠ 0 by decide, _, _, 97 + jx, rfl, rfl, by decide, at1, ?_⟩
      have HD : H D = none := s1.free hD
      refine ⟨_, hD', by rw [List.length_map, hcl]; exact small1000 (by omega), fun b u e => ?_, ?_, cs ++ [97 + jx], ?_, ?_, ?_⟩
      · rw [upd_ne (ne_of_none e HD)]
        exact sm b u e
      · rw [upd_ne D1.symm]
        exact hp
      · rw [List.length_append, hcl]
        rfl
      · refine all_app hca ?_
        show (az (97 + jx) && true) = true
        unfold az
        rw [decide_eq_true (by omega), decide_eq_true (by omega)]
        rfl
      · rw [upd_same, List.map_append]
        rfl
    · obtain ⟨sm, hp, cs, hcl, hca, hD'⟩ := hW
      have lcs : cs.length ≤ n := by
        rw [hcl, List.length_map]
        exact lms
      have sq : SqL K H' D ((cs.map fun c => T [c]).map V.str) := by
        rw [List.map_map]
        exact .inl (.inl hD')
      refine ⟨_, D, _, rfl, rfl, .inl sq, ?_, ?_⟩
      · have e0 : ∀ l : List Nat, ((l.map fun c => T [c]).map (·.length)).sum = l.length := fun l => by
          induction l with
          | nil => rfl
          | cons c r ih =>
            show (T [c]).length + (((r.map fun c => T [c]).map (·.length)).sum) = r.length + 1
            rw [ih, T_len]
            show 1 + r.length = r.length + 1
            omega
        rw [e0, List.length_map]
        show cs.length + cs.length * 0 ≤ 16777216
        omega
      rw [join_signs]
      have hcz : cs.length ≤ sizeLine := Nat.le_of_lt (small1000 (by omega))
      -- half
      have hcT : (T cs).length ≤ sizeLine := by
        rw [T_len]
        exact hcz
      refine ⟨_, rfl, _, rfl, T cs, rfl, hcT, _, 2, rfl, rfl, ⟨by decide, by decide⟩, _, rfl, T cs, rfl, hcT, ?_⟩
      rw [T_len, half_of, cut_to]
      have hh : (cs.take (cs.length / 2)).length = cs.length / 2 := by
        rw [List.length_take]
        omega
      have ha := all_take hca (cs.length / 2)
      generalize cs.take (cs.length / 2) = hf at hh ha
      have hfT : (T hf).length ≤ sizeLine := by
        rw [T_len]
        omega
      have fits : ∀ a b : List Nat, a.length + b.length ≤ 300 → (T a).length + (T b).length ≤ sizeLine := fun a b h => by
        rw [T_len, T_len]
        exact Nat.le_of_lt (small1000 (by omega))
      -- way 1
      refine ⟨_, rfl, rfl, _, rfl, ite2 (fun _ => ?_) (fun _ => ?_)⟩
      · refine ⟨_, rfl, _, rfl, _, _, rfl, rfl, fits hf hf (by omega), ?_⟩
        have z := q H' (hf ++ hf) sm (all_app ha ha) (by rw [List.length_append]; omega)
        rw [← T_app] at z
        exact z
      -- way 2
      refine ⟨_, rfl, rfl, _, rfl, ite2 (fun _ => ?_) (fun _ => ?_)⟩
      · refine ⟨_, rfl, _, rfl, hf, rfl, by omega, _, _, rfl, rfl, fits hf hf.reverse (by rw [List.length_reverse]; omega), ?_⟩
        have z := q H' (hf ++ hf.reverse) sm (all_app ha (all_rev ha)) (by rw [List.length_append, List.length_reverse]; omega)
        rw [← T_app] at z
        exact z
      -- way 3
      refine ⟨_, rfl, rfl, _, rfl, ite2 (fun _ => ?_) (fun _ => ?_)⟩
      · obtain ⟨m1, em, ham, _⟩ := cutS_all hca (some ((T hf).length : Int)) (some (((T hf).length : Int) + 1))
        have lm : m1.length ≤ 1 := by
          have e := cutS_T cs (some ((T hf).length : Int)) (some (((T hf).length : Int) + 1))
          rw [em] at e
          have e1 := T_inj e
          have e2 : (((T hf).length : Int) + 1) = (((T hf).length + 1 : Nat) : Int) := by omega
          rw [e1, e2, HT.sIx_nat, HT.sIx_nat, List.length_take]
          omega
        refine ⟨_, rfl, _, rfl, _, rfl, T hf, rfl, hfT, _, rfl, _, rfl, T hf, rfl, hfT, _, 1, rfl, rfl, _, rfl, T cs, rfl, hcT, ?_⟩
        rw [em]
        refine ⟨_, _, rfl, rfl, fits hf m1 (by omega), _, rfl, hf, rfl, by omega, ?_⟩
        rw [T_app]
        refine ⟨_, _, rfl, rfl, fits (hf ++ m1) hf.reverse (by rw [List.length_append, List.length_reverse]; omega), ?_⟩
        have z := q H' (hf ++ m1 ++ hf.reverse) sm (all_app (all_app ha ham) (all_rev ha)) (by rw [List.length_append, List.length_append, List.length_reverse]; omega)
        rw [← T_app] at z
        exact z
      -- way 4
      refine ⟨_, rfl, rfl, _, rfl, ite2 (fun _ => ?_) (fun _ => ?_)⟩
      · obtain ⟨m1, em, ham, lm⟩ := cutS_all hca none (some (1 + ((T cs).length : Int).fdiv 5))
        refine ⟨_, rfl, _, rfl, T cs, rfl, hcT, _, 5, rfl, rfl, ⟨by decide, by decide⟩, 1, _, rfl, rfl, _, rfl, T cs, rfl, hcT, ?_⟩
        rw [em]
        have l5 : (List.replicate 5 m1).flatten.length = m1.length * 5 := by
          show (m1 ++ (m1 ++ (m1 ++ (m1 ++ (m1 ++ []))))).length = _
          simp only [List.length_append, List.length_nil]
          omega
        have s5 : (T (List.replicate 5 m1).flatten).length ≤ sizeLine := by
          rw [T_len, l5]
          exact Nat.le_of_lt (small1000 (by omega))
        refine ⟨m1, 5, rfl, rfl, by decide, Nat.le_of_lt (small1000 (by omega)), by decide, _, rfl, T cs, rfl, hcT, _, rfl, _, rfl, s5, ?_⟩
        have z := q H' ((List.replicate 5 m1).flatten.take cs.length) sm (all_take (all_rep ham 5) _) (by rw [List.length_take]; omega)
        rw [← cut_to] at z
        rw [T_len]
        exact z
      -- as it is
      · exact ⟨_, rfl, q H' cs sm hca (by omega)⟩
end
end Mw
namespace Mw
open PySem PySem.Spec PyProof.Rows L2

/-! ### mirror words -/
def isM : V → Bool
  | .str z => isT (.str z) && (decide (0 < z.length) && decide (TL.tl z = (TL.tl z).reverse))
  | _ => false
def pal (l : List Nat) : Bool := decide (l = l.reverse)
theorem isM_T (l : List Nat) : isM (.str (T l)) = (isT (.str (T l)) && (decide (0 < l.length) && pal l)) := by
  show (isT (.str (T l)) && (decide (0 < (T l).length) && decide (l = l.reverse))) = _
  rw [T_len]
  rfl
theorem isM_isT {x : V} (h : isM x = true) : isT x = true := by
  cases x with
  | str z => exact ((Bool.and_eq_true _ _).mp h).1
  | _ => cases h
theorem isT_le {l : List Nat} (h : isT (.str (T l)) = true) : l.length ≤ 200 := by
  have z1 := of_decide_eq_true ((Bool.and_eq_true _ _).mp h).1
  rw [T_len] at z1
  exact z1
theorem isT_all {l : List Nat} (h : isT (.str (T l)) = true) : l.all az = true := ((Bool.and_eq_true _ _).mp h).2
theorem isT_mk {l : List Nat} (h : l.all az = true) (hl : l.length ≤ 200) : isT (.str (T l)) = true := by
  show (decide ((T l).length ≤ 200) && l.all az) = true
  rw [T_len, decide_eq_true hl, h]
  rfl
theorem isM_some {x : V} (h : isM x = true) : ∃ l, x = .str (T l) ∧ l.length ≤ 200 ∧ 0 < l.length ∧ pal l = true ∧ l.all az = true := by
  cases x with
  | str z =>
    have ht := isM_isT h
    have e : z = T (TL.tl z) := (T_tl z).symm
    rw [e] at h ht
    refine ⟨TL.tl z, by rw [← e], isT_le ht, ?_⟩
    rw [isM_T, Bool.and_eq_true, Bool.and_eq_true] at h
    exact ⟨of_decide_eq_true h.2.1, h.2.2, isT_all ht⟩
  | _ => cases h

def sV (l : List Nat) : V := .str (T l)
/-- the mirror words at the end of l that begin ahead of i, the longest first -/
def endsN (l : List Nat) (i : Nat) : List (List Nat) := ((List.range i).map fun j => l.drop j).filter pal
theorem endsN_succ (l : List Nat) (i : Nat) : endsN l (i + 1) = endsN l i ++ if pal (l.drop i) = true then [l.drop i] else [] := by
  unfold endsN
  rw [List.range_succ, List.map_append, List.filter_append]
  congr 1
  by_cases h : pal (l.drop i) = true
  · rw [if_pos h, List.map_singleton, List.filter_cons_of_pos h]
    rfl
  · rw [if_neg h, List.map_singleton, List.filter_cons_of_neg h]
    rfl
theorem endsN_len (l : List Nat) (i : Nat) : (endsN l i).length ≤ i := by
  unfold endsN
  refine Nat.le_trans (List.length_filter_le _ _) ?_
  rw [List.length_map, List.length_range]
  exact Nat.le_refl _
theorem endsN_head {l : List Nat} (h : pal l = true) : ∀ i, 0 < i → ∃ r, endsN l i = l :: r
  | 0, z => absurd z (Nat.lt_irrefl _)
  | 1, _ => ⟨[], by
      rw [endsN_succ]
      show [] ++ (if pal (l.drop 0) = true then [l.drop 0] else []) = [l]
      rw [List.drop_zero, if_pos h]
      rfl⟩
  | i + 2, _ => by
    obtain ⟨r, e⟩ := endsN_head h (i + 1) (Nat.succ_pos _)
    rw [endsN_succ, e]
    exact ⟨_, rfl⟩
def tailL (l : List Nat) : List Nat := (endsN l l.length ++ [[]]).getD 1 []
theorem cut_from (l : List Nat) (i : Nat) : cutS (T l) (some (i : Int)) none = T (l.drop i) := by
  rw [cutS_T, HT.sIx_none, HT.sIx_nat]
  congr 1
  by_cases h : i ≤ l.length
  · rw [Nat.min_eq_left h]
    exact List.take_of_length_le (by rw [List.length_drop]; exact Nat.le_refl _)
  · rw [Nat.min_eq_right (by omega), Nat.sub_self, List.take_zero, List.drop_eq_nil_of_le (by omega)]

theorem scAlike : FnScope ["text"] ["text"] (defScope sAlike) := ⟨rfl, rfl, rfl, by decide +kernel, rfl, by decide +kernel, by decide +kernel⟩
theorem scMir : FnScope ["thing"] ["thing"] (defScope sMir) := ⟨rfl, rfl, rfl, by decide +kernel, rfl, by decide +kernel, by decide +kernel⟩
theorem scNoM : FnScope ["word"] ["word"] (defScope sNoM) := ⟨rfl, rfl, rfl, by decide +kernel, rfl, by decide +kernel, by decide +kernel⟩
theorem scInner : FnScope ["word"] ["word"] (defScope sInner) := ⟨rfl, rfl, rfl, by decide +kernel, rfl, by decide +kernel, by decide +kernel⟩
theorem scChain : FnScope ["word", "start"] ["word"] (defScope sChain) := ⟨rfl, rfl, rfl, by decide +kernel, rfl, by decide +kernel, by decide +kernel⟩
theorem scTail : FnScope ["word", "ends"] ["word"] (defScope sTail) := ⟨rfl, rfl, rfl, by decide +kernel, rfl, by decide +kernel, by decide +kernel⟩
def spAlike : Sp := fun vs H Q _ => ∃ l : List Nat, vs = [.str (T l)] ∧ l.length ≤ sizeLine ∧ Q (.bl (pal l)) H
def spMir (K : PySem.W.Frag) (P : Addr) : Sp := fun vs H Q _ => ∃ x, vs = [x] ∧ GxR.TabG H P ∧ Thing K H x ∧ ∀ H', GxR.Tabbed P H H' → Q (.bl (isM x)) H'
def spNoM (K : PySem.W.Frag) (P BW : Addr) : Sp := fun vs H Q E => ∃ x, vs = [x] ∧ GxR.TabG H P ∧ Thing K H x ∧ (isM x = false → ∀ H', GxR.Tabbed P H H' → E (.ref BW) none H') ∧ (isM x = true → ∀ H', GxR.Tabbed P H H' → Q .non H')
def spInner (K : PySem.W.Frag) (P BW : Addr) : Sp := fun vs H Q E => ∃ x, vs = [x] ∧ GxR.TabG H P ∧ Thing K H x ∧ (isM x = false → ∀ H', GxR.Tabbed P H H' → E (.ref BW) none H') ∧
  (isM x = true → ∀ l, x = .str (T l) → ∀ H', GxR.Tabbed P H H' → Q (.str (cutS (T l) (some 1) (some (-1)))) H')
def spChain (K : PySem.W.Frag) (P BW : Addr) : Sp := fun vs H Q E => ∃ x, vs = [x] ∧ GxR.TabG H P ∧ Thing K H x ∧ (isM x = false → ∀ H', GxR.Tabbed P H H' → E (.ref BW) none H') ∧
  (isM x = true → ∀ l, x = .str (T l) → ∀ H' p, Kp P H H' → H p = none → H' p = some (.lst ((endsN l l.length).map sV)) → Q (.ref p) H')
def spTail (K : PySem.W.Frag) (P BW : Addr) : Sp := fun vs H Q E => ∃ x, vs = [x] ∧ GxR.TabG H P ∧ Thing K H x ∧ (isM x = false → ∀ H', GxR.Tabbed P H H' → E (.ref BW) none H') ∧
  (isM x = true → ∀ l, x = .str (T l) → ∀ H', Kp P H H' → Q (.str (T (tailL l))) H')
section
variable {Pr : Program} {w : World} {K : PySem.W.Frag} {mg : Str → Option Value} {base : Heap} {P BW fI fA fM fN fC : Addr} {dI dA dM dN dC : FuncData}
theorem ok_alike {f : Addr} {fd : FuncData} (F : Fun K "reads_alike" "reads_alike" sAlike f fd) : FnOk Pr w K mg base CX0 1 f fd ["text"] spAlike := by
  refine F.ok scAlike (fun vs H Q E h => ?_) (fun cdv A outer s H vs Q E hr h => ?_)
  · obtain ⟨l, rfl, _⟩ := h
    rfl
  · obtain ⟨l, rfl, hl, q⟩ := h
    refine ⟨_, pss_one (ps_ret (pe_cmpR op_eq (pv 0) (pe_revS (pv 0)) (nomark _))), _, rfl, _, rfl, l, rfl, hl, rfl, ?_⟩
    rw [T_dec]
    exact q
theorem ok_mir {f : Addr} {fd : FuncData} (F : Fun K "is_mirror" "is_mirror" sMir f fd) (FI : Fn Pr w K mg base CX0 1 "is_text" fI dI ["thing"] (spIs K P)) (FA : Fn Pr w K mg base CX0 1 "reads_alike" fA dA ["text"] spAlike) (ml : mg "len" = none) :
    FnOk Pr w K mg base CX0 2 f fd ["thing"] (spMir K P) := by
  refine F.ok scMir (fun vs H Q E h => ?_) (fun cdv A outer s H vs Q E hr h => ?_)
  · obtain ⟨x, rfl, _⟩ := h
    rfl
  · obtain ⟨x, rfl, tab, th, q⟩ := h
    refine ⟨_, pss_one (ps_ret (pe_and (pe_call FI.ok hr (by rfl) FI.g FI.k FI.b .nil pass0 (pa_cons (pv 0) pa_nil)) (pe_and (pe_cmpR op_gt (pe_callB call_len_str (by rfl) ml PySem.boot_len (pa_cons (pv 0) pa_nil)) pe_int (nomark _))
      (pe_one (pe_call FA.ok hr (by rfl) FA.g FA.k FA.b .nil pass0 (pa_cons (pv 0) pa_nil)))))), ?_⟩
    refine ⟨x, rfl, x, rfl, tab, th, fun H1 hT => ⟨isT x, rfl, ?_⟩⟩
    have z := q H1 hT
    cases e : isT x with
    | false =>
      have e2 : isM x = false := by
        cases c : isM x with
        | false => rfl
        | true =>
          rw [isM_isT c] at e
          cases e
      rw [e2] at z
      exact iteF z
    | true =>
      cases th with
      | other _ _ no =>
        rw [no] at e
        cases e
      | text l hl =>
        rw [isM_T, e, Bool.true_and] at z
        refine iteT ⟨_, rfl, T l, rfl, by rw [T_len]; exact hl, _, 0, rfl, rfl, _, rfl, ?_⟩
        by_cases c : 0 < l.length
        · rw [decide_eq_true c, Bool.true_and] at z
          rw [decide_eq_true (show (0 : Int) < ((T l).length : Int) by rw [T_len]; omega)]
          exact iteT ⟨_, rfl, l, rfl, hl, z⟩
        · rw [decide_eq_false c, Bool.false_and] at z
          rw [decide_eq_false (show ¬ (0 : Int) < ((T l).length : Int) by rw [T_len]; omega)]
          exact iteF z
theorem ok_nom {f : Addr} {fd : FuncData} (F : Fun K "refuse_no_mirror" "refuse_no_mirror" sNoM f fd) (FM : Fn Pr w K mg base CX0 2 "is_mirror" fM dM ["thing"] (spMir K P)) (EB : ErrC K mg "BadWord" BW) :
    FnOk Pr w K mg base (L2.CX Pr w) 3 f fd ["word"] (spNoM K P BW) := by
  refine F.okX scNoM (fun vs H Q E h => ?_) (fun cdv A outer s H vs Q E hr h => ?_)
  · obtain ⟨x, rfl, _⟩ := h
    rfl
  · obtain ⟨x, rfl, tab, th, qE, q⟩ := h
    refine ⟨_, pss_one (ps_if (pt_not (pt_val (pe_call FM.ok hr (by rfl) FM.g FM.k FM.b .nil pass0 (pa_cons (pv 0) pa_nil))))
        (pss_one (ps_raise rfl (takes_of rfl rfl rfl rfl) (pmk_own PySem.F.excBase_ValueError EB.x EB.g EB.k (raises_own EB.b EB.t) (by rfl)))) pss_nil), ?_⟩
    refine ⟨_, rfl, x, rfl, tab, th, fun H1 hT => ⟨isM x, rfl, ?_⟩⟩
    cases e : isM x with
    | false => exact iteT (qE e H1 hT)
    | true => exact iteF (q e H1 hT)
theorem ok_inner {f : Addr} {fd : FuncData} (F : Fun K "inner" "inner" sInner f fd) (FN : Fn Pr w K mg base (L2.CX Pr w) 3 "refuse_no_mirror" fN dN ["word"] (spNoM K P BW)) : FnOk Pr w K mg base (L2.CX Pr w) 4 f fd ["word"] (spInner K P BW) := by
  refine F.okX scInner (fun vs H Q E h => ?_) (fun cdv A outer s H vs Q E hr h => ?_)
  · obtain ⟨x, rfl, _⟩ := h
    rfl
  · obtain ⟨x, rfl, tab, th, qE, q⟩ := h
    refine ⟨_, pss_cons (ps_expr (pe_call (E := E) FN.ok hr (by rfl) FN.g FN.k FN.b .nil (passes_call (takes_of rfl rfl rfl rfl) (fun _ _ _ _ h => h)) (pa_cons (pv 0) pa_nil))) <|
      pss_one (ps_ret (pe_slice sl_str (pv 0) (po_some pe_int) (po_some (pe_un un_neg pe_int)))), ?_⟩
    refine ⟨_, rfl, x, rfl, tab, th, qE, fun e H1 hT => ?_⟩
    obtain ⟨l, rfl, hl, _⟩ := isM_some e
    exact ⟨_, rfl, 1, rfl, 1, rfl, -1, rfl, T l, rfl, by rw [T_len]; exact Nat.le_of_lt (small1000 (by omega)), q e l rfl H1 hT⟩
theorem ok_chain {f : Addr} {fd : FuncData} (F : Fun K "chain" "chain" sChain f fd) (FN : Fn Pr w K mg base (L2.CX Pr w) 3 "refuse_no_mirror" fN dN ["word"] (spNoM K P BW)) (FA : Fn Pr w K mg base CX0 1 "reads_alike" fA dA ["text"] spAlike)
    (ml : mg "len" = none) (mr : mg "range" = none) : FnOk Pr w K mg base (L2.CX Pr w) 4 f fd ["word"] (spChain K P BW) := by
  refine F.okX scChain (fun vs H Q E h => ?_) (fun cdv A outer s H vs Q E hr h => ?_)
  · obtain ⟨x, rfl, _⟩ := h
    rfl
  · obtain ⟨x, rfl, tab, th, qE, q⟩ := h
    refine ⟨_, pss_cons (ps_expr (pe_call (E := E) FN.ok hr (by rfl) FN.g FN.k FN.b .nil (passes_call (takes_of rfl rfl rfl rfl) (fun _ _ _ _ h => h)) (pa_cons (pv 0) pa_nil))) <|
      pss_one (ps_ret (pe_lc (own := [("start", 1)]) (g := gName 1) rfl scChain.nd (pi_range1 (by rfl) mr (pa_cons (pe_callB call_len_str (by rfl) ml PySem.boot_len (pa_cons (pv 0) pa_nil)) pa_nil))
        (blkOk_by (own := [("start", 1)]) (N := ["word", "start"]) (sc := defScope sChain) (by decide +kernel)) (fun _ _ _ _ _ => pg_name (i := 1) scChain.nd rfl (Or.inl rfl))
        (fun _ _ _ _ _ => pts_one (pt_val (pe_call FA.ok (hr.mono (by decide)) (by rfl) FA.g FA.k FA.b .nil pass0 (pa_cons (pe_slice sl_str (pv 0) (po_some (pv 1)) po_none) pa_nil))))
        (fun _ _ _ _ _ => pe_slice sl_str (pv 0) (po_some (pv 1)) po_none))), ?_⟩
    refine ⟨_, rfl, x, rfl, tab, th, qE, fun e H1 hT => ?_⟩
    obtain ⟨l, rfl, hl, _⟩ := isM_some e
    have hlT : (T l).length ≤ sizeLine := by
      rw [T_len]
      exact Nat.le_of_lt (small1000 (by omega))
    have kp1 : Kp P H H1 := .tabbed hT
    refine ⟨_, rfl, T l, rfl, hlT, _, rfl, by rw [T_len]; omega, by rw [T_len]; omega, fun D hD => ?_⟩
    have hDP : D ≠ P := new_ne kp1.tab hD
    have H0 : H D = none := kp1.free tab hD
    have en : ((T l).length : Int).toNat = l.length := by rw [T_len]; omega
    refine lc_range (lo := 0) (n := ((T l).length : Int).toNat) (fun i H' => Kp P H H' ∧ H' D = some (.lst ((endsN l i).map sV))) ⟨kp1.step hD, upd_same⟩ (fun i H' hi hW => ?_) (fun H' hW => ?_)
    · obtain ⟨kp, hd⟩ := hW
      have ec : cutS (T l) (some (0 + (i : Int))) none = T (l.drop i) := by
        rw [Int.zero_add]
        exact cut_from l i
      refine ⟨rfl, _, rfl, _, rfl, _, rfl, T l, rfl, hlT, ?_⟩
      rw [ec]
      refine ⟨l.drop i, rfl, by rw [List.length_drop]; exact Nat.le_of_lt (small1000 (by omega)), pal (l.drop i), rfl, ?_⟩
      refine ite2 (fun c => ?_) (fun c => ?_)
      · refine ⟨_, rfl, _, rfl, _, rfl, T l, rfl, hlT, ?_⟩
        rw [ec]
        refine ⟨_, hd, ?_, kp.own H0 hDP, ?_⟩
        · rw [List.length_map]
          have := endsN_len l i
          exact small1000 (by omega)
        · rw [upd_same, endsN_succ, if_pos c, List.map_append]
          rfl
      · refine ⟨kp, ?_⟩
        rw [endsN_succ, if_neg c, List.append_nil]
        exact hd
    · obtain ⟨kp, hd⟩ := hW
      rw [en] at hd
      exact q e l rfl H' D kp H0 hd
theorem ok_tail {f : Addr} {fd : FuncData} (F : Fun K "tail" "tail" sTail f fd) (FC : Fn Pr w K mg base (L2.CX Pr w) 4 "chain" fC dC ["word"] (spChain K P BW)) (ml : mg "len" = none) : FnOk Pr w K mg base (L2.CX Pr w) 5 f fd ["word"] (spTail K P BW) := by
  refine F.okX scTail (fun vs H Q E h => ?_) (fun cdv A outer s H vs Q E hr h => ?_)
  · obtain ⟨x, rfl, _⟩ := h
    rfl
  · obtain ⟨x, rfl, tab, th, qE, q⟩ := h
    refine ⟨_, pss_cons (ps_set (i := 1) scTail.nd rfl (.inl rfl) (pe_call (E := E) FC.ok hr (by rfl) FC.g FC.k FC.b .nil (passes_call (takes_of rfl rfl rfl rfl) (fun _ _ _ _ h => h)) (pa_cons (pv 0) pa_nil))) <|
      pss_cons (ps_if (pt_cmpR op_eq (pe_callB call_len_seq (by rfl) ml PySem.boot_len (pa_cons (pv 1) pa_nil)) pe_int (nomark _)) (pss_one (ps_ret pe_str)) pss_nil) <|
      pss_one (ps_ret (pe_ix ix_list (pv 1) pe_int (fun _ _ => rfl))), ?_⟩
    refine ⟨_, rfl, x, rfl, tab, th, qE, fun e l el H1 p kp hp hd => ?_⟩
    obtain ⟨l2, e2, hl, hpos, hpal, _⟩ := isM_some e
    obtain rfl : l = l2 := T_inj (V.str.inj (el.symm.trans e2))
    obtain ⟨r, er⟩ := endsN_head hpal l.length hpos
    have z := q e l el H1 kp
    unfold tailL at z
    rw [er] at hd z
    refine ⟨_, rfl, p, _, rfl, .inl (.inl (.inl hd)), rfl, _, rfl, ?_⟩
    cases r with
    | nil => exact z
    | cons s r =>
      rw [decide_eq_false (show ¬ V.int ((((l :: s :: r).map sV).length : Nat) : Int) = V.int 1 from fun y => by
        have y1 := V.int.inj y
        rw [List.length_map, List.length_cons, List.length_cons] at y1
        omega)]
      exact iteF ⟨_, rfl, p, _, 1, sV s, rfl, rfl, .inl (.inl hd), atI_nat (j := 1) rfl, z⟩
end
end Mw
namespace Mw
open PySem PySem.Spec PyProof.Rows L2

/-! ### what is drawn: texts and other things -/
def asc (c : Nat) : Bool := decide (c < 128)
theorem az_asc {l : List Nat} (h : l.all az = true) : l.all asc = true := by
  rw [List.all_eq_true] at h ⊢
  intro c hc
  have z := h c hc
  unfold az at z
  rw [Bool.and_eq_true, decide_eq_true_eq, decide_eq_true_eq] at z
  exact decide_eq_true (by omega)
inductive LT (H : Hp) : V → Prop
  | text (l : List Nat) (h : l.length ≤ 300) (hc : l.all asc = true) : LT H (.str (T l))
  | non : LT H .non
  | int (i : Int) : LT H (.int i)
  | bl (b : Bool) : LT H (.bl b)
  | lst {a : Addr} {xs : List V} (h : H a = some (.lst xs)) : LT H (.ref a)
  | tup {a : Addr} {xs : List V} (h : H a = some (.tup xs)) : LT H (.ref a)
  | dK {a : Addr} {kvs : List (Key × V)} (h : H a = some (.dK kvs)) : LT H (.ref a)
theorem LT.thing {K : PySem.W.Frag} {H : Hp} {x : V} (t : LT H x) : Thing K H x := by
  cases t with
  | text l h hc => exact .text l (Nat.le_of_lt (small1000 (by omega)))
  | non => exact .other (.base .non) (by decide +kernel) rfl
  | int i => exact .other (.base (.int _)) (by decide +kernel) rfl
  | bl b => exact .other (.base (.bl _)) (by decide +kernel) rfl
  | lst h => exact .other (.base (.lst h)) (by decide +kernel) rfl
  | tup h => exact .other (.base (.tup h)) (by decide +kernel) rfl
  | dK h => exact .other (.base (.dK h)) (by decide +kernel) rfl
theorem LT.keep {P : Addr} {H H' : Hp} {x : V} (t : LT H x) (kp : Kp P H H') (tab : GxR.TabG H P) : LT H' x := by
  cases t with
  | text l h hc => exact .text l h hc
  | non => exact .non
  | int i => exact .int i
  | bl b => exact .bl b
  | lst h => exact .lst (kp.lst tab h)
  | tup h => exact .tup (kp.keep _ _ (tab_ne tab h fun _ z => by cases z) h)
  | dK h => exact .dK (kp.keep _ _ (tab_ne tab h fun _ z => by cases z) h)
theorem LT.str {H : Hp} (z : Str) (h : z.length ≤ 300) (hc : (TL.tl z).all asc = true) : LT H (.str z) := by
  have e : LT H (.str (T (TL.tl z))) := .text _ (by rw [← TL.len_tl]; exact h) hc
  rw [T_tl] at e
  exact e
def odds (p1 p2 p3 : Addr) : List V := [.str "", .str "A", .str "aBa", .str "a a", .str "a-a", .str "\n", .non, .int 5, .bl true, .ref p1, .ref p2, .ref p3, .str (T (List.replicate 201 [97]).flatten), .str (T (List.replicate 67 [97, 98, 97]).flatten), .str "a1a", .int 97]
theorem odd_at {H : Hp} {p1 p2 p3 : Addr} {xs ys : List V} {kvs : List (Key × V)} (h1 : H p1 = some (.lst xs)) (h2 : H p2 = some (.tup ys)) (h3 : H p3 = some (.dK kvs)) :
    ∀ j, j < 16 → ∃ x, (odds p1 p2 p3)[j]? = some x ∧ isM x = false ∧ LT H x
  | 0, _ => ⟨_, rfl, by decide +kernel, .str _ (by decide +kernel) (by decide +kernel)⟩
  | 1, _ => ⟨_, rfl, by decide +kernel, .str _ (by decide +kernel) (by decide +kernel)⟩
  | 2, _ => ⟨_, rfl, by decide +kernel, .str _ (by decide +kernel) (by decide +kernel)⟩
  | 3, _ => ⟨_, rfl, by decide +kernel, .str _ (by decide +kernel) (by decide +kernel)⟩
  | 4, _ => ⟨_, rfl, by decide +kernel, .str _ (by decide +kernel) (by decide +kernel)⟩
  | 5, _ => ⟨_, rfl, by decide +kernel, .str _ (by decide +kernel) (by decide +kernel)⟩
  | 6, _ => ⟨_, rfl, rfl, .non⟩
  | 7, _ => ⟨_, rfl, rfl, .int _⟩
  | 8, _ => ⟨_, rfl, rfl, .bl _⟩
  | 9, _ => ⟨_, rfl, rfl, .lst h1⟩
  | 10, _ => ⟨_, rfl, rfl, .tup h2⟩
  | 11, _ => ⟨_, rfl, rfl, .dK h3⟩
  | 12, _ => ⟨_, rfl, by decide +kernel, .str _ (by decide +kernel) (by decide +kernel)⟩
  | 13, _ => ⟨_, rfl, by decide +kernel, .str _ (by decide +kernel) (by decide +kernel)⟩
  | 14, _ => ⟨_, rfl, by decide +kernel, .str _ (by decide +kernel) (by decide +kernel)⟩
  | 15, _ => ⟨_, rfl, rfl, .int _⟩
  | n + 16, h => absurd h (by omega)
theorem mod16 (i : Int) : ∃ j : Nat, i.fmod 16 = (j : Int) ∧ j < 16 := by
  refine ⟨(i % 16).toNat, ?_, ?_⟩
  · rw [Int.fmod_eq_emod_of_nonneg _ (by decide)]
    omega
  · omega
theorem scOdd : FnScope ["_law_cell", "_law_some"] ["_law_cell"] (defScope sOdd) := ⟨rfl, rfl, rfl, by decide +kernel, rfl, by decide +kernel, by decide +kernel⟩
theorem scEnds : FnScope ["_law_word", "_law_at"] ["_law_word"] (defScope sEnds) := ⟨rfl, rfl, rfl, by decide +kernel, rfl, by decide +kernel, by decide +kernel⟩
theorem scAsk : FnScope ["_law_way", "_law_thing", "_law_caught", "e"] ["_law_way", "_law_thing"] (defScope sAsk) := ⟨rfl, rfl, rfl, by decide +kernel, rfl, by decide +kernel, by decide +kernel⟩
def spOdd : Sp := fun vs H Q _ => ∃ c : Int, vs = [.int c] ∧ ∀ H' x, Same H H' → LT H' x → isM x = false → Q x H'
def spEnds : Sp := fun vs H Q _ => ∃ l : List Nat, vs = [.str (T l)] ∧ l.length ≤ 300 ∧ ∀ H' p, Same H H' → H p = none → H' p = some (.lst ((endsN l l.length).map sV)) → Q (.ref p) H'
def spAsk (K : PySem.W.Frag) (P : Addr) : Sp := fun vs H Q _ => ∃ (wv : Int) (x : V), vs = [.int wv, x] ∧ GxR.TabG H P ∧ Thing K H x ∧ isM x = false ∧ ∀ H', Kp P H H' → Q (.bl true) H'
section
variable {Pr : Program} {w : World} {K : PySem.W.Frag} {mg : Str → Option Value} {base : Heap} {P BW ME c1 c2 c3 c4 c5 c6 fN fT fC : Addr} {dN dT dC : FuncData}
theorem ok_odd {f : Addr} {fd : FuncData} (F : Fun K "_law_odd" "_law_odd" sOdd f fd) : FnOk Pr w K mg base CX0 1 f fd ["_law_cell"] spOdd := by
  refine F.ok scOdd (fun vs H Q E h => ?_) (fun cdv A outer s H vs Q E hr h => ?_)
  · obtain ⟨c, rfl, _⟩ := h
    rfl
  · obtain ⟨c, rfl, q⟩ := h
    refine ⟨_, pss_cons (ps_set (i := 1) scOdd.nd rfl (.inl rfl) (pe_lst (pa_cons pe_str (pa_cons pe_str (pa_cons pe_str (pa_cons pe_str (pa_cons pe_str (pa_cons pe_str (pa_cons pe_non (pa_cons pe_int (pa_cons pe_bl (pa_cons (pe_lst (pa_cons pe_str pa_nil))
        (pa_cons (pe_tup (pa_cons pe_str pa_nil)) (pa_cons pe_dnewK (pa_cons (pe_op op_repS pe_str pe_int) (pa_cons (pe_op op_repS pe_str pe_int) (pa_cons pe_str (pa_cons pe_int pa_nil)))))))))))))))))) <|
      pss_one (ps_ret (pe_ix ix_list (pv 1) (pe_op op_modN (pv 0) pe_int) (fun _ _ => rfl))), ?_⟩
    refine ⟨by decide, fun p1 hp1 => ⟨by decide, fun p2 hp2 => fun p3 hp3 => ⟨[97], 201, by decide +kernel, rfl, by decide, by decide, by decide, [97, 98, 97], 67, by decide +kernel, rfl, by decide, by decide, by decide, by show 16 ≤ sizeLine; decide, fun p4 hp4 => ?_⟩⟩⟩
    have s1 : Same H (upd H p1 (.lst [.str "a"])) := same_upd hp1
    have f1 : (upd H p1 (.lst [.str "a"])) p1 = some (.lst [.str "a"]) := upd_same
    generalize upd H p1 (.lst [.str "a"]) = Ha at *
    have s2 : Same Ha (upd Ha p2 (.tup [.str "a"])) := same_upd hp2
    have f2 : (upd Ha p2 (.tup [.str "a"])) p2 = some (.tup [.str "a"]) := upd_same
    generalize upd Ha p2 (.tup [.str "a"]) = Hb at *
    have s3 : Same Hb (upd Hb p3 (.dK [])) := same_upd hp3
    have f3 : (upd Hb p3 (.dK [])) p3 = some (.dK []) := upd_same
    generalize upd Hb p3 (.dK []) = Hc at *
    have s4 : Same Hc (upd Hc p4 (.lst (odds p1 p2 p3))) := same_upd hp4
    have f4 : (upd Hc p4 (.lst (odds p1 p2 p3))) p4 = some (.lst (odds p1 p2 p3)) := upd_same
    obtain ⟨j, ej, hj⟩ := mod16 c
    have g1 := s4 _ _ (s3 _ _ (s2 _ _ f1))
    have g2 := s4 _ _ (s3 _ _ f2)
    have g3 := s4 _ _ f3
    obtain ⟨x, hx, no, lt⟩ := odd_at g1 g2 g3 j hj
    have hat : atI (odds p1 p2 p3) (c.fmod 16) = some x := by
      rw [ej]
      exact atI_nat hx
    exact ⟨_, rfl, _, rfl, _, 16, rfl, rfl, show (16 : Int) ≠ 0 by decide, p4, _, _, x, rfl, rfl, .inl (.inl f4), hat, q _ x (s1.trans (s2.trans (s3.trans s4))) lt no⟩
theorem ok_ends {f : Addr} {fd : FuncData} (F : Fun K "_law_ends" "_law_ends" sEnds f fd) (ml : mg "len" = none) (mr : mg "range" = none) : FnOk Pr w K mg base CX0 1 f fd ["_law_word"] spEnds := by
  refine F.ok scEnds (fun vs H Q E h => ?_) (fun cdv A outer s H vs Q E hr h => ?_)
  · obtain ⟨l, rfl, _⟩ := h
    rfl
  · obtain ⟨l, rfl, hl, q⟩ := h
    refine ⟨_, pss_one (ps_ret (pe_lc (own := [("_law_at", 1)]) (g := gName 1) rfl scEnds.nd (pi_range1 (by rfl) mr (pa_cons (pe_callB call_len_str (by rfl) ml PySem.boot_len (pa_cons (pv 0) pa_nil)) pa_nil))
        (blkOk_by (own := [("_law_at", 1)]) (N := ["_law_word", "_law_at"]) (sc := defScope sEnds) (by decide +kernel)) (fun _ _ _ _ _ => pg_name (i := 1) scEnds.nd rfl (Or.inl rfl))
        (fun _ _ _ _ _ => pts_one (pt_cmpR op_eq (pe_slice sl_str (pv 0) (po_some (pv 1)) po_none) (pe_revS (pe_slice sl_str (pv 0) (po_some (pv 1)) po_none)) (nomark _)))
        (fun _ _ _ _ _ => pe_slice sl_str (pv 0) (po_some (pv 1)) po_none))), ?_⟩
    have hlT : (T l).length ≤ sizeLine := by
      rw [T_len]
      exact Nat.le_of_lt (small1000 (by omega))
    refine ⟨_, rfl, T l, rfl, hlT, _, rfl, by rw [T_len]; omega, by rw [T_len]; omega, fun D hD => ?_⟩
    have en : ((T l).length : Int).toNat = l.length := by rw [T_len]; omega
    refine lc_range (lo := 0) (n := ((T l).length : Int).toNat) (fun i H' => Same H H' ∧ H' D = some (.lst ((endsN l i).map sV))) ⟨same_upd hD, upd_same⟩ (fun i H' hi hW => ?_) (fun H' hW => ?_)
    · obtain ⟨sm, hd⟩ := hW
      have ec : cutS (T l) (some (0 + (i : Int))) none = T (l.drop i) := by
        rw [Int.zero_add]
        exact cut_from l i
      refine ⟨rfl, _, rfl, _, rfl, _, rfl, T l, rfl, hlT, _, rfl, _, rfl, _, rfl, T l, rfl, hlT, l.drop i, by rw [ec], by rw [List.length_drop]; exact Nat.le_of_lt (small1000 (by omega)), rfl, pal (l.drop i), ?_, ?_⟩
      · rw [ec, T_dec]
        rfl
      refine ite2 (fun c => ?_) (fun c => ?_)
      · refine ⟨_, rfl, _, rfl, _, rfl, T l, rfl, hlT, ?_⟩
        rw [ec]
        refine ⟨_, hd, ?_, fun b u e => ?_, ?_⟩
        · rw [List.length_map]
          have := endsN_len l i
          exact small1000 (by omega)
        · rw [upd_ne (ne_of_none e hD)]
          exact sm b u e
        · rw [upd_same, endsN_succ, if_pos c, List.map_append]
          rfl
      · refine ⟨sm, ?_⟩
        rw [endsN_succ, if_neg c, List.append_nil]
        exact hd
    · obtain ⟨sm, hd⟩ := hW
      rw [en] at hd
      exact q H' D sm hD hd
theorem ok_ask {f : Addr} {fd : FuncData} (F : Fun K "_law_asked" "_law_asked" sAsk f fd) (FN : Fn Pr w K mg base (L2.CX Pr w) 4 "inner" fN dN ["word"] (spInner K P BW)) (FT : Fn Pr w K mg base (L2.CX Pr w) 5 "tail" fT dT ["word"] (spTail K P BW)) (FC : Fn Pr w K mg base (L2.CX Pr w) 4 "chain" fC dC ["word"] (spChain K P BW))
    (EB : ErrC K mg "BadWord" BW) (XB : ExcC K BW) (gM : mg "MirrorError" = some (.ref ME)) (hm : PySem.W.exmOne K (.ref BW) (.ref ME) = some true)
    (g1 : mg "BadArms" = some (.ref c1)) (g2 : mg "BadLetter" = some (.ref c2)) (g3 : mg "BadText" = some (.ref c3)) (g4 : mg "Full" = some (.ref c4)) (g5 : mg "NoPlace" = some (.ref c5)) (g6 : mg "NoText" = some (.ref c6))
    (k6 : PySem.W.kitAny K (.ref BW) [.ref c1, .ref c2, .ref c3, .ref c4, .ref c5, .ref c6] = some false) (k1 : PySem.W.kitOne K (.ref BW) (.ref BW) = some true) (kv : PySem.W.kitOne K (.ref BW) (.type "ValueError") = some true)
    (mi : mg "isinstance" = none) (mv : mg "ValueError" = none) : FnOk Pr w K mg base CX0 6 f fd ["_law_way", "_law_thing"] (spAsk K P) := by
  refine F.ok scAsk (fun vs H Q E h => ?_) (fun cdv A outer s H vs Q E hr h => ?_)
  · obtain ⟨wv, x, rfl, _⟩ := h
    rfl
  · obtain ⟨wv, x, rfl, tab, th, no, q⟩ := h
    refine ⟨_, pss_cons (ps_set (i := 2) scAsk.nd rfl (.inl rfl) pe_non) <|
      pss_cons (ps_tryK (i := 3) (tb := fun W => tIfS (tTest (tOp rEq (tVar 0) (tC (.int 0)))) (tDrop (tCallS (spInner K P BW) (WE W) (tCons (tVar 1) tNil))) (tIfS (tTest (tOp rEq (tVar 0) (tC (.int 1)))) (tDrop (tCallS (spTail K P BW) (WE W) (tCons (tVar 1) tNil))) (tDrop (tCallS (spChain K P BW) (WE W) (tCons (tVar 1) tNil)))))
        (ts := fun _ => tAsg (tVar 3) (gName 2)) rfl rfl rfl scAsk.nd rfl rfl ⟨by rfl, by decide, .inl gM⟩
        (fun W pn xe tk _ => pss_one (ps_if (pt_cmpR op_eq (pv 0) pe_int (nomark _)) (pss_one (ps_expr (pe_callS FN.ok (hr.mono (by decide)) (by rfl) FN.g FN.k FN.b (fun σ => passAt tk σ) (pa_cons (pv 1) pa_nil))))
          (pss_one (ps_if (pt_cmpR op_eq (pv 0) pe_int (nomark _)) (pss_one (ps_expr (pe_callS FT.ok hr (by rfl) FT.g FT.k FT.b (fun σ => passAt tk σ) (pa_cons (pv 1) pa_nil))))
            (pss_one (ps_expr (pe_callS FC.ok (hr.mono (by decide)) (by rfl) FC.g FC.k FC.b (fun σ => passAt tk σ) (pa_cons (pv 1) pa_nil))))))))
        (fun a pn => pss_one (ps_set (i := 2) scAsk.nd rfl (.inl rfl) (pv 3)))) <|
      pss_cons (ps_if (PW.pt (pw_or (pt_cmpR op_isN (pv 2) pe_non (nomark _)) (pw_or1 (pt_val (pe_callB call_isXT (by rfl) mi boot_isinstance (pa_cons (pv 2) (pa_cons (pe_tup (pa_cons (pe_glob (v := .ref c1) (by rfl) g1 rfl) (pa_cons (pe_glob (v := .ref c2) (by rfl) g2 rfl)
          (pa_cons (pe_glob (v := .ref c3) (by rfl) g3 rfl) (pa_cons (pe_glob (v := .ref c4) (by rfl) g4 rfl) (pa_cons (pe_glob (v := .ref c5) (by rfl) g5 rfl) (pa_cons (pe_glob (v := .ref c6) (by rfl) g6 rfl) pa_nil))))))) pa_nil)))))))
        (pss_one (ps_ret pe_bl)) pss_nil) <|
      pss_one (ps_ret (pe_and (pe_callB call_isX (by rfl) mi boot_isinstance (pa_cons (pv 2) (pa_cons (pe_glob (v := .ref BW) (by rfl) EB.g rfl) pa_nil)))
        (pe_one (pe_callB call_isX (by rfl) mi boot_isinstance (pa_cons (pv 2) (pa_cons (pe_bltn (v := .ty "ValueError") (by rfl) mv (by decide +kernel) rfl) pa_nil)))))), ?_⟩
    refine ⟨_, rfl, rfl, _, rfl, ite2 (fun _ => ?_) (fun _ => ⟨_, rfl, rfl, _, rfl, ite2 (fun _ => ?_) (fun _ => ?_)⟩)⟩
    all_goals
      refine ⟨_, rfl, x, rfl, tab, th, fun _ H1 hT => ⟨hm, rfl, BW, rfl, fun a ha => ⟨_, rfl, ?_⟩⟩, fun z => absurd z (by rw [no]; exact Bool.false_ne_true)⟩
      have kp1 : Kp P H (upd H1 a (ExS BW a)) := (Kp.tabbed hT).step ha
      refine ⟨_, rfl, rfl, _, rfl, ?_⟩
      rw [decide_eq_false (show ¬ V.ref a = V.non from fun z => by cases z)]
      refine iteF ⟨_, rfl, by show 6 ≤ sizeLine; decide, fun p hp => ?_⟩
      have kp2 : Kp P H (upd (upd H1 a (ExS BW a)) p (.tup [.ref c1, .ref c2, .ref c3, .ref c4, .ref c5, .ref c6])) := kp1.step hp
      have hpa : a ≠ p := fun z => by
        rw [← z, upd_same] at hp
        cases hp
      have hx : (upd (upd H1 a (ExS BW a)) p (.tup [.ref c1, .ref c2, .ref c3, .ref c4, .ref c5, .ref c6])) a = some (ExS BW a) := by
        rw [upd_ne hpa]
        exact upd_same
      refine ⟨a, BW, p, _, _, false, rfl, upd_same, .cons (.own c1) (.cons (.own c2) (.cons (.own c3) (.cons (.own c4) (.cons (.own c5) (.cons (.own c6) .nil))))), hx, XB, k6, false, rfl, iteF ?_⟩
      refine ⟨_, rfl, a, BW, .ref BW, _, true, rfl, .own BW, hx, XB, k1, true, rfl, iteT ?_⟩
      exact ⟨_, rfl, a, BW, .ty "ValueError", _, true, rfl, .ty _, hx, XB, kv, q _ kp2⟩
end
end Mw
namespace Mw
open PySem PySem.Spec PyProof.Rows L2

/-! ### lists of texts compared -/
def sD (l : List Nat) : PyData := .str (T l)
theorem dp_strs {K : PySem.W.Frag} {H : Hp} : ∀ ss : List (List Nat), DpAll K H (ss.map sV) (ss.map sD)
  | [] => .nil
  | x :: r => .cons (.str _) (dp_strs r)
theorem eqv_strs : ∀ ss : List (List Nat), PyData.eqvAll (ss.map sD) (ss.map sD) = true
  | [] => rfl
  | x :: r => by
    show ((T x == T x) && PyData.eqvAll _ _) = true
    rw [beq_self_eq_true, eqv_strs r]
    rfl
theorem eqv_strL (ss : List (List Nat)) : PyData.eqv (.list (ss.map sD)) (.list (ss.map sD)) = true := eqv_strs ss
theorem depth_strs : ∀ ss : List (List Nat), PyData.depthAll (ss.map sD) ≤ 1
  | [] => by simp [PyData.depthAll]
  | s :: r => by
    have := depth_strs r
    simp only [List.map_cons, PyData.depthAll, sD, PyData.depth] at this ⊢
    omega
theorem lay_strs : ∀ ss : List (List Nat), (∀ s ∈ ss, s.all asc = true) → PyData.canLayAll0 (ss.map sD) = true
  | [], _ => by simp [PyData.canLayAll0]
  | s :: r, h => by
    have ih := lay_strs r fun t ht => h t (List.mem_cons_of_mem _ ht)
    have hs := h s List.mem_cons_self
    have e : PyData.strOk (T s) = true := by
      unfold PyData.strOk
      show (s.toArray).all _ = true
      rw [List.all_toArray]
      rw [List.all_eq_true] at hs ⊢
      intro c hc
      have z := of_decide_eq_true (hs c hc)
      exact decide_eq_true (by omega)
    show (PyData.canLay0 (.str (T s)) && PyData.canLayAll0 (r.map sD)) = true
    rw [ih, show PyData.canLay0 (.str (T s)) = true from e]
    rfl
theorem shaped_strs {ss : List (List Nat)} (h : ∀ s ∈ ss, s.all asc = true) : SeqAt.shaped (.list (ss.map sD)) = true := by
  have h1 := depth_strs ss
  have h2 : PyData.depth (.list (ss.map sD)) ≤ 64 := by
    simp only [PyData.depth]
    omega
  show (PyData.canLay0 (.list (ss.map sD)) && decide (PyData.depth (.list (ss.map sD)) ≤ 64)) = true
  rw [decide_eq_true h2, Bool.and_true]
  simp only [PyData.canLay0]
  exact lay_strs ss h
theorem abc_mem (c : Nat) : decide (c ∈ (Str.ofString "abcdefghijklmnopqrstuvwxyz").cps.toList) = az c := by
  have e : (Str.ofString "abcdefghijklmnopqrstuvwxyz").cps.toList = (List.range 26).map (97 + ·) := abc
  rw [e]
  unfold az
  by_cases h : 97 ≤ c ∧ c ≤ 122
  · rw [decide_eq_true h.1, decide_eq_true h.2]
    exact decide_eq_true (List.mem_map.mpr ⟨c - 97, List.mem_range.mpr (by omega), by omega⟩)
  · have z : ¬ c ∈ (List.range 26).map (97 + ·) := fun m => by
      obtain ⟨j, hj, ej⟩ := List.mem_map.mp m
      have := List.mem_range.mp hj
      omega
    rw [decide_eq_false z]
    by_cases a : 97 ≤ c
    · rw [decide_eq_true a, decide_eq_false (show ¬ c ≤ 122 by omega)]
      rfl
    · rw [decide_eq_false a, Bool.false_and]
theorem bad_take {l : List Nat} {i c : Nat} (h : l[i]? = some c) : (l.take (i + 1)).filter (fun c => !az c) = (l.take i).filter (fun c => !az c) ++ if (!az c) = true then [c] else [] := by
  rw [List.take_add_one, h]
  show ((l.take i) ++ [c]).filter _ = _
  rw [List.filter_append]
  congr 1
  by_cases z : (!az c) = true
  · rw [if_pos z]
    simp [List.filter_cons, z]
  · rw [if_neg z]
    simp [List.filter_cons]
    simpa using z
theorem bad_nil (l : List Nat) : PyData.eqv (.list (((l.filter fun c => !az c).map fun c => [c]).map sD)) (.list []) = l.all az := by
  induction l with
  | nil => decide +kernel
  | cons c r ih =>
    cases z : az c with
    | true =>
      rw [List.filter_cons_of_neg (by rw [z]; exact Bool.false_ne_true), ih, List.all_cons, z, Bool.true_and]
    | false =>
      rw [List.filter_cons_of_pos (by rw [z]; rfl), List.all_cons, z, Bool.false_and]
      simp [PyData.eqv, PyData.eqvAll]
theorem LT.cases' {K : PySem.W.Frag} {H : Hp} {x : V} (t : LT H x) : (∃ l : List Nat, x = .str (T l) ∧ l.length ≤ 300 ∧ l.all asc = true) ∨ (isT x = false ∧ ∃ n : String, TyX K H x (.type n) ∧ kitB n "str" = some false) := by
  cases t with
  | text l h hc => exact .inl ⟨l, rfl, h, hc⟩
  | non => exact .inr ⟨rfl, _, .base .non, by decide +kernel⟩
  | int i => exact .inr ⟨rfl, _, .base (.int _), by decide +kernel⟩
  | bl b => exact .inr ⟨rfl, _, .base (.bl _), by decide +kernel⟩
  | lst h => exact .inr ⟨rfl, _, .base (.lst h), by decide +kernel⟩
  | tup h => exact .inr ⟨rfl, _, .base (.tup h), by decide +kernel⟩
  | dK h => exact .inr ⟨rfl, _, .base (.dK h), by decide +kernel⟩
theorem isM_false {x : V} (h : isT x = false) : isM x = false := by
  cases c : isM x with
  | false => rfl
  | true =>
    rw [isM_isT c] at h
    cases h

/-- the last two rows of _law_is -/
def tLisEnd (K : PySem.W.Frag) (P : Addr) : TS := tSeq (tAsg (tLst (tCons (tCall (spIs K P) [] E0 (tCons (tVar 0) tNil)) (tCons (tCall (spMir K P) [] E0 (tCons (tVar 0) tNil)) tNil))) (gName 3))
  (tRet (tAndV (tOp (rEqD K) (tVar 3) (tLst (tCons (tVar 1) (tCons (tVar 2) tNil)))) (tCB (rAll K) (tCons (tLc (iList K (tVar 3)) (gName 5) tYes (tCB (rIsi K) (tCons (tVar 5) (tCons (tC (V.ty "bool")) tNil))) [5]) tNil))))
theorem sh2 (a b : Bool) : SeqAt.shaped (.list [.bool a, .bool b]) = true := by cases a <;> cases b <;> decide +kernel
theorem eqv2 (a b : Bool) : PyData.eqv (.list [.bool a, .bool b]) (.list [.bool a, .bool b]) = true := by cases a <;> cases b <;> decide +kernel
theorem lis_end {K : PySem.W.Frag} {P : Addr} {H H1 : Hp} {x : V} {Q : VK} {N : L2.St → Hp → Prop} {g m : Bool} (eg : isT x = g) (em : isM x = m) (kp : Kp P H H1) (lt : LT H1 x) (q : ∀ H', Kp P H H' → Q (.bl true) H') :
    tLisEnd K P { nx := N, rt := Q } [some x, some (.bl g), some (.bl m), none, none, none] H1 := by
  subst eg em
  refine ⟨_, rfl, x, rfl, kp.tab, lt.thing, fun H2 hT2 => ?_⟩
  have k2 := Kp.tabbed hT2
  refine ⟨_, rfl, x, rfl, k2.tab, (lt.keep k2 kp.tab).thing, fun H3 hT3 => ⟨by show 2 ≤ sizeLine; decide, fun p hp => ?_⟩⟩
  have k3 : Kp P H H3 := kp.trans (k2.trans (.tabbed hT3))
  have s4 : Same H3 (upd H3 p (.lst [.bl (isT x), .bl (isM x)])) := same_upd hp
  have f4 : (upd H3 p (.lst [.bl (isT x), .bl (isM x)])) p = some (.lst [.bl (isT x), .bl (isM x)]) := upd_same
  generalize upd H3 p (.lst [.bl (isT x), .bl (isM x)]) = H4 at *
  refine ⟨_, rfl, _, rfl, _, rfl, by show 2 ≤ sizeLine; decide, fun p5 hp5 => ?_⟩
  have s5 : Same H4 (upd H4 p5 (.lst [.bl (isT x), .bl (isM x)])) := same_upd hp5
  have f5 : (upd H4 p5 (.lst [.bl (isT x), .bl (isM x)])) p5 = some (.lst [.bl (isT x), .bl (isM x)]) := upd_same
  generalize upd H4 p5 (.lst [.bl (isT x), .bl (isM x)]) = H5 at *
  have f4' := s5 _ _ f4
  refine ⟨_, _, .lst (.inl (.inl f4')) (.cons (.bl _) (.cons (.bl _) .nil)), .lst (.inl (.inl f5)) (.cons (.bl _) (.cons (.bl _) .nil)), sh2 _ _, sh2 _ _, true, by rw [eqv2], iteT ?_⟩
  refine ⟨_, rfl, p, rfl, ⟨_, .inl (.inl f4')⟩, fun D hD => ?_⟩
  refine lc_list (K := K) (a := p) (xs := [.bl (isT x), .bl (isM x)]) (fun i H' => Same H5 H' ∧ H' D = some (.lst ((List.replicate i true).map V.bl))) ⟨same_upd hD, upd_same⟩ (fun i H' _ hW => .inl (.inl (hW.1 _ _ f4'))) (fun i y H' hy hW => ?_) (fun H' hW => ?_)
  · obtain ⟨sm, hd⟩ := hW
    have hi : i < 2 := (List.getElem?_eq_some_iff.mp hy).1
    have hb : ∃ b, y = .bl b := by
      match i, hi with
      | 0, _ => exact ⟨_, (Option.some.inj hy).symm⟩
      | 1, _ => exact ⟨_, (Option.some.inj hy).symm⟩
    obtain ⟨b, rfl⟩ := hb
    refine ⟨rfl, _, rfl, .bl b, .ty "bool", _, _, true, rfl, .ty _, .base (.bl _), kit_ty (by decide +kernel), _, hd, ?_, fun c u e => ?_, ?_⟩
    · rw [List.length_map, List.length_replicate]
      exact small1000 (by omega)
    · rw [upd_ne (ne_of_none e hD)]
      exact sm c u e
    · rw [upd_same, List.replicate_succ', List.map_append]
      rfl
  · obtain ⟨sm, hd⟩ := hW
    refine ⟨D, List.replicate 2 true, rfl, .inl (.inl hd), ?_⟩
    exact q H' (k3.trans (.same k3.tab (s4.trans (s5.trans sm))))

abbrev nLIs : List Str := ["_law_thing", "_law_good", "_law_mirrors", "_law_found", "_law_sign", "_law_one"]
theorem scLIs : FnScope nLIs ["_law_thing"] (defScope sLIs) := ⟨rfl, rfl, rfl, by decide +kernel, rfl, by decide +kernel, by decide +kernel⟩
def spLIs (P : Addr) : Sp := fun vs H Q _ => ∃ x, vs = [x] ∧ GxR.TabG H P ∧ LT H x ∧ ∀ H', Kp P H H' → Q (.bl true) H'
section
variable {Pr : Program} {w : World} {K : PySem.W.Frag} {mg : Str → Option Value} {base : Heap} {P fI fM : Addr} {dI dM : FuncData}
theorem ok_lis {f : Addr} {fd : FuncData} (F : Fun K "_law_is" "_law_is" sLIs f fd) (FI : Fn Pr w K mg base CX0 1 "is_text" fI dI ["thing"] (spIs K P)) (FM : Fn Pr w K mg base CX0 2 "is_mirror" fM dM ["thing"] (spMir K P))
    (mi : mg "isinstance" = none) (ml : mg "len" = none) (ms : mg "str" = none) (mB : mg "bool" = none) (ma : mg "all" = none) : FnOk Pr w K mg base CX0 3 f fd ["_law_thing"] (spLIs P) := by
  refine F.ok scLIs (fun vs H Q E h => ?_) (fun cdv A outer s H vs Q E hr h => ?_)
  · obtain ⟨x, rfl, _⟩ := h
    rfl
  · obtain ⟨x, rfl, tab, lt, q⟩ := h
    have hu := hr.units
    refine ⟨_, pss_cons (ps_set (i := 1) scLIs.nd rfl (.inl rfl) (pe_and (pe_callB call_isi (by rfl) mi boot_isinstance (pa_cons (pv 0) (pa_cons (pe_bltn (v := .ty "str") (by rfl) ms PyProof.Rows.boot_str rfl) pa_nil)))
          (pe_one (pe_cmpR op_le (pe_callB call_len_str (by rfl) ml PySem.boot_len (pa_cons (pv 0) pa_nil)) pe_int (nomark _))))) <|
      pss_cons (ps_set (i := 1) scLIs.nd rfl (.inl rfl) (pe_and (pv 1) (pe_one (pe_cmpR (op_eqD hu) (pe_lc (own := [("_law_sign", 4)]) (g := gName 4) rfl scLIs.nd (pi_str (pv 0)) (blkOk_by (own := [("_law_sign", 4)]) (N := nLIs) (sc := defScope sLIs) (by decide +kernel))
          (fun _ _ _ _ _ => pg_name (i := 4) scLIs.nd rfl (Or.inl rfl)) (fun _ _ _ _ _ => pts_one (pt_cmpR op_notIn_sign (pv 4) pe_str (by rfl))) (fun _ _ _ _ _ => pv 4)) (pe_lst pa_nil) (nomark _))))) <|
      pss_cons (ps_set (i := 2) scLIs.nd rfl (.inl rfl) (pe_and (pv 1) (pe_and (pe_cmpR op_ne (pv 0) pe_str (nomark _)) (pe_one (pe_cmpR op_eq (pv 0) (pe_revS (pv 0)) (nomark _)))))) <|
      pss_cons (ps_set (i := 3) scLIs.nd rfl (.inl rfl) (pe_lst (pa_cons (pe_call FI.ok (hr.mono (by decide)) (by rfl) FI.g FI.k FI.b .nil pass0 (pa_cons (pv 0) pa_nil)) (pa_cons (pe_call FM.ok hr (by rfl) FM.g FM.k FM.b .nil pass0 (pa_cons (pv 0) pa_nil)) pa_nil)))) <|
      pss_one (ps_ret (pe_and (pe_cmpR (op_eqD hu) (pv 3) (pe_lst (pa_cons (pv 1) (pa_cons (pv 2) pa_nil))) (nomark _)) (pe_one (pe_callB (cr_all rfl) (by rfl) ma boot_all (pa_cons (pe_lc (own := [("_law_one", 5)]) (g := gName 5) (tt := tYes) rfl scLIs.nd (pi_list (pv 3))
          (blkOk_by (own := [("_law_one", 5)]) (N := nLIs) (sc := defScope sLIs) (by decide +kernel)) (fun _ _ _ _ _ => pg_name (i := 5) scLIs.nd rfl (Or.inl rfl)) (fun _ _ _ _ _ => pts_nil)
          (fun _ _ _ _ _ => pe_callB (r := rIsi K) call_isi (by rfl) mi boot_isinstance (pa_cons (pv 5) (pa_cons (pe_bltn (v := .ty "bool") (by rfl) mB PyProof.Rows.boot_bool rfl) pa_nil)))) pa_nil))))), ?_⟩
    rcases lt.cases' (K := K) with ⟨l, rfl, hl, hc⟩ | ⟨no, n, ty, k⟩
    · have hlT : (T l).length ≤ sizeLine := by
        rw [T_len]
        exact Nat.le_of_lt (small1000 (by omega))
      refine ⟨_, rfl, .str (T l), .ty "str", _, _, true, rfl, .ty _, .base (.str _), kit_ty (by decide +kernel), true, rfl, iteT ⟨_, rfl, T l, rfl, hlT, _, 200, rfl, rfl, ?_⟩⟩
      refine ⟨_, rfl, _, rfl, ite2 (fun c0 => ?_) (fun c0 => ?_)⟩
      · have c : l.length ≤ 200 := by
          have z := of_decide_eq_true c0
          rw [T_len] at z
          omega
        refine ⟨_, rfl, T l, rfl, fun D hD => ?_⟩
        refine lc_it (walk_str (z := T l)) (fun i H' => Same H H' ∧ H' D = some (.lst ((((l.take i).filter fun c => !az c).map fun c => [c]).map sV))) ⟨same_upd hD, by rw [List.take_zero]; exact upd_same⟩ (fun _ _ _ _ => trivial) (fun i x H' H'' hi hW hy => ?_) (fun H' hW => ?_)
        · obtain ⟨sm, hd⟩ := hW
          obtain ⟨rfl, c2, hcc, rfl⟩ := hy
          have hcl : l[i]? = some c2 := by
            have z : (l.toArray)[i]? = some c2 := hcc
            rw [List.getElem?_toArray] at z
            exact z
          refine ⟨rfl, _, rfl, c2, _, rfl, rfl, !az c2, by rw [abc_mem], ite2 (fun z => ?_) (fun z => ?_)⟩
          · refine ⟨_, rfl, _, hd, ?_, fun b u e => ?_, ?_⟩
            · rw [List.length_map, List.length_map]
              refine small1000 (Nat.le_trans (List.length_filter_le _ _) ?_)
              rw [List.length_take]
              omega
            · rw [upd_ne (ne_of_none e hD)]
              exact sm b u e
            · rw [upd_same, bad_take hcl, if_pos z, List.map_append, List.map_append]
              rfl
          · refine ⟨sm, ?_⟩
            rw [bad_take hcl, if_neg z, List.append_nil]
            exact hd
        · obtain ⟨sm, hd⟩ := hW
          have e1 : l.take ((T l).cps.size) = l := List.take_of_length_le (Nat.le_of_eq (by show l.length = l.toArray.size; simp))
          rw [e1] at hd
          refine ⟨Nat.zero_le _, fun p hp => ?_⟩
          have s2 : Same H (upd H' p (.lst [])) := sm.trans (same_upd hp)
          refine ⟨_, _, .lst (.inl (.inl ((same_upd hp) _ _ hd))) (dp_strs _), .lst (.inl (.inl upd_same)) .nil, shaped_strs (fun s hs => ?_), by decide +kernel, ?_⟩
          · obtain ⟨c2, hc2, rfl⟩ := List.mem_map.mp hs
            have z := List.all_eq_true.mp hc c2 ((List.mem_filter.mp hc2).1)
            show (asc c2 && true) = true
            rw [z]
            rfl
          have kp : Kp P H (upd H' p (.lst [])) := .same tab s2
          have eT : isT (.str (T l)) = l.all az := by
            show (decide ((T l).length ≤ 200) && l.all az) = l.all az
            rw [T_len, decide_eq_true c, Bool.true_and]
          have ltp := lt.keep kp tab
          refine ⟨_, rfl, l.all az, by rw [bad_nil], ite2 (fun ha => ?_) (fun ha => ?_)⟩
          · have eG : isT (.str (T l)) = PyData.eqv (.list (((l.filter fun c => !az c).map fun c => [c]).map sD)) (.list []) := by rw [eT, bad_nil]
            refine ⟨_, rfl, rfl, _, rfl, ite2 (fun hne => ?_) (fun hne => ?_)⟩
            · refine ⟨_, rfl, _, rfl, l, rfl, by rw [← T_len]; exact hlT, rfl, ?_⟩
              refine lis_end eG ?_ kp ltp q
              have n0 : 0 < l.length := by
                cases l with
                | nil => exact absurd hne (by decide +kernel)
                | cons c r => exact Nat.succ_pos _
              rw [isM_T, eT, ha, decide_eq_true n0, Bool.true_and, Bool.true_and, T_dec]
              rfl
            · refine lis_end eG ?_ kp ltp q
              have n0 : l = [] := by
                by_cases z : V.str (T l) = V.str (Str.ofString "")
                · exact T_inj (b := []) (V.str.inj z)
                · exact absurd (by rw [decide_eq_false z]; rfl) hne
              rw [n0]
              decide +kernel
          · have eF : l.all az = false := by
              cases z : l.all az with
              | false => rfl
              | true => exact absurd z ha
            refine lis_end (by rw [eT, bad_nil]) ?_ kp ltp q
            exact isM_false (by rw [eT, eF])
      · have c : ¬ l.length ≤ 200 := fun z => c0 (decide_eq_true (by rw [T_len]; omega))
        have eT : isT (.str (T l)) = false := by
          show (decide ((T l).length ≤ 200) && l.all az) = false
          rw [T_len, decide_eq_false c, Bool.false_and]
        have eD : decide (((T l).length : Int) ≤ 200) = false := decide_eq_false (by rw [T_len]; omega)
        refine ⟨_, rfl, _, rfl, ite2 (fun z => absurd z (by rw [Bool.false_eq_true]; exact fun y => y)) (fun _ => ?_)⟩
        exact lis_end eT (isM_false eT) (.refl tab) lt q
    · refine ⟨_, rfl, x, .ty "str", _, _, false, rfl, .ty _, ty, kit_ty k, false, rfl, iteF ?_⟩
      refine ⟨_, rfl, false, rfl, iteF ⟨_, rfl, false, rfl, iteF ?_⟩⟩
      exact lis_end no (isM_false no) (.refl tab) lt q
end
end Mw
namespace Mw
open PySem PySem.Spec PyProof.Rows L2

/-! ### a mirror word's parts are right -/
theorem ends_mem {l s : List Nat} {i : Nat} (h : s ∈ endsN l i) : pal s = true ∧ ∃ j, j < i ∧ s = l.drop j := by
  unfold endsN at h
  rw [List.mem_filter, List.mem_map] at h
  obtain ⟨⟨j, hj, rfl⟩, hp⟩ := h
  exact ⟨hp, j, List.mem_range.mp hj, rfl⟩
theorem all_drop {l : List Nat} {p : Nat → Bool} (h : l.all p = true) (k : Nat) : (l.drop k).all p = true := by
  rw [List.all_eq_true] at h ⊢
  exact fun c hc => h c (List.mem_of_mem_drop hc)
theorem ends_asc {l : List Nat} (h : l.all az = true) (i : Nat) : ∀ s ∈ endsN l i, s.all asc = true := fun s hs => by
  obtain ⟨_, j, _, rfl⟩ := ends_mem hs
  exact all_drop (az_asc h) j
theorem tail_at {l : List Nat} (hp : pal l = true) (h0 : 0 < l.length) : atI ((endsN l l.length).map sV ++ [.str ""]) 1 = some (sV (tailL l)) := by
  obtain ⟨r, er⟩ := endsN_head hp l.length h0
  unfold tailL
  rw [er]
  cases r with
  | nil => exact atI_nat (j := 1) rfl
  | cons s r => exact atI_nat (j := 1) rfl
theorem scRight : FnScope ["_law_word", "_law_due", "_law_found"] ["_law_word"] (defScope sRight) := ⟨rfl, rfl, rfl, by decide +kernel, rfl, by decide +kernel, by decide +kernel⟩
def spRight (P : Addr) : Sp := fun vs H Q _ => ∃ l : List Nat, vs = [.str (T l)] ∧ GxR.TabG H P ∧ isM (.str (T l)) = true ∧ ∀ H', Kp P H H' → Q (.bl true) H'
section
variable {Pr : Program} {w : World} {K : PySem.W.Frag} {mg : Str → Option Value} {base : Heap} {P BW fN fT fC fE : Addr} {dN dT dC dE : FuncData}
theorem ok_right {f : Addr} {fd : FuncData} (F : Fun K "_law_right" "_law_right" sRight f fd) (FN : Fn Pr w K mg base (L2.CX Pr w) 4 "inner" fN dN ["word"] (spInner K P BW)) (FT : Fn Pr w K mg base (L2.CX Pr w) 5 "tail" fT dT ["word"] (spTail K P BW)) (FC : Fn Pr w K mg base (L2.CX Pr w) 4 "chain" fC dC ["word"] (spChain K P BW))
    (FE : Fn Pr w K mg base CX0 1 "_law_ends" fE dE ["_law_word"] spEnds) (mi : mg "isinstance" = none) (ms : mg "str" = none) (mL : mg "list" = none) : FnOk Pr w K mg base CX0 6 f fd ["_law_word"] (spRight P) := by
  refine F.ok scRight (fun vs H Q E h => ?_) (fun cdv A outer s H vs Q E hr h => ?_)
  · obtain ⟨l, rfl, _⟩ := h
    rfl
  · obtain ⟨l, rfl, tab, hM, q⟩ := h
    have hu := hr.units
    obtain ⟨l2, e2, hl, h0, hp, hz⟩ := isM_some hM
    obtain rfl : l = l2 := T_inj (V.str.inj e2)
    have hlS : l.length ≤ sizeLine := Nat.le_of_lt (small1000 (by omega))
    have hlT : (T l).length ≤ sizeLine := by rw [T_len]; exact hlS
    have no : ∀ {A : Prop}, isM (.str (T l)) = false → A := fun z => absurd (hM.symm.trans z) (by decide)
    refine ⟨_, pss_cons (ps_set (i := 1) scRight.nd rfl (.inl rfl) (pe_call FE.ok (hr.mono (by decide)) (by rfl) FE.g FE.k FE.b .nil pass0 (pa_cons (pv 0) pa_nil))) <|
      pss_cons (ps_if (PW.pt (pw_or (pt_cmpR op_ne (pe_call FN.ok (hr.mono (by decide)) (by rfl) FN.g FN.k FN.b .nil passL (pa_cons (pv 0) pa_nil)) (pe_slice sl_str (pv 0) (po_some pe_int) (po_some (pe_un un_neg pe_int))) (nomark _))
          (pw_or (pt_cmpR op_ne (pe_call FT.ok hr (by rfl) FT.g FT.k FT.b .nil passL (pa_cons (pv 0) pa_nil)) (pe_ix ix_list (pe_op op_cat (pv 1) (pe_lst (pa_cons pe_str pa_nil))) pe_int (fun _ _ => rfl)) (nomark _))
          (pw_or1 (pt_not (pt_val (pe_callB call_isi (by rfl) mi boot_isinstance (pa_cons (pe_call FT.ok hr (by rfl) FT.g FT.k FT.b .nil passL (pa_cons (pv 0) pa_nil)) (pa_cons (pe_bltn (v := .ty "str") (by rfl) ms PyProof.Rows.boot_str rfl) pa_nil)))))))))
        (pss_one (ps_ret pe_bl)) pss_nil) <|
      pss_cons (ps_set (i := 2) scRight.nd rfl (.inl rfl) (pe_call FC.ok (hr.mono (by decide)) (by rfl) FC.g FC.k FC.b .nil passL (pa_cons (pv 0) pa_nil))) <|
      pss_cons (ps_if (PW.pt (pw_or (pt_not (pt_val (pe_callB call_isi (by rfl) mi boot_isinstance (pa_cons (pv 2) (pa_cons (pe_bltn (v := .ty "list") (by rfl) mL PyProof.Rows.boot_list rfl) pa_nil))))) (pw_or1 (pt_cmpR (op_neD hu) (pv 2) (pv 1) (nomark _)))))
        (pss_one (ps_ret pe_bl)) pss_nil) <|
      pss_cons (ps_expr (pe_bm PySem.F.plainAttrs_list PySem.F.slot_list_append PySem.F.type_list_append mt_append (pv 2) (pa_cons pe_str pa_nil))) <|
      pss_one (ps_ret (pe_cmpR (op_eqD hu) (pe_call FC.ok (hr.mono (by decide)) (by rfl) FC.g FC.k FC.b .nil passL (pa_cons (pv 0) pa_nil)) (pv 1) (nomark _))), ?_⟩
    -- what is due
    refine ⟨_, rfl, l, rfl, by omega, fun H1 D sm1 hD hdue => ?_⟩
    have k1 : Kp P H H1 := .same tab sm1
    have len2 : (endsN l l.length).length ≤ 200 := Nat.le_trans (endsN_len l _) hl
    -- the inner one
    refine ⟨_, rfl, .str (T l), rfl, k1.tab, .text l hlS, no, fun _ l3 e3 H2 hT2 => ?_⟩
    obtain rfl : l = l3 := T_inj (V.str.inj e3)
    have k2 : Kp P H1 H2 := .tabbed hT2
    refine ⟨_, rfl, 1, rfl, 1, rfl, -1, rfl, T l, rfl, hlT, rfl, _, rfl, ?_⟩
    rw [decide_eq_true rfl]
    -- the tail
    refine iteF ⟨_, rfl, .str (T l), rfl, k2.tab, .text l hlS, no, fun _ l3 e3 H3 k3 => ?_⟩
    obtain rfl : l = l3 := T_inj (V.str.inj e3)
    have hdue3 : H3 D = some (.lst ((endsN l l.length).map sV)) := (k2.trans k3).lst k1.tab hdue
    refine ⟨_, rfl, by decide, fun p hp4 => ?_⟩
    have k4 : Kp P H3 (upd H3 p (.lst [.str ""])) := .new k3.tab hp4
    have f4 : (upd H3 p (.lst [.str ""])) p = some (.lst [.str ""]) := upd_same
    generalize upd H3 p (.lst [.str ""]) = H4 at *
    have hdue4 := k4.lst k3.tab hdue3
    refine ⟨D, p, _, _, rfl, rfl, hdue4, f4, ?_, fun p5 hp5 => ?_⟩
    · rw [List.length_map]
      exact Nat.le_of_lt (small1000 (by show _ + 1 ≤ 1000; omega))
    have k5 : Kp P H4 (upd H4 p5 (.lst ((endsN l l.length).map sV ++ [.str ""]))) := .new k4.tab hp5
    have f5 : (upd H4 p5 (.lst ((endsN l l.length).map sV ++ [.str ""]))) p5 = some (.lst ((endsN l l.length).map sV ++ [.str ""])) := upd_same
    generalize upd H4 p5 (.lst ((endsN l l.length).map sV ++ [.str ""])) = H5 at *
    refine ⟨p5, _, 1, _, rfl, rfl, .inl (.inl f5), tail_at hp h0, rfl, _, rfl, ?_⟩
    rw [show decide (V.str (T (tailL l)) = sV (tailL l)) = true from decide_eq_true rfl]
    refine iteF ⟨_, rfl, .str (T l), rfl, k5.tab, .text l hlS, no, fun _ l3 e3 H6 k6 => ?_⟩
    refine ⟨.str (T (tailL l3)), .ty "str", _, _, true, rfl, .ty _, .base (.str _), kit_ty (by decide +kernel), true, rfl, iteF ?_⟩
    obtain rfl : l = l3 := T_inj (V.str.inj e3)
    have k06 : Kp P H1 H6 := k2.trans (k3.trans (k4.trans (k5.trans k6)))
    -- the chain
    refine ⟨_, rfl, .str (T l), rfl, k6.tab, .text l hlS, no, fun _ l3 e3 H7 p7 k7 hp7 hf7 => ?_⟩
    obtain rfl : l = l3 := T_inj (V.str.inj e3)
    have hdue7 : H7 D = some (.lst ((endsN l l.length).map sV)) := (k06.trans k7).lst k1.tab hdue
    have sh := shaped_strs (ends_asc hz l.length)
    refine ⟨_, rfl, .ref p7, .ty "list", _, _, true, rfl, .ty _, .base (.lst hf7), kit_ty (by decide +kernel), true, rfl, iteF ?_⟩
    refine ⟨_, rfl, _, rfl, _, _, .lst (.inl (.inl hf7)) (dp_strs _), .lst (.inl (.inl hdue7)) (dp_strs _), sh, sh, _, rfl, ?_⟩
    rw [eqv_strL]
    refine iteF ⟨_, rfl, .inl ⟨rfl, _, .inl (.inl hf7)⟩, p7, _, _, rfl, rfl, hf7, ?_, ?_⟩
    · rw [List.length_map]
      exact small1000 (by omega)
    have k8 : Kp P H6 (upd H7 p7 (.lst ((endsN l l.length).map sV ++ [.str ""]))) := k7.own hp7 (new_ne k6.tab hp7)
    generalize upd H7 p7 (.lst ((endsN l l.length).map sV ++ [.str ""])) = H8 at *
    refine ⟨_, rfl, .str (T l), rfl, k8.tab, .text l hlS, no, fun _ l3 e3 H9 p9 k9 hp9 hf9 => ?_⟩
    obtain rfl : l = l3 := T_inj (V.str.inj e3)
    have k19 : Kp P H1 H9 := k06.trans (k8.trans k9)
    have hdue9 : H9 D = some (.lst ((endsN l l.length).map sV)) := k19.lst k1.tab hdue
    refine ⟨_, rfl, _, _, .lst (.inl (.inl hf9)) (dp_strs _), .lst (.inl (.inl hdue9)) (dp_strs _), sh, sh, ?_⟩
    rw [eqv_strL]
    exact q H9 (k1.trans k19)
end
end Mw
namespace Mw
open PySem PySem.Spec PyProof.Rows L2

theorem small3 {b : Int} (h0 : 0 ≤ b) (h : b ≤ 1000) : Builtin.Range.small 1 b 3 = true := by
  unfold Builtin.Range.small Builtin.Range.rangeSize
  simp only [Builtin.Range.rangeFitsLong, Bool.and_eq_true, Bool.or_eq_true, decide_eq_true_eq, beq_iff_eq, show (3 : Int) > 0 by decide, if_true]
  split <;> omega
theorem cut_one (xs : List V) : cutV xs none (some 1) = xs.take 1 := by
  unfold cutV
  have e : (1 : Int) = ((1 : Nat) : Int) := rfl
  rw [e, HT.sIx_none, HT.sIx_nat, List.drop_zero, Nat.sub_zero]
  cases xs with
  | nil => rfl
  | cons x r =>
    congr 1
theorem mem_one {l s : List Nat} (h : s ∈ (endsN l l.length).take 1) (hz : l.all az = true) (hl : l.length ≤ 200) : isM (.str (T s)) = true := by
  obtain ⟨hp, j, hj, rfl⟩ := ends_mem (List.mem_of_mem_take h)
  rw [isM_T, isT_mk (all_drop hz j) (by rw [List.length_drop]; omega), hp, decide_eq_true (show 0 < (l.drop j).length by rw [List.length_drop]; omega)]
  rfl
abbrev nLaw : List Str := ["_law_script", "_law_text_here", "_law_thing", "_law_way", "_law_k", "_law_end", "_law_word"]
theorem scLaw : FnScope nLaw ["_law_script"] (defScope sLaw) := ⟨rfl, rfl, rfl, by decide +kernel, rfl, by decide +kernel, by decide +kernel⟩
def spLaw (K : PySem.W.Frag) (P : Addr) : Sp := fun vs H Q _ => ∃ (a : Addr) (ns : List Int), vs = [.ref a] ∧ GxR.TabG H P ∧ SqL K H a (ns.map V.int) ∧ ∀ H', Q (.bl true) H'
section
variable {Pr : Program} {w : World} {K : PySem.W.Frag} {mg : Str → Option Value} {base : Heap} {P fD fT fO fE fA fR fI fM : Addr} {dD dT dO dE dA dR dI dM : FuncData}
theorem ok_law {f : Addr} {fd : FuncData} (F : Fun K "law" "law" sLaw f fd) (FD : Fn Pr w K mg base CX0 1 "_law_draw" fD dD ["_law_script", "_law_k"] (spDraw K)) (FT : Fn Pr w K mg base CX0 2 "_law_text" fT dT ["_law_script", "_law_first", "_law_most"] (spText K))
    (FO : Fn Pr w K mg base CX0 1 "_law_odd" fO dO ["_law_cell"] spOdd) (FE : Fn Pr w K mg base CX0 1 "_law_ends" fE dE ["_law_word"] spEnds) (FA : Fn Pr w K mg base CX0 6 "_law_asked" fA dA ["_law_way", "_law_thing"] (spAsk K P)) (FR : Fn Pr w K mg base CX0 6 "_law_right" fR dR ["_law_word"] (spRight P))
    (FI : Fn Pr w K mg base CX0 3 "_law_is" fI dI ["_law_thing"] (spLIs P)) (FM : Fn Pr w K mg base CX0 2 "is_mirror" fM dM ["thing"] (spMir K P))
    (mi : mg "isinstance" = none) (ml : mg "len" = none) (mr : mg "range" = none) (ms : mg "str" = none) : FnOk Pr w K mg base CX0 7 f fd ["_law_script"] (spLaw K P) := by
  refine F.ok scLaw (fun vs H Q E h => ?_) (fun cdv A outer s H vs Q E hr h => ?_)
  · obtain ⟨a, ns, rfl, _⟩ := h
    rfl
  · obtain ⟨a, ns, rfl, tab, hS, q⟩ := h
    refine ⟨_, pss_cons (ps_set (i := 1) scLaw.nd rfl (.inl rfl) (pe_call FT.ok (hr.mono (by decide)) (by rfl) FT.g FT.k FT.b .nil pass0 (pa_cons (pv 0) (pa_cons pe_int (pa_cons pe_int pa_nil))))) <|
      pss_cons (ps_set (i := 2) scLaw.nd rfl (.inl rfl) (pe_call FO.ok (hr.mono (by decide)) (by rfl) FO.g FO.k FO.b .nil pass0 (pa_cons (pe_call FD.ok (hr.mono (by decide)) (by rfl) FD.g FD.k FD.b .nil pass0 (pa_cons (pv 0) (pa_cons pe_int pa_nil))) pa_nil))) <|
      pss_cons (ps_if (PW.pt (pw_or (pt_not (pt_val (pe_call FI.ok (hr.mono (by decide)) (by rfl) FI.g FI.k FI.b .nil pass0 (pa_cons (pv 2) pa_nil)))) (pw_or (pt_not (pt_val (pe_call FI.ok (hr.mono (by decide)) (by rfl) FI.g FI.k FI.b .nil pass0 (pa_cons (pv 1) pa_nil))))
          (pw_or1 (pt_not (pt_val (pe_call FI.ok (hr.mono (by decide)) (by rfl) FI.g FI.k FI.b .nil pass0 (pa_cons (pe_slice sl_str (pv 1) (po_some pe_int) po_none) pa_nil)))))))) (pss_one (ps_ret pe_bl)) pss_nil) <|
      pss_cons (ps_set (i := 3) scLaw.nd rfl (.inl rfl) (pe_call FD.ok (hr.mono (by decide)) (by rfl) FD.g FD.k FD.b .nil pass0 (pa_cons (pv 0) (pa_cons pe_int pa_nil)))) <|
      pss_cons (ps_for PassesOwn.never rfl (pi_range1 (by rfl) mr (pa_cons pe_int pa_nil)) (pg_name (i := 4) scLaw.nd rfl (.inl rfl))
        (pss_one (ps_if (PW.pt (pw_and (pt_not (pt_val (pe_call FA.ok hr (by rfl) FA.g FA.k FA.b .nil pass0 (pa_cons (pe_op op_modN (pe_op op_add (pv 3) (pv 4)) pe_int) (pa_cons (pv 2) pa_nil)))))
            (pw_and1 (pt_not (PW.pt (pw_and (pt_val (pe_callB call_isi (by rfl) mi boot_isinstance (pa_cons (pv 2) (pa_cons (pe_bltn (v := .ty "str") (by rfl) ms PyProof.Rows.boot_str rfl) pa_nil)))) (pw_and1 (pt_val (pe_call FM.ok (hr.mono (by decide)) (by rfl) FM.g FM.k FM.b .nil pass0 (pa_cons (pv 2) pa_nil)))))))))) (pss_one (ps_ret pe_bl)) pss_nil))) <|
      pss_cons (ps_if (PW.pt (pw_and (pt_cmpR op_ne (pv 1) pe_str (nomark _)) (pw_and (pt_cmpR op_ne (pv 1) (pe_revS (pv 1)) (nomark _)) (pw_and1 (pt_not (pt_val (pe_call FA.ok hr (by rfl) FA.g FA.k FA.b .nil pass0 (pa_cons (pe_op op_modN (pv 3) pe_int) (pa_cons (pv 1) pa_nil)))))))))
        (pss_one (ps_ret pe_bl)) pss_nil) <|
      pss_cons (ps_for PassesOwn.never rfl (pi_range3 (by rfl) mr (pa_cons pe_int (pa_cons (pe_op op_add (pe_callB call_len_str (by rfl) ml PySem.boot_len (pa_cons (pv 1) pa_nil)) pe_int) (pa_cons pe_int pa_nil)))) (pg_name (i := 5) scLaw.nd rfl (.inl rfl))
        (pss_one (ps_for PassesOwn.never rfl (pi_list (pe_op op_cat (pe_slice sl_list (pe_call FE.ok (hr.mono (by decide)) (by rfl) FE.g FE.k FE.b .nil pass0 (pa_cons (pe_slice sl_str (pv 1) po_none (po_some (pv 5))) pa_nil)) po_none (po_some pe_int))
            (pe_slice sl_list (pe_call FE.ok (hr.mono (by decide)) (by rfl) FE.g FE.k FE.b .nil pass0 (pa_cons (pe_revS (pe_slice sl_str (pv 1) po_none (po_some (pv 5)))) pa_nil)) po_none (po_some pe_int)))) (pg_name (i := 6) scLaw.nd rfl (.inl rfl))
          (pss_one (ps_if (PW.pt (pw_or (pt_not (pt_val (pe_call FI.ok (hr.mono (by decide)) (by rfl) FI.g FI.k FI.b .nil pass0 (pa_cons (pv 6) pa_nil)))) (pw_or1 (pt_not (pt_val (pe_call FR.ok hr (by rfl) FR.g FR.k FR.b .nil pass0 (pa_cons (pv 6) pa_nil))))))) (pss_one (ps_ret pe_bl)) pss_nil))))) <|
      pss_one (ps_ret pe_bl), ?_⟩
    -- the text, the thing
    refine ⟨_, rfl, a, ns, 3, 40, rfl, hS, by decide, fun H1 l sm1 hz hl => ?_⟩
    have k1 : Kp P H H1 := .same tab sm1
    have hlS : l.length ≤ sizeLine := Nat.le_of_lt (small1000 (by omega))
    have hlT : (T l).length ≤ sizeLine := by rw [T_len]; exact hlS
    have ltx : ∀ {H' : Hp} {m : List Nat}, m.all az = true → m.length ≤ 200 → LT H' (.str (T m)) := fun h1 h2 => .text _ (by omega) (az_asc h1)
    refine ⟨_, rfl, a, ns, 1, rfl, k1.seq tab hS, _, rfl, fun H2 x sm2 lt2 nox => ?_⟩
    have k2 : Kp P H1 H2 := .same k1.tab sm2
    -- what they are
    refine ⟨_, rfl, x, rfl, k2.tab, lt2, fun H3 k3 => ⟨true, rfl, iteF ?_⟩⟩
    refine ⟨_, rfl, _, rfl, k3.tab, ltx hz (by omega), fun H4 k4 => ⟨true, rfl, iteF ?_⟩⟩
    have ec1 : cutS (T l) (some 1) none = T (l.drop 1) := cut_from l 1
    refine ⟨_, rfl, 1, rfl, T l, rfl, hlT, _, rfl, k4.tab, ?_, fun H5 k5 => ⟨true, rfl, iteF ?_⟩⟩
    · rw [ec1]
      exact ltx (all_drop hz 1) (by rw [List.length_drop]; omega)
    have k15 : Kp P H1 H5 := k2.trans (k3.trans (k4.trans k5))
    have lt5 : LT H5 x := lt2.keep (k3.trans (k4.trans k5)) k2.tab
    -- way
    refine ⟨_, rfl, a, ns, 2, rfl, (k1.trans k15).seq tab hS, ?_⟩
    -- three ways to ask
    refine ⟨3, rfl, by decide, by decide, for_range (lo := 0) (n := 3) (fun i σ H' => Kp P H1 H' ∧ LT H' x ∧ ∃ y, σ = [some (.ref a), some (.str (T l)), some x, some (.int (ns.getD 2 0)), y, none, none]) ⟨k15, lt5, none, rfl⟩ (fun i σ H' hi hW => ?_) (fun σ H6 hW => ?_)⟩
    · obtain ⟨kp, lt, y, rfl⟩ := hW
      refine ⟨_, rfl, _, rfl, _, _, rfl, rfl, _, 3, rfl, rfl, show (3 : Int) ≠ 0 by decide, _, rfl, _, x, rfl, kp.tab, lt.thing, nox, fun H6 k6 => ⟨true, rfl, iteF (iteF ?_)⟩⟩
      exact ⟨kp.trans k6, lt.keep k6 kp.tab, _, rfl⟩
    obtain ⟨k6, lt6, y4, rfl⟩ := hW
    -- the text, where it reads otherwise
    refine ⟨_, rfl, rfl, _, rfl, ite2 (fun c1 => ⟨_, rfl, _, rfl, l, rfl, hlS, rfl, _, rfl, ite2 (fun c2 => ?g1) (fun c2 => iteF ?g2)⟩) (fun c1 => iteF ?g3)⟩
    case g1 =>
      have nm : isM (.str (T l)) = false := by
        have hne : ¬ pal l = true := fun z => by
          rw [T_dec] at c2
          have z2 : decide (l = l.reverse) = true := z
          rw [z2] at c2
          cases c2
        rw [isM_T, show pal l = false by simpa using hne, Bool.and_false, Bool.and_false]
      refine ⟨_, rfl, _, 3, rfl, rfl, show (3 : Int) ≠ 0 by decide, _, rfl, _, _, rfl, k6.tab, .text l hlS, nm, fun H7 k7' => ⟨true, rfl, iteF ?_⟩⟩
      have k7 : Kp P H1 H7 := k6.trans k7'
      refine ⟨_, rfl, T l, rfl, hlT, _, 1, rfl, rfl, 1, ((T l).length : Int) + 1, 3, (Builtin.Range.rangeSize 1 (((T l).length : Int) + 1) 3).toNat, rfl, ⟨by decide, by decide, small3 (by rw [T_len]; omega) (by rw [T_len]; omega), PyProof.Rows.rangeSize_toNat _ _ _⟩, ?_⟩
      refine for_rangeC (lo := 1) (c := 3) (n := (Builtin.Range.rangeSize 1 (((T l).length : Int) + 1) 3).toNat) (fun i σ H' => Kp P H1 H' ∧ ∃ y5 y6, σ = [some (.ref a), some (.str (T l)), some x, some (.int (ns.getD 2 0)), y4, y5, y6]) ⟨k7, none, none, rfl⟩ (fun i σ H8 hi hW => ?_) (fun σ H8 hW => q H8)
      obtain ⟨k8, y5, y6, rfl⟩ := hW
      have ee : (1 + (i : Int) * 3) = ((1 + 3 * i : Nat) : Int) := by omega
      have ec : cutS (T l) none (some (1 + (i : Int) * 3)) = T (l.take (1 + 3 * i)) := by
        rw [ee]
        exact cut_to _ _
      have zA := all_take hz (1 + 3 * i)
      have lA : (l.take (1 + 3 * i)).length ≤ 41 := by
        rw [List.length_take]
        omega
      generalize l.take (1 + 3 * i) = A at *
      have zB := all_rev zA
      have lB : A.reverse.length ≤ 41 := by
        rw [List.length_reverse]
        exact lA
      refine ⟨_, rfl, _, rfl, _, rfl, T l, rfl, hlT, A, congrArg (fun z => [V.str z]) ec, by omega, fun H9 p9 s9 hp9 f9 => ?_⟩
      refine ⟨1, rfl, p9, _, rfl, .inl (.inl f9), fun pa hpa => ?_⟩
      rw [cut_one]
      have s10 : Same H9 (upd H9 pa (.lst (((endsN A A.length).map sV).take 1))) := same_upd hpa
      have f10 : (upd H9 pa (.lst (((endsN A A.length).map sV).take 1))) pa = some (.lst (((endsN A A.length).map sV).take 1)) := upd_same
      generalize upd H9 pa (.lst (((endsN A A.length).map sV).take 1)) = H10 at *
      refine ⟨_, rfl, _, rfl, _, rfl, T l, rfl, hlT, A, congrArg V.str ec, by exact Nat.le_of_lt (small1000 (by omega)), A.reverse, rfl, by omega, fun H11 p11 s11 hp11 f11 => ?_⟩
      refine ⟨1, rfl, p11, _, rfl, .inl (.inl f11), fun pb hpb => ?_⟩
      rw [cut_one]
      have s12 : Same H11 (upd H11 pb (.lst (((endsN A.reverse A.reverse.length).map sV).take 1))) := same_upd hpb
      have f12 : (upd H11 pb (.lst (((endsN A.reverse A.reverse.length).map sV).take 1))) pb = some (.lst (((endsN A.reverse A.reverse.length).map sV).take 1)) := upd_same
      generalize upd H11 pb (.lst (((endsN A.reverse A.reverse.length).map sV).take 1)) = H12 at *
      refine ⟨pa, pb, _, _, rfl, rfl, s12 _ _ (s11 _ _ f10), f12, ?_, fun pc hpc => ?_⟩
      · rw [List.length_take, List.length_take]
        exact Nat.le_of_lt (small1000 (by omega))
      have em : ((endsN A A.length).map sV).take 1 ++ ((endsN A.reverse A.reverse.length).map sV).take 1 = ((endsN A A.length).take 1 ++ (endsN A.reverse A.reverse.length).take 1).map sV := by
        rw [List.map_append, List.map_take, List.map_take]
      rw [em]
      have hall : ∀ s ∈ (endsN A A.length).take 1 ++ (endsN A.reverse A.reverse.length).take 1, isM (.str (T s)) = true := fun s hs => by
        rcases List.mem_append.mp hs with h | h
        · exact mem_one h zA (by omega)
        · exact mem_one h zB (by omega)
      generalize (endsN A A.length).take 1 ++ (endsN A.reverse A.reverse.length).take 1 = ss at *
      have s13 : Same H12 (upd H12 pc (.lst (ss.map sV))) := same_upd hpc
      have f13 : (upd H12 pc (.lst (ss.map sV))) pc = some (.lst (ss.map sV)) := upd_same
      generalize upd H12 pc (.lst (ss.map sV)) = H13 at *
      have k13 : Kp P H1 H13 := k8.trans (.same k8.tab (s9.trans (s10.trans (s11.trans (s12.trans s13)))))
      refine ⟨pc, rfl, ⟨_, .inl (.inl f13)⟩, for_list (K := K) (a := pc) (xs := ss.map sV) (fun j σ H' => Kp P H13 H' ∧ ∃ y5 y6, σ = [some (.ref a), some (.str (T l)), some x, some (.int (ns.getD 2 0)), y4, y5, y6]) ⟨.refl k13.tab, _, _, rfl⟩ (fun j σ H' _ hW => .inl (.inl (hW.1.lst k13.tab f13))) (fun j y σ H' hy hW => ?_) (fun σ H' hW => ⟨k13.trans hW.1, hW.2⟩)⟩
      obtain ⟨kp, y5, y6, rfl⟩ := hW
      obtain ⟨s1, hs1, rfl⟩ := List.mem_map.mp (List.mem_of_getElem? hy)
      have hM := hall s1 hs1
      have hT := isM_isT hM
      refine ⟨_, rfl, _, rfl, kp.tab, ltx (isT_all hT) (isT_le hT), fun H14 k14 => ⟨true, rfl, iteF ?_⟩⟩
      refine ⟨_, rfl, s1, rfl, k14.tab, hM, fun H15 k15 => ⟨true, rfl, iteF ?_⟩⟩
      exact ⟨kp.trans (k14.trans k15), _, _, rfl⟩
    case g2 =>
      have k7 := k6
      refine ⟨_, rfl, T l, rfl, hlT, _, 1, rfl, rfl, 1, ((T l).length : Int) + 1, 3, (Builtin.Range.rangeSize 1 (((T l).length : Int) + 1) 3).toNat, rfl, ⟨by decide, by decide, small3 (by rw [T_len]; omega) (by rw [T_len]; omega), PyProof.Rows.rangeSize_toNat _ _ _⟩, ?_⟩
      refine for_rangeC (lo := 1) (c := 3) (n := (Builtin.Range.rangeSize 1 (((T l).length : Int) + 1) 3).toNat) (fun i σ H' => Kp P H1 H' ∧ ∃ y5 y6, σ = [some (.ref a), some (.str (T l)), some x, some (.int (ns.getD 2 0)), y4, y5, y6]) ⟨k7, none, none, rfl⟩ (fun i σ H8 hi hW => ?_) (fun σ H8 hW => q H8)
      obtain ⟨k8, y5, y6, rfl⟩ := hW
      have ee : (1 + (i : Int) * 3) = ((1 + 3 * i : Nat) : Int) := by omega
      have ec : cutS (T l) none (some (1 + (i : Int) * 3)) = T (l.take (1 + 3 * i)) := by
        rw [ee]
        exact cut_to _ _
      have zA := all_take hz (1 + 3 * i)
      have lA : (l.take (1 + 3 * i)).length ≤ 41 := by
        rw [List.length_take]
        omega
      generalize l.take (1 + 3 * i) = A at *
      have zB := all_rev zA
      have lB : A.reverse.length ≤ 41 := by
        rw [List.length_reverse]
        exact lA
      refine ⟨_, rfl, _, rfl, _, rfl, T l, rfl, hlT, A, congrArg (fun z => [V.str z]) ec, by omega, fun H9 p9 s9 hp9 f9 => ?_⟩
      refine ⟨1, rfl, p9, _, rfl, .inl (.inl f9), fun pa hpa => ?_⟩
      rw [cut_one]
      have s10 : Same H9 (upd H9 pa (.lst (((endsN A A.length).map sV).take 1))) := same_upd hpa
      have f10 : (upd H9 pa (.lst (((endsN A A.length).map sV).take 1))) pa = some (.lst (((endsN A A.length).map sV).take 1)) := upd_same
      generalize upd H9 pa (.lst (((endsN A A.length).map sV).take 1)) = H10 at *
      refine ⟨_, rfl, _, rfl, _, rfl, T l, rfl, hlT, A, congrArg V.str ec, by exact Nat.le_of_lt (small1000 (by omega)), A.reverse, rfl, by omega, fun H11 p11 s11 hp11 f11 => ?_⟩
      refine ⟨1, rfl, p11, _, rfl, .inl (.inl f11), fun pb hpb => ?_⟩
      rw [cut_one]
      have s12 : Same H11 (upd H11 pb (.lst (((endsN A.reverse A.reverse.length).map sV).take 1))) := same_upd hpb
      have f12 : (upd H11 pb (.lst (((endsN A.reverse A.reverse.length).map sV).take 1))) pb = some (.lst (((endsN A.reverse A.reverse.length).map sV).take 1)) := upd_same
      generalize upd H11 pb (.lst (((endsN A.reverse A.reverse.length).map sV).take 1)) = H12 at *
      refine ⟨pa, pb, _, _, rfl, rfl, s12 _ _ (s11 _ _ f10), f12, ?_, fun pc hpc => ?_⟩
      · rw [List.length_take, List.length_take]
        exact Nat.le_of_lt (small1000 (by omega))
      have em : ((endsN A A.length).map sV).take 1 ++ ((endsN A.reverse A.reverse.length).map sV).take 1 = ((endsN A A.length).take 1 ++ (endsN A.reverse A.reverse.length).take 1).map sV := by
        rw [List.map_append, List.map_take, List.map_take]
      rw [em]
      have hall : ∀ s ∈ (endsN A A.length).take 1 ++ (endsN A.reverse A.reverse.length).take 1, isM (.str (T s)) = true := fun s hs => by
        rcases List.mem_append.mp hs with h | h
        · exact mem_one h zA (by omega)
        · exact mem_one h zB (by omega)
      generalize (endsN A A.length).take 1 ++ (endsN A.reverse A.reverse.length).take 1 = ss at *
      have s13 : Same H12 (upd H12 pc (.lst (ss.map sV))) := same_upd hpc
      have f13 : (upd H12 pc (.lst (ss.map sV))) pc = some (.lst (ss.map sV)) := upd_same
      generalize upd H12 pc (.lst (ss.map sV)) = H13 at *
      have k13 : Kp P H1 H13 := k8.trans (.same k8.tab (s9.trans (s10.trans (s11.trans (s12.trans s13)))))
      refine ⟨pc, rfl, ⟨_, .inl (.inl f13)⟩, for_list (K := K) (a := pc) (xs := ss.map sV) (fun j σ H' => Kp P H13 H' ∧ ∃ y5 y6, σ = [some (.ref a), some (.str (T l)), some x, some (.int (ns.getD 2 0)), y4, y5, y6]) ⟨.refl k13.tab, _, _, rfl⟩ (fun j σ H' _ hW => .inl (.inl (hW.1.lst k13.tab f13))) (fun j y σ H' hy hW => ?_) (fun σ H' hW => ⟨k13.trans hW.1, hW.2⟩)⟩
      obtain ⟨kp, y5, y6, rfl⟩ := hW
      obtain ⟨s1, hs1, rfl⟩ := List.mem_map.mp (List.mem_of_getElem? hy)
      have hM := hall s1 hs1
      have hT := isM_isT hM
      refine ⟨_, rfl, _, rfl, kp.tab, ltx (isT_all hT) (isT_le hT), fun H14 k14 => ⟨true, rfl, iteF ?_⟩⟩
      refine ⟨_, rfl, s1, rfl, k14.tab, hM, fun H15 k15 => ⟨true, rfl, iteF ?_⟩⟩
      exact ⟨kp.trans (k14.trans k15), _, _, rfl⟩
    case g3 =>
      have k7 := k6
      refine ⟨_, rfl, T l, rfl, hlT, _, 1, rfl, rfl, 1, ((T l).length : Int) + 1, 3, (Builtin.Range.rangeSize 1 (((T l).length : Int) + 1) 3).toNat, rfl, ⟨by decide, by decide, small3 (by rw [T_len]; omega) (by rw [T_len]; omega), PyProof.Rows.rangeSize_toNat _ _ _⟩, ?_⟩
      refine for_rangeC (lo := 1) (c := 3) (n := (Builtin.Range.rangeSize 1 (((T l).length : Int) + 1) 3).toNat) (fun i σ H' => Kp P H1 H' ∧ ∃ y5 y6, σ = [some (.ref a), some (.str (T l)), some x, some (.int (ns.getD 2 0)), y4, y5, y6]) ⟨k7, none, none, rfl⟩ (fun i σ H8 hi hW => ?_) (fun σ H8 hW => q H8)
      obtain ⟨k8, y5, y6, rfl⟩ := hW
      have ee : (1 + (i : Int) * 3) = ((1 + 3 * i : Nat) : Int) := by omega
      have ec : cutS (T l) none (some (1 + (i : Int) * 3)) = T (l.take (1 + 3 * i)) := by
        rw [ee]
        exact cut_to _ _
      have zA := all_take hz (1 + 3 * i)
      have lA : (l.take (1 + 3 * i)).length ≤ 41 := by
        rw [List.length_take]
        omega
      generalize l.take (1 + 3 * i) = A at *
      have zB := all_rev zA
      have lB : A.reverse.length ≤ 41 := by
        rw [List.length_reverse]
        exact lA
      refine ⟨_, rfl, _, rfl, _, rfl, T l, rfl, hlT, A, congrArg (fun z => [V.str z]) ec, by omega, fun H9 p9 s9 hp9 f9 => ?_⟩
      refine ⟨1, rfl, p9, _, rfl, .inl (.inl f9), fun pa hpa => ?_⟩
      rw [cut_one]
      have s10 : Same H9 (upd H9 pa (.lst (((endsN A A.length).map sV).take 1))) := same_upd hpa
      have f10 : (upd H9 pa (.lst (((endsN A A.length).map sV).take 1))) pa = some (.lst (((endsN A A.length).map sV).take 1)) := upd_same
      generalize upd H9 pa (.lst (((endsN A A.length).map sV).take 1)) = H10 at *
      refine ⟨_, rfl, _, rfl, _, rfl, T l, rfl, hlT, A, congrArg V.str ec, by exact Nat.le_of_lt (small1000 (by omega)), A.reverse, rfl, by omega, fun H11 p11 s11 hp11 f11 => ?_⟩
      refine ⟨1, rfl, p11, _, rfl, .inl (.inl f11), fun pb hpb => ?_⟩
      rw [cut_one]
      have s12 : Same H11 (upd H11 pb (.lst (((endsN A.reverse A.reverse.length).map sV).take 1))) := same_upd hpb
      have f12 : (upd H11 pb (.lst (((endsN A.reverse A.reverse.length).map sV).take 1))) pb = some (.lst (((endsN A.reverse A.reverse.length).map sV).take 1)) := upd_same
      generalize upd H11 pb (.lst (((endsN A.reverse A.reverse.length).map sV).take 1)) = H12 at *
      refine ⟨pa, pb, _, _, rfl, rfl, s12 _ _ (s11 _ _ f10), f12, ?_, fun pc hpc => ?_⟩
      · rw [List.length_take, List.length_take]
        exact Nat.le_of_lt (small1000 (by omega))
      have em : ((endsN A A.length).map sV).take 1 ++ ((endsN A.reverse A.reverse.length).map sV).take 1 = ((endsN A A.length).take 1 ++ (endsN A.reverse A.reverse.length).take 1).map sV := by
        rw [List.map_append, List.map_take, List.map_take]
      rw [em]
      have hall : ∀ s ∈ (endsN A A.length).take 1 ++ (endsN A.reverse A.reverse.length).take 1, isM (.str (T s)) = true := fun s hs => by
        rcases List.mem_append.mp hs with h | h
        · exact mem_one h zA (by omega)
        · exact mem_one h zB (by omega)
      generalize (endsN A A.length).take 1 ++ (endsN A.reverse A.reverse.length).take 1 = ss at *
      have s13 : Same H12 (upd H12 pc (.lst (ss.map sV))) := same_upd hpc
      have f13 : (upd H12 pc (.lst (ss.map sV))) pc = some (.lst (ss.map sV)) := upd_same
      generalize upd H12 pc (.lst (ss.map sV)) = H13 at *
      have k13 : Kp P H1 H13 := k8.trans (.same k8.tab (s9.trans (s10.trans (s11.trans (s12.trans s13)))))
      refine ⟨pc, rfl, ⟨_, .inl (.inl f13)⟩, for_list (K := K) (a := pc) (xs := ss.map sV) (fun j σ H' => Kp P H13 H' ∧ ∃ y5 y6, σ = [some (.ref a), some (.str (T l)), some x, some (.int (ns.getD 2 0)), y4, y5, y6]) ⟨.refl k13.tab, _, _, rfl⟩ (fun j σ H' _ hW => .inl (.inl (hW.1.lst k13.tab f13))) (fun j y σ H' hy hW => ?_) (fun σ H' hW => ⟨k13.trans hW.1, hW.2⟩)⟩
      obtain ⟨kp, y5, y6, rfl⟩ := hW
      obtain ⟨s1, hs1, rfl⟩ := List.mem_map.mp (List.mem_of_getElem? hy)
      have hM := hall s1 hs1
      have hT := isM_isT hM
      refine ⟨_, rfl, _, rfl, kp.tab, ltx (isT_all hT) (isT_le hT), fun H14 k14 => ⟨true, rfl, iteF ?_⟩⟩
      refine ⟨_, rfl, s1, rfl, k14.tab, hM, fun H15 k15 => ⟨true, rfl, iteF ?_⟩⟩
      exact ⟨kp.trans (k14.trans k15), _, _, rfl⟩
end
end Mw
namespace Mw
open PySem PySem.Spec PyProof.Rows L2
theorem all_mk {l : PySem.W.OpenLaw} {qq : Program} {w : World} {K : PySem.W.Frag} {h : Heap} {mg : Str → Option Value} {fa : Addr} (X : K.In h) (G : h.Ns mainGlobals mg) (hfa : mg "law" = some (.ref fa))
    {f1 cc1 : Addr} {od1 an1 : Option Addr} {sl1 : Array (Option Value)} {oc1 kV1 dc1 pm1 ct1 : Value}
    (a1 : PySem.W.nsIn K mainGlobals "is_text" = some (some (.ref f1))) (l1 : K.lookup f1 = some ⟨oc1, od1, .func (PySem.W.fnOf "is_text" "is_text" (defArgs sIs) (defBody sIs) (defScope sIs) .none kV1 dc1 pm1 an1 (.ref cc1) ct1), sl1⟩) (c1 : PySem.W.codeIn K (.ref cc1) "is_text" = true) (k1 : PySem.W.keepIn K (.ref f1) = true)
    {f2 : Addr} {od2 an2 : Option Addr} {sl2 : Array (Option Value)} {oc2 kV2 dc2 pm2 ct2 cd2 : Value}
    (a2 : PySem.W.nsIn K mainGlobals "is_mirror" = some (some (.ref f2))) (l2 : K.lookup f2 = some ⟨oc2, od2, .func (PySem.W.fnOf "is_mirror" "is_mirror" (defArgs sMir) (defBody sMir) (defScope sMir) .none kV2 dc2 pm2 an2 cd2 ct2), sl2⟩) (c2 : PySem.W.codeIn K cd2 "is_mirror" = true) (k2 : PySem.W.keepIn K (.ref f2) = true)
    {f3 : Addr} {od3 an3 : Option Addr} {sl3 : Array (Option Value)} {oc3 kV3 dc3 pm3 ct3 cd3 : Value}
    (a3 : PySem.W.nsIn K mainGlobals "reads_alike" = some (some (.ref f3))) (l3 : K.lookup f3 = some ⟨oc3, od3, .func (PySem.W.fnOf "reads_alike" "reads_alike" (defArgs sAlike) (defBody sAlike) (defScope sAlike) .none kV3 dc3 pm3 an3 cd3 ct3), sl3⟩) (c3 : PySem.W.codeIn K cd3 "reads_alike" = true) (k3 : PySem.W.keepIn K (.ref f3) = true)
    {f4 : Addr} {od4 an4 : Option Addr} {sl4 : Array (Option Value)} {oc4 kV4 dc4 pm4 ct4 cd4 : Value}
    (a4 : PySem.W.nsIn K mainGlobals "inner" = some (some (.ref f4))) (l4 : K.lookup f4 = some ⟨oc4, od4, .func (PySem.W.fnOf "inner" "inner" (defArgs sInner) (defBody sInner) (defScope sInner) .none kV4 dc4 pm4 an4 cd4 ct4), sl4⟩) (c4 : PySem.W.codeIn K cd4 "inner" = true) (k4 : PySem.W.keepIn K (.ref f4) = true)
    {f5 : Addr} {od5 an5 : Option Addr} {sl5 : Array (Option Value)} {oc5 kV5 dc5 pm5 ct5 cd5 : Value}
    (a5 : PySem.W.nsIn K mainGlobals "tail" = some (some (.ref f5))) (l5 : K.lookup f5 = some ⟨oc5, od5, .func (PySem.W.fnOf "tail" "tail" (defArgs sTail) (defBody sTail) (defScope sTail) .none kV5 dc5 pm5 an5 cd5 ct5), sl5⟩) (c5 : PySem.W.codeIn K cd5 "tail" = true) (k5 : PySem.W.keepIn K (.ref f5) = true)
    {f6 : Addr} {od6 an6 : Option Addr} {sl6 : Array (Option Value)} {oc6 kV6 dc6 pm6 ct6 cd6 : Value}
    (a6 : PySem.W.nsIn K mainGlobals "chain" = some (some (.ref f6))) (l6 : K.lookup f6 = some ⟨oc6, od6, .func (PySem.W.fnOf "chain" "chain" (defArgs sChain) (defBody sChain) (defScope sChain) .none kV6 dc6 pm6 an6 cd6 ct6), sl6⟩) (c6 : PySem.W.codeIn K cd6 "chain" = true) (k6 : PySem.W.keepIn K (.ref f6) = true)
    {f7 : Addr} {od7 an7 : Option Addr} {sl7 : Array (Option Value)} {oc7 kV7 dc7 pm7 ct7 cd7 : Value}
    (a7 : PySem.W.nsIn K mainGlobals "refuse_no_mirror" = some (some (.ref f7))) (l7 : K.lookup f7 = some ⟨oc7, od7, .func (PySem.W.fnOf "refuse_no_mirror" "refuse_no_mirror" (defArgs sNoM) (defBody sNoM) (defScope sNoM) .none kV7 dc7 pm7 an7 cd7 ct7), sl7⟩) (c7 : PySem.W.codeIn K cd7 "refuse_no_mirror" = true) (k7 : PySem.W.keepIn K (.ref f7) = true)
    {f8 : Addr} {od8 an8 : Option Addr} {sl8 : Array (Option Value)} {oc8 kV8 dc8 pm8 ct8 cd8 : Value}
    (a8 : PySem.W.nsIn K mainGlobals "_law_draw" = some (some (.ref f8))) (l8 : K.lookup f8 = some ⟨oc8, od8, .func (PySem.W.fnOf "_law_draw" "_law_draw" (defArgs sDraw) (defBody sDraw) (defScope sDraw) .none kV8 dc8 pm8 an8 cd8 ct8), sl8⟩) (c8 : PySem.W.codeIn K cd8 "_law_draw" = true) (k8 : PySem.W.keepIn K (.ref f8) = true)
    {f9 : Addr} {od9 an9 : Option Addr} {sl9 : Array (Option Value)} {oc9 kV9 dc9 pm9 ct9 cd9 : Value}
    (a9 : PySem.W.nsIn K mainGlobals "_law_text" = some (some (.ref f9))) (l9 : K.lookup f9 = some ⟨oc9, od9, .func (PySem.W.fnOf "_law_text" "_law_text" (defArgs sText) (defBody sText) (defScope sText) .none kV9 dc9 pm9 an9 cd9 ct9), sl9⟩) (c9 : PySem.W.codeIn K cd9 "_law_text" = true) (k9 : PySem.W.keepIn K (.ref f9) = true)
    {f10 : Addr} {od10 an10 : Option Addr} {sl10 : Array (Option Value)} {oc10 kV10 dc10 pm10 ct10 cd10 : Value}
    (a10 : PySem.W.nsIn K mainGlobals "_law_odd" = some (some (.ref f10))) (l10 : K.lookup f10 = some ⟨oc10, od10, .func (PySem.W.fnOf "_law_odd" "_law_odd" (defArgs sOdd) (defBody sOdd) (defScope sOdd) .none kV10 dc10 pm10 an10 cd10 ct10), sl10⟩) (c10 : PySem.W.codeIn K cd10 "_law_odd" = true) (k10 : PySem.W.keepIn K (.ref f10) = true)
    {f11 : Addr} {od11 an11 : Option Addr} {sl11 : Array (Option Value)} {oc11 kV11 dc11 pm11 ct11 cd11 : Value}
    (a11 : PySem.W.nsIn K mainGlobals "_law_ends" = some (some (.ref f11))) (l11 : K.lookup f11 = some ⟨oc11, od11, .func (PySem.W.fnOf "_law_ends" "_law_ends" (defArgs sEnds) (defBody sEnds) (defScope sEnds) .none kV11 dc11 pm11 an11 cd11 ct11), sl11⟩) (c11 : PySem.W.codeIn K cd11 "_law_ends" = true) (k11 : PySem.W.keepIn K (.ref f11) = true)
    {f12 : Addr} {od12 an12 : Option Addr} {sl12 : Array (Option Value)} {oc12 kV12 dc12 pm12 ct12 cd12 : Value}
    (a12 : PySem.W.nsIn K mainGlobals "_law_asked" = some (some (.ref f12))) (l12 : K.lookup f12 = some ⟨oc12, od12, .func (PySem.W.fnOf "_law_asked" "_law_asked" (defArgs sAsk) (defBody sAsk) (defScope sAsk) .none kV12 dc12 pm12 an12 cd12 ct12), sl12⟩) (c12 : PySem.W.codeIn K cd12 "_law_asked" = true) (k12 : PySem.W.keepIn K (.ref f12) = true)
    {f13 : Addr} {od13 an13 : Option Addr} {sl13 : Array (Option Value)} {oc13 kV13 dc13 pm13 ct13 cd13 : Value}
    (a13 : PySem.W.nsIn K mainGlobals "_law_right" = some (some (.ref f13))) (l13 : K.lookup f13 = some ⟨oc13, od13, .func (PySem.W.fnOf "_law_right" "_law_right" (defArgs sRight) (defBody sRight) (defScope sRight) .none kV13 dc13 pm13 an13 cd13 ct13), sl13⟩) (c13 : PySem.W.codeIn K cd13 "_law_right" = true) (k13 : PySem.W.keepIn K (.ref f13) = true)
    {f14 : Addr} {od14 an14 : Option Addr} {sl14 : Array (Option Value)} {oc14 kV14 dc14 pm14 ct14 cd14 : Value}
    (a14 : PySem.W.nsIn K mainGlobals "_law_is" = some (some (.ref f14))) (l14 : K.lookup f14 = some ⟨oc14, od14, .func (PySem.W.fnOf "_law_is" "_law_is" (defArgs sLIs) (defBody sLIs) (defScope sLIs) .none kV14 dc14 pm14 an14 cd14 ct14), sl14⟩) (c14 : PySem.W.codeIn K cd14 "_law_is" = true) (k14 : PySem.W.keepIn K (.ref f14) = true)
    {f15 : Addr} {od15 an15 : Option Addr} {sl15 : Array (Option Value)} {oc15 kV15 dc15 pm15 ct15 cd15 : Value}
    (a15 : PySem.W.nsIn K mainGlobals "law" = some (some (.ref f15))) (l15 : K.lookup f15 = some ⟨oc15, od15, .func (PySem.W.fnOf "law" "law" (defArgs sLaw) (defBody sLaw) (defScope sLaw) .none kV15 dc15 pm15 an15 cd15 ct15), sl15⟩) (c15 : PySem.W.codeIn K cd15 "law" = true) (k15 : PySem.W.keepIn K (.ref f15) = true)
    (z1 : PySem.W.nsIn K mainGlobals "isinstance" = some none)
    (z2 : PySem.W.nsIn K mainGlobals "len" = some none)
    (z3 : PySem.W.nsIn K mainGlobals "all" = some none)
    (z4 : PySem.W.nsIn K mainGlobals "str" = some none)
    (z5 : PySem.W.nsIn K mainGlobals "range" = some none)
    (z6 : PySem.W.nsIn K mainGlobals "list" = some none)
    (z7 : PySem.W.nsIn K mainGlobals "bool" = some none)
    (z8 : PySem.W.nsIn K mainGlobals "ValueError" = some none)
    {C0 : Addr} (e0 : PySem.W.nsIn K mainGlobals "MirrorError" = some (some (.ref C0)))
    {C1 : Addr} (e1 : PySem.W.nsIn K mainGlobals "BadWord" = some (some (.ref C1)))
    {C2 : Addr} (e2 : PySem.W.nsIn K mainGlobals "BadArms" = some (some (.ref C2)))
    {C3 : Addr} (e3 : PySem.W.nsIn K mainGlobals "BadLetter" = some (some (.ref C3)))
    {C4 : Addr} (e4 : PySem.W.nsIn K mainGlobals "BadText" = some (some (.ref C4)))
    {C5 : Addr} (e5 : PySem.W.nsIn K mainGlobals "Full" = some (some (.ref C5)))
    {C6 : Addr} (e6 : PySem.W.nsIn K mainGlobals "NoPlace" = some (some (.ref C6)))
    {C7 : Addr} (e7 : PySem.W.nsIn K mainGlobals "NoText" = some (some (.ref C7)))
    {tm : Tok} (gm : PySem.W.nsIn K mainGlobals "MOST" = some (some (.int 200 tm)))
    {P : Addr} {q1 : Value} {q2 : Option Addr} {vs : Array Value} {q3 : Array (Option Value)} (lc : K.lookup cc1 = some ⟨q1, q2, .fields vs, q3⟩) (hv : vs[11]? = some (.ref P)) (nP : K.lookup P = none)
    (x1 : PySem.W.excIn K C1 [.type "ValueError", .type "Exception", .type "BaseException", .type "object"] "ValueError.__new__" = true) (x2 : PySem.W.keepIn K (.ref C1) = true) (x3 : PySem.W.subIn K (.ref C1) (.type "BaseException") = some true) (x4 : PySem.W.typeIn K (.ref C1) = some (.type "type"))
    (y1 : PySem.W.findIn K (.ref C1) "__getattribute__" = some (some (.builtin "BaseException.__getattribute__"))) (y2 : PySem.W.findIn K (.ref C1) "__getattr__" = some none) (y3 : PySem.W.hasDictIn K C1 = true) (y4 : PySem.W.findIn K (.ref C1) "__class__" = some (some (.builtin "object.__class__")))
    (y5 : PySem.W.specialIn K (.builtin "object.__class__") "__get__" = some (some (.builtin "getset_descriptor.__get__"))) (y6 : PySem.W.takesIn K (.builtin "object.__class__") = some true) (y7 : PySem.W.mroIn K C1 (.type "object") = some true)
    (t1 : PySem.W.exmOne K (.ref C1) (.ref C0) = some true) (t2 : PySem.W.kitAny K (.ref C1) [.ref C2, .ref C3, .ref C4, .ref C5, .ref C6, .ref C7] = some false) (t3 : PySem.W.kitOne K (.ref C1) (.ref C1) = some true) (t4 : PySem.W.kitOne K (.ref C1) (.type "ValueError") = some true)
    (tabs : ∀ (y : Str) (c P : Addr), ((recsOf qq).find? (fun e => e.name == y)).isSome = true → PySem.W.tabIn K y = some (c, P) → PySem.W.CodeHd h c P ∧ h.get? P = some { cls := .none, data := .fields #[] })
    (isr : ((recsOf qq).find? (fun e => e.name == ("is_text" : Str))).isSome = true) :
    LamX.LawAtS l w K CX0 7 63 "_law_script" mg fa h := by
  have e := hfa.symm.trans (PySem.W.mg_of X G a15)
  cases e
  have F1 := fun_mk (st := sIs) l1 c1 k1
  have F2 := fun_mk (st := sMir) l2 c2 k2
  have F3 := fun_mk (st := sAlike) l3 c3 k3
  have F4 := fun_mk (st := sInner) l4 c4 k4
  have F5 := fun_mk (st := sTail) l5 c5 k5
  have F6 := fun_mk (st := sChain) l6 c6 k6
  have F7 := fun_mk (st := sNoM) l7 c7 k7
  have F8 := fun_mk (st := sDraw) l8 c8 k8
  have F9 := fun_mk (st := sText) l9 c9 k9
  have F10 := fun_mk (st := sOdd) l10 c10 k10
  have F11 := fun_mk (st := sEnds) l11 c11 k11
  have F12 := fun_mk (st := sAsk) l12 c12 k12
  have F13 := fun_mk (st := sRight) l13 c13 k13
  have F14 := fun_mk (st := sLIs) l14 c14 k14
  have F15 := fun_mk (st := sLaw) l15 c15 k15
  have b1 := F1.binds (ps := ["thing"]) fun _ _ _ _ _ _ us hl => match us, hl with | [_], _ => rfl
  have b2 := F2.binds (ps := ["thing"]) fun _ _ _ _ _ _ us hl => match us, hl with | [_], _ => rfl
  have b3 := F3.binds (ps := ["text"]) fun _ _ _ _ _ _ us hl => match us, hl with | [_], _ => rfl
  have b4 := F4.binds (ps := ["word"]) fun _ _ _ _ _ _ us hl => match us, hl with | [_], _ => rfl
  have b5 := F5.binds (ps := ["word"]) fun _ _ _ _ _ _ us hl => match us, hl with | [_], _ => rfl
  have b6 := F6.binds (ps := ["word"]) fun _ _ _ _ _ _ us hl => match us, hl with | [_], _ => rfl
  have b7 := F7.binds (ps := ["word"]) fun _ _ _ _ _ _ us hl => match us, hl with | [_], _ => rfl
  have b8 := F8.binds (ps := ["_law_script", "_law_k"]) fun _ _ _ _ _ _ us hl => match us, hl with | [_, _], _ => rfl
  have b9 := F9.binds (ps := ["_law_script", "_law_first", "_law_most"]) fun _ _ _ _ _ _ us hl => match us, hl with | [_, _, _], _ => rfl
  have b10 := F10.binds (ps := ["_law_cell"]) fun _ _ _ _ _ _ us hl => match us, hl with | [_], _ => rfl
  have b11 := F11.binds (ps := ["_law_word"]) fun _ _ _ _ _ _ us hl => match us, hl with | [_], _ => rfl
  have b12 := F12.binds (ps := ["_law_way", "_law_thing"]) fun _ _ _ _ _ _ us hl => match us, hl with | [_, _], _ => rfl
  have b13 := F13.binds (ps := ["_law_word"]) fun _ _ _ _ _ _ us hl => match us, hl with | [_], _ => rfl
  have b14 := F14.binds (ps := ["_law_thing"]) fun _ _ _ _ _ _ us hl => match us, hl with | [_], _ => rfl
  have tb := tabs "is_text" cc1 P isr (tab_from a1 l1 rfl lc hv)
  have g : ∀ {x : Str} {v : Value}, PySem.W.nsIn K mainGlobals x = some (some v) → mg x = some v := fun e => PySem.W.mg_of X G e
  have gn : ∀ {x : Str}, PySem.W.nsIn K mainGlobals x = some none → mg x = none := fun e => PySem.W.mg_none_of X G e
  refine ⟨PySem.W.fnOf "law" "law" (defArgs sLaw) (defBody sLaw) (defScope sLaw) .none kV15 dc15 pm15 an15 cd15 ct15, [(cc1, P)], spLaw K P, fun p hp => ?_, fun p hp => ?_, fun p hp => ?_, fun s u => .of_eq rfl, fun H a ns _ _ hT hS => ⟨a, ns, rfl, ⟨#[], hT (cc1, P) List.mem_cons_self, trivial⟩, hS, fun _ => rfl⟩, fun base _ _ TB => ?_⟩
  · obtain rfl := List.mem_singleton.mp hp
    exact tb.2
  · obtain rfl := List.mem_singleton.mp hp
    exact nP
  · obtain rfl := List.mem_singleton.mp hp
    exact tb.1
  · have TB1 : GxR.TabB base mg cc1 P := ⟨(TB (cc1, P) List.mem_cons_self).code, (TB (cc1, P) List.mem_cons_self).bm, (TB (cc1, P) List.mem_cons_self).gP⟩
    have EB : ErrC K mg "BadWord" C1 := ⟨g e1, x1, x2, x3, x4⟩
    have N1 : Fn l.prog w K mg base CX0 1 "is_text" f1 _ ["thing"] (spIs K P) := ⟨ok_is F1 rfl TB1 (gn z1) (gn z2) (gn z3) (gn z4) (g gm), g a1, k1, b1⟩
    have N3 : Fn l.prog w K mg base CX0 1 "reads_alike" f3 _ ["text"] (spAlike) := ⟨ok_alike F3, g a3, k3, b3⟩
    have N2 : Fn l.prog w K mg base CX0 2 "is_mirror" f2 _ ["thing"] (spMir K P) := ⟨ok_mir F2 N1 N3 (gn z2), g a2, k2, b2⟩
    have N7 : Fn l.prog w K mg base (L2.CX l.prog w) 3 "refuse_no_mirror" f7 _ ["word"] (spNoM K P C1) := ⟨ok_nom F7 N2 EB, g a7, k7, b7⟩
    have N4 : Fn l.prog w K mg base (L2.CX l.prog w) 4 "inner" f4 _ ["word"] (spInner K P C1) := ⟨ok_inner F4 N7, g a4, k4, b4⟩
    have N6 : Fn l.prog w K mg base (L2.CX l.prog w) 4 "chain" f6 _ ["word"] (spChain K P C1) := ⟨ok_chain F6 N7 N3 (gn z2) (gn z5), g a6, k6, b6⟩
    have N5 : Fn l.prog w K mg base (L2.CX l.prog w) 5 "tail" f5 _ ["word"] (spTail K P C1) := ⟨ok_tail F5 N6 (gn z2), g a5, k5, b5⟩
    have N8 : Fn l.prog w K mg base CX0 1 "_law_draw" f8 _ ["_law_script", "_law_k"] (spDraw K) := ⟨ok_draw F8 (gn z2), g a8, k8, b8⟩
    have N9 : Fn l.prog w K mg base CX0 2 "_law_text" f9 _ ["_law_script", "_law_first", "_law_most"] (spText K) := ⟨ok_text F9 N8 (gn z2), g a9, k9, b9⟩
    have N10 : Fn l.prog w K mg base CX0 1 "_law_odd" f10 _ ["_law_cell"] (spOdd) := ⟨ok_odd F10, g a10, k10, b10⟩
    have N11 : Fn l.prog w K mg base CX0 1 "_law_ends" f11 _ ["_law_word"] (spEnds) := ⟨ok_ends F11 (gn z2) (gn z5), g a11, k11, b11⟩
    have N12 : Fn l.prog w K mg base CX0 6 "_law_asked" f12 _ ["_law_way", "_law_thing"] (spAsk K P) := ⟨ok_ask F12 N4 N5 N6 EB ⟨y1, y2, x3, y3, y4, y5, y6, y7⟩ (g e0) t1 (g e2) (g e3) (g e4) (g e5) (g e6) (g e7) t2 t3 t4 (gn z1) (gn z8), g a12, k12, b12⟩
    have N13 : Fn l.prog w K mg base CX0 6 "_law_right" f13 _ ["_law_word"] (spRight P) := ⟨ok_right F13 N4 N5 N6 N11 (gn z1) (gn z4) (gn z6), g a13, k13, b13⟩
    have N14 : Fn l.prog w K mg base CX0 3 "_law_is" f14 _ ["_law_thing"] (spLIs P) := ⟨ok_lis F14 N1 N2 (gn z1) (gn z2) (gn z4) (gn z7) (gn z3), g a14, k14, b14⟩
    exact ok_law F15 N8 N9 N10 N11 N12 N13 N14 N2 (gn z1) (gn z2) (gn z5) (gn z4)
end Mw
open PySem PySem.W PyProof.Rows
set_option maxHeartbeats 0 in
theorem PySem.Challenge.cw_mirrorwords_k01_mirror_words_holds : PySem.Challenge.rw_mirrorwords_k01_mirror_words.Holds := by
  w_on; o_law; k_head; (case hw => w_witness2)
  k_fill
  refine Mw.walk_tab (l := PySem.Challenge.rw_mirrorwords_k01_mirror_words) (n := 63) (k := 7) (x := "_law_script") (CX := fun _ => L2.CX0) rfl (by decide) rfl ⟨rfl, by decide, by decide⟩ (fun w h Y => PySem.W.kIn_of Y) ?F (fun _ _ _ _ _ h => h)
  case F =>
    intro w mg fa h tabs KX G hmg
    refine' Mw.all_mk KX G hmg ?a1 ?l1 ?c1 ?k1 ?a2 ?l2 ?c2 ?k2 ?a3 ?l3 ?c3 ?k3 ?a4 ?l4 ?c4 ?k4 ?a5 ?l5 ?c5 ?k5 ?a6 ?l6 ?c6 ?k6 ?a7 ?l7 ?c7 ?k7 ?a8 ?l8 ?c8 ?k8 ?a9 ?l9 ?c9 ?k9 ?a10 ?l10 ?c10 ?k10 ?a11 ?l11 ?c11 ?k11 ?a12 ?l12 ?c12 ?k12 ?a13 ?l13 ?c13 ?k13 ?a14 ?l14 ?c14 ?k14 ?a15 ?l15 ?c15 ?k15 ?z1 ?z2 ?z3 ?z4 ?z5 ?z6 ?z7 ?z8 ?e0 ?e1 ?e2 ?e3 ?e4 ?e5 ?e6 ?e7 ?gm ?lc ?hv ?nP ?x1 ?x2 ?x3 ?x4 ?y1 ?y2 ?y3 ?y4 ?y5 ?y6 ?y7 ?t1 ?t2 ?t3 ?t4 tabs (by decide +kernel)
    (case a1 => k_is); (case l1 => k_is); (case c1 => k_is); (case k1 => k_is); (case a2 => k_is); (case l2 => k_is); (case c2 => k_is); (case k2 => k_is); (case a3 => k_is); (case l3 => k_is); (case c3 => k_is); (case k3 => k_is); (case a4 => k_is); (case l4 => k_is); (case c4 => k_is); (case k4 => k_is); (case a5 => k_is); (case l5 => k_is); (case c5 => k_is); (case k5 => k_is); (case a6 => k_is); (case l6 => k_is); (case c6 => k_is); (case k6 => k_is); (case a7 => k_is); (case l7 => k_is); (case c7 => k_is); (case k7 => k_is); (case a8 => k_is); (case l8 => k_is); (case c8 => k_is); (case k8 => k_is); (case a9 => k_is); (case l9 => k_is); (case c9 => k_is); (case k9 => k_is); (case a10 => k_is); (case l10 => k_is); (case c10 => k_is); (case k10 => k_is); (case a11 => k_is); (case l11 => k_is); (case c11 => k_is); (case k11 => k_is); (case a12 => k_is); (case l12 => k_is); (case c12 => k_is); (case k12 => k_is); (case a13 => k_is); (case l13 => k_is); (case c13 => k_is); (case k13 => k_is); (case a14 => k_is); (case l14 => k_is); (case c14 => k_is); (case k14 => k_is); (case a15 => k_is); (case l15 => k_is); (case c15 => k_is); (case k15 => k_is); (case z1 => k_is); (case z2 => k_is); (case z3 => k_is); (case z4 => k_is); (case z5 => k_is); (case z6 => k_is); (case z7 => k_is); (case z8 => k_is); (case e0 => k_is); (case e1 => k_is); (case e2 => k_is); (case e3 => k_is); (case e4 => k_is); (case e5 => k_is); (case e6 => k_is); (case e7 => k_is); (case gm => k_is); (case lc => k_is); (case hv => exact rfl); (case nP => kernel_rfl); (case x1 => k_exc); (case x2 => k_is); (case x3 => k_is); (case x4 => k_is); (case y1 => k_is); (case y2 => k_is); (case y3 => k_is); (case y4 => k_is); (case y5 => k_is); (case y6 => k_is); (case y7 => k_is); (case t1 => kernel_rfl); (case t2 => kernel_rfl); (case t3 => kernel_rfl); (case t4 => kernel_rfl)
