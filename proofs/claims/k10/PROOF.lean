import PyProof.Rows.All
import Wide.All
import OpenK.AllK
import Wide.FinOn
import HandS.ForMost
import HandS.ForExc
import HandS.AnyAll
import HandS.IsInst
import HandS.ExcIs
import HandS.ExcValue
import HandS.EndTab
import HandS.Walk
import KE.DataMinMax
import HandS.Conv
import HandS.Style
import HandS.Codes
import HandS.DictComp
import HandS.RevRange
import HandS.SetTxt0
import HandS.Set
import HandS.SetBool
import HandS.Strs
import KE.SortKeyHeap
import KE.DataMinKey
import HandS.SortKw
import PyProof.StrLawsFirst
import PyProof.StrLawsIn
import HandS.SetKeys
import HandS.Iter
import HandS.Replace
import HandS.Defaults
import HandS.Zip
import PyProof.StrWalks
import PySem.Challenge.RW_mirrorwords_k10_whole_books_and_arms
set_option Elab.async false
set_option linter.all false
set_option maxRecDepth 100000
set_option maxHeartbeats 4000000
namespace Mw
open PySem PySem.Spec PyProof.Rows L2

/-! ### texts as lists of codes -/
def T (l : List Nat) : Str := ⟨l.toArray⟩
theorem T_tl (z : Str) : T (TL.tl z) = z := TL.ext_tl rfl
theorem tl_T (l : List Nat) : TL.tl (T l) = l := rfl
theorem T_len (l : List Nat) : (T l).length = l.length := by
  rw [TL.len_tl, tl_T]
theorem T_inj {a b : List Nat} (h : T a = T b) : a = b := congrArg TL.tl h
theorem T_app (a b : List Nat) : T a ++ T b = T (a ++ b) := TL.ext_tl (by rw [TL.tl_append]; rfl)
theorem T_dec (a b : List Nat) : decide (V.str (T a) = V.str (T b)) = decide (a = b) := by
  by_cases e : a = b
  · rw [e, decide_eq_true rfl, decide_eq_true rfl]
  · rw [decide_eq_false e, decide_eq_false fun z => e (T_inj (V.str.inj z))]

/-! ### the text read from behind -/
section
variable {X : Cx}
def tRevS (te : TE) : TE := fun σ H Q => te σ H fun x H1 => ∃ l : List Nat, x = .str (T l) ∧ l.length ≤ sizeLine ∧ Q (.str (T l.reverse)) H1
theorem rev_codes (l : List Nat) (u : Tok) : Txt.sliceBy (T l) none none (-1, u) = T l.reverse := by
  refine TL.ext_tl ?_
  show (Txt.sliceBy (T l) none none (-1, u)).cps.toList = l.reverse
  rw [step_rev_list, T_len]
  apply List.ext_getElem
  · rw [List.length_map, List.length_range, List.length_reverse]
  · intro i h1 h2
    have hi : i < l.length := by
      rw [List.length_reverse] at h2
      exact h2
    rw [List.getElem_map, List.getElem_range, List.getElem_reverse]
    show (l.toArray).getD (l.length - 1 - i) 0 = _
    have hj : l.length - 1 - i < l.length := by omega
    simp [Array.getD, hj]
theorem pe_revS {e : Expr} {te : TE} {k : Nat} {p1 p2 p3 pos : Pos} (he : PE X e te) : PE X (.Subscript e (.Slice none none (some (.UnaryOp .USub (.Constant (.int 1) k p1) p2)) p3) pos) (tRevS te) := by
  constructor
  intro pins s σ H Q I h
  refine Subscript_ (thn (he.run pins s σ H _ I h) fun v s1 hv => ?_)
  obtain ⟨x, H1, I1, r1, l, ex, hz, q⟩ := hv
  subst ex
  obtain ⟨t, rfl⟩ := r1
  have hst : PO X (some (.UnaryOp .USub (.Constant (.int 1) k p1) p2)) (tPart (tUn (rU fun i => .int (-i)) (tC (.int 1)))) := po_some (pe_un un_neg pe_int)
  refine wpAny_Slice (thn (po_none.run pins s1 σ H1 (fun o G => o = none ∧ G = H1) I1 ⟨rfl, rfl⟩) fun vl s2 hl => ?_)
  obtain ⟨o1, G1, J1, pl, rfl, rfl⟩ := hl
  refine thn (po_none.run pins s2 σ G1 (fun o G => o = none ∧ G = G1) J1 ⟨rfl, rfl⟩) fun vu s3 hu => ?_
  obtain ⟨o2, G2, J2, pu, rfl, rfl⟩ := hu
  refine thn (hst.run pins s3 σ G2 (fun o G => o = some (-1) ∧ G = G2) J2 ⟨1, rfl, -1, rfl, rfl, rfl⟩) fun vs s4 hs => ?_
  obtain ⟨o3, G3, J3, ps, rfl, rfl⟩ := hs
  have K5 : Inv X pins σ G3 { s4 with heap := s4.heap.push { cls := .type "slice", data := .fields #[vl, vu, vs] } } := J3.kept (t' := s4.toks) fun b ob z => Heap.get?_push_of_some _ z
  cases pl
  cases pu
  cases ps with
  | int i u =>
    refine tail_any (ops := [.str (T l) t, .ref s4.heap.objs.size]) (typeIs_str _ _ _) F.slot_str_getitem.lookup ?_ (by with_unfolding_all rfl)
    refine wpAny_getItem_str_slice (l := none) (u := none) (st := some (-1, u)) ⟨_, Heap.get?_push_size _ rfl, rfl, rfl⟩ rfl ?_
    have hne : ¬ ((((some ((-1 : Int), u)).map (·.1)).getD 1 == 1 && (slicePicked (T l) none none (some (-1, u))).length == (T l).length) = true) := by
      intro z
      have z1 := (Bool.and_eq_true _ _ ▸ z).1
      exact absurd (show ((-1 : Int) == 1) = true from z1) (by decide)
    have e1 := rev_codes l u
    unfold Txt.sliceBy at e1
    rw [if_neg hne] at e1
    unfold sliceMade
    rw [if_neg hne, e1]
    refine ⟨?_, .str (T l.reverse), G3, K5.tok _, ⟨_, rfl⟩, q⟩
    show (T l.reverse).length ≤ sizeLine
    rw [T_len, List.length_reverse]
    exact hz
end
end Mw
namespace Mw
open PySem PySem.Spec PyProof.Rows L2

/-! ### a text n times -/
theorem fold_cat (c : Array Nat) : ∀ (n : Nat) (acc : List Nat), ((List.replicate n c).foldl (· ++ ·) acc.toArray) = (acc ++ (List.replicate n c.toList).flatten).toArray
  | 0, acc => by simp
  | n + 1, acc => by
    have e : acc.toArray ++ c = (acc ++ c.toList).toArray := by simp
    rw [List.replicate_succ, List.foldl_cons, e, fold_cat c n, List.replicate_succ, List.flatten_cons, List.append_assoc]
theorem mul_T (l : List Nat) {n : Nat} (hn : 1 ≤ n) : Txt.mul (T l) (n : Int) = T (List.replicate n l).flatten := by
  unfold Txt.mul
  rw [if_neg (show ¬ ((n : Int) < 1) by omega)]
  by_cases c : (((n : Int) == 1) || (T l).length == 0) = true
  · rw [if_pos c]
    rcases (Bool.or_eq_true _ _).mp c with h | h
    · have e : n = 1 := by
        have := eq_of_beq h
        omega
      subst e
      simp [T]
    · have e : l = [] := by
        have e0 := eq_of_beq h
        rw [T_len] at e0
        exact List.length_eq_zero_iff.mp e0
      subst e
      simp [T]
  · rw [if_neg c, Int.toNat_natCast]
    show (⟨(List.replicate n l.toArray).foldl (· ++ ·) ([] : List Nat).toArray⟩ : Str) = _
    rw [fold_cat]
    simp [T]
def rRepS : R2 := fun x y H Q => ∃ (l : List Nat) (n : Nat), x = .str (T l) ∧ y = .int (n : Int) ∧ 1 ≤ n ∧ l.length * n ≤ sizeLine ∧ n ≤ 1000 ∧ Q (.str (T (List.replicate n l).flatten)) H
theorem op_repS {X : Cx} : OpR X (binaryOp .Mult) rRepS := by
  intro pins s σ H x y v u Q I rx ry h
  obtain ⟨l, n, rfl, rfl, hn, hz, hk, q⟩ := h
  obtain ⟨t, rfl⟩ := rx
  obtain ⟨t2, rfl⟩ := ry
  have hz' : l.length * n ≤ 16777216 := by
    rw [← sizeLine_eq]
    exact hz
  have hl : l.length ≤ 16777216 := Nat.le_trans (Nat.le_mul_of_pos_right _ hn) hz'
  refine SB.mul ⟨?_, fun _ _ => ?_, fun _ _ => ?_⟩ fun t' k => ?_
  · rw [decide_eq_false (by omega), decide_eq_false (by omega)]
    rfl
  · rw [T_len]
    have h1 : ((16777216 : Int)) ≤ (2 ^ 63 - 1) / (n : Int) := by
      refine Int.le_ediv_of_mul_le (by omega) ?_
      have : (16777216 : Int) * n ≤ 16777216 * 1000 := by omega
      refine Int.le_trans this (by decide)
    omega
  · unfold Builtin.Str.tooLong
    rw [T_len, Int.toNat_natCast]
    exact decide_eq_false (by omega)
  · rw [mul_T l hn]
    exact ⟨.str _, H, I.tok k, ⟨t', rfl⟩, q⟩

/-! ### letters -/
def az (c : Nat) : Bool := decide (97 ≤ c) && decide (c ≤ 122)
theorem lt_one (a b : Nat) : decide (([a] : List Nat) < [b]) = decide (a < b) := by
  by_cases h : a < b
  · rw [decide_eq_true h]
    exact decide_eq_true (List.Lex.rel h)
  · rw [decide_eq_false h]
    refine decide_eq_false fun z => ?_
    cases z with
    | rel k => exact h k
    | cons k => cases k
theorem elt_az {prog : Program} {w : World} {scope : Scope} {x : Str} {j j2 : Nat} {p1 p2 p3 p4 : Pos} (hk : scope.kind = .function) (hl : scope.names.lookup x = some .local) (hd : (x == ("__debug__" : Str)) = false := by decide) :
    GxR.EltP prog w scope x (.Compare (.Constant (.str "a") j p1) [.LtE, .LtE] [.Name x p2, .Constant (.str "z") j2 p3] p4) az := by
  intro cenv A' E' c t s₂ m₂ hs hn hm
  have nm : ∀ {s3 : Shared} {Q : Value → Shared → Prop}, s3.heap.Ns cenv.locals m₂ → Q (.str ⟨#[c]⟩ t) s3 → wpAny (model prog w) A' (eval (.Name x p2) cenv) Q E' s3 := fun {s3 Q} hn3 q =>
    wpAny_Name (wpAny_loadName_local (by rw [hs]; exact hk) (show cenv.scope.names.lookup x = some .local by rw [hs]; exact hl) hn3 hm q) hd
  refine Compare_chain (Calls.Constant_str (chain_link (nm hn (PySem.P.le_str ?_)))) (by with_unfolding_all rfl)
  have e1 : (!decide (([c] : List Nat) < [97])) = decide (97 ≤ c) := by
    rw [lt_one]
    by_cases h : c < 97
    · rw [decide_eq_true h, decide_eq_false (by omega)] <;> rfl
    · rw [decide_eq_false h, decide_eq_true (by omega)] <;> rfl
  have e2 : (!decide (([122] : List Nat) < [c])) = decide (c ≤ 122) := by
    rw [lt_one]
    by_cases h : 122 < c
    · rw [decide_eq_true h, decide_eq_false (by omega)] <;> rfl
    · rw [decide_eq_false h, decide_eq_true (by omega)] <;> rfl
  show wpAny _ _ (truthy (.bool (!decide (([c] : List Nat) < [97])))) _ _ _
  rw [e1]
  refine wpAny_truthy_bool ?_
  unfold az
  by_cases h : 97 ≤ c
  · rw [decide_eq_true h]
    refine ite_tt (chain_last (Calls.Constant_str (PySem.P.le_str ?_)))
    show (Value.bool (!decide (([122] : List Nat) < [c])) = _) ∧ _
    rw [e2, Bool.true_and]
    exact ⟨rfl, GxR.keeps_tok _ _⟩
  · rw [decide_eq_false h]
    refine ite_ff ⟨?_, GxR.keeps_tok _ _⟩
    show Value.bool (!decide (([c] : List Nat) < [97])) = Value.bool (false && decide (c ≤ 122))
    rw [e1, decide_eq_false h, Bool.false_and]
theorem genS {env : Env} {scope : Scope} {x : Str} (h1 : scope.kind = .function) (h2 : scope.isCoroutine = false) (h3 : ∀ y ∈ scope.names, y.2 = .local) (h4 : scope.names.lookup (".0" : Str) = some NameKind.local) (h5 : scope.names.lookup x = some .local) :
    GxR.GenS env scope x := ⟨h1, h2, fun y hy e => (by rw [h3 y hy] at e; cases e), h4, h5, fun y hy e => (by rw [h3 y hy] at e; cases e)⟩
end Mw
namespace Mw
open PySem PySem.Spec PyProof.Rows L2

/-! ### a def whose code object is told -/
theorem okC {P : Program} {w : World} {K : PySem.W.Frag} {mg : Str → Option Value} {base : Heap} {x qual : Str} {st : Stmt} {f : Addr} {fd : FuncData} {N ps : List Str} {k : Nat} {sp : Sp}
    (F : Fun K x qual st f fd) (S : FnScope N ps (defScope st)) (len : ∀ vs H Q E, sp vs H Q E → vs.length = ps.length)
    (body : ∀ (A : Around) (outer : List Env) (s : Shared) (H : Hp) (vs : List V) (Q : VK) (E : XK), Room k (A.deeper (envOfC qual (defScope st) s.heap.objs.size f fd.code)) → sp vs H Q E →
      ∃ t, PSs (cxOf CX0 P w K mg base N qual (defScope st) f fd.code A outer s H E).nox (defBody st) t ∧ t { nx := fun _ H' => Q .non H', rt := Q } (start N vs) H) :
    FnOk P w K mg base CX0 (k + 1) f fd ps sp := by
  obtain ⟨oc, od, kV, doc, pm, an, cdv, ct, osl, rfl, lk, hcd⟩ := F.ex
  refine fn_of lk hcd S len ?_
  intro A outer s H vs Q E hr hsp
  obtain ⟨t, h, q⟩ := body A outer s H vs Q E hr hsp
  exact ⟨t, h.nox, q⟩

/-! ### the heap behind a call: all stays but the table at P -/
structure Kp (P : Addr) (H H' : Hp) : Prop where
  tab : GxR.TabG H' P
  keep : ∀ b o, b ≠ P → H b = some o → H' b = some o
theorem Kp.refl {P : Addr} {H : Hp} (t : GxR.TabG H P) : Kp P H H := ⟨t, fun _ _ _ h => h⟩
theorem Kp.trans {P : Addr} {H H1 H2 : Hp} (a : Kp P H H1) (b : Kp P H1 H2) : Kp P H H2 := ⟨b.tab, fun c o n h => b.keep c o n (a.keep c o n h)⟩
theorem Kp.tabbed {P : Addr} {H H' : Hp} (t : GxR.Tabbed P H H') : Kp P H H' := ⟨t.1, fun b o n h => by rw [t.2 b n]; exact h⟩
theorem Kp.same {P : Addr} {H H' : Hp} (t : GxR.TabG H P) (s : Same H H') : Kp P H H' := by
  obtain ⟨ps, h1, h2⟩ := t
  exact ⟨⟨ps, s _ _ h1, h2⟩, fun b o _ h => s b o h⟩
theorem Kp.new {P p : Addr} {H : Hp} {o : HO} (t : GxR.TabG H P) (n : H p = none) : Kp P H (upd H p o) := .same t fun b u e => by
  rw [upd_ne (ne_of_none e n)]
  exact e
theorem Kp.step {P p : Addr} {H H1 : Hp} {o : HO} (a : Kp P H H1) (n : H1 p = none) : Kp P H (upd H1 p o) := a.trans (.new a.tab n)
/-- a list of one's own is written: what stood ahead of it stays -/
theorem Kp.own {P p : Addr} {H H1 : Hp} {o : HO} (a : Kp P H H1) (n : H p = none) (hp : p ≠ P) : Kp P H (upd H1 p o) := by
  refine ⟨?_, fun b u nb h => ?_⟩
  · obtain ⟨ps, h1, h2⟩ := a.tab
    exact ⟨ps, by rw [upd_ne (Ne.symm hp)]; exact h1, h2⟩
  · rw [upd_ne (ne_of_none h n)]
    exact a.keep b u nb h
theorem tab_ne {P p : Addr} {H : Hp} {o : HO} (t : GxR.TabG H P) (h : H p = some o) (n : ∀ ps, o ≠ .tbl ps) : p ≠ P := by
  obtain ⟨ps, h1, _⟩ := t
  exact ne_of h h1 (n ps)
theorem new_ne {P p : Addr} {H : Hp} (t : GxR.TabG H P) (h : H p = none) : p ≠ P := by
  obtain ⟨ps, h1, _⟩ := t
  exact (ne_of_none h1 h).symm
theorem Kp.lst {P p : Addr} {H H' : Hp} {xs : List V} (a : Kp P H H') (t : GxR.TabG H P) (h : H p = some (.lst xs)) : H' p = some (.lst xs) := a.keep _ _ (tab_ne t h fun _ z => by cases z) h
theorem Kp.seq {P p : Addr} {K : PySem.W.Frag} {H H' : Hp} {xs : List V} (a : Kp P H H') (t : GxR.TabG H P) (h : SqL K H p xs) : SqL K H' p xs := by
  rcases h with (h | ⟨o, h⟩) | h
  · exact .inl (.inl (a.lst t h))
  · exact .inl (.inr ⟨o, a.keep _ _ (tab_ne t h fun _ z => by cases z) h⟩)
  · exact .inr h
theorem Kp.free {P : Addr} {H H' : Hp} (a : Kp P H H') (t : GxR.TabG H P) {p : Addr} (h : H' p = none) : H p = none := by
  cases q : H p with
  | none => rfl
  | some o =>
    by_cases e : p = P
    · obtain ⟨ps, h1, _⟩ := a.tab
      rw [← e, h] at h1
      cases h1
    · rw [a.keep p o e q] at h
      cases h

/-! ### the law's end: the tables of code objects, by what the top says of them -/
theorem tab_from {K : PySem.W.Frag} {x : Str} {f c P : Addr} {o1 : Value} {o2 : Option Addr} {fd : FuncData} {o3 : Array (Option Value)} {e1 : Value} {e2 : Option Addr} {vs : Array Value} {e3 : Array (Option Value)}
    (a : PySem.W.nsIn K mainGlobals x = some (some (.ref f))) (l : K.lookup f = some ⟨o1, o2, .func fd, o3⟩) (hc : fd.code = .ref c) (lc : K.lookup c = some ⟨e1, e2, .fields vs, e3⟩) (hv : vs[11]? = some (.ref P)) : PySem.W.tabIn K x = some (c, P) := by
  unfold PySem.W.tabIn
  rw [a]
  show (match K.lookup f with
    | some ⟨_, _, .func fd, _⟩ => _
    | _ => none) = _
  rw [l]
  show (match fd.code with
    | .ref c => _
    | _ => none) = _
  rw [hc]
  show (match K.lookup c with
    | some ⟨_, _, .fields vs, _⟩ => _
    | _ => none) = _
  rw [lc]
  show (match (vs[11]? : Option Value) with
    | some (.ref P) => some (c, P)
    | _ => none) = _
  rw [hv]
theorem walk_tab {l : PySem.W.OpenLaw} {n k : Nat} {q : Program} {loose : List Str} {XP : (Str → Option Value) → Heap → Prop} {YP : World → Heap → Prop} {d : DefRec} {K : Params → PySem.W.Frag} {CX : World → CXT} {x : Str}
    (hn : l.most = some n) (hn2 : n ≤ sizeLine) (hdf : d.params.defaults = []) (hr : Room k callerA) (hY : ∀ (w : World) (h : Heap), YP w h → (K w.params).In h)
    (F : ∀ (w : World) (mg : Str → Option Value) (fa : Addr) (h : Heap),
      (∀ (y : Str) (c P : Addr), ((recsOf q).find? (fun e => e.name == y)).isSome = true → PySem.W.tabIn (K w.params) y = some (c, P) → PySem.W.CodeHd h c P ∧ h.get? P = some { cls := .none, data := .fields #[] }) →
      (K w.params).In h → h.Ns mainGlobals mg → mg d.name = some (.ref fa) → LamX.LawAtS l w (K w.params) (CX w) k n x mg fa h)
    (hCX : ∀ (w : World) (H : Hp) (s : Shared) (e : Value) (s' : Shared), CX w [] H s (fun _ _ _ => False) e s' → False) :
    PySem.W.WalkO q loose XP YP l.row.toRowW d [] (fun f vs => PySem.call f vs) := by
  refine Att.attach_callB hn hdf ?_
  intro w s₀ s₁ mg mb fa o pm cd doc a vs ns G Y ho hd hcd hmg hobj hints hlen hbits hg
  have KX := hY w _ Y
  have hF := F w mg fa _ (fun y c P hy ht => by
    obtain ⟨dd, hdd⟩ := Option.isSome_iff_exists.mp hy
    exact PySem.W.tab_of G.T KX hdd ht) KX G.T.g hmg
  obtain ⟨fd, cs, sp, hT, nT, C, hb, hsp, hok⟩ := hF
  refine LamX.law_callTs KX G.T.g G.T.b G.T.builtins G.T.nolimit hg hT nT C G.T.bmain hobj hints (Nat.le_trans hlen hn2) hr hok hb ?_ fun H e s' => hCX w H s₁ e s'
  exact fun H hH hS => hsp H a ns hlen hbits hH hS

/-! ### an error that is kept behind its except suite -/
/-- an error of the class at C stands at a -/
def ExS (C a : Addr) : HO := .ext fun h => ∃ (oe : Obj) (vs : Array Value), h.get? a = some oe ∧ Zc (.ref C) none oe ∧ oe.data = .fields vs
theorem exS_ok {P : Program} {w : World} {H : Hp} {h : Heap} {a C : Addr} {oe : Obj} {vs : Array Value} (e : h.get? a = some oe) (z : Zc (.ref C) none oe) (d : oe.data = .fields vs) : ObjOk P w H h a (ExS C a) :=
  ⟨⟨oe, vs, e, z, d⟩, ⟨oe, e⟩, fun _ _ ⟨o, v, q, r⟩ k => ⟨o, v, k o q, r⟩⟩
theorem exS_ne {C a : Addr} : ∀ ps, ExS C a ≠ .tbl ps := fun ps z => by
  unfold ExS at z
  cases z
section
variable {X : Cx} {pins : List (Addr × Obj)} {σ : L2.St} {H : Hp} {s : Shared}
theorem unpin {a : Addr} {q : Addr × Obj} (I : Inv (X.suite a (q :: (X.pn ++ pins))) [] σ H s) (ok : X.Ok) : Inv X (q :: pins) σ H s := by
  refine ⟨ok, I.os, I.bare, I.base, I.loc, I.cell, I.free, I.freeC, fun p hp => I.pin p ?_, I.hok, I.len⟩
  rw [List.append_nil]
  rcases List.mem_append.mp hp with z | z
  · exact List.mem_cons_of_mem _ (List.mem_append_left _ z)
  · rcases List.mem_cons.mp z with e | z
    · rw [e]
      exact List.mem_cons_self
    · exact List.mem_cons_of_mem _ (List.mem_append_right _ z)
theorem track {a C : Addr} {oe : Obj} (J : Inv X ((a, oe) :: pins) σ H s) (hz : Zc (.ref C) none oe) (hd : ∃ vs, oe.data = .fields vs) (n0 : X.s_0.heap.get? a = none) (np : ∀ p ∈ X.pn ++ pins, p.1 ≠ a) :
    Inv X pins σ (upd H a (ExS C a)) s := by
  obtain ⟨ha, na, nL, nF, ncell⟩ := J.pin (a, oe) (List.mem_append_right _ List.mem_cons_self)
  have ha : s.heap.get? a = some oe := ha
  have na : H a = none := na
  have nL : a ≠ X.env.locals := nL
  obtain ⟨vs, hv⟩ := hd
  have tr : ∀ b u, H b = some u → upd H a (ExS C a) b = some u := fun b u e => by
    rw [upd_ne (ne_of_none e na)]
    exact e
  have ns : ∀ b o, X.s_0.heap.get? b = some o → b ≠ a := fun b o e z => by
    rw [z, n0] at e
    cases e
  refine ⟨J.ok, J.os, J.bare, ⟨J.base.keep, J.base.slot, fun b o e n hx => ?_, J.base.there, fun b xs e => tr _ _ (J.base.tups b xs e), fun b o u e => tr _ _ (J.base.frzs b o u e), fun b ps e => ?_⟩, J.loc, J.cell, ?_, fun x c e => ?_, fun p hp => ?_, fun b u e => ?_, J.len⟩
  · rw [upd_ne (ns b o e)]
    exact J.base.free b o e n hx
  · obtain ⟨m, e1⟩ := J.base.tbls b ps e
    exact ⟨m, tr _ _ e1⟩
  · rw [upd_ne (Ne.symm nL)]
    exact J.free
  · have nc : c ≠ a := fun z => by
      obtain ⟨v, o, ho, hdc⟩ := J.cell x c e
      rw [z, ha] at ho
      cases ho
      exact ncell v hdc
    rw [upd_ne nc]
    exact J.freeC x c e
  · have hp' : p ∈ X.pn ++ ((a, oe) :: pins) := by
      rcases List.mem_append.mp hp with z | z
      · exact List.mem_append_left _ z
      · exact List.mem_append_right _ (List.mem_cons_of_mem _ z)
    obtain ⟨e, n, r⟩ := J.pin p hp'
    exact ⟨e, by rw [upd_ne (np p hp)]; exact n, r⟩
  · by_cases hb : b = a
    · subst hb
      rw [upd_same] at e
      cases e
      exact exS_ok ha hz hv
    · rw [upd_ne hb] at e
      exact (J.hok b u e).stay (fun c w _ q => q) (fun c q => tr _ _ q) fun c xs q => tr _ _ q
end
end Mw
namespace Mw
open PySem PySem.Spec PyProof.Rows L2

/-! ### try: body, except c as n: suite, where the clause takes all that the body raises; the error stays known behind it -/
def wKeep (K : PySem.W.Frag) (c : Value) (i : Nat) (ts : Addr → TS) (D : Ends) : WX := fun cls d σ H =>
  PySem.W.exmOne K cls c = some true ∧ d = none ∧ ∃ C, cls = .ref C ∧ ∀ a, H a = none →
    ts a { nx := fun σ' H' => D.nx (σ'.set i none) (upd H' a (ExS C a)), rt := fun _ _ => False } (σ.set i (some (.ref a))) H
section
variable {X : Cx} {x n : Str} {c : Value} {i : Nat} {body suite : List Stmt} {b₀ : Stmt} {np pos pos' : Pos} {tb : WX → TS} {ts : Addr → TS}
theorem ps_tryK (hs : X.stack = X.env :: X.outer) (hf : X.env.frame = some X.env.locals) (hex : X.ex = []) (hN : X.N.Nodup) (hi : X.N[i]? = some n) (hln : X.env.kindOf n = some .local) (hc : Names X x c)
    (hb : ∀ (W : WX) (pn : List (Addr × Obj)) (xe : Value → Shared → Prop), Takes (X.tr pn xe) W → PassesOwn (model X.prog X.w) X.A X.env xe → PSs (X.tr pn xe) body (tb W))
    (hsu : ∀ (a : Addr) (pn : List (Addr × Obj)), PSs (X.suite a pn) (b₀ :: suite) (ts a)) :
    PS X (.Try body [.ExceptHandler (some (.Name x np)) (some n) (b₀ :: suite) pos'] [] [] pos) (fun D σ H => tb (wKeep X.K c i ts D) D σ H) := by
  constructor
  intro pins s σ H D I h
  have ok := I.ok
  have hfr : X.A.frames = some (X.env :: X.outer) := by
    rw [ok.frames, hs]
  have caught : ∀ (u : Value) (s' : Shared), XE (X.tr (X.pn ++ pins) fun _ _ => True) (wKeep X.K c i ts D) u s' →
      wpAny (model X.prog X.w) X.A (noteFrame u X.env) (fun _ s₂ => wpAny (model X.prog X.w) X.A (setFlight u none) (fun _ s₃ =>
        wpAny (model X.prog X.w) X.A (handleBy u X.env [.ExceptHandler (some (.Name x np)) (some n) (b₀ :: suite) pos']) (SP X pins D) X.xe s₃) X.xe s₂) X.xe s' := by
    intro u s' xx
    obtain ⟨a, B, sI, pins', σ', H', cls, d, rfl, J', nb, up, sky, na, os, ag, hm, rfl, C, rfl, hyes⟩ := xx
    have J : Inv X pins σ' H' sI := J'.ofTry ok
    have sky2 : Sky B (X.env :: X.outer) a (Zc (.ref C) none) X.env.locals s'.heap := hs ▸ sky
    refine Sky.land Zc.steady hfr hf sky2 fun h3 fl3 up3 => ?_
    have J3 : Inv X pins σ' H' { s' with heap := h3 } := J.landed nb fl3.1 (up.trans up3) os ag
    obtain ⟨oe3, vs3, he3, hz3, hd3⟩ := fl3.there
    have nfr : a ∉ frs (X.env :: X.outer) := fun hm => by
      obtain ⟨_, o', e', hnf⟩ := fl3.2.2.1.mem hm
      rw [he3] at e'
      cases e'
      exact hnf _ hd3
    have nL : a ≠ X.env.locals := fun z => nfr (List.mem_filterMap.mpr ⟨X.env, List.mem_cons_self, by rw [hf, z]⟩)
    have nF : a ∉ X.fs := fun z => by
      obtain ⟨e, he, q⟩ := List.mem_filterMap.mp z
      exact nfr (List.mem_filterMap.mpr ⟨e, List.mem_cons_of_mem _ he, q⟩)
    have nI : sI.heap.get? a = none := by
      cases q : sI.heap.get? a with
      | none => rfl
      | some o =>
        have z := nb a o q (by rw [show X.stack = X.env :: X.outer from hs]; exact nfr)
        rw [fl3.2.1] at z
        cases z
    have n0 : X.s_0.heap.get? a = none := by
      cases q : X.s_0.heap.get? a with
      | none => rfl
      | some o =>
        obtain ⟨o', z⟩ := J.base.there a o q (by rw [hex]; exact fun z => nomatch z)
        rw [nI] at z
        cases z
    have npin : ∀ p ∈ X.pn ++ pins, p.1 ≠ a := fun p hp z => by
      obtain ⟨e, _⟩ := J.pin p hp
      rw [z, nI] at e
      cases e
    have S3 := J3.suite he3 hd3 na nL nF
    refine wpAny_handleBy_cons (codeAny_handlers_test ?_) (by intro q; cases q)
    have LT : PySem.W.Looks (model X.prog X.w) h3 (typeOf (.ref a)) (.ref C) := fun A Q E s k q => wpAny_typeOf_ref (k _ _ he3) (by rw [hz3.1]; exact q)
    have LM := PySem.W.exm_one (M := model X.prog X.w) J3.kIn LT hm
    have test : ∀ {Q : Value → Shared → Prop} {E : Value → Shared → Prop}, Q c { s' with heap := h3 } → wpAny (model X.prog X.w) (X.A.mark (some (.ref a))) (eval (.Name x np) X.env) Q E { s' with heap := h3 } := by
      intro Q E q
      obtain ⟨hg, hdb, hm | ⟨hm, hv, hnn⟩⟩ := hc
      · exact ld_glob S3 hg hm q hdb
      · exact ld_blt S3 hg hm hv q hnn hdb
    refine test (LM.here ?_)
    refine codeAny_handlers_suite_as ?_
    refine HandSPX.lands_againZ fl3 fun h4 fl4 up4 => ?_
    have J4 : Inv X pins σ' H' { s' with heap := h4 } := J.landed nb fl4.1 ((up.trans up3).trans up4) os ag
    obtain ⟨oe4, vs4, he4, hz4, hd4⟩ := fl4.there
    have S4 := J4.suite he4 hd4 na nL nF
    refine store_ok (X := X.suite a ((a, oe4) :: (X.pn ++ pins))) (v := .ref a) S4 hN hi (.inl hln) rfl (fun s5 S5 => ?_) (.inr hln)
    refine wpAny_mono ((hsu a ((a, oe4) :: (X.pn ++ pins))).run [] s5 _ H' _ S5 (hyes a na)) (fun f s6 hsp => ?_) fun _ _ z => False.elim z
    cases f with
    | next =>
      obtain ⟨σ6, H6, S6, q6⟩ := hsp
      refine gone_ok (unpin S6 ok) hN hi hln fun s7 J7 => ?_
      exact ⟨_, _, track J7 hz4 ⟨_, hd4⟩ n0 npin, q6⟩
    | brk =>
      obtain ⟨_, _, _, q6⟩ := hsp
      exact q6.elim
    | cont =>
      obtain ⟨_, _, _, q6⟩ := hsp
      exact q6.elim
    | ret u =>
      obtain ⟨_, _, _, _, _, q6⟩ := hsp
      exact q6.elim
  refine wpAny_Try_except (wpAny_mono ((hb (wKeep X.K c i ts D) (X.pn ++ pins) _ (fun u s' xx => caught u s' ?_) PassesOwn.looking).run [] s σ H D (I.toTry _) h) (fun f s1 hsp => ?_) fun e s1 he => he)
  · obtain ⟨a, B, sI, pins', σ', H', cls, d, e, J', r⟩ := xx
    exact ⟨a, B, sI, pins', σ', H', cls, d, e, ⟨J'.ok.ofTry.toTry _ _, J'.os, J'.bare, J'.base, J'.loc, J'.cell, J'.free, J'.freeC, J'.pin, J'.hok, J'.len⟩, r⟩
  · cases f with
    | next =>
      obtain ⟨σ', H', J', q⟩ := hsp
      exact wpAny_execs_nil ⟨σ', H', J'.ofTry ok, q⟩
    | brk =>
      obtain ⟨σ', H', J', q⟩ := hsp
      exact ⟨σ', H', J'.ofTry ok, q⟩
    | cont =>
      obtain ⟨σ', H', J', q⟩ := hsp
      exact ⟨σ', H', J'.ofTry ok, q⟩
    | ret u =>
      obtain ⟨v, σ', H', J', r, q⟩ := hsp
      exact ⟨v, σ', H', J'.ofTry ok, r, q⟩
end

/-! ### isinstance of such an error -/
def rIsX (K : PySem.W.Frag) : List V → Hp → VK → Prop := fun xs H Q => ∃ (a C : Addr) (c : V) (cv : Value) (b : Bool), xs = [.ref a, c] ∧ ClsV c cv ∧ H a = some (ExS C a) ∧ ExcC K C ∧ PySem.W.kitOne K (.ref C) cv = some b ∧ Q (.bl b) H
def rIsXT (K : PySem.W.Frag) : List V → Hp → VK → Prop := fun xs H Q => ∃ (a C tp : Addr) (cs : List V) (us : List Value) (b : Bool), xs = [.ref a, .ref tp] ∧ H tp = some (.tup cs) ∧ Paired ClsV cs us ∧ H a = some (ExS C a) ∧ ExcC K C ∧
  PySem.W.kitAny K (.ref C) us = some b ∧ Q (.bl b) H
section
variable {X : Cx} {pins : List (Addr × Obj)} {σ : L2.St} {H : Hp} {s : Shared}
theorem inst_of {a C : Addr} (I : Inv X pins σ H s) (h : H a = some (ExS C a)) : ∃ oe, PySem.W.InstAt s.heap a oe C none := by
  obtain ⟨⟨oe, vs, e, hz, hv⟩, _⟩ := (show ObjOk X.prog X.w H s.heap a (ExS C a) from I.hok a _ h)
  refine ⟨oe, ?_⟩
  obtain ⟨oc, od, oda, osl⟩ := oe
  obtain ⟨h1, h2⟩ := hz
  dsimp only at h1 h2 hv
  subst h1 h2 hv
  exact ⟨e, rfl, rfl, trivial⟩
theorem call_isX : CallR X (.builtin "isinstance") (rIsX X.K) := by
  intro pins s σ H xs us Q I r h
  obtain ⟨a, C, c, cv, b, rfl, k, hx, E, e, q⟩ := h
  obtain ⟨u1, u2, rfl, r1, r2⟩ := vals2 r
  cases (show u1 = Value.ref a from r1)
  have e2 := k.eq r2
  subst e2
  obtain ⟨oe, J⟩ := inst_of I hx
  exact PySem.W.kia_one (PySem.W.handS_kitx_exc E.hg E.hk E.hs E.hd E.ha E.hn E.ht E.hm) I.kIn J e (fun z => nomatch z) fun tk => ⟨.bl b, H, I.tok tk, rfl, q⟩
theorem call_isXT : CallR X (.builtin "isinstance") (rIsXT X.K) := by
  intro pins s σ H xs us Q I r h
  obtain ⟨a, C, tp, cs, ws, b, rfl, hT, k, hx, E, e, q⟩ := h
  obtain ⟨u1, u2, rfl, r1, r2⟩ := vals2 r
  cases (show u1 = Value.ref a from r1)
  cases (show u2 = Value.ref tp from r2)
  obtain ⟨oe, J⟩ := inst_of I hx
  obtain ⟨_, its, rv, o, h1, h2, n, h3⟩ := (show ObjOk X.prog X.w H s.heap tp (.tup cs) from I.hok tp _ hT)
  have e3 := ClsV.all k rv
  subst e3
  obtain ⟨oc, od, dt, sl⟩ := o
  simp only at h2 h3
  subst h2 h3
  exact PySem.W.kia_tup (PySem.W.handS_kitx_exc E.hg E.hk E.hs E.hd E.ha E.hn E.ht E.hm) I.kIn J h1 e (fun z => nomatch z) fun tk => ⟨.bl b, H, I.tok tk, rfl, q⟩
end
end Mw
namespace Mw
/-! ### stretches that read alike from behind -/
def Pal (l : List Nat) (i j : Nat) : Prop := ∀ x, i ≤ x → x ≤ j → l[x]? = l[i + j - x]?
theorem pal_short {l : List Nat} {i j : Nat} (h : j ≤ i) : Pal l i j := fun x a b => by
  have e : i + j - x = x := by omega
  rw [e]
theorem pal_out {l : List Nat} {i j : Nat} (h : i < j) : Pal l i j ↔ Pal l (i + 1) (j - 1) ∧ l[i]? = l[j]? := by
  constructor
  · intro p
    refine ⟨fun x a b => ?_, ?_⟩
    · have z := p x (by omega) (by omega)
      have e : i + 1 + (j - 1) - x = i + j - x := by omega
      rw [e]
      exact z
    · have z := p i (Nat.le_refl _) (by omega)
      have e : i + j - i = j := by omega
      rw [e] at z
      exact z
  · intro ⟨p, e⟩ x a b
    by_cases c : x = i
    · have q : i + j - x = j := by omega
      rw [q, c]
      exact e
    · by_cases d : x = j
      · have q : i + j - x = i := by omega
        rw [q, d]
        exact e.symm
      · have z := p x (by omega) (by omega)
        have q : i + 1 + (j - 1) - x = i + j - x := by omega
        rw [q] at z
        exact z
/-- a stretch within a mirror word, seen from behind -/
theorem pal_turn {l : List Nat} {a b i j : Nat} (h : Pal l a b) (ai : a ≤ i) (jb : j ≤ b) (ij : i ≤ j) (p : Pal l i j) : Pal l (a + b - j) (a + b - i) := fun x u v => by
  have e1 := h x (by omega) (by omega)
  have e2 := p (a + b - x) (by omega) (by omega)
  have e3 := h (i + j - (a + b - x)) (by omega) (by omega)
  have q1 : a + b - (i + j - (a + b - x)) = a + b - j + (a + b - i) - x := by omega
  rw [q1] at e3
  rw [e1, e2, e3]
theorem pal_turn' {l : List Nat} {a b i j : Nat} (h : Pal l a b) (ai : a ≤ i) (jb : j ≤ b) (p : Pal l i j) : Pal l (a + b - j) (a + b - i) := by
  by_cases ij : i ≤ j
  · exact pal_turn h ai jb ij p
  · exact pal_short (by omega)
theorem pal_mid {l : List Nat} {i j : Nat} (h : Pal l i j) (k : Nat) (hk : i + k ≤ j) : Pal l (i + k) (j - k) := fun x a b => by
  have z := h x (by omega) (by omega)
  have e : i + k + (j - k) - x = i + j - x := by omega
  rw [e]
  exact z

/-! ### what arms say of two places -/
def tie (R : Nat → Nat) (i j : Nat) : Bool := decide (j < (i + j) / 2 + 1 + R (i + j))
def cut (R : Nat → Nat) (i j : Nat) : Bool := decide ((i + j) / 2 + 1 + R (i + j) = j)
/-- the letters: 97 .. 122 -/
def abcL : List Nat := (List.range 26).map (97 + ·)
def barred (R : Nat → Nat) (g : List Nat) (p : Nat) : List Nat := ((List.range p).filter fun i => cut R i p).map fun i => g.getD i 0
def nxt (R : Nat → Nat) (g : List Nat) : Nat :=
  match (List.range g.length).find? fun i => tie R i g.length with
  | some i => g.getD i 0
  | none => ((abcL.find? fun c => !(barred R g g.length).contains c)).getD 0
def gr (R : Nat → Nat) : Nat → List Nat
  | 0 => []
  | p + 1 => gr R p ++ [nxt R (gr R p)]
theorem gr_len (R : Nat → Nat) : ∀ p, (gr R p).length = p
  | 0 => rfl
  | p + 1 => by
    show (gr R p ++ [_]).length = p + 1
    rw [List.length_append, gr_len R p]
    rfl
theorem gr_at {R : Nat → Nat} {i : Nat} : ∀ {p : Nat}, i < p → (gr R p)[i]? = some (nxt R (gr R i))
  | p + 1, h => by
    show (gr R p ++ [_])[i]? = _
    by_cases c : i = p
    · rw [c, List.getElem?_append_right (by rw [gr_len]; exact Nat.le_refl _), gr_len, Nat.sub_self]
      rfl
    · rw [List.getElem?_append_left (by rw [gr_len]; omega)]
      exact gr_at (by omega)
theorem gr_take {R : Nat → Nat} {q : Nat} : ∀ {p : Nat}, q ≤ p → (gr R p).take q = gr R q
  | 0, h => by
    have e : q = 0 := by omega
    subst e
    rfl
  | p + 1, h => by
    by_cases c : q = p + 1
    · subst c
      exact List.take_of_length_le (by rw [gr_len]; exact Nat.le_refl _)
    · show (gr R p ++ [_]).take q = _
      rw [List.take_append_of_le_length (by rw [gr_len]; omega)]
      exact gr_take (by omega)

/-- R is what the arms of t say -/
structure Arms (t : List Nat) (R : Nat → Nat) : Prop where
  tie : ∀ i j, i < j → j < t.length → (tie R i j = true ↔ Pal t i j)
  cut : ∀ i j, i < j → j < t.length → (cut R i j = true ↔ Pal t (i + 1) (j - 1) ∧ ¬ t[i]? = t[j]?)
/-- a letter is left at each place that is tied to none -/
def Left (R : Nat → Nat) (n : Nat) : Prop := ∀ p, p < n → ((List.range p).find? fun i => tie R i p) = none → ∃ c, (abcL.find? fun c => !(barred R (gr R p) p).contains c) = some c

theorem nxt_tied {R : Nat → Nat} {p i : Nat} (h : ((List.range p).find? fun i => tie R i p) = some i) : nxt R (gr R p) = (gr R p).getD i 0 := by
  unfold nxt
  rw [gr_len, h]
theorem nxt_free {R : Nat → Nat} {p : Nat} (h : ((List.range p).find? fun i => tie R i p) = none) : nxt R (gr R p) = (abcL.find? fun c => !(barred R (gr R p) p).contains c).getD 0 := by
  unfold nxt
  rw [gr_len, h]
theorem gr_getD {R : Nat → Nat} {p i : Nat} (h : i < p) : (gr R p).getD i 0 = nxt R (gr R i) := by
  rw [List.getD_eq_getElem?_getD, gr_at h]
  rfl
theorem first_tied {R : Nat → Nat} {p i : Nat} (h : ((List.range p).find? fun i => tie R i p) = some i) : i < p ∧ tie R i p = true ∧ ∀ j, j < i → tie R j p = false := by
  obtain ⟨h1, as, bs, e, h2⟩ := List.find?_eq_some_iff_append.mp h
  have hl : as.length + bs.length + 1 = p := by
    have := congrArg List.length e
    rw [List.length_range, List.length_append, List.length_cons] at this
    omega
  have at_ : ∀ k, k < p → (as ++ i :: bs)[k]? = some k := fun k hk => by rw [← e, List.getElem?_range hk]
  have hi : as.length = i := by
    have z := at_ as.length (by omega)
    rw [List.getElem?_append_right (Nat.le_refl _), Nat.sub_self] at z
    exact (Option.some.inj z).symm
  refine ⟨by omega, h1, fun j hj => ?_⟩
  have z := at_ j (by omega)
  rw [List.getElem?_append_left (by omega)] at z
  have := h2 j (List.mem_of_getElem? z)
  simpa using this
theorem none_tied {R : Nat → Nat} {p : Nat} (h : ((List.range p).find? fun i => tie R i p) = none) : ∀ j, j < p → tie R j p = false := fun j hj => by
  have z := List.find?_eq_none.mp h j (List.mem_range.mpr hj)
  simpa using z
theorem mem_barred {R : Nat → Nat} {g : List Nat} {p c : Nat} : c ∈ barred R g p ↔ ∃ i, i < p ∧ cut R i p = true ∧ g.getD i 0 = c := by
  unfold barred
  rw [List.mem_map]
  constructor
  · rintro ⟨i, hi, e⟩
    obtain ⟨h1, h2⟩ := List.mem_filter.mp hi
    exact ⟨i, List.mem_range.mp h1, h2, e⟩
  · rintro ⟨i, h1, h2, e⟩
    exact ⟨i, List.mem_filter.mpr ⟨List.mem_range.mpr h1, h2⟩, e⟩
theorem free_letter {R : Nat → Nat} {p : Nat} {c : Nat} (h : (abcL.find? fun c => !(barred R (gr R p) p).contains c) = some c) : ¬ c ∈ barred R (gr R p) p := by
  have z := List.find?_some h
  simpa using z

/-- the text built letter by letter has the mirror words of each text with these arms -/
theorem gr_pal {t : List Nat} {R : Nat → Nat} (A : Arms t R) (L : Left R t.length) {n : Nat} (hn : t.length = n) : ∀ i j, i < j → j < n → (Pal (gr R n) i j ↔ Pal t i j) := by
  -- by the later place
  have key : ∀ p, p < n → ∀ i, i < p → (Pal (gr R n) i p ↔ Pal t i p) := by
    intro p
    induction p using Nat.strongRecOn with
    | ind p ih =>
    intro hp
    have ihp : ∀ i j, i < j → j < p → (Pal (gr R n) i j ↔ Pal t i j) := fun i j hij hj => ih j hj (by omega) i hij
    have inn : ∀ i j, j < p → (Pal (gr R n) i j ↔ Pal t i j) := fun i j hj => by
      by_cases c : i < j
      · exact ihp i j c hj
      · exact ⟨fun _ => pal_short (by omega), fun _ => pal_short (by omega)⟩
    have gat : ∀ i, i < n → (gr R n)[i]? = some (nxt R (gr R i)) := fun i hi => gr_at hi
    -- two places with a mirror word between them: alike in both or in none
    have alike : ∀ i j, i < j → j < p → Pal t (i + 1) (j - 1) → ((gr R n)[i]? = (gr R n)[j]? ↔ t[i]? = t[j]?) := by
      intro i j hij hj hP
      have z := ihp i j hij hj
      rw [pal_out hij, pal_out hij] at z
      have hG := (inn (i + 1) (j - 1) (by omega)).mpr hP
      exact ⟨fun e => (z.mp ⟨hG, e⟩).2, fun e => (z.mpr ⟨hP, e⟩).2⟩
    intro i hi
    rw [pal_out hi, pal_out hi, inn (i + 1) (p - 1) (by omega)]
    refine and_congr_right fun hP => ?_
    cases hf : (List.range p).find? fun i => tie R i p with
    | some q =>
      obtain ⟨hq, htq, hmin⟩ := first_tied hf
      have hpq : Pal t q p := (A.tie q p hq (by omega)).mp htq
      have hin := (pal_out hq).mp hpq
      have eg : (gr R n)[p]? = (gr R n)[q]? := by
        rw [gat p hp, gat q (by omega), nxt_tied hf, gr_getD hq]
      rw [eg, ← hin.2]
      by_cases c : i = q
      · subst c
        exact ⟨fun _ => rfl, fun _ => rfl⟩
      · by_cases d : q < i
        · -- seen within the mirror word between q and p
          have hGq := (inn (q + 1) (p - 1) (by omega)).mpr hin.1
          have e1 := hin.1 i (by omega) (by omega)
          have e2 := hGq i (by omega) (by omega)
          have q1 : q + 1 + (p - 1) - i = q + p - i := by omega
          rw [q1] at e1 e2
          rw [e1, e2]
          have hP2 := pal_turn' (i := i + 1) (j := p - 1) hin.1 (by omega) (by omega) hP
          have q2 : q + 1 + (p - 1) - (p - 1) = q + 1 := by omega
          have q3 : q + 1 + (p - 1) - (i + 1) = (q + p - i) - 1 := by omega
          rw [q2, q3] at hP2
          have z := alike q (q + p - i) (by omega) (by omega) hP2
          exact ⟨fun e => (z.mp e.symm).symm, fun e => (z.mpr e.symm).symm⟩
        · have hiq : i < q := by omega
          have nt : ¬ Pal t i p := fun w => by
            have z := (A.tie i p hi (by omega)).mpr w
            rw [hmin i hiq] at z
            cases z
          have ne : ¬ t[i]? = t[q]? := fun e => nt ((pal_out hi).mpr ⟨hP, by rw [e]; exact hin.2⟩)
          refine ⟨fun e => absurd ?_ ne, fun e => absurd e ne⟩
          have hG := (inn (i + 1) (p - 1) (by omega)).mpr hP
          have e1 := hP q (by omega) (by omega)
          have e2 := hG q (by omega) (by omega)
          have q1 : i + 1 + (p - 1) - q = i + p - q := by omega
          rw [q1] at e1 e2
          have hP2 := pal_turn' (i := q + 1) (j := p - 1) hP (by omega) (by omega) hin.1
          have q2 : i + 1 + (p - 1) - (p - 1) = i + 1 := by omega
          have q3 : i + 1 + (p - 1) - (q + 1) = (i + p - q) - 1 := by omega
          rw [q2, q3] at hP2
          have z := alike i (i + p - q) (by omega) (by omega) hP2
          rw [e1]
          exact z.mp (by rw [e, e2])
    | none =>
      have nt := none_tied hf i hi
      have ntp : ¬ Pal t i p := fun w => by
        have z := (A.tie i p hi (by omega)).mpr w
        rw [nt] at z
        cases z
      have ne : ¬ t[i]? = t[p]? := fun e => ntp ((pal_out hi).mpr ⟨hP, e⟩)
      have hc : cut R i p = true := (A.cut i p hi (by omega)).mpr ⟨hP, ne⟩
      refine ⟨fun e => absurd ?_ (fun z => z), fun e => absurd e ne⟩
      obtain ⟨c, hcf⟩ := L p (by omega) hf
      rw [gat i (by omega), gat p hp, nxt_free hf, hcf] at e
      exact free_letter hcf (mem_barred.mpr ⟨i, hi, hc, by rw [gr_getD hi]; exact Option.some.inj e⟩)
  exact fun i j hij hj => key j hj i hij
end Mw
namespace Mw
/-! ### the arm of a middle -/
def okAt (l : List Nat) (m j : Nat) : Bool := decide (j + 1 ≤ (m + 1) / 2) && (decide (m / 2 + 1 + j < l.length) && (l[(m + 1) / 2 - (j + 1)]? == l[m / 2 + 1 + j]?))
/-- the first place from k on, within f, where p holds no more -/
def lead (p : Nat → Bool) : Nat → Nat → Nat
  | 0, k => k
  | f + 1, k => if p k = true then lead p f (k + 1) else k
theorem lead_eq {p : Nat → Bool} : ∀ (f k0 k : Nat), k0 ≤ k → k ≤ k0 + f → (∀ j, k0 ≤ j → j < k → p j = true) → (k < k0 + f → p k = false) → lead p f k0 = k
  | 0, k0, k, h1, h2, _, _ => by
    show k0 = k
    omega
  | f + 1, k0, k, h1, h2, h3, h4 => by
    show (if p k0 = true then lead p f (k0 + 1) else k0) = k
    by_cases e : k0 = k
    · subst e
      rw [h4 (by omega), if_neg Bool.false_ne_true]
    · rw [if_pos (h3 k0 (Nat.le_refl _) (by omega))]
      exact lead_eq f (k0 + 1) k (by omega) (by omega) (fun j a b => h3 j (by omega) b) fun a => h4 (by omega)
theorem lead_spec {p : Nat → Bool} : ∀ (f k0 : Nat), k0 ≤ lead p f k0 ∧ lead p f k0 ≤ k0 + f ∧ (∀ j, k0 ≤ j → j < lead p f k0 → p j = true) ∧ (lead p f k0 < k0 + f → p (lead p f k0) = false)
  | 0, k0 => ⟨Nat.le_refl _, Nat.le_refl _, fun j a b => absurd b (by show ¬ j < k0; omega), fun h => absurd h (by show ¬ k0 < k0 + 0; omega)⟩
  | f + 1, k0 => by
    have ih := lead_spec (p := p) f (k0 + 1)
    by_cases c : p k0 = true
    · have e : lead p (f + 1) k0 = lead p f (k0 + 1) := if_pos c
      rw [e]
      refine ⟨by omega, by omega, fun j a b => ?_, fun h => ih.2.2.2 (by omega)⟩
      by_cases z : j = k0
      · rw [z]
        exact c
      · exact ih.2.2.1 j (by omega) b
    · have e : lead p (f + 1) k0 = k0 := if_neg c
      rw [e]
      exact ⟨Nat.le_refl _, by omega, fun j a b => absurd b (by omega), fun _ => by simpa using c⟩
def armL (l : List Nat) (m : Nat) : Nat := lead (okAt l m) l.length 0
theorem okAt_lt {l : List Nat} {m j : Nat} (h : okAt l m j = true) : m / 2 + 1 + j < l.length := by
  unfold okAt at h
  simp only [Bool.and_eq_true, decide_eq_true_eq] at h
  exact h.2.1
theorem armL_of {l : List Nat} {m k : Nat} (h : ∀ j, j < k → okAt l m j = true) (hk : okAt l m k = false) : armL l m = k := by
  refine lead_eq _ 0 k (Nat.zero_le _) ?_ (fun j _ b => h j b) fun _ => hk
  cases k with
  | zero => exact Nat.zero_le _
  | succ i =>
    have := okAt_lt (h i (Nat.lt_succ_self _))
    omega

theorem lead_succ (p : Nat → Bool) (i : Nat) : lead p (i + 1) 0 = if lead p i 0 = i ∧ p i = true then i + 1 else lead p i 0 := by
  obtain ⟨_, h2, h3, h4⟩ := lead_spec (p := p) i 0
  by_cases c : lead p i 0 = i ∧ p i = true
  · rw [if_pos c]
    refine lead_eq (i + 1) 0 (i + 1) (by omega) (by omega) (fun j _ b => ?_) fun z => absurd z (by omega)
    by_cases e : j = i
    · rw [e]
      exact c.2
    · exact h3 j (by omega) (by rw [c.1]; omega)
  · rw [if_neg c]
    refine lead_eq (i + 1) 0 _ (by omega) (by omega) h3 fun z => ?_
    by_cases e : lead p i 0 = i
    · rw [e]
      cases q : p i with
      | false => rfl
      | true => exact absurd ⟨e, q⟩ c
    · exact h4 (by omega)
theorem armL_end (l : List Nat) (m : Nat) : lead (okAt l m) (l.length - 1) 0 = armL l m := by
  unfold armL
  cases h : l.length with
  | zero => rfl
  | succ k =>
    rw [lead_succ]
    have z : ¬ (lead (okAt l m) k 0 = k ∧ okAt l m k = true) := fun c => by
      have := okAt_lt c.2
      omega
    rw [if_neg z]
    rfl

theorem okAt_of {l : List Nat} {m j : Nat} (h : okAt l m j = true) : j + 1 ≤ (m + 1) / 2 ∧ m / 2 + 1 + j < l.length ∧ l[(m + 1) / 2 - (j + 1)]? = l[m / 2 + 1 + j]? := by
  unfold okAt at h
  simp only [Bool.and_eq_true, decide_eq_true_eq, beq_iff_eq] at h
  exact ⟨h.1, h.2.1, h.2.2⟩
theorem okAt_iff {l : List Nat} {m j : Nat} : okAt l m j = true ↔ j + 1 ≤ (m + 1) / 2 ∧ m / 2 + 1 + j < l.length ∧ l[(m + 1) / 2 - (j + 1)]? = l[m / 2 + 1 + j]? := by
  refine ⟨okAt_of, fun h => ?_⟩
  unfold okAt
  simp only [Bool.and_eq_true, decide_eq_true_eq, beq_iff_eq]
  exact ⟨h.1, h.2.1, h.2.2⟩
theorem lt_armL {l : List Nat} {m k : Nat} : k < armL l m ↔ ∀ j, j ≤ k → okAt l m j = true := by
  obtain ⟨_, h2, h3, h4⟩ := lead_spec (p := okAt l m) l.length 0
  constructor
  · intro h j hj
    exact h3 j (Nat.zero_le _) (by unfold armL at h; omega)
  · intro h
    by_cases c : k < armL l m
    · exact c
    · have z : armL l m < 0 + l.length := by
        have := okAt_lt (h k (Nat.le_refl _))
        omega
      have q := h4 z
      rw [h _ (by unfold armL at c; omega)] at q
      cases q
theorem not_armL {l : List Nat} {m : Nat} : okAt l m (armL l m) = false := by
  cases h : okAt l m (armL l m) with
  | false => rfl
  | true =>
    have z : armL l m < armL l m := lt_armL.mpr fun j hj => by
      by_cases c : j = armL l m
      · rw [c]
        exact h
      · exact (lt_armL (k := j)).mp (by omega) j (Nat.le_refl _)
    omega
/-- places i < j and the middle between them -/
theorem pal_arm {l : List Nat} {i j : Nat} (hij : i < j) (hj : j < l.length) : Pal l i j ↔ j < (i + j) / 2 + 1 + armL l (i + j) := by
  have e1 : (i + j + 1) / 2 - (j - ((i + j) / 2 + 1) + 1) = i := by omega
  constructor
  · intro p
    have z : j - ((i + j) / 2 + 1) < armL l (i + j) := lt_armL.mpr fun k hk => okAt_iff.mpr ⟨by omega, by omega, by
      have q := p ((i + j + 1) / 2 - (k + 1)) (by omega) (by omega)
      have e : i + j - ((i + j + 1) / 2 - (k + 1)) = (i + j) / 2 + 1 + k := by omega
      rw [e] at q
      exact q⟩
    omega
  · intro h x a b
    have w := (lt_armL (l := l) (m := i + j) (k := j - ((i + j) / 2 + 1))).mp (by omega)
    by_cases c : x + x < i + j
    · have q := (okAt_of (w ((i + j + 1) / 2 - 1 - x) (by omega))).2.2
      have e2 : (i + j + 1) / 2 - ((i + j + 1) / 2 - 1 - x + 1) = x := by omega
      have e3 : (i + j) / 2 + 1 + ((i + j + 1) / 2 - 1 - x) = i + j - x := by omega
      rw [e2, e3] at q
      exact q
    · by_cases d : x + x = i + j
      · have e : i + j - x = x := by omega
        rw [e]
      · have q := (okAt_of (w (x - ((i + j) / 2 + 1)) (by omega))).2.2
        have e2 : (i + j + 1) / 2 - (x - ((i + j) / 2 + 1) + 1) = i + j - x := by omega
        have e3 : (i + j) / 2 + 1 + (x - ((i + j) / 2 + 1)) = x := by omega
        rw [e2, e3] at q
        exact q.symm
theorem pal_arm' {l : List Nat} {i j : Nat} (hij : i ≤ j + 1) (hj : j < l.length) : Pal l i j ↔ j < (i + j) / 2 + 1 + armL l (i + j) := by
  by_cases c : i < j
  · exact pal_arm c hj
  · exact ⟨fun _ => by omega, fun _ => pal_short (by omega)⟩
theorem cut_arm {l : List Nat} {i j : Nat} (hij : i < j) (hj : j < l.length) : (i + j) / 2 + 1 + armL l (i + j) = j ↔ Pal l (i + 1) (j - 1) ∧ ¬ l[i]? = l[j]? := by
  have z := pal_arm' (l := l) (i := i + 1) (j := j - 1) (by omega) (by omega)
  have e : i + 1 + (j - 1) = i + j := by omega
  rw [e] at z
  have y := pal_arm hij hj
  rw [pal_out hij] at y
  rw [z] at y ⊢
  constructor
  · intro h
    refine ⟨by omega, fun q => ?_⟩
    have := y.mp ⟨by omega, q⟩
    omega
  · intro ⟨h, q⟩
    have w : ¬ j < (i + j) / 2 + 1 + armL l (i + j) := fun v => q (y.mpr v).2
    omega
theorem arms_of (t : List Nat) : Arms t (armL t) := by
  refine ⟨fun i j hij hj => ?_, fun i j hij hj => ?_⟩
  · unfold tie
    rw [decide_eq_true_eq]
    exact (pal_arm hij hj).symm
  · unfold cut
    rw [decide_eq_true_eq]
    exact cut_arm hij hj
/-- texts as long with the same mirror words have the same arms -/
theorem armL_congr {a b : List Nat} (h : a.length = b.length) (p : ∀ i j, i < j → j < a.length → (Pal a i j ↔ Pal b i j)) (m : Nat) : armL a m = armL b m := by
  have ok : ∀ k, (∀ j, j ≤ k → okAt a m j = true) ↔ (∀ j, j ≤ k → okAt b m j = true) := fun k => by
    have half : ∀ (a b : List Nat), a.length = b.length → (∀ i j, i < j → j < a.length → (Pal a i j ↔ Pal b i j)) → (∀ j, j ≤ k → okAt a m j = true) → (∀ j, j ≤ k → okAt b m j = true) := by
      intro a b h p w j hj
      obtain ⟨w1, w2, _⟩ := okAt_of (w j hj)
      have lt : (m + 1) / 2 - (j + 1) < m / 2 + 1 + j := by omega
      have es : (m + 1) / 2 - (j + 1) + (m / 2 + 1 + j) = m := by omega
      have z := (pal_arm lt w2).mpr (by
        rw [es]
        have := (lt_armL (l := a) (m := m) (k := j)).mpr fun i hi => w i (by omega)
        omega)
      have z2 := (pal_arm lt (h ▸ w2)).mp ((p _ _ lt w2).mp z)
      rw [es] at z2
      exact (lt_armL (l := b) (m := m) (k := j)).mp (by omega) j (Nat.le_refl _)
    exact ⟨half a b h p, half b a h.symm fun i j x y => (p i j x (by omega)).symm⟩
  have lt : ∀ k, k < armL a m ↔ k < armL b m := fun k => by rw [lt_armL, lt_armL]; exact ok k
  have h1 := lt (armL a m)
  have h2 := lt (armL b m)
  omega
end Mw
namespace Mw
open PySem PySem.Spec PyProof.Rows L2
def isT : V → Bool
  | .str z => decide (z.length ≤ 200) && (TL.tl z).all az
  | _ => false
inductive Thing (K : PySem.W.Frag) (H : Hp) : V → Prop
  | text (l : List Nat) (h : l.length ≤ sizeLine) : Thing K H (.str (T l))
  | other {x : V} {n : String} (t : TyX K H x (.type n)) (k : kitB n "str" = some false) (no : isT x = false) : Thing K H x
def spIs (K : PySem.W.Frag) (P : Addr) : Sp := fun vs H Q _ => ∃ x, vs = [x] ∧ GxR.TabG H P ∧ Thing K H x ∧ ∀ H', GxR.Tabbed P H H' → Q (.bl (isT x)) H'

def spArmAt : Sp := fun vs H Q _ => ∃ (l : List Nat) (m : Nat), vs = [.str (T l), .int (m : Int)] ∧ l.length ≤ 200 ∧ Q (.int (armL l m : Nat)) H
theorem small200 {n : Nat} (h : n ≤ 200) : n ≤ sizeLine := Nat.le_trans h (by decide)
theorem sgn_dec (a b : Nat) : decide (V.str ⟨#[a]⟩ = V.str ⟨#[b]⟩) = decide (a = b) := by
  have z : decide (V.str (T [a]) = V.str (T [b])) = decide ([a] = [b]) := T_dec [a] [b]
  have e : decide ([a] = [b]) = decide (a = b) := by
    by_cases c : a = b
    · rw [c, decide_eq_true rfl, decide_eq_true rfl]
    · rw [decide_eq_false c, decide_eq_false fun q => c (List.cons.inj q).1]
  exact z.trans e

/-! ### the classes of refusals, as the top has written them -/
structure ErrC (K : PySem.W.Frag) (mg : Str → Option Value) (x : Str) (C : Addr) : Prop where
  g : mg x = some (.ref C)
  x : PySem.W.excIn K C [.type "ValueError", .type "Exception", .type "BaseException", .type "object"] "ValueError.__new__" = true
  k : PySem.W.keepIn K (.ref C) = true
  b : PySem.W.subIn K (.ref C) (.type "BaseException") = some true
  t : PySem.W.typeIn K (.ref C) = some (.type "type")
/-- a def with its promise, and what its callers ask -/
structure Fn (Pr : Program) (w : World) (K : PySem.W.Frag) (mg : Str → Option Value) (base : Heap) (CX : CXT) (k : Nat) (x : Str) (f : Addr) (fd : FuncData) (ps : List Str) (sp : Sp) : Prop where
  ok : FnOk Pr w K mg base CX k f fd ps sp
  g : mg x = some (.ref f)
  k : PySem.W.keepIn K (.ref f) = true
  b : Binds K fd ps []

def nV (n : Nat) : V := .int (n : Int)
def armsL (l : List Nat) : List Nat := (List.range (2 * l.length - 1)).map (armL l)
theorem armsL_len (l : List Nat) : (armsL l).length = 2 * l.length - 1 := by
  unfold armsL
  rw [List.length_map, List.length_range]
theorem armsL_take {l : List Nat} {i : Nat} (h : i < 2 * l.length - 1) : (armsL l).take (i + 1) = (armsL l).take i ++ [armL l i] := by
  rw [List.take_add_one]
  unfold armsL
  rw [List.getElem?_map, List.getElem?_range h]
  rfl


def spArms (K : PySem.W.Frag) (P BT : Addr) : Sp := fun vs H Q E => ∃ x, vs = [x] ∧ GxR.TabG H P ∧ Thing K H x ∧ (isT x = false → ∀ H', GxR.Tabbed P H H' → E (.ref BT) none H') ∧
  (isT x = true → ∀ l, x = .str (T l) → l.length ≤ 200 → ∀ H' p, Kp P H H' → H p = none → H' p = some (.lst ((armsL l).map nV)) → Q (.ref p) H')

def spDraw (K : PySem.W.Frag) : Sp := fun vs H Q _ => ∃ (a : Addr) (ns : List Int) (k : Nat), vs = [.ref a, .int (k : Int)] ∧ SqL K H a (ns.map V.int) ∧ Q (.int (ns.getD k 0)) H

theorem cut_len (xs : List V) (a b : Nat) : (cutV xs (some (a : Int)) (some ((a : Int) + (b : Int)))).length ≤ b := by
  unfold cutV
  have e : ((a : Int) + (b : Int)) = ((a + b : Nat) : Int) := by omega
  rw [e, HT.sIx_nat, HT.sIx_nat, List.length_take, List.length_drop]
  omega
theorem cut_map (ns : List Int) (lo hi : Option Int) : ∃ ms : List Int, cutV (ns.map V.int) lo hi = ms.map V.int := by
  unfold cutV
  exact ⟨(ns.drop (HT.sIx (ns.map V.int).length 0 lo)).take (HT.sIx (ns.map V.int).length (ns.map V.int).length hi - HT.sIx (ns.map V.int).length 0 lo), by rw [List.map_take, List.map_drop]⟩
theorem cutS_T (l : List Nat) (lo hi : Option Int) : cutS (T l) lo hi = T ((l.drop (HT.sIx l.length 0 lo)).take (HT.sIx l.length l.length hi - HT.sIx l.length 0 lo)) := by
  unfold cutS
  rw [T_len]
  rfl
theorem cutS_all {l : List Nat} (h : l.all az = true) (lo hi : Option Int) : ∃ m : List Nat, cutS (T l) lo hi = T m ∧ m.all az = true ∧ m.length ≤ l.length := by
  refine ⟨_, cutS_T l lo hi, ?_, ?_⟩
  · rw [List.all_eq_true] at h ⊢
    exact fun c hc => h c (List.mem_of_mem_drop (List.mem_of_mem_take hc))
  · rw [List.length_take, List.length_drop]
    omega
theorem join_signs (cs : List Nat) : Txt.join (Str.ofString "") (cs.map fun c => T [c]) = T cs := by
  refine TL.ext_tl ?_
  rw [TL.join_eq, TL.tl_join, tl_T]
  have e : TL.tl (Str.ofString "") = [] := rfl
  rw [e]
  induction cs with
  | nil => rfl
  | cons c r ih =>
    cases r with
    | nil => rfl
    | cons d r =>
      show [c] ++ ([] ++ TL.joinL [] (((d :: r).map fun c => T [c]).map TL.tl)) = c :: d :: r
      rw [ih]
      rfl
theorem abc : TL.tl (Str.ofString "abcdefghijklmnopqrstuvwxyz") = (List.range 26).map (97 + ·) := by decide +kernel
theorem abc_at {j : Nat} (h : j < 26) : atI (Str.ofString "abcdefghijklmnopqrstuvwxyz").cps.toList (j : Int) = some (97 + j) := by
  refine atI_nat ?_
  show (TL.tl (Str.ofString "abcdefghijklmnopqrstuvwxyz"))[j]? = _
  rw [abc, List.getElem?_map, List.getElem?_range h]
  rfl
theorem mod26 (i : Int) : ∃ j : Nat, i.fmod 26 = (j : Int) ∧ j < 26 := by
  refine ⟨(i % 26).toNat, ?_, ?_⟩
  · rw [Int.fmod_eq_emod_of_nonneg _ (by decide)]
    omega
  · omega
theorem mod6 (i : Int) : ∃ j : Nat, i.fmod 6 = (j : Int) ∧ j < 6 := by
  refine ⟨(i % 6).toNat, ?_, ?_⟩
  · rw [Int.fmod_eq_emod_of_nonneg _ (by decide)]
    omega
  · omega
theorem all_app {a b : List Nat} (h1 : a.all az = true) (h2 : b.all az = true) : (a ++ b).all az = true := by
  rw [List.all_append, h1, h2]
  rfl
theorem all_rev {a : List Nat} (h1 : a.all az = true) : a.reverse.all az = true := by
  rw [List.all_reverse]
  exact h1
theorem all_rep {a : List Nat} (h1 : a.all az = true) : ∀ n, (List.replicate n a).flatten.all az = true
  | 0 => rfl
  | n + 1 => by
    rw [List.replicate_succ, List.flatten_cons]
    exact all_app h1 (all_rep h1 n)
theorem same_upd {H : Hp} {p : Addr} {o : HO} (h : H p = none) : Same H (upd H p o) := fun b x e => by
  rw [upd_ne (ne_of_none e h)]
  exact e

theorem cut_to (l : List Nat) (k : Nat) : cutS (T l) none (some (k : Int)) = T (l.take k) := by
  rw [cutS_T, HT.sIx_none, HT.sIx_nat, List.drop_zero, Nat.sub_zero]
  congr 1
  by_cases h : k ≤ l.length
  · rw [Nat.min_eq_left h]
  · rw [Nat.min_eq_right (by omega), List.take_of_length_le (Nat.le_refl _), List.take_of_length_le (by omega)]
theorem half_of (n : Nat) : ((n : Int)).fdiv 2 = ((n / 2 : Nat) : Int) := by
  rw [Int.fdiv_eq_ediv_of_nonneg _ (by decide)]
  omega
theorem all_take {l : List Nat} (h : l.all az = true) (k : Nat) : (l.take k).all az = true := by
  rw [List.all_eq_true] at h ⊢
  exact fun c hc => h c (List.mem_of_mem_take hc)


def spText (K : PySem.W.Frag) : Sp := fun vs H Q _ => ∃ (a : Addr) (ns : List Int) (i n : Nat), vs = [.ref a, .int (i : Int), .int (n : Int)] ∧ SqL K H a (ns.map V.int) ∧ n ≤ 100 ∧
  ∀ H' l, Same H H' → l.all az = true → l.length ≤ n + 1 → Q (.str (T l)) H'

/-! ### lists of numbers compared -/
theorem dp_ints {K : PySem.W.Frag} {H : Hp} : ∀ xs : List Nat, DpAll K H (xs.map nV) (xs.map fun n : Nat => PyData.int (n : Int))
  | [] => .nil
  | x :: r => .cons (.int _) (dp_ints r)
theorem eqv_ints : ∀ xs : List Nat, PyData.eqvAll (xs.map fun n : Nat => PyData.int (n : Int)) (xs.map fun n : Nat => PyData.int (n : Int)) = true
  | [] => rfl
  | x :: r => by
    show (((x : Int) == (x : Int)) && PyData.eqvAll _ _) = true
    rw [beq_self_eq_true, eqv_ints r]
    rfl
theorem eqv_lists (xs : List Nat) : PyData.eqv (.list (xs.map fun n : Nat => PyData.int (n : Int))) (.list (xs.map fun n : Nat => PyData.int (n : Int))) = true := eqv_ints xs
theorem shaped_nats (xs : List Nat) : SeqAt.shaped (.list (xs.map fun n : Nat => PyData.int (n : Int))) = true := by
  have z := PySem.W.shaped_ints (xs.map fun n : Nat => (n : Int))
  rw [List.map_map] at z
  exact z
theorem Thing.str {K : PySem.W.Frag} {H : Hp} (z : Str) (h : z.length ≤ sizeLine) : Thing K H (.str z) := by
  have e : Thing K H (.str (T (TL.tl z))) := .text _ (by rw [← TL.len_tl]; exact h)
  rw [T_tl] at e
  exact e
theorem isT_az {l : List Nat} (h : l.all az = true) (hl : l.length ≤ 200) : isT (.str (T l)) = true := by
  show (decide ((T l).length ≤ 200) && l.all az) = true
  rw [T_len, decide_eq_true hl, h]
  rfl
def odds (p1 p2 p3 : Addr) : List V := [.str "A", .str "a a", .str "\n", .non, .int 5, .bl true, .ref p1, .ref p2, .ref p3, .str (T (List.replicate 201 [97]).flatten), .str "a{", .str "a1"]
theorem odd_at {K : PySem.W.Frag} {H : Hp} {p1 p2 p3 : Addr} {xs ys : List V} {kvs : List (Key × V)} (h1 : H p1 = some (.lst xs)) (h2 : H p2 = some (.tup ys)) (h3 : H p3 = some (.dK kvs)) :
    ∀ j, j < 12 → ∃ x, (odds p1 p2 p3)[j]? = some x ∧ isT x = false ∧ Thing K H x
  | 0, _ => ⟨_, rfl, by decide +kernel, .str _ (by decide +kernel)⟩
  | 1, _ => ⟨_, rfl, by decide +kernel, .str _ (by decide +kernel)⟩
  | 2, _ => ⟨_, rfl, by decide +kernel, .str _ (by decide +kernel)⟩
  | 3, _ => ⟨_, rfl, rfl, .other (.base .non) (by decide +kernel) rfl⟩
  | 4, _ => ⟨_, rfl, rfl, .other (.base (.int _)) (by decide +kernel) rfl⟩
  | 5, _ => ⟨_, rfl, rfl, .other (.base (.bl _)) (by decide +kernel) rfl⟩
  | 6, _ => ⟨_, rfl, rfl, .other (.base (.lst h1)) (by decide +kernel) rfl⟩
  | 7, _ => ⟨_, rfl, rfl, .other (.base (.tup h2)) (by decide +kernel) rfl⟩
  | 8, _ => ⟨_, rfl, rfl, .other (.base (.dK h3)) (by decide +kernel) rfl⟩
  | 9, _ => ⟨_, rfl, by decide +kernel, .str _ (by decide +kernel)⟩
  | 10, _ => ⟨_, rfl, by decide +kernel, .str _ (by decide +kernel)⟩
  | 11, _ => ⟨_, rfl, by decide +kernel, .str _ (by decide +kernel)⟩
  | n + 12, h => absurd h (by omega)
theorem mod12 (i : Int) : ∃ j : Nat, i.fmod 12 = (j : Int) ∧ j < 12 := by
  refine ⟨(i % 12).toNat, ?_, ?_⟩
  · rw [Int.fmod_eq_emod_of_nonneg _ (by decide)]
    omega
  · omega


def spRef (K : PySem.W.Frag) (P : Addr) : Sp := fun vs H Q _ => ∃ x, vs = [x] ∧ GxR.TabG H P ∧ Thing K H x ∧ isT x = false ∧ ∀ H', Kp P H H' → Q (.bl true) H'
theorem Kp.tabL {P : Addr} {H H' : Hp} (k : Kp P H H') : GxR.TabG H' P := k.tab

def isM : V → Bool
  | .str z => isT (.str z) && (decide (0 < z.length) && decide (TL.tl z = (TL.tl z).reverse))
  | _ => false
def pal (l : List Nat) : Bool := decide (l = l.reverse)
theorem isM_T (l : List Nat) : isM (.str (T l)) = (isT (.str (T l)) && (decide (0 < l.length) && pal l)) := by
  show (isT (.str (T l)) && (decide (0 < (T l).length) && decide (l = l.reverse))) = _
  rw [T_len]
  rfl
theorem isM_isT {x : V} (h : isM x = true) : isT x = true := by
  cases x with
  | str z => exact ((Bool.and_eq_true _ _).mp h).1
  | _ => cases h
theorem isT_le {l : List Nat} (h : isT (.str (T l)) = true) : l.length ≤ 200 := by
  have z1 := of_decide_eq_true ((Bool.and_eq_true _ _).mp h).1
  rw [T_len] at z1
  exact z1
theorem isT_all {l : List Nat} (h : isT (.str (T l)) = true) : l.all az = true := ((Bool.and_eq_true _ _).mp h).2
theorem isT_mk {l : List Nat} (h : l.all az = true) (hl : l.length ≤ 200) : isT (.str (T l)) = true := by
  show (decide ((T l).length ≤ 200) && l.all az) = true
  rw [T_len, decide_eq_true hl, h]
  rfl
theorem isM_some {x : V} (h : isM x = true) : ∃ l, x = .str (T l) ∧ l.length ≤ 200 ∧ 0 < l.length ∧ pal l = true ∧ l.all az = true := by
  cases x with
  | str z =>
    have ht := isM_isT h
    have e : z = T (TL.tl z) := (T_tl z).symm
    rw [e] at h ht
    refine ⟨TL.tl z, by rw [← e], isT_le ht, ?_⟩
    rw [isM_T, Bool.and_eq_true, Bool.and_eq_true] at h
    exact ⟨of_decide_eq_true h.2.1, h.2.2, isT_all ht⟩
  | _ => cases h

def sV (l : List Nat) : V := .str (T l)
/-- the mirror words at the end of l that begin ahead of i, the longest first -/
def endsN (l : List Nat) (i : Nat) : List (List Nat) := ((List.range i).map fun j => l.drop j).filter pal
theorem endsN_succ (l : List Nat) (i : Nat) : endsN l (i + 1) = endsN l i ++ if pal (l.drop i) = true then [l.drop i] else [] := by
  unfold endsN
  rw [List.range_succ, List.map_append, List.filter_append]
  congr 1
  by_cases h : pal (l.drop i) = true
  · rw [if_pos h, List.map_singleton, List.filter_cons_of_pos h]
    rfl
  · rw [if_neg h, List.map_singleton, List.filter_cons_of_neg h]
    rfl
theorem endsN_len (l : List Nat) (i : Nat) : (endsN l i).length ≤ i := by
  unfold endsN
  refine Nat.le_trans (List.length_filter_le _ _) ?_
  rw [List.length_map, List.length_range]
  exact Nat.le_refl _
theorem endsN_head {l : List Nat} (h : pal l = true) : ∀ i, 0 < i → ∃ r, endsN l i = l :: r
  | 0, z => absurd z (Nat.lt_irrefl _)
  | 1, _ => ⟨[], by
      rw [endsN_succ]
      show [] ++ (if pal (l.drop 0) = true then [l.drop 0] else []) = [l]
      rw [List.drop_zero, if_pos h]
      rfl⟩
  | i + 2, _ => by
    obtain ⟨r, e⟩ := endsN_head h (i + 1) (Nat.succ_pos _)
    rw [endsN_succ, e]
    exact ⟨_, rfl⟩
def tailL (l : List Nat) : List Nat := (endsN l l.length ++ [[]]).getD 1 []
theorem cut_from (l : List Nat) (i : Nat) : cutS (T l) (some (i : Int)) none = T (l.drop i) := by
  rw [cutS_T, HT.sIx_none, HT.sIx_nat]
  congr 1
  by_cases h : i ≤ l.length
  · rw [Nat.min_eq_left h]
    exact List.take_of_length_le (by rw [List.length_drop]; exact Nat.le_refl _)
  · rw [Nat.min_eq_right (by omega), Nat.sub_self, List.take_zero, List.drop_eq_nil_of_le (by omega)]

def spAlike : Sp := fun vs H Q _ => ∃ l : List Nat, vs = [.str (T l)] ∧ l.length ≤ sizeLine ∧ Q (.bl (pal l)) H
def spMir (K : PySem.W.Frag) (P : Addr) : Sp := fun vs H Q _ => ∃ x, vs = [x] ∧ GxR.TabG H P ∧ Thing K H x ∧ ∀ H', GxR.Tabbed P H H' → Q (.bl (isM x)) H'
def spNoM (K : PySem.W.Frag) (P BW : Addr) : Sp := fun vs H Q E => ∃ x, vs = [x] ∧ GxR.TabG H P ∧ Thing K H x ∧ (isM x = false → ∀ H', GxR.Tabbed P H H' → E (.ref BW) none H') ∧ (isM x = true → ∀ H', GxR.Tabbed P H H' → Q .non H')

end Mw
namespace Mw
open PySem PySem.Spec PyProof.Rows L2
def spNoT (K : PySem.W.Frag) (P BT : Addr) : Sp := fun vs H Q E => ∃ x, vs = [x] ∧ GxR.TabG H P ∧ Thing K H x ∧ (isT x = false → ∀ H', GxR.Tabbed P H H' → E (.ref BT) none H') ∧ (isT x = true → ∀ H', GxR.Tabbed P H H' → Q .non H')
end Mw
namespace Mw
open PySem PySem.Spec PyProof.Rows L2

/-! ### min of texts -/
theorem best_txt (f : Nat → List Nat) : ∀ k, argBest (fun i j => decide (f i < f j)) k ≤ k ∧ ∀ j, j ≤ k → ¬ f j < f (argBest (fun i j => decide (f i < f j)) k)
  | 0 => ⟨Nat.le_refl _, fun j hj => by
    have e : j = 0 := by omega
    rw [e]
    exact List.lt_irrefl _⟩
  | k + 1 => by
    obtain ⟨h1, h2⟩ := best_txt f k
    simp only [argBest]
    by_cases hc : f (k + 1) < f (argBest (fun i j => decide (f i < f j)) k)
    · rw [if_pos (by simpa using hc)]
      refine ⟨Nat.le_refl _, fun j hj z => ?_⟩
      by_cases e : j = k + 1
      · rw [e] at z
        exact List.lt_irrefl _ z
      · exact h2 j (by omega) (List.lt_trans z hc)
    · rw [if_neg (by simpa using hc)]
      refine ⟨by omega, fun j hj z => ?_⟩
      by_cases e : j = k + 1
      · rw [e] at z
        exact hc z
      · exact h2 j (by omega) z
theorem vals_txt : ∀ {ts : List (List Nat)} {us : List Value}, Vals (ts.map sV) us → us.length = ts.length ∧ ∀ (i : Nat) (v : Value), us[i]? = some v → ∃ l t, ts[i]? = some l ∧ v = Value.str (T l) t
  | [], _, .nil => ⟨rfl, fun i v h => by simp at h⟩
  | l :: r, _, .cons x y => by
    obtain ⟨t, rfl⟩ := x
    obtain ⟨h1, h2⟩ := vals_txt y
    refine ⟨by rw [List.length_cons, List.length_cons, h1], fun i v h => ?_⟩
    cases i with
    | zero => exact ⟨l, t, rfl, (Option.some.inj h).symm⟩
    | succ i => exact h2 i v h
def rMinS (K : PySem.W.Frag) : List V → Hp → VK → Prop := fun vs H Q => ∃ (a : Addr) (ts : List (List Nat)), vs = [V.ref a] ∧ SqL K H a (ts.map sV) ∧ ts ≠ [] ∧ ∀ m, m ∈ ts → (∀ y, y ∈ ts → ¬ y < m) → Q (sV m) H
theorem cr_minS {X : Cx} (hc : X.calm = true) : CallR X (.builtin "min") (rMinS X.K) := by
  intro pins s σ H vs us Q I r h
  obtain ⟨a, ts, rfl, hs, hne, q⟩ := h
  obtain ⟨its, rv, hl, _⟩ := I.list hs
  rw [Vals.ref1 r]
  obtain ⟨hlen, hat⟩ := vals_txt rv
  have hpos : 0 < ts.length := List.length_pos_iff.mpr hne
  refine call_min_walkH (PySem.W.iter_listW (A := X.A.in1) (I.ok.hd hc) hl.isList fun s₂ e W st hfp hw hk => ?_)
  have hsz : its.toArray.size = ts.length := hlen
  refine ⟨_, _, _, _, _, _, _, s.heap, fun i j => decide (ts.getD i [] < ts.getD j []), rfl, W, st, hfp, by rw [hsz]; exact hpos, hw, hk, ?_, fun v s' hP m => ?_⟩
  · intro i j vi vj s3 Q3 E3 _ hi hj hQ
    obtain ⟨li, ti, e1, rfl⟩ := hat i vi (by simpa using hi)
    obtain ⟨lj, tj, e2, rfl⟩ := hat j vj (by simpa using hj)
    refine PySem.P.lt_str ?_
    have hQ : Q3 (Value.bool (decide (ts.getD i [] < ts.getD j []))) s3 := hQ
    rw [List.getD_eq_getElem?_getD, List.getD_eq_getElem?_getD, e1, e2] at hQ
    exact hQ
  · obtain ⟨h', tk, rfl, hk'⟩ := PySem.W.moved_old e rfl m
    obtain ⟨b1, b2⟩ := best_txt (fun i => ts.getD i []) (its.toArray.size - 1)
    have hP : its[argBest (fun i j => decide (ts.getD i [] < ts.getD j [])) (its.toArray.size - 1)]? = some v := by
      rw [List.getElem?_toArray] at hP
      exact hP
    generalize argBest (fun i j => decide (ts.getD i [] < ts.getD j [])) (its.toArray.size - 1) = k at *
    obtain ⟨l, t, e1, rfl⟩ := hat k v hP
    have e2 : ts.getD k [] = l := by
      rw [List.getD_eq_getElem?_getD, e1]
      rfl
    refine ⟨sV l, H, I.kept hk', ⟨t, rfl⟩, q l (List.mem_of_getElem? e1) fun y hy => ?_⟩
    obtain ⟨j, hj, ej⟩ := List.getElem_of_mem hy
    have z := b2 j (by omega)
    rw [e2] at z
    have e3 : ts.getD j [] = y := by
      rw [List.getD_eq_getElem?_getD, List.getElem?_eq_getElem hj, ej]
      rfl
    rw [e3] at z
    exact z
end Mw
namespace Mw
theorem gr_getD' {R : Nat → Nat} {n i : Nat} (h : i < n) : (gr R n)[i]? = some (nxt R (gr R i)) := gr_at h
/-! ### no text with these arms is less -/
theorem find_le {p : Nat → Bool} : ∀ {l : List Nat} {c x : Nat}, l.Pairwise (· ≤ ·) → l.find? p = some c → x ∈ l → p x = true → c ≤ x
  | a :: r, c, x, hp, h, hx, px => by
    rw [List.pairwise_cons] at hp
    rw [List.find?_cons] at h
    cases q : p a with
    | true =>
      rw [q] at h
      have e : a = c := Option.some.inj h
      rcases List.mem_cons.mp hx with z | z
      · omega
      · have := hp.1 x z
        omega
    | false =>
      rw [q] at h
      rcases List.mem_cons.mp hx with z | z
      · rw [← z, px] at q
        cases q
      · exact find_le hp.2 h z px
theorem abcL_sorted : abcL.Pairwise (· ≤ ·) := by decide
theorem mem_abcL {c : Nat} : c ∈ abcL ↔ 97 ≤ c ∧ c ≤ 122 := by
  unfold abcL
  rw [List.mem_map]
  constructor
  · rintro ⟨a, h, e⟩
    have := List.mem_range.mp h
    omega
  · intro h
    exact ⟨c - 97, List.mem_range.mpr (by omega), by omega⟩
/-- the next letter of a text with these arms is no less -/
theorem nxt_le {u : List Nat} {R : Nat → Nat} (A : Arms u R) (az : ∀ c ∈ u, c ∈ abcL) {p v : Nat} (hp : u.take p = gr R p) (hv : u[p]? = some v) : nxt R (gr R p) ≤ v ∧ ∀ i, i < p → tie R i p = true → nxt R (gr R p) = v := by
  have lt : p < u.length := (List.getElem?_eq_some_iff.mp hv).1
  have eu : ∀ i, i < p → (gr R p).getD i 0 = u.getD i 0 := fun i hi => by
    rw [← hp, List.getD_eq_getElem?_getD, List.getD_eq_getElem?_getD, List.getElem?_take_of_lt hi]
  have ug : ∀ i, i < u.length → u[i]? = some (u.getD i 0) := fun i hi => by
    rw [List.getD_eq_getElem?_getD, List.getElem?_eq_getElem hi]
    rfl
  cases hf : (List.range p).find? fun i => tie R i p with
  | some q =>
    obtain ⟨hq, htq, _⟩ := first_tied hf
    have z := ((pal_out hq).mp ((A.tie q p hq lt).mp htq)).2
    rw [hv, ug q (by omega)] at z
    have e : nxt R (gr R p) = v := by
      rw [nxt_tied hf, eu q hq]
      exact Option.some.inj z
    exact ⟨by omega, fun _ _ _ => e⟩
  | none =>
    refine ⟨?_, fun i hi h => by rw [none_tied hf i hi] at h; cases h⟩
    rw [nxt_free hf]
    have vin := az v (List.mem_of_getElem? hv)
    have vnot : ¬ v ∈ barred R (gr R p) p := fun w => by
      obtain ⟨i, hi, hc, e⟩ := mem_barred.mp w
      have z := ((A.cut i p hi lt).mp hc).2
      rw [hv, ug i (by omega)] at z
      rw [eu i hi] at e
      exact z (by rw [e])
    cases hs : abcL.find? fun c => !(barred R (gr R p) p).contains c with
    | none => exact Nat.zero_le _
    | some c => exact find_le abcL_sorted hs vin (by simpa using vnot)
theorem gr_least {u : List Nat} {R : Nat → Nat} (A : Arms u R) (az : ∀ c ∈ u, c ∈ abcL) : ¬ u < gr R u.length := by
  intro h
  rcases List.lt_iff_exists.mp h with ⟨_, z⟩ | ⟨i, h1, h2, he, hl⟩
  · rw [gr_len] at z
    omega
  · have pre : u.take i = gr R i := by
      rw [← gr_take (R := R) (q := i) (p := u.length) (by omega)]
      refine List.ext_getElem? fun j => ?_
      by_cases c : j < i
      · rw [List.getElem?_take_of_lt c, List.getElem?_take_of_lt c, List.getElem?_eq_getElem (by omega), List.getElem?_eq_getElem (by rw [gr_len]; omega), he j c]
      · rw [List.getElem?_eq_none (by rw [List.length_take]; omega), List.getElem?_eq_none (by rw [List.length_take]; omega)]
    have z := (nxt_le A az pre (List.getElem?_eq_getElem h1)).1
    have e := gr_at (R := R) (i := i) (p := u.length) h1
    rw [List.getElem?_eq_getElem h2] at e
    have := Option.some.inj e
    omega
theorem nodup_sub : ∀ {l m : List Nat}, l.Nodup → (∀ c ∈ l, c ∈ m) → l.length ≤ m.length
  | [], m, _, _ => Nat.zero_le _
  | a :: r, m, hn, hs => by
    rw [List.nodup_cons] at hn
    obtain ⟨s, t, rfl⟩ := List.append_of_mem (hs a List.mem_cons_self)
    have z := nodup_sub (l := r) (m := s ++ t) hn.2 fun c hc => by
      have q := hs c (List.mem_cons_of_mem _ hc)
      rw [List.mem_append, List.mem_cons] at q
      rw [List.mem_append]
      rcases q with q | q | q
      · exact .inl q
      · exact absurd (q ▸ hc) hn.1
      · exact .inr q
    rw [List.length_append] at z ⊢
    rw [List.length_cons, List.length_cons]
    omega
/-- few places: a letter is left -/
theorem few_left {R : Nat → Nat} {n : Nat} (h : n ≤ 26) : Left R n := by
  intro p hp _
  cases hs : abcL.find? fun c => !(barred R (gr R p) p).contains c with
  | some c => exact ⟨c, rfl⟩
  | none =>
    exfalso
    have all : ∀ c ∈ abcL, c ∈ barred R (gr R p) p := fun c hc => by
      have z := List.find?_eq_none.mp hs c hc
      simpa using z
    have l1 : (barred R (gr R p) p).length ≤ p := by
      unfold barred
      rw [List.length_map]
      exact Nat.le_trans (List.length_filter_le _ _) (by rw [List.length_range]; exact Nat.le_refl _)
    have l2 : abcL.length ≤ (barred R (gr R p) p).length := nodup_sub (by decide) all
    have : abcL.length = 26 := by decide
    omega

/-! ### the first place that is tied to each -/
def rl (R : Nat → Nat) : Nat → List Nat
  | 0 => []
  | p + 1 => rl R p ++ [match (List.range p).find? fun i => tie R i p with
    | some i => (rl R p).getD i 0
    | none => p]
def rt (R : Nat → Nat) (p : Nat) : Nat := match (List.range p).find? fun i => tie R i p with
    | some i => (rl R p).getD i 0
    | none => p
theorem rl_len (R : Nat → Nat) : ∀ p, (rl R p).length = p
  | 0 => rfl
  | p + 1 => by
    show (rl R p ++ [_]).length = p + 1
    rw [List.length_append, rl_len R p]
    rfl
theorem rl_at {R : Nat → Nat} {i : Nat} : ∀ {p : Nat}, i < p → (rl R p)[i]? = some (rt R i)
  | p + 1, h => by
    show (rl R p ++ [_])[i]? = _
    by_cases c : i = p
    · rw [c, List.getElem?_append_right (by rw [rl_len]; exact Nat.le_refl _), rl_len, Nat.sub_self]
      rfl
    · rw [List.getElem?_append_left (by rw [rl_len]; omega)]
      exact rl_at (by omega)
theorem rt_tied {R : Nat → Nat} {p i : Nat} (h : ((List.range p).find? fun i => tie R i p) = some i) : rt R p = rt R i := by
  have e : rt R p = (rl R p).getD i 0 := by
    unfold rt
    rw [h]
  rw [e, List.getD_eq_getElem?_getD, rl_at (first_tied h).1]
  rfl
theorem rt_free {R : Nat → Nat} {p : Nat} (h : ((List.range p).find? fun i => tie R i p) = none) : rt R p = p := by
  unfold rt
  rw [h]
theorem rt_le (R : Nat → Nat) (p : Nat) : rt R p ≤ p := by
  induction p using Nat.strongRecOn with
  | ind p ih =>
    cases h : (List.range p).find? fun i => tie R i p with
    | some i =>
      have z := (first_tied h).1
      rw [rt_tied h]
      have := ih i z
      omega
    | none =>
      rw [rt_free h]
      exact Nat.le_refl _
theorem rt_rt (R : Nat → Nat) (p : Nat) : rt R (rt R p) = rt R p := by
  induction p using Nat.strongRecOn with
  | ind p ih =>
    cases h : (List.range p).find? fun i => tie R i p with
    | some i =>
      rw [rt_tied h]
      exact ih i (first_tied h).1
    | none => rw [rt_free h, rt_free h]
theorem gr_rt {R : Nat → Nat} {n p : Nat} (hp : p < n) : (gr R n)[p]? = (gr R n)[rt R p]? := by
  induction p using Nat.strongRecOn with
  | ind p ih =>
    cases h : (List.range p).find? fun i => tie R i p with
    | some i =>
      have z := (first_tied h).1
      rw [rt_tied h, ← ih i z (by omega), gr_at hp, gr_at (by omega), nxt_tied h, gr_getD z]
    | none => rw [rt_free h]
theorem edge_rt {t : List Nat} {R : Nat → Nat} (A : Arms t R) : ∀ p, p < t.length → ∀ i, i < p → Pal t i p → rt R i = rt R p := by
  intro p
  induction p using Nat.strongRecOn with
  | ind p ih =>
    intro hp i hi hP
    cases h : (List.range p).find? fun i => tie R i p with
    | none =>
      have z := (A.tie i p hi hp).mpr hP
      rw [none_tied h i hi] at z
      cases z
    | some q =>
      obtain ⟨hq, htq, hmin⟩ := first_tied h
      rw [rt_tied h]
      have hPq := (A.tie q p hq hp).mp htq
      by_cases c : i < q
      · have z := hmin i c
        rw [(A.tie i p hi hp).mpr hP] at z
        cases z
      · by_cases d : i = q
        · rw [d]
        · -- the other end within the mirror word between q and p
          have z1 := pal_turn' (i := i) (j := p) hPq (by omega) (Nat.le_refl _) hP
          have e1 : q + p - p = q := by omega
          rw [e1] at z1
          have r1 : rt R q = rt R (q + p - i) := ih (q + p - i) (by omega) (by omega) q (by omega) z1
          rw [r1]
          rcases Nat.lt_trichotomy i (q + p - i) with g | g | g
          · have z2 := pal_mid hPq (i - q) (by omega)
            have e2 : q + (i - q) = i := by omega
            have e3 : p - (i - q) = q + p - i := by omega
            rw [e2, e3] at z2
            exact ih (q + p - i) (by omega) (by omega) i g z2
          · rw [← g]
          · have z2 := pal_mid hPq (p - i) (by omega)
            have e2 : q + (p - i) = q + p - i := by omega
            have e3 : p - (p - i) = i := by omega
            rw [e2, e3] at z2
            exact (ih i hi (by omega) (q + p - i) g z2).symm

/-! ### marks told again and again -/
structure MarkI (R : Nat → Nat) (n : Nat) (M : List Nat) : Prop where
  len : M.length = n
  ok : ∀ x, x < n → ∃ v, M[x]? = some v ∧ v ≤ x ∧ rt R v = rt R x
theorem MarkI.start (R : Nat → Nat) (n : Nat) : MarkI R n (List.range n) := ⟨List.length_range, fun x hx => ⟨x, List.getElem?_range hx, Nat.le_refl _, rfl⟩⟩
theorem MarkI.ge {R : Nat → Nat} {n : Nat} {M : List Nat} (I : MarkI R n M) {x v : Nat} (h : M[x]? = some v) : rt R x ≤ v ∧ v ≤ x := by
  have hx : x < n := by
    rw [← I.len]
    exact (List.getElem?_eq_some_iff.mp h).1
  obtain ⟨u, e, h1, h2⟩ := I.ok x hx
  rw [h] at e
  cases e
  refine ⟨?_, h1⟩
  rw [← h2]
  exact rt_le R v
def mset (M : List Nat) (l r v : Nat) : List Nat := (M.set l v).set r v
theorem mset_at {M : List Nat} {l r v x : Nat} (hl : l < M.length) (hr : r < M.length) : (mset M l r v)[x]? = if x = l ∨ x = r then some v else M[x]? := by
  unfold mset
  rw [List.getElem?_set]
  by_cases c : r = x
  · rw [if_pos c, if_pos (by rw [List.length_set]; exact hr), if_pos (.inr c.symm)]
  · rw [if_neg c, List.getElem?_set]
    by_cases d : l = x
    · rw [if_pos d, if_pos hl, if_pos (.inl d.symm)]
    · rw [if_neg d, if_neg fun z => z.elim (fun z => d z.symm) fun z => c z.symm]
theorem MarkI.step {R : Nat → Nat} {n : Nat} {M : List Nat} (I : MarkI R n M) {l r a b : Nat} (hl : M[l]? = some a) (hr : M[r]? = some b) (e : rt R l = rt R r) : MarkI R n (mset M l r (min a b)) ∧
    (∀ x, M[x]? = some (rt R x) → (mset M l r (min a b))[x]? = some (rt R x)) ∧ (M[l]? = some (rt R l) → (mset M l r (min a b))[r]? = some (rt R r)) := by
  have ll := (List.getElem?_eq_some_iff.mp hl).1
  have lr := (List.getElem?_eq_some_iff.mp hr).1
  obtain ⟨a1, a2⟩ := I.ge hl
  obtain ⟨b1, b2⟩ := I.ge hr
  have ra : rt R a = rt R l := by
    obtain ⟨u, q, _, h⟩ := I.ok l (I.len ▸ ll)
    rw [hl] at q
    cases q
    exact h
  have rb : rt R b = rt R r := by
    obtain ⟨u, q, _, h⟩ := I.ok r (I.len ▸ lr)
    rw [hr] at q
    cases q
    exact h
  have rm : rt R (min a b) = rt R l := by
    rcases Nat.le_total a b with h | h
    · rw [Nat.min_eq_left h, ra]
    · rw [Nat.min_eq_right h, rb, e]
  refine ⟨⟨by unfold mset; rw [List.length_set, List.length_set, I.len], fun x hx => ?_⟩, fun x hx => ?_, fun h => ?_⟩
  · rw [mset_at ll lr]
    by_cases c : x = l ∨ x = r
    · rw [if_pos c]
      refine ⟨_, rfl, ?_, ?_⟩
      · rcases c with c | c <;> omega
      · rcases c with c | c
        · rw [rm, c]
        · rw [rm, c, e]
    · rw [if_neg c]
      exact I.ok x hx
  · rw [mset_at ll lr]
    by_cases c : x = l ∨ x = r
    · rw [if_pos c]
      congr 1
      rcases c with c | c
      · subst c
        rw [hl] at hx
        have := Option.some.inj hx
        omega
      · subst c
        rw [hr] at hx
        have := Option.some.inj hx
        omega
    · rw [if_neg c]
      exact hx
  · rw [mset_at ll lr, if_pos (.inr rfl)]
    rw [hl] at h
    have := Option.some.inj h
    congr 1
    omega
/-- within turn k, ahead of the middle m's step s -/
structure Turn (R : Nat → Nat) (n k m s : Nat) (M : List Nat) : Prop where
  I : MarkI R n M
  done : ∀ x, x < k → x < n → M[x]? = some (rt R x)
  seen : ∀ i, ((List.range k).find? fun i => tie R i k) = some i → k < n → i + k < m ∨ (i + k = m ∧ k < m / 2 + 1 + s) → M[k]? = some (rt R k)
theorem Turn.first {R : Nat → Nat} {n : Nat} : Turn R n 0 0 0 (List.range n) := ⟨.start R n, fun x h _ => absurd h (by omega), fun i h _ _ => by cases h⟩
theorem Turn.next {R : Nat → Nat} {n k : Nat} {M : List Nat} (T : Turn R n k (2 * n - 1) 0 M) (hk : k < n) : Turn R n (k + 1) 0 0 M := by
  refine ⟨T.I, fun x hx hn => ?_, fun i h _ z => by omega⟩
  by_cases c : x < k
  · exact T.done x c hn
  · have e : x = k := by omega
    subst e
    cases h : (List.range x).find? fun i => tie R i x with
    | some i =>
      have := (first_tied h).1
      exact T.seen i h hn (.inl (by omega))
    | none =>
      obtain ⟨v, hv, h1, h2⟩ := T.I.ok x hn
      have := (T.I.ge hv).1
      rw [rt_free h] at this ⊢
      rw [hv]
      congr 1
      omega
theorem Turn.mid {R : Nat → Nat} {n k m : Nat} {M : List Nat} (T : Turn R n k m (R m) M) : Turn R n k (m + 1) 0 M := by
  refine ⟨T.I, T.done, fun i h hn z => ?_⟩
  rcases z with z | z
  · by_cases c : i + k < m
    · exact T.seen i h hn (.inl c)
    · have e : i + k = m := by omega
      have q := (first_tied h).2.1
      unfold tie at q
      rw [decide_eq_true_eq, e] at q
      exact T.seen i h hn (.inr ⟨e, by omega⟩)
  · have := (first_tied h).1
    omega
theorem Turn.step {t : List Nat} {R : Nat → Nat} (A : Arms t R) {k m s l r a b : Nat} {M : List Nat} (T : Turn R t.length k m s M) (hs : s < R m) (el : l + s + 1 = (m + 1) / 2) (er : r = m / 2 + 1 + s) (hr : r < t.length) (hla : M[l]? = some a) (hrb : M[r]? = some b) :
    Turn R t.length k m (s + 1) (mset M l r (min a b)) := by
  have elr : l + r = m := by omega
  have lt : l < r := by omega
  have ti : tie R l r = true := by
    unfold tie
    rw [decide_eq_true_eq, elr]
    omega
  have e := edge_rt A r hr l lt ((A.tie l r lt hr).mp ti)
  obtain ⟨I2, st, nw⟩ := T.I.step hla hrb e
  refine ⟨I2, fun x h1 h2 => st x (T.done x h1 h2), fun i h hn z => ?_⟩
  by_cases c : i + k < m ∨ (i + k = m ∧ k < m / 2 + 1 + s)
  · exact st k (T.seen i h hn c)
  · have q : i + k = m ∧ k = r := by omega
    obtain ⟨q1, q2⟩ := q
    subst q2
    have q3 : i = l := by omega
    subst q3
    exact nw (T.done i (first_tied h).1 (by omega))
end Mw
namespace Mw
open PySem PySem.Spec PyProof.Rows L2

/-! ### whole numbers, and what may be handed in for them -/
theorem ip_addT {X : Cx} : PIp X .Add (fun x y H Q => ∃ i j, x = .str i ∧ y = .str j ∧ i.length + j.length ≤ sizeLine ∧ Q (.str (i ++ j)) H) := iop_add_str
theorem tyx_same {K : PySem.W.Frag} {H H' : Hp} {x : V} {t : Value} (s : Same H H') (h : TyX K H x t) : TyX K H' x t := by
  cases h with
  | base h =>
    refine .base ?_
    cases h with
    | non => exact .non
    | bl x => exact .bl x
    | int i => exact .int i
    | str x => exact .str x
    | flt x => exact .flt x
    | lst e => exact .lst (s _ _ e)
    | frz e => exact .frz (s _ _ e)
    | tup e => exact .tup (s _ _ e)
    | dK e => exact .dK (s _ _ e)
    | dT e => exact .dT (s _ _ e)
    | ins e cl ha hn htk hm => exact .ins (s _ _ e) cl ha hn htk hm
  | byt b => exact .byt b
  | set e => exact .set (s _ _ e)
  | kList e c => exact .kList e c
  | kTuple e c => exact .kTuple e c
  | kDict e c => exact .kDict e c
  | fTuple e => exact .fTuple (s _ _ e)
  | fDict e => exact .fDict (s _ _ e)
def rLenSeq (K : PySem.W.Frag) : List V → Hp → VK → Prop := fun xs H Q => ∃ p ys, xs = [.ref p] ∧ (SqL K H p ys ∨ SqT K H p ys) ∧ Q (.int ys.length) H
inductive NThing (K : PySem.W.Frag) (H : Hp) : V → Prop
  | int (i : Int) : NThing K H (.int i)
  | bl (b : Bool) : NThing K H (.bl b)
  | other {x : V} {n : String} (t : TyX K H x (.type n)) (k : kitB n "int" = some false) (no : ∀ i, x ≠ .int i) : NThing K H x
theorem NThing.same {K : PySem.W.Frag} {H H' : Hp} {x : V} (s : Same H H') (h : NThing K H x) : NThing K H' x := by
  cases h with
  | int i => exact .int i
  | bl b => exact .bl b
  | other t k no => exact .other (tyx_same s t) k no
def numTo : V → Int → Bool
  | .int i, m => decide (0 ≤ i) && decide (i ≤ m)
  | _, _ => false
theorem numTo_no {x : V} (no : ∀ i, x ≠ .int i) (m : Int) : numTo x m = false := by
  cases x with
  | int i => exact absurd rfl (no i)
  | _ => rfl
def spNumTo (K : PySem.W.Frag) : Sp := fun vs H Q _ => ∃ (x : V) (m : Int), vs = [x, .int m] ∧ NThing K H x ∧ Q (.bl (numTo x m)) H

theorem dec_int (i j : Int) : decide (V.int i = V.int j) = decide (i = j) := by
  by_cases c : i = j
  · rw [c, decide_eq_true rfl, decide_eq_true rfl]
  · rw [decide_eq_false c, decide_eq_false fun z => c (V.int.inj z)]
theorem dec_nat (a b : Nat) : decide (V.int (a : Int) = V.int (b : Int)) = decide (a = b) := by
  rw [dec_int]
  by_cases c : a = b
  · rw [c, decide_eq_true rfl, decide_eq_true rfl]
  · rw [decide_eq_false c, decide_eq_false (by omega)]
/-! ### lists of arms -/
def midsB (n : Nat) : Bool := decide (n = 0) || (decide (n % 2 = 1) && decide (n < 400))
def spMids : Sp := fun vs H Q _ => ∃ n : Nat, vs = [.int (n : Int)] ∧ Q (.bl (midsB n)) H
def roomN (m n : Nat) : Nat := min (m + 1) (n - m) / 2
def spRoom : Sp := fun vs H Q _ => ∃ m n : Nat, vs = [.int (m : Int), .int (n : Int)] ∧ m ≤ n ∧ Q (.int (roomN m n : Nat)) H
def armOk (xs : List V) (i : Nat) : Bool := numTo (xs.getD i .non) (roomN i xs.length : Nat)
def isArmsL (xs : List V) : Bool := midsB xs.length && (List.range xs.length).all (armOk xs)
inductive AThing (K : PySem.W.Frag) (H : Hp) : V → Bool → Prop
  | list {a : Addr} {xs : List V} (h : H a = some (.lst xs)) (n : ∀ x ∈ xs, NThing K H x) (z : xs.length ≤ 1000) : AThing K H (.ref a) (isArmsL xs)
  | other {x : V} {n : String} (t : TyX K H x (.type n)) (k : kitB n "list" = some false) : AThing K H x false
def spIsArms (K : PySem.W.Frag) : Sp := fun vs H Q _ => ∃ (x : V) (b : Bool), vs = [x] ∧ AThing K H x b ∧ ∀ H', Same H H' → Q (.bl b) H'
/-- the arms of a text are such a list -/
theorem armL_room {l : List Nat} {m : Nat} (h : m < 2 * l.length - 1) : armL l m ≤ roomN m (2 * l.length - 1) := by
  unfold roomN
  by_cases c : armL l m = 0
  · omega
  · obtain ⟨h1, h2, _⟩ := okAt_of ((lt_armL (l := l) (m := m) (k := armL l m - 1)).mp (by omega) (armL l m - 1) (Nat.le_refl _))
    rw [Nat.le_div_iff_mul_le (by decide)]
    rw [Nat.le_min]
    omega
theorem numTo_nat {a m : Nat} : numTo (nV a) (m : Int) = decide (a ≤ m) := by
  show (decide (0 ≤ (a : Int)) && decide ((a : Int) ≤ (m : Int))) = _
  rw [decide_eq_true (by omega), Bool.true_and]
  by_cases h : a ≤ m
  · rw [decide_eq_true h, decide_eq_true (by omega)]
  · rw [decide_eq_false h, decide_eq_false (by omega)]
theorem isArmsL_arms {l : List Nat} (h : l.length ≤ 200) : isArmsL ((armsL l).map nV) = true := by
  unfold isArmsL
  rw [List.length_map, armsL_len, Bool.and_eq_true]
  constructor
  · unfold midsB
    by_cases c : l.length = 0
    · rw [c]
      rfl
    · rw [decide_eq_true (show (2 * l.length - 1) % 2 = 1 by omega), decide_eq_true (show 2 * l.length - 1 < 400 by omega), Bool.and_self, Bool.or_true]
  · rw [List.all_eq_true]
    intro i hi
    have hi := List.mem_range.mp hi
    unfold armOk
    rw [List.length_map, armsL_len]
    have e : ((armsL l).map nV).getD i .non = nV (armL l i) := by
      unfold armsL
      rw [List.getD_eq_getElem?_getD, List.getElem?_map, List.getElem?_map, List.getElem?_range hi]
      rfl
    rw [e, numTo_nat]
    exact decide_eq_true (armL_room hi)
theorem nthing_nats {K : PySem.W.Frag} {H : Hp} (ns : List Nat) : ∀ x ∈ ns.map nV, NThing K H x := fun x hx => by
  obtain ⟨n, _, rfl⟩ := List.mem_map.mp hx
  exact .int _
end Mw
namespace Mw
open PySem PySem.Spec PyProof.Rows L2

/-! ### rows of letters -/
theorem T_beq (a b : List Nat) : (T a == T b) = (a == b) := by
  by_cases c : a = b
  · rw [c, beq_self_eq_true, beq_self_eq_true]
  · rw [beq_eq_false_iff_ne.mpr c, beq_eq_false_iff_ne.mpr fun z => c (T_inj z)]
theorem inV_txt (x : List Nat) : ∀ ys : List (List Nat), inV (sV x) (ys.map sV) = ys.contains x
  | [] => rfl
  | y :: r => by
    have ih := inV_txt x r
    unfold inV at ih ⊢
    rw [List.map_cons, List.any_cons, ih, List.contains_cons]
    congr 1
    show (T y == T x) = (x == y)
    rw [T_beq]
    exact Bool.beq_comm
def gV (c : Nat) : V := .str (T [c])
theorem gV_map (cs : List Nat) : cs.map gV = (cs.map fun c => [c]).map sV := by
  rw [List.map_map]
  rfl
theorem inV_sgn (x : Nat) (ys : List Nat) : inV (gV x) (ys.map gV) = ys.contains x := by
  rw [gV_map]
  show inV (sV [x]) _ = _
  rw [inV_txt]
  induction ys with
  | nil => rfl
  | cons y r ih =>
    rw [List.map_cons, List.contains_cons, List.contains_cons, ih]
    congr 1
    show ([x] == [y]) = (x == y)
    by_cases c : x = y
    · rw [c, beq_self_eq_true, beq_self_eq_true]
    · rw [beq_eq_false_iff_ne.mpr c, beq_eq_false_iff_ne.mpr fun z => c (List.cons.inj z).1]
theorem flat_txt (ys : List (List Nat)) : (ys.map sV).all flatV = true := by
  rw [List.all_eq_true]
  intro x hx
  obtain ⟨y, _, rfl⟩ := List.mem_map.mp hx
  rfl
theorem flat_sgn (ys : List Nat) : (ys.map gV).all flatV = true := by
  rw [gV_map]
  exact flat_txt _
theorem find_range {q : Nat → Bool} {p i : Nat} (h1 : ∀ j, j < i → q j = false) (h2 : q i = true) (h3 : i < p) : (List.range p).find? q = some i := by
  cases h : (List.range p).find? q with
  | none =>
    have z := List.find?_eq_none.mp h i (List.mem_range.mpr h3)
    exact absurd h2 z
  | some k =>
    obtain ⟨h4, as, bs, e, h5⟩ := List.find?_eq_some_iff_append.mp h
    have hl : as.length + bs.length + 1 = p := by
      have := congrArg List.length e
      rw [List.length_range, List.length_append, List.length_cons] at this
      omega
    have at_ : ∀ x, x < p → (as ++ k :: bs)[x]? = some x := fun x hx => by rw [← e, List.getElem?_range hx]
    have hk : as.length = k := by
      have z := at_ as.length (by omega)
      rw [List.getElem?_append_right (Nat.le_refl _), Nat.sub_self] at z
      exact (Option.some.inj z).symm
    congr 1
    by_cases c : k < i
    · have z := h1 k c
      rw [h4] at z
      cases z
    · by_cases d : i < k
      · have z := at_ i (by omega)
        rw [List.getElem?_append_left (by omega)] at z
        have := h5 i (List.mem_of_getElem? z)
        simp [h2] at this
      · omega
theorem find_none {q : Nat → Bool} {p : Nat} (h1 : ∀ j, j < p → q j = false) : (List.range p).find? q = none :=
  List.find?_eq_none.mpr fun x hx => by
    rw [h1 x (List.mem_range.mp hx)]
    exact Bool.false_ne_true
theorem barred_succ (R : Nat → Nat) (g : List Nat) (p i : Nat) : (((List.range (i + 1)).filter fun i => cut R i p).map fun i => g.getD i 0) = (((List.range i).filter fun i => cut R i p).map fun i => g.getD i 0) ++ if cut R i p = true then [g.getD i 0] else [] := by
  rw [List.range_succ, List.filter_append, List.map_append]
  congr 1
  by_cases c : cut R i p = true
  · rw [if_pos c]
    simp [c]
  · rw [if_neg c]
    simp [c]
/-- the least of the letters that are left -/
theorem least_left {q : Nat → Bool} {c m : Nat} (h : abcL.find? q = some c) (hm : [m] ∈ (abcL.filter q).map fun c => [c]) (hl : ∀ y ∈ (abcL.filter q).map fun c => [c], ¬ y < [m]) : m = c := by
  have hc : c ∈ abcL.filter q := List.mem_filter.mpr ⟨List.mem_of_find?_eq_some h, List.find?_some h⟩
  obtain ⟨m2, hm2, e⟩ := List.mem_map.mp hm
  cases (List.cons.inj e).1
  have hm3 := List.mem_filter.mp hm2
  have le := find_le abcL_sorted h hm3.1 hm3.2
  have z := hl [c] (List.mem_map.mpr ⟨c, hc, rfl⟩)
  by_cases lt : c < m
  · exact absurd (List.Lex.rel lt) z
  · omega
theorem abc_size : (Str.ofString "abcdefghijklmnopqrstuvwxyz").cps.size = 26 := by decide +kernel
theorem abc_cps : (Str.ofString "abcdefghijklmnopqrstuvwxyz").cps.toList = abcL := abc
theorem abc_some {i c : Nat} (h : (Str.ofString "abcdefghijklmnopqrstuvwxyz").cps[i]? = some c) : abcL[i]? = some c := by
  rw [← abc_cps, Array.getElem?_toList]
  exact h
theorem take_succ_of {α : Type} {l : List α} {i : Nat} {x : α} (h : l[i]? = some x) : l.take (i + 1) = l.take i ++ [x] := by
  rw [List.take_add_one, h]
  rfl
/-- arms by the places of a row -/
def rsR (rs : List Nat) : Nat → Nat := fun m => rs.getD m 0
def spNext (K : PySem.W.Frag) : Sp := fun vs H Q _ => ∃ (g rs : List Nat) (a : Addr), vs = [.str (T g), .ref a] ∧ SqL K H a (rs.map nV) ∧ g.length ≤ 200 ∧ 2 * g.length ≤ rs.length ∧
  (((List.range g.length).find? fun i => tie (rsR rs) i g.length) = none → ∃ c, (abcL.find? fun c => !(barred (rsR rs) g g.length).contains c) = some c) ∧ ∀ H', Same H H' → Q (gV (nxt (rsR rs) g)) H'
end Mw
namespace Mw
open PySem PySem.Spec PyProof.Rows L2
def lenN (rs : List Nat) : Nat := (rs.length + 1) / 2
def badArms (rs : List Nat) : Bool := (List.range rs.length).any fun m => !decide (armL (gr (rsR rs) (lenN rs)) m = rsR rs m)
def spLeast (K : PySem.W.Frag) (BA NT : Addr) : Sp := fun vs H Q E => ∃ (x : V) (b : Bool), vs = [x] ∧ AThing K H x b ∧ (b = false → ∀ H', Same H H' → E (.ref BA) none H') ∧
  (b = true → ∃ (a : Addr) (rs : List Nat), x = .ref a ∧ H a = some (.lst (rs.map nV)) ∧ rs.length < 400 ∧ Left (rsR rs) (lenN rs) ∧ (badArms rs = false → ∀ H', Same H H' → Q (.str (T (gr (rsR rs) (lenN rs)))) H') ∧ (badArms rs = true → ∀ H', Same H H' → E (.ref NT) none H'))
end Mw
namespace Mw
open PySem PySem.Spec PyProof.Rows L2
theorem psNox {X : Cx} {st : Stmt} {t : TS} (h : PS X.nox st t) : PS X st t := ⟨fun pins s σ H D I hw => 
  wpAny_mono (h.run pins s σ H D (I.wish _) hw) (fun _ _ q => SP.unwish q) fun _ _ z => False.elim z⟩
end Mw
namespace Mw
open PySem PySem.Spec PyProof.Rows L2
def spLArms : Sp := fun vs H Q _ => ∃ l : List Nat, vs = [.str (T l)] ∧ l.length ≤ 200 ∧ ∀ H' p, Same H H' → H p = none → H' p = some (.lst ((armsL l).map nV)) → Q (.ref p) H'
theorem left_of (m : Nat) : ((m : Int) - 1).fdiv 2 = (((m + 1) / 2 : Nat) : Int) - 1 := by
  rw [Int.fdiv_eq_ediv_of_nonneg _ (by decide)]
  omega
theorem okAt_dec {l : List Nat} {m k : Nat} (c1 : k + 1 ≤ (m + 1) / 2) (c2 : m / 2 + 1 + k < l.length) (h1 : (m + 1) / 2 - (k + 1) < l.length) : okAt l m k = decide (l[(m + 1) / 2 - (k + 1)] = l[m / 2 + 1 + k]) := by
  unfold okAt
  rw [decide_eq_true c1, decide_eq_true c2, Bool.true_and, Bool.true_and, List.getElem?_eq_getElem h1, List.getElem?_eq_getElem c2]
  by_cases z : l[(m + 1) / 2 - (k + 1)] = l[m / 2 + 1 + k]
  · rw [z, decide_eq_true rfl]
    exact beq_self_eq_true _
  · rw [decide_eq_false z]
    exact beq_eq_false_iff_ne.mpr fun y => z (Option.some.inj y)
end Mw
namespace Mw
open PySem PySem.Spec PyProof.Rows L2
theorem ixNat {n j : Nat} (hj : j < n) : ixN n (j : Int) = some j := by
  unfold ixN
  rw [if_pos (by omega), if_pos (by omega)]
  rfl
theorem rgV_nat (n : Nat) : rgV 0 (n : Int) = (List.range n).map nV := by
  unfold rgV
  have e : ((n : Int) - 0).toNat = n := by omega
  rw [e]
  refine List.map_congr_left fun i _ => ?_
  show V.int (0 + (i : Int)) = V.int (i : Int)
  rw [Int.zero_add]
theorem set_nats (M : List Nat) (j v : Nat) : (M.map nV).set j (nV v) = (M.set j v).map nV := by
  rw [List.map_set]
theorem nats_at {M : List Nat} {j v : Nat} (h : M[j]? = some v) : (M.map nV)[j]? = some (nV v) := by
  rw [List.getElem?_map, h]
  rfl
def spMarks (K : PySem.W.Frag) : Sp := fun vs H Q _ => ∃ (a : Addr) (t : List Nat), vs = [.ref a, .int (t.length : Int)] ∧ SqL K H a ((armsL t).map nV) ∧ t.length ≤ 200 ∧
  ∀ H' p M, Same H H' → H p = none → H' p = some (.lst (M.map nV)) → MarkI (armL t) t.length M → (∀ x, x < t.length → M[x]? = some (rt (armL t) x)) → Q (.ref p) H'
theorem armsL_at {t : List Nat} {m : Nat} (h : m < 2 * t.length - 1) : (armsL t)[m]? = some (armL t m) := by
  unfold armsL
  rw [List.getElem?_map, List.getElem?_range h]
  rfl
end Mw
namespace Mw
open PySem PySem.Spec PyProof.Rows L2
/-! ### the least text by the law's own reading -/
def gL (R : Nat → Nat) (x : Nat) : Nat := nxt R (gr R x)
theorem gL_root {R : Nat → Nat} (x : Nat) : gL R x = gL R (rt R x) := by
  have z := gr_rt (R := R) (n := x + 1) (p := x) (by omega)
  have := rt_le R x
  rw [gr_at (by omega), gr_at (by omega)] at z
  exact Option.some.inj z
theorem gL_at {R : Nat → Nat} {p x : Nat} (h : x < p) : (gr R p)[x]? = some (gL R x) := gr_at h
theorem gL_cut {t : List Nat} {R : Nat → Nat} (A : Arms t R) (L : Left R t.length) {l r : Nat} (hl : l < r) (hr : r < t.length) (c : cut R l r = true) : gL R l ≠ gL R r := by
  intro e
  obtain ⟨c1, c2⟩ := (A.cut l r hl hr).mp c
  have P := gr_pal A L rfl
  have h1 : Pal (gr R t.length) (l + 1) (r - 1) := by
    by_cases d : l + 1 < r - 1
    · exact (P (l + 1) (r - 1) d (by omega)).mpr c1
    · exact pal_short (by omega)
  have h2 : Pal (gr R t.length) l r := (pal_out hl).mpr ⟨h1, by rw [gL_at (by omega), gL_at hr, e]⟩
  exact c2 ((pal_out hl).mp ((P l r hl hr).mp h2)).2
theorem cut_mid {R : Nat → Nat} {m : Nat} (h : R m + 1 ≤ (m + 1) / 2) : cut R ((m + 1) / 2 - (R m + 1)) (m / 2 + 1 + R m) = true := by
  unfold cut
  rw [decide_eq_true_eq]
  have e : (m + 1) / 2 - (R m + 1) + (m / 2 + 1 + R m) = m := by omega
  rw [e]
theorem mid_cut {R : Nat → Nat} {i p : Nat} (c : cut R i p = true) : R (i + p) + 1 ≤ (i + p + 1) / 2 ∧ (i + p + 1) / 2 - (R (i + p) + 1) = i ∧ (i + p) / 2 + 1 + R (i + p) = p := by
  unfold cut at c
  rw [decide_eq_true_eq] at c
  omega
/-- the letters noted for a place, ahead of the middle m -/
structure Used (R : Nat → Nat) (p m : Nat) (U : List Nat) : Prop where
  no : ∀ c ∈ U, c ≠ gL R p
  all : ∀ i, i < p → cut R i p = true → i + p < m → gL R i ∈ U
  len : U.length ≤ 2 * m
theorem Used.start (R : Nat → Nat) (p : Nat) : Used R p 0 [] := ⟨fun c h => absurd h List.not_mem_nil, fun i _ _ h => absurd h (by omega), Nat.le_refl _⟩
def use1 (R : Nat → Nat) (p m : Nat) : Bool := decide (rt R ((m + 1) / 2 - (R m + 1)) = rt R p) && decide (rt R (m / 2 + 1 + R m) < p)
def use2 (R : Nat → Nat) (p m : Nat) : Bool := decide (rt R (m / 2 + 1 + R m) = rt R p) && decide (rt R ((m + 1) / 2 - (R m + 1)) < p)
theorem Used.step {t : List Nat} {R : Nat → Nat} (A : Arms t R) (L : Left R t.length) {p m : Nat} {U : List Nat} (I : Used R p m U) (h1 : R m + 1 ≤ (m + 1) / 2) (h2 : m / 2 + 1 + R m < t.length) :
    Used R p (m + 1) (U ++ (if use1 R p m = true then [gL R (rt R (m / 2 + 1 + R m))] else []) ++ (if use2 R p m = true then [gL R (rt R ((m + 1) / 2 - (R m + 1)))] else [])) := by
  have ne := gL_cut A L (show (m + 1) / 2 - (R m + 1) < m / 2 + 1 + R m by omega) h2 (cut_mid h1)
  refine ⟨fun c hc => ?_, fun i hi hc hm => ?_, ?_⟩
  · rw [List.mem_append, List.mem_append] at hc
    rcases hc with (hc | hc) | hc
    · exact I.no c hc
    · by_cases u : use1 R p m = true
      · rw [if_pos u] at hc
        obtain rfl := List.mem_singleton.mp hc
        unfold use1 at u
        rw [Bool.and_eq_true, decide_eq_true_eq] at u
        rw [← gL_root, gL_root p, ← u.1, ← gL_root]
        exact ne.symm
      · rw [if_neg u] at hc
        cases hc
    · by_cases u : use2 R p m = true
      · rw [if_pos u] at hc
        obtain rfl := List.mem_singleton.mp hc
        unfold use2 at u
        rw [Bool.and_eq_true, decide_eq_true_eq] at u
        rw [← gL_root, gL_root p, ← u.1, ← gL_root]
        exact ne
      · rw [if_neg u] at hc
        cases hc
  · by_cases e : i + p < m
    · rw [List.append_assoc]
      exact List.mem_append_left _ (I.all i hi hc e)
    · have em : i + p = m := by omega
      obtain ⟨_, e1, e2⟩ := mid_cut hc
      rw [em] at e1 e2
      have u : use2 R p m = true := by
        unfold use2
        rw [e1, e2, decide_eq_true rfl, Bool.true_and]
        have := rt_le R i
        exact decide_eq_true (by omega)
      rw [if_pos u, e1]
      exact List.mem_append_right _ (by rw [← gL_root]; exact List.mem_cons_self)
  · rw [List.length_append, List.length_append]
    have := I.len
    have a1 : (if use1 R p m = true then [gL R (rt R (m / 2 + 1 + R m))] else []).length ≤ 1 := by split <;> simp
    have a2 : (if use2 R p m = true then [gL R (rt R ((m + 1) / 2 - (R m + 1)))] else []).length ≤ 1 := by split <;> simp
    omega
theorem Used.skip {R : Nat → Nat} {n p m : Nat} {U : List Nat} (I : Used R p m U) (hp : p < n) (h : ¬ (R m + 1 ≤ (m + 1) / 2 ∧ m / 2 + 1 + R m < n)) : Used R p (m + 1) U := by
  refine ⟨I.no, fun i hi hc hm => ?_, by have := I.len; omega⟩
  by_cases e : i + p < m
  · exact I.all i hi hc e
  · have em : i + p = m := by omega
    obtain ⟨e0, e1, e2⟩ := mid_cut hc
    rw [em] at e0 e1 e2
    exact absurd ⟨e0, by omega⟩ h
theorem find_same {q1 q2 : Nat → Bool} {l : List Nat} {c : Nat} (h : l.find? q1 = some c) (h2 : q2 c = true) (h3 : ∀ x, q1 x = false → q2 x = false) : l.find? q2 = some c := by
  induction l with
  | nil => cases h
  | cons a r ih =>
    rw [List.find?_cons] at h ⊢
    cases e : q1 a with
    | true =>
      rw [e] at h
      cases Option.some.inj h
      rw [h2]
    | false =>
      rw [e] at h
      rw [h3 a e]
      exact ih h
theorem Used.letter {t : List Nat} {R : Nat → Nat} (L : Left R t.length) {p : Nat} {U : List Nat} (I : Used R p (2 * t.length - 1) U) (hp : p < t.length) (hr : ¬ rt R p < p) : (abcL.filter fun c => !U.contains c)[0]? = some (gL R p) := by
  have hf : ((List.range p).find? fun i => tie R i p) = none := by
    cases h : (List.range p).find? fun i => tie R i p with
    | none => rfl
    | some i =>
      have := (first_tied h).1
      rw [rt_tied h] at hr
      have := rt_le R i
      omega
  obtain ⟨c, hc⟩ := L p hp hf
  have e : gL R p = c := by
    unfold gL
    rw [nxt_free hf, hc]
    rfl
  rw [← List.head?_eq_getElem?, List.head?_filter, e]
  refine find_same hc ?_ fun x hx => ?_
  · cases q : U.contains c with
    | false => rfl
    | true => exact absurd e.symm (I.no c (by simpa using q))
  · have hx : x ∈ barred R (gr R p) p := by simpa using hx
    obtain ⟨i, hi, hci, ei⟩ := mem_barred.mp hx
    rw [gr_getD hi] at ei
    have := I.all i hi hci (by omega)
    rw [show gL R i = x from ei] at this
    simpa using this
def spLLeast (K : PySem.W.Frag) : Sp := fun vs H Q _ => ∃ (a : Addr) (t : List Nat), vs = [.ref a] ∧ SqL K H a ((armsL t).map nV) ∧ t.length ≤ 26 ∧ ∀ H', Same H H' → Q (.str (T (gr (armL t) t.length))) H'
end Mw
namespace Mw
open PySem PySem.Spec PyProof.Rows L2
theorem rsR_arms (t : List Nat) : rsR (armsL t) = armL t := by
  funext m
  unfold rsR
  rw [List.getD_eq_getElem?_getD]
  by_cases h : m < 2 * t.length - 1
  · rw [armsL_at h]
    rfl
  · rw [List.getElem?_eq_none (by rw [armsL_len]; omega)]
    show 0 = armL t m
    by_cases c : armL t m = 0
    · exact c.symm
    · have := (okAt_of ((lt_armL (l := t) (m := m) (k := 0)).mp (by omega) 0 (Nat.le_refl _))).2.1
      omega
theorem lenN_arms (t : List Nat) : lenN (armsL t) = t.length := by
  unfold lenN
  rw [armsL_len]
  omega
theorem arms_gr {t : List Nat} (L : Left (armL t) t.length) (m : Nat) : armL (gr (armL t) t.length) m = armL t m :=
  armL_congr (gr_len _ _) (fun i j hij hj => gr_pal (arms_of t) L rfl i j hij (by rw [gr_len] at hj; exact hj)) m
theorem bad_arms {t : List Nat} (L : Left (armL t) t.length) : badArms (armsL t) = false := by
  unfold badArms
  rw [rsR_arms, lenN_arms]
  cases h : (List.range (armsL t).length).any fun m => !decide (armL (gr (armL t) t.length) m = armL t m) with
  | false => rfl
  | true =>
    obtain ⟨m, _, e⟩ := List.any_eq_true.mp h
    rw [arms_gr L m, decide_eq_true rfl] at e
    cases e
theorem armsL_gr {t : List Nat} (L : Left (armL t) t.length) : armsL (gr (armL t) t.length) = armsL t := by
  unfold armsL
  rw [gr_len]
  exact List.map_congr_left fun m _ => arms_gr L m
theorem az_abc {l : List Nat} (h : l.all az = true) : ∀ c ∈ l, c ∈ abcL := fun c hc => by
  have z := List.all_eq_true.mp h c hc
  unfold az at z
  rw [Bool.and_eq_true, decide_eq_true_eq, decide_eq_true_eq] at z
  exact mem_abcL.mpr z
def spLaw (K : PySem.W.Frag) : Sp := fun vs H Q _ => ∃ (a : Addr) (ns : List Int), vs = [.ref a] ∧ SqL K H a (ns.map V.int) ∧ ∀ H', Q (.bl true) H'
/-- the arms of a text handed to is_arms and to least_text -/
theorem athing_arms {K : PySem.W.Frag} {H : Hp} {p : Addr} {t : List Nat} (h : H p = some (.lst ((armsL t).map nV))) (ht : t.length ≤ 200) : AThing K H (.ref p) true := by
  have z : AThing K H (.ref p) (isArmsL ((armsL t).map nV)) := .list h (nthing_nats _) (by rw [List.length_map, armsL_len]; omega)
  rw [isArmsL_arms ht] at z
  exact z
end Mw
namespace Mw
open PySem PySem.Spec PyProof.Rows L2

/-! ### all that is no table of code objects stays -/
def Sm (H H' : Hp) : Prop := ∀ b o, (∀ ps, o ≠ HO.tbl ps) → H b = some o → H' b = some o
theorem Sm.of {H H' : Hp} (s : Same H H') : Sm H H' := fun b o _ h => s b o h
theorem Kp.sm {P : Addr} {H H' : Hp} (k : Kp P H H') (t : GxR.TabG H P) : Sm H H' := fun b o n h => by
  by_cases e : b = P
  · obtain ⟨ps, h1, _⟩ := t
    rw [e, h1] at h
    exact absurd (Option.some.inj h).symm (n ps)
  · exact k.keep b o e h
theorem Sm.refl (H : Hp) : Sm H H := fun _ _ _ h => h
theorem Sm.trans {H H1 H2 : Hp} (a : Sm H H1) (b : Sm H1 H2) : Sm H H2 := fun c o n h => b c o n (a c o n h)
theorem Sm.lst {H H' : Hp} {p : Addr} {xs : List V} (s : Sm H H') (h : H p = some (.lst xs)) : H' p = some (.lst xs) := s _ _ (fun _ z => by cases z) h
theorem tyx_sm {K : PySem.W.Frag} {H H' : Hp} {x : V} {t : Value} (s : Sm H H') (h : TyX K H x t) : TyX K H' x t := by
  cases h with
  | base h =>
    refine .base ?_
    cases h with
    | non => exact .non
    | bl x => exact .bl x
    | int i => exact .int i
    | str x => exact .str x
    | flt x => exact .flt x
    | lst e => exact .lst (s _ _ (fun _ z => by cases z) e)
    | frz e => exact .frz (s _ _ (fun _ z => by cases z) e)
    | tup e => exact .tup (s _ _ (fun _ z => by cases z) e)
    | dK e => exact .dK (s _ _ (fun _ z => by cases z) e)
    | dT e => exact .dT (s _ _ (fun _ z => by cases z) e)
    | ins e cl ha hn htk hm => exact .ins (s _ _ (fun _ z => by cases z) e) cl ha hn htk hm
  | byt b => exact .byt b
  | set e => exact .set (s _ _ (fun _ z => by cases z) e)
  | kList e c => exact .kList e c
  | kTuple e c => exact .kTuple e c
  | kDict e c => exact .kDict e c
  | fTuple e => exact .fTuple (s _ _ (fun _ z => by cases z) e)
  | fDict e => exact .fDict (s _ _ (fun _ z => by cases z) e)
theorem nthing_sm {K : PySem.W.Frag} {H H' : Hp} {x : V} (s : Sm H H') (h : NThing K H x) : NThing K H' x := by
  cases h with
  | int i => exact .int i
  | bl b => exact .bl b
  | other t k no => exact .other (tyx_sm s t) k no
theorem sql_sm {K : PySem.W.Frag} {H H' : Hp} {p : Addr} {xs : List V} (s : Sm H H') (h : SqL K H p xs) : SqL K H' p xs := by
  rcases h with (h | ⟨o, h⟩) | h
  · exact .inl (.inl (s.lst h))
  · exact .inl (.inr ⟨o, s _ _ (fun _ z => by cases z) h⟩)
  · exact .inr h
theorem sqt_sm {K : PySem.W.Frag} {H H' : Hp} {p : Addr} {xs : List V} (s : Sm H H') (h : SqT K H p xs) : SqT K H' p xs := by
  rcases h with (h | ⟨o, h⟩) | h
  · exact .inl (.inl (s _ _ (fun _ z => by cases z) h))
  · exact .inl (.inr ⟨o, s _ _ (fun _ z => by cases z) h⟩)
  · exact .inr h
theorem athing_sm {K : PySem.W.Frag} {H H' : Hp} {x : V} {b : Bool} (s : Sm H H') (h : AThing K H x b) : AThing K H' x b := by
  cases h with
  | list h n z => exact .list (s.lst h) (fun x hx => nthing_sm s (n x hx)) z
  | other t k => exact .other (tyx_sm s t) k
mutual
theorem dp_sm {K : PySem.W.Frag} {H H' : Hp} (s : Sm H H') : ∀ (d : PyData) (v : V), Dp K H v d → Dp K H' v d
  | .none, _, h => by
    cases h
    exact .non
  | .bool b, _, h => by
    cases h
    exact .bl b
  | .int i, _, h => by
    cases h
    exact .int i
  | .str x, _, h => by
    cases h
    exact .str x
  | .list ds, _, h => by
    cases h with
    | lst q r => exact .lst (sql_sm s q) (dpAll_sm s ds _ r)
  | .tuple ds, _, h => by
    cases h with
    | tup q r => exact .tup (sqt_sm s q) (dpAll_sm s ds _ r)
  | .dict _, _, h => by cases h
theorem dpAll_sm {K : PySem.W.Frag} {H H' : Hp} (s : Sm H H') : ∀ (ds : List PyData) (vs : List V), DpAll K H vs ds → DpAll K H' vs ds
  | [], _, h => by
    cases h
    exact .nil
  | d :: ds, _, h => by
    cases h with
    | cons h1 h2 => exact .cons (dp_sm s d _ h1) (dpAll_sm s ds _ h2)
end
theorem dpAll_app {K : PySem.W.Frag} {H : Hp} : ∀ {vs ws : List V} {ds es : List PyData}, DpAll K H vs ds → DpAll K H ws es → DpAll K H (vs ++ ws) (ds ++ es)
  | _, _, [], _, h, k => by
    cases h
    exact k
  | _, _, d :: ds, _, h, k => by
    cases h with
    | cons h1 h2 => exact .cons h1 (dpAll_app h2 k)
theorem dpAll_take {K : PySem.W.Frag} {H : Hp} : ∀ (k : Nat) {vs : List V} {ds : List PyData}, DpAll K H vs ds → DpAll K H (vs.take k) (ds.take k)
  | 0, _, _, _ => .nil
  | k + 1, _, [], h => by
    cases h
    exact .nil
  | k + 1, _, d :: ds, h => by
    cases h with
    | cons h1 h2 => exact .cons h1 (dpAll_take k h2)
theorem dpAll_drop {K : PySem.W.Frag} {H : Hp} : ∀ (k : Nat) {vs : List V} {ds : List PyData}, DpAll K H vs ds → DpAll K H (vs.drop k) (ds.drop k)
  | 0, _, _, h => h
  | k + 1, _, [], h => by
    cases h
    exact .nil
  | k + 1, _, d :: ds, h => by
    cases h with
    | cons h1 h2 => exact dpAll_drop k h2
/-- data that can be compared -/
def Okd (d : PyData) : Prop := d.canLay0 = true ∧ d.depth ≤ 2
theorem okd_all : ∀ {ds : List PyData}, (∀ d ∈ ds, Okd d) → PyData.canLayAll0 ds = true ∧ PyData.depthAll ds ≤ 2
  | [], _ => ⟨rfl, Nat.zero_le _⟩
  | d :: ds, h => by
    obtain ⟨h1, h2⟩ := okd_all fun x hx => h x (List.mem_cons_of_mem _ hx)
    obtain ⟨k1, k2⟩ := h d List.mem_cons_self
    refine ⟨?_, ?_⟩
    · show (d.canLay0 && PyData.canLayAll0 ds) = true
      rw [h1, k1]
      rfl
    · show max d.depth (PyData.depthAll ds) ≤ 2
      exact Nat.max_le.mpr ⟨k2, h2⟩
theorem shaped_list {ds : List PyData} (h : ∀ d ∈ ds, Okd d) : SeqAt.shaped (.list ds) = true := by
  obtain ⟨h1, h2⟩ := okd_all h
  show (PyData.canLayAll0 ds && decide (PyData.depthAll ds + 1 ≤ 64)) = true
  rw [h1, decide_eq_true (by omega)]
  rfl
theorem shaped_tuple {ds : List PyData} (h : ∀ d ∈ ds, Okd d) : SeqAt.shaped (.tuple ds) = true := by
  obtain ⟨h1, h2⟩ := okd_all h
  show (PyData.canLayAll0 ds && decide (PyData.depthAll ds + 1 ≤ 64)) = true
  rw [h1, decide_eq_true (by omega)]
  rfl
def dN (n : Nat) : PyData := .int (n : Int)
theorem okd_nats (ns : List Nat) : ∀ d ∈ ns.map dN, Okd d := fun d hd => by
  obtain ⟨n, _, rfl⟩ := List.mem_map.mp hd
  exact ⟨rfl, Nat.zero_le _⟩
/-- != of data, or of two dicts that are equal -/
theorem op_neX {X : Cx} (hu : X.A.units + 64 < cLine) : OpR X (compareOp .NotEq) (fun x y H Q => rNeD X.K x y H Q ∨ rNeDA x y H Q) := by
  intro pins s σ H x y v u Q I rx ry h
  rcases h with h | h
  · exact op_neD hu pins s σ H x y v u Q I rx ry h
  · exact op_ne_dictA (by omega) pins s σ H x y v u Q I rx ry h

/-! ### things that are no arms -/
inductive Spoilt (K : PySem.W.Frag) (H : Hp) : V → Prop
  | list {a : Addr} {xs : List V} {ds : List PyData} (h : H a = some (.lst xs)) (n : ∀ x ∈ xs, NThing K H x) (z : xs.length ≤ 1000) (bad : isArmsL xs = false) (d : DpAll K H xs ds) (sh : ∀ d ∈ ds, Okd d) : Spoilt K H (.ref a)
  | other {x : V} {n : String} {d : PyData} (t : TyX K H x (.type n)) (k : kitB n "list" = some false) (dp : Dp K H x d) (sh : SeqAt.shaped d = true) : Spoilt K H x
  | dict {a : Addr} (h : H a = some (.dK [(.inl 0, .int 0)])) : Spoilt K H (.ref a)
theorem Spoilt.thing {K : PySem.W.Frag} {H : Hp} {x : V} (h : Spoilt K H x) : AThing K H x false := by
  cases h with
  | list h n z bad d sh =>
    have := AThing.list (K := K) h n z
    rw [bad] at this
    exact this
  | other t k d sh => exact .other t k
  | dict h => exact .other (.base (.dK h)) (by decide +kernel)
theorem spoilt_sm {K : PySem.W.Frag} {H H' : Hp} {x : V} (s : Sm H H') (h : Spoilt K H x) : Spoilt K H' x := by
  cases h with
  | list h n z bad d sh => exact .list (s.lst h) (fun x hx => nthing_sm s (n x hx)) z bad (dpAll_sm s _ _ d) sh
  | other t k d sh => exact .other (tyx_sm s t) k (dp_sm s _ _ d) sh
  | dict h => exact .dict (s _ _ (fun _ z => by cases z) h)
/-- one of the arms told otherwise -/
theorem isArms_set {xs : List V} {i : Nat} {v : V} (hi : i < xs.length) (h : numTo v (roomN i xs.length : Nat) = false) : isArmsL (xs.set i v) = false := by
  unfold isArmsL
  rw [List.length_set]
  cases c : (List.range xs.length).all (armOk (xs.set i v)) with
  | false => rw [Bool.and_false]
  | true =>
    have z := List.all_eq_true.mp c i (List.mem_range.mpr hi)
    unfold armOk at z
    rw [List.length_set, List.getD_eq_getElem?_getD, List.getElem?_set_self hi] at z
    have z : numTo v (roomN i xs.length : Nat) = true := z
    rw [h] at z
    cases z
def spSpoiltK (K : PySem.W.Frag) : Sp := fun vs H Q _ => ∃ (a : Addr) (t : List Nat) (c : Int), vs = [.ref a, .int c] ∧ H a = some (.lst ((armsL t).map nV)) ∧ t.length ≤ 30 ∧ ∀ H' x, Same H H' → Spoilt K H' x → Q x H'
def spRefA (K : PySem.W.Frag) : Sp := fun vs H Q _ => ∃ x, vs = [x] ∧ AThing K H x false ∧ ∀ H', Same H H' → Q (.bl true) H'
theorem modK (i : Int) {k : Nat} (hk : 0 < k) : ∃ j : Nat, i.fmod (k : Int) = (j : Int) ∧ j < k := by
  refine ⟨(i % (k : Int)).toNat, ?_, ?_⟩
  · rw [Int.fmod_eq_emod_of_nonneg _ (by omega)]
    have := Int.emod_nonneg i (show (k : Int) ≠ 0 by omega)
    omega
  · have h1 := Int.emod_nonneg i (show (k : Int) ≠ 0 by omega)
    have h2 := Int.emod_lt_of_pos i (show (0 : Int) < (k : Int) by omega)
    omega
end Mw
namespace Mw
open PySem PySem.Spec PyProof.Rows L2

/-! ### a text parted into as few mirror words as can be -/
def str (t : List Nat) (i j : Nat) : List Nat := (t.drop i).take (j - i)
def Ed (t : List Nat) (i j : Nat) : Prop := i < j ∧ j ≤ t.length ∧ pal (str t i j) = true
theorem pal_one (c : Nat) : pal [c] = true := by
  unfold pal
  exact decide_eq_true rfl
theorem str_one {t : List Nat} {i : Nat} (h : i < t.length) : str t i (i + 1) = [t[i]] := by
  unfold str
  rw [List.drop_eq_getElem_cons h, show i + 1 - i = 1 by omega]
  rfl
theorem ed_one {t : List Nat} {i : Nat} (h : i < t.length) : Ed t i (i + 1) := ⟨by omega, h, by rw [str_one h]; exact pal_one _⟩
/-- of those up to m that are let by: the last one of the least -/
theorem best_ex (E : Nat → Prop) (N : Nat → Nat) (i : Nat) : ∀ m, (∃ j, E j ∧ j ≤ m) → ∃ j, E j ∧ j ≤ m ∧ ∀ k, E k → k ≤ m → N j ≤ N k ∧ (j < k → N j < N k)
  | 0, ⟨j, h, hj⟩ => ⟨j, h, hj, fun k _ hk => by
    have e : k = j := by omega
    rw [e]
    exact ⟨Nat.le_refl _, fun z => absurd z (by omega)⟩⟩
  | m + 1, ⟨j, h, hj⟩ => by
    by_cases c : E (m + 1)
    · by_cases d : ∃ j, E j ∧ j ≤ m
      · obtain ⟨b, h1, h2, h3⟩ := best_ex E N i m d
        by_cases e : N (m + 1) ≤ N b
        · refine ⟨m + 1, c, Nat.le_refl _, fun k hk hm => ⟨?_, fun z => absurd z (by omega)⟩⟩
          by_cases f : k = m + 1
          · rw [f]
            exact Nat.le_refl _
          · have := (h3 k hk (by omega)).1
            omega
        · refine ⟨b, h1, by omega, fun k hk hm => ?_⟩
          by_cases f : k = m + 1
          · rw [f]
            exact ⟨by omega, fun _ => by omega⟩
          · exact h3 k hk (by omega)
      · refine ⟨m + 1, c, Nat.le_refl _, fun k hk hm => ?_⟩
        by_cases f : k = m + 1
        · rw [f]
          exact ⟨Nat.le_refl _, fun z => absurd z (by omega)⟩
        · exact absurd ⟨k, hk, by omega⟩ d
    · have : j ≤ m := by
        by_cases f : j = m + 1
        · rw [f] at h
          exact absurd h c
        · omega
      obtain ⟨b, h1, h2, h3⟩ := best_ex E N i m ⟨j, h, this⟩
      refine ⟨b, h1, by omega, fun k hk hm => ?_⟩
      by_cases f : k = m + 1
      · rw [f] at hk
        exact absurd hk c
      · exact h3 k hk (by omega)
/-- the first word's end -/
def Jp (t : List Nat) (N : Nat → Nat) (i j : Nat) : Prop := Ed t i j ∧ N i = 1 + N j ∧ ∀ k, Ed t i k → N j ≤ N k ∧ (j < k → N j < N k)
theorem need_ex (t : List Nat) : ∀ k, k ≤ t.length → ∃ N : Nat → Nat, N t.length = 0 ∧ ∀ i, t.length - k ≤ i → i < t.length → ∃ j, Jp t N i j
  | 0, _ => ⟨fun _ => 0, rfl, fun i h1 h2 => absurd h1 (by omega)⟩
  | k + 1, h => by
    obtain ⟨N, h0, hN⟩ := need_ex t k (by omega)
    have hi : t.length - (k + 1) < t.length := by omega
    obtain ⟨b, b1, b2, b3⟩ := best_ex (Ed t (t.length - (k + 1))) N 0 t.length ⟨_, ed_one hi, by omega⟩
    refine ⟨fun x => if x = t.length - (k + 1) then 1 + N b else N x, by show (if _ then _ else _) = 0; rw [if_neg (by omega)]; exact h0, fun i h1 h2 => ?_⟩
    have later : ∀ {i j}, t.length - (k + 1) ≤ i → Ed t i j → (if j = t.length - (k + 1) then 1 + N b else N j) = N j := fun {i j} h e => if_neg (by have := e.1; omega)
    by_cases c : i = t.length - (k + 1)
    · subst c
      refine ⟨b, b1, ?_, fun x hx => ?_⟩
      · show (if _ then _ else _) = 1 + (if _ then _ else _)
        rw [if_pos rfl, later (Nat.le_refl _) b1]
      · show (if _ then _ else _) ≤ (if _ then _ else _) ∧ (_ → (if _ then _ else _) < (if _ then _ else _))
        rw [later (Nat.le_refl _) b1, later (Nat.le_refl _) hx]
        exact b3 x hx hx.2.1
    · obtain ⟨j, j1, j2, j3⟩ := hN i (by omega) h2
      refine ⟨j, j1, ?_, fun x hx => ?_⟩
      · show (if _ then _ else _) = 1 + (if _ then _ else _)
        rw [if_neg c, later h1 j1]
        exact j2
      · show (if _ then _ else _) ≤ (if _ then _ else _) ∧ (_ → (if _ then _ else _) < (if _ then _ else _))
        rw [later h1 j1, later h1 hx]
        exact j3 x hx
noncomputable def need (t : List Nat) : Nat → Nat := Classical.choose (need_ex t t.length (Nat.le_refl _))
theorem need_end (t : List Nat) : need t t.length = 0 := (Classical.choose_spec (need_ex t t.length (Nat.le_refl _))).1
theorem need_jp (t : List Nat) {i : Nat} (h : i < t.length) : ∃ j, Jp t (need t) i j := (Classical.choose_spec (need_ex t t.length (Nat.le_refl _))).2 i (by omega) h
open Classical in
noncomputable def jmp (t : List Nat) (i : Nat) : Nat := if h : i < t.length then Classical.choose (need_jp t h) else i
theorem jmp_ok (t : List Nat) {i : Nat} (h : i < t.length) : Jp t (need t) i (jmp t i) := by
  unfold jmp
  rw [dif_pos h]
  exact Classical.choose_spec (need_jp t h)
theorem jp_one {t : List Nat} {i j k : Nat} (a : Jp t (need t) i j) (b : Jp t (need t) i k) : j = k := by
  have h1 := a.2.2 k b.1
  have h2 := b.2.2 j a.1
  rcases Nat.lt_trichotomy j k with h | h | h
  · have := h1.2 h
    omega
  · exact h
  · have := h2.2 h
    omega
noncomputable def prtF (t : List Nat) : Nat → Nat → List (List Nat)
  | 0, _ => []
  | f + 1, i => if i < t.length then str t i (jmp t i) :: prtF t f (jmp t i) else []
noncomputable def prt (t : List Nat) (i : Nat) : List (List Nat) := prtF t (t.length - i) i
theorem prtF_eq (t : List Nat) : ∀ (f i : Nat), t.length - i ≤ f → prtF t f i = prtF t (t.length - i) i := by
  intro f
  induction f with
  | zero =>
    intro i h
    have e : t.length - i = 0 := by omega
    rw [e]
  | succ f ih =>
    intro i h
    by_cases c : i < t.length
    · obtain ⟨k, hk⟩ : ∃ k, t.length - i = k + 1 := ⟨t.length - i - 1, by omega⟩
      rw [hk]
      show (if i < t.length then str t i (jmp t i) :: prtF t f (jmp t i) else []) = (if i < t.length then str t i (jmp t i) :: prtF t k (jmp t i) else [])
      rw [if_pos c, if_pos c]
      have hj := (jmp_ok t c).1.1
      by_cases e : k = f
      · rw [e]
      · have z := ih (jmp t i) (by omega)
        rw [z]
        have : ∀ g, t.length - jmp t i ≤ g → g ≤ f → prtF t g (jmp t i) = prtF t (t.length - jmp t i) (jmp t i) := by
          intro g
          induction g with
          | zero =>
            intro h1 _
            have e : t.length - jmp t i = 0 := by omega
            rw [e]
          | succ g ih2 =>
            intro h1 h2
            by_cases d : t.length - jmp t i = g + 1
            · rw [d]
            · by_cases e2 : g + 1 = f
              · rw [e2, ← z]
              · -- one more turn does not matter
                have w : ∀ (a b x : Nat), t.length - x ≤ a → t.length - x ≤ b → prtF t a x = prtF t b x := by
                  intro a
                  induction a with
                  | zero =>
                    intro b x h1 h2
                    have hx : ¬ x < t.length := by omega
                    cases b with
                    | zero => rfl
                    | succ b =>
                      show [] = (if x < t.length then _ else [])
                      rw [if_neg hx]
                  | succ a iha =>
                    intro b x h1 h2
                    by_cases hx : x < t.length
                    · cases b with
                      | zero => omega
                      | succ b =>
                        show (if x < t.length then _ else []) = (if x < t.length then _ else [])
                        rw [if_pos hx, if_pos hx]
                        have := (jmp_ok t hx).1.1
                        rw [iha b (jmp t x) (by omega) (by omega)]
                    · cases b with
                      | zero =>
                        show (if x < t.length then _ else []) = []
                        rw [if_neg hx]
                      | succ b =>
                        show (if x < t.length then _ else []) = (if x < t.length then _ else [])
                        rw [if_neg hx, if_neg hx]
                exact w _ _ _ h1 (Nat.le_refl _)
        rw [this k (by omega) (by omega)]
    · have e : t.length - i = 0 := by omega
      rw [e]
      show (if i < t.length then _ else []) = []
      rw [if_neg c]
theorem prt_end (t : List Nat) : prt t t.length = [] := by
  unfold prt
  rw [Nat.sub_self]
  rfl
theorem prt_step {t : List Nat} {i : Nat} (h : i < t.length) : prt t i = str t i (jmp t i) :: prt t (jmp t i) := by
  unfold prt
  obtain ⟨k, hk⟩ : ∃ k, t.length - i = k + 1 := ⟨t.length - i - 1, by omega⟩
  rw [hk]
  show (if i < t.length then str t i (jmp t i) :: prtF t k (jmp t i) else []) = _
  have := (jmp_ok t h).1.1
  rw [if_pos h, prtF_eq t k (jmp t i) (by omega)]
theorem prt_need (t : List Nat) : ∀ k, k ≤ t.length → (prt t (t.length - k)).length = need t (t.length - k) := by
  intro k
  induction k using Nat.strongRecOn with
  | ind k ih =>
    intro h
    by_cases c : k = 0
    · rw [c, Nat.sub_zero, prt_end, need_end]
      rfl
    · have hi : t.length - k < t.length := by omega
      obtain ⟨⟨a, b, _⟩, e, _⟩ := jmp_ok t hi
      rw [prt_step hi, List.length_cons, e]
      have z := ih (t.length - jmp t (t.length - k)) (by omega) (by omega)
      have y : t.length - (t.length - jmp t (t.length - k)) = jmp t (t.length - k) := by omega
      rw [y] at z
      omega
theorem prt_len {t : List Nat} {i : Nat} (h : i ≤ t.length) : (prt t i).length = need t i := by
  have z := prt_need t (t.length - i) (by omega)
  have e : t.length - (t.length - i) = i := by omega
  rw [e] at z
  exact z
theorem need_le (t : List Nat) : ∀ k, k ≤ t.length → need t (t.length - k) ≤ k := by
  intro k
  induction k using Nat.strongRecOn with
  | ind k ih =>
    intro h
    by_cases c : k = 0
    · rw [c, Nat.sub_zero, need_end]
      exact Nat.le_refl _
    · have hi : t.length - k < t.length := by omega
      obtain ⟨⟨a, b, _⟩, e, _⟩ := jmp_ok t hi
      have z := ih (t.length - jmp t (t.length - k)) (by omega) (by omega)
      have y : t.length - (t.length - jmp t (t.length - k)) = jmp t (t.length - k) := by omega
      rw [y] at z
      omega
theorem need_le' {t : List Nat} {i : Nat} (h : i ≤ t.length) : need t i ≤ t.length - i := by
  have z := need_le t (t.length - i) (by omega)
  have e : t.length - (t.length - i) = i := by omega
  rw [e] at z
  exact z
theorem prt_flat (t : List Nat) : ∀ k, k ≤ t.length → (prt t (t.length - k)).flatten = t.drop (t.length - k) := by
  intro k
  induction k using Nat.strongRecOn with
  | ind k ih =>
    intro h
    by_cases c : k = 0
    · rw [c, Nat.sub_zero, prt_end, List.drop_length]
      rfl
    · have hi : t.length - k < t.length := by omega
      obtain ⟨⟨a, b, _⟩, e, _⟩ := jmp_ok t hi
      rw [prt_step hi, List.flatten_cons]
      have z := ih (t.length - jmp t (t.length - k)) (by omega) (by omega)
      have y : t.length - (t.length - jmp t (t.length - k)) = jmp t (t.length - k) := by omega
      rw [y] at z
      rw [z]
      unfold str
      have w : t.drop (jmp t (t.length - k)) = (t.drop (t.length - k)).drop (jmp t (t.length - k) - (t.length - k)) := by
        rw [List.drop_drop]
        congr 1
        omega
      rw [w, List.take_append_drop]
theorem prt_flat0 (t : List Nat) : (prt t 0).flatten = t := by
  have z := prt_flat t t.length (Nat.le_refl _)
  rw [Nat.sub_self, List.drop_zero] at z
  exact z
/-- the ends of the mirror words that begin at i -/
def endsL (t : List Nat) (i : Nat) : List Nat := ((List.range (t.length - i)).map (i + 1 + ·)).filter fun j => pal (str t i j)
theorem mem_endsL {t : List Nat} {i j : Nat} : j ∈ endsL t i ↔ Ed t i j := by
  unfold endsL Ed
  rw [List.mem_filter, List.mem_map]
  constructor
  · rintro ⟨⟨k, h1, h2⟩, h3⟩
    have := List.mem_range.mp h1
    exact ⟨by omega, by omega, h3⟩
  · rintro ⟨h1, h2, h3⟩
    exact ⟨⟨j - i - 1, List.mem_range.mpr (by omega), by omega⟩, h3⟩
theorem endsL_len (t : List Nat) (i : Nat) : (endsL t i).length ≤ t.length := by
  unfold endsL
  refine Nat.le_trans (List.length_filter_le _ _) ?_
  rw [List.length_map, List.length_range]
  omega
theorem cut_str {t : List Nat} {i j : Nat} (h1 : i ≤ t.length) (h2 : j ≤ t.length) : cutS (T t) (some (i : Int)) (some (j : Int)) = T (str t i j) := by
  rw [cutS_T, HT.sIx_nat, HT.sIx_nat, Nat.min_eq_left h1, Nat.min_eq_left h2]
  rfl
theorem str_len {t : List Nat} {i j : Nat} : (str t i j).length ≤ t.length := by
  unfold str
  rw [List.length_take, List.length_drop]
  omega
theorem join_txt (ts : List (List Nat)) : Txt.join (Str.ofString "") (ts.map T) = T ts.flatten := by
  refine TL.ext_tl ?_
  rw [TL.join_eq, TL.tl_join, tl_T]
  have e : TL.tl (Str.ofString "") = [] := rfl
  rw [e]
  induction ts with
  | nil => rfl
  | cons c r ih =>
    cases r with
    | nil =>
      show c = c ++ []
      rw [List.append_nil]
    | cons d r =>
      show c ++ ([] ++ TL.joinL [] (((d :: r).map T).map TL.tl)) = c ++ (d :: r).flatten
      rw [ih]
      rfl
def spEndsF : Sp := fun vs H Q _ => ∃ (t : List Nat) (i : Nat), vs = [.str (T t), .int (i : Int)] ∧ t.length ≤ 200 ∧ i ≤ t.length ∧ ∀ H' p, Same H H' → H p = none → H' p = some (.lst ((endsL t i).map nV)) → Q (.ref p) H'
def spNeeded : Sp := fun vs H Q _ => ∃ t : List Nat, vs = [.str (T t)] ∧ t.length ≤ 200 ∧ ∀ (H' : Hp) (p : Addr) (M : List Nat), Same H H' → H p = none → H' p = some (.lst (M.map nV)) → M.length = t.length + 1 → (∀ x, x ≤ t.length → M[x]? = some (need t x)) → Q (.ref p) H'
def spFewest (K : PySem.W.Frag) (P BT : Addr) : Sp := fun vs H Q E => ∃ x, vs = [x] ∧ GxR.TabG H P ∧ Thing K H x ∧ (isT x = false → ∀ H', GxR.Tabbed P H H' → E (.ref BT) none H') ∧
  (isT x = true → ∀ l, x = .str (T l) → l.length ≤ 200 → ∀ H' p, Kp P H H' → H p = none → H' p = some (.lst ((prt l 0).map sV)) → Q (.ref p) H')
def spLFewest : Sp := fun vs H Q _ => ∃ t : List Nat, vs = [.str (T t)] ∧ t.length ≤ 200 ∧ ∀ H' p, Same H H' → H' p = some (.lst ((prt t 0).map sV)) → Q (.ref p) H'
/-- texts as data -/
def dS (l : List Nat) : PyData := .str (T l)
theorem dp_txts {K : PySem.W.Frag} {H : Hp} : ∀ ts : List (List Nat), DpAll K H (ts.map sV) (ts.map dS)
  | [] => .nil
  | t :: r => .cons (.str _) (dp_txts r)
theorem strOk_az {t : List Nat} (h : t.all az = true) : (dS t).canLay0 = true := by
  show (t.toArray).all (· < 0x110000) = true
  rw [List.all_toArray, List.all_eq_true]
  intro c hc
  have z := List.all_eq_true.mp h c hc
  unfold az at z
  rw [Bool.and_eq_true, decide_eq_true_eq, decide_eq_true_eq] at z
  exact decide_eq_true (by omega)
theorem okd_txts {ts : List (List Nat)} (h : ∀ t ∈ ts, t.all az = true) : ∀ d ∈ ts.map dS, Okd d := fun d hd => by
  obtain ⟨t, ht, rfl⟩ := List.mem_map.mp hd
  exact ⟨strOk_az (h t ht), Nat.zero_le _⟩
theorem prt_az {t : List Nat} (h : t.all az = true) {i : Nat} (hi : i ≤ t.length) : ∀ w ∈ prt t i, w.all az = true := fun w hw => by
  have z := prt_flat t (t.length - i) (by omega)
  have e : t.length - (t.length - i) = i := by omega
  rw [e] at z
  rw [List.all_eq_true] at h ⊢
  intro c hc
  have m : c ∈ (prt t i).flatten := List.mem_flatten.mpr ⟨w, hw, hc⟩
  rw [z] at m
  exact h c (List.mem_of_mem_drop m)
theorem txts_eq {K : PySem.W.Frag} {ts : List (List Nat)} (h : ∀ t ∈ ts, t.all az = true) : PyData.eqv (.list (ts.map dS)) (.list (ts.map dS)) = true :=
  SeqAt.eqv_refl _ (SeqAt.canLay_of_shaped (shaped_list (okd_txts h)))
end Mw
namespace Mw
open PySem PySem.Spec PyProof.Rows L2

/-! ### sets of texts that can be walked -/
abbrev SDat := PySem.Froz.SD
def txOf : Value → Str
  | .str k _ => k
  | _ => ⟨#[]⟩
/-- D holds the texts l, each once; it rises and can be walked -/
structure Hold (w : World) (D : SDat) (l : List Str) : Prop where
  el : ∀ e ∈ D.1.toList, ∃ k u, e = (hashStr w k, Value.str k u)
  pm : (D.1.toList.map fun e => txOf e.2).Perm l
  nd : l.Nodup
  few : l.length < scanBound
  fit : D.2.2.fits D.1.size = true
  ris : Ris D.2.2.place.toList
  led : w.params.followText "set-order" = true ∨ D.2.2.led = true
def grow (k : Str) (l : List Str) : List Str := if k ∈ l then l else k :: l
theorem is_iff {P : Program} {w : World} (k k2 : Str) (u : Tok) : (PySem.strKind P w).is k (.str k2 u) = true ↔ k2 = k := by
  constructor
  · intro z
    exact (PySem.strKind P w).inj _ _ _ (PySem.Froz.is_str k2 u) z
  · rintro rfl
    exact PySem.Froz.is_str _ _
section
variable {P : Program} {w : World} {D : SDat} {l : List Str}
theorem Hold.mem (h : Hold w D l) (k : Str) : k ∈ l ↔ ∃ e ∈ D.1.toList, (PySem.strKind P w).is k e.2 = true := by
  rw [← h.pm.mem_iff, List.mem_map]
  constructor
  · rintro ⟨e, he, q⟩
    obtain ⟨k2, u, rfl⟩ := h.el e he
    exact ⟨_, he, (is_iff k k2 u).mpr q⟩
  · rintro ⟨e, he, q⟩
    obtain ⟨k2, u, rfl⟩ := h.el e he
    exact ⟨_, he, (is_iff k k2 u).mp q⟩
theorem Hold.size (h : Hold w D l) : D.1.size = l.length := by
  rw [← h.pm.length_eq, List.length_map, Array.length_toList]
theorem Hold.tx (h : Hold w D l) : PySem.Froz.TxOk P w D l where
  el := fun e he => by
    obtain ⟨k, u, rfl⟩ := h.el e he
    exact ⟨⟨k, PySem.Froz.is_str k u, rfl⟩, rfl⟩
  mem := h.mem
  sz := h.size
  fit := h.fit
theorem tail_has {ep : Nat} {es1 : Array (Int × Value)} {t2 : SetTable} {b : Bool} (hf : t2.fits es1.size = true) (hr : Ris t2.place.toList) :
    (PySem.Froz.tailTx ep es1 t2 b).1.toList.Perm es1.toList ∧ (PySem.Froz.tailTx ep es1 t2 b).2.2.fits (PySem.Froz.tailTx ep es1 t2 b).1.size = true ∧ Ris (PySem.Froz.tailTx ep es1 t2 b).2.2.place.toList ∧ (PySem.Froz.tailTx ep es1 t2 b).2.2.led = t2.led := by
  unfold PySem.Froz.tailTx
  split
  · exact ⟨relayAll_perm _ _ _, relayAll_fits _ _ _, relayAll_ris _ _ _, relayAll_led _ _ _⟩
  · exact ⟨List.Perm.refl _, hf, hr, rfl⟩
theorem Hold.more (h : Hold w D l) {k : Str} {u : Tok} (hk : k ∉ l) (room : l.length + 1 < scanBound) : Hold w (PySem.Froz.addTx (hashStr w k) (.str k u) D) (k :: l) := by
  have p1 := layNew_perm D.2.2 D.1 (hashStr w k) (.str k u)
  have f1 := layNew_fits D.2.2 D.1 (hashStr w k) (.str k u)
  have r1 := layNew_ris D.2.2 D.1 (hashStr w k) (.str k u) h.ris
  have l1 := layNew_led D.2.2 D.1 (hashStr w k) (.str k u)
  rw [Array.toList_push] at p1
  have hx : ∃ t2, (if (layNew D.2.2 D.1 (hashStr w k) (.str k u)).2.1.plain = true then { (layNew D.2.2 D.1 (hashStr w k) (.str k u)).2.1 with plain := false } else (layNew D.2.2 D.1 (hashStr w k) (.str k u)).2.1) = t2 ∧
      t2.fits (layNew D.2.2 D.1 (hashStr w k) (.str k u)).1.size = true ∧ Ris t2.place.toList ∧ t2.led = D.2.2.led := by
    refine ⟨_, rfl, ?_⟩
    split
    · exact ⟨SetTable.fits_plain_off f1, r1, l1⟩
    · exact ⟨f1, r1, l1⟩
  obtain ⟨t2, e2, f2, r2, l2⟩ := hx
  have z := tail_has (ep := D.2.1) (b := (layNew D.2.2 D.1 (hashStr w k) (.str k u)).2.2.1) f2 r2
  have ea : PySem.Froz.addTx (hashStr w k) (.str k u) D = PySem.Froz.tailTx D.2.1 (layNew D.2.2 D.1 (hashStr w k) (.str k u)).1 t2 (layNew D.2.2 D.1 (hashStr w k) (.str k u)).2.2.1 := by
    rw [← e2]
    rfl
  rw [← ea] at z
  obtain ⟨z1, z2, z3, z4⟩ := z
  have pc : (PySem.Froz.addTx (hashStr w k) (.str k u) D).1.toList.Perm ((hashStr w k, Value.str k u) :: D.1.toList) := (z1.trans p1).trans (List.perm_append_singleton _ _)
  refine ⟨fun e he => ?_, ?_, List.nodup_cons.mpr ⟨hk, h.nd⟩, room, z2, z3, ?_⟩
  · rcases List.mem_cons.mp (pc.mem_iff.mp he) with q | q
    · exact ⟨k, u, q⟩
    · exact h.el e q
  · have q : (((hashStr w k, Value.str k u) :: D.1.toList).map fun e => txOf e.2).Perm (k :: l) := h.pm.cons k
    exact (pc.map fun e => txOf e.2).trans q
  · rw [z4, l2]
    exact h.led
end
/-- at a stands the set of the texts l -/
def TxSet (w : World) (h : Heap) (a : Addr) (l : List Str) : Prop := ∃ D : SDat, h.get? a = some (PySem.Froz.sObj "set" D) ∧ Hold w D l
section
variable {P : Program} {w : World} {A : Around} {E : Value → Shared → Prop} {s : Shared} {a : Addr} {l : List Str}
theorem had_x {D : SDat} {k : Str} {u : Tok} {Q : Bool → Shared → Prop} (ho : s.heap.get? a = some (PySem.Froz.sObj "set" D)) (h : Hold w D l) (hk : k ∈ l) (q : Q false s) :
    wpAny (model P w) A (setAddHashed a (.str k u) (hashStr w k)) Q E s := by
  obtain ⟨es, ep, t⟩ := D
  have F := h.tx (P := P)
  have hd : (PySem.Froz.sObj "set" (es, ep, t)).data = .set es ep t := rfl
  have hf : t.fits es.size = true := h.fit
  have hel : ElemsOf (PySem.strKind P w) es.toList := F.el
  have hb : es.size < scanBound := by
    have z : es.size = l.length := h.size
    have z2 := h.few
    omega
  unfold setAddHashed setAddHashedIn
  refine wpAny_holding (wpAny_bind (wpAny_setState_of ho hd hf ?_))
  dsimp only
  rw [byScan_of rfl hb hel]
  simp only [↓reduceIte]
  unfold setAddByScan
  refine wpAny_bind ?_
  refine wpAny_bind (wpAny_rule ?_)
  refine wpAny_bind (wpAny_setScan_of (knd := PySem.strKind P w) (k := k) (PySem.Froz.is_str k u) ho hd hf hel ?_)
  cases c : List.findIdx? (fun e => (PySem.strKind P w).is k e.2) es.toList with
  | some j =>
    dsimp only
    exact wpAny_pure (wpAny_pure q)
  | none =>
    obtain ⟨e, he, z⟩ := (F.mem k).mp hk
    have z2 := List.findIdx?_eq_none_iff.mp c e he
    rw [z] at z2
    cases z2
theorem txSet_add {k : Str} {u : Tok} {Q : Value → Shared → Prop} (R : TxSet w s.heap a l) (room : l.length + 1 < scanBound)
    (hQ : ∀ h', Heap.SameBut a s.heap h' → TxSet w h' a (grow k l) → Q .none { s with heap := h', toks := s.toks + 1 }) :
    wpAny (model P w) A (call (.builtin "set.add") [.ref a, .str k u]) Q E s := by
  obtain ⟨D, ho, h⟩ := R
  refine wpAny_call_entry F.slot_set_add ⟨_, ho, rfl⟩ F.entry_set_add ?_ (F.args_set_add_2 _ _)
  unfold Builtin.«set.add» Builtin.Frozenset.oneOther
  simp only [List.isEmpty_nil, bind_assoc]
  unfold Builtin.Frozenset.addrOf setAdd
  refine wpAny_bind (wpAny_pure ?_)
  try dsimp only
  refine wpAny_bind (wpAny_pure ?_)
  try dsimp only
  refine wpAny_bind ?_
  refine wpAny_holding ?_
  refine wpAny_bind ((PySem.strKind P w).pyHash (k := k) (PySem.Froz.is_str k u) ?_)
  by_cases hk : k ∈ l
  · refine had_x (s := { s with toks := s.toks + 1 }) ho h hk ?_
    show wpAny _ _ (ret Value.none) _ _ _
    refine wpAny_pure ⟨_, rfl, hQ s.heap (Heap.SameBut.refl a s.heap) ?_⟩
    unfold grow
    rw [if_pos hk]
    exact ⟨D, ho, h⟩
  · refine PySem.Froz.add_x (s := { s with toks := s.toks + 1 }) (l := l) ho h.tx hk room ?_
    show wpAny _ _ (ret Value.none) _ _ _
    refine wpAny_pure ⟨_, rfl, hQ _ (Heap.SameBut.update s.heap a _) ?_⟩
    unfold grow
    rw [if_neg hk]
    exact ⟨_, PySem.Froz.get_upd _ ho rfl, h.more hk room⟩
end
/-- as a tracked thing -/
def SetTO (w : World) (a : Addr) (l : List Str) : HO := .ext fun h => TxSet w h a l
theorem setTO_new {w : World} {P : Program} {H : Hp} {h : Heap} {a : Addr} {l : List Str} (R : TxSet w h a l) : ObjOk P w H h a (SetTO w a l) := by
  have ⟨D, ho, _⟩ := R
  exact ⟨R, ⟨_, ho⟩, fun h1 h2 ⟨D, e, z⟩ k => ⟨D, k _ e, z⟩⟩
theorem txSet_fresh {h : Heap} (w : World) : TxSet w (h.push { cls := .type "set", dict := none, data := .set #[] 0 (.fresh 0 0 (!w.params.followText "set-order")) }) h.objs.size [] := by
  refine ⟨(#[], 0, .fresh 0 0 (!w.params.followText "set-order")), Heap.get?_push_size _ rfl, fun e he => by simp at he, List.Perm.refl _, List.nodup_nil, by decide, by rfl, List.Pairwise.nil, ?_⟩
  show _ ∨ (!w.params.followText "set-order") = true
  cases w.params.followText "set-order"
  · exact .inr rfl
  · exact .inl rfl
section
variable {X : Cx}
theorem setTO_get {pins : List (Addr × Obj)} {σ : L2.St} {H : Hp} {s : Shared} {a : Addr} {l : List Str} (I : Inv X pins σ H s) (ha : H a = some (SetTO X.w a l)) : TxSet X.w s.heap a l := (I.hok a _ ha).1
theorem addT_ok {pins : List (Addr × Obj)} {σ : L2.St} {H : Hp} {s : Shared} {E : Value → Shared → Prop} {D : Addr} {l : List Str} {k : Str} {u : Tok} {Q : Value → Shared → Prop} (I : Inv X pins σ H s) (hD : H D = some (SetTO X.w D l)) (room : l.length + 1 < scanBound)
    (h : ∀ s', Inv X pins σ (upd H D (SetTO X.w D (grow k l))) s' → Q .none s') : wpAny (model X.prog X.w) X.A (call (.builtin "set.add") [.ref D, .str k u]) Q E s := by
  refine txSet_add (setTO_get I hD) room fun h' sb new => ?_
  have he : ∃ u, h'.get? D = some u := by
    have ⟨_, ho, _⟩ := new
    exact ⟨_, ho⟩
  exact h _ (I.write (e := D) (t' := s.toks + 1) (by rw [hD]; trivial) (.inl rfl) (fun b u hb hu => (sb.2 b hb).trans hu) he (setTO_new new))
end
end Mw
namespace Mw
open PySem PySem.Spec PyProof.Rows L2

/-! ### {elt for target in iter}, elt a text -/
/-- what a turn of it hands on: the text joins the set at D -/
def joins (w : World) (D : Addr) (Nx : Hp → Prop) : VK := fun y H4 => ∃ (k : Str) (l : List Str), y = .str k ∧ H4 D = some (SetTO w D l) ∧ l.length + 1 < scanBound ∧ Nx (upd H4 D (SetTO w D (grow k l)))
def tScT (w : World) (wi : TI) (g : TG) (te : TE) (vs : List Nat) : TE := fun σ H Q => wi σ H fun J H1 => ∀ D, H1 D = none → ∃ W : Nat → Nat → Hp → Prop, (∃ m, W 0 m (upd H1 D (SetTO w D []))) ∧ ∀ i m H, W i m H →
  (J.stop i H ∧ Q (.ref D) H) ∨ (J.go i H ∧ ∃ Nx : Hp → Prop, (∀ H', Nx H' → ∃ m', m' < m ∧ W (i + 1) m' H') ∧ ∀ x H', J.yld i H x H' → g x (wipe σ vs) H' fun σ2 H2 => wipe σ2 vs = wipe σ vs ∧ te σ2 H2 (joins w D Nx))
section
variable {X : Cx}
theorem pe_scT {elt tg iter : Expr} {scope : Scope} {own : List (PySem.Str × Nat)} {pos : Pos} {wi : TI} {g : TG} {te : TE} (hc : X.calm = true) (hN : X.N.Nodup) (hi : PI X tg iter wi) (ok : BlkOk X.N X.env.scope scope own)
    (hg : ∀ (s : Shared) (H : Hp) (C : Addr) (cl : List (PySem.Str × Addr)) (fp : List Addr), PG (X.blk s H scope (compEnvC scope cl C X.env) fp) tg g)
    (he : ∀ (s : Shared) (H : Hp) (C : Addr) (cl : List (PySem.Str × Addr)) (fp : List Addr), PE (X.blk s H scope (compEnvC scope cl C X.env) fp) elt te) (hs : ∀ x, foldedSetIterable iter X.env x = pure x := by intro _; rfl) :
    PE X (.SetComp elt [⟨tg, iter, [], 0⟩] scope pos) (tScT X.w wi g te (own.map (·.2))) := by
  refine ⟨fun pins s σ H Q I h => ?_⟩
  rw [PpSet.eval_SetComp]
  have free : ∀ y ∈ scope.names, y.2 = .free → ∃ c, X.env.cells.lookup y.1 = some c := fun y hy e => I.ok.has _ (ok.free y hy e)
  refine wpAny_comprehension_free (use := none) rfl hs (closure_ok free) ok.kind (fun y hy e => by rw [ok.uniq y hy, e]) (thn (hi.run pins s σ H _ I h) fun xv s1 h1 => thn h1 fun itv s2 h2 => ?_)
  obtain ⟨it, fp, tn, J, H2, rfl, I2, T, st2, f2, q⟩ := h2
  refine PpSet.newSet_ok (newEnv_comp ?_)
  obtain ⟨W, ⟨m0, w0⟩, turn⟩ := q s2.heap.objs.size (I2.hok.fresh (Nat.le_refl _))
  -- the new set at D
  obtain ⟨D, eD⟩ : ∃ D, D = s2.heap.objs.size := ⟨_, rfl⟩
  rw [← eD] at w0 turn ⊢
  obtain ⟨s3, e3⟩ : ∃ s3 : Shared, s3 = { s2 with heap := s2.heap.push { cls := .type "set", dict := none, data := .set #[] 0 (.fresh 0 0 (!X.w.params.followText "set-order")) } } := ⟨_, rfl⟩
  have h3 : s3.heap = s2.heap.push { cls := .type "set", dict := none, data := .set #[] 0 (.fresh 0 0 (!X.w.params.followText "set-order")) } := by rw [e3]
  obtain ⟨H3, eH3⟩ : ∃ H3 : Hp, H3 = upd H2 D (SetTO X.w D []) := ⟨_, rfl⟩
  have I3 : Inv X pins σ H3 s3 := by
    rw [e3, eH3, eD]
    exact I2.laid (t' := s2.toks) (fun b o e => Heap.get?_push_of_some _ e) (Nat.le_refl _) (setTO_new (txSet_fresh X.w))
  have f3 : ∀ b ∈ fp, FpOk X pins H3 b ∧ b < s3.heap.objs.size := fun b hb => by
    obtain ⟨o, e, _⟩ := T.obj _ _ st2 b hb
    have lt := Heap.lt_size e
    refine ⟨⟨?_, (f2 b hb).2⟩, by rw [h3, Heap.size_push]; exact Nat.lt_succ_of_lt lt⟩
    rw [eH3, eD, upd_ne (Nat.ne_of_lt lt)]
    exact (f2 b hb).1
  have st3 : tn 0 s3.heap := T.keep _ _ _ st2 fun b _ o e => by rw [h3]; exact Heap.get?_push_of_some _ e
  have I4 := block_start I3 ok hN f3
  have pg := hg s3 H3 s3.heap.objs.size (cellsFrom (s3.heap.objs.size + 1) scope.names (cloFrom X.env.cells scope.names [])) fp
  have pe := he s3 H3 s3.heap.objs.size (cellsFrom (s3.heap.objs.size + 1) scope.names (cloFrom X.env.cells scope.names [])) fp
  rw [← eH3] at w0
  rw [← e3]
  have nfp : ∀ b ∈ fp, H3 b = none := fun b hb => (f3 b hb).1.1
  change codeAny _ _ (.compStart (.SetComp elt [⟨tg, iter, [], 0⟩] scope pos) 0 (.ref it) (.ref D) (compEnvC scope (cellsFrom (s3.heap.objs.size + 1) scope.names (cloFrom X.env.cells scope.names [])) s3.heap.objs.size X.env)) (compPost (model X.prog X.w) X.A X.xe none (EP X pins σ Q) (.ref D) s3.heap.objs.size) { s3 with heap := pushCells (s3.heap.push { cls := .type "dict", data := .dict #[] }) scope.names }
  obtain ⟨ce, ece⟩ : ∃ ce, ce = compEnvC scope (cellsFrom (s3.heap.objs.size + 1) scope.names (cloFrom X.env.cells scope.names [])) s3.heap.objs.size X.env := ⟨_, rfl⟩
  have cL : ce.locals = s3.heap.objs.size := by rw [ece]; rfl
  rw [← ece] at I4 pg pe ⊢
  obtain ⟨s4, e4⟩ : ∃ s4 : Shared, s4 = { s3 with heap := pushCells (s3.heap.push { cls := .type "dict", data := .dict #[] }) scope.names } := ⟨_, rfl⟩
  have st4 : tn 0 s4.heap := T.keep _ _ _ st3 fun b _ o e => by rw [e4]; exact pushCells_keeps _ _ _ _ (Heap.get?_push_of_some _ e)
  rw [← e4] at I4 ⊢
  have stat : ∀ {σ' : L2.St} {H' : Hp} {s' : Shared}, Inv (X.blk s3 H3 scope ce fp) [] σ' H' s' → (∀ b ∈ fp, H' b = none) → ∀ b ∈ fp, FpOk (X.blk s3 H3 scope ce fp) [] H' b := fun {σ' H' s'} I' hn b hb =>
    ⟨hn b hb, (I'.ok.exf b hb).1, I'.ok.exfs b hb, .inl hb, fun x c e => (I'.ok.exf b hb).2 x c e, fun p hp => absurd (show p ∈ ([] : List (Addr × Obj)) ++ [] from hp) (by simp)⟩
  have loop : codeAny (model X.prog X.w) X.A (.compLoop (.SetComp elt [⟨tg, iter, [], 0⟩] scope pos) 0 (.ref it) (.ref D) ce) (compPost (model X.prog X.w) X.A X.xe none (EP X pins σ Q) (.ref D) s3.heap.objs.size) s4 := by
    refine PpSet.compLoopS_any (fun n s' => ∃ i H', Inv (X.blk s3 H3 scope ce fp) [] (wipe σ (own.map (·.2))) H' s' ∧ tn i s'.heap ∧ (∀ b ∈ fp, H' b = none) ∧ W i n H') ?_ m0 ⟨0, H3, I4, st4, nfp, w0⟩
    rintro n s5 ⟨i, H5, I5, st5, n5, w5⟩
    rcases turn i n H5 w5 with ⟨stop, qq⟩ | ⟨go, Nx, hNx, step⟩
    · refine thnF (T.done (X.blk s3 H3 scope ce fp) rfl rfl rfl hc i [] s5 _ H5 (fun _ _ => False) I5 (stat I5 n5) st5 stop) fun r s6 ⟨hr, I6⟩ => ?_
      subst hr
      have I7 : Inv X pins σ H5 s6 := I3.call' (ch := fp) I6.os I6.base I6.hok I6.bare fun b hb => ⟨(f3 b hb).1.2.2.2.1, (f3 b hb).1.2.1, (f3 b hb).1.2.2.2.2.1, (f3 b hb).1.2.2.2.2.2⟩
      have nC : H5 s3.heap.objs.size = none := by
        have z : H5 ce.locals = none := I6.free
        rw [cL] at z
        exact z
      obtain ⟨m, hn, _⟩ := I6.loc
      have hn : s6.heap.Ns ce.locals m := hn
      rw [cL] at hn
      obtain ⟨g0, g1, g2, g3, g4, g5⟩ := I3.fpOk (Nat.le_refl _) nC
      exact ⟨m, hn, fun h'' sb => ⟨.ref D, H5, I7.turned (t' := s6.toks) (fun b o hb e => (sb.2 b hb).trans e) g0 g1 g3 g4 g5, rfl, qq⟩⟩
    · refine thnF (T.item (X.blk s3 H3 scope ce fp) rfl rfl rfl hc i [] s5 _ H5 (fun _ _ => False) I5 (stat I5 n5) st5 go) fun r s6 ⟨u, hr, h6⟩ => ?_
      subst hr
      refine thnF h6 fun _ s7 ⟨x, H7, I7, r7, y7, st7, n7⟩ => ?_
      refine thnF (pg.run _ s7 _ H7 x u _ (I7.pinned (stat I7 n7) (T.obj _ _ st7)) r7 (step x H7 y7)) fun _ s8 ⟨σ8, H8, I8, hw8, q8⟩ => ?_
      rw [List.forIn_nil]
      refine wpAny_pure ?_
      simp only [if_true]
      refine thnF (pe.run _ s8 σ8 H8 _ I8 q8) fun z s10 ⟨yv, H10, I10, r10, k, l, ey, hD10, hz10, nx⟩ => ?_
      subst ey
      obtain ⟨u10, rfl⟩ := r10
      refine addT_ok (X := X.blk s3 H3 scope ce fp) I10 hD10 hz10 fun s11 I11 => ?_
      obtain ⟨m', hm, w'⟩ := hNx _ nx
      have kept : ∀ b ∈ fp, ∀ o, s7.heap.get? b = some o → s11.heap.get? b = some o ∧ upd H10 D (SetTO X.w D (grow k l)) b = none := fun b hb o e =>
        let z := I11.pin (b, o) (List.mem_append_right _ (List.mem_append_right _ (mem_pinsAt hb e)))
        ⟨z.1, z.2.1⟩
      refine ⟨m', hm, i + 1, _, (I11.unpinned (pins := [])).weak (by rw [← hw8, wipe_length]) (fun j v e => ?_), T.keep _ _ _ st7 fun b hb o e => (kept b hb o e).1, fun b hb => ?_, w'⟩
      · rw [← hw8] at e
        exact (wipe_some e).1
      · obtain ⟨o, e, _⟩ := T.obj _ _ st7 b hb
        exact (kept b hb o e).2
  exact PpSet.codeAny_compStart_set loop (T.self X.A 0 _ _ _ st4 loop)
end
/-- over a range: Pv by the turn and the heap (the new set at D within) -/
theorem scT_range {w : World} {lo : Int} {n : Nat} {g : TG} {te : TE} {vs : List Nat} {σ : L2.St} {H1 : Hp} {D : Addr} {Qd : Hp → Prop} (Pv : Nat → Hp → Prop) (h0 : Pv 0 (upd H1 D (SetTO w D [])))
    (hs : ∀ i H, i < n → Pv i H → g (.int (lo + i)) (wipe σ vs) H fun σ2 H2 => wipe σ2 vs = wipe σ vs ∧ te σ2 H2 (joins w D (Pv (i + 1)))) (hd : ∀ H, Pv n H → Qd H) :
    ∃ W : Nat → Nat → Hp → Prop, (∃ m, W 0 m (upd H1 D (SetTO w D []))) ∧ ∀ i m H, W i m H →
      ((Itr lo n).stop i H ∧ Qd H) ∨ ((Itr lo n).go i H ∧ ∃ Nx : Hp → Prop, (∀ H', Nx H' → ∃ m', m' < m ∧ W (i + 1) m' H') ∧ ∀ x H', (Itr lo n).yld i H x H' → g x (wipe σ vs) H' fun σ2 H2 => wipe σ2 vs = wipe σ vs ∧ te σ2 H2 (joins w D Nx)) := by
  refine ⟨fun i m H => i + m = n ∧ Pv i H, ⟨n, Nat.zero_add _, h0⟩, fun i m H ⟨e, p⟩ => ?_⟩
  cases m with
  | zero =>
    have ei : i = n := by omega
    subst ei
    exact .inl ⟨Nat.le_refl _, hd H p⟩
  | succ m =>
    refine .inr ⟨by show i < n; omega, Pv (i + 1), fun H' p' => ⟨m, Nat.lt_succ_self _, by omega, p'⟩, fun x H' y => ?_⟩
    obtain ⟨e1, e2⟩ := y
    subst e1 e2
    exact hs i _ (by omega) p

end Mw
namespace Mw
open PySem PySem.Spec PyProof.Rows L2

/-! ### sorted -/
abbrev IsTx : Value → List Nat → Prop := fun v l => ∃ u, v = Value.str (T l) u
theorem vals_tx : ∀ {xs : List (List Nat)} {vs : List Value}, PySem.W.EachIs IsTx vs xs → Vals (xs.map sV) vs
  | _, _, .nil => .nil
  | _, _, .cons ⟨u, e⟩ r => .cons ⟨u, e⟩ (vals_tx r)
theorem tx_vals : ∀ {xs : List (List Nat)} {vs : List Value}, Vals (xs.map sV) vs → PySem.W.EachIs IsTx vs xs
  | [], vs, r => by
    cases r
    exact .nil
  | x :: xs, vs, r => by
    cases r with
    | cons h t =>
      obtain ⟨u, rfl⟩ := h
      exact .cons ⟨u, rfl⟩ (tx_vals t)
def txEnc (l : List Nat) : PyData := .str (T l)
def lnEnc (l : List Nat) : PyData := .int (l.length : Int)
theorem le_txEnc : PySem.W.dataLe false txEnc = fun a b => decide (a ≤ b) := PySem.W.dataLe_str T
theorem le_lnEnc : PySem.W.dataLe false lnEnc = fun a b => decide (a.length ≤ b.length) := by
  have z := PySem.W.dataLe_int (fun l : List Nat => (l.length : Int))
  refine z.trans (funext fun a => funext fun b => ?_)
  by_cases c : a.length ≤ b.length
  · rw [decide_eq_true c, decide_eq_true (by omega)]
  · rw [decide_eq_false c, decide_eq_false (by omega)]
theorem alike_tx (bs : List (List Nat)) : PySem.W.AllAlike (bs.map txEnc) := PySem.W.AllAlike.of fun _ _ => rfl
theorem alike_ln (bs : List (List Nat)) : PySem.W.AllAlike (bs.map lnEnc) := PySem.W.AllAlike.of fun _ _ => rfl
theorem sort_tx (bs : List (List Nat)) : PySem.W.Sortable (bs.map txEnc) := PySem.W.Sortable.others fun _ => ⟨nofun, nofun⟩
theorem sort_ln (bs : List (List Nat)) : PySem.W.Sortable (bs.map lnEnc) := PySem.W.Sortable.others fun _ => ⟨nofun, nofun⟩
/-- sorted(s), s a set of texts -/
def rSortSetT (w : World) : List V → Hp → VK → Prop := fun vs H Q => ∃ (a : Addr) (ks : List (List Nat)), vs = [V.ref a] ∧ H a = some (SetTO w a (ks.map T)) ∧
  ∀ (ts : List (List Nat)) (p : Addr), ts.Perm ks → ts.Pairwise (· ≤ ·) → H p = none → Q (.ref p) (upd H p (.lst (ts.map sV)))
section
variable {X : Cx}
theorem cr_sortSetT (hc : X.calm = true) (hu : X.A.units + 64 < cLine) : CallR X (.builtin "sorted") (rSortSetT X.w) := by
  intro pins s σ H vs us Q I r h
  obtain ⟨a, ks, rfl, ha, q⟩ := h
  obtain ⟨D, ho, hD⟩ := setTO_get I ha
  rw [Vals.ref1 r]
  have hh := I.ok.hd hc
  refine Calls.call_function_entry kind_sorted plain_sorted entry_sorted (args_sorted1 _) ?_
  unfold Builtin.«sorted»
  refine wpAny_bind (m := checkCount "sorted" 1 1 _) (wpAny_pure ?_)
  have hb : D.1.size < scanBound := by
    have z := hD.size
    have z2 := hD.few
    omega
  refine wpAny_bind (collect_set (A := X.A.in1) hh ⟨_, ho, rfl, rfl⟩ hD.fit hb hD.ris hD.led fun s1 out k1 hz g1 o1 pm => ?_)
  -- the members
  have e1 : PySem.W.EachIs IsTx out (out.map fun v => TL.tl (txOf v)) := by
    have all : ∀ v ∈ out, ∃ k u, v = Value.str k u := fun v hv => by
      obtain ⟨e, he, rfl⟩ := List.mem_map.mp (pm.mem_iff.mp hv)
      obtain ⟨k, u, rfl⟩ := hD.el e he
      exact ⟨k, u, rfl⟩
    clear pm
    induction out with
    | nil => exact .nil
    | cons v out ih =>
      refine .cons ?_ (ih fun u hu => all u (List.mem_cons_of_mem _ hu))
      obtain ⟨k, u, rfl⟩ := all v List.mem_cons_self
      refine ⟨u, ?_⟩
      show Value.str k u = Value.str (T (TL.tl k)) u
      rw [T_tl]
  have pk : (out.map fun v => TL.tl (txOf v)).Perm ks := by
    have z := (pm.map fun v => TL.tl (txOf v))
    have z2 := hD.pm.map TL.tl
    rw [List.map_map] at z z2
    rw [List.map_map] at z2
    have e : ks.map (TL.tl ∘ T) = ks := by
      have e0 : (TL.tl ∘ T) = id := funext fun l => tl_T l
      rw [e0, List.map_id]
    rw [e] at z2
    exact z.trans z2
  generalize (out.map fun v => TL.tl (txOf v)) = bs at e1 pk
  have bl : bs.length ≤ sizeLine := by
    have z := hD.size
    rw [pk.length_eq]
    rw [List.length_map] at z
    rw [← z]
    exact fits_of_scanBound hb
  refine wpAny_bind (wpAny_newList ?_ (by rw [e1.length]; exact bl))
  have hoL : (s1.heap.push (seqObj "list" out.toArray 0)).get? s1.heap.objs.size = some (seqObj "list" out.toArray 0) := Heap.get?_push_size _ rfl
  refine wpAny_bind (wpAny_holding (PySem.W.list_sort_data (enc := txEnc) (R := IsTx) hoL e1 (e1.mono fun v l ⟨u, e⟩ => ⟨[], by rw [e]; exact .str _ _, List.not_mem_nil⟩) (alike_tx bs) (sort_tx bs) bl (fun b _ => by
    show X.A.units + 1 + 1 + 0 < cLine
    omega) fun outs hl e2 => ?_))
  rw [le_txEnc] at e2
  obtain ⟨c, hcx⟩ := sortedHeap_at (vs := out) (out := outs.toArray) hoL
  have kp : ∀ b u, s.heap.get? b = some u → (sortedHeap (s1.heap.push (seqObj "list" out.toArray 0)) s1.heap.objs.size out outs.toArray).get? b = some u := fun b u e => by
    have z := k1 b u e
    have hlt := Heap.lt_size z
    rw [sortedHeap_old (Nat.ne_of_lt hlt) (by rw [size_push']; exact Nat.lt_succ_of_lt hlt)]
    exact Heap.get?_push_of_some _ z
  have hn : H s1.heap.objs.size = none := I.hok.fresh hz
  have tot : PySem.W.TotalLe (fun a b : List Nat => decide (a ≤ b)) := by
    have z := PySem.W.sortLe_total (PyProof.Rows.listOrd itemOrd) false fun b : List Nat => PySem.W.keyToks (txEnc b)
    have z2 : PySem.W.sortLe (PyProof.Rows.listOrd itemOrd) false (fun b : List Nat => PySem.W.keyToks (txEnc b)) = fun a b : List Nat => decide (a ≤ b) := le_txEnc
    rw [z2] at z
    exact z
  have pp := List.mergeSort_perm bs (fun a b : List Nat => decide (a ≤ b))
  have pw := PySem.W.sort_pairwise tot bs
  generalize bs.mergeSort (fun a b : List Nat => decide (a ≤ b)) = ts at e2 pp pw
  have new : ObjOk X.prog X.w (upd H s1.heap.objs.size (.lst (ts.map sV))) (sortedHeap (s1.heap.push (seqObj "list" out.toArray 0)) s1.heap.objs.size out outs.toArray) s1.heap.objs.size (.lst (ts.map sV)) := by
    refine ⟨?_, outs, c, vals_tx e2, hcx⟩
    rw [List.length_map, pp.length_eq]
    exact bl
  have J : Inv X pins σ (upd H s1.heap.objs.size (.lst (ts.map sV))) { s with heap := sortedHeap (s1.heap.push (seqObj "list" out.toArray 0)) s1.heap.objs.size out outs.toArray, gens := s1.gens, drawn := s1.drawn, toks := s1.toks } :=
    I.call (ch := []) (Un.laid kp hz hn) (I.hok.laid kp hz new) (by rw [g1]; exact I.bare) (fun _ z => nomatch z)
  refine wpAny_pure ⟨_, rfl, .ref s1.heap.objs.size, _, ?_, rfl, q ts s1.heap.objs.size (pp.trans pk) (pw.imp fun h => of_decide_eq_true h) hn⟩
  have e : ({ s1 with heap := sortedHeap (s1.heap.push (seqObj "list" out.toArray 0)) s1.heap.objs.size out outs.toArray } : Shared) = { s with heap := sortedHeap (s1.heap.push (seqObj "list" out.toArray 0)) s1.heap.objs.size out outs.toArray, gens := s1.gens, drawn := s1.drawn, toks := s1.toks } := by
    cases s1
    cases s
    cases o1
    rfl
  rw [← e] at J
  exact J
end
end Mw
namespace Mw
open PySem PySem.Spec PyProof.Rows L2

/-! ### keywords that are built-ins (key=len) -/
def PKR (X : Cx) (kws : List Keyword) (K : List Value → Prop) : Prop := ∀ (pos : Pos) (pins : List (Addr × Obj)) (s : Shared) (σ : L2.St) (H : Hp), Inv X pins σ H s →
  wpAny (model X.prog X.w) X.A (evalAll ((backToKw pos (keywordEach kws X.env)).map (·.2))) (fun ws s' => K ws ∧ Inv X pins σ H s') X.xe s
section
variable {X : Cx} {kws : List Keyword} {K : List Value → Prop} {nm : Option Str} {kpos : Pos}
theorem pkr_nil : PKR X [] (· = []) := fun _ _ _ _ _ I => wpAny_evalAll_nil ⟨rfl, I⟩
theorem pkr_bf {x : Str} {u : Value} {p : Pos} (hg : Gl X x) (hm : X.mg x = none) (hv : bootBuiltins x = some u) (hr : PKR X kws K) (hn : x ≠ "__name__" := by decide) (hd : (x == ("__debug__" : Str)) = false := by decide) :
    PKR X (⟨nm, .Name x p, kpos⟩ :: kws) (fun ws => ∃ r, ws = u :: r ∧ K r) := by
  intro pos pins s σ H I
  show wpAny _ _ (evalAll ((do let v ← eval (.Name x p) X.env; standAt pos; pure v) :: (backToKw pos (keywordEach kws X.env)).map (·.2))) _ _ s
  refine wpAny_evalAll_cons (wpAny_bind (ld_blt I hg hm hv (wpAny_bind (wpAny_standAt (wpAny_pure ?_))) hn hd))
  exact thn (hr pos pins s σ H I) fun ws s2 ⟨h, I2⟩ => ⟨⟨ws, rfl, h⟩, I2⟩
theorem pkr_v {e : Expr} {v : V} (he : PE X e (tC v)) (hr : PKR X kws K) : PKR X (⟨nm, e, kpos⟩ :: kws) (fun ws => ∃ u r, ws = u :: r ∧ RelV v u ∧ K r) := by
  intro pos pins s σ H I
  show wpAny _ _ (evalAll ((do let v ← eval e X.env; standAt pos; pure v) :: (backToKw pos (keywordEach kws X.env)).map (·.2))) _ _ s
  refine wpAny_evalAll_cons (wpAny_bind (thn (he.run pins s σ H (fun v' H' => v' = v ∧ H' = H) I ⟨rfl, rfl⟩) fun u s1 ⟨v', H1, I1, r1, e1, e2⟩ => wpAny_bind (wpAny_standAt (wpAny_pure ?_))))
  subst e1 e2
  exact thn (hr pos pins s1 σ H1 I1) fun ws s2 ⟨h, I2⟩ => ⟨⟨u, ws, rfl, r1, h⟩, I2⟩
def CallRR (X : Cx) (f : Value) (ks : List Str) (K : List Value → Prop) (r : List V → Hp → VK → Prop) : Prop :=
  ∀ (pins : List (Addr × Obj)) (s : Shared) (σ : L2.St) (H : Hp) (xs : List V) (us ws : List Value) (Q : VK), Inv X pins σ H s → Vals xs us → K ws → r xs H Q → wpAny (model X.prog X.w) X.A (call f us (ks.zip ws)) (EP X pins σ Q) X.xe s
def tCallR (r : List V → Hp → VK → Prop) (t : TA) : TE := fun σ H Q => t σ H fun vs H1 => r vs H1 Q
theorem pe_callRR {x : Str} {p pos : Pos} {e : Expr} {es : List Expr} {t : TA} {id : String} {ks : List Str} {r : List V → Hp → VK → Prop} (hc : CallRR X (.builtin id) ks K r) (hg : Gl X x) (hm : X.mg x = none) (hv : bootBuiltins x = some (.builtin id)) (ha : PA X (e :: es) t) (hk : PKR X kws K) (hn : x ≠ "__name__" := by decide) (hdb : (x == ("__debug__" : Str)) = false := by decide)
    (he : backTo pos (starEach (e :: es) X.env) = (false, eval e X.env) :: backTo pos (starEach es X.env) := by rfl) (hpl : (backTo pos (starEach (e :: es) X.env)).any (·.1) = false := by rfl)
    (hall : (backToKw pos (keywordEach kws X.env)).all (·.1.isSome) = true := by rfl) (hnone : (backToKw pos (keywordEach kws X.env)).any (·.1.isNone) = false := by rfl) (hks : (backToKw pos (keywordEach kws X.env)).filterMap (·.1) = ks := by rfl) :
    PE X (.Call (.Name x p) (e :: es) kws pos) (tCallR r t) := by
  refine ⟨fun pins s σ H Q I h => ?_⟩
  refine wpAny_Call_Name_kw (ld_blt I hg hm hv ?_ hn hdb)
  refine PyProof.Rows.callWith_kw (thn (ha.run pos pins s σ H _ I h) fun us s1 ⟨vs, H1, I1, r1, q1⟩ => thn (hk pos pins s1 σ H1 I1) fun ws s2 ⟨h2, I2⟩ => ?_) he hpl hall hnone
  rw [hks]
  exact hc pins s2 σ H1 vs us ws Q I2 r1 h2 q1
end
/-! ### sorted(xs, key=len), xs texts -/
abbrev kLen : List Value → Prop := fun ws => ∃ r, ws = Value.builtin "len" :: r ∧ r = []
def rSortLen (K : PySem.W.Frag) : List V → Hp → VK → Prop := fun vs H Q => ∃ (a : Addr) (ts : List (List Nat)), vs = [V.ref a] ∧ SqL K H a (ts.map sV) ∧ (∀ t ∈ ts, t.length ≤ sizeLine) ∧
  ∀ p, H p = none → Q (.ref p) (upd H p (.lst ((ts.mergeSort fun a b => decide (a.length ≤ b.length)).map sV)))
section
variable {X : Cx}
theorem cr_sortLen (hu : X.A.units + 64 < cLine) : CallRR X (.builtin "sorted") [Str.ofString "key"] kLen (rSortLen X.K) := by
  intro pins s σ H vs us ws Q I r hw h
  obtain ⟨_, rfl, rfl⟩ := hw
  obtain ⟨a, ts, rfl, hs, hb, q⟩ := h
  obtain ⟨its, rv, hl, hz⟩ := I.list hs
  rw [Vals.ref1 r]
  have e1 : PySem.W.EachIs IsTx its ts := tx_vals rv
  have hz' : ts.length ≤ sizeLine := by
    rw [List.length_map] at hz
    exact hz
  have l63 := line63
  refine PySem.W.sorted_key_data (b := false) lnEnc hl.isList e1 (alike_ln ts) (sort_ln ts) hz' (fun t _ => by
    show X.A.units + 2 + 0 < cLine
    omega) (ksk_s1 _ _) (fun _ => ksk_l1 _ _) (fun _ => ksk_t4 "len" _) (fun v t ⟨u, e⟩ ht h tk kp => ?_) fun out c h' tk kp fr hD hlen e2 => ?_
  · rw [e]
    have z := hb t ht
    refine len_str (by rw [T_len]; omega) ⟨h, tk + 1 + 1, rfl, fun _ _ z => z, ?_⟩
    show Reads h (.int ((T t).length : Int) _) (.int (t.length : Int)) []
    rw [T_len]
    exact .int _ _
  · rw [le_lnEnc] at e2
    have pp := List.mergeSort_perm ts (fun a b : List Nat => decide (a.length ≤ b.length))
    have new : ObjOk X.prog X.w (upd H (s.heap.objs.size + 1) (.lst ((ts.mergeSort fun a b => decide (a.length ≤ b.length)).map sV))) h' (s.heap.objs.size + 1) (.lst ((ts.mergeSort fun a b => decide (a.length ≤ b.length)).map sV)) := by
      refine ⟨?_, out, c, vals_tx e2, hD⟩
      rw [List.length_map, pp.length_eq]
      exact hz'
    exact ⟨.ref _, _, I.laid (t' := tk) kp (Nat.le_succ _) new, rfl, q _ (I.hok.fresh (Nat.le_succ _))⟩
end
/-! ### max(xs, key=len, default=d), xs texts: the first of the longest -/
theorem best_len (f : Nat → Nat) : ∀ k, argBest (fun i j => decide (f i > f j)) k ≤ k ∧ (∀ j, j ≤ k → f j ≤ f (argBest (fun i j => decide (f i > f j)) k)) ∧ ∀ j, j < argBest (fun i j => decide (f i > f j)) k → f j < f (argBest (fun i j => decide (f i > f j)) k)
  | 0 => ⟨Nat.le_refl _, fun j hj => by
    have e : j = 0 := by omega
    rw [e]
    exact Nat.le_refl _, fun j hj => absurd hj (Nat.not_lt_zero _)⟩
  | k + 1 => by
    obtain ⟨h1, h2, h3⟩ := best_len f k
    simp only [argBest]
    by_cases hc : f (k + 1) > f (argBest (fun i j => decide (f i > f j)) k)
    · rw [if_pos (by simpa using hc)]
      refine ⟨Nat.le_refl _, fun j hj => ?_, fun j hj => ?_⟩
      · by_cases e : j = k + 1
        · rw [e]
          exact Nat.le_refl _
        · have := h2 j (by omega)
          omega
      · have := h2 j (by omega)
        omega
    · rw [if_neg (by simpa using hc)]
      refine ⟨by omega, fun j hj => ?_, h3⟩
      by_cases e : j = k + 1
      · rw [e]
        omega
      · exact h2 j (by omega)
abbrev kLenD (d : V) : List Value → Prop := fun ws => ∃ r, ws = Value.builtin "len" :: r ∧ ∃ u r', r = u :: r' ∧ RelV d u ∧ r' = []
def rMaxLen (K : PySem.W.Frag) (d : V) : List V → Hp → VK → Prop := fun vs H Q => ∃ (a : Addr) (ts : List (List Nat)), vs = [V.ref a] ∧ SqL K H a (ts.map sV) ∧ (∀ t ∈ ts, t.length ≤ sizeLine) ∧ (ts = [] → Q d H) ∧
  ∀ (k : Nat) (l : List Nat), ts[k]? = some l → (∀ y ∈ ts, y.length ≤ l.length) → (∀ (j : Nat) (y : List Nat), j < k → ts[j]? = some y → y.length < l.length) → Q (sV l) H
section
variable {X : Cx}
theorem cr_maxLen {d : V} (hc : X.calm = true) : CallRR X (.builtin "max") [Str.ofString "key", Str.ofString "default"] (kLenD d) (rMaxLen X.K d) := by
  intro pins s σ H vs us ws Q I r hw h
  obtain ⟨_, rfl, dv, _, rfl, rd, rfl⟩ := hw
  obtain ⟨a, ts, rfl, hs, hb, q0, q⟩ := h
  obtain ⟨its, rv, hl, _⟩ := I.list hs
  rw [Vals.ref1 r]
  obtain ⟨hlen, hat⟩ := vals_txt rv
  have l63 := line63
  show wpAny _ _ (call (.builtin "max") [.ref a] [(Str.ofString "key", Value.builtin "len"), (Str.ofString "default", dv)]) _ _ _
  refine call_max_walkKBD (PySem.W.iter_listW (A := X.A.in1) (I.ok.hd hc) hl.isList fun s₂ e W st hfp hw hk => ?_)
  have hsz : its.toArray.size = ts.length := hlen
  have sz2 : s₂.heap.objs.size = s.heap.objs.size + 1 := by
    rw [e]
    exact Heap.size_push _ _
  refine ⟨_, _, _, _, _, _, _, fun s' => ∃ h' tk, s' = { s with heap := h', toks := tk } ∧ ∀ b o, s.heap.get? b = some o → h'.get? b = some o, fun i k _ => ∃ l t, ts[i]? = some l ∧ k = Value.int (l.length : Int) t,
    fun i j => decide ((ts.getD i []).length > (ts.getD j []).length), rfl, W, st, hfp, ⟨?_, fun _ _ _ _ z _ => z, ?_, ?_⟩, ?_, fun hz s' m => ?_, fun hp v s' hP m => ?_⟩
  · rintro s1 s3 ⟨h', tk, rfl, hk'⟩ m
    obtain ⟨h3, g3, d3, t3, o3⟩ := s3
    have m1 : g3 = s.gens := m.gens
    have m2 : d3 = s.drawn := m.drawn
    have m3 : o3 = s.os := m.os
    subst m1 m2 m3
    refine ⟨h3, t3, rfl, fun b o eb => m.heap b o (fun hm => ?_) (hk' b o eb)⟩
    have lt := Heap.lt_size eb
    rcases List.mem_cons.mp hm with z | z
    · rw [z, sz2] at lt
      exact absurd lt (Nat.not_lt.mpr (Nat.le_succ _))
    · rw [List.mem_singleton.mp z] at lt
      exact absurd lt (Nat.lt_irrefl _)
  · rintro i v s1 o Q1 E1 hi hv ⟨h', tk, rfl, hk'⟩ st1 hS fin
    obtain ⟨l, t, e1, rfl⟩ := hat i v (by simpa using hv)
    have z := hb l (List.mem_of_getElem? e1)
    refine len_str (by rw [T_len]; omega) (fin _ _ ⟨h', tk + 1 + 1, rfl, hk'⟩ st1 hS ⟨l, tk + 1, e1, ?_⟩ fun _ _ z => z)
    rw [T_len]
  · rintro i j ki kj s1 Q1 E1 _ ⟨li, ti, e1, rfl⟩ ⟨lj, tj, e2, rfl⟩ hQ
    refine PySem.P.gt_int ?_
    have hQ : Q1 (Value.bool (decide ((ts.getD i []).length > (ts.getD j []).length))) s1 := hQ
    rw [List.getD_eq_getElem?_getD, List.getD_eq_getElem?_getD, e1, e2] at hQ
    have e3 : decide ((li.length : Int) > (lj.length : Int)) = decide (li.length > lj.length) := by
      by_cases c : li.length > lj.length
      · rw [decide_eq_true c, decide_eq_true (by omega)]
      · rw [decide_eq_false c, decide_eq_false (by omega)]
    rw [e3]
    exact hQ
  · exact ⟨s₂.heap, s₂.toks, by rw [e], hk⟩
  · obtain ⟨h', tk, rfl, hk'⟩ := m
    exact ⟨d, H, I.kept hk', rd, q0 (List.eq_nil_of_length_eq_zero (by omega))⟩
  · obtain ⟨h', tk, rfl, hk'⟩ := m
    obtain ⟨b1, b2, b3⟩ := best_len (fun i => (ts.getD i []).length) (its.toArray.size - 1)
    have hP : its[argBest (fun i j => decide ((ts.getD i []).length > (ts.getD j []).length)) (its.toArray.size - 1)]? = some v := by
      rw [List.getElem?_toArray] at hP
      exact hP
    generalize argBest (fun i j => decide ((ts.getD i []).length > (ts.getD j []).length)) (its.toArray.size - 1) = k at *
    obtain ⟨l, t, e1, rfl⟩ := hat k v hP
    have e2 : ts.getD k [] = l := by
      rw [List.getD_eq_getElem?_getD, e1]
      rfl
    have at_ : ∀ {j : Nat} {y : List Nat}, ts[j]? = some y → ts.getD j [] = y := fun {j y} ej => by
      rw [List.getD_eq_getElem?_getD, ej]
      rfl
    refine ⟨sV l, H, I.kept hk', ⟨t, rfl⟩, q k l e1 (fun y hy => ?_) fun j y hj ej => ?_⟩
    · obtain ⟨j, hj, ej⟩ := List.getElem_of_mem hy
      have z := b2 j (by omega)
      rw [e2, at_ (by rw [List.getElem?_eq_getElem hj, ej])] at z
      exact z
    · have z := b3 j hj
      rw [e2, at_ ej] at z
      exact z
end
end Mw
namespace Mw
open PySem PySem.Spec PyProof.Rows L2

/-! ### sorted([(len(w), w) for w in ..]) -/
/-- by length, then by letters -/
def leW (a b : List Nat) : Bool := decide (a.length < b.length ∨ (a.length = b.length ∧ a ≤ b))
def pwEnc (l : List Nat) : PyData := .tuple [.int (l.length : Int), .str (T l)]
theorem le_pwEnc : PySem.W.dataLe false pwEnc = leW := by
  funext a b
  show (!PySem.W.dataLt (pwEnc b) (pwEnc a)) = _
  unfold pwEnc leW
  rw [PySem.W.dataLt_pair rfl rfl, PySem.W.dataLt_int, PySem.W.dataLt_str]
  simp only [PyData.eqv, beq_iff_eq]
  have et : ∀ x : List Nat, (T x).cps.toList = x := fun x => tl_T x
  rw [et, et]
  by_cases h1 : b.length = a.length
  · rw [if_pos (by omega)]
    by_cases h2 : b = a
    · rw [if_pos (by rw [h2])]
      have z : a.length < b.length ∨ (a.length = b.length ∧ a ≤ b) := .inr ⟨h1.symm, by rw [h2]; exact List.le_refl _⟩
      rw [decide_eq_true z]
      rfl
    · rw [if_neg fun z => h2 (T_inj z), PySem.W.not_lt_str]
      by_cases h3 : a ≤ b
      · rw [decide_eq_true h3, decide_eq_true (.inr ⟨h1.symm, h3⟩)]
      · rw [decide_eq_false h3, decide_eq_false]
        rintro (z | ⟨_, z⟩)
        · omega
        · exact h3 z
  · rw [if_neg (by omega)]
    by_cases h2 : a.length < b.length
    · rw [decide_eq_false (show ¬ (b.length : Int) < a.length by omega), decide_eq_true (show a.length < b.length ∨ (a.length = b.length ∧ a ≤ b) from .inl h2)]
      rfl
    · rw [decide_eq_true (show (b.length : Int) < a.length by omega), decide_eq_false (show ¬ (a.length < b.length ∨ (a.length = b.length ∧ a ≤ b)) by omega)]
      rfl
/-- y is the pair of w at H -/
abbrev PairW (H : Hp) (y : V) (w : List Nat) : Prop := ∃ p, y = .ref p ∧ H p = some (.tup [.int (w.length : Int), sV w])
def rSortLW (K : PySem.W.Frag) : List V → Hp → VK → Prop := fun vs H Q => ∃ (a : Addr) (xs : List V) (ws : List (List Nat)), vs = [V.ref a] ∧ SqL K H a xs ∧ PySem.W.EachIs (PairW H) xs ws ∧
  ∀ (ys : List V) (p : Addr), PySem.W.EachIs (PairW H) ys (ws.mergeSort leW) → H p = none → Q (.ref p) (upd H p (.lst ys))
theorem pairW_val {X : Cx} {pins : List (Addr × Obj)} {σ : L2.St} {H : Hp} {s : Shared} (I : Inv X pins σ H s) : ∀ {xs : List V} {ws : List (List Nat)} {us : List Value}, PySem.W.EachIs (PairW H) xs ws → Vals xs us →
    PySem.W.EachIs (fun u w => PairW H (backV u) w ∧ (∃ a, u = Value.ref a) ∧ ∃ as, Reads s.heap u (pwEnc w) as) us ws
  | [], _, us, e, r => by
    cases e
    cases r
    exact .nil
  | x :: xs, _, us, e, r => by
    cases e with
    | cons h t =>
      cases r with
      | cons rv rt =>
        obtain ⟨p, rfl, hp⟩ := h
        have ev := show _ = Value.ref p from rv
        subst ev
        refine .cons ⟨⟨p, rfl, hp⟩, ⟨p, rfl⟩, ?_⟩ (pairW_val I t rt)
        obtain ⟨_, its2, r2, o, ho, hc, n, hd⟩ := I.hok _ _ hp
        obtain ⟨u1, u2, rfl, ri, rj⟩ := vals2 r2
        obtain ⟨t1, rfl⟩ := ri
        obtain ⟨t2, rfl⟩ := rj
        exact ⟨_, .tuple ho hc hd (.cons (.int _ _) (.cons (.str _ _) .nil))⟩
theorem each_back {H : Hp} : ∀ {us : List Value} {ws : List (List Nat)}, PySem.W.EachIs (fun u w => PairW H (backV u) w ∧ ∃ a, u = Value.ref a) us ws → PySem.W.EachIs (PairW H) (us.map backV) ws ∧ ∀ u ∈ us, ∃ a, u = Value.ref a
  | _, _, .nil => ⟨.nil, fun u hu => absurd hu List.not_mem_nil⟩
  | _, _, .cons h t => ⟨.cons h.1 (each_back t).1, fun u hu => by
    rcases List.mem_cons.mp hu with e | hu
    · rw [e]
      exact h.2
    · exact (each_back t).2 u hu⟩
section
variable {X : Cx}
theorem cr_sortLW (hu : X.A.units + 64 < cLine) : CallR X (.builtin "sorted") (rSortLW X.K) := by
  intro pins s σ H vs us Q I r h
  obtain ⟨a, xs, ws, rfl, hs, e, q⟩ := h
  obtain ⟨its, rv, hl, hz⟩ := I.list hs
  rw [Vals.ref1 r]
  have e1 := pairW_val I e rv
  have hz' : ws.length ≤ sizeLine := by
    rw [← e1.length, ← rv.length]
    exact hz
  refine PySem.W.sorted_data (enc := pwEnc) (R := fun u w => PairW H (backV u) w ∧ ∃ a, u = Value.ref a) hl.isList (e1.mono fun _ _ z => ⟨z.1, z.2.1⟩) (e1.mono fun _ _ z => z.2.2) (PySem.W.AllAlike.of fun _ _ => by simp [pwEnc, PySem.W.alike, PySem.W.alikeAll]) (PySem.W.Sortable.tuples fun _ => ⟨_, _, rfl⟩) hz' (fun w _ => ?_) fun outs hl2 e2 => ?_
  · have hd : (pwEnc w).depth = 1 := by simp [pwEnc, PyData.depth, PyData.depthAll]
    rw [hd]
    omega
  · rw [le_pwEnc] at e2
    obtain ⟨ep, hcx⟩ := sortedAll_at s.heap its outs.toArray
    obtain ⟨z1, z2⟩ := each_back e2
    have new : ObjOk X.prog X.w (upd H (s.heap.objs.size + 1) (.lst (outs.map backV))) (sortedAll s.heap its outs.toArray) (s.heap.objs.size + 1) (.lst (outs.map backV)) := by
      refine ⟨?_, outs, ep, vals_back z2, hcx⟩
      rw [List.length_map, hl2]
      exact hz'
    exact ⟨.ref _, _, I.laid (t' := s.toks) (fun _ _ => sortedAll_old) (Nat.le_succ _) new, rfl, q _ _ z1 (I.hok.fresh (Nat.le_succ _))⟩
end
/-! ### min and max of numbers, or what stands for none -/
theorem best_int (f : Nat → Int) : ∀ k, argBest (fun i j => decide (f i < f j)) k ≤ k ∧ ∀ j, j ≤ k → f (argBest (fun i j => decide (f i < f j)) k) ≤ f j
  | 0 => ⟨Nat.le_refl _, fun j hj => by
    have e : j = 0 := by omega
    rw [e]
    exact Int.le_refl _⟩
  | k + 1 => by
    obtain ⟨h1, h2⟩ := best_int f k
    simp only [argBest]
    by_cases hc : f (k + 1) < f (argBest (fun i j => decide (f i < f j)) k)
    · rw [if_pos (by simpa using hc)]
      refine ⟨Nat.le_refl _, fun j hj => ?_⟩
      by_cases e : j = k + 1
      · rw [e]
        exact Int.le_refl _
      · have := h2 j (by omega)
        omega
    · rw [if_neg (by simpa using hc)]
      refine ⟨by omega, fun j hj => ?_⟩
      by_cases e : j = k + 1
      · rw [e]
        omega
      · exact h2 j (by omega)
theorem best_intG (f : Nat → Int) : ∀ k, argBest (fun i j => decide (f i > f j)) k ≤ k ∧ ∀ j, j ≤ k → f j ≤ f (argBest (fun i j => decide (f i > f j)) k)
  | 0 => ⟨Nat.le_refl _, fun j hj => by
    have e : j = 0 := by omega
    rw [e]
    exact Int.le_refl _⟩
  | k + 1 => by
    obtain ⟨h1, h2⟩ := best_intG f k
    simp only [argBest]
    by_cases hc : f (k + 1) > f (argBest (fun i j => decide (f i > f j)) k)
    · rw [if_pos (by simpa using hc)]
      refine ⟨Nat.le_refl _, fun j hj => ?_⟩
      by_cases e : j = k + 1
      · rw [e]
        exact Int.le_refl _
      · have := h2 j (by omega)
        omega
    · rw [if_neg (by simpa using hc)]
      refine ⟨by omega, fun j hj => ?_⟩
      by_cases e : j = k + 1
      · rw [e]
        omega
      · exact h2 j (by omega)
theorem vals_nums : ∀ {ns : List Int} {us : List Value}, Vals (ns.map V.int) us → us.length = ns.length ∧ ∀ (i : Nat) (v : Value), us[i]? = some v → ∃ n t, ns[i]? = some n ∧ v = Value.int n t
  | [], _, .nil => ⟨rfl, fun i v h => by simp at h⟩
  | n :: ns, us, r => by
    cases r with
    | cons h t =>
      obtain ⟨u, rfl⟩ := h
      obtain ⟨h1, h2⟩ := vals_nums t
      refine ⟨by rw [List.length_cons, List.length_cons, h1], fun i v e => ?_⟩
      cases i with
      | zero =>
        rw [List.getElem?_cons_zero] at e
        exact ⟨n, u, rfl, (Option.some.inj e).symm⟩
      | succ i =>
        rw [List.getElem?_cons_succ] at e
        rw [List.getElem?_cons_succ]
        exact h2 i v e
/-- the least (the greatest) of the ints at a, or d -/
def rMinId (K : PySem.W.Frag) : List V → List V → Hp → VK → Prop := fun vs zs H Q => ∃ (a : Addr) (ns : List Int) (d : V), vs = [V.ref a] ∧ zs = [d] ∧ SqL K H a (ns.map V.int) ∧ (ns = [] → Q d H) ∧ ∀ m : Int, m ∈ ns → (∀ y ∈ ns, m ≤ y) → Q (.int m) H
def rMaxId (K : PySem.W.Frag) : List V → List V → Hp → VK → Prop := fun vs zs H Q => ∃ (a : Addr) (ns : List Int) (d : V), vs = [V.ref a] ∧ zs = [d] ∧ SqL K H a (ns.map V.int) ∧ (ns = [] → Q d H) ∧ ∀ m : Int, m ∈ ns → (∀ y ∈ ns, y ≤ m) → Q (.int m) H
section
variable {X : Cx}
theorem cr_minId (hc : X.calm = true) : CallRK X (.builtin "min") [Str.ofString "default"] (rMinId X.K) := by
  intro pins s σ H vs zs us ws Q I r rz h
  obtain ⟨a, ns, d, rfl, rfl, hs, q0, q⟩ := h
  obtain ⟨its, rv, hl, _⟩ := I.list hs
  rw [Vals.ref1 r]
  cases rz with
  | @cons _ dv _ _ rd rn =>
    cases rn
    obtain ⟨hlen, hat⟩ := vals_nums rv
    show wpAny _ _ (call (.builtin "min") [.ref a] [(Str.ofString "default", dv)]) _ _ _
    refine call_min_walkD (PySem.W.iter_listW (A := X.A.in1) (I.ok.hd hc) hl.isList fun s₂ e W st hfp hw hk => ?_)
    have hsz : its.toArray.size = ns.length := hlen
    refine ⟨_, _, _, _, _, _, _, s.heap, fun i j => decide (ns.getD i 0 < ns.getD j 0), rfl, W, st, hfp, hw, hk, fun hz s' m => ?_, fun hp => ⟨?_, fun v s' hP m => ?_⟩⟩
    · obtain ⟨h', tk, rfl, hk'⟩ := PySem.W.moved_old e rfl m
      exact ⟨d, H, I.kept hk', rd, q0 (List.eq_nil_of_length_eq_zero (by omega))⟩
    · intro i j vi vj s3 Q3 E3 _ hi hj hQ
      obtain ⟨ni, ti, e1, rfl⟩ := hat i vi (by simpa using hi)
      obtain ⟨nj, tj, e2, rfl⟩ := hat j vj (by simpa using hj)
      refine PySem.P.lt_int ?_
      have hQ : Q3 (Value.bool (decide (ns.getD i 0 < ns.getD j 0))) s3 := hQ
      rw [List.getD_eq_getElem?_getD, List.getD_eq_getElem?_getD, e1, e2] at hQ
      exact hQ
    · obtain ⟨h', tk, rfl, hk'⟩ := PySem.W.moved_old e rfl m
      obtain ⟨b1, b2⟩ := best_int (fun i => ns.getD i 0) (its.toArray.size - 1)
      have hP : its[argBest (fun i j => decide (ns.getD i 0 < ns.getD j 0)) (its.toArray.size - 1)]? = some v := by
        rw [List.getElem?_toArray] at hP
        exact hP
      generalize argBest (fun i j => decide (ns.getD i 0 < ns.getD j 0)) (its.toArray.size - 1) = k at *
      obtain ⟨n, t, e1, rfl⟩ := hat k v hP
      have e2 : ns.getD k 0 = n := by
        rw [List.getD_eq_getElem?_getD, e1]
        rfl
      refine ⟨.int n, H, I.kept hk', ⟨t, rfl⟩, q n (List.mem_of_getElem? e1) fun y hy => ?_⟩
      obtain ⟨j, hj, ej⟩ := List.getElem_of_mem hy
      have z := b2 j (by omega)
      rw [e2, List.getD_eq_getElem?_getD, List.getElem?_eq_getElem hj, ej] at z
      exact z
theorem cr_maxId (hc : X.calm = true) : CallRK X (.builtin "max") [Str.ofString "default"] (rMaxId X.K) := by
  intro pins s σ H vs zs us ws Q I r rz h
  obtain ⟨a, ns, d, rfl, rfl, hs, q0, q⟩ := h
  obtain ⟨its, rv, hl, _⟩ := I.list hs
  rw [Vals.ref1 r]
  cases rz with
  | @cons _ dv _ _ rd rn =>
    cases rn
    obtain ⟨hlen, hat⟩ := vals_nums rv
    show wpAny _ _ (call (.builtin "max") [.ref a] [(Str.ofString "default", dv)]) _ _ _
    refine call_max_walkD (PySem.W.iter_listW (A := X.A.in1) (I.ok.hd hc) hl.isList fun s₂ e W st hfp hw hk => ?_)
    have hsz : its.toArray.size = ns.length := hlen
    refine ⟨_, _, _, _, _, _, _, s.heap, fun i j => decide (ns.getD i 0 > ns.getD j 0), rfl, W, st, hfp, hw, hk, fun hz s' m => ?_, fun hp => ⟨?_, fun v s' hP m => ?_⟩⟩
    · obtain ⟨h', tk, rfl, hk'⟩ := PySem.W.moved_old e rfl m
      exact ⟨d, H, I.kept hk', rd, q0 (List.eq_nil_of_length_eq_zero (by omega))⟩
    · intro i j vi vj s3 Q3 E3 _ hi hj hQ
      obtain ⟨ni, ti, e1, rfl⟩ := hat i vi (by simpa using hi)
      obtain ⟨nj, tj, e2, rfl⟩ := hat j vj (by simpa using hj)
      refine PySem.P.gt_int ?_
      have hQ : Q3 (Value.bool (decide (ns.getD i 0 > ns.getD j 0))) s3 := hQ
      rw [List.getD_eq_getElem?_getD, List.getD_eq_getElem?_getD, e1, e2] at hQ
      exact hQ
    · obtain ⟨h', tk, rfl, hk'⟩ := PySem.W.moved_old e rfl m
      obtain ⟨b1, b2⟩ := best_intG (fun i => ns.getD i 0) (its.toArray.size - 1)
      have hP : its[argBest (fun i j => decide (ns.getD i 0 > ns.getD j 0)) (its.toArray.size - 1)]? = some v := by
        rw [List.getElem?_toArray] at hP
        exact hP
      generalize argBest (fun i j => decide (ns.getD i 0 > ns.getD j 0)) (its.toArray.size - 1) = k at *
      obtain ⟨n, t, e1, rfl⟩ := hat k v hP
      have e2 : ns.getD k 0 = n := by
        rw [List.getD_eq_getElem?_getD, e1]
        rfl
      refine ⟨.int n, H, I.kept hk', ⟨t, rfl⟩, q n (List.mem_of_getElem? e1) fun y hy => ?_⟩
      obtain ⟨j, hj, ej⟩ := List.getElem_of_mem hy
      have z := b2 j (by omega)
      rw [e2, List.getD_eq_getElem?_getD, List.getElem?_eq_getElem hj, ej] at z
      exact z
end
end Mw
namespace Mw
open PySem PySem.Spec PyProof.Rows L2

/-! ### the mirror words of a text (no row of the program) -/
theorem pal_eq {l : List Nat} (h : pal l = true) : l = l.reverse := of_decide_eq_true h
theorem pal_rev {l : List Nat} (h : pal l = true) : l.reverse = l := (pal_eq h).symm
theorem pal_nil : pal [] = true := rfl
/-- the longest mirror word at the end -/
def lps : List Nat → List Nat
  | [] => []
  | c :: l => if pal (c :: l) = true then c :: l else lps l
theorem lps_suf : ∀ l, lps l <:+ l
  | [] => List.suffix_refl _
  | c :: l => by
    unfold lps
    split
    · exact List.suffix_refl _
    · exact (lps_suf l).trans (List.suffix_cons c l)
theorem lps_pal : ∀ l, pal (lps l) = true
  | [] => rfl
  | c :: l => by
    unfold lps
    split
    · assumption
    · exact lps_pal l
theorem lps_max : ∀ {l w : List Nat}, w <:+ l → pal w = true → w.length ≤ (lps l).length
  | [], w, h, _ => by
    rw [List.suffix_nil.mp h]
    exact Nat.le_refl _
  | c :: l, w, h, p => by
    unfold lps
    split
    · exact h.length_le
    · rename_i no
      rcases List.suffix_cons_iff.mp h with e | h
      · rw [e] at p
        exact absurd p no
      · exact lps_max h p
theorem lps_len (l : List Nat) : (lps l).length ≤ l.length := (lps_suf l).length_le
theorem lps_pos {l : List Nat} (h : l ≠ []) : lps l ≠ [] := by
  intro e
  obtain ⟨m, c, rfl⟩ : ∃ m c, l = m ++ [c] := ⟨l.dropLast, l.getLast h, (List.dropLast_concat_getLast h).symm⟩
  have z := lps_max (l := m ++ [c]) (List.suffix_append m [c]) (pal_one c)
  rw [e] at z
  exact absurd (show 1 ≤ 0 from z) (by decide)
theorem lps_of {l w : List Nat} (h : w <:+ l) (p : pal w = true) (hl : (lps l).length ≤ w.length) : w = lps l :=
  List.IsSuffix.eq_of_length (List.suffix_of_suffix_length_le h (lps_suf l) (lps_max h p)) (Nat.le_antisymm (lps_max h p) hl)
theorem lps_stop {l : List Nat} (h : pal l = true) : lps l = l := (lps_of (List.suffix_refl l) h (lps_len l)).symm
/-- w is a mirror word in l -/
def Wd (l w : List Nat) : Prop := w ≠ [] ∧ pal w = true ∧ w <:+: l
theorem wd_lps {l : List Nat} (h : l ≠ []) : Wd l (lps l) := ⟨lps_pos h, lps_pal l, (lps_suf l).isInfix⟩
/-- one letter more brings at most the longest at that end -/
theorem wd_more {l w : List Nat} {c : Nat} : Wd (l ++ [c]) w ↔ Wd l w ∨ w = lps (l ++ [c]) := by
  constructor
  · rintro ⟨h1, h2, h3⟩
    rcases List.infix_concat_iff.mp h3 with h | h
    · by_cases e : w = lps (l ++ [c])
      · exact .inr e
      · refine .inl ⟨h1, h2, ?_⟩
        have le := lps_max h h2
        obtain ⟨s, hs⟩ := lps_suf (l ++ [c])
        have hw : w <+: lps (l ++ [c]) := by
          have z := (List.suffix_of_suffix_length_le h (lps_suf _) le).reverse
          rw [pal_rev h2, pal_rev (lps_pal _)] at z
          exact z
        obtain ⟨t, ht⟩ := hw
        have nt : t ≠ [] := by
          intro z
          rw [z, List.append_nil] at ht
          exact e ht
        obtain ⟨t', d, rfl⟩ : ∃ m d, t = m ++ [d] := ⟨t.dropLast, t.getLast nt, (List.dropLast_concat_getLast nt).symm⟩
        rw [← ht] at hs
        have z : (s ++ w ++ t') ++ [d] = l ++ [c] := by
          rw [← hs]
          simp [List.append_assoc]
        have z2 := congrArg List.dropLast z
        rw [List.dropLast_concat, List.dropLast_concat] at z2
        exact ⟨s, t', z2⟩
    · exact .inl ⟨h1, h2, h⟩
  · rintro (⟨h1, h2, h3⟩ | rfl)
    · exact ⟨h1, h2, h3.trans (List.prefix_append l [c]).isInfix⟩
    · exact wd_lps (by simp)
theorem wd_rev {l w : List Nat} : Wd l.reverse w ↔ Wd l w := by
  constructor
  · rintro ⟨h1, h2, h3⟩
    refine ⟨h1, h2, ?_⟩
    rw [← pal_rev h2] at h3
    exact List.reverse_infix.mp h3
  · rintro ⟨h1, h2, h3⟩
    refine ⟨h1, h2, ?_⟩
    rw [← pal_rev h2]
    exact List.reverse_infix.mpr h3
theorem wd_front {l w : List Nat} {c : Nat} : Wd (c :: l) w ↔ Wd l w ∨ w = lps (c :: l).reverse := by
  rw [← wd_rev, List.reverse_cons, wd_more, wd_rev]
/-- the words met at the first i places, each once -/
def wdsN (l : List Nat) : Nat → List (List Nat)
  | 0 => []
  | i + 1 => if lps (l.take (i + 1)) ∈ wdsN l i then wdsN l i else lps (l.take (i + 1)) :: wdsN l i
theorem wdsN_nd (l : List Nat) : ∀ i, (wdsN l i).Nodup
  | 0 => List.nodup_nil
  | i + 1 => by
    unfold wdsN
    split
    · exact wdsN_nd l i
    · rename_i h
      exact List.nodup_cons.mpr ⟨h, wdsN_nd l i⟩
theorem wdsN_len (l : List Nat) : ∀ i, (wdsN l i).length ≤ i
  | 0 => Nat.le_refl _
  | i + 1 => by
    have := wdsN_len l i
    unfold wdsN
    split
    · omega
    · rw [List.length_cons]
      omega
theorem take_snoc {l : List Nat} {i : Nat} (h : i < l.length) : ∃ c, l[i]? = some c ∧ l.take (i + 1) = l.take i ++ [c] := by
  refine ⟨l[i], List.getElem?_eq_getElem h, ?_⟩
  rw [List.take_add_one, List.getElem?_eq_getElem h]
  rfl
theorem wdsN_mem {l w : List Nat} : ∀ {i : Nat}, i ≤ l.length → (w ∈ wdsN l i ↔ Wd (l.take i) w)
  | 0, _ => by
    refine ⟨fun h => absurd h List.not_mem_nil, fun ⟨h1, _, h3⟩ => ?_⟩
    rw [List.take_zero] at h3
    exact absurd (List.infix_nil.mp h3) h1
  | i + 1, h => by
    have ih := wdsN_mem (l := l) (w := w) (i := i) (by omega)
    obtain ⟨c, _, e⟩ := take_snoc (show i < l.length by omega)
    rw [e, wd_more, ← ih, ← e]
    show w ∈ (if lps (l.take (i + 1)) ∈ wdsN l i then wdsN l i else lps (l.take (i + 1)) :: wdsN l i) ↔ w ∈ wdsN l i ∨ w = lps (l.take (i + 1))
    split
    · rename_i hm
      exact ⟨.inl, fun z => z.elim id fun q => by rw [q]; exact hm⟩
    · rw [List.mem_cons]
      exact Or.comm
theorem wdsN_size {l w : List Nat} {i : Nat} (hi : i ≤ l.length) (h : w ∈ wdsN l i) : w.length ≤ l.length := by
  obtain ⟨_, _, h3⟩ := (wdsN_mem hi).mp h
  have := h3.length_le
  rw [List.length_take] at this
  omega
/-- the words, the shortest first, like long ones by their letters -/
def rows (l : List Nat) : List (List Nat) := (wdsN l l.length).mergeSort leW
theorem leW_iff {a b : List Nat} : leW a b = true ↔ a.length < b.length ∨ (a.length = b.length ∧ a ≤ b) := decide_eq_true_iff
theorem leW_total : PySem.W.TotalLe leW := by
  have z := PySem.W.sortLe_total (PyProof.Rows.listOrd itemOrd) false fun b : List Nat => PySem.W.keyToks (pwEnc b)
  have z2 : PySem.W.sortLe (PyProof.Rows.listOrd itemOrd) false (fun b : List Nat => PySem.W.keyToks (pwEnc b)) = leW := le_pwEnc
  rw [z2] at z
  exact z
theorem leLn_total : PySem.W.TotalLe (fun a b : List Nat => decide (a.length ≤ b.length)) where
  trans := fun a b c h1 h2 => by
    have h1 := of_decide_eq_true h1
    have h2 := of_decide_eq_true h2
    exact decide_eq_true (by omega)
  total := fun a b => by
    by_cases h : a.length ≤ b.length
    · exact .inl (decide_eq_true h)
    · exact .inr (decide_eq_true (by omega))
theorem leW_anti {a b : List Nat} (h1 : leW a b = true) (h2 : leW b a = true) : a = b := by
  rcases leW_iff.mp h1 with z | ⟨_, z⟩ <;> rcases leW_iff.mp h2 with y | ⟨_, y⟩
  · omega
  · omega
  · omega
  · exact List.le_antisymm z y
theorem sortW_perm {l m : List (List Nat)} (h : l.Perm m) : l.mergeSort leW = m.mergeSort leW :=
  List.Perm.eq_of_pairwise (le := fun a b => leW a b = true) (fun _ _ _ _ => leW_anti) (PySem.W.sort_pairwise leW_total l) (PySem.W.sort_pairwise leW_total m) (((List.mergeSort_perm l leW).trans h).trans (List.mergeSort_perm m leW).symm)
/-- sorted, then sorted by length -/
theorem sort_twice {ts : List (List Nat)} (h : ts.Pairwise (· ≤ ·)) : ts.mergeSort (fun a b => decide (a.length ≤ b.length)) = ts.mergeSort leW := by
  refine (PySem.W.sort_unique leLn_total (m := ts.mergeSort leW) ?_ fun c => ?_).symm
  · exact (PySem.W.sort_pairwise leW_total ts).imp fun {a b} z => decide_eq_true (by rcases leW_iff.mp z with q | q <;> omega)
  · have same : ∀ x, PySem.W.sameRank (fun a b : List Nat => decide (a.length ≤ b.length)) c x = true → x.length = c.length := fun x z => by
      unfold PySem.W.sameRank at z
      obtain ⟨z1, z2⟩ := (Bool.and_eq_true _ _).mp z
      have z1 := of_decide_eq_true z1
      have z2 := of_decide_eq_true z2
      omega
    refine List.Perm.eq_of_pairwise (le := fun a b : List Nat => a ≤ b) (fun _ _ _ _ => List.le_antisymm) ?_ (h.filter _) ((List.mergeSort_perm ts leW).filter _)
    refine ((PySem.W.sort_pairwise leW_total ts).filter _).imp_of_mem fun {a b} ha hb z => ?_
    have e1 := same a (List.mem_filter.mp ha).2
    have e2 := same b (List.mem_filter.mp hb).2
    rcases leW_iff.mp z with q | q
    · omega
    · exact q.2
theorem rows_perm (l : List Nat) : (rows l).Perm (wdsN l l.length) := List.mergeSort_perm _ _
theorem rows_mem {l w : List Nat} : w ∈ rows l ↔ Wd l w := by
  rw [(rows_perm l).mem_iff, wdsN_mem (Nat.le_refl _), List.take_length]
theorem rows_nd (l : List Nat) : (rows l).Nodup := (rows_perm l).nodup_iff.mpr (wdsN_nd l _)
theorem rows_len (l : List Nat) : (rows l).length ≤ l.length := by
  rw [(rows_perm l).length_eq]
  exact wdsN_len l _
theorem rows_of {l : List Nat} {ks : List (List Nat)} (nd : ks.Nodup) (h : ∀ w, w ∈ ks ↔ Wd l w) : ks.mergeSort leW = rows l :=
  sortW_perm ((List.perm_ext_iff_of_nodup nd (wdsN_nd l _)).mpr fun w => by rw [h, wdsN_mem (Nat.le_refl _), List.take_length])
theorem rows_rev (l : List Nat) : rows l.reverse = rows l := by
  refine (rows_of (rows_nd l.reverse |> fun h => (rows_perm l.reverse).nodup_iff.mp h) fun w => ?_) 
  rw [wdsN_mem (Nat.le_refl _), List.take_length, wd_rev]
/-- the last of the rows is as long as any -/
theorem rows_last {l w : List Nat} (h : w ∈ rows l) : ∃ u, (rows l).getLast? = some u ∧ w.length ≤ u.length := by
  have ne : rows l ≠ [] := List.ne_nil_of_mem h
  refine ⟨(rows l).getLast ne, List.getLast?_eq_some_getLast ne, ?_⟩
  have pw := PySem.W.sort_pairwise leW_total (wdsN l l.length)
  have e : (rows l).dropLast ++ [(rows l).getLast ne] = rows l := List.dropLast_concat_getLast ne
  have pw : (rows l).Pairwise (fun a b => leW a b = true) := pw
  rw [← e] at pw h
  rcases List.mem_append.mp h with q | q
  · have z := (List.pairwise_append.mp pw).2.2 w q _ (List.mem_singleton.mpr rfl)
    rcases leW_iff.mp z with y | y <;> omega
  · rw [List.mem_singleton.mp q]
    exact Nat.le_refl _
end Mw
namespace Mw
open PySem PySem.Spec PyProof.Rows L2

/-! ### one text within another -/
theorem at_T {l w : List Nat} {i : Nat} : StrLaws.At (T l) (T w) (T l).length i ↔ i + w.length ≤ l.length ∧ (l.drop i).take w.length = w := by
  unfold StrLaws.At
  rw [StrLaws.subAt_eq, T_len, T_len, beq_iff_eq]
  exact Iff.rfl
theorem infix_at {l w : List Nat} : w <:+: l ↔ ∃ i, i + w.length ≤ l.length ∧ (l.drop i).take w.length = w := by
  constructor
  · rintro ⟨s, t, e⟩
    refine ⟨s.length, ?_, ?_⟩
    · rw [← e, List.length_append, List.length_append]
      omega
    · rw [← e, List.append_assoc, List.drop_left, List.take_left]
  · rintro ⟨i, _, e⟩
    rw [← e]
    exact (List.take_prefix _ _).isInfix.trans (List.drop_suffix _ _).isInfix
def hasW (l w : List Nat) : Bool := !(Builtin.Str.occurrences (T l) (T w) 0 (T l).length 1).isEmpty
theorem hasW_iff {l w : List Nat} : hasW l w = true ↔ w <:+: l := by
  unfold hasW
  rw [StrLaws.found_iff, infix_at]
  exact exists_congr fun i => at_T
/-- the first place where w stands in l -/
theorem first_at {l w : List Nat} (h : w <:+: l) : ∃ i r, Builtin.Str.occurrences (T l) (T w) 0 (T l).length 1 = i :: r ∧ i + w.length ≤ l.length ∧ (l.drop i).take w.length = w ∧ ∀ k, k + w.length ≤ l.length → (l.drop k).take w.length = w → i ≤ k := by
  rcases StrLaws.occ_head (T l) (T w) 1 (Nat.le_refl _) with ⟨_, no⟩ | ⟨i, r, e, ha, hn⟩
  · obtain ⟨i, h1, h2⟩ := infix_at.mp h
    exact absurd (at_T.mpr ⟨h1, h2⟩) (no i)
  · obtain ⟨h1, h2⟩ := at_T.mp ha
    refine ⟨i, r, e, h1, h2, fun k k1 k2 => ?_⟩
    by_cases c : k < i
    · exact absurd (at_T.mpr ⟨k1, k2⟩) (hn k c)
    · omega
/-- how often w stands in l, at the first n places -/
def occN (l w : List Nat) (n : Nat) : Nat := ((List.range n).filter fun p => decide ((l.drop p).take w.length = w)).length
def occ (l w : List Nat) : Nat := occN l w l.length
theorem occN_succ (l w : List Nat) (n : Nat) : occN l w (n + 1) = occN l w n + if (l.drop n).take w.length = w then 1 else 0 := by
  unfold occN
  rw [List.range_succ, List.filter_append, List.length_append]
  by_cases h : (l.drop n).take w.length = w
  · rw [if_pos h, List.filter_cons_of_pos (by exact decide_eq_true h)]
    rfl
  · rw [if_neg h, List.filter_cons_of_neg (by rw [decide_eq_false h]; exact Bool.false_ne_true)]
    rfl
theorem occ_zero {l w : List Nat} (hw : w ≠ []) : occ l w = 0 ↔ ¬ w <:+: l := by
  unfold occ occN
  rw [List.length_eq_zero_iff, List.filter_eq_nil_iff, infix_at]
  constructor
  · rintro h ⟨i, h1, h2⟩
    have hl : 0 < w.length := List.length_pos_iff.mpr hw
    exact h i (List.mem_range.mpr (by omega)) (decide_eq_true h2)
  · intro h p hp z
    have z := of_decide_eq_true z
    refine h ⟨p, ?_, z⟩
    have z2 := congrArg List.length z
    rw [List.length_take, List.length_drop] at z2
    have := List.mem_range.mp hp
    omega
/-- the first of the longest words -/
def bgn (l : List Nat) (p : Nat) : List Nat := lps (l.drop p).reverse
theorem bgn_pre (l : List Nat) (p : Nat) : bgn l p <+: l.drop p := by
  have z := (lps_suf (l.drop p).reverse).reverse
  rw [List.reverse_reverse] at z
  unfold bgn
  rw [pal_rev (lps_pal _)] at z
  exact z
theorem bgn_max {l w : List Nat} {p : Nat} (h : w <+: l.drop p) (hp : pal w = true) : w.length ≤ (bgn l p).length := by
  refine lps_max ?_ hp
  have z := h.reverse
  rw [pal_rev hp] at z
  exact z
def isLng (l u : List Nat) : Prop := (l = [] ∧ u = []) ∨ ∃ k, k < l.length ∧ u = bgn l k ∧ (∀ j, j < l.length → (bgn l j).length ≤ u.length) ∧ ∀ j, j < k → (bgn l j).length < u.length

/-! ### a book -/
def bf (l : List Nat) : List (Str × V) := [("_text", sV l)]
theorem bf_put (l m : List Nat) : putF "_text" (sV m) (bf l) = bf m := by
  show (if ("_text" : Str) = "_text" then [(("_text" : Str), sV m)] else _) = _
  rw [if_pos rfl]
  rfl
theorem bf_new (m : List Nat) : putF "_text" (sV m) [] = bf m := rfl
theorem bf_look (l : List Nat) : (bf l).lookup ("_text" : Str) = some (sV l) := by
  unfold bf
  rw [List.lookup_cons, beq_self_eq_true]
theorem bf_no (l : List Nat) {m : Str} (h : ¬ m = "_text") : (bf l).lookup m = none := by
  unfold bf
  rw [List.lookup_cons]
  have e : (m == ("_text" : Str)) = false := beq_eq_false_iff_ne.mpr h
  rw [e]
  rfl
/-- a Book of the text l stands at b -/
structure BkAt (C : Addr) (H : Hp) (b : Addr) (l : List Nat) : Prop where
  ob : ∃ dx, H b = some (.ins C dx (bf l))
  len : l.length ≤ 200
  az : l.all az = true
theorem BkAt.same {C b : Addr} {H H' : Hp} {l : List Nat} (k : BkAt C H b l) (s : Same H H') : BkAt C H' b l := by
  obtain ⟨dx, e⟩ := k.ob
  exact ⟨⟨dx, s _ _ e⟩, k.len, k.az⟩
theorem BkAt.ne {C b P : Addr} {H : Hp} {l : List Nat} (k : BkAt C H b l) (t : GxR.TabG H P) : b ≠ P := by
  obtain ⟨dx, e⟩ := k.ob
  exact tab_ne t e nofun
theorem BkAt.kp {C b P : Addr} {H H' : Hp} {l : List Nat} (k : BkAt C H b l) (t : GxR.TabG H P) (s : Kp P H H') : BkAt C H' b l := by
  obtain ⟨dx, e⟩ := k.ob
  exact ⟨⟨dx, s.keep _ _ (k.ne t) e⟩, k.len, k.az⟩
/-- the heap behind a deed: all stays but the table at P and the book at b -/
structure KpB (P b : Addr) (H H' : Hp) : Prop where
  tab : GxR.TabG H' P
  keep : ∀ c o, c ≠ P → c ≠ b → H c = some o → H' c = some o
theorem KpB.of {P b : Addr} {H H' : Hp} (k : Kp P H H') : KpB P b H H' := ⟨k.tab, fun c o h _ => k.keep c o h⟩
theorem KpB.trans {P b : Addr} {H H1 H2 : Hp} (k : KpB P b H H1) (k2 : KpB P b H1 H2) : KpB P b H H2 := ⟨k2.tab, fun c o h g e => k2.keep c o h g (k.keep c o h g e)⟩
theorem KpB.put {P b : Addr} {H H1 : Hp} {o : HO} (k : KpB P b H H1) (n : b ≠ P) : KpB P b H (upd H1 b o) := by
  refine ⟨?_, fun c u h g e => ?_⟩
  · obtain ⟨ps, h1, h2⟩ := k.tab
    exact ⟨ps, by rw [upd_ne (Ne.symm n)]; exact h1, h2⟩
  · rw [upd_ne g]
    exact k.keep c u h g e
/-- one letter -/
def isLt : V → Bool
  | .str z => isT (.str z) && decide (z.length = 1)
  | _ => false
theorem isLt_some {x : V} (h : isLt x = true) : ∃ c, x = .str (T [c]) ∧ az c = true := by
  cases x with
  | str z =>
    have h : (isT (.str z) && decide (z.length = 1)) = true := h
    obtain ⟨h1, h2⟩ := (Bool.and_eq_true _ _).mp h
    have h2 := of_decide_eq_true h2
    have e : z = T (TL.tl z) := (T_tl z).symm
    generalize TL.tl z = l at e
    subst e
    rw [T_len] at h2
    obtain ⟨c, rfl⟩ := List.length_eq_one_iff.mp h2
    refine ⟨c, rfl, ?_⟩
    have h1 : (decide ((T [c]).length ≤ 200) && [c].all az) = true := h1
    have h3 := ((Bool.and_eq_true _ _).mp h1).2
    simpa using h3
  | _ => exact absurd h Bool.false_ne_true
def un (l w : List Nat) : V := if hasW l w = true then .non else sV w
/-! what each def promises -/
def spLpe : Sp := fun vs H Q _ => ∃ l : List Nat, vs = [.str (T l)] ∧ l.length ≤ 200 ∧ Q (sV (lps l)) H
def spLps : Sp := fun vs H Q _ => ∃ l : List Nat, vs = [.str (T l)] ∧ l.length ≤ 200 ∧ Q (sV (lps l.reverse)) H
def spUnless : Sp := fun vs H Q _ => ∃ l w : List Nat, vs = [.str (T l), .str (T w)] ∧ Q (un l w) H
def spRPut (K : PySem.W.Frag) (P BL FU : Addr) : Sp := fun vs H Q E => ∃ (x : V) (l : List Nat), vs = [x, .str (T l)] ∧ GxR.TabG H P ∧ Thing K H x ∧ l.length ≤ 200 ∧ (isLt x = false → ∀ H', GxR.Tabbed P H H' → E (.ref BL) none H') ∧
  (isLt x = true → l.length = 200 → ∀ H', GxR.Tabbed P H H' → E (.ref FU) none H') ∧ (isLt x = true → l.length < 200 → ∀ H', GxR.Tabbed P H H' → Q .non H')
def spRCut (NP : Addr) : Sp := fun vs H Q E => ∃ l : List Nat, vs = [.str (T l)] ∧ l.length ≤ 200 ∧ (l = [] → E (.ref NP) none H) ∧ (l ≠ [] → Q .non H)
def spRNP (K : PySem.W.Frag) (NP : Addr) : Sp := fun vs H Q E => ∃ (x : V) (l : List Nat), vs = [x, .str (T l)] ∧ NThing K H x ∧ l.length ≤ 200 ∧ (numTo x ((l.length : Int) - 1) = false → E (.ref NP) none H) ∧ (numTo x ((l.length : Int) - 1) = true → Q .non H)
def spBInit (K : PySem.W.Frag) (P C BT : Addr) : Sp := fun vs H Q E => ∃ (b dx : Addr) (x : V), vs = [.ref b, x] ∧ H b = some (.ins C dx []) ∧ GxR.TabG H P ∧ Thing K H x ∧ (isT x = false → ∀ H', GxR.Tabbed P H H' → E (.ref BT) none H') ∧
  (∀ l, x = .str (T l) → l.length ≤ 200 → l.all az = true → ∀ H', KpB P b H H' → BkAt C H' b l → Q .non H')
def spWhole (C : Addr) : Sp := fun vs H Q _ => ∃ (b : Addr) (l : List Nat), vs = [.ref b] ∧ BkAt C H b l ∧ Q (sV l) H
def spPut (K : PySem.W.Frag) (P C BL FU : Addr) (go : List Nat → Nat → List Nat) (back : List Nat → List Nat) : Sp := fun vs H Q E => ∃ (b : Addr) (x : V) (l : List Nat), vs = [.ref b, x] ∧ BkAt C H b l ∧ GxR.TabG H P ∧ Thing K H x ∧
  (isLt x = false → ∀ H', GxR.Tabbed P H H' → E (.ref BL) none H') ∧ (isLt x = true → l.length = 200 → ∀ H', GxR.Tabbed P H H' → E (.ref FU) none H') ∧
  (∀ c, x = .str (T [c]) → az c = true → l.length < 200 → ∀ H', KpB P b H H' → BkAt C H' b (go l c) → Q (un l (back (go l c))) H')
def spCut (C NP : Addr) (go : List Nat → List Nat) (back : List Nat → List Nat) : Sp := fun vs H Q E => ∃ (b : Addr) (l : List Nat), vs = [.ref b] ∧ BkAt C H b l ∧ (l = [] → E (.ref NP) none H) ∧
  (l ≠ [] → ∀ H', (∀ c o, c ≠ b → H c = some o → H' c = some o) → BkAt C H' b (go l) → Q (un (go l) (back l)) H')
def spWords (C : Addr) : Sp := fun vs H Q _ => ∃ (b : Addr) (l : List Nat), vs = [.ref b] ∧ BkAt C H b l ∧ ∀ H' p, Same H H' → H p = none → H' p = some (.lst ((rows l).map sV)) → Q (.ref p) H'
def spMany (C : Addr) : Sp := fun vs H Q _ => ∃ (b : Addr) (l : List Nat), vs = [.ref b] ∧ BkAt C H b l ∧ ∀ H', Same H H' → Q (.int ((rows l).length : Nat)) H'
def spCount (K : PySem.W.Frag) (P C BW : Addr) : Sp := fun vs H Q E => ∃ (b : Addr) (x : V) (l : List Nat), vs = [.ref b, x] ∧ BkAt C H b l ∧ GxR.TabG H P ∧ Thing K H x ∧ (isM x = false → ∀ H', GxR.Tabbed P H H' → E (.ref BW) none H') ∧
  (isM x = true → ∀ w, x = .str (T w) → ∀ H', Kp P H H' → Q (.int (occ l w : Nat)) H')
def spEndsAt (K : PySem.W.Frag) (C NP : Addr) (f : List Nat → Nat → List Nat) : Sp := fun vs H Q E => ∃ (b : Addr) (x : V) (l : List Nat), vs = [.ref b, x] ∧ BkAt C H b l ∧ NThing K H x ∧ (numTo x ((l.length : Int) - 1) = false → E (.ref NP) none H) ∧
  (∀ p : Nat, x = .int (p : Int) → p < l.length → Q (sV (f l p)) H)
def spLong (C : Addr) : Sp := fun vs H Q _ => ∃ (b : Addr) (l : List Nat), vs = [.ref b] ∧ BkAt C H b l ∧ ∀ H' u, Same H H' → isLng l u → Q (sV u) H'
def fEnd (l : List Nat) (p : Nat) : List Nat := lps (l.take (p + 1))
end Mw
namespace Mw
open PySem PySem.Spec PyProof.Rows L2
/-- the class Book, as the top has written it -/
structure BkC (K : PySem.W.Frag) (mg : Str → Option Value) (C : Addr) : Prop where
  cl : Cls K C
  nt : NoAttr K C "_text"
  g : mg "Book" = some (.ref C)
/-- a method with its promise, and what its callers ask -/
structure Me (Pr : Program) (w : World) (K : PySem.W.Frag) (mg : Str → Option Value) (base : Heap) (CX : CXT) (k : Nat) (C : Addr) (x : Str) (f : Addr) (fd : FuncData) (ps : List Str) (sp : Sp) : Prop where
  ok : FnOk Pr w K mg base CX k f fd ps sp
  m : Meth K C x f
  b : Binds K fd ps []
end Mw
namespace Mw
open PySem PySem.Spec PyProof.Rows L2
theorem cut_win (l : List Nat) (i n : Nat) : cutS (T l) (some (i : Int)) (some ((i : Int) + (n : Int))) = T ((l.drop i).take n) := by
  have e : ((i : Int) + (n : Int)) = ((i + n : Nat) : Int) := by omega
  rw [cutS_T, e, HT.sIx_nat, HT.sIx_nat]
  congr 1
  by_cases h : i ≤ l.length
  · rw [Nat.min_eq_left h]
    by_cases g : i + n ≤ l.length
    · rw [Nat.min_eq_left g]
      congr 1
      omega
    · rw [Nat.min_eq_right (by omega), List.take_of_length_le (by rw [List.length_drop]; exact Nat.le_refl _), List.take_of_length_le (by rw [List.length_drop]; omega)]
  · rw [Nat.min_eq_right (by omega), Nat.min_eq_right (by omega), Nat.sub_self, List.take_zero, List.drop_eq_nil_of_le (show l.length ≤ i by omega), List.take_nil]
end Mw
namespace Mw
open PySem PySem.Spec PyProof.Rows L2

/-! ### for k in a dict that none writes any more -/
def iKeysL (td : TE) : TI := fun σ H R => td σ H fun x H1 => ∃ d kvs, x = .ref d ∧ H1 d = some (.dK kvs) ∧ ∀ od, R (Itk d od kvs) (upd H1 d (.frz od (.dK kvs)))
theorem pi_keysL {X : Cx} {tg e : Expr} {td : TE} (he : PE X e td) : PI X tg e (iKeysL td) := by
  refine ⟨fun pins s σ H R I h => ?_⟩
  refine thn (he.run pins s σ H _ I h) fun u s1 ⟨x, H1, I1, rx, d, kvs, ex, hd, q⟩ => ?_
  subst ex
  obtain rfl : u = Value.ref d := rx
  obtain ⟨od, I2⟩ := I1.lock hd trivial
  have hf : (upd H1 d (.frz od (.dK kvs))) d = some (.frz od (.dK kvs)) := upd_same
  obtain ⟨hs, hgd, hx, es, ep, vs, hdt, hsz, kv, hm⟩ := I2.frzK hf
  refine iter_keys hs hgd hx hdt (pi_one (tk := s1.toks) I2 _ (turn_keys _ hdt) ⟨_, Heap.get?_push_size _ rfl, rfl, ?_⟩ (q od))
  rw [hsz]
  rfl

/-! ### dicts that count texts -/
def kT (w : List Nat) : Key := .inr (T w)
theorem kT_inj {a b : List Nat} (h : kT a = kT b) : a = b := T_inj (Sum.inr.inj h)
structure Cnt (kvs : List (Key × V)) (ws : List (List Nat)) (c : List Nat → Nat) : Prop where
  keys : kvs.map (·.1) = ws.map kT
  nd : ws.Nodup
  mem : ∀ w, w ∈ ws ↔ c w ≠ 0
  at_ : ∀ w, valV kvs (kT w) = if c w = 0 then none else some (.int (c w : Nat))
theorem Cnt.nil : Cnt [] [] (fun _ => 0) := ⟨rfl, List.nodup_nil, fun w => ⟨fun h => absurd h List.not_mem_nil, fun h => absurd rfl h⟩, fun w => rfl⟩
theorem Cnt.congr {kvs : List (Key × V)} {ws : List (List Nat)} {c c' : List Nat → Nat} (h : Cnt kvs ws c) (e : ∀ w, c' w = c w) : Cnt kvs ws c' := by
  have q : c' = c := funext e
  rw [q]
  exact h
theorem keys_put (kvs : List (Key × V)) (k : Key) (v : V) : (putK kvs k v).map (·.1) = if (valV kvs k).isSome = true then kvs.map (·.1) else kvs.map (·.1) ++ [k] := by
  unfold putK
  rw [valV_any]
  split
  · rw [List.map_map]
    refine List.map_congr_left fun p _ => ?_
    show (if p.1 = k then (p.1, v) else p).1 = p.1
    split <;> rfl
  · rw [List.map_append]
    rfl
theorem Cnt.put {kvs : List (Key × V)} {ws : List (List Nat)} {c : List Nat → Nat} (h : Cnt kvs ws c) (s : List Nat) :
    ∃ ws', Cnt (putK kvs (kT s) (.int ((c s : Nat) + 1))) ws' (fun w => c w + if w = s then 1 else 0) := by
  have hk := keys_put kvs (kT s) (.int ((c s : Nat) + 1))
  have hv : ∀ w, valV (putK kvs (kT s) (.int ((c s : Nat) + 1))) (kT w) = if c w + (if w = s then 1 else 0) = 0 then none else some (.int ((c w + (if w = s then 1 else 0) : Nat) : Int)) := fun w => by
    rw [valV_put]
    by_cases e : w = s
    · subst e
      rw [if_pos rfl, if_pos rfl, if_neg (by omega)]
      rfl
    · rw [if_neg fun z => e (kT_inj z), if_neg e, Nat.add_zero]
      exact h.at_ w
  have hm : ∀ w, c w + (if w = s then 1 else 0) ≠ 0 ↔ w = s ∨ c w ≠ 0 := fun w => by
    by_cases e : w = s
    · rw [if_pos e]
      exact ⟨fun _ => .inl e, fun _ => by omega⟩
    · rw [if_neg e, Nat.add_zero]
      exact ⟨.inr, fun z => z.elim (fun q => absurd q e) id⟩
  rw [h.at_] at hk
  by_cases z : c s = 0
  · rw [if_pos z] at hk
    refine ⟨ws ++ [s], ?_, ?_, fun w => ?_, hv⟩
    · rw [hk, h.keys, List.map_append]
      rfl
    · refine List.nodup_append.mpr ⟨h.nd, (List.nodup_cons.mpr ⟨List.not_mem_nil, List.nodup_nil⟩), fun a ha b hb e => ?_⟩
      rw [List.mem_singleton.mp hb] at e
      rw [e] at ha
      exact (h.mem s).mp ha z
    · rw [hm, List.mem_append, List.mem_singleton, h.mem]
      exact Or.comm
  · rw [if_neg z] at hk
    refine ⟨ws, ?_, h.nd, fun w => ?_, hv⟩
    · rw [hk]
      exact h.keys
    · rw [hm, h.mem]
      exact ⟨.inr, fun q => q.elim (fun e => by rw [e]; exact z) id⟩
theorem Cnt.len {kvs : List (Key × V)} {ws : List (List Nat)} {c : List Nat → Nat} (h : Cnt kvs ws c) : kvs.length = ws.length := by
  have z := congrArg List.length h.keys
  rw [List.length_map, List.length_map] at z
  exact z

/-! ### the mirror words of a text, counted -/
def mir (w : List Nat) : Bool := decide (0 < w.length) && pal w
theorem mir_iff {w : List Nat} : mir w = true ↔ w ≠ [] ∧ pal w = true := by
  unfold mir
  rw [Bool.and_eq_true, decide_eq_true_eq, List.length_pos_iff]
def cN (l : List Nat) (n : Nat) (w : List Nat) : Nat := if mir w = true then occN l w n else 0
def cE (l : List Nat) (a e : Nat) (w : List Nat) : Nat := cN l a w + if mir w = true ∧ a + w.length ≤ e ∧ (l.drop a).take w.length = w then 1 else 0
theorem cE_start (l : List Nat) (a : Nat) (w : List Nat) : cE l a a w = cN l a w := by
  unfold cE
  rw [if_neg fun z => ?_, Nat.add_zero]
  have := List.length_pos_iff.mpr (mir_iff.mp z.1).1
  omega
theorem cE_stop {l : List Nat} {a : Nat} (h : a < l.length) (w : List Nat) : cE l a l.length w = cN l (a + 1) w := by
  unfold cE cN
  by_cases m : mir w = true
  · rw [if_pos m, if_pos m, occN_succ]
    congr 1
    by_cases c : (l.drop a).take w.length = w
    · have z := congrArg List.length c
      rw [List.length_take, List.length_drop] at z
      rw [if_pos c, if_pos ⟨m, by omega, c⟩]
    · rw [if_neg c, if_neg fun z => c z.2.2]
  · rw [if_neg m, if_neg m, if_neg fun z => m z.1]
theorem cE_step {l : List Nat} {a e : Nat} (ha : a ≤ e) (he : e + 1 ≤ l.length) (w : List Nat) :
    cE l a (e + 1) w = cE l a e w + if pal ((l.drop a).take (e + 1 - a)) = true ∧ w = (l.drop a).take (e + 1 - a) then 1 else 0 := by
  have sl : ((l.drop a).take (e + 1 - a)).length = e + 1 - a := by
    rw [List.length_take, List.length_drop]
    omega
  unfold cE
  rw [Nat.add_assoc]
  congr 1
  by_cases c : pal ((l.drop a).take (e + 1 - a)) = true ∧ w = (l.drop a).take (e + 1 - a)
  · obtain ⟨c1, c2⟩ := c
    have wl : w.length = e + 1 - a := by rw [c2, sl]
    have m : mir w = true := mir_iff.mpr ⟨List.length_pos_iff.mp (by omega), by rw [c2]; exact c1⟩
    have n1 : ¬ (mir w = true ∧ a + w.length ≤ e ∧ (l.drop a).take w.length = w) := fun z => by omega
    have n2 : mir w = true ∧ a + w.length ≤ e + 1 ∧ (l.drop a).take w.length = w := ⟨m, by omega, by rw [wl]; exact c2.symm⟩
    rw [if_pos n2, if_neg n1, if_pos ⟨c1, c2⟩]
  · rw [if_neg c, Nat.add_zero]
    by_cases d : mir w = true ∧ a + w.length ≤ e ∧ (l.drop a).take w.length = w
    · rw [if_pos d, if_pos ⟨d.1, by omega, d.2.2⟩]
    · rw [if_neg d, if_neg fun z => ?_]
      obtain ⟨z1, z2, z3⟩ := z
      by_cases g : a + w.length ≤ e
      · exact d ⟨z1, g, z3⟩
      · have wl : w.length = e + 1 - a := by omega
        rw [wl] at z3
        exact c ⟨by rw [z3]; exact (mir_iff.mp z1).2, z3.symm⟩
/-- how often the mirror word w stands in l -/
def cW (l w : List Nat) : Nat := cN l l.length w
theorem cW_mem {l w : List Nat} : cW l w ≠ 0 ↔ Wd l w := by
  unfold cW cN
  by_cases m : mir w = true
  · obtain ⟨m1, m2⟩ := mir_iff.mp m
    rw [if_pos m]
    constructor
    · intro z
      refine ⟨m1, m2, ?_⟩
      by_cases c : w <:+: l
      · exact c
      · exact absurd ((occ_zero m1).mpr c) z
    · rintro ⟨_, _, h⟩ z
      exact (occ_zero m1).mp z h
  · rw [if_neg m]
    exact ⟨fun z => absurd rfl z, fun z => absurd (mir_iff.mpr ⟨z.1, z.2.1⟩) m⟩
theorem cW_occ {l w : List Nat} (h : mir w = true) : cW l w = occ l w := if_pos h
def spMirrors : Sp := fun vs H Q _ => ∃ l : List Nat, vs = [.str (T l)] ∧ l.length ≤ 100 ∧ ∀ H' p kvs ws, Same H H' → H p = none → H' p = some (.dK kvs) → Cnt kvs ws (cW l) → Q (.ref p) H'
theorem cnt_rows {l : List Nat} {kvs : List (Key × V)} {ws : List (List Nat)} (h : Cnt kvs ws (cW l)) : ws.mergeSort leW = rows l ∧ ws.length ≤ l.length := by
  have e : ws.mergeSort leW = rows l := rows_of h.nd fun w => (h.mem w).trans cW_mem
  refine ⟨e, ?_⟩
  rw [← (List.mergeSort_perm ws leW).length_eq, e]
  exact rows_len l
end Mw
namespace Mw
open PySem PySem.Spec PyProof.Rows L2
theorem Cnt.key {kvs : List (Key × V)} {ws : List (List Nat)} {c : List Nat → Nat} (h : Cnt kvs ws c) {i : Nat} {k : Key} {v : V} (e : kvs[i]? = some (k, v)) : ∃ w, ws[i]? = some w ∧ k = kT w := by
  have z : (kvs.map (·.1))[i]? = some k := by
    rw [List.getElem?_map, e]
    rfl
  rw [h.keys, List.getElem?_map] at z
  cases q : ws[i]? with
  | none =>
    rw [q] at z
    cases z
  | some w =>
    rw [q] at z
    exact ⟨w, rfl, (Option.some.inj z).symm⟩
theorem Cnt.has {kvs : List (Key × V)} {ws : List (List Nat)} {c : List Nat → Nat} (h : Cnt kvs ws c) (w : List Nat) : (valV kvs (kT w)).isSome = !decide (c w = 0) := by
  rw [h.at_]
  by_cases z : c w = 0
  · rw [if_pos z, decide_eq_true z]
    rfl
  · rw [if_neg z, decide_eq_false z]
    rfl
theorem un_eq {a u : List Nat} (hu : mir u = true) : un a u = if cW a u = 0 then sV u else .non := by
  unfold un
  have e : hasW a u = true ↔ ¬ cW a u = 0 := by
    rw [hasW_iff]
    refine ⟨fun h => cW_mem.mpr ⟨(mir_iff.mp hu).1, (mir_iff.mp hu).2, h⟩, fun h => (cW_mem.mp h).2.2⟩
  by_cases c : cW a u = 0
  · rw [if_pos c, if_neg fun z => e.mp z c]
  · rw [if_neg c, if_pos (e.mpr c)]
/-- what is new in b, when at most u is -/
theorem new_one {a b u : List Nat} {ws : List (List Nat)} (nd : ws.Nodup) (hm : ∀ w, w ∈ ws ↔ cW b w ≠ 0) (hu : Wd b u) (hw : ∀ w, Wd b w ↔ Wd a w ∨ w = u) :
    ws.filter (fun w => decide (cW a w = 0)) = if cW a u = 0 then [u] else [] := by
  have mem : ∀ w, w ∈ ws.filter (fun w => decide (cW a w = 0)) ↔ w = u ∧ cW a u = 0 := fun w => by
    rw [List.mem_filter, hm, cW_mem, hw, decide_eq_true_eq]
    constructor
    · rintro ⟨h1, h2⟩
      rcases h1 with h1 | rfl
      · exact absurd h2 (cW_mem.mpr h1)
      · exact ⟨rfl, h2⟩
    · rintro ⟨rfl, h2⟩
      exact ⟨.inr rfl, h2⟩
  have nd2 : (ws.filter (fun w => decide (cW a w = 0))).Nodup := nd.filter _
  generalize ws.filter (fun w => decide (cW a w = 0)) = F at mem nd2
  by_cases c : cW a u = 0
  · rw [if_pos c]
    cases F with
    | nil => exact absurd ((mem u).mpr ⟨rfl, c⟩) List.not_mem_nil
    | cons x r =>
      have ex := ((mem x).mp List.mem_cons_self).1
      subst ex
      cases r with
      | nil => rfl
      | cons y r =>
        have ey := ((mem y).mp (List.mem_cons_of_mem _ List.mem_cons_self)).1
        rw [ey] at nd2
        exact absurd List.mem_cons_self (List.nodup_cons.mp nd2).1
  · rw [if_neg c]
    cases F with
    | nil => rfl
    | cons x r => exact absurd ((mem x).mp List.mem_cons_self).2 c
def spLNew : Sp := fun vs H Q _ => ∃ a b u : List Nat, vs = [.str (T a), .str (T b)] ∧ a.length ≤ 100 ∧ b.length ≤ 100 ∧ Wd b u ∧ (∀ w, Wd b w ↔ Wd a w ∨ w = u) ∧ ∀ H', Same H H' → Q (un a u) H'
end Mw
namespace Mw
open PySem PySem.Spec PyProof.Rows L2
theorem pal_app (h : List Nat) : pal (h ++ h.reverse) = true := by
  unfold pal
  rw [List.reverse_append, List.reverse_reverse]
  exact decide_eq_true rfl
theorem pal_odd (h : List Nat) : pal (h ++ h.dropLast.reverse) = true := by
  by_cases e : h = []
  · subst e
    rfl
  · obtain ⟨m, c, rfl⟩ : ∃ m c, h = m ++ [c] := ⟨h.dropLast, h.getLast e, (List.dropLast_concat_getLast e).symm⟩
    rw [List.dropLast_concat]
    unfold pal
    refine decide_eq_true ?_
    simp [List.append_assoc]
theorem pal_tail (l : List Nat) : pal (l ++ l.reverse.drop 1) = true := by
  have e : l.reverse.drop 1 = l.dropLast.reverse := by
    by_cases e : l = []
    · subst e
      rfl
    · obtain ⟨m, c, rfl⟩ : ∃ m c, l = m ++ [c] := ⟨l.dropLast, l.getLast e, (List.dropLast_concat_getLast e).symm⟩
      rw [List.dropLast_concat, List.reverse_append]
      rfl
  rw [e]
  exact pal_odd l
theorem pal_rep (n c : Nat) : pal (List.replicate n c) = true := by
  unfold pal
  rw [List.reverse_replicate]
  exact decide_eq_true rfl
/-- the dict tells of each of its words how often it stands in l, and lacks none -/
structure Due (kvs : List (Key × V)) (l : List Nat) : Prop where
  right : ∀ w v, valV kvs (kT w) = some v → mir w = true → v = .int (cW l w : Nat)
  all : ∀ w, Wd l w → (valV kvs (kT w)).isSome = true
theorem Due.of {kvs : List (Key × V)} {ws : List (List Nat)} {l : List Nat} (h : Cnt kvs ws (cW l)) : Due kvs l := by
  refine ⟨fun w v e _ => ?_, fun w z => ?_⟩
  · rw [h.at_] at e
    by_cases c : cW l w = 0
    · rw [if_pos c] at e
      cases e
    · rw [if_neg c] at e
      exact (Option.some.inj e).symm
  · rw [h.has, decide_eq_false (cW_mem.mpr z)]
    rfl
theorem Due.put {kvs : List (Key × V)} {l s : List Nat} (h : Due kvs l) (n : valV kvs (kT s) = none) : Due (putK kvs (kT s) (.int 0)) l := by
  refine ⟨fun w v e m => ?_, fun w z => ?_⟩
  · rw [valV_put] at e
    by_cases c : w = s
    · subst c
      rw [if_pos rfl] at e
      have e := (Option.some.inj e).symm
      rw [e]
      have z : cW l w = 0 := by
        by_cases q : cW l w = 0
        · exact q
        · have y := h.all w (cW_mem.mp q)
          rw [n] at y
          cases y
      rw [z]
      rfl
    · rw [if_neg fun z => c (kT_inj z)] at e
      exact h.right w v e m
  · rw [valV_put]
    split
    · rfl
    · exact h.all w z
theorem val_put {kvs : List (Key × V)} {s w : List Nat} {v : V} (h : (valV kvs (kT w)).isSome = true) : (valV (putK kvs (kT s) v) (kT w)).isSome = true := by
  rw [valV_put]
  split
  · rfl
  · exact h
/-- a mirror word that a book can be asked for -/
def Ask (w : List Nat) : Prop := mir w = true ∧ w.length < 200 ∧ w.all az = true
def spOthers : Sp := fun vs H Q _ => ∃ (l : List Nat) (d : Addr) (t : Int) (kvs : List (Key × V)), vs = [.str (T l), .ref d, .int t] ∧ l.length ≤ 50 ∧ l.all az = true ∧ H d = some (.dK kvs) ∧ Due kvs l ∧ kvs.length ≤ 30000 ∧
  ∀ (H' : Hp) (p : Addr) (kv2 : List (Key × V)) (ws : List (List Nat)), (∀ c o, c ≠ d → H c = some o → H' c = some o) → H p = none → H' d = some (.dK kv2) → Due kv2 l → kv2.length ≤ kvs.length + 4 → H' p = some (.lst (ws.map sV)) → (∀ w ∈ ws, Ask w ∧ (valV kv2 (kT w)).isSome = true) → ws.length ≤ 4 →
    (∀ w, (valV kvs (kT w)).isSome = true → (valV kv2 (kT w)).isSome = true) → Q (.ref p) H'
end Mw
namespace Mw
open PySem PySem.Spec PyProof.Rows L2
theorem cut_last (l : List Nat) : cutS (T l) none (some (-1)) = T l.dropLast := by
  have e : HT.sIx l.length l.length (some (-1)) = l.length - 1 := by
    show (if (-1 : Int) < 0 then ((-1 : Int) + (l.length : Int)).toNat else min (-1 : Int).toNat l.length) = l.length - 1
    rw [if_pos (by decide)]
    omega
  rw [cutS_T, HT.sIx_none, List.drop_zero, List.dropLast_eq_take, e, Nat.sub_zero]
theorem all_drop {l : List Nat} (h : l.all az = true) (k : Nat) : (l.drop k).all az = true := by
  rw [List.all_eq_true] at h ⊢
  exact fun c hc => h c (List.mem_of_mem_drop hc)
theorem all_dropLast {l : List Nat} (h : l.all az = true) : l.dropLast.all az = true := by
  rw [List.dropLast_eq_take]
  exact all_take h _
end Mw
namespace Mw
open PySem PySem.Spec PyProof.Rows L2
def spRightB (P C : Addr) : Sp := fun vs H Q _ => ∃ (b : Addr) (l : List Nat) (t : Int), vs = [.ref b, .str (T l), .int t] ∧ BkAt C H b l ∧ l.length ≤ 50 ∧ GxR.TabG H P ∧ ∀ H', Kp P H H' → Q (.bl true) H'
end Mw
namespace Mw
open PySem PySem.Spec PyProof.Rows L2
theorem each_at {α β : Type} {R : α → β → Prop} : ∀ {as : List α} {bs : List β} {i : Nat} {a : α}, PySem.W.EachIs R as bs → as[i]? = some a → ∃ b, bs[i]? = some b ∧ R a b
  | _, _, i, a, .nil, e => by simp at e
  | _, _, 0, a, .cons h t, e => by
    rw [List.getElem?_cons_zero] at e
    rw [← Option.some.inj e]
    exact ⟨_, rfl, h⟩
  | _, _, i + 1, a, .cons h t, e => by
    rw [List.getElem?_cons_succ] at e
    rw [List.getElem?_cons_succ]
    exact each_at t e
theorem wd_az {l w : List Nat} (h : Wd l w) (z : l.all az = true) : w.all az = true := by
  rw [List.all_eq_true] at z ⊢
  exact fun c hc => z c (h.2.2.subset hc)
theorem pairW_up {H : Hp} {p : Addr} {o : HO} {ys : List V} {ws : List (List Nat)} (h : PySem.W.EachIs (PairW H) ys ws) (n : H p = none) : PySem.W.EachIs (PairW (upd H p o)) ys ws :=
  h.mono fun y w ⟨q, e, hq⟩ => ⟨q, e, by rw [upd_ne (ne_of_none hq n)]; exact hq⟩
/-- what stays through the asking -/
structure RI (P : Addr) (H H' : Hp) (d R : Addr) (l : List Nat) (m : Nat) : Prop where
  kp : Kp P H H'
  rw_ : H' R = some (.lst ((rows l).map sV))
  du : ∃ kv, H' d = some (.dK kv) ∧ Due kv l ∧ kv.length ≤ m ∧ ∀ w ∈ rows l, (valV kv (kT w)).isSome = true
theorem RI.same {P : Addr} {H H1 H2 : Hp} {d R : Addr} {l : List Nat} {m : Nat} (h : RI P H H1 d R l m) (s : Same H1 H2) : RI P H H2 d R l m := by
  obtain ⟨kv, a, c⟩ := h.du
  exact ⟨h.kp.trans (.same h.kp.tab s), s _ _ h.rw_, kv, s _ _ a, c⟩
end Mw
namespace Mw
open PySem PySem.Spec PyProof.Rows L2
/-- the first place where w stands in l (nought if nowhere) -/
def fstAt (l w : List Nat) : Nat := (Builtin.Str.occurrences (T l) (T w) 0 (T l).length 1).headD 0
theorem fst_at {l w : List Nat} (h : w <:+: l) : (∃ r, Builtin.Str.occurrences (T l) (T w) 0 (T l).length 1 = fstAt l w :: r) ∧ fstAt l w + w.length ≤ l.length ∧ (l.drop (fstAt l w)).take w.length = w ∧ ∀ k, k + w.length ≤ l.length → (l.drop k).take w.length = w → fstAt l w ≤ k := by
  obtain ⟨i, r, e, h1, h2, h3⟩ := first_at h
  have ef : fstAt l w = i := by
    unfold fstAt
    rw [e]
    rfl
  rw [ef]
  exact ⟨⟨r, e⟩, h1, h2, h3⟩
theorem bgn_len (l : List Nat) (p : Nat) : (bgn l p).length ≤ l.length - p := by
  have z := (bgn_pre l p).length_le
  rw [List.length_drop] at z
  exact z
theorem bgn_wd {l : List Nat} {p : Nat} (h : p < l.length) : Wd l (bgn l p) := by
  refine ⟨lps_pos ?_, lps_pal _, (bgn_pre l p).isInfix.trans (List.drop_suffix p l).isInfix⟩
  intro z
  have y := congrArg List.length z
  rw [List.length_reverse, List.length_drop] at y
  have y : l.length - p = 0 := y
  omega
/-- what a longest word is, told by first places -/
theorem lng_right {l u : List Nat} {M F : Nat} (hu : isLng l u) (h0 : rows l = [] → M = 0 ∧ F = 0) (h1 : rows l ≠ [] → (∀ w ∈ rows l, w.length ≤ M) ∧ (∃ w ∈ rows l, w.length = M ∧ F = fstAt l w) ∧ ∀ w ∈ rows l, w.length = M → F ≤ fstAt l w) :
    u = (l.drop F).take M := by
  rcases hu with ⟨e1, e2⟩ | ⟨k, hk, eu, all, first⟩
  · have er : rows l = [] := by
      cases c : rows l with
      | nil => rfl
      | cons w r =>
        have z : w ∈ rows l := by
          rw [c]
          exact List.mem_cons_self
        obtain ⟨a1, _, a3⟩ := rows_mem.mp z
        rw [e1] at a3
        exact absurd (List.infix_nil.mp a3) a1
    obtain ⟨m0, f0⟩ := h0 er
    rw [e1, e2, m0, f0]
    rfl
  · have wu : Wd l u := by
      rw [eu]
      exact bgn_wd hk
    have mu : u ∈ rows l := rows_mem.mpr wu
    obtain ⟨a1, ⟨w, hw, lw, fw⟩, a3⟩ := h1 (List.ne_nil_of_mem mu)
    obtain ⟨_, b1, b2, _⟩ := fst_at (rows_mem.mp hw).2.2
    rw [← fw] at b1 b2
    have pw : 0 < w.length := List.length_pos_iff.mpr (rows_mem.mp hw).1
    have lb : w.length ≤ (bgn l F).length := by
      refine bgn_max ?_ (rows_mem.mp hw).2.1
      rw [← b2]
      exact List.take_prefix _ _
    have z1 := all F (by omega)
    have lu : u.length = M := by
      have := a1 u mu
      omega
    have fk : ¬ F < k := fun z => by
      have := first F z
      omega
    obtain ⟨_, c1, c2, c3⟩ := fst_at wu.2.2
    have pk := bgn_pre l k
    rw [← eu] at pk
    have tk : (l.drop k).take u.length = u := (List.prefix_iff_eq_take.mp pk).symm
    have kl : k + u.length ≤ l.length := by
      have := bgn_len l k
      rw [← eu] at this
      omega
    have z2 := a3 u mu lu
    have z3 := c3 k kl tk
    have ek : F = k := by omega
    rw [ek, ← lu, tk]
end Mw
namespace Mw
open PySem PySem.Spec PyProof.Rows L2
def spLaw7 (K : PySem.W.Frag) (P : Addr) : Sp := fun vs H Q _ => ∃ (a : Addr) (ns : List Int), vs = [.ref a] ∧ SqL K H a (ns.map V.int) ∧ ns.length ≤ 63 ∧ GxR.TabG H P ∧ ∀ H', Q (.bl true) H'
end Mw
namespace Mw
open PySem PySem.Spec PyProof.Rows L2
theorem KpB.seq {P p b C : Addr} {K : PySem.W.Frag} {H H' : Hp} {l : List Nat} {xs : List V} (a : KpB P b H H') (t : GxR.TabG H P) (k : BkAt C H b l) (h : SqL K H p xs) : SqL K H' p xs := by
  obtain ⟨dx, hb⟩ := k.ob
  rcases h with (h | ⟨o, h⟩) | h
  · exact .inl (.inl (a.keep _ _ (tab_ne t h nofun) (ne_of h hb nofun) h))
  · exact .inl (.inr ⟨o, a.keep _ _ (tab_ne t h nofun) (ne_of h hb nofun) h⟩)
  · exact .inr h
theorem letter_at {x : Int} : ∃ c, atI (Str.ofString "abcdefghijklmnopqrstuvwxyz").cps.toList (x.fmod 26) = some c ∧ az c = true := by
  obtain ⟨j, e, hj⟩ := mod26 x
  rw [e]
  refine ⟨97 + j, abc_at hj, ?_⟩
  unfold az
  exact (Bool.and_eq_true _ _).mpr ⟨decide_eq_true (by omega), decide_eq_true (by omega)⟩
theorem many_at (x : Int) : ∃ m : Nat, 0 < m ∧ atI ([.int 1, .int 2, .int 2, .int 3, .int 26] : List V) (x.fmod 5) = some (.int (m : Int)) := by
  obtain ⟨j, e, hj⟩ := modK x (show 0 < 5 by decide)
  have e : x.fmod 5 = (j : Int) := e
  rw [e]
  match j, hj with
  | 0, _ => exact ⟨1, by decide, atI_nat rfl⟩
  | 1, _ => exact ⟨2, by decide, atI_nat rfl⟩
  | 2, _ => exact ⟨2, by decide, atI_nat rfl⟩
  | 3, _ => exact ⟨3, by decide, atI_nat rfl⟩
  | 4, _ => exact ⟨26, by decide, atI_nat rfl⟩
end Mw
namespace Mw
open PySem PySem.Spec PyProof.Rows L2

/-! ### len(set(text)) -/
/-- the texts met at the first i places, each once, the last one met first -/
def met (val : Nat → Str) : Nat → List Str
  | 0 => []
  | i + 1 => if val i ∈ met val i then met val i else val i :: met val i
theorem met_len (val : Nat → Str) : ∀ i, (met val i).length ≤ i
  | 0 => Nat.le_refl _
  | i + 1 => by
    have ih := met_len val i
    show (if val i ∈ met val i then met val i else val i :: met val i).length ≤ i + 1
    split
    · omega
    · rw [List.length_cons]
      omega
section
variable {prog : Program} {w : World} {A : Around} {R : Result → Shared → Prop} {I : Addr} {fp wr : List Addr} {G : Array GenState → Array GenState → Prop} {n : Nat} {Pv : Nat → Value → Prop} {St : Nat → Shared → Prop}
abbrev MetAt (prog : Program) (w : World) (val : Nat → Str) (Z : Addr) (h : Heap) (i : Nat) : Prop := h.SetOf (PySem.strKind prog w) Z (fun k => decide (k ∈ met val i)) (met val i).length
theorem metAt_moved {val : Nat → Str} {Z : Addr} {i : Nat} {h h' : Heap} (k : ∀ o, h.get? Z = some o → h'.get? Z = some o) (m : MetAt prog w val Z h i) : MetAt prog w val Z h' i := by
  obtain ⟨o, es, ep, tb, e, more⟩ := m
  exact ⟨o, es, ep, tb, k o e, more⟩
theorem loop_txt (W : WalksS prog w A.in1 I fp wr G n Pv St) (Z : Addr) (nZ : Z ∉ fp) (val : Nat → Str) (hv : ∀ i v, Pv i v → ∃ t, v = .str (val i) t) (room : n + 1 < scanBound) :
    ∀ (left i : Nat) (s : Shared), i + left = n → St i s → MetAt prog w val Z s.heap i → (∀ s', Moved (Z :: wr) G s s' → MetAt prog w val Z s'.heap n → R (.ok (.ret .none)) s') →
      codeAny (model prog w) A (.builtin "set.update.loop" ⟨[.ref Z, .ref I], []⟩) R s
  | 0, i, s, e, st, m, fin => by
    have ei : i = n := by omega
    subst ei
    refine codeAny_builtin PyProof.Rows.F.entry_set_update_loop (?_ : wpAny _ _ _ _ _ _)
    rw [Around.under_plainId PyProof.Rows.F.plain_set_update_loop _]
    change wpAny _ A.in1 (pyNext (.ref I) >>= _) _ _ s
    refine wpAny_bind (W.done s _ _ st fun s2 mv => ?_)
    change wpAny _ A.in1 (ret Value.none) _ _ s2
    exact wpAny_pure (fin s2 (mv.mono fun b hb => List.mem_cons_of_mem _ hb) (metAt_moved (fun o q => mv.heap Z o (fun z => nZ (W.sub _ z)) q) m))
  | left + 1, i, s, e, st, m, fin => by
    have lt : i < n := by omega
    refine codeAny_builtin PyProof.Rows.F.entry_set_update_loop (?_ : wpAny _ _ _ _ _ _)
    rw [Around.under_plainId PyProof.Rows.F.plain_set_update_loop _]
    change wpAny _ A.in1 (pyNext (.ref I) >>= _) _ _ s
    refine wpAny_bind (W.item i s _ _ lt st fun v s2 pv st2 mv => ?_)
    obtain ⟨u, rfl⟩ := hv i v pv
    have m2 := metAt_moved (fun o q => mv.heap Z o (fun z => nZ (W.sub _ z)) q) m
    change wpAny _ A.in1 (holding [Value.str (val i) u] (setAdd Z (.str (val i) u)) >>= _) _ _ s2
    refine wpAny_bind (wpAny_holding (?_ : wpAny _ _ _ _ _ _))
    unfold setAdd
    refine wpAny_holding (wpAny_bind ((PySem.strKind prog w).pyHash (k := val i) (PySem.Froz.is_str _ _) ?_))
    have room2 : (met val i).length + 1 < scanBound := by
      have := met_len val i
      omega
    refine wpAny_setAddHashed_of (knd := PySem.strKind prog w) (s := { s2 with toks := s2.toks + 1 }) (PySem.Froz.is_str _ _) rfl m2 room2 fun h3 sb m3 => ?_
    have m4 : MetAt prog w val Z h3 (i + 1) := by
      refine PyProof.Rows.SetOf_congr m3 (fun k => ?_) ?_
      · show (decide (k ∈ met val i) || decide (k = val i)) = decide (k ∈ if val i ∈ met val i then met val i else val i :: met val i)
        by_cases c : val i ∈ met val i
        · rw [if_pos c]
          by_cases d : k = val i
          · rw [d, decide_eq_true c]
            rfl
          · rw [decide_eq_false d, Bool.or_false]
        · rw [if_neg c]
          by_cases d : k = val i
          · rw [d, decide_eq_true rfl, Bool.or_true, decide_eq_true List.mem_cons_self]
          · rw [decide_eq_false d, Bool.or_false]
            by_cases f : k ∈ met val i
            · rw [decide_eq_true f, decide_eq_true (List.mem_cons_of_mem _ f)]
            · rw [decide_eq_false f, decide_eq_false fun z => (List.mem_cons.mp z).elim d f]
      · show (if decide (val i ∈ met val i) = true then _ else _) = (if val i ∈ met val i then met val i else val i :: met val i).length
        by_cases c : val i ∈ met val i
        · rw [if_pos c, if_pos (decide_eq_true c)]
        · rw [if_neg c, if_neg (by rw [decide_eq_false c]; exact Bool.false_ne_true)]
          rfl
    have st3 := W.frame _ s2 h3 (s2.toks + 1) st2 (Nat.le_succ _) fun b hb o q => (sb.2 b fun z => nZ (by rw [← z]; exact hb)).trans q
    refine wpAny_pure ⟨plainId_quiet PyProof.Rows.F.plain_set_update_loop _, loop_txt W Z nZ val hv room left (i + 1) _ (by omega) st3 m4 fun s4 mv4 m5 => fin s4 ?_ m5⟩
    refine Moved.trans W.gtrans ((mv.mono fun b hb => List.mem_cons_of_mem _ hb).then_heap (Nat.le_succ _) fun b o hb q => ?_) mv4
    exact (sb.2 b fun z => hb (by rw [z]; exact List.mem_cons_self)).trans q
end
theorem no_set_str : isSubtype (.type "str") (.type "set") = pure false := by
  rw [isSubtype_type]
  kernel_rfl
theorem no_frozen_str : isSubtype (.type "str") (.type "frozenset") = pure false := by
  rw [isSubtype_type]
  kernel_rfl
theorem one_set (v : Value) : checkTypeCall "set" ⟨[v], []⟩ = pure () := by kernel_rfl
section
variable {prog : Program} {w : World} {A : Around} {E : Value → Shared → Prop} {s : Shared}
def sgn (x : Str) (i : Nat) : Str := ⟨#[x.cps.getD i 0]⟩
theorem call_set_txt {x : Str} {u : Tok} {Q : Value → Shared → Prop} (hh : A.handled = none) (hb : x.cps.size + 1 < scanBound)
    (hQ : ∀ (h' : Heap) (tk : Nat), MetAt prog w (sgn x) s.heap.objs.size h' x.cps.size → (∀ b o, b < s.heap.objs.size → s.heap.get? b = some o → h'.get? b = some o) → Q (.ref s.heap.objs.size) { s with heap := h', toks := tk }) :
    wpAny (model prog w) A (call (.type "set") [.str x u]) Q E s := by
  obtain ⟨c, tl, mro⟩ := PySem.F.called_set.mro
  have made := PySem.F.called_set.made
  have sub := PySem.F.called_set.sub
  refine wpAny_call (codeAny_of_tree (?_ : wpAny _ _ _ _ _ _))
  change wpAny _ _ (callAny (.type "set") _) _ _ _
  refine wpAny_pure ⟨Code.quiet_builtin _ (by decide +kernel), codeAny_builtin PySem.F.entry_type_call (?_ : wpAny _ _ _ _ _ _)⟩
  rw [Around.under_plain (weight_type_call_type "set" [.str x u] []) rfl]
  have g1 := PySem.F.called_set.notType
  have g2 := PySem.F.called_set.canCreate
  have g3 := one_set (.str x u)
  repeat (any_goals (first | assumption | wp_step))
  refine codeAny_mono (code_set_new_1 (.str x u) (E := E) (Q₁ := fun obj s₁ => ∃ led : Bool, obj = .ref s.heap.objs.size ∧ s₁ = { s with heap := s.heap.push { cls := .type "set", dict := none, data := .set #[] 0 (.fresh 0 0 led) } }) fun led => ⟨led, rfl, rfl⟩) fun r s1 hr => ?_
  cases r with
  | error e => exact hr
  | ok fl =>
    cases fl with
    | ret obj =>
      obtain ⟨led, rfl, rfl⟩ := hr
      have new : (s.heap.push { cls := .type "set", dict := none, data := .set #[] 0 (.fresh 0 0 led) }).get? s.heap.objs.size = some { cls := .type "set", dict := none, data := .set #[] 0 (.fresh 0 0 led) } := Heap.get?_push_size _ rfl
      have ty : Shared.TypeIs { s with heap := s.heap.push { cls := .type "set", dict := none, data := .set #[] 0 (.fresh 0 0 led) } } (.ref s.heap.objs.size) "set" := ⟨_, new, rfl⟩
      have g4 := PySem.F.called_set.init.lookup
      have g5 := PySem.F.called_set.init.bind (.ref s.heap.objs.size)
      repeat (any_goals (first | assumption | wp_step))
      refine codeAny_mono (codeAny_call_builtin (R := wants (fun r s2 => r = .none ∧ ∃ h' tk, s2 = { s with heap := h', toks := tk } ∧ MetAt prog w (sgn x) s.heap.objs.size h' x.cps.size ∧
          (∀ b o, b < s.heap.objs.size → s.heap.get? b = some o → h'.get? b = some o)) E) PySem.F.called_set.init.plain PySem.F.entry_set_init (check_set_init_1 ty ?_)) fun r2 s2 hr2 => ?_
      · have n1 := no_set_str
        have n2 := no_frozen_str
        have n3 : (Value.type "str" == Value.type "dict") = false := by decide
        unfold Builtin.«set.__init__» noKeywords Builtin.Frozenset.updateFrom
        generalize hPI : pyIter = PI
        wp_walk
        subst hPI
        refine wpAny_pyIter_str fun o St W st0 => ?_
        refine wpAny_bind (wpAny_runValue (?_ : codeAny _ _ _ _ _))
        have hh3 : A.in1.in1.in1.handled = none := by simp [hh]
        have sz : (s.heap.push { cls := .type "set", dict := none, data := .set #[] 0 (.fresh 0 0 led) }).objs.size = s.heap.objs.size + 1 := Heap.size_push _ _
        refine loop_txt (R := _) ((W A.in1.in1.in1 hh3).toS) s.heap.objs.size ?nz (sgn x) ?val hb x.cps.size 0 _ (Nat.zero_add _) st0 ?start ?fin
        case nz =>
          rw [sz]
          intro z
          have := List.mem_singleton.mp z
          exact absurd this (Nat.ne_of_lt (Nat.lt_succ_self _))
        case val =>
          rintro i v ⟨c, t, hc, rfl⟩
          refine ⟨t, ?_⟩
          have e : x.cps.getD i 0 = c := by
            rw [Array.getD_eq_getD_getElem?, hc]
            rfl
          unfold sgn
          rw [e]
        case start =>
          have at1 := Heap.get?_push_of_some o new
          exact PyProof.Rows.SetOf_congr ((PyProof.Rows.setObjOf_fresh (knd := PySem.strKind prog w) led).setOf at1 (by unfold scanBound; omega)) (fun _ => rfl) rfl
        case fin =>
          intro s3 mv m
          obtain ⟨h3, g, d, t3, os⟩ := s3
          obtain rfl : g = s.gens := mv.gens
          obtain rfl : d = s.drawn := mv.drawn
          obtain rfl : os = s.os := mv.os
          change wpAny _ _ _ _ _ _
          refine wpAny_pure (?_ : wpAny _ _ (ret Value.none) _ _ _)
          refine wpAny_pure ⟨rfl, h3, t3, rfl, m, fun b o hb e => ?_⟩
          refine mv.heap b _ (fun z => ?_) (Heap.get?_push_of_some _ (Heap.get?_push_of_some _ e))
          rcases List.mem_cons.mp z with z | z
          · exact absurd hb (by rw [z]; exact Nat.lt_irrefl _)
          · have z := List.mem_singleton.mp z
            rw [sz] at z
            rw [z] at hb
            exact absurd hb (Nat.not_lt_of_le (Nat.le_succ _))
      · cases r2 with
        | error e => exact hr2
        | ok fl2 =>
          cases fl2 with
          | ret r =>
            obtain ⟨rfl, h3, tk, rfl, m, kp⟩ := hr2
            repeat (any_goals (first | assumption | wp_step))
            exact hQ _ _ m kp
          | _ => exact hr2.elim
    | _ => exact hr.elim
end
/-- how many unlike letters a text has -/
def unlike (l : List Nat) : Nat := (met (sgn (T l)) l.length).length
def tLenSetS (ta : TE) : TE := fun σ H Q => ta σ H fun x H1 => ∃ l : List Nat, x = .str (T l) ∧ l.length ≤ 1000 ∧ Q (.int (unlike l : Nat)) H1
theorem pe_lenSetS {X : Cx} {a : Expr} {ta : TE} {p p2 q pos : Pos} (hg : Gl X "len") (hm : X.mg "len" = none) (hg2 : Gl X "set") (hm2 : X.mg "set" = none) (ha : PE X a ta) (hc : X.calm = true := by rfl)
    (na : starEach [a] X.env = (false, eval a X.env) :: starEach [] X.env := by rfl) : PE X (.Call (.Name "len" p) [.Call (.Name "set" p2) [a] [] q] [] pos) (tLenSetS ta) := by
  constructor
  intro pins s σ H Q I h
  refine Call_ (ld_blt I hg hm boot_len (PyProof.Rows.callWith_builtin1 (PyProof.Rows.args_cons ?_ rfl) rfl rfl))
  refine Call_ (ld_blt I hg2 hm2 boot_set (PyProof.Rows.callWith_type1 (PyProof.Rows.args_cons (thn (ha.run pins s σ H _ I h) fun v s1 hx => PyProof.Rows.args_nil ?_) na) na rfl))
  obtain ⟨x, H1, I1, r1, l, rfl, hl, q1⟩ := hx
  obtain ⟨u, rfl⟩ := r1
  have hsz : (T l).cps.size = l.length := T_len l
  refine call_set_txt (I1.ok.hd hc) (by rw [hsz]; unfold scanBound; omega) fun h3 tk m kp => PyProof.Rows.args_nil ?_
  rw [hsz] at m
  obtain ⟨o, es, ep, tb, ho, hex, hd, _, _, _, hf, hn⟩ := m
  have I2 : Inv X pins σ H1 { s1 with heap := h3, toks := tk } := I1.kept fun b o e => kp b o (Heap.lt_size e) e
  have lt := met_len (sgn (T l)) l.length
  exact call_len_set ho hex hd hf (by rw [hn]; omega) ⟨.int (unlike l : Nat), H1, I2.tok _, ⟨_, by rw [hn]; rfl⟩, q1⟩
end Mw
namespace Mw
open PySem PySem.Spec PyProof.Rows L2
end Mw
namespace Mw
open PySem PySem.Spec PyProof.Rows L2

/-! ### a letter is left (no row of the program) -/
/-- two mirror words that end at one place: all places from the shorter one's start on are tied -/
theorem per_tie {t : List Nat} {s1 s2 e q : Nat} (h12 : s1 < s2) (h2q : s2 ≤ q) (hqe : q ≤ e) (P1 : Pal t s1 e) (P2 : Pal t s2 e) : ∃ x, x < q ∧ Pal t x q := by
  obtain ⟨d, hd⟩ : ∃ d, s2 = s1 + d := ⟨s2 - s1, by omega⟩
  have d0 : 0 < d := by omega
  have per : ∀ x, s1 ≤ x → x + d ≤ e → t[x]? = t[x + d]? := fun x h1 h2 => by
    have z1 := P2 (x + d) (by omega) (by omega)
    have z2 := P1 (s1 + e - x) (by omega) (by omega)
    rw [show s2 + e - (x + d) = s1 + e - x by omega] at z1
    rw [show s1 + e - (s1 + e - x) = x by omega] at z2
    rw [z1, z2]
  have many : ∀ k x, s1 ≤ x → x + k * d ≤ e → t[x]? = t[x + k * d]? := fun k => by
    induction k with
    | zero =>
      intro x _ _
      rw [Nat.zero_mul, Nat.add_zero]
    | succ k ih =>
      intro x h1 h2
      rw [Nat.succ_mul] at h2 ⊢
      have z := ih x h1 (by omega)
      have y := per (x + k * d) (by omega) (by omega)
      rw [z, y, Nat.add_assoc]
  have dm := Nat.div_add_mod (s1 + e - s1 - q) d
  have lt := Nat.mod_lt (s1 + e - s1 - q) d0
  have e0 : s1 + e - s1 - q = e - q := by omega
  rw [e0] at dm lt
  generalize hk : (e - q) / d = k at dm
  rw [Nat.mul_comm] at dm
  refine ⟨s1 + e - k * d - q, by omega, fun y h1 h2 => ?_⟩
  have z := P1 y (by omega) (by omega)
  have y2 := many k (s1 + e - k * d - y) (by omega) (by omega)
  rw [show s1 + e - k * d - y + k * d = s1 + e - y by omega] at y2
  rw [show s1 + e - k * d - q + q - y = s1 + e - k * d - y by omega, y2]
  exact z
theorem one_of {l : List Nat} (nd : l.Nodup) (h : ∀ a ∈ l, ∀ b ∈ l, ¬ a < b) : l.length ≤ 1 := by
  match l, nd, h with
  | [], _, _ => exact Nat.zero_le _
  | [a], _, _ => exact Nat.le_refl _
  | a :: b :: r, nd, h =>
    have h1 := h a List.mem_cons_self b (List.mem_cons_of_mem _ List.mem_cons_self)
    have h2 := h b (List.mem_cons_of_mem _ List.mem_cons_self) a List.mem_cons_self
    have e : a = b := by omega
    exact absurd (by rw [e]; exact List.mem_cons_self) (List.nodup_cons.mp nd).1
theorem barred_len {t : List Nat} {R : Nat → Nat} (A : Arms t R) {p r : Nat} (hp : p < t.length) (hr : r < p) (free : ∀ i, i < r → tie R i r = false) (g : List Nat) : (barred R g p).length ≤ p - r + 1 := by
  unfold barred
  rw [List.length_map]
  have e : List.range p = List.range r ++ (List.range (p - r)).map (r + ·) := by
    rw [← List.range_add, show r + (p - r) = p by omega]
  rw [e, List.filter_append, List.length_append]
  have l2 : (((List.range (p - r)).map (r + ·)).filter fun i => cut R i p).length ≤ p - r := by
    refine Nat.le_trans (List.length_filter_le _ _) ?_
    rw [List.length_map, List.length_range]
    exact Nat.le_refl _
  have l1 : ((List.range r).filter fun i => cut R i p).length ≤ 1 := by
    refine one_of (List.nodup_range.filter _) fun a ha b hb lt => ?_
    obtain ⟨ha1, ha2⟩ := List.mem_filter.mp ha
    obtain ⟨hb1, hb2⟩ := List.mem_filter.mp hb
    have ha1 := List.mem_range.mp ha1
    have hb1 := List.mem_range.mp hb1
    obtain ⟨pa, _⟩ := (A.cut a p (by omega) hp).mp ha2
    obtain ⟨pb, _⟩ := (A.cut b p (by omega) hp).mp hb2
    obtain ⟨x, hx, px⟩ := per_tie (show a + 1 < b + 1 by omega) (show b + 1 ≤ r by omega) (show r ≤ p - 1 by omega) pa pb
    have z := (A.tie x r hx (by omega)).mpr px
    rw [free x hx] at z
    cases z
  omega
theorem find_pre {q : Nat → Bool} {c k : Nat} (hk : k < 26) (h : abcL.find? q = some c) (hc : c = 97 + k) : ∀ j, j < k → q (97 + j) = false := fun j hj => by
  cases e : q (97 + j) with
  | false => rfl
  | true =>
    have z := find_le abcL_sorted h (mem_abcL.mpr ⟨by omega, by omega⟩ : (97 + j) ∈ abcL) e
    omega
theorem rt_root (R : Nat → Nat) (i : Nat) : ((List.range (rt R i)).find? fun j => tie R j (rt R i)) = none := by
  cases h : (List.range (rt R i)).find? fun j => tie R j (rt R i) with
  | none => rfl
  | some j =>
    have z := rt_tied h
    rw [rt_rt] at z
    have y := (first_tied h).1
    have := rt_le R j
    omega
/-- a place that is tied to none, where the first k letters are barred -/
theorem far_off {t : List Nat} {R : Nat → Nat} (A : Arms t R) : ∀ k, k ≤ 26 → ∀ p, p < t.length → ((List.range p).find? fun i => tie R i p) = none → (∀ j, j < k → 97 + j ∈ barred R (gr R p) p) → k * (k - 1) ≤ 2 * p
  | 0, _, p, _, _, _ => by omega
  | k + 1, hk, p, hp, hf, hb => by
    obtain ⟨i, hi, hc, ei⟩ := mem_barred.mp (hb k (Nat.lt_succ_self k))
    have hri : rt R i ≤ i := rt_le R i
    have root := rt_root R i
    have gi : (gr R p)[i]? = (gr R p)[rt R i]? := gr_rt hi
    rw [gr_at hi, gr_at (show rt R i < p by omega)] at gi
    have gi := Option.some.inj gi
    rw [gr_getD hi, gi, nxt_free root] at ei
    cases hs : abcL.find? fun c => !(barred R (gr R (rt R i)) (rt R i)).contains c with
    | none =>
      rw [hs] at ei
      have ei : 0 = 97 + k := ei
      omega
    | some c =>
      rw [hs] at ei
      have ei : c = 97 + k := ei
      have pre := find_pre (by omega) hs ei
      have ih := far_off A k (by omega) (rt R i) (by omega) root fun j hj => by
        have z := pre j hj
        simpa using z
      have l1 := barred_len A hp (show rt R i < p by omega) (none_tied root) (gr R p)
      have nd : (((List.range (k + 1)).map (97 + ·)) : List Nat).Nodup := by
        refine List.pairwise_map.mpr (List.nodup_range.imp fun h e => h (by omega))
      have l2 := nodup_sub nd (m := barred R (gr R p) p) fun c hc => by
        obtain ⟨j, hj, rfl⟩ := List.mem_map.mp hc
        exact hb j (List.mem_range.mp hj)
      rw [List.length_map, List.length_range] at l2
      have e1 : (k + 1) * (k + 1 - 1) = k * (k - 1) + 2 * k := by
        cases k with
        | zero => rfl
        | succ j =>
          show (j + 2) * (j + 1) = (j + 1) * j + 2 * (j + 1)
          rw [Nat.add_mul, Nat.mul_comm j (j + 1)]
      omega
theorem left_arms {t : List Nat} {R : Nat → Nat} (A : Arms t R) (h : t.length ≤ 300) : Left R t.length := by
  intro p hp hf
  cases hs : abcL.find? fun c => !(barred R (gr R p) p).contains c with
  | some c => exact ⟨c, rfl⟩
  | none =>
    exfalso
    have z := far_off A 26 (Nat.le_refl _) p hp hf fun j hj => by
      have y := List.find?_eq_none.mp hs (97 + j) (mem_abcL.mpr ⟨by omega, by omega⟩)
      simpa using y
    omega
theorem gr_az {R : Nat → Nat} {n : Nat} (L : Left R n) : ∀ k, k ≤ n → (gr R k).all az = true
  | 0, _ => rfl
  | k + 1, h => by
    have ih := gr_az L k (by omega)
    show (gr R k ++ [nxt R (gr R k)]).all az = true
    refine all_app ih ?_
    rw [List.all_cons, List.all_nil, Bool.and_true]
    cases hf : (List.range k).find? fun i => tie R i k with
    | some i =>
      have hi := (first_tied hf).1
      rw [nxt_tied hf, List.getD_eq_getElem?_getD, List.getElem?_eq_getElem (by rw [gr_len]; exact hi)]
      exact List.all_eq_true.mp ih _ (List.getElem_mem _)
    | none =>
      obtain ⟨c, hc⟩ := L k (by omega) hf
      rw [nxt_free hf, hc]
      obtain ⟨h1, h2⟩ := mem_abcL.mp (List.mem_of_find?_eq_some hc)
      show az c = true
      unfold az
      rw [decide_eq_true h1, decide_eq_true h2]
      rfl
end Mw
namespace Mw
open PySem PySem.Spec PyProof.Rows L2

/-! ### dicts that count numbers -/
def kI (L : Nat) : Key := .inl (L : Int)
theorem kI_inj {a b : Nat} (h : kI a = kI b) : a = b := by
  have := Sum.inl.inj h
  omega
def CntI (kvs : List (Key × V)) (c : Nat → Nat) : Prop := ∃ ls : List Nat, kvs = ls.map (fun L => (kI L, V.int (c L : Nat))) ∧ ls.Nodup ∧ ∀ L, L ∈ ls ↔ c L ≠ 0
theorem CntI.nil : CntI [] (fun _ => 0) := ⟨[], rfl, List.nodup_nil, fun L => ⟨fun h => absurd h List.not_mem_nil, fun h => absurd rfl h⟩⟩
theorem CntI.congr {kvs : List (Key × V)} {c c' : Nat → Nat} (h : CntI kvs c) (e : ∀ L, c' L = c L) : CntI kvs c' := by
  have q : c' = c := funext e
  rw [q]
  exact h
theorem val_ls (c : Nat → Nat) (s : Nat) : ∀ ls : List Nat, valV (ls.map (fun L => (kI L, V.int (c L : Nat)))) (kI s) = if s ∈ ls then some (.int (c s : Nat)) else none
  | [] => by
    rw [if_neg List.not_mem_nil]
    rfl
  | a :: r => by
    rw [List.map_cons]
    by_cases e : a = s
    · subst e
      rw [valV_pos rfl, if_pos List.mem_cons_self]
    · have ih := val_ls c s r
      have z : valV ((kI a, V.int (c a : Nat)) :: r.map (fun L => (kI L, V.int (c L : Nat)))) (kI s) = valV (r.map (fun L => (kI L, V.int (c L : Nat)))) (kI s) := by
        unfold valV
        rw [List.find?_cons, decide_eq_false (show ¬ kI a = kI s from fun y => e (kI_inj y))]
      rw [z, ih]
      by_cases m : s ∈ r
      · rw [if_pos m, if_pos (List.mem_cons_of_mem _ m)]
      · rw [if_neg m, if_neg fun y => (List.mem_cons.mp y).elim (fun y => e y.symm) m]
theorem CntI.at_ {kvs : List (Key × V)} {c : Nat → Nat} (h : CntI kvs c) (L : Nat) : (valV kvs (kI L)).getD (.int 0) = .int (c L : Nat) := by
  obtain ⟨ls, rfl, nd, hm⟩ := h
  rw [val_ls]
  by_cases z : L ∈ ls
  · rw [if_pos z]
    rfl
  · rw [if_neg z]
    have e : c L = 0 := by
      by_cases q : c L = 0
      · exact q
      · exact absurd ((hm L).mpr q) z
    rw [e]
    rfl
theorem CntI.put {kvs : List (Key × V)} {c : Nat → Nat} (h : CntI kvs c) (s : Nat) {n : Nat} (hn : 0 < n) : CntI (putK kvs (kI s) (.int ((c s + n : Nat) : Int))) (fun L => c L + if L = s then n else 0) := by
  obtain ⟨ls, rfl, nd, hm⟩ := h
  have cs : c s + (if s = s then n else 0) = c s + n := by rw [if_pos rfl]
  have cn : ∀ L, L ≠ s → c L + (if L = s then n else 0) = c L := fun L hL => by rw [if_neg hL, Nat.add_zero]
  unfold putK
  rw [valV_any, val_ls]
  by_cases z : s ∈ ls
  · rw [if_pos z]
    refine ⟨ls, ?_, nd, fun L => ?_⟩
    · show (if (true = true) then _ else _) = _
      rw [if_pos rfl, List.map_map]
      refine List.map_congr_left fun L _ => ?_
      show (if kI L = kI s then (kI L, V.int ((c s + n : Nat) : Int)) else (kI L, V.int (c L : Nat))) = (kI L, V.int ((c L + if L = s then n else 0 : Nat) : Int))
      by_cases e : L = s
      · subst e
        rw [if_pos rfl, if_pos rfl]
      · rw [if_neg fun y => e (kI_inj y), cn L e]
    · show L ∈ ls ↔ c L + (if L = s then n else 0) ≠ 0
      by_cases e : L = s
      · subst e
        rw [if_pos rfl]
        exact ⟨fun _ => by omega, fun _ => z⟩
      · rw [cn L e]
        exact hm L
  · rw [if_neg z]
    have c0 : c s = 0 := by
      by_cases q : c s = 0
      · exact q
      · exact absurd ((hm s).mpr q) z
    refine ⟨ls ++ [s], ?_, ?_, fun L => ?_⟩
    · show (if (false = true) then _ else _) = _
      rw [if_neg Bool.false_ne_true, List.map_append]
      congr 1
      · refine List.map_congr_left fun L hL => ?_
        have e : L ≠ s := fun y => z (y ▸ hL)
        show (kI L, V.int (c L : Nat)) = (kI L, V.int ((c L + if L = s then n else 0 : Nat) : Int))
        rw [cn L e]
      · show [(kI s, V.int ((c s + n : Nat) : Int))] = [(kI s, V.int ((c s + if s = s then n else 0 : Nat) : Int))]
        rw [cs]
    · refine List.nodup_append.mpr ⟨nd, (List.nodup_cons.mpr ⟨List.not_mem_nil, List.nodup_nil⟩), fun a ha b hb e => ?_⟩
      rw [List.mem_singleton.mp hb] at e
      exact z (e ▸ ha)
    · rw [List.mem_append, List.mem_singleton]
      show L ∈ ls ∨ L = s ↔ c L + (if L = s then n else 0) ≠ 0
      by_cases e : L = s
      · subst e
        rw [if_pos rfl]
        exact ⟨fun _ => by omega, fun _ => .inr rfl⟩
      · rw [cn L e]
        exact ⟨fun h => h.elim (hm L).mp fun y => absurd y e, fun h => .inl ((hm L).mpr h)⟩
theorem CntI.same {a b : List (Key × V)} {c : Nat → Nat} (ha : CntI a c) (hb : CntI b c) : a.length = b.length ∧ ∀ p ∈ a, valV b p.1 = some p.2 ∧ flatB p.2 = true := by
  obtain ⟨ls, rfl, n1, h1⟩ := ha
  obtain ⟨ms, rfl, n2, h2⟩ := hb
  constructor
  · rw [List.length_map, List.length_map]
    exact ((List.perm_ext_iff_of_nodup n1 n2).mpr fun L => (h1 L).trans (h2 L).symm).length_eq
  · intro p hp
    obtain ⟨L, hL, rfl⟩ := List.mem_map.mp hp
    refine ⟨?_, rfl⟩
    show valV _ (kI L) = _
    rw [val_ls, if_pos ((h2 L).mpr ((h1 L).mp hL))]

/-! ### mirror words counted by their length: by words, by arms -/
def pcB (l : List Nat) (L i : Nat) : Bool := decide (1 ≤ L) && (decide (i + L ≤ l.length) && pal ((l.drop i).take L))
def pcN (l : List Nat) (L k : Nat) : Nat := ((List.range k).filter (pcB l L)).length
def twN (l : List Nat) (ws : List (List Nat)) (L k : Nat) : Nat := (ws.map fun w => if w.length = L then occN l w k else 0).sum
def tw (l : List Nat) (ws : List (List Nat)) (L : Nat) : Nat := twN l ws L l.length
theorem sum_add {α : Type} (f g : α → Nat) : ∀ ws : List α, (ws.map fun w => f w + g w).sum = (ws.map f).sum + (ws.map g).sum
  | [] => rfl
  | w :: r => by
    rw [List.map_cons, List.map_cons, List.map_cons, List.sum_cons, List.sum_cons, List.sum_cons, sum_add f g r]
    omega
theorem sum_zero {α : Type} {f : α → Nat} : ∀ {ws : List α}, (∀ w ∈ ws, f w = 0) → (ws.map f).sum = 0
  | [], _ => rfl
  | w :: r, h => by
    rw [List.map_cons, List.sum_cons, h w List.mem_cons_self, sum_zero fun x hx => h x (List.mem_cons_of_mem _ hx)]
theorem sum_one {s : List Nat} : ∀ {ws : List (List Nat)}, ws.Nodup → (ws.map fun w => if w = s then 1 else 0).sum = if s ∈ ws then 1 else 0
  | [], _ => by
    rw [if_neg List.not_mem_nil]
    rfl
  | w :: r, nd => by
    obtain ⟨h1, h2⟩ := List.nodup_cons.mp nd
    have ih := sum_one (s := s) h2
    rw [List.map_cons, List.sum_cons, ih]
    by_cases e : w = s
    · subst e
      rw [if_pos rfl, if_neg h1, if_pos List.mem_cons_self]
    · rw [if_neg e, Nat.zero_add]
      by_cases m : s ∈ r
      · rw [if_pos m, if_pos (List.mem_cons_of_mem _ m)]
      · rw [if_neg m, if_neg fun y => (List.mem_cons.mp y).elim (fun y => e y.symm) m]
theorem twN_rows (l : List Nat) (L : Nat) : ∀ k, k ≤ l.length → twN l (rows l) L k = pcN l L k
  | 0, _ => by
    unfold twN pcN
    refine sum_zero fun w _ => ?_
    split <;> rfl
  | k + 1, h => by
    have ih := twN_rows l L k (by omega)
    have e1 : twN l (rows l) L (k + 1) = twN l (rows l) L k + ((rows l).map fun w => if w.length = L ∧ (l.drop k).take L = w then 1 else 0).sum := by
      unfold twN
      rw [← sum_add]
      congr 1
      refine List.map_congr_left fun w _ => ?_
      by_cases c : w.length = L
      · rw [if_pos c, if_pos c, occN_succ, c]
        congr 1
        by_cases d : (l.drop k).take L = w
        · rw [if_pos d, if_pos ⟨rfl, d⟩]
        · rw [if_neg d, if_neg fun z => d z.2]
      · rw [if_neg c, if_neg c, if_neg fun z => c z.1]
    have e2 : pcN l L (k + 1) = pcN l L k + if pcB l L k = true then 1 else 0 := by
      unfold pcN
      rw [List.range_succ, List.filter_append, List.length_append]
      congr 1
      by_cases c : pcB l L k = true
      · rw [if_pos c, List.filter_cons_of_pos c]
        rfl
      · rw [if_neg c, List.filter_cons_of_neg c]
        rfl
    rw [e1, e2, ih]
    congr 1
    have sl : ((l.drop k).take L).length = min L (l.length - k) := by
      rw [List.length_take, List.length_drop]
    generalize hs : (l.drop k).take L = s at sl
    by_cases c : pcB l L k = true
    · rw [if_pos c]
      unfold pcB at c
      rw [Bool.and_eq_true, Bool.and_eq_true, decide_eq_true_eq, decide_eq_true_eq, hs] at c
      obtain ⟨c1, c2, c3⟩ := c
      have sL : s.length = L := by omega
      have m : s ∈ rows l := by
        refine rows_mem.mpr ⟨List.length_pos_iff.mp (by omega), c3, ?_⟩
        rw [← hs]
        exact (List.take_prefix _ _).isInfix.trans (List.drop_suffix _ _).isInfix
      have e : ((rows l).map fun w => if w.length = L ∧ s = w then 1 else 0) = (rows l).map fun w => if w = s then 1 else 0 := List.map_congr_left fun w _ => by
        by_cases d : w = s
        · rw [if_pos d, if_pos ⟨by rw [d, sL], d.symm⟩]
        · rw [if_neg d, if_neg fun z => d z.2.symm]
      rw [e, sum_one (rows_nd l), if_pos m]
    · rw [if_neg c]
      refine sum_zero fun w hw => if_neg fun z => c ?_
      obtain ⟨z1, rfl⟩ := z
      have y := rows_mem.mp hw
      have pos := List.length_pos_iff.mpr y.1
      unfold pcB
      rw [hs, y.2.1, decide_eq_true (show 1 ≤ L by omega), decide_eq_true (show k + L ≤ l.length by omega)]
      rfl
theorem pal_Pal {l : List Nat} {i L : Nat} (hL : 1 ≤ L) (h : i + L ≤ l.length) : pal ((l.drop i).take L) = true ↔ Pal l i (i + L - 1) := by
  have sl : ((l.drop i).take L).length = L := by
    rw [List.length_take, List.length_drop]
    omega
  have at_ : ∀ x, x < L → ((l.drop i).take L)[x]? = l[i + x]? := fun x hx => by
    rw [List.getElem?_take_of_lt hx, List.getElem?_drop]
  unfold pal
  rw [decide_eq_true_eq]
  constructor
  · intro e x h1 h2
    have z := congrArg (fun y => y[x - i]?) e
    have z : ((l.drop i).take L)[x - i]? = ((l.drop i).take L).reverse[x - i]? := z
    rw [List.getElem?_reverse (by rw [sl]; omega), sl, at_ _ (by omega), at_ _ (by omega)] at z
    rw [show i + (x - i) = x by omega, show i + (L - 1 - (x - i)) = i + (i + L - 1) - x by omega] at z
    exact z
  · intro p
    refine List.ext_getElem? fun x => ?_
    by_cases c : x < L
    · rw [List.getElem?_reverse (by rw [sl]; omega), sl, at_ _ c, at_ _ (by omega)]
      have z := p (i + x) (by omega) (by omega)
      rw [show i + (i + L - 1) - (i + x) = i + (L - 1 - x) by omega] at z
      exact z
    · rw [List.getElem?_eq_none (by rw [sl]; omega), List.getElem?_eq_none (by rw [List.length_reverse, sl]; omega)]
/-- of the first j lengths at the middle m, L is one -/
def inB (m j L : Nat) : Bool := decide (1 + m % 2 ≤ L ∧ (L + m) % 2 = 1 ∧ L ≤ 2 * j + m % 2)
def acB (l : List Nat) (L m : Nat) : Bool := inB m (1 - m % 2 + armL l m) L
def ac (l : List Nat) (L k : Nat) : Nat := ((List.range k).filter (acB l L)).length
def acj (l : List Nat) (m j L : Nat) : Nat := ac l L m + if inB m j L = true then 1 else 0
theorem acj_start (l : List Nat) (m L : Nat) : acj l m 0 L = ac l L m := by
  unfold acj
  rw [if_neg fun z => ?_, Nat.add_zero]
  unfold inB at z
  have := of_decide_eq_true z
  omega
theorem acj_step (l : List Nat) (m j L : Nat) : acj l m (j + 1) L = acj l m j L + if L = 2 * j + 1 + m % 2 then 1 else 0 := by
  unfold acj
  rw [Nat.add_assoc]
  congr 1
  unfold inB
  by_cases c : L = 2 * j + 1 + m % 2
  · rw [if_pos c, if_pos (decide_eq_true (by omega)), if_neg fun z => ?_]
    have := of_decide_eq_true z
    omega
  · rw [if_neg c, Nat.add_zero]
    by_cases d : 1 + m % 2 ≤ L ∧ (L + m) % 2 = 1 ∧ L ≤ 2 * j + m % 2
    · rw [if_pos (decide_eq_true d), if_pos (decide_eq_true (by omega))]
    · rw [if_neg fun z => d (of_decide_eq_true z), if_neg fun z => ?_]
      have := of_decide_eq_true z
      omega
theorem acj_stop (l : List Nat) (m L : Nat) : acj l m (1 - m % 2 + armL l m) L = ac l L (m + 1) := by
  unfold acj ac
  rw [List.range_succ, List.filter_append, List.length_append]
  congr 1
  show (if acB l L m = true then 1 else 0) = _
  by_cases c : acB l L m = true
  · rw [if_pos c, List.filter_cons_of_pos c]
    rfl
  · rw [if_neg c, List.filter_cons_of_neg c]
    rfl
theorem ac_pc (l : List Nat) (L : Nat) : ac l L (2 * l.length - 1) = pcN l L l.length := by
  -- what a middle tells of the stretch of L letters around it
  have key : ∀ i, i + L ≤ l.length → 1 ≤ L → (acB l L (2 * i + L - 1) = true ↔ pal ((l.drop i).take L) = true) := fun i h1 h2 => by
    rw [pal_Pal h2 h1, pal_arm' (by omega) (by omega)]
    rw [show i + (i + L - 1) = 2 * i + L - 1 by omega]
    unfold acB inB
    rw [decide_eq_true_eq]
    generalize armL l (2 * i + L - 1) = a
    omega
  unfold ac pcN
  have nd1 : (((List.range l.length).filter (pcB l L)).map fun i => 2 * i + L - 1).Nodup := by
    refine List.pairwise_map.mpr (((List.nodup_range (n := l.length)).filter (pcB l L)).imp_of_mem fun {a b} ha hb ne e => ne ?_)
    have z := (List.mem_filter.mp ha).2
    unfold pcB at z
    rw [Bool.and_eq_true, decide_eq_true_eq] at z
    omega
  refine Nat.le_antisymm ?_ ?_
  · have z := nodup_sub (l := (List.range (2 * l.length - 1)).filter (acB l L)) (m := ((List.range l.length).filter (pcB l L)).map fun i => 2 * i + L - 1) (List.nodup_range.filter _) fun m hm => by
      obtain ⟨h1, h2⟩ := List.mem_filter.mp hm
      have h1 := List.mem_range.mp h1
      have ar := armL_room h1
      unfold roomN at ar
      have d := h2
      unfold acB inB at d
      have d := of_decide_eq_true d
      have L1 : 1 ≤ L := by omega
      have mn : min (m + 1) (2 * l.length - 1 - m) / 2 ≤ (m + 1) / 2 ∧ min (m + 1) (2 * l.length - 1 - m) / 2 ≤ (2 * l.length - 1 - m) / 2 := by omega
      refine List.mem_map.mpr ⟨(m + 1 - L) / 2, List.mem_filter.mpr ⟨List.mem_range.mpr (by omega), ?_⟩, by omega⟩
      have em : 2 * ((m + 1 - L) / 2) + L - 1 = m := by omega
      have il : (m + 1 - L) / 2 + L ≤ l.length := by omega
      have p := (key _ il L1).mp (by rw [em]; exact h2)
      unfold pcB
      rw [p, decide_eq_true L1, decide_eq_true il]
      rfl
    rw [List.length_map] at z
    exact z
  · have z := nodup_sub nd1 (m := (List.range (2 * l.length - 1)).filter (acB l L)) fun m hm => by
      obtain ⟨i, hi, rfl⟩ := List.mem_map.mp hm
      obtain ⟨h1, h2⟩ := List.mem_filter.mp hi
      unfold pcB at h2
      rw [Bool.and_eq_true, Bool.and_eq_true, decide_eq_true_eq, decide_eq_true_eq] at h2
      obtain ⟨c1, c2, c3⟩ := h2
      exact List.mem_filter.mpr ⟨List.mem_range.mpr (by omega), (key i c2 c1).mpr c3⟩
    rw [List.length_map] at z
    exact z
theorem tw_ac (l : List Nat) (L : Nat) : tw l (rows l) L = ac l L (2 * l.length - 1) := by
  unfold tw
  rw [twN_rows l L _ (Nat.le_refl _), ac_pc]
theorem ac_congr {a b : List Nat} (h : ∀ m, armL a m = armL b m) (L k : Nat) : ac a L k = ac b L k := by
  unfold ac acB
  congr 1
  refine List.filter_congr fun m _ => ?_
  rw [h m]
theorem tw_more (l : List Nat) (ws : List (List Nat)) (w : List Nat) (L : Nat) : tw l (ws ++ [w]) L = tw l ws L + if L = w.length then occ l w else 0 := by
  unfold tw twN
  rw [List.map_append, List.sum_append]
  congr 1
  show (if w.length = L then occN l w l.length else 0) + 0 = _
  rw [Nat.add_zero]
  by_cases c : L = w.length
  · rw [if_pos c, if_pos c.symm]
    rfl
  · rw [if_neg c, if_neg fun z => c z.symm]
theorem occ_pos {l w : List Nat} (h : w ∈ rows l) : 0 < occ l w := by
  have y := rows_mem.mp h
  have z : occ l w ≠ 0 := fun e => (occ_zero y.1).mp e y.2.2
  omega
/-- the longest word is as long as any -/
theorem lng_max {l u : List Nat} (h : isLng l u) : ∀ w ∈ rows l, w.length ≤ u.length := fun w hw => by
  have y := rows_mem.mp hw
  obtain ⟨i, h1, h2⟩ := infix_at.mp y.2.2
  have pos := List.length_pos_iff.mpr y.1
  rcases h with ⟨e, _⟩ | ⟨k, hk, e, all, _⟩
  · rw [e] at h1
    have h1 : i + w.length ≤ 0 := h1
    omega
  · have z := all i (by omega)
    have p : w <+: l.drop i := by
      rw [← h2]
      exact List.take_prefix _ _
    have := bgn_max p y.2.1
    omega
theorem lng_in {l u : List Nat} (h : isLng l u) : (l = [] ∧ u = []) ∨ u ∈ rows l := by
  rcases h with h | ⟨k, hk, e, _⟩
  · exact .inl h
  · rw [e]
    exact .inr (rows_mem.mpr (bgn_wd hk))
theorem prt_wd (t : List Nat) : ∀ k, k ≤ t.length → ∀ w ∈ prt t (t.length - k), Wd t w
  | 0, _, w, hw => by
    rw [Nat.sub_zero, prt_end] at hw
    exact absurd hw List.not_mem_nil
  | k + 1, h, w, hw => by
    have hi : t.length - (k + 1) < t.length := by omega
    rw [prt_step hi] at hw
    obtain ⟨e1, e2, e3⟩ := (jmp_ok t hi).1
    rcases List.mem_cons.mp hw with rfl | hw
    · refine ⟨List.length_pos_iff.mp ?_, e3, ?_⟩
      · unfold str
        rw [List.length_take, List.length_drop]
        omega
      · exact (List.take_prefix _ _).isInfix.trans (List.drop_suffix _ _).isInfix
    · have ej : t.length - (t.length - jmp t (t.length - (k + 1))) = jmp t (t.length - (k + 1)) := by omega
      rw [← ej] at hw
      exact prt_wd t _ (by omega) w hw
  termination_by k => k
theorem prt_wd0 {t w : List Nat} (h : w ∈ prt t 0) : Wd t w := by
  have e : t.length - t.length = 0 := Nat.sub_self _
  refine prt_wd t t.length (Nat.le_refl _) w ?_
  rw [e]
  exact h
end Mw
namespace Mw
open PySem PySem.Spec PyProof.Rows L2
theorem mod2N (m : Nat) : ((m : Int)).fmod 2 = ((m % 2 : Nat) : Int) := by
  rw [Int.fmod_eq_emod_of_nonneg _ (by decide)]
  omega
def spLengths (P : Addr) : Sp := fun vs H Q _ => ∃ l : List Nat, vs = [.str (T l)] ∧ l.length ≤ 100 ∧ l.all az = true ∧ GxR.TabG H P ∧ ∀ H' p kvs, Kp P H H' → H p = none → H' p = some (.dK kvs) → CntI kvs (fun L => ac l L (2 * l.length - 1)) → Q (.ref p) H'
def spTold (P C : Addr) : Sp := fun vs H Q _ => ∃ (b : Addr) (l : List Nat), vs = [.ref b] ∧ BkAt C H b l ∧ l.length ≤ 100 ∧ GxR.TabG H P ∧ ∀ H' p kvs, Kp P H H' → H p = none → H' p = some (.dK kvs) → CntI kvs (fun L => ac l L (2 * l.length - 1)) → Q (.ref p) H'
def spGrown (P C : Addr) : Sp := fun vs H Q _ => ∃ (l : List Nat) (i : Nat) (z : Int), vs = [.str (T l), .int (i : Int), .int z] ∧ i ≤ l.length ∧ l.length ≤ 100 ∧ l.all az = true ∧ GxR.TabG H P ∧ ∀ H' b, Kp P H H' → H b = none → BkAt C H' b l → Q (.ref b) H'
def spRightT (P C : Addr) : Sp := fun vs H Q _ => ∃ (b : Addr) (l : List Nat), vs = [.ref b, .str (T l)] ∧ BkAt C H b l ∧ l.length ≤ 100 ∧ GxR.TabG H P ∧ ∀ H', Kp P H H' → Q (.bl true) H'
theorem itN {A B : Prop} {b : Bool} (h : b = false) (q : B) : if b = true then A else B := by
  rw [h]
  exact iteF q
theorem itY {A B : Prop} {b : Bool} (h : b = true) (q : A) : if b = true then A else B := by
  rw [h]
  exact iteT q
end Mw
namespace Mw
open PySem PySem.Spec PyProof.Rows L2
def topS (i : Nat) : Stmt := PySem.Challenge.pw_mirrorwords_k10_whole_books_and_arms.main.body.getD i (.Pass ⟨0, 0, 0, 0⟩)
abbrev sNumTo : Stmt := topS 10 -- is_number_to
abbrev sIs : Stmt := topS 13 -- is_text
abbrev sMir : Stmt := topS 14 -- is_mirror
abbrev sAlike : Stmt := topS 15 -- reads_alike
abbrev sLAE : Stmt := topS 16 -- longest_at_end
abbrev sLAS : Stmt := topS 17 -- longest_at_start
abbrev sRNT : Stmt := topS 18 -- refuse_no_text
abbrev sNoM : Stmt := topS 19 -- refuse_no_mirror
abbrev sBInit : Stmt := inClass (topS 21) 0 -- __init__
abbrev sBPutFirst : Stmt := inClass (topS 21) 1 -- put_first
abbrev sBPutLast : Stmt := inClass (topS 21) 2 -- put_last
abbrev sBCutFirst : Stmt := inClass (topS 21) 3 -- cut_first
abbrev sBCutLast : Stmt := inClass (topS 21) 4 -- cut_last
abbrev sBWhole : Stmt := inClass (topS 21) 5 -- whole
abbrev sBWords : Stmt := inClass (topS 21) 6 -- words
abbrev sBMany : Stmt := inClass (topS 21) 7 -- many
abbrev sBCount : Stmt := inClass (topS 21) 8 -- count
abbrev sBBeginsAt : Stmt := inClass (topS 21) 9 -- begins_at
abbrev sBEndsAt : Stmt := inClass (topS 21) 10 -- ends_at
abbrev sBLongest : Stmt := inClass (topS 21) 11 -- longest
abbrev sUnless : Stmt := topS 22 -- unless_in
abbrev sRPut : Stmt := topS 23 -- refuse_put
abbrev sRCut : Stmt := topS 24 -- refuse_cut
abbrev sRNP : Stmt := topS 25 -- refuse_no_place
abbrev sArms : Stmt := topS 27 -- arms
abbrev sArmAt : Stmt := topS 28 -- arm_at
abbrev sFewest : Stmt := topS 30 -- fewest
abbrev sNeeded : Stmt := topS 31 -- words_needed
abbrev sEndsF : Stmt := topS 32 -- ends_from
abbrev sIsArms : Stmt := topS 35 -- is_arms
abbrev sAreMid : Stmt := topS 36 -- are_middles
abbrev sRoom : Stmt := topS 37 -- room_at
abbrev sLeast : Stmt := topS 38 -- least_text
abbrev sNext : Stmt := topS 39 -- next_letter
abbrev sDraw : Stmt := topS 41 -- _law_draw
abbrev sText : Stmt := topS 42 -- _law_text
abbrev sLGrown : Stmt := topS 43 -- _law_grown
abbrev sLLengths : Stmt := topS 44 -- _law_lengths
abbrev sLTold : Stmt := topS 45 -- _law_told
abbrev sLRight : Stmt := topS 46 -- _law_right
abbrev sLaw : Stmt := topS 47 -- law
end Mw
namespace Mw
open PySem PySem.Spec PyProof.Rows L2
/-! ### is_text -/
theorem scIs : FnScope ["thing"] ["thing"] (defScope sIs) := ⟨rfl, rfl, rfl, by decide +kernel, rfl, by decide +kernel, by decide +kernel⟩
section
variable {Pr : Program} {w : World} {K : PySem.W.Frag} {mg : Str → Option Value} {base : Heap} {P : Addr}
theorem ok_is {f c : Addr} {fd : FuncData} {tm : Tok} (F : Fun K "is_text" "is_text" sIs f fd) (hcode : fd.code = .ref c) (TB : GxR.TabB base mg c P) (mi : mg "isinstance" = none) (ml : mg "len" = none) (ma : mg "all" = none) (ms : mg "str" = none)
    (mm : mg "MOST" = some (.int 200 tm)) : FnOk Pr w K mg base CX0 1 f fd ["thing"] (spIs K P) := by
  refine okC F scIs (fun vs H Q E h => ?_) (fun A outer s H vs Q E hr h => ?_)
  · obtain ⟨x, rfl, _⟩ := h
    rfl
  · obtain ⟨x, rfl, tab, th, q⟩ := h
    refine ⟨_, pss_one (ps_ret (pe_and (pe_callB call_isi (by rfl) mi boot_isinstance (pa_cons (pv 0) (pa_cons (pe_bltn (v := .ty "str") (by rfl) ms PyProof.Rows.boot_str rfl) pa_nil)))
      (pe_and (pe_cmpR op_le (pe_callB call_len_str (by rfl) ml PySem.boot_len (pa_cons (pv 0) pa_nil)) (pe_glob (v := .int 200) (by rfl) mm ⟨_, rfl⟩) (nomark _))
      (pe_one (GxR.pe_allS hr (by rfl) ma boot_all TB hcode (genS rfl rfl (by decide +kernel) rfl rfl) (pv 0) (elt_az rfl rfl) (fun _ => rfl)))))), ?_⟩
    cases th with
    | other t k no =>
      refine ⟨x, rfl, x, .ty "str", _, _, false, rfl, .ty _, t, kit_ty k, false, rfl, iteF ?_⟩
      have z := q H ⟨tab, fun _ _ => rfl⟩
      rw [no] at z
      exact z
    | text l hl =>
      refine ⟨.str (T l), rfl, .str (T l), .ty "str", _, _, true, rfl, .ty _, .base (.str _), kit_ty (by decide +kernel), true, rfl, iteT ?_⟩
      refine ⟨.str (T l), rfl, T l, rfl, by rw [T_len]; exact hl, _, 200, rfl, rfl, _, rfl, ?_⟩
      by_cases h : l.length ≤ 200
      · have e : decide (((T l).length : Int) ≤ 200) = true := decide_eq_true (by rw [T_len]; omega)
        rw [e]
        refine iteT ⟨.str (T l), rfl, T l, rfl, tab, fun H2 hT => ?_⟩
        have z := q H2 hT
        have e2 : isT (.str (T l)) = (T l).cps.toList.all az := by
          show (decide ((T l).length ≤ 200) && l.all az) = l.all az
          rw [T_len, decide_eq_true h, Bool.true_and]
        rw [e2] at z
        exact z
      · have e : decide (((T l).length : Int) ≤ 200) = false := decide_eq_false (by rw [T_len]; omega)
        rw [e]
        refine iteF ?_
        have z := q H ⟨tab, fun _ _ => rfl⟩
        have e2 : isT (.str (T l)) = false := by
          show (decide ((T l).length ≤ 200) && l.all az) = false
          rw [T_len, decide_eq_false h, Bool.false_and]
        rw [e2] at z
        exact z
end
end Mw
namespace Mw
open PySem PySem.Spec PyProof.Rows L2

/-! ### the same from behind -/
theorem scAlike : FnScope ["text"] ["text"] (defScope sAlike) := ⟨rfl, rfl, rfl, by decide +kernel, rfl, by decide +kernel, by decide +kernel⟩
section
variable {Pr : Program} {w : World} {K : PySem.W.Frag} {mg : Str → Option Value} {base : Heap}
theorem ok_alike {f : Addr} {fd : FuncData} (F : Fun K "reads_alike" "reads_alike" sAlike f fd) : FnOk Pr w K mg base CX0 1 f fd ["text"] spAlike := by
  refine F.ok scAlike (fun vs H Q E h => ?_) (fun cdv A outer s H vs Q E hr h => ?_)
  · obtain ⟨l, rfl, _⟩ := h
    rfl
  · obtain ⟨l, rfl, hl, q⟩ := h
    refine ⟨_, pss_one (ps_ret (pe_cmpR op_eq (pv 0) (pe_revS (pv 0)) (nomark _))), _, rfl, _, rfl, l, rfl, hl, rfl, ?_⟩
    rw [T_dec]
    exact q
end
end Mw
namespace Mw
open PySem PySem.Spec PyProof.Rows L2

/-! ### mirror words, and what is none is refused -/
theorem scMir : FnScope ["thing"] ["thing"] (defScope sMir) := ⟨rfl, rfl, rfl, by decide +kernel, rfl, by decide +kernel, by decide +kernel⟩
theorem scNoM : FnScope ["word"] ["word"] (defScope sNoM) := ⟨rfl, rfl, rfl, by decide +kernel, rfl, by decide +kernel, by decide +kernel⟩
section
variable {Pr : Program} {w : World} {K : PySem.W.Frag} {mg : Str → Option Value} {base : Heap} {P BW fI fA fM : Addr} {dI dA dM : FuncData}
theorem ok_mir {f : Addr} {fd : FuncData} (F : Fun K "is_mirror" "is_mirror" sMir f fd) (FI : Fn Pr w K mg base CX0 1 "is_text" fI dI ["thing"] (spIs K P)) (FA : Fn Pr w K mg base CX0 1 "reads_alike" fA dA ["text"] spAlike) (ml : mg "len" = none) :
    FnOk Pr w K mg base CX0 2 f fd ["thing"] (spMir K P) := by
  refine F.ok scMir (fun vs H Q E h => ?_) (fun cdv A outer s H vs Q E hr h => ?_)
  · obtain ⟨x, rfl, _⟩ := h
    rfl
  · obtain ⟨x, rfl, tab, th, q⟩ := h
    refine ⟨_, pss_one (ps_ret (pe_and (pe_call FI.ok hr (by rfl) FI.g FI.k FI.b .nil pass0 (pa_cons (pv 0) pa_nil)) (pe_and (pe_cmpR op_gt (pe_callB call_len_str (by rfl) ml PySem.boot_len (pa_cons (pv 0) pa_nil)) pe_int (nomark _))
      (pe_one (pe_call FA.ok hr (by rfl) FA.g FA.k FA.b .nil pass0 (pa_cons (pv 0) pa_nil)))))), ?_⟩
    refine ⟨x, rfl, x, rfl, tab, th, fun H1 hT => ⟨isT x, rfl, ?_⟩⟩
    have z := q H1 hT
    cases e : isT x with
    | false =>
      have e2 : isM x = false := by
        cases c : isM x with
        | false => rfl
        | true =>
          rw [isM_isT c] at e
          cases e
      rw [e2] at z
      exact iteF z
    | true =>
      cases th with
      | other _ _ no =>
        rw [no] at e
        cases e
      | text l hl =>
        rw [isM_T, e, Bool.true_and] at z
        refine iteT ⟨_, rfl, T l, rfl, by rw [T_len]; exact hl, _, 0, rfl, rfl, _, rfl, ?_⟩
        by_cases c : 0 < l.length
        · rw [decide_eq_true c, Bool.true_and] at z
          rw [decide_eq_true (show (0 : Int) < ((T l).length : Int) by rw [T_len]; omega)]
          exact iteT ⟨_, rfl, l, rfl, hl, z⟩
        · rw [decide_eq_false c, Bool.false_and] at z
          rw [decide_eq_false (show ¬ (0 : Int) < ((T l).length : Int) by rw [T_len]; omega)]
          exact iteF z
theorem ok_nom {f : Addr} {fd : FuncData} (F : Fun K "refuse_no_mirror" "refuse_no_mirror" sNoM f fd) (FM : Fn Pr w K mg base CX0 2 "is_mirror" fM dM ["thing"] (spMir K P)) (EB : ErrC K mg "BadWord" BW) :
    FnOk Pr w K mg base (L2.CX Pr w) 3 f fd ["word"] (spNoM K P BW) := by
  refine F.okX scNoM (fun vs H Q E h => ?_) (fun cdv A outer s H vs Q E hr h => ?_)
  · obtain ⟨x, rfl, _⟩ := h
    rfl
  · obtain ⟨x, rfl, tab, th, qE, q⟩ := h
    refine ⟨_, pss_one (ps_if (pt_not (pt_val (pe_call FM.ok hr (by rfl) FM.g FM.k FM.b .nil pass0 (pa_cons (pv 0) pa_nil))))
        (pss_one (ps_raise rfl (takes_of rfl rfl rfl rfl) (pmk_own PySem.F.excBase_ValueError EB.x EB.g EB.k (raises_own EB.b EB.t) (by rfl)))) pss_nil), ?_⟩
    refine ⟨_, rfl, x, rfl, tab, th, fun H1 hT => ⟨isM x, rfl, ?_⟩⟩
    cases e : isM x with
    | false => exact iteT (qE e H1 hT)
    | true => exact iteF (q e H1 hT)
end
end Mw
namespace Mw
open PySem PySem.Spec PyProof.Rows L2

/-! ### what is no text is refused -/
theorem scRNT : FnScope ["text"] ["text"] (defScope sRNT) := ⟨rfl, rfl, rfl, by decide +kernel, rfl, by decide +kernel, by decide +kernel⟩
section
variable {Pr : Program} {w : World} {K : PySem.W.Frag} {mg : Str → Option Value} {base : Heap} {P BT fI : Addr} {dI : FuncData}
theorem ok_rnt {f : Addr} {fd : FuncData} (F : Fun K "refuse_no_text" "refuse_no_text" sRNT f fd) (FI : Fn Pr w K mg base CX0 1 "is_text" fI dI ["thing"] (spIs K P)) (EB : ErrC K mg "BadText" BT) :
    FnOk Pr w K mg base (L2.CX Pr w) 2 f fd ["text"] (spNoT K P BT) := by
  refine F.okX scRNT (fun vs H Q E h => ?_) (fun cdv A outer s H vs Q E hr h => ?_)
  · obtain ⟨x, rfl, _⟩ := h
    rfl
  · obtain ⟨x, rfl, tab, th, qE, q⟩ := h
    refine ⟨_, pss_one (ps_if (pt_not (pt_val (pe_call FI.ok hr (by rfl) FI.g FI.k FI.b .nil pass0 (pa_cons (pv 0) pa_nil))))
        (pss_one (ps_raise rfl (takes_of rfl rfl rfl rfl) (pmk_own PySem.F.excBase_ValueError EB.x EB.g EB.k (raises_own EB.b EB.t) (by rfl)))) pss_nil), ?_⟩
    refine ⟨_, rfl, x, rfl, tab, th, fun H1 hT => ⟨isT x, rfl, ?_⟩⟩
    cases e : isT x with
    | false => exact iteT (qE e H1 hT)
    | true => exact iteF (q e H1 hT)
end
end Mw
namespace Mw
open PySem PySem.Spec PyProof.Rows L2

/-! ### whole numbers up to one -/
theorem scNumTo : FnScope ["thing", "most"] ["thing", "most"] (defScope sNumTo) := ⟨rfl, rfl, rfl, by decide +kernel, rfl, by decide +kernel, by decide +kernel⟩
section
variable {Pr : Program} {w : World} {K : PySem.W.Frag} {mg : Str → Option Value} {base : Heap}
theorem ok_numTo {f : Addr} {fd : FuncData} (F : Fun K "is_number_to" "is_number_to" sNumTo f fd) (mi : mg "isinstance" = none) (mI : mg "int" = none) (mB : mg "bool" = none) : FnOk Pr w K mg base CX0 1 f fd ["thing", "most"] (spNumTo K) := by
  refine F.ok scNumTo (fun vs H Q E h => ?_) (fun cdv A outer s H vs Q E hr h => ?_)
  · obtain ⟨x, m, rfl, _⟩ := h
    rfl
  · obtain ⟨x, m, rfl, th, q⟩ := h
    refine ⟨_, pss_one (ps_ret (pe_and (pe_callB call_isi (by rfl) mi boot_isinstance (pa_cons (pv 0) (pa_cons (pe_bltn (v := .ty "int") (by rfl) mI PyProof.Rows.boot_int rfl) pa_nil)))
      (pe_and (pe_not (pe_callB call_isi (by rfl) mi boot_isinstance (pa_cons (pv 0) (pa_cons (pe_bltn (v := .ty "bool") (by rfl) mB PyProof.Rows.boot_bool rfl) pa_nil))))
      (pe_one (pe_chain op_le op_le pe_int (pv 0) (pv 1)))))), ?_⟩
    cases th with
    | other t k no =>
      refine ⟨x, rfl, x, .ty "int", _, _, false, rfl, .ty _, t, kit_ty k, false, rfl, iteF ?_⟩
      rw [numTo_no no] at q
      exact q
    | bl b =>
      exact ⟨_, rfl, _, .ty "int", _, _, true, rfl, .ty _, .base (.bl b), kit_ty (by decide +kernel), true, rfl, iteT ⟨_, rfl, _, .ty "bool", _, _, true, rfl, .ty _, .base (.bl b), kit_ty (by decide +kernel), true, rfl, false, rfl, iteF q⟩⟩
    | int i =>
      refine ⟨_, rfl, _, .ty "int", _, _, true, rfl, .ty _, .base (.int i), kit_ty (by decide +kernel), true, rfl, iteT ⟨_, rfl, _, .ty "bool", _, _, false, rfl, .ty _, .base (.int i), kit_ty (by decide +kernel), false, rfl, true, rfl, iteT ?_⟩⟩
      refine ⟨_, rfl, 0, i, rfl, rfl, _, rfl, ?_⟩
      have q : Q (.bl (decide (0 ≤ i) && decide (i ≤ m))) H := q
      by_cases h : 0 ≤ i
      · rw [decide_eq_true h] at q ⊢
        exact iteT ⟨_, rfl, i, m, rfl, rfl, q⟩
      · rw [decide_eq_false h] at q ⊢
        exact iteF q
end
end Mw
namespace Mw
open PySem PySem.Spec PyProof.Rows L2

/-! ### the longest mirror word at an end -/
theorem scLAE : FnScope ["text", "start"] ["text"] (defScope sLAE) := ⟨rfl, rfl, rfl, by decide +kernel, rfl, by decide +kernel, by decide +kernel⟩
theorem scLAS : FnScope ["text"] ["text"] (defScope sLAS) := ⟨rfl, rfl, rfl, by decide +kernel, rfl, by decide +kernel, by decide +kernel⟩
theorem lps_step {l : List Nat} {i : Nat} (h : ¬ pal (l.drop i) = true) : i < l.length ∧ lps (l.drop (i + 1)) = lps (l.drop i) := by
  have hi : i < l.length := by
    by_cases c : i < l.length
    · exact c
    · rw [List.drop_eq_nil_of_le (by omega)] at h
      exact absurd pal_nil h
  refine ⟨hi, ?_⟩
  rw [List.drop_eq_getElem_cons hi] at h ⊢
  show _ = if pal _ = true then _ else _
  rw [if_neg h]
section
variable {Pr : Program} {w : World} {K : PySem.W.Frag} {mg : Str → Option Value} {base : Heap} {fA : Addr} {dA : FuncData}
theorem ok_lae {f : Addr} {fd : FuncData} (F : Fun K "longest_at_end" "longest_at_end" sLAE f fd) (FA : Fn Pr w K mg base CX0 1 "reads_alike" fA dA ["text"] spAlike) : FnOk Pr w K mg base CX0 2 f fd ["text"] spLpe := by
  refine F.ok scLAE (fun vs H Q E h => ?_) (fun cdv A outer s H vs Q E hr h => ?_)
  · obtain ⟨l, rfl, _⟩ := h
    rfl
  · obtain ⟨l, rfl, hl, q⟩ := h
    refine ⟨_, pss_cons (ps_set (i := 1) scLAE.nd rfl (.inl rfl) pe_int) <|
      pss_cons (ps_while PassesOwn.never (pt_not (pt_val (pe_call FA.ok hr (by rfl) FA.g FA.k FA.b .nil pass0 (pa_cons (pe_slice sl_str (pv 0) (po_some (pv 1)) po_none) pa_nil))))
        (pss_one (ps_aug (i := 1) scLAE.nd rfl (.inl rfl) (pe_int) ip_add))) <|
      pss_one (ps_ret (pe_slice sl_str (pv 0) (po_some (pv 1)) po_none)), ?_⟩
    refine ⟨fun n σ H' => H' = H ∧ ∃ k : Nat, σ = [some (.str (T l)), some (.int (k : Int))] ∧ k + n = l.length + 1 ∧ k ≤ l.length ∧ lps (l.drop k) = lps l, ⟨l.length + 1, rfl, 0, rfl, by omega, Nat.zero_le _, rfl⟩, fun n σ H' hW => ?_⟩
    obtain ⟨rfl, k, rfl, hn, hk, el⟩ := hW
    have hlT : (T l).length ≤ sizeLine := by
      rw [T_len]
      exact small200 hl
    refine ⟨_, rfl, _, rfl, _, rfl, T l, rfl, hlT, ?_⟩
    rw [cut_from]
    refine ⟨l.drop k, rfl, by rw [List.length_drop]; exact small200 (by omega), pal (l.drop k), rfl, ?_⟩
    cases c : pal (l.drop k) with
    | true =>
      refine iteF ⟨_, rfl, _, rfl, _, rfl, T l, rfl, hlT, ?_⟩
      rw [cut_from]
      have e : l.drop k = lps l := by rw [← el, lps_stop c]
      rw [e]
      exact q
    | false =>
      obtain ⟨h1, h2⟩ := lps_step (l := l) (i := k) (by rw [c]; exact Bool.false_ne_true)
      refine iteT ⟨fun σ' H2 => H2 = H' ∧ σ' = [some (.str (T l)), some (.int ((k + 1 : Nat) : Int))], fun σ' H2 hN => ?_, ?_⟩
      · obtain ⟨e1, e2⟩ := hN
        exact ⟨n - 1, by omega, e1, k + 1, e2, by omega, by omega, h2.trans el⟩
      · exact ⟨_, rfl, _, _, rfl, rfl, rfl, rfl⟩
theorem ok_las {f : Addr} {fd : FuncData} (F : Fun K "longest_at_start" "longest_at_start" sLAS f fd) (FE : Fn Pr w K mg base CX0 2 "longest_at_end" fA dA ["text"] spLpe) : FnOk Pr w K mg base CX0 3 f fd ["text"] spLps := by
  refine F.ok scLAS (fun vs H Q E h => ?_) (fun cdv A outer s H vs Q E hr h => ?_)
  · obtain ⟨l, rfl, _⟩ := h
    rfl
  · obtain ⟨l, rfl, hl, q⟩ := h
    refine ⟨_, pss_one (ps_ret (pe_call FE.ok hr (by rfl) FE.g FE.k FE.b .nil pass0 (pa_cons (pe_revS (pv 0)) pa_nil))), ?_⟩
    exact ⟨_, rfl, l, rfl, small200 hl, l.reverse, rfl, by rw [List.length_reverse]; exact hl, q⟩
end
end Mw
namespace Mw
open PySem PySem.Spec PyProof.Rows L2

/-! ### what a book refuses; a word, unless it stands in the text -/
theorem scUnless : FnScope ["text", "word"] ["text", "word"] (defScope sUnless) := ⟨rfl, rfl, rfl, by decide +kernel, rfl, by decide +kernel, by decide +kernel⟩
theorem scRPut : FnScope ["letter", "text"] ["letter", "text"] (defScope sRPut) := ⟨rfl, rfl, rfl, by decide +kernel, rfl, by decide +kernel, by decide +kernel⟩
theorem scRCut : FnScope ["text"] ["text"] (defScope sRCut) := ⟨rfl, rfl, rfl, by decide +kernel, rfl, by decide +kernel, by decide +kernel⟩
theorem scRNP : FnScope ["place", "text"] ["place", "text"] (defScope sRNP) := ⟨rfl, rfl, rfl, by decide +kernel, rfl, by decide +kernel, by decide +kernel⟩
section
variable {Pr : Program} {w : World} {K : PySem.W.Frag} {mg : Str → Option Value} {base : Heap} {P BL FU NP fI fN : Addr} {dI dN : FuncData}
theorem ok_unless {f : Addr} {fd : FuncData} (F : Fun K "unless_in" "unless_in" sUnless f fd) : FnOk Pr w K mg base CX0 1 f fd ["text", "word"] spUnless := by
  refine F.ok scUnless (fun vs H Q E h => ?_) (fun cdv A outer s H vs Q E hr h => ?_)
  · obtain ⟨l, m, rfl, _⟩ := h
    rfl
  · obtain ⟨l, m, rfl, q⟩ := h
    refine ⟨_, pss_cons (ps_if (pt_cmpR op_in_str (pv 1) (pv 0) rfl) (pss_one (ps_ret pe_non)) pss_nil) <| pss_one (ps_ret (pv 1)), ?_⟩
    refine ⟨_, rfl, _, rfl, T m, T l, rfl, rfl, hasW l m, rfl, ?_⟩
    unfold un at q
    cases c : hasW l m with
    | true =>
      rw [if_pos c] at q
      exact iteT q
    | false =>
      rw [if_neg (by rw [c]; exact Bool.false_ne_true)] at q
      exact iteF ⟨_, rfl, q⟩
theorem ok_rput {f : Addr} {fd : FuncData} {tm : Tok} (F : Fun K "refuse_put" "refuse_put" sRPut f fd) (FI : Fn Pr w K mg base CX0 1 "is_text" fI dI ["thing"] (spIs K P)) (EB : ErrC K mg "BadLetter" BL) (EF : ErrC K mg "Full" FU) (ml : mg "len" = none)
    (mm : mg "MOST" = some (.int 200 tm)) : FnOk Pr w K mg base (L2.CX Pr w) 2 f fd ["letter", "text"] (spRPut K P BL FU) := by
  refine F.okX scRPut (fun vs H Q E h => ?_) (fun cdv A outer s H vs Q E hr h => ?_)
  · obtain ⟨x, l, rfl, _⟩ := h
    rfl
  · obtain ⟨x, l, rfl, tab, th, hl, q1, q2, q3⟩ := h
    refine ⟨_, pss_cons (ps_if (pt_not (PW.pt (pw_and (pt_val (pe_call FI.ok hr (by rfl) FI.g FI.k FI.b .nil pass0 (pa_cons (pv 0) pa_nil))) (pw_and1 (pt_cmpR op_eq (pe_callB call_len_str (by rfl) ml PySem.boot_len (pa_cons (pv 0) pa_nil)) pe_int (nomark _))))))
        (pss_one (ps_raise rfl (takes_of rfl rfl rfl rfl) (pmk_own PySem.F.excBase_ValueError EB.x EB.g EB.k (raises_own EB.b EB.t) (by rfl)))) pss_nil) <|
      pss_one (ps_if (pt_cmpR op_eq (pe_callB call_len_str (by rfl) ml PySem.boot_len (pa_cons (pv 1) pa_nil)) (pe_glob (v := .int 200) (by rfl) mm ⟨_, rfl⟩) (nomark _))
        (pss_one (ps_raise rfl (takes_of rfl rfl rfl rfl) (pmk_own PySem.F.excBase_ValueError EF.x EF.g EF.k (raises_own EF.b EF.t) (by rfl)))) pss_nil), ?_⟩
    refine ⟨_, rfl, x, rfl, tab, th, fun H1 hT => ⟨isT x, rfl, ?_⟩⟩
    have sz : ∀ m : List Nat, ((T m).length : Int) = (m.length : Int) := fun m => by rw [T_len]
    cases th with
    | other _ _ no =>
      have e : isLt x = false := by
        cases c : isLt x with
        | false => rfl
        | true =>
          obtain ⟨d, rfl, hd⟩ := isLt_some c
          rw [isT_mk (l := [d]) (by show ([d].all az) = true; rw [List.all_cons, hd]; rfl) (show 1 ≤ 200 by decide)] at no
          cases no
      rw [no]
      exact iteF (iteT (q1 e H1 hT))
    | text m hm =>
      have el : isLt (.str (T m)) = (isT (.str (T m)) && decide (m.length = 1)) := by
        show (isT (.str (T m)) && decide ((T m).length = 1)) = _
        rw [T_len]
      cases c : isT (.str (T m)) with
      | false =>
        rw [c, Bool.false_and] at el
        exact iteF (iteT (q1 el H1 hT))
      | true =>
        rw [c, Bool.true_and] at el
        refine iteT ⟨_, rfl, T m, rfl, by rw [T_len]; exact hm, rfl, _, rfl, ?_⟩
        by_cases d : m.length = 1
        · rw [decide_eq_true d] at el
          rw [decide_eq_true (show V.int ((T m).length : Int) = V.int 1 by rw [T_len, d]; rfl)]
          refine iteF ?_
          refine ⟨_, rfl, T l, rfl, by rw [T_len]; exact small200 hl, rfl, _, rfl, ?_⟩
          by_cases g : l.length = 200
          · rw [decide_eq_true (show V.int ((T l).length : Int) = V.int 200 by rw [T_len, g]; rfl)]
            exact iteT (q2 el g H1 hT)
          · rw [decide_eq_false (show ¬ V.int ((T l).length : Int) = V.int 200 by rw [T_len]; intro z; have := V.int.inj z; omega)]
            exact iteF (q3 el (by omega) H1 hT)
        · rw [decide_eq_false d] at el
          rw [decide_eq_false (show ¬ V.int ((T m).length : Int) = V.int 1 by rw [T_len]; intro z; have := V.int.inj z; omega)]
          exact iteT (q1 el H1 hT)
theorem ok_rcut {f : Addr} {fd : FuncData} (F : Fun K "refuse_cut" "refuse_cut" sRCut f fd) (EN : ErrC K mg "NoPlace" NP) (ml : mg "len" = none) : FnOk Pr w K mg base (L2.CX Pr w) 1 f fd ["text"] (spRCut NP) := by
  refine F.okX scRCut (fun vs H Q E h => ?_) (fun cdv A outer s H vs Q E hr h => ?_)
  · obtain ⟨l, rfl, _⟩ := h
    rfl
  · obtain ⟨l, rfl, hl, q1, q2⟩ := h
    refine ⟨_, pss_one (ps_if (pt_cmpR op_eq (pe_callB call_len_str (by rfl) ml PySem.boot_len (pa_cons (pv 0) pa_nil)) pe_int (nomark _))
        (pss_one (ps_raise rfl (takes_of rfl rfl rfl rfl) (pmk_own PySem.F.excBase_ValueError EN.x EN.g EN.k (raises_own EN.b EN.t) (by rfl)))) pss_nil), ?_⟩
    refine ⟨_, rfl, T l, rfl, by rw [T_len]; exact small200 hl, rfl, _, rfl, ?_⟩
    by_cases c : l = []
    · rw [decide_eq_true (show V.int ((T l).length : Int) = V.int 0 by rw [c]; rfl)]
      exact iteT (q1 c)
    · have z : 0 < l.length := List.length_pos_iff.mpr c
      rw [decide_eq_false (show ¬ V.int ((T l).length : Int) = V.int 0 by rw [T_len]; intro z2; have := V.int.inj z2; omega)]
      exact iteF (q2 c)
theorem ok_rnp {f : Addr} {fd : FuncData} (F : Fun K "refuse_no_place" "refuse_no_place" sRNP f fd) (FN : Fn Pr w K mg base CX0 1 "is_number_to" fN dN ["thing", "most"] (spNumTo K)) (EN : ErrC K mg "NoPlace" NP) (ml : mg "len" = none) :
    FnOk Pr w K mg base (L2.CX Pr w) 2 f fd ["place", "text"] (spRNP K NP) := by
  refine F.okX scRNP (fun vs H Q E h => ?_) (fun cdv A outer s H vs Q E hr h => ?_)
  · obtain ⟨x, l, rfl, _⟩ := h
    rfl
  · obtain ⟨x, l, rfl, th, hl, q1, q2⟩ := h
    refine ⟨_, pss_one (ps_if (pt_not (pt_val (pe_call FN.ok hr (by rfl) FN.g FN.k FN.b .nil pass0 (pa_cons (pv 0) (pa_cons (pe_op op_sub (pe_callB call_len_str (by rfl) ml PySem.boot_len (pa_cons (pv 1) pa_nil)) pe_int) pa_nil)))))
        (pss_one (ps_raise rfl (takes_of rfl rfl rfl rfl) (pmk_own PySem.F.excBase_ValueError EN.x EN.g EN.k (raises_own EN.b EN.t) (by rfl)))) pss_nil), ?_⟩
    refine ⟨_, rfl, _, rfl, T l, rfl, by rw [T_len]; exact small200 hl, _, 1, rfl, rfl, x, _, rfl, th, ?_⟩
    rw [T_len]
    refine ⟨_, rfl, ?_⟩
    cases c : numTo x ((l.length : Int) - 1) with
    | false => exact iteT (q1 c)
    | true => exact iteF (q2 c)
end
end Mw
namespace Mw
open PySem PySem.Spec PyProof.Rows L2

/-! ### a book's deeds -/
theorem scBInit : FnScope ["self", "text"] ["self", "text"] (defScope sBInit) := ⟨rfl, rfl, rfl, by decide +kernel, rfl, by decide +kernel, by decide +kernel⟩
theorem scBPutLast : FnScope ["self", "letter", "before"] ["self", "letter"] (defScope sBPutLast) := ⟨rfl, rfl, rfl, by decide +kernel, rfl, by decide +kernel, by decide +kernel⟩
theorem scBCutLast : FnScope ["self", "word"] ["self"] (defScope sBCutLast) := ⟨rfl, rfl, rfl, by decide +kernel, rfl, by decide +kernel, by decide +kernel⟩
theorem scBWhole : FnScope ["self"] ["self"] (defScope sBWhole) := ⟨rfl, rfl, rfl, by decide +kernel, rfl, by decide +kernel, by decide +kernel⟩
section
variable {Pr : Program} {w : World} {K : PySem.W.Frag} {mg : Str → Option Value} {base : Heap} {P C BT BL FU NP fN fR fU fE : Addr} {dN dR dU dE : FuncData}
theorem ok_binit {f : Addr} {fd : FuncData} (F : FunD K "__init__" "Book.__init__" (defArgs sBInit) (defBody sBInit) (defScope sBInit) [.str (T [])] [] f fd) (B : BkC K mg C) (FN : Fn Pr w K mg base (L2.CX Pr w) 2 "refuse_no_text" fN dN ["text"] (spNoT K P BT)) :
    FnOk Pr w K mg base (L2.CX Pr w) 3 f fd ["self", "text"] (spBInit K P C BT) := by
  refine FunD.ok F scBInit (fun vs H Q E h => ?_) (fun cdv A outer s H vs Q E hr h => ?_)
  · obtain ⟨b, dx, x, rfl, _⟩ := h
    rfl
  · obtain ⟨b, dx, x, rfl, hb, tab, th, qE, q⟩ := h
    refine ⟨_, pss_cons (ps_expr (pe_call (E := E) FN.ok hr (by rfl) FN.g FN.k FN.b .nil (passes_call (takes_of rfl rfl rfl rfl) (fun _ _ _ _ h => h)) (pa_cons (pv 1) pa_nil))) <|
      pss_one (ps_fld (pv 0) (pv 1) rfl), ?_⟩
    refine ⟨_, rfl, x, rfl, tab, th, qE, fun e H1 hT => ?_⟩
    obtain ⟨l, rfl⟩ : ∃ l, x = .str (T l) := by
      cases th with
      | text l h => exact ⟨l, rfl⟩
      | other _ _ no =>
        rw [no] at e
        cases e
    have kp : Kp P H H1 := .tabbed hT
    have nb : b ≠ P := tab_ne tab hb nofun
    have hb1 := kp.keep _ _ nb hb
    refine ⟨_, rfl, _, rfl, b, C, dx, [], rfl, hb1, B.cl, B.nt, by decide, ?_⟩
    exact q l rfl (isT_le e) (isT_all e) _ ((KpB.of kp).put nb) ⟨⟨dx, upd_same⟩, isT_le e, isT_all e⟩
theorem ok_whole {f : Addr} {fd : FuncData} (F : Fun K "whole" "Book.whole" sBWhole f fd) (B : BkC K mg C) : FnOk Pr w K mg base CX0 1 f fd ["self"] (spWhole C) := by
  refine F.ok scBWhole (fun vs H Q E h => ?_) (fun cdv A outer s H vs Q E hr h => ?_)
  · obtain ⟨b, l, rfl, _⟩ := h
    rfl
  · obtain ⟨b, l, rfl, k, q⟩ := h
    obtain ⟨dx, hb⟩ := k.ob
    exact ⟨_, pss_one (ps_ret (pe_fld (pv 0) rfl)), _, rfl, b, C, dx, bf l, sV l, rfl, hb, B.cl, B.nt, bf_look l, q⟩
theorem ok_putLast {f : Addr} {fd : FuncData} (F : Fun K "put_last" "Book.put_last" sBPutLast f fd) (B : BkC K mg C) (FR : Fn Pr w K mg base (L2.CX Pr w) 2 "refuse_put" fR dR ["letter", "text"] (spRPut K P BL FU))
    (FU' : Fn Pr w K mg base CX0 1 "unless_in" fU dU ["text", "word"] spUnless) (FE : Fn Pr w K mg base CX0 2 "longest_at_end" fE dE ["text"] spLpe) :
    FnOk Pr w K mg base (L2.CX Pr w) 3 f fd ["self", "letter"] (spPut K P C BL FU (fun l c => l ++ [c]) lps) := by
  refine F.okX scBPutLast (fun vs H Q E h => ?_) (fun cdv A outer s H vs Q E hr h => ?_)
  · obtain ⟨b, x, l, rfl, _⟩ := h
    rfl
  · obtain ⟨b, x, l, rfl, k, tab, th, q1, q2, q3⟩ := h
    obtain ⟨dx, hb⟩ := k.ob
    refine ⟨_, pss_cons (ps_expr (pe_call (E := E) FR.ok hr (by rfl) FR.g FR.k FR.b .nil (passes_call (takes_of rfl rfl rfl rfl) (fun _ _ _ _ h => h)) (pa_cons (pv 1) (pa_cons (pe_fld (pv 0) rfl) pa_nil)))) <|
      pss_cons (ps_set (i := 2) scBPutLast.nd rfl (.inl rfl) (pe_fld (pv 0) rfl)) <|
      pss_cons (ps_fld (pv 0) (pe_op op_add_str (pv 2) (pv 1)) rfl) <|
      pss_one (ps_ret (pe_call FU'.ok (hr.mono (by decide)) (by rfl) FU'.g FU'.k FU'.b .nil pass0 (pa_cons (pv 2) (pa_cons (pe_call FE.ok hr (by rfl) FE.g FE.k FE.b .nil pass0 (pa_cons (pe_fld (pv 0) rfl) pa_nil)) pa_nil)))), ?_⟩
    refine ⟨_, rfl, _, rfl, b, C, dx, bf l, sV l, rfl, hb, B.cl, B.nt, bf_look l, x, l, rfl, tab, th, k.len, q1, q2, fun e hl H1 hT => ?_⟩
    obtain ⟨c, rfl, hc⟩ := isLt_some e
    have kp : Kp P H H1 := .tabbed hT
    have nb : b ≠ P := k.ne tab
    have hb1 := kp.keep _ _ nb hb
    refine ⟨_, rfl, b, C, dx, bf l, sV l, rfl, hb1, B.cl, B.nt, bf_look l, ?_⟩
    have hl1 : (l ++ [c]).length ≤ 200 := by
      rw [List.length_append]
      show l.length + 1 ≤ 200
      omega
    refine ⟨_, rfl, _, rfl, T l, T [c], rfl, rfl, ?_, _, rfl, b, C, dx, bf l, rfl, hb1, B.cl, B.nt, (show 1 < 1000 by decide), ?_⟩
    · rw [T_len, T_len]
      show l.length + 1 ≤ sizeLine
      exact small200 (by omega)
    have kb : BkAt C (upd H1 b (.ins C dx (bf (l ++ [c])))) b (l ++ [c]) := ⟨⟨dx, upd_same⟩, hl1, by rw [List.all_append, k.az]; show ([c].all az) = true; rw [List.all_cons, hc]; rfl⟩
    have hp : upd H1 b (.ins C dx (putF "_text" (V.str (T l ++ T [c])) (bf l))) = upd H1 b (.ins C dx (bf (l ++ [c]))) := by
      rw [T_app]
      exact congrArg (fun z => upd H1 b (HO.ins C dx z)) (bf_put l (l ++ [c]))
    rw [hp]
    refine ⟨_, rfl, _, rfl, b, C, dx, bf (l ++ [c]), sV (l ++ [c]), rfl, upd_same, B.cl, B.nt, bf_look _, l ++ [c], rfl, hl1, l, lps (l ++ [c]), rfl, ?_⟩
    exact q3 c rfl hc hl _ ((KpB.of kp).put nb) kb
theorem ok_cutLast {f : Addr} {fd : FuncData} (F : Fun K "cut_last" "Book.cut_last" sBCutLast f fd) (B : BkC K mg C) (FR : Fn Pr w K mg base (L2.CX Pr w) 1 "refuse_cut" fR dR ["text"] (spRCut NP))
    (FU' : Fn Pr w K mg base CX0 1 "unless_in" fU dU ["text", "word"] spUnless) (FE : Fn Pr w K mg base CX0 2 "longest_at_end" fE dE ["text"] spLpe) :
    FnOk Pr w K mg base (L2.CX Pr w) 3 f fd ["self"] (spCut C NP (fun l => l.dropLast) lps) := by
  refine F.okX scBCutLast (fun vs H Q E h => ?_) (fun cdv A outer s H vs Q E hr h => ?_)
  · obtain ⟨b, l, rfl, _⟩ := h
    rfl
  · obtain ⟨b, l, rfl, k, q1, q2⟩ := h
    obtain ⟨dx, hb⟩ := k.ob
    refine ⟨_, pss_cons (ps_expr (pe_call (E := E) FR.ok (hr.mono (by decide)) (by rfl) FR.g FR.k FR.b .nil (passes_call (takes_of rfl rfl rfl rfl) (fun _ _ _ _ h => h)) (pa_cons (pe_fld (pv 0) rfl) pa_nil))) <|
      pss_cons (ps_set (i := 1) scBCutLast.nd rfl (.inl rfl) (pe_call FE.ok hr (by rfl) FE.g FE.k FE.b .nil pass0 (pa_cons (pe_fld (pv 0) rfl) pa_nil))) <|
      pss_cons (ps_fld (pv 0) (pe_slice sl_str (pe_fld (pv 0) rfl) po_none (po_some (pe_un un_neg pe_int))) rfl) <|
      pss_one (ps_ret (pe_call FU'.ok (hr.mono (by decide)) (by rfl) FU'.g FU'.k FU'.b .nil pass0 (pa_cons (pe_fld (pv 0) rfl) (pa_cons (pv 1) pa_nil)))), ?_⟩
    refine ⟨_, rfl, b, C, dx, bf l, sV l, rfl, hb, B.cl, B.nt, bf_look l, l, rfl, k.len, q1, fun hne => ?_⟩
    refine ⟨_, rfl, b, C, dx, bf l, sV l, rfl, hb, B.cl, B.nt, bf_look l, l, rfl, k.len, ?_⟩
    refine ⟨_, rfl, b, C, dx, bf l, sV l, rfl, hb, B.cl, B.nt, bf_look l, 1, rfl, -1, rfl, T l, rfl, by rw [T_len]; exact small200 k.len, ?_⟩
    have ec : cutS (T l) none (some (-1)) = T l.dropLast := by
      have e : HT.sIx l.length l.length (some (-1)) = l.length - 1 := by
        show (if (-1 : Int) < 0 then ((-1 : Int) + (l.length : Int)).toNat else min (-1 : Int).toNat l.length) = l.length - 1
        rw [if_pos (by decide)]
        omega
      rw [cutS_T, HT.sIx_none, List.drop_zero, List.dropLast_eq_take, e, Nat.sub_zero]
    rw [ec]
    refine ⟨_, rfl, b, C, dx, bf l, rfl, hb, B.cl, B.nt, (show 1 < 1000 by decide), ?_⟩
    rw [show putF "_text" (V.str (T l.dropLast)) (bf l) = bf l.dropLast from bf_put l l.dropLast]
    have kb : BkAt C (upd H b (.ins C dx (bf l.dropLast))) b l.dropLast := ⟨⟨dx, upd_same⟩, by rw [List.length_dropLast]; exact Nat.le_trans (Nat.sub_le _ _) k.len, by rw [List.dropLast_eq_take]; exact all_take k.az _⟩
    refine ⟨_, rfl, b, C, dx, bf l.dropLast, sV l.dropLast, rfl, upd_same, B.cl, B.nt, bf_look _, _, rfl, l.dropLast, lps l, rfl, ?_⟩
    refine q2 hne _ (fun c o nc e => ?_) kb
    rw [upd_ne nc]
    exact e
end
end Mw
namespace Mw
open PySem PySem.Spec PyProof.Rows L2

/-! ### what a book tells -/
theorem scBEndsAt : FnScope ["self", "place"] ["self", "place"] (defScope sBEndsAt) := ⟨rfl, rfl, rfl, by decide +kernel, rfl, by decide +kernel, by decide +kernel⟩
theorem scBBeginsAt : FnScope ["self", "place"] ["self", "place"] (defScope sBBeginsAt) := ⟨rfl, rfl, rfl, by decide +kernel, rfl, by decide +kernel, by decide +kernel⟩
theorem scBWords : FnScope ["self", "found", "place"] ["self"] (defScope sBWords) := ⟨rfl, rfl, rfl, by decide +kernel, rfl, by decide +kernel, by decide +kernel⟩
theorem scBMany : FnScope ["self"] ["self"] (defScope sBMany) := ⟨rfl, rfl, rfl, by decide +kernel, rfl, by decide +kernel, by decide +kernel⟩
theorem scBCount : FnScope ["self", "word", "place"] ["self", "word"] (defScope sBCount) := ⟨rfl, rfl, rfl, by decide +kernel, rfl, by decide +kernel, by decide +kernel⟩
theorem scBLongest : FnScope ["self", "place"] ["self"] (defScope sBLongest) := ⟨rfl, rfl, rfl, by decide +kernel, rfl, by decide +kernel, by decide +kernel⟩
theorem numTo_some {x : V} {n : Nat} (h : numTo x ((n : Int) - 1) = true) : ∃ p : Nat, x = .int (p : Int) ∧ p < n := by
  cases x with
  | int i =>
    have h : (decide (0 ≤ i) && decide (i ≤ (n : Int) - 1)) = true := h
    obtain ⟨h1, h2⟩ := (Bool.and_eq_true _ _).mp h
    have h1 := of_decide_eq_true h1
    have h2 := of_decide_eq_true h2
    refine ⟨i.toNat, ?_, by omega⟩
    rw [Int.toNat_of_nonneg h1]
  | _ => exact absurd h Bool.false_ne_true
section
variable {Pr : Program} {w : World} {K : PySem.W.Frag} {mg : Str → Option Value} {base : Heap} {P C NP BW fR fE fS fW fN : Addr} {dR dE dS dW dN : FuncData}
theorem ok_endsAt {f : Addr} {fd : FuncData} (F : Fun K "ends_at" "Book.ends_at" sBEndsAt f fd) (B : BkC K mg C) (FR : Fn Pr w K mg base (L2.CX Pr w) 2 "refuse_no_place" fR dR ["place", "text"] (spRNP K NP))
    (FE : Fn Pr w K mg base CX0 2 "longest_at_end" fE dE ["text"] spLpe) : FnOk Pr w K mg base (L2.CX Pr w) 3 f fd ["self", "place"] (spEndsAt K C NP fEnd) := by
  refine F.okX scBEndsAt (fun vs H Q E h => ?_) (fun cdv A outer s H vs Q E hr h => ?_)
  · obtain ⟨b, x, l, rfl, _⟩ := h
    rfl
  · obtain ⟨b, x, l, rfl, k, th, q1, q2⟩ := h
    obtain ⟨dx, hb⟩ := k.ob
    refine ⟨_, pss_cons (ps_expr (pe_call (E := E) FR.ok hr (by rfl) FR.g FR.k FR.b .nil (passes_call (takes_of rfl rfl rfl rfl) (fun _ _ _ _ h => h)) (pa_cons (pv 1) (pa_cons (pe_fld (pv 0) rfl) pa_nil)))) <|
      pss_one (ps_ret (pe_call FE.ok hr (by rfl) FE.g FE.k FE.b .nil pass0 (pa_cons (pe_slice sl_str (pe_fld (pv 0) rfl) po_none (po_some (pe_op op_add (pv 1) pe_int))) pa_nil))), ?_⟩
    refine ⟨_, rfl, _, rfl, b, C, dx, bf l, sV l, rfl, hb, B.cl, B.nt, bf_look l, x, l, rfl, th, k.len, q1, fun e => ?_⟩
    obtain ⟨p, rfl, hp⟩ := numTo_some e
    refine ⟨_, rfl, b, C, dx, bf l, sV l, rfl, hb, B.cl, B.nt, bf_look l, _, rfl, _, _, rfl, rfl, _, rfl, T l, rfl, by rw [T_len]; exact small200 k.len, ?_⟩
    have ec : cutS (T l) none (some ((p : Int) + 1)) = T (l.take (p + 1)) := cut_to l (p + 1)
    rw [ec]
    exact ⟨l.take (p + 1), rfl, Nat.le_trans (List.length_take_le _ _) (by have := k.len; omega), q2 p rfl hp⟩
theorem ok_beginsAt {f : Addr} {fd : FuncData} (F : Fun K "begins_at" "Book.begins_at" sBBeginsAt f fd) (B : BkC K mg C) (FR : Fn Pr w K mg base (L2.CX Pr w) 2 "refuse_no_place" fR dR ["place", "text"] (spRNP K NP))
    (FS : Fn Pr w K mg base CX0 3 "longest_at_start" fS dS ["text"] spLps) : FnOk Pr w K mg base (L2.CX Pr w) 4 f fd ["self", "place"] (spEndsAt K C NP bgn) := by
  refine F.okX scBBeginsAt (fun vs H Q E h => ?_) (fun cdv A outer s H vs Q E hr h => ?_)
  · obtain ⟨b, x, l, rfl, _⟩ := h
    rfl
  · obtain ⟨b, x, l, rfl, k, th, q1, q2⟩ := h
    obtain ⟨dx, hb⟩ := k.ob
    refine ⟨_, pss_cons (ps_expr (pe_call (E := E) FR.ok (hr.mono (by decide)) (by rfl) FR.g FR.k FR.b .nil (passes_call (takes_of rfl rfl rfl rfl) (fun _ _ _ _ h => h)) (pa_cons (pv 1) (pa_cons (pe_fld (pv 0) rfl) pa_nil)))) <|
      pss_one (ps_ret (pe_call FS.ok hr (by rfl) FS.g FS.k FS.b .nil pass0 (pa_cons (pe_slice sl_str (pe_fld (pv 0) rfl) (po_some (pv 1)) po_none) pa_nil))), ?_⟩
    refine ⟨_, rfl, _, rfl, b, C, dx, bf l, sV l, rfl, hb, B.cl, B.nt, bf_look l, x, l, rfl, th, k.len, q1, fun e => ?_⟩
    obtain ⟨p, rfl, hp⟩ := numTo_some e
    refine ⟨_, rfl, b, C, dx, bf l, sV l, rfl, hb, B.cl, B.nt, bf_look l, _, rfl, _, rfl, T l, rfl, by rw [T_len]; exact small200 k.len, ?_⟩
    rw [cut_from]
    exact ⟨l.drop p, rfl, Nat.le_trans (by rw [List.length_drop]; exact Nat.sub_le _ _) k.len, q2 p rfl hp⟩
theorem ok_words {f : Addr} {fd : FuncData} (F : Fun K "words" "Book.words" sBWords f fd) (B : BkC K mg C) (FE : Me Pr w K mg base (L2.CX Pr w) 3 C "ends_at" fE dE ["self", "place"] (spEndsAt K C NP fEnd))
    (ml : mg "len" = none) (mr : mg "range" = none) (ms : mg "sorted" = none) : FnOk Pr w K mg base CX0 4 f fd ["self"] (spWords C) := by
  refine F.ok scBWords (fun vs H Q E h => ?_) (fun cdv A outer s H vs Q E hr h => ?_)
  · obtain ⟨b, l, rfl, _⟩ := h
    rfl
  · obtain ⟨b, l, rfl, k, q⟩ := h
    obtain ⟨dx, hb⟩ := k.ob
    have hu := hr.units
    refine ⟨_, pss_cons (ps_set (i := 1) scBWords.nd rfl (.inl rfl) (pe_callB (cr_sortSetT rfl hu) (by rfl) ms (by decide +kernel) (pa_cons (pe_scT (own := [("place", 2)]) (g := gName 2) rfl scBWords.nd
          (pi_range1 (by rfl) mr (pa_cons (pe_callB call_len_str (by rfl) ml PySem.boot_len (pa_cons (pe_fld (pv 0) rfl) pa_nil)) pa_nil)) (blkOk_by (own := [("place", 2)]) (N := ["self", "found", "place"]) (sc := defScope sBWords) (by decide +kernel))
          (fun _ _ _ _ _ => pg_name (i := 2) scBWords.nd rfl (Or.inl rfl))
          (fun _ _ _ _ _ => pe_meth (pv 0) B.cl FE.m FE.ok hr FE.b .nil passL (pa_cons (pv 2) pa_nil))) pa_nil))) <|
      pss_one (ps_ret (pe_callRR (cr_sortLen hu) (by rfl) ms (by decide +kernel) (pa_cons (pv 1) pa_nil) (pkr_bf (by rfl) ml PySem.boot_len pkr_nil))), ?_⟩
    have el : ((T l).length : Int).toNat = l.length := by rw [T_len]; omega
    have lk := k.len
    refine ⟨_, rfl, b, C, dx, bf l, sV l, rfl, hb, B.cl, B.nt, bf_look l, T l, rfl, by rw [T_len]; exact small200 k.len, _, rfl, by rw [T_len]; omega, by rw [T_len]; omega, fun D hD => ?_⟩
    refine scT_range (lo := 0) (n := ((T l).length : Int).toNat) (fun i H' => Same H H' ∧ H' D = some (SetTO w D ((wdsN l i).map T))) ⟨same_upd hD, upd_same⟩ (fun i H' hi hW => ?_) (fun H' hW => ?_)
    · obtain ⟨sm, hd⟩ := hW
      rw [el] at hi
      refine ⟨rfl, ?_⟩
      refine ⟨_, rfl, b, dx, bf l, rfl, sm _ _ hb, bf_no l (by decide +kernel), _, rfl, b, .int (0 + (i : Int)), l, rfl, k.same sm, .int _, fun e => ?_, fun p ep hp => ?_⟩
      · have z : numTo (.int (0 + (i : Int))) ((l.length : Int) - 1) = true := by
          show (decide (0 ≤ 0 + (i : Int)) && decide (0 + (i : Int) ≤ (l.length : Int) - 1)) = true
          rw [decide_eq_true (by omega), decide_eq_true (by omega)]
          rfl
        rw [z] at e
        cases e
      · have ei : p = i := by
          have := V.int.inj ep
          omega
        subst ei
        have lw := wdsN_len l p
        refine ⟨T (fEnd l p), (wdsN l p).map T, rfl, hd, ?_, fun c u e => ?_, ?_⟩
        · rw [List.length_map]
          exact Nat.lt_of_le_of_lt (show (wdsN l p).length + 1 ≤ 201 by omega) (by decide)
        · rw [upd_ne (ne_of_none e hD)]
          exact sm c u e
        · rw [upd_same]
          have eg : grow (T (fEnd l p)) ((wdsN l p).map T) = (wdsN l (p + 1)).map T := by
            show (if T (fEnd l p) ∈ (wdsN l p).map T then (wdsN l p).map T else T (fEnd l p) :: (wdsN l p).map T) = (if lps (l.take (p + 1)) ∈ wdsN l p then wdsN l p else lps (l.take (p + 1)) :: wdsN l p).map T
            by_cases c : lps (l.take (p + 1)) ∈ wdsN l p
            · have c2 : T (fEnd l p) ∈ (wdsN l p).map T := List.mem_map.mpr ⟨_, c, rfl⟩
              rw [if_pos c, if_pos c2]
            · rw [if_neg c, if_neg fun z => ?_]
              · rfl
              · obtain ⟨y, hy, ey⟩ := List.mem_map.mp z
                rw [T_inj ey] at hy
                exact c hy
          exact congrArg (fun z => some (SetTO w D z)) eg
    · obtain ⟨sm, hd⟩ := hW
      rw [el] at hd
      refine ⟨D, wdsN l l.length, rfl, hd, fun ts p pm pw hp => ?_⟩
      have s2 : Same H (upd H' p (.lst (ts.map sV))) := sm.trans (same_upd hp)
      have h2 : (upd H' p (.lst (ts.map sV))) p = some (.lst (ts.map sV)) := upd_same
      generalize upd H' p (.lst (ts.map sV)) = H2 at *
      refine ⟨_, rfl, p, ts, rfl, .inl (.inl h2), fun t ht => ?_, fun p2 hp2 => ?_⟩
      · exact small200 (Nat.le_trans (wdsN_size (Nat.le_refl _) (pm.mem_iff.mp ht)) k.len)
      · rw [sort_twice pw, sortW_perm pm]
        exact q _ p2 (s2.trans (same_upd hp2)) (s2.free hp2) upd_same
theorem ok_many {f : Addr} {fd : FuncData} (F : Fun K "many" "Book.many" sBMany f fd) (B : BkC K mg C) (FW : Me Pr w K mg base CX0 4 C "words" fW dW ["self"] (spWords C)) (ml : mg "len" = none) : FnOk Pr w K mg base CX0 5 f fd ["self"] (spMany C) := by
  refine F.ok scBMany (fun vs H Q E h => ?_) (fun cdv A outer s H vs Q E hr h => ?_)
  · obtain ⟨b, l, rfl, _⟩ := h
    rfl
  · obtain ⟨b, l, rfl, k, q⟩ := h
    obtain ⟨dx, hb⟩ := k.ob
    refine ⟨_, pss_one (ps_ret (pe_callB call_len_seq (by rfl) ml PySem.boot_len (pa_cons (pe_meth0 (pv 0) B.cl FW.m FW.ok hr FW.b .nil pass0) pa_nil))), ?_⟩
    refine ⟨_, rfl, b, dx, bf l, rfl, hb, bf_no l (by decide +kernel), b, l, rfl, k, fun H' p sm _ hp => ?_⟩
    refine ⟨p, _, rfl, .inl (.inl (.inl hp)), ?_⟩
    rw [List.length_map]
    exact q H' sm
theorem ok_count {f : Addr} {fd : FuncData} (F : Fun K "count" "Book.count" sBCount f fd) (B : BkC K mg C) (FN : Fn Pr w K mg base (L2.CX Pr w) 3 "refuse_no_mirror" fN dN ["word"] (spNoM K P BW)) (ml : mg "len" = none) (mr : mg "range" = none) :
    FnOk Pr w K mg base (L2.CX Pr w) 4 f fd ["self", "word"] (spCount K P C BW) := by
  refine F.okX scBCount (fun vs H Q E h => ?_) (fun cdv A outer s H vs Q E hr h => ?_)
  · obtain ⟨b, x, l, rfl, _⟩ := h
    rfl
  · obtain ⟨b, x, l, rfl, k, tab, th, qE, q⟩ := h
    obtain ⟨dx, hb⟩ := k.ob
    refine ⟨_, pss_cons (ps_expr (pe_call (E := E) FN.ok hr (by rfl) FN.g FN.k FN.b .nil (passes_call (takes_of rfl rfl rfl rfl) (fun _ _ _ _ h => h)) (pa_cons (pv 1) pa_nil))) <|
      pss_one (ps_ret (pe_callB call_len_seq (by rfl) ml PySem.boot_len (pa_cons (pe_lc (own := [("place", 2)]) (g := gName 2) rfl scBCount.nd
          (pi_range1 (by rfl) mr (pa_cons (pe_callB call_len_str (by rfl) ml PySem.boot_len (pa_cons (pe_fld (pv 0) rfl) pa_nil)) pa_nil)) (blkOk_by (own := [("place", 2)]) (N := ["self", "word", "place"]) (sc := defScope sBCount) (by decide +kernel))
          (fun _ _ _ _ _ => pg_name (i := 2) scBCount.nd rfl (Or.inl rfl))
          (fun _ _ _ _ _ => pts_one (pt_cmpR op_eq (pe_slice sl_str (show PE _ _ (tFld K (tVar 0) "_text") from pe_fld (pv 0) rfl) (po_some (pv 2)) (po_some (pe_op op_add (pv 2) (pe_callB call_len_str (by rfl) ml PySem.boot_len (pa_cons (pv 1) pa_nil))))) (pv 1) (nomark _)))
          (fun _ _ _ _ _ => pv 2)) pa_nil))), ?_⟩
    refine ⟨_, rfl, x, rfl, tab, th, qE, fun e H1 hT => ?_⟩
    obtain ⟨m, rfl, hm, _⟩ := isM_some e
    have kp : Kp P H H1 := .tabbed hT
    have k1 := k.kp tab kp
    have hb1 := kp.keep _ _ (k.ne tab) hb
    have el : ((T l).length : Int).toNat = l.length := by rw [T_len]; omega
    have lk := k.len
    refine ⟨_, rfl, b, C, dx, bf l, sV l, rfl, hb1, B.cl, B.nt, bf_look l, T l, rfl, by rw [T_len]; exact small200 k.len, _, rfl, by rw [T_len]; omega, by rw [T_len]; omega, fun D hD => ?_⟩
    have hDP : D ≠ P := new_ne kp.tab hD
    have H0 : H D = none := kp.free tab hD
    refine lc_range (lo := 0) (n := ((T l).length : Int).toNat) (fun i H' => Kp P H H' ∧ Same H1 H' ∧ ∃ ys, ys.length = occN l m i ∧ H' D = some (.lst ys)) ⟨kp.step hD, same_upd hD, [], rfl, upd_same⟩ (fun i H' hi hW => ?_) (fun H' hW => ?_)
    · obtain ⟨kp2, sm, ys, hys, hd⟩ := hW
      rw [el] at hi
      refine ⟨rfl, _, rfl, b, C, dx, bf l, sV l, rfl, sm _ _ hb1, B.cl, B.nt, bf_look l, _, rfl, _, rfl, _, rfl, _, rfl, T m, rfl, by rw [T_len]; exact small200 hm, _, _, rfl, rfl, _, rfl, T l, rfl, by rw [T_len]; exact small200 k.len, _, rfl, rfl, ?_⟩
      rw [Int.zero_add, T_len, cut_win, T_dec]
      refine ⟨_, rfl, ?_⟩
      have es := occN_succ l m i
      have lo : occN l m i ≤ i := by
        unfold occN
        exact Nat.le_trans (List.length_filter_le _ _) (by rw [List.length_range]; exact Nat.le_refl _)
      by_cases c : (l.drop i).take m.length = m
      · rw [if_pos c] at es
        rw [decide_eq_true c]
        refine iteT ⟨_, rfl, ys, hd, ?_, ?_⟩
        · rw [hys]
          exact small1000 (by omega)
        · refine ⟨kp2.own H0 hDP, fun c u z => ?_, ys ++ [V.int (i : Int)], ?_, upd_same⟩
          · rw [upd_ne (ne_of_none z hD)]
            exact sm c u z
          · rw [List.length_append, hys, es]
            rfl
      · rw [if_neg c] at es
        rw [decide_eq_false c]
        exact iteF ⟨kp2, sm, ys, hys.trans es.symm, hd⟩
    · obtain ⟨kp2, sm, ys, hys, hd⟩ := hW
      rw [el] at hys
      refine ⟨D, ys, rfl, .inl (.inl (.inl hd)), ?_⟩
      rw [hys]
      exact q e m rfl H' kp2
theorem ok_longest {f : Addr} {fd : FuncData} (F : Fun K "longest" "Book.longest" sBLongest f fd) (B : BkC K mg C) (FS : Me Pr w K mg base (L2.CX Pr w) 4 C "begins_at" fS dS ["self", "place"] (spEndsAt K C NP bgn))
    (ml : mg "len" = none) (mr : mg "range" = none) (mx : mg "max" = none) : FnOk Pr w K mg base CX0 5 f fd ["self"] (spLong C) := by
  refine F.ok scBLongest (fun vs H Q E h => ?_) (fun cdv A outer s H vs Q E hr h => ?_)
  · obtain ⟨b, l, rfl, _⟩ := h
    rfl
  · obtain ⟨b, l, rfl, k, q⟩ := h
    obtain ⟨dx, hb⟩ := k.ob
    refine ⟨_, pss_one (ps_ret (pe_callRR (cr_maxLen (d := .str (Str.ofString "")) rfl) (by rfl) mx (by decide +kernel) (pa_cons (pe_lc (own := [("place", 1)]) (g := gName 1) (tt := tYes) rfl scBLongest.nd
          (pi_range1 (by rfl) mr (pa_cons (pe_callB call_len_str (by rfl) ml PySem.boot_len (pa_cons (pe_fld (pv 0) rfl) pa_nil)) pa_nil)) (blkOk_by (own := [("place", 1)]) (N := ["self", "place"]) (sc := defScope sBLongest) (by decide +kernel))
          (fun _ _ _ _ _ => pg_name (i := 1) scBLongest.nd rfl (Or.inl rfl)) (fun _ _ _ _ _ => pts_nil)
          (fun _ _ _ _ _ => pe_meth (pv 0) B.cl FS.m FS.ok hr FS.b .nil passL (pa_cons (pv 1) pa_nil))) pa_nil) (pkr_bf (by rfl) ml PySem.boot_len (pkr_v pe_str pkr_nil)))), ?_⟩
    have el : ((T l).length : Int).toNat = l.length := by rw [T_len]; omega
    have lk := k.len
    refine ⟨_, rfl, b, C, dx, bf l, sV l, rfl, hb, B.cl, B.nt, bf_look l, T l, rfl, by rw [T_len]; exact small200 k.len, _, rfl, by rw [T_len]; omega, by rw [T_len]; omega, fun D hD => ?_⟩
    refine lc_range (lo := 0) (n := ((T l).length : Int).toNat) (fun i H' => Same H H' ∧ H' D = some (.lst (((List.range i).map (bgn l)).map sV))) ⟨same_upd hD, upd_same⟩ (fun i H' hi hW => ?_) (fun H' hW => ?_)
    · obtain ⟨sm, hd⟩ := hW
      rw [el] at hi
      refine ⟨rfl, ?_⟩
      refine ⟨_, rfl, b, dx, bf l, rfl, sm _ _ hb, bf_no l (by decide +kernel), _, rfl, b, .int (0 + (i : Int)), l, rfl, k.same sm, .int _, fun e => ?_, fun p ep hp => ?_⟩
      · have z : numTo (.int (0 + (i : Int))) ((l.length : Int) - 1) = true := by
          show (decide (0 ≤ 0 + (i : Int)) && decide (0 + (i : Int) ≤ (l.length : Int) - 1)) = true
          rw [decide_eq_true (by omega), decide_eq_true (by omega)]
          rfl
        rw [z] at e
        cases e
      · have ei : p = i := by
          have := V.int.inj ep
          omega
        subst ei
        refine ⟨_, hd, ?_, fun c u e => ?_, ?_⟩
        · rw [List.length_map, List.length_map, List.length_range]
          exact small1000 (by omega)
        · rw [upd_ne (ne_of_none e hD)]
          exact sm c u e
        · rw [upd_same, List.range_succ, List.map_append, List.map_append]
          rfl
    · obtain ⟨sm, hd⟩ := hW
      rw [el] at hd
      have at_ : ∀ {j : Nat} {y : List Nat}, ((List.range l.length).map (bgn l))[j]? = some y → j < l.length ∧ y = bgn l j := fun {j y} e => by
        rw [List.getElem?_map] at e
        by_cases c : j < l.length
        · rw [List.getElem?_range c] at e
          exact ⟨c, (Option.some.inj e).symm⟩
        · rw [List.getElem?_eq_none (by rw [List.length_range]; omega)] at e
          cases e
      have mem : ∀ j, j < l.length → bgn l j ∈ (List.range l.length).map (bgn l) := fun j hj => List.mem_map.mpr ⟨j, List.mem_range.mpr hj, rfl⟩
      refine ⟨D, (List.range l.length).map (bgn l), rfl, .inl (.inl hd), fun t ht => ?_, fun e => ?_, fun j y ej hy hb2 => ?_⟩
      · obtain ⟨j, hj, rfl⟩ := List.mem_map.mp ht
        refine small200 ?_
        have z := (bgn_pre l j).length_le
        rw [List.length_drop] at z
        omega
      · have e0 : l = [] := by
          have z := congrArg List.length e
          rw [List.length_map, List.length_range] at z
          exact List.eq_nil_of_length_eq_zero z
        exact q H' [] sm (.inl ⟨e0, rfl⟩)
      · obtain ⟨hj, rfl⟩ := at_ ej
        refine q H' _ sm (.inr ⟨j, hj, rfl, fun i hi => hy _ (mem i hi), fun i hi => hb2 i _ hi ?_⟩)
        rw [List.getElem?_map, List.getElem?_range (by omega)]
        rfl
end
end Mw
namespace Mw
open PySem PySem.Spec PyProof.Rows L2

/-! ### a book's deeds at its first end -/
theorem scBPutFirst : FnScope ["self", "letter", "before"] ["self", "letter"] (defScope sBPutFirst) := ⟨rfl, rfl, rfl, by decide +kernel, rfl, by decide +kernel, by decide +kernel⟩
theorem scBCutFirst : FnScope ["self", "word"] ["self"] (defScope sBCutFirst) := ⟨rfl, rfl, rfl, by decide +kernel, rfl, by decide +kernel, by decide +kernel⟩
section
variable {Pr : Program} {w : World} {K : PySem.W.Frag} {mg : Str → Option Value} {base : Heap} {P C BL FU NP fR fU fE : Addr} {dR dU dE : FuncData}
theorem ok_putFirst {f : Addr} {fd : FuncData} (F : Fun K "put_first" "Book.put_first" sBPutFirst f fd) (B : BkC K mg C) (FR : Fn Pr w K mg base (L2.CX Pr w) 2 "refuse_put" fR dR ["letter", "text"] (spRPut K P BL FU))
    (FU' : Fn Pr w K mg base CX0 1 "unless_in" fU dU ["text", "word"] spUnless) (FE : Fn Pr w K mg base CX0 3 "longest_at_start" fE dE ["text"] spLps) :
    FnOk Pr w K mg base (L2.CX Pr w) 4 f fd ["self", "letter"] (spPut K P C BL FU (fun l c => c :: l) fun l => lps l.reverse) := by
  refine F.okX scBPutFirst (fun vs H Q E h => ?_) (fun cdv A outer s H vs Q E hr h => ?_)
  · obtain ⟨b, x, l, rfl, _⟩ := h
    rfl
  · obtain ⟨b, x, l, rfl, k, tab, th, q1, q2, q3⟩ := h
    obtain ⟨dx, hb⟩ := k.ob
    refine ⟨_, pss_cons (ps_expr (pe_call (E := E) FR.ok (hr.mono (by decide)) (by rfl) FR.g FR.k FR.b .nil (passes_call (takes_of rfl rfl rfl rfl) (fun _ _ _ _ h => h)) (pa_cons (pv 1) (pa_cons (pe_fld (pv 0) rfl) pa_nil)))) <|
      pss_cons (ps_set (i := 2) scBPutFirst.nd rfl (.inl rfl) (pe_fld (pv 0) rfl)) <|
      pss_cons (ps_fld (pv 0) (pe_op op_add_str (pv 1) (pv 2)) rfl) <|
      pss_one (ps_ret (pe_call FU'.ok (hr.mono (by decide)) (by rfl) FU'.g FU'.k FU'.b .nil pass0 (pa_cons (pv 2) (pa_cons (pe_call FE.ok hr (by rfl) FE.g FE.k FE.b .nil pass0 (pa_cons (pe_fld (pv 0) rfl) pa_nil)) pa_nil)))), ?_⟩
    refine ⟨_, rfl, _, rfl, b, C, dx, bf l, sV l, rfl, hb, B.cl, B.nt, bf_look l, x, l, rfl, tab, th, k.len, q1, q2, fun e hl H1 hT => ?_⟩
    obtain ⟨c, rfl, hc⟩ := isLt_some e
    have kp : Kp P H H1 := .tabbed hT
    have nb : b ≠ P := k.ne tab
    have hb1 := kp.keep _ _ nb hb
    refine ⟨_, rfl, b, C, dx, bf l, sV l, rfl, hb1, B.cl, B.nt, bf_look l, ?_⟩
    have hl1 : (c :: l).length ≤ 200 := by
      show l.length + 1 ≤ 200
      omega
    refine ⟨_, rfl, _, rfl, T [c], T l, rfl, rfl, ?_, _, rfl, b, C, dx, bf l, rfl, hb1, B.cl, B.nt, (show 1 < 1000 by decide), ?_⟩
    · rw [T_len, T_len]
      show 1 + l.length ≤ sizeLine
      exact small200 (by omega)
    have kb : BkAt C (upd H1 b (.ins C dx (bf (c :: l)))) b (c :: l) := ⟨⟨dx, upd_same⟩, hl1, by rw [List.all_cons, hc, k.az]; rfl⟩
    have hp : upd H1 b (.ins C dx (putF "_text" (V.str (T [c] ++ T l)) (bf l))) = upd H1 b (.ins C dx (bf (c :: l))) := by
      rw [T_app]
      exact congrArg (fun z => upd H1 b (HO.ins C dx z)) (bf_put l (c :: l))
    rw [hp]
    refine ⟨_, rfl, _, rfl, b, C, dx, bf (c :: l), sV (c :: l), rfl, upd_same, B.cl, B.nt, bf_look _, c :: l, rfl, hl1, l, lps (c :: l).reverse, rfl, ?_⟩
    exact q3 c rfl hc hl _ ((KpB.of kp).put nb) kb
theorem ok_cutFirst {f : Addr} {fd : FuncData} (F : Fun K "cut_first" "Book.cut_first" sBCutFirst f fd) (B : BkC K mg C) (FR : Fn Pr w K mg base (L2.CX Pr w) 1 "refuse_cut" fR dR ["text"] (spRCut NP))
    (FU' : Fn Pr w K mg base CX0 1 "unless_in" fU dU ["text", "word"] spUnless) (FE : Fn Pr w K mg base CX0 3 "longest_at_start" fE dE ["text"] spLps) :
    FnOk Pr w K mg base (L2.CX Pr w) 4 f fd ["self"] (spCut C NP (fun l => l.drop 1) fun l => lps l.reverse) := by
  refine F.okX scBCutFirst (fun vs H Q E h => ?_) (fun cdv A outer s H vs Q E hr h => ?_)
  · obtain ⟨b, l, rfl, _⟩ := h
    rfl
  · obtain ⟨b, l, rfl, k, q1, q2⟩ := h
    obtain ⟨dx, hb⟩ := k.ob
    refine ⟨_, pss_cons (ps_expr (pe_call (E := E) FR.ok (hr.mono (by decide)) (by rfl) FR.g FR.k FR.b .nil (passes_call (takes_of rfl rfl rfl rfl) (fun _ _ _ _ h => h)) (pa_cons (pe_fld (pv 0) rfl) pa_nil))) <|
      pss_cons (ps_set (i := 1) scBCutFirst.nd rfl (.inl rfl) (pe_call FE.ok hr (by rfl) FE.g FE.k FE.b .nil pass0 (pa_cons (pe_fld (pv 0) rfl) pa_nil))) <|
      pss_cons (ps_fld (pv 0) (pe_slice sl_str (pe_fld (pv 0) rfl) (po_some pe_int) po_none) rfl) <|
      pss_one (ps_ret (pe_call FU'.ok (hr.mono (by decide)) (by rfl) FU'.g FU'.k FU'.b .nil pass0 (pa_cons (pe_fld (pv 0) rfl) (pa_cons (pv 1) pa_nil)))), ?_⟩
    refine ⟨_, rfl, b, C, dx, bf l, sV l, rfl, hb, B.cl, B.nt, bf_look l, l, rfl, k.len, q1, fun hne => ?_⟩
    refine ⟨_, rfl, b, C, dx, bf l, sV l, rfl, hb, B.cl, B.nt, bf_look l, l, rfl, k.len, ?_⟩
    refine ⟨_, rfl, b, C, dx, bf l, sV l, rfl, hb, B.cl, B.nt, bf_look l, 1, rfl, T l, rfl, by rw [T_len]; exact small200 k.len, ?_⟩
    have ec : cutS (T l) (some 1) none = T (l.drop 1) := cut_from l 1
    rw [ec]
    refine ⟨_, rfl, b, C, dx, bf l, rfl, hb, B.cl, B.nt, (show 1 < 1000 by decide), ?_⟩
    rw [show putF "_text" (V.str (T (l.drop 1))) (bf l) = bf (l.drop 1) from bf_put l (l.drop 1)]
    have kb : BkAt C (upd H b (.ins C dx (bf (l.drop 1)))) b (l.drop 1) := ⟨⟨dx, upd_same⟩, by rw [List.length_drop]; exact Nat.le_trans (Nat.sub_le _ _) k.len, all_drop k.az 1⟩
    refine ⟨_, rfl, b, C, dx, bf (l.drop 1), sV (l.drop 1), rfl, upd_same, B.cl, B.nt, bf_look _, _, rfl, (l.drop 1), lps l.reverse, rfl, ?_⟩
    refine q2 hne _ (fun c o nc e => ?_) kb
    rw [upd_ne nc]
    exact e
end
end Mw
namespace Mw
open PySem PySem.Spec PyProof.Rows L2

/-! ### a cell of the script, or nought -/
theorem scDraw : FnScope ["_law_script", "_law_k"] ["_law_script", "_law_k"] (defScope sDraw) := ⟨rfl, rfl, rfl, by decide +kernel, rfl, by decide +kernel, by decide +kernel⟩
section
variable {Pr : Program} {w : World} {K : PySem.W.Frag} {mg : Str → Option Value} {base : Heap}
theorem ok_draw {f : Addr} {fd : FuncData} (F : Fun K "_law_draw" "_law_draw" sDraw f fd) (ml : mg "len" = none) : FnOk Pr w K mg base CX0 1 f fd ["_law_script", "_law_k"] (spDraw K) := by
  refine F.ok scDraw (fun vs H Q E h => ?_) (fun cdv A outer s H vs Q E hr h => ?_)
  · obtain ⟨a, ns, k, rfl, _⟩ := h
    rfl
  · obtain ⟨a, ns, k, rfl, hS, q⟩ := h
    refine ⟨_, pss_one (ps_ret (pe_ifExp (pt_cmpR op_gt (pe_callB call_len_seq (by rfl) ml PySem.boot_len (pa_cons (pv 0) pa_nil)) (pv 1) (nomark _)) (pe_ix ix_list (pv 0) (pv 1) (fun _ _ => rfl)) pe_int)), ?_⟩
    refine ⟨.ref a, rfl, a, _, rfl, .inl hS, _, rfl, _, _, rfl, rfl, _, rfl, ?_⟩
    by_cases h : k < ns.length
    · rw [decide_eq_true (show (k : Int) < ((ns.map V.int).length : Int) by rw [List.length_map]; omega)]
      refine iteT ⟨_, rfl, _, rfl, a, _, _, .int (ns.getD k 0), rfl, rfl, hS, atI_nat ?_, q⟩
      rw [List.getElem?_map, List.getElem?_eq_getElem h, List.getD_eq_getElem?_getD, List.getElem?_eq_getElem h]
      rfl
    · rw [decide_eq_false (show ¬ (k : Int) < ((ns.map V.int).length : Int) by rw [List.length_map]; omega)]
      refine iteF ?_
      rw [List.getD_eq_getElem?_getD, List.getElem?_eq_none (by omega)] at q
      exact q
end

/-! ### the drawn text -/
abbrev nText : List Str := ["_law_script", "_law_first", "_law_most", "_law_way", "_law_many", "_law_letters", "_law_start", "_law_word", "_law_half", "_law_cell"]
theorem scText : FnScope nText ["_law_script", "_law_first", "_law_most"] (defScope sText) := ⟨rfl, rfl, rfl, by decide +kernel, rfl, by decide +kernel, by decide +kernel⟩
section
variable {Pr : Program} {w : World} {K : PySem.W.Frag} {mg : Str → Option Value} {base : Heap} {fD : Addr} {dD : FuncData}
theorem ok_text {f : Addr} {fd : FuncData} (F : Fun K "_law_text" "_law_text" sText f fd) (FD : Fn Pr w K mg base CX0 1 "_law_draw" fD dD ["_law_script", "_law_k"] (spDraw K)) (ml : mg "len" = none) :
    FnOk Pr w K mg base CX0 2 f fd ["_law_script", "_law_first", "_law_most"] (spText K) := by
  refine F.ok scText (fun vs H Q E h => ?_) (fun cdv A outer s H vs Q E hr h => ?_)
  · obtain ⟨a, ns, i, n, rfl, _⟩ := h
    rfl
  · obtain ⟨a, ns, i, n, rfl, hS, hn, q⟩ := h
    refine ⟨_, pss_cons (ps_set (i := 3) scText.nd rfl (.inl rfl) (pe_op op_modN (pe_call FD.ok hr (by rfl) FD.g FD.k FD.b .nil pass0 (pa_cons (pv 0) (pa_cons pe_int pa_nil))) pe_int)) <|
      pss_cons (ps_set (i := 4) scText.nd rfl (.inr rfl) (pe_ix ix_list (pe_lst (pa_cons pe_int (pa_cons pe_int (pa_cons pe_int (pa_cons pe_int (pa_cons pe_int (pa_cons pe_int pa_nil)))))))
          (pe_op op_modN (pe_op op_fdivN (pe_call FD.ok hr (by rfl) FD.g FD.k FD.b .nil pass0 (pa_cons (pv 0) (pa_cons pe_int pa_nil))) pe_int) pe_int) (fun _ _ => rfl))) <|
      pss_cons (ps_set (i := 5) scText.nd rfl (.inr rfl) pe_str) <|
      pss_cons (ps_set (i := 6) scText.nd rfl (.inr rfl) (pe_op op_modN (pe_op op_fdivN (pe_call FD.ok hr (by rfl) FD.g FD.k FD.b .nil pass0 (pa_cons (pv 0) (pa_cons pe_int pa_nil))) pe_int) pe_int)) <|
      pss_cons (ps_set (i := 7) scText.nd rfl (.inl rfl) (pe_join pe_str (pe_lc (own := [("_law_cell", 9)]) (g := gName 9) (tt := tYes) rfl scText.nd
          (pi_list (pe_slice sl_list (pv 0) (po_some (pv 1)) (po_some (pe_op op_add (pv 1) (pv 2))))) (blkOk_by (own := [("_law_cell", 9)]) (N := nText) (sc := defScope sText) (by decide +kernel))
          (fun _ _ _ _ _ => pg_name (i := 9) scText.nd rfl (Or.inl rfl)) (fun _ _ _ _ _ => pts_nil)
          (fun _ _ _ _ _ => pe_ix ix_str (pv 5) (pe_op op_modN (pe_op op_add (pv 6) (pe_op op_modN (pe_op op_fdivN (pv 9) pe_int) (pv 4))) pe_int) (fun _ _ => rfl))))) <|
      pss_cons (ps_set (i := 8) scText.nd rfl (.inl rfl) (pe_slice sl_str (pv 7) po_none (po_some (pe_op op_fdivN (pe_callB call_len_str (by rfl) ml PySem.boot_len (pa_cons (pv 7) pa_nil)) pe_int)))) <|
      pss_cons (ps_if (pt_cmpR op_eq (pv 3) pe_int (nomark _)) (pss_one (ps_ret (pe_op op_add_str (pv 8) (pv 8)))) pss_nil) <|
      pss_cons (ps_if (pt_cmpR op_eq (pv 3) pe_int (nomark _)) (pss_one (ps_ret (pe_op op_add_str (pv 8) (pe_revS (pv 8))))) pss_nil) <|
      pss_cons (ps_if (pt_cmpR op_eq (pv 3) pe_int (nomark _)) (pss_one (ps_ret (pe_op op_add_str (pe_op op_add_str (pv 8) (pe_slice sl_str (pv 7) (po_some (pe_callB call_len_str (by rfl) ml PySem.boot_len (pa_cons (pv 8) pa_nil)))
          (po_some (pe_op op_add (pe_callB call_len_str (by rfl) ml PySem.boot_len (pa_cons (pv 8) pa_nil)) pe_int)))) (pe_revS (pv 8))))) pss_nil) <|
      pss_cons (ps_if (pt_cmpR op_eq (pv 3) pe_int (nomark _)) (pss_one (ps_ret (pe_slice sl_str (pe_op op_repS (pe_slice sl_str (pv 7) po_none (po_some (pe_op op_add pe_int (pe_op op_fdivN (pe_callB call_len_str (by rfl) ml PySem.boot_len (pa_cons (pv 7) pa_nil)) pe_int)))) pe_int)
          po_none (po_some (pe_callB call_len_str (by rfl) ml PySem.boot_len (pa_cons (pv 7) pa_nil)))))) pss_nil) <|
      pss_one (ps_ret (pv 7)), ?_⟩
    -- way, many
    obtain ⟨j6, e6, h6⟩ := mod6 ((ns.getD 0 0).fdiv 6)
    obtain ⟨s26, es, hs26⟩ := mod26 ((ns.getD 0 0).fdiv 36)
    refine ⟨_, rfl, a, ns, 0, rfl, hS, _, 6, rfl, rfl, show (6 : Int) ≠ 0 by decide, ?_⟩
    refine ⟨by decide, fun p0 hp0 => ?_⟩
    have s0 : Same H (upd H p0 (.lst [.int 1, .int 2, .int 2, .int 3, .int 26, .int 2])) := same_upd hp0
    refine ⟨_, rfl, a, ns, 0, rfl, s0.seq hS, _, 6, rfl, rfl, ⟨by decide, by decide⟩, _, 6, rfl, rfl, show (6 : Int) ≠ 0 by decide, ?_⟩
    have hmany : ∃ mv : Int, atI ([.int 1, .int 2, .int 2, .int 3, .int 26, .int 2] : List V) (((ns.getD 0 0).fdiv 6).fmod 6) = some (.int mv) ∧ mv ≠ 0 := by
      rw [e6]
      match j6, h6 with
      | 0, _ => exact ⟨1, atI_nat rfl, by decide⟩
      | 1, _ => exact ⟨2, atI_nat rfl, by decide⟩
      | 2, _ => exact ⟨2, atI_nat rfl, by decide⟩
      | 3, _ => exact ⟨3, atI_nat rfl, by decide⟩
      | 4, _ => exact ⟨26, atI_nat rfl, by decide⟩
      | 5, _ => exact ⟨2, atI_nat rfl, by decide⟩
    obtain ⟨mv, hmv, hm0⟩ := hmany
    refine ⟨p0, _, _, .int mv, rfl, rfl, .inl (.inl upd_same), hmv, ?_⟩
    -- start
    refine ⟨_, rfl, a, ns, 0, rfl, s0.seq hS, _, 36, rfl, rfl, ⟨by decide, by decide⟩, _, 26, rfl, rfl, show (26 : Int) ≠ 0 by decide, ?_⟩
    -- word
    refine ⟨⟨_, rfl⟩, _, rfl, _, rfl, _, rfl, _, rfl, _, rfl, _, _, rfl, rfl, _, rfl, a, _, rfl, s0.seq hS, fun p1 hp1 => ?_⟩
    obtain ⟨ms, hms⟩ := cut_map ns (some (i : Int)) (some ((i : Int) + (n : Int)))
    have lms : ms.length ≤ n := by
      have z := cut_len (ns.map V.int) i n
      rw [hms, List.length_map] at z
      exact z
    have s1 : Same H (upd (upd H p0 (.lst [.int 1, .int 2, .int 2, .int 3, .int 26, .int 2])) p1 (.lst (ms.map V.int))) := s0.trans (same_upd hp1)
    rw [hms]
    refine ⟨p1, rfl, ⟨_, .inl (.inl upd_same)⟩, fun D hD => ?_⟩
    generalize hH1 : upd (upd H p0 (.lst [.int 1, .int 2, .int 2, .int 3, .int 26, .int 2])) p1 (.lst (ms.map V.int)) = H1 at *
    have q1 : H1 p1 = some (.lst (ms.map V.int)) := by
      rw [← hH1]
      exact upd_same
    have D1 : D ≠ p1 := (ne_of_none q1 hD).symm
    refine lc_list (K := K) (a := p1) (xs := ms.map V.int) (fun i H' => Same H H' ∧ H' p1 = some (.lst (ms.map V.int)) ∧ ∃ cs : List Nat, cs.length = i ∧ cs.all az = true ∧ H' D = some (.lst (cs.map fun c => V.str (T [c]))))
      ⟨s1.trans (same_upd hD), by rw [upd_ne D1.symm]; exact q1, [], rfl, rfl, upd_same⟩ (fun i H' _ hW => .inl (.inl hW.2.1)) (fun i x H' hx hW => ?_) (fun H' hW => ?_)
    · obtain ⟨sm, hp, cs, hcl, hca, hD'⟩ := hW
      obtain ⟨z, rfl⟩ : ∃ z, x = .int z := by
        rw [List.getElem?_map] at hx
        cases e : ms[i]? with
        | none =>
          rw [e] at hx
          cases hx
        | some z =>
          rw [e] at hx
          exact ⟨z, (Option.some.inj hx).symm⟩
      obtain ⟨jx, ejx, hjx⟩ := mod26 (((ns.getD 0 0).fdiv 36).fmod 26 + (z.fdiv 5).fmod mv)
      have hi : i < ms.length := by
        have := (List.getElem?_eq_some_iff.mp hx).1
        rw [List.length_map] at this
        exact this
      refine ⟨rfl, ?_⟩
      have at1 : atI (Str.ofString "abcdefghijklmnopqrstuvwxyz").cps.toList ((((ns.getD 0 0).fdiv 36).fmod 26 + (z.fdiv 5).fmod mv).fmod 26) = some (97 + jx) := by
        rw [ejx]
        exact abc_at hjx
      refine ⟨_, rfl, _, rfl, _, rfl, _, 5, rfl, rfl, ⟨by decide, by decide⟩, _, rfl, _, mv, rfl, rfl, hm0, _, _, rfl, rfl, _, 26, rfl, rfl, show (26 : Int) ≠ 0 by decide, _, _, 97 + jx, rfl, rfl, by decide, at1, ?_⟩
      have HD : H D = none := s1.free hD
      refine ⟨_, hD', by rw [List.length_map, hcl]; exact small1000 (by omega), fun b u e => ?_, ?_, cs ++ [97 + jx], ?_, ?_, ?_⟩
      · rw [upd_ne (ne_of_none e HD)]
        exact sm b u e
      · rw [upd_ne D1.symm]
        exact hp
      · rw [List.length_append, hcl]
        rfl
      · refine all_app hca ?_
        show (az (97 + jx) && true) = true
        unfold az
        rw [decide_eq_true (by omega), decide_eq_true (by omega)]
        rfl
      · rw [upd_same, List.map_append]
        rfl
    · obtain ⟨sm, hp, cs, hcl, hca, hD'⟩ := hW
      have lcs : cs.length ≤ n := by
        rw [hcl, List.length_map]
        exact lms
      have sq : SqL K H' D ((cs.map fun c => T [c]).map V.str) := by
        rw [List.map_map]
        exact .inl (.inl hD')
      refine ⟨_, D, _, rfl, rfl, .inl sq, ?_, ?_⟩
      · have e0 : ∀ l : List Nat, ((l.map fun c => T [c]).map (·.length)).sum = l.length := fun l => by
          induction l with
          | nil => rfl
          | cons c r ih =>
            show (T [c]).length + (((r.map fun c => T [c]).map (·.length)).sum) = r.length + 1
            rw [ih, T_len]
            show 1 + r.length = r.length + 1
            omega
        rw [e0, List.length_map]
        show cs.length + cs.length * 0 ≤ 16777216
        omega
      rw [join_signs]
      have hcz : cs.length ≤ sizeLine := Nat.le_of_lt (small1000 (by omega))
      -- half
      have hcT : (T cs).length ≤ sizeLine := by
        rw [T_len]
        exact hcz
      refine ⟨_, rfl, _, rfl, T cs, rfl, hcT, _, 2, rfl, rfl, ⟨by decide, by decide⟩, _, rfl, T cs, rfl, hcT, ?_⟩
      rw [T_len, half_of, cut_to]
      have hh : (cs.take (cs.length / 2)).length = cs.length / 2 := by
        rw [List.length_take]
        omega
      have ha := all_take hca (cs.length / 2)
      generalize cs.take (cs.length / 2) = hf at hh ha
      have hfT : (T hf).length ≤ sizeLine := by
        rw [T_len]
        omega
      have fits : ∀ a b : List Nat, a.length + b.length ≤ 300 → (T a).length + (T b).length ≤ sizeLine := fun a b h => by
        rw [T_len, T_len]
        exact Nat.le_of_lt (small1000 (by omega))
      -- way 1
      refine ⟨_, rfl, rfl, _, rfl, ite2 (fun _ => ?_) (fun _ => ?_)⟩
      · refine ⟨_, rfl, _, rfl, _, _, rfl, rfl, fits hf hf (by omega), ?_⟩
        have z := q H' (hf ++ hf) sm (all_app ha ha) (by rw [List.length_append]; omega)
        rw [← T_app] at z
        exact z
      -- way 2
      refine ⟨_, rfl, rfl, _, rfl, ite2 (fun _ => ?_) (fun _ => ?_)⟩
      · refine ⟨_, rfl, _, rfl, hf, rfl, by omega, _, _, rfl, rfl, fits hf hf.reverse (by rw [List.length_reverse]; omega), ?_⟩
        have z := q H' (hf ++ hf.reverse) sm (all_app ha (all_rev ha)) (by rw [List.length_append, List.length_reverse]; omega)
        rw [← T_app] at z
        exact z
      -- way 3
      refine ⟨_, rfl, rfl, _, rfl, ite2 (fun _ => ?_) (fun _ => ?_)⟩
      · obtain ⟨m1, em, ham, _⟩ := cutS_all hca (some ((T hf).length : Int)) (some (((T hf).length : Int) + 1))
        have lm : m1.length ≤ 1 := by
          have e := cutS_T cs (some ((T hf).length : Int)) (some (((T hf).length : Int) + 1))
          rw [em] at e
          have e1 := T_inj e
          have e2 : (((T hf).length : Int) + 1) = (((T hf).length + 1 : Nat) : Int) := by omega
          rw [e1, e2, HT.sIx_nat, HT.sIx_nat, List.length_take]
          omega
        refine ⟨_, rfl, _, rfl, _, rfl, T hf, rfl, hfT, _, rfl, _, rfl, T hf, rfl, hfT, _, 1, rfl, rfl, _, rfl, T cs, rfl, hcT, ?_⟩
        rw [em]
        refine ⟨_, _, rfl, rfl, fits hf m1 (by omega), _, rfl, hf, rfl, by omega, ?_⟩
        rw [T_app]
        refine ⟨_, _, rfl, rfl, fits (hf ++ m1) hf.reverse (by rw [List.length_append, List.length_reverse]; omega), ?_⟩
        have z := q H' (hf ++ m1 ++ hf.reverse) sm (all_app (all_app ha ham) (all_rev ha)) (by rw [List.length_append, List.length_append, List.length_reverse]; omega)
        rw [← T_app] at z
        exact z
      -- way 4
      refine ⟨_, rfl, rfl, _, rfl, ite2 (fun _ => ?_) (fun _ => ?_)⟩
      · obtain ⟨m1, em, ham, lm⟩ := cutS_all hca none (some (1 + ((T cs).length : Int).fdiv 5))
        refine ⟨_, rfl, _, rfl, T cs, rfl, hcT, _, 5, rfl, rfl, ⟨by decide, by decide⟩, 1, _, rfl, rfl, _, rfl, T cs, rfl, hcT, ?_⟩
        rw [em]
        have l5 : (List.replicate 5 m1).flatten.length = m1.length * 5 := by
          show (m1 ++ (m1 ++ (m1 ++ (m1 ++ (m1 ++ []))))).length = _
          simp only [List.length_append, List.length_nil]
          omega
        have s5 : (T (List.replicate 5 m1).flatten).length ≤ sizeLine := by
          rw [T_len, l5]
          exact Nat.le_of_lt (small1000 (by omega))
        refine ⟨m1, 5, rfl, rfl, by decide, Nat.le_of_lt (small1000 (by omega)), by decide, _, rfl, T cs, rfl, hcT, _, rfl, _, rfl, s5, ?_⟩
        have z := q H' ((List.replicate 5 m1).flatten.take cs.length) sm (all_take (all_rep ham 5) _) (by rw [List.length_take]; omega)
        rw [← cut_to] at z
        rw [T_len]
        exact z
      -- as it is
      · exact ⟨_, rfl, q H' cs sm hca (by omega)⟩
end
end Mw
namespace Mw
open PySem PySem.Spec PyProof.Rows L2
theorem scArmAt : FnScope ["text", "middle", "left", "right", "arm"] ["text", "middle"] (defScope sArmAt) := ⟨rfl, rfl, rfl, by decide +kernel, rfl, by decide +kernel, by decide +kernel⟩
section
variable {Pr : Program} {w : World} {K : PySem.W.Frag} {mg : Str → Option Value} {base : Heap}
theorem ok_armAt {f : Addr} {fd : FuncData} (F : Fun K "arm_at" "arm_at" sArmAt f fd) (ml : mg "len" = none) : FnOk Pr w K mg base CX0 1 f fd ["text", "middle"] spArmAt := by
  refine F.ok scArmAt (fun vs H Q E h => ?_) (fun cdv A outer s H vs Q E hr h => ?_)
  · obtain ⟨l, m, rfl, _⟩ := h
    rfl
  · obtain ⟨l, m, rfl, hl, q⟩ := h
    refine ⟨_, pss_cons (ps_set (i := 2) scArmAt.nd rfl (.inl rfl) (pe_op op_fdivN (pe_op op_sub (pv 1) pe_int) pe_int))
      (pss_cons (ps_set (i := 3) scArmAt.nd rfl (.inl rfl) (pe_op op_add (pe_op op_fdivN (pv 1) pe_int) pe_int))
      (pss_cons (ps_set (i := 4) scArmAt.nd rfl (.inl rfl) pe_int)
      (pss_cons (ps_while PassesOwn.never (PW.pt (pw_and (pt_cmpR op_ge (pv 2) pe_int (nomark _)) (pw_and (pt_cmpR op_lt (pv 3) (pe_callB call_len_str (by rfl) ml PySem.boot_len (pa_cons (pv 0) pa_nil)) (nomark _))
          (pw_and1 (pt_cmpR op_eq (pe_ix ix_str (pv 0) (pv 2) (fun _ _ => rfl)) (pe_ix ix_str (pv 0) (pv 3) (fun _ _ => rfl)) (nomark _))))))
        (pss_cons (ps_aug (i := 4) scArmAt.nd rfl (.inl rfl) pe_int ip_add) (pss_cons (ps_aug (i := 2) scArmAt.nd rfl (.inl rfl) pe_int ip_sub) (pss_one (ps_aug (i := 3) scArmAt.nd rfl (.inl rfl) pe_int ip_add)))))
      (pss_one (ps_ret (pv 4)))))), ?_⟩
    refine ⟨_, rfl, _, 1, rfl, rfl, (m : Int) - 1, 2, rfl, rfl, ⟨by decide, by decide⟩, ?_⟩
    refine ⟨_, rfl, (m : Int), 2, rfl, rfl, ⟨by decide, by decide⟩, (m : Int).fdiv 2, 1, rfl, rfl, ?_⟩
    have eL : ((m : Int) - 1).fdiv 2 = (((m + 1) / 2 : Nat) : Int) - 1 := by
      rw [Int.fdiv_eq_ediv_of_nonneg _ (by decide)]
      omega
    have eR : (m : Int).fdiv 2 = ((m / 2 : Nat) : Int) := by
      rw [Int.fdiv_eq_ediv_of_nonneg _ (by decide)]
      omega
    refine ⟨fun n σ H' => H' = H ∧ ∃ k : Nat, σ = [some (.str (T l)), some (.int (m : Int)), some (.int ((((m + 1) / 2 : Nat) : Int) - 1 - k)), some (.int (((m / 2 : Nat) : Int) + 1 + k)), some (.int (k : Int))] ∧ k + n = l.length + 1 ∧ ∀ j, j < k → okAt l m j = true,
      ⟨l.length + 1, rfl, 0, ?_, by omega, fun j h => absurd h (by omega)⟩, fun n σ H' hW => ?_⟩
    · show [some (V.str (T l)), some (V.int (m : Int)), some (V.int (((m : Int) - 1).fdiv 2)), some (V.int ((m : Int).fdiv 2 + 1)), some (V.int 0)] = _
      rw [eL, eR]
      simp
    obtain ⟨rfl, k, rfl, hn, hk⟩ := hW
    have hkl : k ≤ l.length := by
      cases k with
      | zero => exact Nat.zero_le _
      | succ i =>
        have := okAt_lt (hk i (Nat.lt_succ_self _))
        omega
    have done : okAt l m k = false → Q (.int ((armL l m : Nat) : Int)) H' → Q (.int (k : Int)) H' := fun z q => by
      rw [armL_of hk z] at q
      exact q
    refine ⟨_, rfl, _, 0, rfl, rfl, _, rfl, ?_⟩
    by_cases c1 : k + 1 ≤ (m + 1) / 2
    · rw [decide_eq_true (show (0 : Int) ≤ (((m + 1) / 2 : Nat) : Int) - 1 - k by omega)]
      refine iteT ⟨_, rfl, _, rfl, T l, rfl, by rw [T_len]; exact small200 hl, _, _, rfl, rfl, _, rfl, ?_⟩
      by_cases c2 : m / 2 + 1 + k < l.length
      · rw [decide_eq_true (show ((m / 2 : Nat) : Int) + 1 + k < ((T l).length : Int) by rw [T_len]; omega)]
        have h1 : (m + 1) / 2 - (k + 1) < l.length := by omega
        have a1 : atI (T l).cps.toList ((((m + 1) / 2 : Nat) : Int) - 1 - k) = some l[(m + 1) / 2 - (k + 1)] := by
          have e : ((((m + 1) / 2 : Nat) : Int) - 1 - k) = (((m + 1) / 2 - (k + 1) : Nat) : Int) := by omega
          rw [e]
          exact atI_nat (List.getElem?_eq_getElem h1)
        have a2 : atI (T l).cps.toList (((m / 2 : Nat) : Int) + 1 + k) = some l[m / 2 + 1 + k] := by
          have e : (((m / 2 : Nat) : Int) + 1 + k) = ((m / 2 + 1 + k : Nat) : Int) := by omega
          rw [e]
          exact atI_nat (List.getElem?_eq_getElem c2)
        refine iteT ⟨_, rfl, _, rfl, T l, _, _, rfl, rfl, by rw [T_len]; exact small200 hl, a1, _, rfl, _, rfl, T l, _, _, rfl, rfl, by rw [T_len]; exact small200 hl, a2, rfl, _, rfl, ?_⟩
        rw [sgn_dec]
        have ok : okAt l m k = decide (l[(m + 1) / 2 - (k + 1)] = l[m / 2 + 1 + k]) := by
          unfold okAt
          rw [decide_eq_true c1, decide_eq_true c2, Bool.true_and, Bool.true_and, List.getElem?_eq_getElem h1, List.getElem?_eq_getElem c2]
          by_cases z : l[(m + 1) / 2 - (k + 1)] = l[m / 2 + 1 + k]
          · rw [z, decide_eq_true rfl]
            exact beq_self_eq_true _
          · rw [decide_eq_false z]
            exact beq_eq_false_iff_ne.mpr fun y => z (Option.some.inj y)
        by_cases c3 : l[(m + 1) / 2 - (k + 1)] = l[m / 2 + 1 + k]
        · rw [decide_eq_true c3] at ok ⊢
          refine iteT ⟨fun σ' H2 => H2 = H' ∧ σ' = [some (.str (T l)), some (.int (m : Int)), some (.int ((((m + 1) / 2 : Nat) : Int) - 1 - (k + 1 : Nat))), some (.int (((m / 2 : Nat) : Int) + 1 + (k + 1 : Nat))), some (.int ((k + 1 : Nat) : Int))], fun σ' H2 hN => ?_, ?_⟩
          · obtain ⟨e1, e2⟩ := hN
            refine ⟨n - 1, by omega, e1, k + 1, e2, by omega, fun j hj => ?_⟩
            by_cases z : j = k
            · rw [z]
              exact ok
            · exact hk j (by omega)
          · refine ⟨_, rfl, _, _, rfl, rfl, _, rfl, _, _, rfl, rfl, _, rfl, _, _, rfl, rfl, rfl, ?_⟩
            show [some (V.str (T l)), some (.int (m : Int)), some (.int ((((m + 1) / 2 : Nat) : Int) - 1 - k - 1)), some (.int (((m / 2 : Nat) : Int) + 1 + k + 1)), some (.int ((k : Int) + 1))] = _
            have e1 : ((((m + 1) / 2 : Nat) : Int) - 1 - k - 1) = (((m + 1) / 2 : Nat) : Int) - 1 - (k + 1 : Nat) := by omega
            have e2 : (((m / 2 : Nat) : Int) + 1 + k + 1) = ((m / 2 : Nat) : Int) + 1 + (k + 1 : Nat) := by omega
            have e3 : ((k : Int) + 1) = ((k + 1 : Nat) : Int) := by omega
            rw [e1, e2, e3]
        · rw [decide_eq_false c3] at ok ⊢
          exact iteF ⟨_, rfl, done ok q⟩
      · rw [decide_eq_false (show ¬ ((m / 2 : Nat) : Int) + 1 + k < ((T l).length : Int) by rw [T_len]; omega)]
        refine iteF (iteF ⟨_, rfl, done ?_ q⟩)
        unfold okAt
        rw [decide_eq_false c2, Bool.false_and, Bool.and_false]
    · rw [decide_eq_false (show ¬ (0 : Int) ≤ (((m + 1) / 2 : Nat) : Int) - 1 - k by omega)]
      refine iteF (iteF ⟨_, rfl, done ?_ q⟩)
      unfold okAt
      rw [decide_eq_false c1, Bool.false_and]
end
end Mw
namespace Mw
open PySem PySem.Spec PyProof.Rows L2

/-! ### arms -/
theorem scArms : FnScope ["text", "middle"] ["text"] (defScope sArms) := ⟨rfl, rfl, rfl, by decide +kernel, rfl, by decide +kernel, by decide +kernel⟩
section
variable {Pr : Program} {w : World} {K : PySem.W.Frag} {mg : Str → Option Value} {base : Heap} {P BT fI fA : Addr} {dI dA : FuncData}
theorem ok_arms {f : Addr} {fd : FuncData} (F : Fun K "arms" "arms" sArms f fd) (FN : Fn Pr w K mg base (L2.CX Pr w) 2 "refuse_no_text" fI dI ["text"] (spNoT K P BT)) (FA : Fn Pr w K mg base CX0 1 "arm_at" fA dA ["text", "middle"] spArmAt)
    (ml : mg "len" = none) (mr : mg "range" = none) : FnOk Pr w K mg base (L2.CX Pr w) 3 f fd ["text"] (spArms K P BT) := by
  refine F.okX scArms (fun vs H Q E h => ?_) (fun cdv A outer s H vs Q E hr h => ?_)
  · obtain ⟨x, rfl, _⟩ := h
    rfl
  · obtain ⟨x, rfl, tab, th, qE, q⟩ := h
    refine ⟨_, pss_cons (ps_expr (pe_call (E := E) FN.ok hr (by rfl) FN.g FN.k FN.b .nil (passes_call (takes_of rfl rfl rfl rfl) (fun _ _ _ _ h => h)) (pa_cons (pv 0) pa_nil)))
      (pss_one (ps_ret (pe_lc (own := [("middle", 1)]) (g := gName 1) (tt := tYes) rfl scArms.nd (pi_range1 (by rfl) mr (pa_cons (pe_op op_sub (pe_op op_mul pe_int (pe_callB call_len_str (by rfl) ml PySem.boot_len (pa_cons (pv 0) pa_nil))) pe_int) pa_nil))
        (blkOk_by (own := [("middle", 1)]) (N := ["text", "middle"]) (sc := defScope sArms) (by decide +kernel)) (fun _ _ _ _ _ => pg_name (i := 1) scArms.nd rfl (Or.inl rfl)) (fun _ _ _ _ _ => pts_nil)
        (fun _ _ _ _ _ => pe_call FA.ok (hr.mono (by decide)) (by rfl) FA.g FA.k FA.b .nil pass0 (pa_cons (pv 0) (pa_cons (pv 1) pa_nil)))))), ?_⟩
    refine ⟨_, rfl, x, rfl, tab, th, qE, fun e H1 hT => ?_⟩
    · cases th with
      | other _ _ no =>
        rw [no] at e
        cases e
      | text l hl0 =>
        have hl : l.length ≤ 200 := by
          have z : (decide ((T l).length ≤ 200) && l.all az) = true := e
          have z1 := of_decide_eq_true ((Bool.and_eq_true _ _).mp z).1
          rw [T_len] at z1
          exact z1
        refine ⟨_, rfl, T l, rfl, by rw [T_len]; exact small200 hl, 2, ((T l).length : Int), rfl, rfl, .inl ⟨by decide, by decide⟩, _, 1, rfl, rfl, _, rfl, by rw [T_len]; omega, by rw [T_len]; omega, fun D hD => ?_⟩
        have kp1 : Kp P H H1 := .tabbed hT
        have hDP : D ≠ P := new_ne kp1.tab hD
        have H0 : H D = none := kp1.free tab hD
        have en : ((2 : Int) * ((T l).length : Int) - 1).toNat = 2 * l.length - 1 := by rw [T_len]; omega
        show ∃ W : Nat → Nat → Hp → Prop, (∃ m, W 0 m (upd H1 D (.lst []))) ∧ ∀ i m H, W i m H → ((Itr 0 ((2 : Int) * ((T l).length : Int) - 1).toNat).stop i H ∧ _) ∨ ((Itr 0 ((2 : Int) * ((T l).length : Int) - 1).toNat).go i H ∧ _)
        rw [en]
        refine lc_range (lo := 0) (n := 2 * l.length - 1) (fun i H' => Kp P H H' ∧ H' D = some (.lst (((armsL l).take i).map nV))) ⟨kp1.step hD, upd_same⟩ (fun i H' hi hW => ?_) (fun H' hW => ?_)
        · obtain ⟨kp, hd⟩ := hW
          refine ⟨rfl, ?_⟩
          refine ⟨_, rfl, _, rfl, l, i, by rw [Int.zero_add]; rfl, hl, ((armsL l).take i).map nV, hd, ?_, ?_, ?_⟩
          · rw [List.length_map, List.length_take, armsL_len]
            exact small1000 (by omega)
          · exact kp.own H0 hDP
          · rw [upd_same, armsL_take hi, List.map_append]
            rfl
        · obtain ⟨kp, hd⟩ := hW
          rw [List.take_of_length_le (by rw [armsL_len]; exact Nat.le_refl _)] at hd
          exact q e l rfl hl H' D kp H0 hd
end
end Mw
namespace Mw
open PySem PySem.Spec PyProof.Rows L2

/-! ### lists of arms -/
theorem scMids : FnScope ["many"] ["many"] (defScope sAreMid) := ⟨rfl, rfl, rfl, by decide +kernel, rfl, by decide +kernel, by decide +kernel⟩
theorem scRoom : FnScope ["middle", "many"] ["middle", "many"] (defScope sRoom) := ⟨rfl, rfl, rfl, by decide +kernel, rfl, by decide +kernel, by decide +kernel⟩
abbrev nIsArms : List Str := ["thing", "middle", "arm"]
theorem scIsArms : FnScope nIsArms ["thing"] (defScope sIsArms) := ⟨rfl, rfl, rfl, by decide +kernel, rfl, by decide +kernel, by decide +kernel⟩
section
variable {Pr : Program} {w : World} {K : PySem.W.Frag} {mg : Str → Option Value} {base : Heap} {fN fM fR : Addr} {dN dM dR : FuncData}
theorem ok_mids {f : Addr} {fd : FuncData} {tm : Tok} (F : Fun K "are_middles" "are_middles" sAreMid f fd) (mm : mg "MOST" = some (.int 200 tm)) : FnOk Pr w K mg base CX0 1 f fd ["many"] spMids := by
  refine F.ok scMids (fun vs H Q E h => ?_) (fun cdv A outer s H vs Q E hr h => ?_)
  · obtain ⟨n, rfl, _⟩ := h
    rfl
  · obtain ⟨n, rfl, q⟩ := h
    refine ⟨_, pss_one (ps_ret (pe_or (pe_cmpR op_eq (pv 0) pe_int (nomark _)) (pe_one (pe_and (pe_cmpR op_eq (pe_op op_mod (pv 0) pe_int) pe_int (nomark _))
      (pe_one (pe_cmpR op_lt (pv 0) (pe_op op_mul pe_int (pe_glob (v := .int 200) (by rfl) mm ⟨_, rfl⟩)) (nomark _))))))), ?_⟩
    have e0 : decide (V.int (n : Int) = V.int 0) = decide (n = 0) := dec_nat n 0
    refine ⟨_, rfl, rfl, _, rfl, ?_⟩
    rw [e0]
    unfold midsB at q
    by_cases c : n = 0
    · rw [decide_eq_true c] at q ⊢
      exact iteT q
    · rw [decide_eq_false c] at q ⊢
      refine iteF ⟨_, rfl, (n : Int), 2, rfl, rfl, show (0 : Int) < 2 by decide, rfl, _, rfl, ?_⟩
      have e1 : decide (V.int ((n : Int) % 2) = V.int 1) = decide (n % 2 = 1) := dec_nat (n % 2) 1
      show if decide (V.int ((n : Int) % 2) = V.int 1) = true then _ else _
      rw [e1]
      by_cases d : n % 2 = 1
      · rw [decide_eq_true d] at q ⊢
        refine iteT ⟨_, rfl, 2, 200, rfl, rfl, .inl ⟨by decide, by decide⟩, _, _, rfl, rfl, ?_⟩
        have e2 : decide ((n : Int) < 2 * 200) = decide (n < 400) := by
          by_cases y : n < 400
          · rw [decide_eq_true y, decide_eq_true (by omega)]
          · rw [decide_eq_false y, decide_eq_false (by omega)]
        show Q (.bl (decide ((n : Int) < 2 * 200))) H
        rw [e2]
        exact q
      · rw [decide_eq_false d] at q ⊢
        exact iteF q
theorem ok_room {f : Addr} {fd : FuncData} (F : Fun K "room_at" "room_at" sRoom f fd) (mn : mg "min" = none) : FnOk Pr w K mg base CX0 1 f fd ["middle", "many"] spRoom := by
  refine F.ok scRoom (fun vs H Q E h => ?_) (fun cdv A outer s H vs Q E hr h => ?_)
  · obtain ⟨m, n, rfl, _⟩ := h
    rfl
  · obtain ⟨m, n, rfl, hmn, q⟩ := h
    refine ⟨_, pss_one (ps_ret (pe_op op_fdiv (pe_callB (call_min2 rfl) (by rfl) mn (by decide +kernel) (pa_cons (pe_op op_add (pv 0) pe_int) (pa_cons (pe_op op_sub (pv 1) (pv 0)) pa_nil))) pe_int)), ?_⟩
    refine ⟨_, rfl, _, 1, rfl, rfl, _, rfl, _, rfl, _, _, rfl, rfl, (m : Int) + 1, (n : Int) - m, rfl, _, 2, rfl, rfl, show CDiv _ 2 from ⟨by decide, by decide⟩, ?_⟩
    have e : (if (n : Int) - m < (m : Int) + 1 then (n : Int) - m else (m : Int) + 1) / 2 = ((roomN m n : Nat) : Int) := by
      unfold roomN
      by_cases c : (n : Int) - m < (m : Int) + 1
      · rw [if_pos c, Nat.min_eq_right (by omega)]
        omega
      · rw [if_neg c, Nat.min_eq_left (by omega)]
        omega
    show Q (.int ((if (n : Int) - m < (m : Int) + 1 then (n : Int) - m else (m : Int) + 1) / 2)) H
    rw [e]
    exact q
theorem ok_isArms {f : Addr} {fd : FuncData} (F : Fun K "is_arms" "is_arms" sIsArms f fd) (FN : Fn Pr w K mg base CX0 1 "is_number_to" fN dN ["thing", "most"] (spNumTo K)) (FM : Fn Pr w K mg base CX0 1 "are_middles" fM dM ["many"] spMids)
    (FR : Fn Pr w K mg base CX0 1 "room_at" fR dR ["middle", "many"] spRoom) (mi : mg "isinstance" = none) (mL : mg "list" = none) (ml : mg "len" = none) (ma : mg "all" = none) (me : mg "enumerate" = none) : FnOk Pr w K mg base CX0 2 f fd ["thing"] (spIsArms K) := by
  refine F.ok scIsArms (fun vs H Q E h => ?_) (fun cdv A outer s H vs Q E hr h => ?_)
  · obtain ⟨x, b, rfl, _⟩ := h
    rfl
  · obtain ⟨x, b, rfl, th, q⟩ := h
    refine ⟨_, pss_one (ps_ret (pe_and (pe_callB call_isi (by rfl) mi boot_isinstance (pa_cons (pv 0) (pa_cons (pe_bltn (v := .ty "list") (by rfl) mL PyProof.Rows.boot_list rfl) pa_nil)))
      (pe_and (pe_call FM.ok hr (by rfl) FM.g FM.k FM.b .nil pass0 (pa_cons (pe_callB call_len_seq (by rfl) ml PySem.boot_len (pa_cons (pv 0) pa_nil)) pa_nil))
      (pe_one (pe_callB (cr_all rfl) (by rfl) ma (by decide +kernel) (pa_cons (pe_lc (own := [("middle", 1), ("arm", 2)]) (g := gTup K 2 (gCons (gName 1) (gCons (gName 2) gNil))) (tt := tYes) rfl scIsArms.nd
          (pi_enum (by rfl) me (pa_cons (pv 0) pa_nil)) (blkOk_by (own := [("middle", 1), ("arm", 2)]) (N := nIsArms) (sc := defScope sIsArms) (by decide +kernel))
          (fun _ _ _ _ _ => pg_tup (by rfl) (pgs_cons (pg_name (i := 1) scIsArms.nd rfl (Or.inl rfl)) (pgs_cons (pg_name (i := 2) scIsArms.nd rfl (Or.inl rfl)) pgs_nil))) (fun _ _ _ _ _ => pts_nil)
          (fun _ _ _ _ _ => pe_call FN.ok hr (by rfl) FN.g FN.k FN.b .nil pass0 (pa_cons (pv 2) (pa_cons (pe_call FR.ok hr (by rfl) FR.g FR.k FR.b .nil pass0 (pa_cons (pv 1) (pa_cons (pe_callB (r := rLenSeq K) call_len_seq (by rfl) ml PySem.boot_len (pa_cons (pv 0) pa_nil)) pa_nil))) pa_nil))))
          pa_nil)))))), ?_⟩
    cases th with
    | other t k => exact ⟨x, rfl, x, .ty "list", _, _, false, rfl, .ty _, t, kit_ty k, false, rfl, iteF (q H fun _ _ h => h)⟩
    | @list a xs h n z =>
      refine ⟨_, rfl, _, .ty "list", _, _, true, rfl, .ty _, .base (.lst h), kit_ty (by decide +kernel), true, rfl, iteT ?_⟩
      refine ⟨_, rfl, a, _, rfl, .inl (.inl (.inl h)), xs.length, rfl, _, rfl, ?_⟩
      unfold isArmsL at q
      cases c : midsB xs.length with
      | false =>
        rw [c] at q
        exact iteF (q H fun _ _ h => h)
      | true =>
        rw [c, Bool.true_and] at q
        refine iteT ⟨_, rfl, a, xs, rfl, .inl (.inl h), fun D hD => ?_⟩
        have hDa : D ≠ a := (ne_of_none h hD).symm
        refine lc_it (walk_enum (K := K) (a := a) (xs := xs)) (fun i H' => Same H H' ∧ H' D = some (.lst (((List.range i).map (armOk xs)).map V.bl))) ⟨same_upd hD, upd_same⟩ (fun i H' _ hW => .inl (.inl (hW.1 _ _ h)))
          (fun i v H' H2 hi hW hy => ?_) (fun H' hW => ?_)
        · obtain ⟨sm, hd⟩ := hW
          obtain ⟨T, x1, x2, rfl, hT, rfl, e1, e2⟩ := hy
          cases Option.some.inj e1
          have s2 : Same H (upd H' T (.tup [.int (i : Nat), x2])) := sm.trans (same_upd hT)
          have hd2 : (upd H' T (.tup [.int (i : Nat), x2])) D = some (.lst (((List.range i).map (armOk xs)).map V.bl)) := by
            rw [upd_ne (ne_of_none hd hT)]
            exact hd
          have hT2 : (upd H' T (.tup [.int (i : Nat), x2])) T = some (.tup [.int (i : Nat), x2]) := upd_same
          generalize upd H' T (.tup [.int (i : Nat), x2]) = H3 at *
          have e2 : xs[i]? = some x2 := e2
          have ex : xs.getD i .non = x2 := by
            rw [List.getD_eq_getElem?_getD, e2]
            rfl
          refine ⟨T, _, rfl, .inl (.inl hT2), rfl, _, _, rfl, _, _, rfl, rfl, rfl, ?_⟩
          refine ⟨_, rfl, _, rfl, _, rfl, a, _, rfl, .inl (.inl (.inl (s2 _ _ h))), i, xs.length, rfl, by omega, x2, _, rfl, (n x2 (List.mem_of_getElem? e2)).same s2, _, hd2, ?_, fun b u e => ?_, ?_⟩
          · rw [List.length_map, List.length_map, List.length_range]
            exact small1000 (by omega)
          · rw [upd_ne (ne_of_none e hD)]
            exact s2 b u e
          · rw [upd_same, List.range_succ, List.map_append, List.map_append]
            show _ = some (HO.lst (_ ++ [V.bl (armOk xs i)]))
            unfold armOk
            rw [ex]
        · obtain ⟨sm, hd⟩ := hW
          refine ⟨D, _, rfl, .inl (.inl hd), ?_⟩
          have e : ((List.range xs.length).map (armOk xs)).all id = (List.range xs.length).all (armOk xs) := by
            rw [List.all_map]
            rfl
          rw [e]
          exact q H' sm
end
end Mw
namespace Mw
open PySem PySem.Spec PyProof.Rows L2

/-! ### the next letter -/
abbrev nNext : List Str := ["text", "arms", "place", "barred", "middle", "across", "stop", "letter"]
theorem scNext : FnScope nNext ["text", "arms"] (defScope sNext) := ⟨rfl, rfl, rfl, by decide +kernel, rfl, by decide +kernel, by decide +kernel⟩
section
variable {Pr : Program} {w : World} {K : PySem.W.Frag} {mg : Str → Option Value} {base : Heap}
theorem ok_next {f : Addr} {fd : FuncData} {tl : Tok} (F : Fun K "next_letter" "next_letter" sNext f fd) (ml : mg "len" = none) (mr : mg "range" = none) (mn : mg "min" = none) (gL : mg "LETTERS" = some (.str "abcdefghijklmnopqrstuvwxyz" tl)) :
    FnOk Pr w K mg base CX0 1 f fd ["text", "arms"] (spNext K) := by
  refine F.ok scNext (fun vs H Q E h => ?_) (fun cdv A outer s H vs Q E hr h => ?_)
  · obtain ⟨g, rs, a, rfl, _⟩ := h
    rfl
  · obtain ⟨g, rs, a, rfl, hS, hg, hrs, left, q⟩ := h
    refine ⟨_, pss_cons (ps_set (i := 2) scNext.nd rfl (.inl rfl) (pe_callB call_len_str (by rfl) ml PySem.boot_len (pa_cons (pv 0) pa_nil))) <|
      pss_cons (ps_set (i := 3) scNext.nd rfl (.inr rfl) (pe_lst pa_nil)) <|
      pss_cons (ps_for PassesOwn.never rfl (pi_range2 (by rfl) mr (pa_cons (pv 2) (pa_cons (pe_op op_mul pe_int (pv 2)) pa_nil))) (pg_name (i := 4) scNext.nd rfl (.inl rfl))
        (pss_cons (ps_set (i := 5) scNext.nd rfl (.inl rfl) (pe_ix ix_str (pv 0) (pe_op op_sub (pv 4) (pv 2)) (fun _ _ => rfl))) <|
        pss_cons (ps_set (i := 6) scNext.nd rfl (.inl rfl) (pe_op op_add (pe_op op_add (pe_op op_fdivN (pv 4) pe_int) pe_int) (pe_ix ix_list (pv 1) (pv 4) (fun _ _ => rfl)))) <|
        pss_cons (ps_if (pt_cmpR op_gt (pv 6) (pv 2) (nomark _)) (pss_one (ps_ret (pv 5))) pss_nil) <|
        pss_one (ps_if (pt_cmpR op_eq (pv 6) (pv 2) (nomark _)) (pss_one (ps_expr (pe_bm PySem.F.plainAttrs_list PySem.F.slot_list_append PySem.F.type_list_append mt_append (pv 3) (pa_cons (pv 5) pa_nil)))) pss_nil))) <|
      pss_one (ps_ret (pe_callB (cr_minS rfl) (by rfl) mn (by decide +kernel) (pa_cons (pe_lc (own := [("letter", 7)]) (g := gName 7) rfl scNext.nd (pi_str (pe_glob (v := .str "abcdefghijklmnopqrstuvwxyz") (by rfl) gL ⟨_, rfl⟩))
        (blkOk_by (own := [("letter", 7)]) (N := nNext) (sc := defScope sNext) (by decide +kernel)) (fun _ _ _ _ _ => pg_name (i := 7) scNext.nd rfl (Or.inl rfl))
        (fun _ _ _ _ _ => pts_one (pt_cmpR (r := rIn K true) op_notIn_seq (pv 7) (pv 3) rfl)) (fun _ _ _ _ _ => pv 7)) pa_nil))), ?_⟩
    have hgT : (T g).length ≤ sizeLine := by
      rw [T_len]
      exact small200 hg
    refine ⟨_, rfl, T g, rfl, hgT, Nat.zero_le _, fun B hB => ?_⟩
    have hBa : B ≠ a ∨ True := .inr trivial
    refine ⟨_, rfl, _, rfl, 2, _, rfl, rfl, .inl ⟨by decide, by decide⟩, ((T g).length : Int), 2 * ((T g).length : Int), rfl, ⟨by rw [T_len]; omega, by rw [T_len]; omega, by rw [T_len]; omega, by rw [T_len]; omega⟩, ?_⟩
    rw [T_len]
    have en : ((2 * (g.length : Int)) - (g.length : Int)).toNat = g.length := by omega
    have cutL : ∀ i, (((List.range i).filter fun i => cut (rsR rs) i g.length).map fun i => g.getD i 0).length ≤ i := fun i => by
      rw [List.length_map]
      exact Nat.le_trans (List.length_filter_le _ _) (by rw [List.length_range]; exact Nat.le_refl _)
    refine for_range (lo := (g.length : Int)) (n := ((2 * (g.length : Int)) - (g.length : Int)).toNat) (fun i σ H' => Same H H' ∧ H' B = some (.lst ((((List.range i).filter fun i => cut (rsR rs) i g.length).map fun i => g.getD i 0).map gV)) ∧
        (∀ j, j < i → tie (rsR rs) j g.length = false) ∧ ∃ x4 x5 x6, σ = [some (.str (T g)), some (.ref a), some (.int (g.length : Int)), some (.ref B), x4, x5, x6, none]) ⟨same_upd hB, upd_same, fun j h => absurd h (by omega), none, none, none, rfl⟩ (fun i σ H' hi hW => ?_) (fun σ H' hW => ?_)
    · rw [en] at hi
      obtain ⟨sm, hb, nt, x4, x5, x6, rfl⟩ := hW
      have e1 : ((g.length : Int) + (i : Int) - (g.length : Int)) = (i : Int) := by omega
      have e2 : ((g.length : Int) + (i : Int)) = ((i + g.length : Nat) : Int) := by omega
      have gi : g[i]? = some (g.getD i 0) := by
        rw [List.getD_eq_getElem?_getD, List.getElem?_eq_getElem hi]
        rfl
      have a1 : atI (T g).cps.toList ((g.length : Int) + (i : Int) - (g.length : Int)) = some (g.getD i 0) := by
        rw [e1]
        exact atI_nat gi
      have a2 : atI (rs.map nV) ((g.length : Int) + (i : Int)) = some (nV (rsR rs (i + g.length))) := by
        rw [e2]
        refine atI_nat ?_
        unfold rsR
        rw [List.getElem?_map, List.getD_eq_getElem?_getD, List.getElem?_eq_getElem (show i + g.length < rs.length by omega)]
        rfl
      refine ⟨_, rfl, _, rfl, _, rfl, _, _, rfl, rfl, T g, _, _, rfl, rfl, hgT, a1, ?_⟩
      refine ⟨_, rfl, _, 2, rfl, rfl, ⟨by decide, by decide⟩, _, 1, rfl, rfl, _, rfl, _, rfl, a, _, _, _, rfl, rfl, sm.seq hS, a2, _, _, rfl, rfl, ?_⟩
      have e3 : ((g.length : Int) + (i : Int)).fdiv 2 + 1 + ((rsR rs (i + g.length) : Nat) : Int) = (((i + g.length) / 2 + 1 + rsR rs (i + g.length) : Nat) : Int) := by
        rw [e2, half_of]
        omega
      refine ⟨_, rfl, _, rfl, _, _, rfl, rfl, _, rfl, ?_⟩
      show if decide ((g.length : Int) < ((g.length : Int) + (i : Int)).fdiv 2 + 1 + ((rsR rs (i + g.length) : Nat) : Int)) = true then _ else _
      rw [e3]
      have t1 : decide ((g.length : Int) < (((i + g.length) / 2 + 1 + rsR rs (i + g.length) : Nat) : Int)) = tie (rsR rs) i g.length := by
        unfold tie
        by_cases c : g.length < (i + g.length) / 2 + 1 + rsR rs (i + g.length)
        · rw [decide_eq_true c, decide_eq_true (by omega)]
        · rw [decide_eq_false c, decide_eq_false (by omega)]
      rw [t1]
      cases ct : tie (rsR rs) i g.length with
      | true =>
        refine iteT ⟨_, rfl, ?_⟩
        have z := q H' sm
        have e4 : nxt (rsR rs) g = g.getD i 0 := by
          unfold nxt
          rw [find_range nt ct hi]
        rw [e4] at z
        exact z
      | false =>
        have nt2 : ∀ j, j < i + 1 → tie (rsR rs) j g.length = false := fun j hj => by
          by_cases c : j = i
          · rw [c]
            exact ct
          · exact nt j (by omega)
        refine iteF ⟨_, rfl, _, rfl, rfl, _, rfl, ?_⟩
        show if decide (V.int (((g.length : Int) + (i : Int)).fdiv 2 + 1 + ((rsR rs (i + g.length) : Nat) : Int)) = V.int (g.length : Int)) = true then _ else _
        rw [e3, dec_nat]
        have c1 : decide ((i + g.length) / 2 + 1 + rsR rs (i + g.length) = g.length) = cut (rsR rs) i g.length := rfl
        rw [c1]
        have bs := barred_succ (rsR rs) g g.length i
        cases cc : cut (rsR rs) i g.length with
        | true =>
          rw [cc, if_pos rfl] at bs
          refine iteT ⟨_, rfl, .inl ⟨rfl, _, .inl (.inl hb)⟩, _, rfl, B, _, _, rfl, rfl, hb, ?_, fun b u e => ?_, ?_, nt2, _, _, _, rfl⟩
          · rw [List.length_map]
            exact small1000 (by have := cutL i; omega)
          · rw [upd_ne (ne_of_none e hB)]
            exact sm b u e
          · rw [upd_same, bs, List.map_append]
            rfl
        | false =>
          rw [cc, if_neg Bool.false_ne_true, List.append_nil] at bs
          exact iteF ⟨sm, by rw [bs]; exact hb, nt2, _, _, _, rfl⟩
    · rw [en] at hW
      obtain ⟨sm, hb, nt, x4, x5, x6, rfl⟩ := hW
      obtain ⟨c, hc⟩ := left (find_none nt)
      have eb : (((List.range g.length).filter fun i => cut (rsR rs) i g.length).map fun i => g.getD i 0) = barred (rsR rs) g g.length := rfl
      rw [eb] at hb
      refine ⟨_, rfl, fun D hD => ?_⟩
      have hDB : D ≠ B := (ne_of_none hb hD).symm
      refine lc_it walk_str (fun i H2 => Same H' H2 ∧ H2 D = some (.lst (((abcL.take i).filter fun c => !(barred (rsR rs) g g.length).contains c).map gV))) ⟨same_upd hD, upd_same⟩ (fun _ _ _ _ => trivial) (fun i x H2 H3 hi hW2 hy => ?_) (fun H2 hW2 => ?_)
      · obtain ⟨sm2, hd⟩ := hW2
        obtain ⟨rfl, c0, hc0, rfl⟩ := hy
        have et := take_succ_of (abc_some hc0)
        refine ⟨rfl, _, rfl, _, rfl, B, _, rfl, .inl (.inl (.inl (sm2 _ _ hb))), rfl, flat_sgn _, _, rfl, ?_⟩
        have ei : inV (.str ⟨#[c0]⟩) ((barred (rsR rs) g g.length).map gV) = (barred (rsR rs) g g.length).contains c0 := inV_sgn c0 _
        show if (!inV (.str ⟨#[c0]⟩) ((barred (rsR rs) g g.length).map gV)) = true then _ else _
        rw [ei, et, List.filter_append]
        have li : ((abcL.take i).filter fun c => !(barred (rsR rs) g g.length).contains c).length ≤ 26 := by
          refine Nat.le_trans (List.length_filter_le _ _) ?_
          rw [List.length_take]
          exact Nat.le_trans (Nat.min_le_right _ _) (by decide)
        cases cb : (barred (rsR rs) g g.length).contains c0 with
        | false =>
          refine iteT ⟨_, rfl, _, hd, by rw [List.length_map]; exact small1000 (by omega), fun b u e => ?_, ?_⟩
          · rw [upd_ne (ne_of_none e hD)]
            exact sm2 b u e
          · rw [upd_same, List.filter_cons_of_pos (by rw [cb]; rfl), List.filter_nil, List.map_append]
            rfl
        | true =>
          refine iteF ⟨sm2, ?_⟩
          rw [List.filter_cons_of_neg (by rw [cb]; exact Bool.false_ne_true), List.filter_nil, List.append_nil]
          exact hd
      · obtain ⟨sm2, hd⟩ := hW2
        rw [abc_size, List.take_of_length_le (by decide)] at hd
        rw [gV_map] at hd
        refine ⟨D, (abcL.filter fun c => !(barred (rsR rs) g g.length).contains c).map fun c => [c], rfl, .inl (.inl hd), ?_, fun m hm hl => ?_⟩
        · intro z
          have hcm : c ∈ abcL.filter fun c => !(barred (rsR rs) g g.length).contains c := List.mem_filter.mpr ⟨List.mem_of_find?_eq_some hc, List.find?_some (p := fun c => !(barred (rsR rs) g g.length).contains c) hc⟩
          rw [List.map_eq_nil_iff.mp z] at hcm
          cases hcm
        · obtain ⟨m0, _, rfl⟩ := List.mem_map.mp hm
          have e5 := least_left hc hm hl
          have z := q H2 (sm.trans sm2)
          have e6 : nxt (rsR rs) g = m0 := by
            unfold nxt
            rw [find_none nt, hc, e5]
            rfl
          rw [e6] at z
          exact z
end
end Mw
namespace Mw
open PySem PySem.Spec PyProof.Rows L2

/-! ### the least text -/
abbrev nLeast : List Str := ["arms", "text", "_", "middle", "arm"]
theorem scLeast : FnScope nLeast ["arms"] (defScope sLeast) := ⟨rfl, rfl, rfl, by decide +kernel, rfl, by decide +kernel, by decide +kernel⟩
section
variable {Pr : Program} {w : World} {K : PySem.W.Frag} {mg : Str → Option Value} {base : Heap} {BA NT fI fN fA : Addr} {dI dN dA : FuncData}
theorem ok_least {f : Addr} {fd : FuncData} (F : Fun K "least_text" "least_text" sLeast f fd) (FI : Fn Pr w K mg base CX0 2 "is_arms" fI dI ["thing"] (spIsArms K)) (FN : Fn Pr w K mg base CX0 1 "next_letter" fN dN ["text", "arms"] (spNext K))
    (FA : Fn Pr w K mg base CX0 1 "arm_at" fA dA ["text", "middle"] spArmAt) (EA : ErrC K mg "BadArms" BA) (EN : ErrC K mg "NoText" NT) (ml : mg "len" = none) (mr : mg "range" = none) (my : mg "any" = none) (me : mg "enumerate" = none) :
    FnOk Pr w K mg base (L2.CX Pr w) 3 f fd ["arms"] (spLeast K BA NT) := by
  refine F.okX scLeast (fun vs H Q E h => ?_) (fun cdv A outer s H vs Q E hr h => ?_)
  · obtain ⟨x, b, rfl, _⟩ := h
    rfl
  · obtain ⟨x, b, rfl, th, qE, q⟩ := h
    refine ⟨_, pss_cons (ps_if (pt_not (pt_val (pe_call FI.ok hr (by rfl) FI.g FI.k FI.b .nil pass0 (pa_cons (pv 0) pa_nil))))
        (pss_one (ps_raise rfl (takes_of rfl rfl rfl rfl) (pmk_own PySem.F.excBase_ValueError EA.x EA.g EA.k (raises_own EA.b EA.t) (by rfl)))) pss_nil) <|
      pss_cons (ps_set (i := 1) scLeast.nd rfl (.inr rfl) pe_str) <|
      pss_cons (psNox (ps_for PassesOwn.never rfl (pi_range1 (by rfl) mr (pa_cons (pe_op op_fdivN (pe_op op_add (pe_callB call_len_seq (by rfl) ml PySem.boot_len (pa_cons (pv 0) pa_nil)) pe_int) pe_int) pa_nil)) (pg_name (i := 2) scLeast.nd rfl (.inl rfl))
        (pss_one (ps_aug (i := 1) scLeast.nd rfl (.inr rfl) (pe_call FN.ok (hr.mono (by decide)) (by rfl) FN.g FN.k FN.b .nil pass0 (pa_cons (pv 1) (pa_cons (pv 0) pa_nil))) ip_addT)))) <|
      pss_cons (ps_if (pt_val (pe_callB (cr_any rfl) (by rfl) my (by decide +kernel) (pa_cons (pe_lc (own := [("middle", 3), ("arm", 4)]) (g := gTup K 2 (gCons (gName 3) (gCons (gName 4) gNil))) (tt := tYes) rfl scLeast.nd
          (pi_enum (by rfl) me (pa_cons (pv 0) pa_nil)) (blkOk_by (own := [("middle", 3), ("arm", 4)]) (N := nLeast) (sc := defScope sLeast) (by decide +kernel))
          (fun _ _ _ _ _ => pg_tup (by rfl) (pgs_cons (pg_name (i := 3) scLeast.nd rfl (Or.inl rfl)) (pgs_cons (pg_name (i := 4) scLeast.nd rfl (Or.inl rfl)) pgs_nil))) (fun _ _ _ _ _ => pts_nil)
          (fun _ _ _ _ _ => pe_cmpR op_ne (pe_call FA.ok (hr.mono (by decide)) (by rfl) FA.g FA.k FA.b .nil pass0 (pa_cons (pv 1) (pa_cons (pv 3) pa_nil))) (pv 4) (nomark _))) pa_nil)))
        (pss_one (ps_raise rfl (takes_of rfl rfl rfl rfl) (pmk_own PySem.F.excBase_ValueError EN.x EN.g EN.k (raises_own EN.b EN.t) (by rfl)))) pss_nil) <|
      pss_one (ps_ret (pv 1)), ?_⟩
    refine ⟨_, rfl, x, b, rfl, th, fun H1 sm1 => ⟨b, rfl, ?_⟩⟩
    cases b with
    | false => exact iteT (qE rfl H1 sm1)
    | true =>
      obtain ⟨a, rs, rfl, hS0, hlen, left, qQ, qN⟩ := q rfl
      have hS : H1 a = some (.lst (rs.map nV)) := sm1 _ _ hS0
      have hL : SqL K H1 a (rs.map nV) := .inl (.inl hS)
      have ell : ((rs.map nV).length : Int) = (rs.length : Int) := by rw [List.length_map]
      have en : ((((rs.map nV).length : Int) + 1).fdiv 2).toNat = lenN rs := by
        rw [ell, Int.fdiv_eq_ediv_of_nonneg _ (by decide)]
        unfold lenN
        omega
      have hn : lenN rs ≤ 200 := by
        unfold lenN
        omega
      refine iteF ⟨_, rfl, a, _, rfl, .inl hL, _, 1, rfl, rfl, _, 2, rfl, rfl, ⟨by decide, by decide⟩, _, rfl, ?_, ?_, ?_⟩
      · rw [ell, Int.fdiv_eq_ediv_of_nonneg _ (by decide)]
        omega
      · rw [ell, Int.fdiv_eq_ediv_of_nonneg _ (by decide)]
        omega
      refine for_range (lo := 0) (n := ((((rs.map nV).length : Int) + 1).fdiv 2).toNat) (fun i σ H' => Same H1 H' ∧ ∃ x2, σ = [some (.ref a), some (.str (T (gr (rsR rs) i))), x2, none, none]) ⟨fun _ _ h => h, none, rfl⟩ (fun i σ H' hi hW => ?_) (fun σ H' hW => ?_)
      · rw [en] at hi
        obtain ⟨sm, x2, rfl⟩ := hW
        have hi2 : i ≤ 200 := by omega
        refine ⟨_, rfl, _, rfl, _, rfl, gr (rsR rs) i, rs, a, rfl, sm.seq hL, by rw [gr_len]; exact hi2, by rw [gr_len]; unfold lenN at hi; omega, ?_, fun H2 sm2 => ?_⟩
        · rw [gr_len]
          exact fun h => left i hi h
        · refine ⟨_, _, rfl, rfl, ?_, sm.trans sm2, some (.int (0 + (i : Int))), ?_⟩
          · show (T (gr (rsR rs) i)).length + (T [nxt (rsR rs) (gr (rsR rs) i)]).length ≤ sizeLine
            rw [T_len, T_len, gr_len]
            exact Nat.le_of_lt (small1000 (show i + 1 ≤ 1000 by omega))
          · rw [T_app]
            rfl
      · rw [en] at hW
        obtain ⟨sm, x2, rfl⟩ := hW
        have gl : (gr (rsR rs) (lenN rs)).length = lenN rs := gr_len _ _
        have badE : badArms rs = (List.range rs.length).any fun m => !decide (armL (gr (rsR rs) (lenN rs)) m = rsR rs m) := rfl
        generalize gr (rsR rs) (lenN rs) = g at *
        refine ⟨_, rfl, a, _, rfl, sm.seq hL, fun D hD => ?_⟩
        have hS' : H' a = some (.lst (rs.map nV)) := sm _ _ hS
        refine lc_it (walk_enum (K := K) (a := a) (xs := rs.map nV)) (fun i H2 => Same H' H2 ∧ H2 D = some (.lst (((List.range i).map fun m => !decide (armL g m = rsR rs m)).map V.bl))) ⟨same_upd hD, upd_same⟩ (fun i H2 _ hW => .inl (.inl (hW.1 _ _ hS')))
          (fun i v H2 H3 hi hW hy => ?_) (fun H2 hW => ?_)
        · obtain ⟨sm2, hd⟩ := hW
          obtain ⟨T', x1, y2, rfl, hT, rfl, e1, e2⟩ := hy
          cases Option.some.inj e1
          have e2 : (rs.map nV)[i]? = some y2 := e2
          have hi : i < rs.length := by
            rw [List.length_map] at hi
            exact hi
          have ey : y2 = nV (rsR rs i) := by
            rw [List.getElem?_map, List.getElem?_eq_getElem hi] at e2
            unfold rsR
            rw [List.getD_eq_getElem?_getD, List.getElem?_eq_getElem hi]
            exact (Option.some.inj e2).symm
          subst ey
          have s3 : Same H' (upd H2 T' (.tup [.int (i : Nat), nV (rsR rs i)])) := sm2.trans (same_upd hT)
          have hd2 : (upd H2 T' (.tup [.int (i : Nat), nV (rsR rs i)])) D = some (.lst (((List.range i).map fun m => !decide (armL g m = rsR rs m)).map V.bl)) := by
            rw [upd_ne (ne_of_none hd hT)]
            exact hd
          have hT2 : (upd H2 T' (.tup [.int (i : Nat), nV (rsR rs i)])) T' = some (.tup [.int (i : Nat), nV (rsR rs i)]) := upd_same
          generalize upd H2 T' (.tup [.int (i : Nat), nV (rsR rs i)]) = H3 at *
          refine ⟨T', _, rfl, .inl (.inl hT2), rfl, _, _, rfl, _, _, rfl, rfl, rfl, ?_⟩
          refine ⟨_, rfl, _, rfl, g, i, rfl, by omega, _, rfl, rfl, _, hd2, ?_, fun b u e => ?_, ?_⟩
          · rw [List.length_map, List.length_map, List.length_range]
            exact small1000 (by omega)
          · rw [upd_ne (ne_of_none e hD)]
            exact s3 b u e
          · have ed : decide (V.int ((armL g i : Nat) : Int) = nV (rsR rs i)) = decide (armL g i = rsR rs i) := dec_nat _ _
            rw [upd_same, List.range_succ, List.map_append, List.map_append]
            show some (HO.lst (_ ++ [V.bl (!decide (V.int ((armL g i : Nat) : Int) = nV (rsR rs i)))])) = _
            rw [ed]
            rfl
        · obtain ⟨sm2, hd⟩ := hW
          rw [List.length_map] at hd
          refine ⟨D, _, rfl, .inl (.inl hd), ?_⟩
          have e : ((List.range rs.length).map fun m => !decide (armL g m = rsR rs m)).any id = badArms rs := by
            rw [List.any_map, badE]
            rfl
          have sm3 : Same H H2 := sm1.trans (sm.trans sm2)
          refine ⟨_, rfl, ?_⟩
          rw [e]
          cases c : badArms rs with
          | true => exact iteT (qN c H2 sm3)
          | false => exact iteF ⟨_, rfl, qQ c H2 sm3⟩
end
end Mw
namespace Mw
open PySem PySem.Spec PyProof.Rows L2

/-! ### a text parted -/
abbrev nEndsF : List Str := ["text", "start", "end"]
theorem scEndsF : FnScope nEndsF ["text", "start"] (defScope sEndsF) := ⟨rfl, rfl, rfl, by decide +kernel, rfl, by decide +kernel, by decide +kernel⟩
abbrev nNeeded : List Str := ["text", "needed", "start", "end"]
theorem scNeeded : FnScope nNeeded ["text"] (defScope sNeeded) := ⟨rfl, rfl, rfl, by decide +kernel, rfl, by decide +kernel, by decide +kernel⟩
abbrev nFewest : List Str := ["text", "needed", "parted", "start", "stop", "end"]
theorem scFewest : FnScope nFewest ["text"] (defScope sFewest) := ⟨rfl, rfl, rfl, by decide +kernel, rfl, by decide +kernel, by decide +kernel⟩
theorem lst_nat {xs : List Nat} {i : Nat} {x : V} (h : (xs.map nV)[i]? = some x) : ∃ z, xs[i]? = some z ∧ x = nV z := by
  rw [List.getElem?_map] at h
  cases e : xs[i]? with
  | none =>
    rw [e] at h
    cases h
  | some z =>
    rw [e] at h
    exact ⟨z, rfl, (Option.some.inj h).symm⟩
section
variable {Pr : Program} {w : World} {K : PySem.W.Frag} {mg : Str → Option Value} {base : Heap} {P BT fA fE fN fT : Addr} {dA dE dN dT : FuncData}
theorem ok_endsF {f : Addr} {fd : FuncData} (F : Fun K "ends_from" "ends_from" sEndsF f fd) (FA : Fn Pr w K mg base CX0 1 "reads_alike" fA dA ["text"] spAlike) (ml : mg "len" = none) (mr : mg "range" = none) : FnOk Pr w K mg base CX0 2 f fd ["text", "start"] spEndsF := by
  refine F.ok scEndsF (fun vs H Q E h => ?_) (fun cdv A outer s H vs Q E hr h => ?_)
  · obtain ⟨t, i, rfl, _⟩ := h
    rfl
  · obtain ⟨t, i, rfl, ht, hi, q⟩ := h
    refine ⟨_, pss_one (ps_ret (pe_lc (own := [("end", 2)]) (g := gName 2) rfl scEndsF.nd (pi_range2 (by rfl) mr (pa_cons (pe_op op_add (pv 1) pe_int) (pa_cons (pe_op op_add (pe_callB call_len_str (by rfl) ml PySem.boot_len (pa_cons (pv 0) pa_nil)) pe_int) pa_nil)))
      (blkOk_by (own := [("end", 2)]) (N := nEndsF) (sc := defScope sEndsF) (by decide +kernel)) (fun _ _ _ _ _ => pg_name (i := 2) scEndsF.nd rfl (Or.inl rfl))
      (fun _ _ _ _ _ => pts_one (pt_val (pe_call FA.ok hr (by rfl) FA.g FA.k FA.b .nil pass0 (pa_cons (pe_slice sl_str (pv 0) (po_some (pv 1)) (po_some (pv 2))) pa_nil)))) (fun _ _ _ _ _ => pv 2))), ?_⟩
    have tT : (T t).length ≤ sizeLine := by
      rw [T_len]
      exact small200 ht
    have en : (((T t).length : Int) + 1 - ((i : Int) + 1)).toNat = t.length - i := by
      rw [T_len]
      omega
    refine ⟨_, rfl, _, 1, rfl, rfl, _, rfl, T t, rfl, tT, _, 1, rfl, rfl, (i : Int) + 1, ((T t).length : Int) + 1, rfl, ⟨by omega, by omega, by rw [T_len]; omega, by rw [T_len]; omega⟩, fun D hD => ?_⟩
    show ∃ W : Nat → Nat → Hp → Prop, (∃ m, W 0 m (upd H D (.lst []))) ∧ ∀ k m H, W k m H → ((Itr ((i : Int) + 1) (((T t).length : Int) + 1 - ((i : Int) + 1)).toNat).stop k H ∧ _) ∨ ((Itr ((i : Int) + 1) (((T t).length : Int) + 1 - ((i : Int) + 1)).toNat).go k H ∧ _)
    rw [en]
    refine lc_range (lo := (i : Int) + 1) (n := t.length - i) (fun k H' => Same H H' ∧ H' D = some (.lst ((((List.range k).map (i + 1 + ·)).filter fun j => pal (str t i j)).map nV))) ⟨same_upd hD, upd_same⟩ (fun k H' hk hW => ?_) (fun H' hW => ?_)
    · obtain ⟨sm, hd⟩ := hW
      have ej : (i : Int) + 1 + (k : Int) = ((i + 1 + k : Nat) : Int) := by omega
      refine ⟨rfl, _, rfl, _, rfl, _, rfl, _, rfl, _, rfl, T t, rfl, tT, ?_⟩
      have ec : cutS (T t) (some (i : Int)) (some ((i : Int) + 1 + (k : Int))) = T (str t i (i + 1 + k)) := by
        rw [ej, cut_str hi (by omega)]
      rw [ec]
      refine ⟨str t i (i + 1 + k), rfl, Nat.le_trans str_len (small200 ht), _, rfl, ?_⟩
      have ln : ((((List.range k).map (i + 1 + ·)).filter fun j => pal (str t i j)).map nV).length ≤ 1000 := by
        rw [List.length_map]
        refine Nat.le_trans (List.length_filter_le _ _) ?_
        rw [List.length_map, List.length_range]
        omega
      have er : ((List.range (k + 1)).map (i + 1 + ·)).filter (fun j => pal (str t i j)) = (((List.range k).map (i + 1 + ·)).filter fun j => pal (str t i j)) ++ if pal (str t i (i + 1 + k)) = true then [i + 1 + k] else [] := by
        rw [List.range_succ, List.map_append, List.filter_append]
        congr 1
        by_cases c : pal (str t i (i + 1 + k)) = true
        · rw [if_pos c]
          simp [c]
        · rw [if_neg c]
          simp [c]
      rw [er]
      cases cp : pal (str t i (i + 1 + k)) with
      | true =>
        refine iteT ⟨_, rfl, _, hd, small1000 ln, fun b u e => ?_, ?_⟩
        · rw [upd_ne (ne_of_none e hD)]
          exact sm b u e
        · rw [upd_same, if_pos rfl, List.map_append, ej]
          rfl
      | false =>
        refine iteF ⟨sm, ?_⟩
        rw [if_neg Bool.false_ne_true, List.append_nil]
        exact hd
    · obtain ⟨sm, hd⟩ := hW
      exact q H' D sm hD hd
theorem ok_needed {f : Addr} {fd : FuncData} (F : Fun K "words_needed" "words_needed" sNeeded f fd) (FE : Fn Pr w K mg base CX0 2 "ends_from" fE dE ["text", "start"] spEndsF) (ml : mg "len" = none) (mr : mg "range" = none) (mv : mg "reversed" = none) (mn : mg "min" = none) :
    FnOk Pr w K mg base CX0 3 f fd ["text"] spNeeded := by
  refine F.ok scNeeded (fun vs H Q E h => ?_) (fun cdv A outer s H vs Q E hr h => ?_)
  · obtain ⟨t, rfl, _⟩ := h
    rfl
  · obtain ⟨t, rfl, ht, q⟩ := h
    refine ⟨_, pss_cons (ps_set (i := 1) scNeeded.nd rfl (.inr rfl) (pe_op op_rep (pe_lst (pa_cons pe_int pa_nil)) (pe_op op_add (pe_callB call_len_str (by rfl) ml PySem.boot_len (pa_cons (pv 0) pa_nil)) pe_int))) <|
      pss_cons (ps_for PassesOwn.never rfl (pi_revR (by rfl) mv (prg_1 (by rfl) mr (pe_callB call_len_str (by rfl) ml PySem.boot_len (pa_cons (pv 0) pa_nil)))) (pg_name (i := 2) scNeeded.nd rfl (.inl rfl))
        (pss_one (ps_asg (pe_op op_add pe_int (pe_callB (cr_min rfl) (by rfl) mn (by decide +kernel) (pa_cons (pe_lc (own := [("end", 3)]) (g := gName 3) (tt := tYes) rfl scNeeded.nd
            (pi_list (pe_call FE.ok hr (by rfl) FE.g FE.k FE.b .nil pass0 (pa_cons (pv 0) (pa_cons (pv 2) pa_nil)))) (blkOk_by (own := [("end", 3)]) (N := nNeeded) (sc := defScope sNeeded) (by decide +kernel))
            (fun _ _ _ _ _ => pg_name (i := 3) scNeeded.nd rfl (Or.inl rfl)) (fun _ _ _ _ _ => pts_nil) (fun _ _ _ _ _ => pe_ix (r := rIxL K) ix_list (pv 1) (pv 3) (fun _ _ => rfl))) pa_nil)))
          (pg_sub (pv 1) (pv 2) set_list)))) <|
      pss_one (ps_ret (pv 1)), ?_⟩
    have tT : (T t).length ≤ sizeLine := by
      rw [T_len]
      exact small200 ht
    have e1 : (((T t).length : Int) + 1).toNat = t.length + 1 := by
      rw [T_len]
      omega
    refine ⟨by show 1 ≤ sizeLine; decide, fun p0 hp0 => ?_⟩
    have s0 : Same H (upd H p0 (.lst [.int 0])) := same_upd hp0
    have h0 : (upd H p0 (.lst [.int 0])) p0 = some (.lst [.int 0]) := upd_same
    generalize upd H p0 (.lst [.int 0]) = H0 at *
    refine ⟨_, rfl, T t, rfl, tT, _, 1, rfl, rfl, p0, _, _, rfl, rfl, h0, by rw [T_len]; omega, by rw [T_len]; omega, ?_, fun M0 hM0 => ?_⟩
    · rw [e1]
      exact Nat.le_of_lt (small1000 (show 1 * (t.length + 1) ≤ 1000 by omega))
    have hM0' : H M0 = none := by
      cases z : H M0 with
      | none => rfl
      | some o =>
        rw [s0 _ _ z] at hM0
        cases hM0
    have s1 : Same H (upd H0 M0 (.lst (List.replicate (((T t).length : Int) + 1).toNat [V.int 0]).flatten)) := s0.trans (same_upd hM0)
    have m0 : (upd H0 M0 (.lst (List.replicate (((T t).length : Int) + 1).toNat [V.int 0]).flatten)) M0 = some (.lst ((List.replicate (t.length + 1) 0).map nV)) := by
      rw [upd_same, e1]
      have rep : ∀ k, (List.replicate k [V.int 0]).flatten = (List.replicate k 0).map nV := fun k => by
        induction k with
        | zero => rfl
        | succ k ih =>
          rw [List.replicate_succ, List.replicate_succ, List.flatten_cons, ih]
          rfl
      rw [rep]
    generalize upd H0 M0 (.lst (List.replicate (((T t).length : Int) + 1).toNat [V.int 0]).flatten) = H1 at *
    have en : (((T t).length : Int) - 0).toNat = t.length := by
      rw [T_len]
      omega
    refine ⟨_, rfl, T t, rfl, tT, ((T t).length : Int), rfl, by decide, by decide, by rw [T_len]; omega, by rw [T_len]; omega, ?_⟩
    rw [en]
    refine for_rangeC (lo := 0 + ((t.length : Nat) : Int) - 1) (c := -1) (n := t.length) (fun k σ H' => Same H H' ∧ ∃ (M : List Nat) (y2 : Option V), σ = [some (.str (T t)), some (.ref M0), y2, none] ∧ H' M0 = some (.lst (M.map nV)) ∧ M.length = t.length + 1 ∧ ∀ x, t.length - k ≤ x → x ≤ t.length → M[x]? = some (need t x))
      ⟨s1, _, none, rfl, m0, List.length_replicate, fun x h1 h2 => ?_⟩ (fun k σ H' hk hW => ?_) (fun σ H' hW => ?_)
    · have e : x = t.length := by omega
      rw [e, List.getElem?_replicate, if_pos (by omega), need_end]
    · obtain ⟨sm, M, y2, rfl, hm, hl, hM⟩ := hW
      have ei : 0 + ((t.length : Nat) : Int) - 1 + (k : Int) * (-1) = ((t.length - 1 - k : Nat) : Int) := by omega
      have hi : t.length - 1 - k < t.length := by omega
      generalize hii : t.length - 1 - k = i at *
      refine ⟨_, rfl, _, rfl, t, i, by rw [ei]; rfl, ht, by omega, fun H2 L2 s2 hL2 h2 => ?_⟩
      refine ⟨L2, rfl, ⟨_, .inl (.inl h2)⟩, fun D hD => ?_⟩
      have hm2 := s2 _ _ hm
      refine lc_list (K := K) (a := L2) (xs := (endsL t i).map nV) (fun m H3 => Same H2 H3 ∧ H3 D = some (.lst ((((endsL t i).take m).map fun j => ((need t j : Nat) : Int)).map V.int))) ⟨same_upd hD, upd_same⟩ (fun m H3 _ hW => .inl (.inl (hW.1 _ _ h2))) (fun m x H3 hx hW => ?_) (fun H3 hW => ?_)
      · obtain ⟨s3, hd⟩ := hW
        obtain ⟨z, hz, rfl⟩ := lst_nat hx
        obtain ⟨z1, z2, _⟩ := mem_endsL.mp (List.mem_of_getElem? hz)
        refine ⟨rfl, _, rfl, _, rfl, M0, _, _, _, rfl, rfl, .inl (.inl (s3 _ _ hm2)), atI_nat (nats_at (hM z (by omega) z2)), _, hd, ?_, fun b u e => ?_, ?_⟩
        · rw [List.length_map, List.length_map, List.length_take]
          exact small1000 (by have := endsL_len t i; omega)
        · rw [upd_ne (ne_of_none e hD)]
          exact s3 b u e
        · rw [upd_same, take_succ_of hz, List.map_append, List.map_append]
          rfl
      · obtain ⟨s3, hd⟩ := hW
        rw [List.length_map, List.take_length] at hd
        obtain ⟨j, hj1, hj2, hj3⟩ := need_jp t hi
        refine ⟨D, _, rfl, .inl (.inl hd), ?_, fun m hm1 hm2' => ?_⟩
        · rw [List.length_map]
          exact List.length_pos_of_mem (mem_endsL.mpr hj1)
        · obtain ⟨j', hj', rfl⟩ := List.mem_map.mp hm1
          have le1 := hm2' _ (List.mem_map.mpr ⟨j, mem_endsL.mpr hj1, rfl⟩)
          have le2 := (hj3 j' (mem_endsL.mp hj')).1
          have e3 : (1 : Int) + ((need t j' : Nat) : Int) = ((need t i : Nat) : Int) := by omega
          refine ⟨1, _, rfl, rfl, _, rfl, _, rfl, M0, M.map nV, _, i, rfl, rfl, s3 _ _ hm2, ?_, fun b u e => ?_, M.set i (need t i), _, rfl, ?_, ?_, fun x h1 h2 => ?_⟩
          · rw [ei, List.length_map, hl]
            exact ixNat (by omega)
          · rw [upd_ne (ne_of_none e hM0')]
            exact s3 b u (s2 b u (sm b u e))
          · rw [upd_same]
            show some (HO.lst ((M.map nV).set i (V.int (1 + ((need t j' : Nat) : Int))))) = _
            rw [e3]
            show some (HO.lst ((M.map nV).set i (nV (need t i)))) = _
            rw [set_nats]
          · rw [List.length_set, hl]
          · by_cases c : x = i
            · rw [c, List.getElem?_set_self (by omega)]
            · rw [List.getElem?_set_ne (by omega)]
              exact hM x (by omega) h2
    · obtain ⟨sm, M, y2, rfl, hm, hl, hM⟩ := hW
      exact ⟨_, rfl, q H' M0 M sm hM0' hm hl fun x hx => hM x (by omega) hx⟩
theorem ok_fewest {f : Addr} {fd : FuncData} (F : Fun K "fewest" "fewest" sFewest f fd) (FT : Fn Pr w K mg base (L2.CX Pr w) 2 "refuse_no_text" fT dT ["text"] (spNoT K P BT)) (FN : Fn Pr w K mg base CX0 3 "words_needed" fN dN ["text"] spNeeded)
    (FE : Fn Pr w K mg base CX0 2 "ends_from" fE dE ["text", "start"] spEndsF) (ml : mg "len" = none) (mx : mg "max" = none) : FnOk Pr w K mg base (L2.CX Pr w) 4 f fd ["text"] (spFewest K P BT) := by
  refine F.okX scFewest (fun vs H Q E h => ?_) (fun cdv A outer s H vs Q E hr h => ?_)
  · obtain ⟨x, rfl, _⟩ := h
    rfl
  · obtain ⟨x, rfl, tab, th, qE, q⟩ := h
    refine ⟨_, pss_cons (ps_expr (pe_call (E := E) FT.ok (hr.mono (by decide)) (by rfl) FT.g FT.k FT.b .nil (passes_call (takes_of rfl rfl rfl rfl) (fun _ _ _ _ h => h)) (pa_cons (pv 0) pa_nil))) <|
      PSs.nox <| pss_cons (ps_set (i := 1) scFewest.nd rfl (.inr rfl) (pe_call FN.ok hr (by rfl) FN.g FN.k FN.b .nil pass0 (pa_cons (pv 0) pa_nil))) <|
      pss_cons (ps_set (i := 2) scFewest.nd rfl (.inl rfl) (pe_lst pa_nil)) <|
      pss_cons (ps_set (i := 3) scFewest.nd rfl (.inr rfl) pe_int) <|
      pss_cons (ps_while PassesOwn.never (pt_cmpR op_lt (pv 3) (pe_callB call_len_str (by rfl) ml PySem.boot_len (pa_cons (pv 0) pa_nil)) (nomark _))
        (pss_cons (ps_set (i := 4) scFewest.nd rfl (.inl rfl) (pe_callB (cr_max rfl) (by rfl) mx (by decide +kernel) (pa_cons (pe_lc (own := [("end", 5)]) (g := gName 5) rfl scFewest.nd
            (pi_list (pe_call FE.ok (hr.mono (by decide)) (by rfl) FE.g FE.k FE.b .nil pass0 (pa_cons (pv 0) (pa_cons (pv 3) pa_nil)))) (blkOk_by (own := [("end", 5)]) (N := nFewest) (sc := defScope sFewest) (by decide +kernel))
            (fun _ _ _ _ _ => pg_name (i := 5) scFewest.nd rfl (Or.inl rfl)) (fun _ _ _ _ _ => pts_one (pt_cmpR op_eq (pe_ix (r := rIxL K) ix_list (pv 1) (pv 5) (fun _ _ => rfl)) (pe_op op_sub (pe_ix (r := rIxL K) ix_list (pv 1) (pv 3) (fun _ _ => rfl)) pe_int) (nomark _))) (fun _ _ _ _ _ => pv 5)) pa_nil))) <|
        pss_cons (ps_expr (pe_bm PySem.F.plainAttrs_list PySem.F.slot_list_append PySem.F.type_list_append mt_append (pv 2) (pa_cons (pe_slice sl_str (pv 0) (po_some (pv 3)) (po_some (pv 4))) pa_nil))) <|
        pss_one (ps_set (i := 3) scFewest.nd rfl (.inr rfl) (pv 4)))) <|
      pss_one (ps_ret (pv 2)), ?_⟩
    refine ⟨_, rfl, x, rfl, tab, th, qE, fun e H1 hT => ?_⟩
    cases th with
    | other _ _ no =>
      rw [no] at e
      cases e
    | text t ht0 =>
      have ht : t.length ≤ 200 := isT_le e
      have tT : (T t).length ≤ sizeLine := by
        rw [T_len]
        exact small200 ht
      have kp1 : Kp P H H1 := .tabbed hT
      refine ⟨_, rfl, t, rfl, ht, fun H2 M0 M s2 hM0 hm hl hM => ?_⟩
      have kp2 : Kp P H H2 := kp1.trans (.same kp1.tab s2)
      refine ⟨Nat.zero_le _, fun L0 hL0 => ?_⟩
      have kp3 : Kp P H (upd H2 L0 (.lst [])) := kp2.step hL0
      have hL0' : H L0 = none := kp2.free tab hL0
      have hLP : L0 ≠ P := new_ne kp2.tab hL0
      have hML : M0 ≠ L0 := ne_of_none hm hL0
      refine ⟨fun n σ H' => Kp P H H' ∧ H' M0 = some (.lst (M.map nV)) ∧ ∃ (x : Nat) (PL : List (List Nat)) (y4 : Option V), σ = [some (.str (T t)), some (.ref M0), some (.ref L0), some (.int (x : Int)), y4, none] ∧ H' L0 = some (.lst (PL.map sV)) ∧ x ≤ t.length ∧ PL.length ≤ x ∧ PL ++ prt t x = prt t 0 ∧ n = t.length - x,
        ⟨t.length, kp3, by rw [upd_ne hML]; exact hm, 0, [], none, rfl, upd_same, Nat.zero_le _, Nat.le_refl _, rfl, rfl⟩, fun n σ H' hW => ?_⟩
      obtain ⟨kp, hm', x, PL, y4, rfl, hL, hx, hPl, hP, rfl⟩ := hW
      refine ⟨_, rfl, _, rfl, T t, rfl, tT, _, _, rfl, rfl, _, rfl, ?_⟩
      show if decide ((x : Int) < ((T t).length : Int)) = true then _ else _
      rw [T_len]
      by_cases c : x < t.length
      · rw [decide_eq_true (show (x : Int) < ((t.length : Nat) : Int) by omega)]
        obtain ⟨⟨j1, j2, j3⟩, jn, jl⟩ := jmp_ok t c
        refine iteT ⟨fun σ' H2 => Kp P H H2 ∧ H2 M0 = some (.lst (M.map nV)) ∧ ∃ y4, σ' = [some (.str (T t)), some (.ref M0), some (.ref L0), some (.int (jmp t x : Int)), y4, none] ∧ H2 L0 = some (.lst ((PL ++ [str t x (jmp t x)]).map sV)), fun σ' H2 hN => ?_, ?_⟩
        · obtain ⟨k2, m2, y, e2, l2⟩ := hN
          refine ⟨t.length - jmp t x, by omega, k2, m2, jmp t x, PL ++ [str t x (jmp t x)], y, e2, l2, j2, ?_, ?_, rfl⟩
          · rw [List.length_append]
            show PL.length + 1 ≤ jmp t x
            omega
          · rw [← hP, prt_step c, List.append_assoc]
            rfl
        · refine ⟨_, rfl, _, rfl, t, x, rfl, ht, by omega, fun H3 E0 s3 hE0 h3 => ?_⟩
          refine ⟨E0, rfl, ⟨_, .inl (.inl h3)⟩, fun D hD => ?_⟩
          have kp3 : Kp P H H3 := kp.trans (.same kp.tab s3)
          have hm3 := s3 _ _ hm'
          have hL3 := s3 _ _ hL
          refine lc_list (K := K) (a := E0) (xs := (endsL t x).map nV) (fun m H4 => Same H3 H4 ∧ H4 D = some (.lst (((((endsL t x).take m).filter fun j => decide (need t j + 1 = need t x)).map fun j => ((j : Nat) : Int)).map V.int))) ⟨same_upd hD, upd_same⟩ (fun m H4 _ hW => .inl (.inl (hW.1 _ _ h3))) (fun m v H4 hv hW => ?_) (fun H4 hW => ?_)
          · obtain ⟨s4, hd⟩ := hW
            obtain ⟨z, hz, rfl⟩ := lst_nat hv
            obtain ⟨z1, z2, _⟩ := mem_endsL.mp (List.mem_of_getElem? hz)
            have hx1 : 1 ≤ need t x := by omega
            refine ⟨rfl, _, rfl, _, rfl, M0, _, _, _, rfl, rfl, .inl (.inl (s4 _ _ hm3)), atI_nat (nats_at (hM z z2)), _, rfl, _, rfl, M0, _, _, _, rfl, rfl, .inl (.inl (s4 _ _ hm3)), atI_nat (nats_at (hM x (by omega))), _, 1, rfl, rfl, rfl, _, rfl, ?_⟩
            have ed : decide (nV (need t z) = V.int (((need t x : Nat) : Int) - 1)) = decide (need t z + 1 = need t x) := by
              show decide (V.int ((need t z : Nat) : Int) = V.int (((need t x : Nat) : Int) - 1)) = _
              rw [dec_int]
              by_cases d : need t z + 1 = need t x
              · rw [decide_eq_true d, decide_eq_true (by omega)]
              · rw [decide_eq_false d, decide_eq_false (by omega)]
            show if decide (nV (need t z) = V.int (((need t x : Nat) : Int) - 1)) = true then _ else _
            rw [ed, take_succ_of hz, List.filter_append]
            cases cd : decide (need t z + 1 = need t x) with
            | true =>
              refine iteT ⟨_, rfl, _, hd, ?_, fun b u e => ?_, ?_⟩
              · rw [List.length_map, List.length_map]
                refine small1000 (Nat.le_trans (List.length_filter_le _ _) ?_)
                rw [List.length_take]
                have := endsL_len t x
                omega
              · rw [upd_ne (ne_of_none e hD)]
                exact s4 b u e
              · rw [upd_same, List.filter_cons_of_pos (by exact cd), List.filter_nil, List.map_append, List.map_append]
                rfl
            | false =>
              refine iteF ⟨s4, ?_⟩
              rw [List.filter_cons_of_neg (by rw [cd]; exact Bool.false_ne_true), List.filter_nil, List.append_nil]
              exact hd
          · obtain ⟨s4, hd⟩ := hW
            rw [List.length_map, List.take_length] at hd
            have jin : jmp t x ∈ (endsL t x).filter fun j => decide (need t j + 1 = need t x) := List.mem_filter.mpr ⟨mem_endsL.mpr ⟨j1, j2, j3⟩, decide_eq_true (by omega)⟩
            refine ⟨D, _, rfl, .inl (.inl hd), ?_, fun m hm1 hm2 => ?_⟩
            · rw [List.length_map]
              exact List.length_pos_of_mem jin
            · obtain ⟨z, hz, rfl⟩ := List.mem_map.mp hm1
              obtain ⟨z1, z2⟩ := List.mem_filter.mp hz
              have z2 := of_decide_eq_true z2
              have le := hm2 _ (List.mem_map.mpr ⟨jmp t x, jin, rfl⟩)
              have ez : z = jmp t x := by
                by_cases lt : jmp t x < z
                · have := (jl z (mem_endsL.mp z1)).2 lt
                  omega
                · omega
              subst ez
              have k4 : Kp P H H4 := kp3.trans (.same kp3.tab s4)
              refine ⟨_, rfl, .inl ⟨rfl, _, .inl (.inl (s4 _ _ hL3))⟩, _, rfl, _, rfl, _, rfl, _, rfl, _, rfl, T t, rfl, tT, L0, _, _, rfl, rfl, s4 _ _ hL3, ?_, _, rfl, k4.own hL0' hLP, ?_, _, rfl, ?_⟩
              · rw [List.length_map]
                exact small1000 (by omega)
              · rw [upd_ne hML]
                exact s4 _ _ hm3
              · rw [upd_same, cut_str (by omega) j2, List.map_append]
                rfl
      · rw [decide_eq_false (show ¬ (x : Int) < ((t.length : Nat) : Int) by omega)]
        have ex : x = t.length := by omega
        subst ex
        rw [prt_end, List.append_nil] at hP
        subst hP
        exact iteF ⟨_, rfl, q e t rfl ht H' L0 kp hL0' hL⟩
end
end Mw
namespace Mw
open PySem PySem.Spec PyProof.Rows L2

/-! ### how many mirror words of each length, by the arms -/
abbrev nLL : List Str := ["_law_text_here", "_law_found", "_law_middle", "_law_arm", "_law_step", "_law_long"]
theorem scLL : FnScope nLL ["_law_text_here"] (defScope sLLengths) := ⟨rfl, rfl, rfl, by decide +kernel, rfl, by decide +kernel, by decide +kernel⟩
section
variable {Pr : Program} {w : World} {K : PySem.W.Frag} {mg : Str → Option Value} {base : Heap} {P BT fA : Addr} {dA : FuncData}
theorem ok_llengths {f : Addr} {fd : FuncData} (F : Fun K "_law_lengths" "_law_lengths" sLLengths f fd) (FA : Fn Pr w K mg base (L2.CX Pr w) 3 "arms" fA dA ["text"] (spArms K P BT)) (me : mg "enumerate" = none) (mr : mg "range" = none) :
    FnOk Pr w K mg base CX0 4 f fd ["_law_text_here"] (spLengths P) := by
  refine F.ok scLL (fun vs H Q E h => ?_) (fun cdv A outer s H vs Q E hr h => ?_)
  · obtain ⟨l, rfl, _⟩ := h
    rfl
  · obtain ⟨l, rfl, hl, hz, tab, q⟩ := h
    have hu := hu_of hr
    refine ⟨_, pss_cons (ps_set (i := 1) scLL.nd rfl (.inl rfl) pe_dnewK) <|
      pss_cons (ps_for PassesOwn.never rfl (pi_enum (by rfl) me (pa_cons (pe_call FA.ok hr (by rfl) FA.g FA.k FA.b .nil passL (pa_cons (pv 0) pa_nil)) pa_nil)) (pg_tup (by rfl) (pgs_cons (pg_name (i := 2) scLL.nd rfl (.inl rfl)) (pgs_cons (pg_name (i := 3) scLL.nd rfl (.inl rfl)) pgs_nil)))
        (pss_one (ps_for PassesOwn.never rfl (pi_range1 (by rfl) mr (pa_cons (pe_op op_add (pe_op op_sub pe_int (pe_op op_modN (pv 2) pe_int)) (pv 3)) pa_nil)) (pg_name (i := 4) scLL.nd rfl (.inl rfl))
          (pss_cons (ps_set (i := 5) scLL.nd rfl (.inl rfl) (pe_op op_sub (pe_op op_add (pe_op op_mul pe_int (pe_op op_add (pv 4) (pe_op op_modN (pv 2) pe_int))) pe_int) (pe_op op_modN (pv 2) pe_int))) <|
          pss_one (ps_dput hu (pv 1) (pv 5) (pe_op op_add (pe_dget2 hu (pv 1) (pv 5) pe_int ⟨by rfl, by rfl, by rfl, by rfl⟩) pe_int) rfl))))) <|
      pss_one (ps_ret (pv 1)), ?_⟩
    intro D hD
    have s1 : Same H (upd H D (.dK [])) := same_upd hD
    have h1 : (upd H D (.dK [])) D = some (.dK []) := upd_same
    generalize upd H D (.dK []) = H1 at *
    have tab1 : GxR.TabG H1 P := (Kp.same tab s1).tab
    have nDP : D ≠ P := new_ne tab hD
    have good : isT (.str (T l)) = true := isT_mk hz (by omega)
    refine ⟨_, rfl, .str (T l), rfl, tab1, .text l (small200 (by omega)), (fun no => absurd (good.symm.trans no) (by decide)), fun _ l2 el _ H2 pA kp2 hpA hA => ?_⟩
    obtain rfl : l = l2 := T_inj (V.str.inj el)
    have npA : D ≠ pA := ne_of_none h1 hpA
    have hd2 := kp2.keep _ _ nDP h1
    have kp0 : Kp P H H2 := (Kp.same tab s1).trans kp2
    have hpl : ((armsL l).map nV).length = 2 * l.length - 1 := by rw [List.length_map, armsL_len]
    refine ⟨pA, _, rfl, .inl (.inl hA), ?_⟩
    refine for_it (walk_enum (K := K) (a := pA) (xs := (armsL l).map nV)) (fun m σ H' => Kp P H H' ∧ H' pA = some (.lst ((armsL l).map nV)) ∧ ∃ kvs, H' D = some (.dK kvs) ∧ CntI kvs (fun L => ac l L m) ∧ kvs.length ≤ m * 300 ∧ ∃ y2 y3 y4 y5, σ = [some (.str (T l)), some (.ref D), y2, y3, y4, y5])
      ⟨kp0, hA, [], hd2, CntI.nil.congr fun L => rfl, Nat.zero_le _, _, _, _, _, rfl⟩ (fun m σ H' _ hW => .inl (.inl hW.2.1)) (fun m v σ H3 H4 hm hW hy => ?_) (fun σ H' hW => ?_)
    · rw [hpl] at hm
      obtain ⟨kp3, hA3, kvs, hd3, cn, ln, y2, y3, y4, y5, rfl⟩ := hW
      obtain ⟨T', x1, x2, rfl, hT, rfl, e1, e2⟩ := hy
      cases Option.some.inj e1
      have e2 : ((armsL l).map nV)[m]? = some x2 := e2
      rw [nats_at (armsL_at hm)] at e2
      cases Option.some.inj e2
      have kp4 : Kp P H (upd H3 T' (.tup [.int (m : Nat), nV (armL l m)])) := kp3.step hT
      have hd4 : (upd H3 T' (.tup [.int (m : Nat), nV (armL l m)])) D = some (.dK kvs) := by
        rw [upd_ne (ne_of_none hd3 hT)]
        exact hd3
      have hA4 : (upd H3 T' (.tup [.int (m : Nat), nV (armL l m)])) pA = some (.lst ((armsL l).map nV)) := by
        rw [upd_ne (ne_of_none hA3 hT)]
        exact hA3
      have hT2 : (upd H3 T' (.tup [.int (m : Nat), nV (armL l m)])) T' = some (.tup [.int (m : Nat), nV (armL l m)]) := upd_same
      generalize upd H3 T' (.tup [.int (m : Nat), nV (armL l m)]) = H4 at *
      have hrm : armL l m ≤ 200 := by
        have := armL_room hm
        unfold roomN at this
        omega
      refine ⟨T', _, rfl, .inl (.inl hT2), rfl, _, _, rfl, _, _, rfl, rfl, ?_⟩
      have en : (1 - ((m : Int)).fmod 2 + ((armL l m : Nat) : Int)) = ((1 - m % 2 + armL l m : Nat) : Int) := by
        rw [mod2N]
        omega
      refine ⟨_, rfl, _, 2, rfl, rfl, show (2 : Int) ≠ 0 by decide, 1, _, rfl, rfl, _, rfl, _, _, rfl, rfl, ?_⟩
      refine ⟨(1 - ((m : Int)).fmod 2 + ((armL l m : Nat) : Int)), rfl, by rw [en]; omega, by rw [en]; omega, ?_⟩
      have en2 : (1 - ((m : Int)).fmod 2 + ((armL l m : Nat) : Int)).toNat = 1 - m % 2 + armL l m := by rw [en]; omega
      refine for_range (lo := 0) (n := (1 - ((m : Int)).fmod 2 + ((armL l m : Nat) : Int)).toNat) (fun j σ H' => Kp P H H' ∧ H' pA = some (.lst ((armsL l).map nV)) ∧ ∃ kvs, H' D = some (.dK kvs) ∧ CntI kvs (acj l m j) ∧ kvs.length ≤ m * 300 + j ∧ ∃ y4 y5, σ = [some (.str (T l)), some (.ref D), some (.int (m : Int)), some (.int (armL l m : Int)), y4, y5])
        ⟨kp4, hA4, kvs, hd4, cn.congr (acj_start l m), ln, _, _, rfl⟩ (fun j σ H' hj hW => ?_) (fun σ H' hW => ?_)
      · rw [en2] at hj
        obtain ⟨kp5, hA5, kv5, hd5, cn5, ln5, y4, y5, rfl⟩ := hW
        have el : (2 * (0 + (j : Int) + ((m : Int)).fmod 2) + 1 - ((m : Int)).fmod 2) = ((2 * j + 1 + m % 2 : Nat) : Int) := by
          rw [mod2N]
          omega
        refine ⟨_, rfl, _, rfl, _, 2, rfl, rfl, show (2 : Int) ≠ 0 by decide, _, _, rfl, rfl, 2, _, rfl, rfl, .inl ⟨by decide, by decide⟩, _, 1, rfl, rfl, _, rfl, _, 2, rfl, rfl, show (2 : Int) ≠ 0 by decide, _, _, rfl, rfl, ?_⟩
        show gName 5 (V.int (2 * (0 + (j : Int) + ((m : Int)).fmod 2) + 1 - ((m : Int)).fmod 2)) _ _ _
        rw [el]
        have st := acj_step l m j
        generalize 2 * j + 1 + m % 2 = s at *
        refine ⟨_, rfl, D, rfl, .inl ⟨kv5, .inl hd5⟩, _, rfl, _, DGet.k (k := kI s) hd5, ?_⟩
        rw [cn5.at_]
        have lb : kv5.length < sizeLine := Nat.lt_of_le_of_lt (show kv5.length ≤ 60500 by have : m * 300 ≤ 200 * 300 := Nat.mul_le_mul_right _ (by omega); omega) (by decide)
        refine ⟨_, 1, rfl, rfl, _, rfl, _, rfl, D, _, rfl, DPut.k (k := kI s) hd5 lb, ?_⟩
        refine ⟨kp5.own hD nDP, ?_, _, upd_same, (cn5.put s (n := 1) (by decide)).congr fun L => st L, ?_, _, _, rfl⟩
        · rw [upd_ne (Ne.symm npA)]
          exact hA5
        · have lp := length_putK kv5 (kI s) (.int ((acj l m j s : Nat) + 1))
          exact Nat.le_trans lp (by omega)
      · rw [en2] at hW
        obtain ⟨kp5, hA5, kv5, hd5, cn5, ln5, y4, y5, rfl⟩ := hW
        refine ⟨kp5, hA5, kv5, hd5, cn5.congr fun L => (acj_stop l m L).symm, by omega, _, _, _, _, rfl⟩
    · rw [hpl] at hW
      obtain ⟨kp3, hA3, kvs, hd3, cn, ln, y2, y3, y4, y5, rfl⟩ := hW
      exact ⟨_, rfl, q H' D kvs kp3 hD hd3 cn⟩
end
end Mw
namespace Mw
open PySem PySem.Spec PyProof.Rows L2

/-! ### how many mirror words of each length, by a book -/
theorem scLT : FnScope ["_law_book", "_law_found", "_law_word"] ["_law_book"] (defScope sLTold) := ⟨rfl, rfl, rfl, by decide +kernel, rfl, by decide +kernel, by decide +kernel⟩
section
variable {Pr : Program} {w : World} {K : PySem.W.Frag} {mg : Str → Option Value} {base : Heap} {P C BW fW fC : Addr} {dW dC : FuncData}
theorem ok_ltold {f : Addr} {fd : FuncData} (F : Fun K "_law_told" "_law_told" sLTold f fd) (B : BkC K mg C) (FW : Me Pr w K mg base CX0 4 C "words" fW dW ["self"] (spWords C)) (FC : Me Pr w K mg base (L2.CX Pr w) 4 C "count" fC dC ["self", "word"] (spCount K P C BW))
    (ml : mg "len" = none) : FnOk Pr w K mg base CX0 5 f fd ["_law_book"] (spTold P C) := by
  refine F.ok scLT (fun vs H Q E h => ?_) (fun cdv A outer s H vs Q E hr h => ?_)
  · obtain ⟨b, l, rfl, _⟩ := h
    rfl
  · obtain ⟨b, l, rfl, k, hl, tab, q⟩ := h
    have hu := hu_of hr
    refine ⟨_, pss_cons (ps_set (i := 1) scLT.nd rfl (.inl rfl) pe_dnewK) <|
      pss_cons (ps_for PassesOwn.never rfl (pi_list (pe_meth0 (pv 0) B.cl FW.m FW.ok hr FW.b .nil pass0)) (pg_name (i := 2) scLT.nd rfl (.inl rfl))
        (pss_one (ps_dput hu (pv 1) (pe_callB call_len_str (by rfl) ml PySem.boot_len (pa_cons (pv 2) pa_nil)) (pe_op op_add (pe_dget2 hu (pv 1) (pe_callB call_len_str (by rfl) ml PySem.boot_len (pa_cons (pv 2) pa_nil)) pe_int ⟨by rfl, by rfl, by rfl, by rfl⟩)
          (pe_meth (pv 0) B.cl FC.m FC.ok hr FC.b .nil passL (pa_cons (pv 2) pa_nil))) rfl))) <|
      pss_one (ps_ret (pv 1)), ?_⟩
    obtain ⟨dx, hb⟩ := k.ob
    have nbP := k.ne tab
    intro D hD
    have s1 : Same H (upd H D (.dK [])) := same_upd hD
    have h1 : (upd H D (.dK [])) D = some (.dK []) := upd_same
    generalize upd H D (.dK []) = H1 at *
    have tab1 : GxR.TabG H1 P := (Kp.same tab s1).tab
    have nDP : D ≠ P := new_ne tab hD
    have k1 := k.same s1
    have hb1 := s1 _ _ hb
    refine ⟨_, rfl, b, dx, bf l, rfl, hb1, bf_no l (by decide +kernel), b, l, rfl, k1, fun H2 p2 s2 hp2 h2 => ⟨p2, rfl, ⟨_, .inl (.inl h2)⟩, ?_⟩⟩
    have npD : D ≠ p2 := ne_of_none h1 hp2
    have hd2 := s2 _ _ h1
    have kp2 : Kp P H H2 := .same tab (s1.trans s2)
    have lr := rows_len l
    have rm : ∀ w ∈ rows l, isM (sV w) = true ∧ w.length ≤ 100 := fun w hw => by
      have y := rows_mem.mp hw
      have z : w.length ≤ 100 := Nat.le_trans y.2.2.length_le hl
      refine ⟨?_, z⟩
      show isM (.str (T w)) = true
      rw [isM_T, isT_mk (wd_az y k.az) (by omega), decide_eq_true (List.length_pos_iff.mpr y.1), y.2.1]
      rfl
    refine for_list (K := K) (a := p2) (xs := (rows l).map sV) (fun i σ H' => Kp P H H' ∧ H' p2 = some (.lst ((rows l).map sV)) ∧ ∃ kvs, H' D = some (.dK kvs) ∧ CntI kvs (tw l ((rows l).take i)) ∧ kvs.length ≤ i ∧ ∃ y2, σ = [some (.ref b), some (.ref D), y2])
      ⟨kp2, h2, [], hd2, CntI.nil.congr fun L => rfl, Nat.le_refl _, _, rfl⟩ (fun i σ H' _ hW => .inl (.inl hW.2.1)) (fun i x σ H' hx hW => ?_) (fun σ H' hW => ?_)
    · obtain ⟨kp3, hp3, kvs, hd3, cn, ln, y2, rfl⟩ := hW
      obtain ⟨m, em, rfl⟩ : ∃ m, (rows l)[i]? = some m ∧ x = sV m := by
        rw [List.getElem?_map] at hx
        cases e : (rows l)[i]? with
        | none =>
          rw [e] at hx
          cases hx
        | some m =>
          rw [e] at hx
          exact ⟨m, rfl, (Option.some.inj hx).symm⟩
      have il : i < (rows l).length := (List.getElem?_eq_some_iff.mp em).1
      have mm := List.mem_of_getElem? em
      obtain ⟨good, lm⟩ := rm m mm
      have mT : (T m).length ≤ sizeLine := by
        rw [T_len]
        exact small200 (by omega)
      have hb3 := kp3.keep _ _ nbP hb
      have k3 := k.kp tab kp3
      refine ⟨_, rfl, D, rfl, .inl ⟨kvs, .inl hd3⟩, _, rfl, T m, rfl, mT, ?_⟩
      rw [T_len]
      refine ⟨_, DGet.k (k := kI m.length) hd3, ?_⟩
      rw [cn.at_]
      refine ⟨_, rfl, b, dx, bf l, rfl, hb3, bf_no l (by decide +kernel), _, rfl, b, sV m, l, rfl, k3, kp3.tab, .text m (small200 (by omega)), (fun e => absurd (good.symm.trans e) (by decide)), fun e w' ew H4 kp4 => ?_⟩
      obtain rfl : m = w' := T_inj (V.str.inj ew)
      have hd4 : H4 D = some (.dK kvs) := kp4.keep _ _ nDP hd3
      have hp4 := kp4.lst kp3.tab hp3
      refine ⟨_, _, rfl, rfl, _, rfl, _, rfl, T m, rfl, mT, ?_⟩
      rw [T_len]
      have lb : kvs.length < sizeLine := Nat.lt_of_le_of_lt (show kvs.length ≤ 1000 by omega) (by decide)
      refine ⟨D, _, rfl, DPut.k (k := kI m.length) hd4 lb, ?_⟩
      rw [take_succ_of em]
      refine ⟨(kp3.trans kp4).own hD nDP, ?_, _, upd_same, (cn.put m.length (n := occ l m) (occ_pos mm)).congr fun L => tw_more l _ m L, ?_, _, rfl⟩
      · rw [upd_ne (Ne.symm npD)]
        exact hp4
      · have lp := length_putK kvs (kI m.length) (.int ((tw l ((rows l).take i) m.length : Nat) + (occ l m : Nat)))
        exact Nat.le_trans lp (by omega)
    · obtain ⟨kp3, hp3, kvs, hd3, cn, ln, y2, rfl⟩ := hW
      rw [List.length_map, List.take_length] at cn
      exact ⟨_, rfl, q H' D kvs kp3 hD hd3 (cn.congr fun L => (tw_ac l L).symm)⟩
end
end Mw
namespace Mw
open PySem PySem.Spec PyProof.Rows L2

/-! ### a book grown from a place to both sides -/
theorem scLG : FnScope ["_law_text_here", "_law_at", "_law_cell", "_law_book", "_law_left", "_law_right_here"] ["_law_text_here", "_law_at", "_law_cell"] (defScope sLGrown) := ⟨rfl, rfl, rfl, by decide +kernel, rfl, by decide +kernel, by decide +kernel⟩
theorem str_more {t : List Nat} {i j : Nat} (hij : i ≤ j) (h : j < t.length) : str t i (j + 1) = str t i j ++ [t[j]] := by
  unfold str
  rw [show j + 1 - i = j - i + 1 by omega, List.take_add_one, List.getElem?_drop, show i + (j - i) = j by omega, List.getElem?_eq_getElem h]
  rfl
theorem str_front {t : List Nat} {i j : Nat} (hij : i < j) (h : i < t.length) : str t i j = t[i] :: str t (i + 1) j := by
  unfold str
  rw [List.drop_eq_getElem_cons h, show j - i = j - (i + 1) + 1 by omega, List.take_succ_cons]
theorem str_all (t : List Nat) : str t 0 t.length = t := by
  unfold str
  rw [List.drop_zero, Nat.sub_zero, List.take_length]
theorem str_same (t : List Nat) (i : Nat) : str t i i = [] := by
  unfold str
  rw [Nat.sub_self, List.take_zero]
section
variable {Pr : Program} {w : World} {K : PySem.W.Frag} {mg : Str → Option Value} {base : Heap} {P C BT BL FU fI fP fP1 : Addr} {dI dP dP1 : FuncData} {dts : List Value}
theorem ok_lgrown {f : Addr} {fd : FuncData} (F : Fun K "_law_grown" "_law_grown" sLGrown f fd) (B : BkC K mg C) (M : Mk K C fI) (GI : FnOk Pr w K mg base (L2.CX Pr w) 3 fI dI ["self", "text"] (spBInit K P C BT)) (b1 : Binds K dI ["self", "text"] dts) (v1 : Vals [.str (T [])] dts)
    (FP : Me Pr w K mg base (L2.CX Pr w) 3 C "put_last" fP dP ["self", "letter"] (spPut K P C BL FU (fun l c => l ++ [c]) lps)) (FP1 : Me Pr w K mg base (L2.CX Pr w) 4 C "put_first" fP1 dP1 ["self", "letter"] (spPut K P C BL FU (fun l c => c :: l) fun l => lps l.reverse))
    (ml : mg "len" = none) : FnOk Pr w K mg base CX0 5 f fd ["_law_text_here", "_law_at", "_law_cell"] (spGrown P C) := by
  refine F.ok scLG (fun vs H Q E h => ?_) (fun cdv A outer s H vs Q E hr h => ?_)
  · obtain ⟨l, i, z, rfl, _⟩ := h
    rfl
  · obtain ⟨t, a, z, rfl, ha, ht, hz, tab, q⟩ := h
    refine ⟨_, pss_cons (ps_set (i := 3) scLG.nd rfl (.inl rfl) (pe_make0 M GI hr (by rfl) B.g b1 v1 passL)) <|
      pss_cons (ps_set (i := 4) scLG.nd rfl (.inl rfl) (pv 1)) <|
      pss_cons (ps_set (i := 5) scLG.nd rfl (.inl rfl) (pv 1)) <|
      pss_cons (ps_while PassesOwn.never (PW.pt (pw_or (pt_cmpR op_gt (pv 4) pe_int (nomark _)) (pw_or1 (pt_cmpR op_lt (pv 5) (pe_callB call_len_str (by rfl) ml PySem.boot_len (pa_cons (pv 0) pa_nil)) (nomark _)))))
        (pss_cons (ps_set (i := 2) scLG.nd rfl (.inl rfl) (pe_op op_modN (pe_op op_add (pe_op op_mul (pv 2) pe_int) pe_int) pe_int)) <|
        pss_one (ps_if (PW.pt (pw_and (pt_cmpR op_lt (pv 5) (pe_callB call_len_str (by rfl) ml PySem.boot_len (pa_cons (pv 0) pa_nil)) (nomark _)) (pw_and1 (PW.pt (pw_or (pt_cmpR op_eq (pv 4) pe_int (nomark _))
            (pw_or1 (pt_cmpR op_eq (pe_op op_modN (pe_op op_fdivN (pv 2) pe_int) pe_int) pe_int (nomark _))))))))
          (pss_cons (ps_expr (pe_meth (pv 3) B.cl FP.m FP.ok (hr.mono (by decide)) FP.b .nil passL (pa_cons (pe_ix ix_str (pv 0) (pv 5) (fun _ _ => rfl)) pa_nil))) <|
            pss_one (ps_set (i := 5) scLG.nd rfl (.inl rfl) (pe_op op_add (pv 5) pe_int)))
          (pss_cons (ps_set (i := 4) scLG.nd rfl (.inl rfl) (pe_op op_sub (pv 4) pe_int)) <|
            pss_one (ps_expr (pe_meth (pv 3) B.cl FP1.m FP1.ok hr FP1.b .nil passL (pa_cons (pe_ix ix_str (pv 0) (pv 4) (fun _ _ => rfl)) pa_nil))))))) <|
      pss_one (ps_ret (pv 3)), ?_⟩
    have tT : (T t).length ≤ sizeLine := by
      rw [T_len]
      exact small200 (by omega)
    have az_at : ∀ j (h : j < t.length), az t[j] = true := fun j h => List.all_eq_true.mp hz _ (List.getElem_mem h)
    intro b dx hb hdx nxd
    have tabU : GxR.TabG (upd (upd H dx (.own b)) b (.ins C dx [])) P := by
      obtain ⟨ps, b1, b2⟩ := tab
      exact ⟨ps, by rw [upd_ne (ne_of_none b1 hb), upd_ne (ne_of_none b1 hdx)]; exact b1, b2⟩
    refine ⟨b, dx, .str (T []), rfl, upd_same, tabU, .text [] (small200 (by decide)), (fun e => absurd ((isT_mk (l := []) rfl (by decide)).symm.trans e) (by decide)), fun l el _ _ H1 kp k1 => ⟨rfl, ?_⟩⟩
    obtain rfl : [] = l := T_inj (V.str.inj el)
    have kk : KpB P b H H1 := ⟨kp.tab, fun c o h1 h2 e => kp.keep c o h1 h2 (by rw [upd_ne h2, upd_ne (ne_of_none e hdx)]; exact e)⟩
    clear kp tabU hdx nxd
    refine ⟨_, rfl, _, rfl, ?_⟩
    refine ⟨fun n σ H' => KpB P b H H' ∧ ∃ (lf rg : Nat) (z : Int), n = lf + (t.length - rg) ∧ lf ≤ rg ∧ rg ≤ t.length ∧ BkAt C H' b (str t lf rg) ∧ σ = [some (.str (T t)), some (.int (a : Int)), some (.int z), some (.ref b), some (.int (lf : Int)), some (.int (rg : Int))],
      ⟨_, kk, a, a, z, rfl, Nat.le_refl _, ha, by rw [str_same]; exact k1, rfl⟩, fun n σ H2 hW => ?_⟩
    obtain ⟨kp2, lf, rg, z2, hn, h12, h2t, k2, rfl⟩ := hW
    obtain ⟨dx2, hb2⟩ := k2.ob
    have ls : (str t lf rg).length ≤ 100 := by
      have := str_len (t := t) (i := lf) (j := rg)
      omega
    have stop : lf = 0 → rg = t.length → Q (.ref b) H2 := fun e1 e2 => by
      rw [e1, e2, str_all] at k2
      exact q H2 b ⟨kp2.tab, fun c o n h => kp2.keep c o n (ne_of_none h hb) h⟩ hb k2
    refine ⟨_, rfl, _, 0, rfl, rfl, _, rfl, ite2 (fun c0 => ?g1) (fun c0 => ⟨_, rfl, _, rfl, T t, rfl, tT, _, _, rfl, rfl, _, rfl, ite2 (fun c9 => ?g2) (fun c9 => ?st)⟩)⟩
    case st =>
      have e1 : ¬ (0 : Int) < (lf : Int) := fun y => c0 (decide_eq_true y)
      have e2 : ¬ (rg : Int) < ((T t).length : Int) := fun y => c9 (decide_eq_true y)
      rw [T_len] at e2
      exact ⟨_, rfl, stop (by omega) (by omega)⟩
    all_goals
      have any : 0 < lf ∨ rg < t.length := by
        first
        | (have y := of_decide_eq_true c9
           rw [T_len] at y
           exact .inr (by omega))
        | (have y : (0 : Int) < (lf : Int) := of_decide_eq_true c0
           exact .inl (by omega))
      refine ⟨fun σ' H' => KpB P b H H' ∧ ∃ (lf' rg' : Nat) (z : Int), lf' + (t.length - rg') < n ∧ lf' ≤ rg' ∧ rg' ≤ t.length ∧ BkAt C H' b (str t lf' rg') ∧ σ' = [some (.str (T t)), some (.int (a : Int)), some (.int z), some (.ref b), some (.int (lf' : Int)), some (.int (rg' : Int))],
        fun σ' H' hN => ?_, ?_⟩
      · obtain ⟨h1, lf', rg', z', h2, h3⟩ := hN
        exact ⟨_, h2, h1, lf', rg', z', rfl, h3⟩
      refine ⟨_, rfl, _, 48271, rfl, rfl, .inr ⟨by decide, by decide⟩, _, 11, rfl, rfl, _, 2147483647, rfl, rfl, show (2147483647 : Int) ≠ 0 by decide, ?_⟩
      show gName 2 (V.int ((z2 * 48271 + 11).fmod 2147483647)) _ _ _
      generalize (z2 * 48271 + 11).fmod 2147483647 = z3
      refine ⟨_, rfl, _, rfl, T t, rfl, tT, _, _, rfl, rfl, _, rfl, ite2 (fun c1 => ⟨_, rfl, rfl, _, rfl, ite2 (fun _ => ?p1) (fun c2 => ⟨_, rfl, _, 64, rfl, rfl, ⟨by decide, by decide⟩, _, 2, rfl, rfl, show (2 : Int) ≠ 0 by decide, rfl, _, rfl, ite2 (fun _ => ?p2) (fun _ => ?q1)⟩)⟩) (fun c1 => iteF ?q2)⟩
      case' q1 =>
        have l0 : 0 < lf := by
          have y : ¬ V.int (lf : Int) = V.int 0 := fun y => c2 (decide_eq_true y)
          by_cases e : lf = 0
          · exact absurd (by rw [e]; rfl) y
          · omega
      case' q2 =>
        have l0 : 0 < lf := by
          have y : ¬ (rg : Int) < ((T t).length : Int) := fun y => c1 (decide_eq_true y)
          rw [T_len] at y
          omega
      case q1 | q2 =>
        have e1 : ((lf : Int) - 1) = ((lf - 1 : Nat) : Int) := by omega
        refine ⟨_, rfl, _, 1, rfl, rfl, ?_⟩
        show gName 4 (V.int ((lf : Int) - 1)) _ _ _
        rw [e1]
        have hlt : lf - 1 < t.length := by omega
        have zc := az_at (lf - 1) hlt
        have goodL : isLt (.str (T [t[lf - 1]])) = true := by
          show (isT (.str (T [t[lf - 1]])) && decide ((T [t[lf - 1]]).length = 1)) = true
          rw [isT_mk (l := [t[lf - 1]]) (by rw [List.all_cons, zc]; rfl) (show 1 ≤ 200 by decide), T_len]
          rfl
        refine ⟨_, rfl, b, dx2, bf _, rfl, hb2, bf_no _ (by decide +kernel), _, rfl, _, rfl, _, _, t[lf - 1], rfl, rfl, tT, atI_nat (List.getElem?_eq_getElem hlt), ?_⟩
        refine ⟨b, .str (T [t[lf - 1]]), str t lf rg, rfl, k2, kp2.tab, .text [t[lf - 1]] (small200 (show 1 ≤ 200 by decide)), (fun e => absurd (goodL.symm.trans e) (by decide)), (fun _ e => absurd e (by omega)), fun c' ec hc' hl' H9 kp9 k9 => ?_⟩
        obtain rfl : t[lf - 1] = c' := (List.cons.inj (T_inj (V.str.inj ec))).1
        have es : str t (lf - 1) rg = t[lf - 1] :: str t lf rg := by
          have y := str_front (t := t) (i := lf - 1) (j := rg) (by omega) hlt
          rw [show lf - 1 + 1 = lf by omega] at y
          exact y
        exact ⟨kp2.trans kp9, lf - 1, rg, z3, by omega, by omega, h2t, by rw [es]; exact k9, rfl⟩
      case p1 | p2 =>
        have hlt : rg < t.length := by
          have y := of_decide_eq_true c1
          rw [T_len] at y
          omega
        have zc := az_at rg hlt
        have goodL : isLt (.str (T [t[rg]])) = true := by
          show (isT (.str (T [t[rg]])) && decide ((T [t[rg]]).length = 1)) = true
          rw [isT_mk (l := [t[rg]]) (by rw [List.all_cons, zc]; rfl) (show 1 ≤ 200 by decide), T_len]
          rfl
        refine ⟨_, rfl, b, dx2, bf _, rfl, hb2, bf_no _ (by decide +kernel), _, rfl, _, rfl, _, _, t[rg], rfl, rfl, tT, atI_nat (List.getElem?_eq_getElem hlt), ?_⟩
        refine ⟨b, .str (T [t[rg]]), str t lf rg, rfl, k2, kp2.tab, .text [t[rg]] (small200 (show 1 ≤ 200 by decide)), (fun e => absurd (goodL.symm.trans e) (by decide)), (fun _ e => absurd e (by omega)), fun c' ec hc' hl' H9 kp9 k9 => ?_⟩
        obtain rfl : t[rg] = c' := (List.cons.inj (T_inj (V.str.inj ec))).1
        have es := str_more (t := t) (i := lf) (j := rg) h12 hlt
        refine ⟨_, rfl, _, 1, rfl, rfl, ?_⟩
        exact ⟨kp2.trans kp9, lf, rg + 1, z3, by omega, by omega, by omega, by rw [es]; exact k9, rfl⟩
end
end Mw
namespace Mw
open PySem PySem.Spec PyProof.Rows L2

/-! ### a book tells what the arms of its text tell -/
abbrev nRT : List Str := ["_law_book", "_law_text_here", "_law_words", "_law_parts", "_law_part", "_law_most", "_law_word"]
theorem scRT : FnScope nRT ["_law_book", "_law_text_here"] (defScope sLRight) := ⟨rfl, rfl, rfl, by decide +kernel, rfl, by decide +kernel, by decide +kernel⟩
section
variable {Pr : Program} {w : World} {K : PySem.W.Frag} {mg : Str → Option Value} {base : Heap} {P C BT BA NT fW fH fT fL fF fG fE fA : Addr} {dW dH dT dL dF dG dE dA : FuncData}
theorem ok_lright {f : Addr} {fd : FuncData} (F : Fun K "_law_right" "_law_right" sLRight f fd) (B : BkC K mg C) (FW : Me Pr w K mg base CX0 4 C "words" fW dW ["self"] (spWords C)) (FH : Me Pr w K mg base CX0 1 C "whole" fH dH ["self"] (spWhole C))
    (FT : Fn Pr w K mg base CX0 5 "_law_told" fT dT ["_law_book"] (spTold P C)) (FL : Fn Pr w K mg base CX0 4 "_law_lengths" fL dL ["_law_text_here"] (spLengths P)) (FF : Fn Pr w K mg base (L2.CX Pr w) 4 "fewest" fF dF ["text"] (spFewest K P BT))
    (FG : Me Pr w K mg base CX0 5 C "longest" fG dG ["self"] (spLong C)) (FE : Fn Pr w K mg base (L2.CX Pr w) 3 "least_text" fE dE ["arms"] (spLeast K BA NT)) (FA : Fn Pr w K mg base (L2.CX Pr w) 3 "arms" fA dA ["text"] (spArms K P BT))
    (ml : mg "len" = none) (mx : mg "max" = none) : FnOk Pr w K mg base CX0 6 f fd ["_law_book", "_law_text_here"] (spRightT P C) := by
  refine F.ok scRT (fun vs H Q E h => ?_) (fun cdv A outer s H vs Q E hr h => ?_)
  · obtain ⟨b, l, rfl, _⟩ := h
    rfl
  · obtain ⟨b, l, rfl, k, hl, tab, q⟩ := h
    have hu := hr.units
    have hr1 := hr.mono (j := 1) (by decide)
    have hr3 := hr.mono (j := 3) (by decide)
    have hr4 := hr.mono (j := 4) (by decide)
    refine ⟨_, pss_cons (ps_set (i := 2) scRT.nd rfl (.inr rfl) (pe_meth0 (pv 0) B.cl FW.m FW.ok hr4 FW.b .nil pass0)) <|
      pss_cons (ps_if (PW.pt (pw_or (pt_cmpR op_ne (pe_meth0 (pv 0) B.cl FH.m FH.ok hr1 FH.b .nil pass0) (pv 1) (nomark _))
          (pw_or (pt_cmpR op_gt (pe_callB call_len_seq (by rfl) ml PySem.boot_len (pa_cons (pv 2) pa_nil)) (pe_callB call_len_str (by rfl) ml PySem.boot_len (pa_cons (pv 1) pa_nil)) (nomark _))
          (pw_or1 (pt_cmpR (op_neX hu) (pe_call FT.ok hr (by rfl) FT.g FT.k FT.b .nil pass0 (pa_cons (pv 0) pa_nil)) (pe_call FL.ok hr4 (by rfl) FL.g FL.k FL.b .nil pass0 (pa_cons (pv 1) pa_nil)) (nomark _))))))
        (pss_one (ps_ret pe_bl)) pss_nil) <|
      pss_cons (ps_set (i := 3) scRT.nd rfl (.inl rfl) (pe_call FF.ok hr4 (by rfl) FF.g FF.k FF.b .nil passL (pa_cons (pv 1) pa_nil))) <|
      pss_cons (ps_if (PW.pt (pw_or (pt_cmpR op_ne (pe_join pe_str (pv 3)) (pv 1) (nomark _))
          (pw_or1 (pt_cmpR (op_neD hu) (pe_lc (own := [("_law_part", 4)]) (g := gName 4) rfl scRT.nd (pi_list (pv 3)) (blkOk_by (own := [("_law_part", 4)]) (N := nRT) (sc := defScope sLRight) (by decide +kernel))
            (fun _ _ _ _ _ => pg_name (i := 4) scRT.nd rfl (Or.inl rfl)) (fun _ _ _ _ _ => pts_one (pt_cmpR (r := rIn K true) op_notIn_seq (pv 4) (pv 2) rfl)) (fun _ _ _ _ _ => pv 4)) (pe_lst pa_nil) (nomark _)))))
        (pss_one (ps_ret pe_bl)) pss_nil) <|
      C8.pss_cut (ps_set (i := 5) scRT.nd rfl (.inl rfl) (pe_callBK (cr_maxId rfl) (by rfl) mx (by decide +kernel) (pa_cons (pe_lc (own := [("_law_word", 6)]) (g := gName 6) (tt := tYes) rfl scRT.nd (pi_list (pv 2))
          (blkOk_by (own := [("_law_word", 6)]) (N := nRT) (sc := defScope sLRight) (by decide +kernel)) (fun _ _ _ _ _ => pg_name (i := 6) scRT.nd rfl (Or.inl rfl)) (fun _ _ _ _ _ => pts_nil)
          (fun _ _ _ _ _ => pe_callB call_len_str (by rfl) ml PySem.boot_len (pa_cons (pv 6) pa_nil))) pa_nil) (pk_cons pe_int pk_nil))) <|
      pss_cons (ps_if (pt_cmpR op_ne (pe_callB call_len_str (by rfl) ml PySem.boot_len (pa_cons (pe_meth0 (pv 0) B.cl FG.m FG.ok hr FG.b .nil pass0) pa_nil)) (pv 5) (nomark _)) (pss_one (ps_ret pe_bl)) pss_nil) <|
      pss_one (ps_ret (pe_cmpR (op_eq_dictA (Nat.lt_of_succ_lt (hu_of hr))) (pe_call FL.ok hr4 (by rfl) FL.g FL.k FL.b .nil pass0 (pa_cons (pe_call FE.ok hr3 (by rfl) FE.g FE.k FE.b .nil passL (pa_cons (pe_call FA.ok hr3 (by rfl) FA.g FA.k FA.b .nil passL (pa_cons (pv 1) pa_nil)) pa_nil)) pa_nil))
        (pe_call FL.ok hr4 (by rfl) FL.g FL.k FL.b .nil pass0 (pa_cons (pv 1) pa_nil)) (nomark _))), ?_⟩
    obtain ⟨dx, hb⟩ := k.ob
    have nbP := k.ne tab
    have lT : (T l).length ≤ sizeLine := by
      rw [T_len]
      exact small200 (by omega)
    have good : isT (.str (T l)) = true := isT_mk k.az (by omega)
    have thl : ∀ H, Thing K H (.str (T l)) := fun H => .text l (small200 (by omega))
    have lr := rows_len l
    have ra : ∀ w ∈ rows l, w.length ≤ 100 := fun w hw => Nat.le_trans (rows_mem.mp hw).2.2.length_le hl
    refine ⟨_, rfl, b, dx, bf l, rfl, hb, bf_no l (by decide +kernel), b, l, rfl, k, fun H1 p1 s1 hp1 h1 => ?_⟩
    have tab1 : GxR.TabG H1 P := (Kp.same tab s1).tab
    have k1 := k.same s1
    have hb1 := s1 _ _ hb
    refine ⟨_, rfl, b, dx, bf l, rfl, hb1, bf_no l (by decide +kernel), b, l, rfl, k1, _, rfl, rfl, _, rfl, iteNS rfl ?_⟩
    refine ⟨_, rfl, p1, _, rfl, .inl (.inl (.inl h1)), _, rfl, T l, rfl, lT, _, _, rfl, rfl, _, rfl, itN (decide_eq_false (by rw [T_len, List.length_map]; omega)) ?_⟩
    refine ⟨_, rfl, b, l, rfl, k1, hl, tab1, fun H2 p2 kv2 kp2 hp2 h2 cn2 => ?_⟩
    have np2 : p2 ≠ P := new_ne tab1 hp2
    refine ⟨_, rfl, l, rfl, hl, k.az, kp2.tab, fun H3 p3 kv3 kp3 hp3 h3 cn3 => ?_⟩
    obtain ⟨z1, z2⟩ := cn2.same cn3
    refine .inr ⟨p2, p3, kv2, kv3, rfl, rfl, kp3.keep _ _ np2 h2, h3, z1, z2, _, rfl, iteF ?_⟩
    have kp13 := kp2.trans kp3
    have h13 := kp13.lst tab1 h1
    clear cn2 cn3 z1 z2 h2 h3 hp2 hp3 np2
    -- fewest
    refine ⟨_, rfl, .str (T l), rfl, kp13.tab, thl _, (fun no => absurd (good.symm.trans no) (by decide)), fun _ l2 el _ H4 p4 kp4 hp4 h4 => ?_⟩
    obtain rfl : l = l2 := T_inj (V.str.inj el)
    have kp14 := kp13.trans kp4
    have h14 := kp14.lst tab1 h1
    have sq : SqL K H4 p4 (((prt l 0).map T).map V.str) := by
      rw [List.map_map]
      exact .inl (.inl h4)
    have nl : (prt l 0).length ≤ l.length := by
      rw [prt_len (Nat.zero_le _)]
      exact need_le' (Nat.zero_le _)
    refine ⟨⟨_, rfl⟩, _, rfl, _, p4, _, rfl, rfl, .inl sq, ?_, ?_⟩
    · have e0 : ∀ l : List (List Nat), ((l.map T).map (·.length)).sum = l.flatten.length := fun l => by
        induction l with
        | nil => rfl
        | cons c r ih =>
          show (T c).length + (((r.map T).map (·.length)).sum) = (c ++ r.flatten).length
          rw [ih, T_len, List.length_append]
      rw [e0, prt_flat0, List.length_map]
      show l.length + (prt l 0).length * 0 ≤ 16777216
      omega
    rw [join_txt, prt_flat0]
    refine ⟨_, rfl, rfl, _, rfl, iteNS rfl ?_⟩
    refine ⟨_, rfl, p4, rfl, ⟨_, .inl (.inl h4)⟩, fun D hD => ?_⟩
    refine lc_list (K := K) (a := p4) (xs := (prt l 0).map sV) (fun i H' => Same H4 H' ∧ H' D = some (.lst [])) ⟨same_upd hD, upd_same⟩ (fun i H' _ hW => .inl (.inl (hW.1 _ _ h4))) (fun i x H' hx hW => ?_) (fun H5 hW => ?_)
    · obtain ⟨sm, hd⟩ := hW
      obtain ⟨m, em, rfl⟩ : ∃ m, (prt l 0)[i]? = some m ∧ x = sV m := by
        rw [List.getElem?_map] at hx
        cases e : (prt l 0)[i]? with
        | none =>
          rw [e] at hx
          cases hx
        | some m =>
          rw [e] at hx
          exact ⟨m, rfl, (Option.some.inj hx).symm⟩
      have mm := rows_mem.mpr (prt_wd0 (List.mem_of_getElem? em))
      refine ⟨rfl, _, rfl, _, rfl, p1, _, rfl, .inl (.inl (.inl (sm _ _ h14))), rfl, flat_txt _, _, rfl, ?_⟩
      have ei : inV (sV m) ((rows l).map sV) = true := by
        rw [inV_txt]
        exact List.contains_iff_mem.mpr mm
      show if (!inV (sV m) ((rows l).map sV)) = true then _ else _
      rw [ei]
      exact iteF ⟨sm, hd⟩
    obtain ⟨s5, hd5⟩ := hW
    refine ⟨Nat.zero_le _, fun p5 hp5 => ?_⟩
    have s6 : Same H4 (upd H5 p5 (.lst [])) := s5.trans (same_upd hp5)
    have h56 : (upd H5 p5 (.lst [])) D = some (.lst []) := (same_upd hp5) _ _ hd5
    have h66 : (upd H5 p5 (.lst [])) p5 = some (.lst []) := upd_same
    generalize upd H5 p5 (.lst []) = H6 at *
    refine ⟨.list [], .list [], .lst (.inl (.inl h56)) .nil, .lst (.inl (.inl h66)) .nil, rfl, rfl, _, rfl, iteF ?_⟩
    have kp16 : Kp P H1 H6 := kp14.trans (.same kp14.tab s6)
    have h16 := kp16.lst tab1 h1
    clear h4 hd5 h56 h66 sq h13 h14 hp4 hp5 s5 s6 hD
    -- the longest
    refine ⟨fun σ' Hx => Same H6 Hx ∧ ∃ M : Nat, (∀ u, isLng l u → u.length = M) ∧ σ' = [some (.ref b), some (.str (T l)), some (.ref p1), some (.ref p4), none, some (.int (M : Int)), none], ?_, fun σ' H7 hM => ?_⟩
    · refine ⟨_, rfl, p1, rfl, ⟨_, .inl (.inl h16)⟩, fun D2 hD2 => ?_⟩
      refine lc_list (K := K) (a := p1) (xs := (rows l).map sV) (fun i H' => Same H6 H' ∧ H' D2 = some (.lst ((((rows l).take i).map fun w => (w.length : Int)).map V.int))) ⟨same_upd hD2, upd_same⟩ (fun i H' _ hW => .inl (.inl (hW.1 _ _ h16))) (fun i x H' hx hW => ?_) (fun H8 hW => ?_)
      · obtain ⟨sm, hd⟩ := hW
        obtain ⟨m, em, rfl⟩ : ∃ m, (rows l)[i]? = some m ∧ x = sV m := by
          rw [List.getElem?_map] at hx
          cases e : (rows l)[i]? with
          | none =>
            rw [e] at hx
            cases hx
          | some m =>
            rw [e] at hx
            exact ⟨m, rfl, (Option.some.inj hx).symm⟩
        have il : i < (rows l).length := (List.getElem?_eq_some_iff.mp em).1
        have lm := ra m (List.mem_of_getElem? em)
        rw [take_succ_of em]
        refine ⟨rfl, _, rfl, T m, rfl, by rw [T_len]; exact small200 (by omega), _, hd, ?_, fun c o e => ?_, ?_⟩
        · rw [List.length_map, List.length_map, List.length_take]
          exact small1000 (by omega)
        · rw [upd_ne (ne_of_none e hD2)]
          exact sm _ _ e
        · rw [upd_same, List.map_append, List.map_append, T_len]
          rfl
      · obtain ⟨s8, hd8⟩ := hW
        rw [List.length_map, List.take_length] at hd8
        refine ⟨D2, (rows l).map fun w => (w.length : Int), _, rfl, rfl, .inl (.inl hd8), fun e => ?_, fun m hm hall => ?_⟩
        · have e0 : rows l = [] := List.map_eq_nil_iff.mp e
          refine ⟨s8, 0, fun u hu => ?_, rfl⟩
          rcases lng_in hu with ⟨_, rfl⟩ | hm
          · rfl
          · rw [e0] at hm
            exact absurd hm List.not_mem_nil
        · obtain ⟨w0, hw0, rfl⟩ := List.mem_map.mp hm
          refine ⟨s8, w0.length, fun u hu => ?_, rfl⟩
          have z1 := lng_max hu w0 hw0
          rcases lng_in hu with ⟨e, _⟩ | hm
          · have y := (rows_mem.mp hw0).2.2.length_le
            have pos := List.length_pos_iff.mpr (rows_mem.mp hw0).1
            rw [e] at y
            have y : w0.length ≤ 0 := y
            omega
          · have z2 := hall _ (List.mem_map.mpr ⟨u, hm, rfl⟩)
            omega
    obtain ⟨s7, M, hMu, rfl⟩ := hM
    have kp17 : Kp P H1 H7 := kp16.trans (.same kp16.tab s7)
    have kp07 : Kp P H H7 := (Kp.same tab s1).trans kp17
    have k7 := k.kp tab kp07
    have hb7 := kp07.keep _ _ nbP hb
    refine ⟨_, rfl, b, dx, bf l, rfl, hb7, bf_no l (by decide +kernel), b, l, rfl, k7, fun H8 u s8 hu8 => ?_⟩
    have lu : u.length ≤ 100 := by
      rcases lng_in hu8 with ⟨_, rfl⟩ | hm
      · exact Nat.zero_le _
      · exact ra u hm
    refine ⟨T u, rfl, by rw [T_len]; exact small200 (by omega), _, rfl, rfl, _, rfl, iteNS (by rw [T_len, hMu u hu8]) ?_⟩
    have kp08 : Kp P H H8 := kp07.trans (.same kp07.tab s8)
    clear k7 hb7 kp17 kp16 h16 hMu
    -- the least text of the arms
    have LL : Left (armL l) l.length := left_arms (arms_of l) (by omega)
    refine ⟨_, rfl, .str (T l), rfl, kp08.tab, thl _, (fun no => absurd (good.symm.trans no) (by decide)), fun _ l2 el _ H9 p9 kp9 hp9 h9 => ?_⟩
    obtain rfl : l = l2 := T_inj (V.str.inj el)
    have al : (armsL l).length < 400 := by
      rw [armsL_len]
      omega
    have left' : Left (rsR (armsL l)) (lenN (armsL l)) := by
      rw [rsR_arms, lenN_arms]
      exact LL
    refine ⟨.ref p9, true, rfl, athing_arms h9 (by omega), fun z => (nomatch z), fun _ => ⟨p9, armsL l, rfl, h9, al, left', fun _ Ha sa => ?_, fun z => absurd ((bad_arms LL).symm.trans z) (by decide)⟩⟩
    rw [rsR_arms, lenN_arms]
    have kp0a : Kp P H Ha := (kp08.trans kp9).trans (.same kp9.tab sa)
    have lg : (gr (armL l) l.length).length = l.length := gr_len _ _
    refine ⟨gr (armL l) l.length, rfl, by rw [lg]; exact hl, gr_az LL _ (Nat.le_refl _), kp0a.tab, fun Hb pb kvb kpb hpb hb' cnb => ?_⟩
    have npb : pb ≠ P := new_ne kp0a.tab hpb
    refine ⟨_, rfl, l, rfl, hl, k.az, kpb.tab, fun Hc pc' kvc kpc hpc hc cnc => ?_⟩
    have cnb' : CntI kvb (fun L => ac l L (2 * l.length - 1)) := cnb.congr fun L => by
      show ac l L (2 * l.length - 1) = ac (gr (armL l) l.length) L (2 * (gr (armL l) l.length).length - 1)
      rw [lg]
      exact (ac_congr (fun m => arms_gr LL m) L _).symm
    obtain ⟨z1, z2⟩ := cnb'.same cnc
    refine ⟨pb, pc', kvb, kvc, rfl, rfl, kpc.keep _ _ npb hb', hc, z1, z2, ?_⟩
    exact q Hc ((kp0a.trans kpb).trans kpc)
end
end Mw
namespace Mw
open PySem PySem.Spec PyProof.Rows L2

/-! ### the law -/
abbrev nLaw : List Str := ["_law_script", "_law_text_here", "_law_cell", "_law_one", "_law_other", "_law_first", "_law_last", "_law_step"]
theorem scLaw : FnScope nLaw ["_law_script"] (defScope sLaw) := ⟨rfl, rfl, rfl, by decide +kernel, rfl, by decide +kernel, by decide +kernel⟩
theorem b_T : (V.str (Str.ofString "b")) = V.str (T [98]) := by
  have z : Str.ofString "b" = T [98] := by decide +kernel
  rw [z]
theorem un_b : un [] (lps [98]) = V.str (T [98]) := by decide +kernel
theorem BkAt.kb {C b c P : Addr} {H H' : Hp} {l : List Nat} (k : BkAt C H b l) (t : GxR.TabG H P) (n : b ≠ c) (s : KpB P c H H') : BkAt C H' b l := by
  obtain ⟨dx, e⟩ := k.ob
  exact ⟨⟨dx, s.keep _ _ (k.ne t) n e⟩, k.len, k.az⟩
theorem kpB_of {C b P : Addr} {H H' : Hp} {l : List Nat} (k : BkAt C H b l) (t : GxR.TabG H P) (o1 : ∀ e o, e ≠ b → H e = some o → H' e = some o) : KpB P b H H' := by
  have nb := k.ne t
  refine ⟨?_, fun e o _ n e1 => o1 e o n e1⟩
  obtain ⟨ps, b1, b2⟩ := t
  exact ⟨ps, o1 _ _ (Ne.symm nb) b1, b2⟩
theorem drop_one (t : List Nat) (i : Nat) : (t.drop i).drop 1 = t.drop (i + 1) := by
  rw [List.drop_drop]
theorem take_last {l : List Nat} {k : Nat} (h : k + 1 ≤ l.length) : (l.take (k + 1)).dropLast = l.take k := by
  rw [List.dropLast_eq_take, List.length_take, List.take_take]
  congr 1
  omega
section
variable {Pr : Program} {w : World} {K : PySem.W.Frag} {mg : Str → Option Value} {base : Heap} {P C BL FU NP fD fT fG fR fW fP fX fP1 fX1 : Addr} {dD dT dG dR dW dP dX dP1 dX1 : FuncData}
theorem ok_law {f : Addr} {fd : FuncData} (F : Fun K "law" "law" sLaw f fd) (B : BkC K mg C) (FD : Fn Pr w K mg base CX0 1 "_law_draw" fD dD ["_law_script", "_law_k"] (spDraw K))
    (FT : Fn Pr w K mg base CX0 2 "_law_text" fT dT ["_law_script", "_law_first", "_law_most"] (spText K)) (FG : Fn Pr w K mg base CX0 5 "_law_grown" fG dG ["_law_text_here", "_law_at", "_law_cell"] (spGrown P C))
    (FR : Fn Pr w K mg base CX0 6 "_law_right" fR dR ["_law_book", "_law_text_here"] (spRightT P C)) (FW : Me Pr w K mg base CX0 4 C "words" fW dW ["self"] (spWords C))
    (FP : Me Pr w K mg base (L2.CX Pr w) 3 C "put_last" fP dP ["self", "letter"] (spPut K P C BL FU (fun l c => l ++ [c]) lps)) (FX : Me Pr w K mg base (L2.CX Pr w) 3 C "cut_last" fX dX ["self"] (spCut C NP (fun l => l.dropLast) lps))
    (FP1 : Me Pr w K mg base (L2.CX Pr w) 4 C "put_first" fP1 dP1 ["self", "letter"] (spPut K P C BL FU (fun l c => c :: l) fun l => lps l.reverse)) (FX1 : Me Pr w K mg base (L2.CX Pr w) 4 C "cut_first" fX1 dX1 ["self"] (spCut C NP (fun l => l.drop 1) fun l => lps l.reverse))
    (ml : mg "len" = none) (mr : mg "range" = none) : FnOk Pr w K mg base CX0 7 f fd ["_law_script"] (spLaw7 K P) := by
  refine F.ok scLaw (fun vs H Q E h => ?_) (fun cdv A outer s H vs Q E hr h => ?_)
  · obtain ⟨a, ns, rfl, _⟩ := h
    rfl
  · obtain ⟨a, ns, rfl, hS, hlen, tab, q⟩ := h
    have hu := hr.units
    have hr1 := hr.mono (j := 1) (by decide)
    have hr2 := hr.mono (j := 2) (by decide)
    have hr3 := hr.mono (j := 3) (by decide)
    have hr4 := hr.mono (j := 4) (by decide)
    have hr5 := hr.mono (j := 5) (by decide)
    refine ⟨_, pss_cons (ps_set (i := 1) scLaw.nd rfl (.inl rfl) (pe_call FT.ok hr2 (by rfl) FT.g FT.k FT.b .nil pass0 (pa_cons (pv 0) (pa_cons pe_int (pa_cons pe_int pa_nil))))) <|
      pss_cons (ps_set (i := 2) scLaw.nd rfl (.inl rfl) (pe_call FD.ok hr1 (by rfl) FD.g FD.k FD.b .nil pass0 (pa_cons (pv 0) (pa_cons pe_int pa_nil)))) <|
      pss_cons (ps_set (i := 3) scLaw.nd rfl (.inl rfl) (pe_call FG.ok hr5 (by rfl) FG.g FG.k FG.b .nil pass0 (pa_cons (pv 1) (pa_cons (pe_op op_modN (pv 2) (pe_op op_add (pe_callB call_len_str (by rfl) ml PySem.boot_len (pa_cons (pv 1) pa_nil)) pe_int))
        (pa_cons (pe_call FD.ok hr1 (by rfl) FD.g FD.k FD.b .nil pass0 (pa_cons (pv 0) (pa_cons pe_int pa_nil))) pa_nil))))) <|
      pss_cons (ps_set (i := 4) scLaw.nd rfl (.inl rfl) (pe_call FG.ok hr5 (by rfl) FG.g FG.k FG.b .nil pass0 (pa_cons (pv 1) (pa_cons (pe_op op_modN (pe_op op_fdivN (pv 2) pe_int) (pe_op op_add (pe_callB call_len_str (by rfl) ml PySem.boot_len (pa_cons (pv 1) pa_nil)) pe_int))
        (pa_cons (pe_op op_add (pe_call FD.ok hr1 (by rfl) FD.g FD.k FD.b .nil pass0 (pa_cons (pv 0) (pa_cons pe_int pa_nil))) pe_int) pa_nil))))) <|
      pss_cons (ps_if (PW.pt (pw_or (pt_not (pt_val (pe_call FR.ok hr (by rfl) FR.g FR.k FR.b .nil pass0 (pa_cons (pv 3) (pa_cons (pv 1) pa_nil)))))
          (pw_or1 (pt_cmpR (op_neD hu) (pe_meth0 (pv 3) B.cl FW.m FW.ok hr4 FW.b .nil pass0) (pe_meth0 (pv 4) B.cl FW.m FW.ok hr4 FW.b .nil pass0) (nomark _))))) (pss_one (ps_ret pe_bl)) pss_nil) <|
      pss_cons (ps_set (i := 5) scLaw.nd rfl (.inl rfl) (pe_op op_modN (pe_op op_fdivN (pv 2) pe_int) (pe_op op_add (pe_callB call_len_str (by rfl) ml PySem.boot_len (pa_cons (pv 1) pa_nil)) pe_int))) <|
      pss_cons (ps_set (i := 6) scLaw.nd rfl (.inl rfl) (pe_op op_add (pv 5) (pe_op op_modN (pe_op op_fdivN (pv 2) pe_int) (pe_op op_add (pe_op op_sub (pe_callB call_len_str (by rfl) ml PySem.boot_len (pa_cons (pv 1) pa_nil)) (pv 5)) pe_int)))) <|
      pss_cons (ps_for PassesOwn.never rfl (pi_range1 (by rfl) mr (pa_cons (pv 5) pa_nil)) (pg_name (i := 7) scLaw.nd rfl (.inl rfl)) (pss_one (ps_expr (pe_meth0 (pv 4) B.cl FX1.m FX1.ok hr4 FX1.b .nil passL)))) <|
      pss_cons (ps_for PassesOwn.never rfl (pi_range1 (by rfl) mr (pa_cons (pe_op op_sub (pe_callB call_len_str (by rfl) ml PySem.boot_len (pa_cons (pv 1) pa_nil)) (pv 6)) pa_nil)) (pg_name (i := 7) scLaw.nd rfl (.inl rfl)) (pss_one (ps_expr (pe_meth0 (pv 4) B.cl FX.m FX.ok hr3 FX.b .nil passL)))) <|
      pss_cons (ps_if (PW.pt (pw_or (pt_not (pt_val (pe_call FR.ok hr (by rfl) FR.g FR.k FR.b .nil pass0 (pa_cons (pv 4) (pa_cons (pe_slice sl_str (pv 1) (po_some (pv 5)) (po_some (pv 6))) pa_nil)))))
          (pw_or1 (pt_not (pt_val (pe_call FR.ok hr (by rfl) FR.g FR.k FR.b .nil pass0 (pa_cons (pv 3) (pa_cons (pv 1) pa_nil)))))))) (pss_one (ps_ret pe_bl)) pss_nil) <|
      pss_cons (ps_if (pt_cmpR op_eq (pv 1) pe_str (nomark _)) (pss_one (ps_ret (pe_and (pe_cmpR op_eq (pe_meth (pv 3) B.cl FP1.m FP1.ok hr4 FP1.b .nil passL (pa_cons pe_str pa_nil)) pe_str (nomark _))
        (pe_one (pe_call FR.ok hr (by rfl) FR.g FR.k FR.b .nil pass0 (pa_cons (pv 3) (pa_cons pe_str pa_nil))))))) pss_nil) <|
      pss_cons (ps_expr (pe_meth0 (pv 3) B.cl FX1.m FX1.ok hr4 FX1.b .nil passL)) <|
      pss_cons (ps_expr (pe_meth (pv 3) B.cl FP.m FP.ok hr3 FP.b .nil passL (pa_cons (pe_ix ix_str (pv 1) (pe_op op_modN (pv 2) (pe_callB call_len_str (by rfl) ml PySem.boot_len (pa_cons (pv 1) pa_nil))) (fun _ _ => rfl)) pa_nil))) <|
      pss_cons (ps_expr (pe_meth (pv 4) B.cl FP1.m FP1.ok hr4 FP1.b .nil passL (pa_cons pe_str pa_nil))) <|
      pss_one (ps_ret (pe_and (pe_call FR.ok hr (by rfl) FR.g FR.k FR.b .nil pass0 (pa_cons (pv 3) (pa_cons (pe_op op_add_str (pe_slice sl_str (pv 1) (po_some pe_int) po_none)
            (pe_ix ix_str (pv 1) (pe_op op_modN (pv 2) (pe_callB call_len_str (by rfl) ml PySem.boot_len (pa_cons (pv 1) pa_nil))) (fun _ _ => rfl))) pa_nil)))
        (pe_one (pe_call FR.ok hr (by rfl) FR.g FR.k FR.b .nil pass0 (pa_cons (pv 4) (pa_cons (pe_op op_add_str pe_str (pe_slice sl_str (pv 1) (po_some (pv 5)) (po_some (pv 6)))) pa_nil)))))), ?_⟩
    refine ⟨_, rfl, a, ns, 3, 60, rfl, hS, by decide, fun H1 t s1 hz hl => ?_⟩
    have ht : t.length ≤ 61 := hl
    have tab1 : GxR.TabG H1 P := (Kp.same tab s1).tab
    have hS1 := s1.seq hS
    clear hS tab s1
    have tT : (T t).length ≤ sizeLine := by
      rw [T_len]
      exact small200 (by omega)
    refine ⟨_, rfl, a, ns, 1, rfl, hS1, ?_⟩
    show gName 2 (V.int (ns.getD 1 0)) _ _ _
    generalize ns.getD 1 0 = z
    have en : (((T t).length : Nat) : Int) + 1 = ((t.length + 1 : Nat) : Int) := by rw [T_len]; rfl
    -- the first book
    obtain ⟨j1, e1, hj1⟩ := modK z (show 0 < t.length + 1 by omega)
    refine ⟨_, rfl, _, rfl, _, rfl, T t, rfl, tT, _, 1, rfl, rfl, _, _, rfl, rfl, ?_, ?_⟩
    · rw [en]
      omega
    have e1 : z.fmod ((((T t).length : Nat) : Int) + 1) = (j1 : Int) := by rw [en]; exact e1
    refine ⟨_, rfl, a, ns, 2, rfl, hS1, t, j1, ns.getD 2 0, congrArg (fun y => [V.str (T t), V.int y, V.int (ns.getD 2 0)]) e1, by omega, by omega, hz, tab1, fun H2 b1 kp2 hb1 k1 => ?_⟩
    have hS2 := kp2.seq tab1 hS1
    have tab2 := kp2.tab
    clear hS1 tab1 kp2 hb1 e1
    -- the second book
    obtain ⟨j2, e2, hj2⟩ := modK (z.fdiv 7) (show 0 < t.length + 1 by omega)
    refine ⟨_, rfl, _, rfl, _, 7, rfl, rfl, ⟨by decide, by decide⟩, _, rfl, T t, rfl, tT, _, 1, rfl, rfl, _, _, rfl, rfl, ?_, ?_⟩
    · rw [en]
      omega
    have e2 : (z.fdiv 7).fmod ((((T t).length : Nat) : Int) + 1) = (j2 : Int) := by rw [en]; exact e2
    refine ⟨_, rfl, a, ns, 2, rfl, hS2, _, 5, rfl, rfl, t, j2, ns.getD 2 0 + 5, congrArg (fun y => [V.str (T t), V.int y, V.int (ns.getD 2 0 + 5)]) e2, by omega, by omega, hz, tab2, fun H3 b2 kp3 hb2 k2 => ?_⟩
    have nbb : b1 ≠ b2 := by
      obtain ⟨dx, e⟩ := k1.ob
      exact ne_of_none e hb2
    have k1 := k1.kp tab2 kp3
    have tab3 := kp3.tab
    clear hS2 tab2 kp3 hb2 e2
    have na : ∀ x ∈ rows t, x.all az = true := fun x hx => wd_az (rows_mem.mp hx) hz
    refine ⟨_, rfl, _, rfl, b1, t, rfl, k1, by omega, tab3, fun H4 kp4 => ⟨true, rfl, iteF ?_⟩⟩
    have k1 := k1.kp tab3 kp4
    have k2 := k2.kp tab3 kp4
    have tab4 := kp4.tab
    clear tab3 kp4
    obtain ⟨dx1, ho1⟩ := k1.ob
    refine ⟨_, rfl, b1, dx1, bf t, rfl, ho1, bf_no t (by decide +kernel), b1, t, rfl, k1, fun H5 p5 s5 hp5 h5 => ?_⟩
    have k1 := k1.same s5
    have k2 := k2.same s5
    have tab5 : GxR.TabG H5 P := (Kp.same tab4 s5).tab
    obtain ⟨dx2, ho2⟩ := k2.ob
    refine ⟨_, rfl, b2, dx2, bf t, rfl, ho2, bf_no t (by decide +kernel), b2, t, rfl, k2, fun H6 p6 s6 hp6 h6 => ?_⟩
    have k1 := k1.same s6
    have k2 := k2.same s6
    have tab6 : GxR.TabG H6 P := (Kp.same tab5 s6).tab
    refine ⟨_, _, .lst (.inl (.inl (s6 _ _ h5))) (dp_txts _), .lst (.inl (.inl h6)) (dp_txts _), shaped_list (okd_txts na), shaped_list (okd_txts na), _, rfl, ?_⟩
    rw [txts_eq (K := K) na]
    refine iteF ?_
    clear h5 h6 s5 s6 tab4 tab5 ho1 ho2 hp5 hp6 na
    -- the stretch
    obtain ⟨f, e5, hf⟩ := modK (z.fdiv 50) (show 0 < t.length + 1 by omega)
    refine ⟨_, rfl, _, 50, rfl, rfl, ⟨by decide, by decide⟩, _, rfl, T t, rfl, tT, _, 1, rfl, rfl, _, _, rfl, rfl, ?_, ?_⟩
    · rw [en]
      omega
    show gName 5 (V.int ((z.fdiv 50).fmod ((((T t).length : Nat) : Int) + 1))) _ _ _
    rw [en, e5]
    obtain ⟨j6, e6, hj6⟩ := modK (z.fdiv 3000) (show 0 < t.length - f + 1 by omega)
    have en6 : (((T t).length : Nat) : Int) - (f : Int) + 1 = ((t.length - f + 1 : Nat) : Int) := by rw [T_len]; omega
    refine ⟨_, rfl, _, rfl, _, 3000, rfl, rfl, ⟨by decide, by decide⟩, _, rfl, T t, rfl, tT, _, rfl, _, _, rfl, rfl, _, 1, rfl, rfl, _, _, rfl, rfl, ?_, _, _, rfl, rfl, ?_⟩
    · rw [en6]
      omega
    show gName 6 (V.int ((f : Int) + (z.fdiv 3000).fmod ((((T t).length : Nat) : Int) - (f : Int) + 1))) _ _ _
    rw [en6, e6]
    obtain ⟨la, ela, h1, h2⟩ : ∃ la : Nat, (f : Int) + (j6 : Int) = (la : Int) ∧ f ≤ la ∧ la ≤ t.length := ⟨f + j6, by omega, by omega, by omega⟩
    rw [ela]
    clear e5 e6 ela en6
    -- cuts at the first end
    refine ⟨_, rfl, (f : Int), rfl, by omega, by omega, ?_⟩
    have ef : ((f : Nat) : Int).toNat = f := by omega
    refine for_range (lo := 0) (n := ((f : Nat) : Int).toNat) (fun i σ H' => KpB P b2 H6 H' ∧ BkAt C H' b2 (t.drop i) ∧ ∃ y7, σ = [some (.ref a), some (.str (T t)), some (.int z), some (.ref b1), some (.ref b2), some (.int (f : Int)), some (.int (la : Int)), y7])
      ⟨.of (.refl tab6), by rw [List.drop_zero]; exact k2, _, rfl⟩ (fun i σ H' hi hW => ?_) (fun σ H7 hW => ?_)
    · rw [ef] at hi
      obtain ⟨kp, kb, y7, rfl⟩ := hW
      obtain ⟨dx, ho⟩ := kb.ob
      have ne : t.drop i ≠ [] := fun e => by
        have y := congrArg List.length e
        rw [List.length_drop] at y
        have y : t.length - i = 0 := y
        omega
      refine ⟨_, rfl, b2, dx, bf (t.drop i), rfl, ho, bf_no _ (by decide +kernel), b2, t.drop i, rfl, kb, (fun e => absurd e ne), fun _ H8 o8 k8 => ?_⟩
      exact ⟨kp.trans (kpB_of kb kp.tab o8), by rw [← drop_one]; exact k8, _, rfl⟩
    rw [ef] at hW
    obtain ⟨kp7, k27, y7, rfl⟩ := hW
    -- cuts at the last end
    have el : (((T t).length : Nat) : Int) - (la : Int) = ((t.length - la : Nat) : Int) := by rw [T_len]; omega
    refine ⟨_, rfl, T t, rfl, tT, _, rfl, _, _, rfl, rfl, (((T t).length : Nat) : Int) - (la : Int), rfl, by rw [el]; omega, by rw [el]; omega, ?_⟩
    have el2 : ((((T t).length : Nat) : Int) - (la : Int)).toNat = t.length - la := by rw [el]; omega
    refine for_range (lo := 0) (n := ((((T t).length : Nat) : Int) - (la : Int)).toNat) (fun i σ H' => KpB P b2 H6 H' ∧ BkAt C H' b2 ((t.drop f).take (t.length - f - i)) ∧ ∃ y7, σ = [some (.ref a), some (.str (T t)), some (.int z), some (.ref b1), some (.ref b2), some (.int (f : Int)), some (.int (la : Int)), y7])
      ⟨kp7, by rw [List.take_of_length_le (by rw [List.length_drop]; omega)]; exact k27, _, rfl⟩ (fun i σ H' hi hW => ?_) (fun σ H8 hW => ?_)
    · rw [el2] at hi
      obtain ⟨kp, kb, y7, rfl⟩ := hW
      obtain ⟨dx, ho⟩ := kb.ob
      have lk : ((t.drop f).take (t.length - f - i)).length = t.length - f - i := by
        rw [List.length_take, List.length_drop]
        omega
      have ne : (t.drop f).take (t.length - f - i) ≠ [] := fun e => by
        have y := congrArg List.length e
        rw [lk] at y
        have y : t.length - f - i = 0 := y
        omega
      refine ⟨_, rfl, b2, dx, bf _, rfl, ho, bf_no _ (by decide +kernel), b2, _, rfl, kb, (fun e => absurd e ne), fun _ H9 o9 k9 => ?_⟩
      have es := take_last (l := t.drop f) (k := t.length - f - (i + 1)) (by rw [List.length_drop]; omega)
      rw [show t.length - f - (i + 1) + 1 = t.length - f - i by omega] at es
      exact ⟨kp.trans (kpB_of kb kp.tab o9), by rw [← es]; exact k9, _, rfl⟩
    rw [el2] at hW
    obtain ⟨kp8, k28, y8, rfl⟩ := hW
    rw [show t.length - f - (t.length - la) = la - f by omega] at k28
    have k28 : BkAt C H8 b2 (str t f la) := k28
    have k18 := k1.kb tab6 nbb kp8
    have tab8 := kp8.tab
    clear k1 k2 k27 kp7 kp8 tab6 el el2 ef
    have ls : (str t f la).length ≤ 61 := Nat.le_trans str_len ht
    -- asked anew
    refine ⟨_, rfl, _, rfl, _, rfl, _, rfl, _, rfl, _, rfl, T t, rfl, tT, ?_⟩
    rw [cut_str (by omega) h2]
    refine ⟨b2, str t f la, rfl, k28, by omega, tab8, fun H9 kp9 => ⟨true, rfl, iteF ?_⟩⟩
    have k19 := k18.kp tab8 kp9
    have k29 := k28.kp tab8 kp9
    have tab9 := kp9.tab
    clear k18 k28 tab8 kp9
    refine ⟨_, rfl, _, rfl, b1, t, rfl, k19, by omega, tab9, fun Ha kpa => ⟨true, rfl, iteF ?_⟩⟩
    have k1a := k19.kp tab9 kpa
    have k2a := k29.kp tab9 kpa
    have taba := kpa.tab
    clear k19 k29 tab9 kpa
    obtain ⟨dx1, ho1⟩ := k1a.ob
    have goodb : isLt (.str (T [98])) = true := by decide +kernel
    have thb : ∀ H, Thing K H (.str (T [98])) := fun H => .text [98] (small200 (by decide))
    refine ⟨_, rfl, rfl, _, rfl, ite2 (fun c => ?_) (fun c => ?_)⟩
    · obtain rfl : t = [] := T_inj (V.str.inj (of_decide_eq_true c))
      refine ⟨_, rfl, b1, dx1, bf [], rfl, ho1, bf_no [] (by decide +kernel), ?_⟩
      rw [b_T]
      refine ⟨b1, _, [], rfl, k1a, taba, thb _, (fun e => absurd (goodb.symm.trans e) (by decide)), (fun _ e => absurd e (by decide)), fun c' ec _ _ Hb kpb kb => ?_⟩
      obtain rfl : 98 = c' := (List.cons.inj (T_inj (V.str.inj ec))).1
      have e1 : un [] (lps ([98] : List Nat).reverse) = V.str (T [98]) := un_b
      rw [e1]
      refine ⟨rfl, _, rfl, itY (decide_eq_true rfl) ?_⟩
      exact ⟨_, rfl, b1, [98], rfl, kb, by decide, kpb.tab, fun Hc kpc => q Hc⟩
    have ne : t ≠ [] := by
      rintro rfl
      exact c (by decide +kernel)
    have pos := List.length_pos_iff.mpr ne
    obtain ⟨j, ej, hj⟩ := modK z pos
    have zc : az t[j] = true := List.all_eq_true.mp hz _ (List.getElem_mem hj)
    have goodL : isLt (.str (T [t[j]])) = true := by
      show (isT (.str (T [t[j]])) && decide ((T [t[j]]).length = 1)) = true
      rw [isT_mk (l := [t[j]]) (by rw [List.all_cons, zc]; rfl) (show 1 ≤ 200 by decide), T_len]
      rfl
    have at_ : atI (T t).cps.toList (z.fmod ((T t).length : Int)) = some t[j] := by
      rw [T_len, ej]
      exact atI_nat (List.getElem?_eq_getElem hj)
    have nz : (((T t).length : Nat) : Int) ≠ 0 := by
      rw [T_len]
      omega
    refine ⟨_, rfl, b1, dx1, bf t, rfl, ho1, bf_no t (by decide +kernel), b1, t, rfl, k1a, (fun e => absurd e ne), fun _ Hb ob kb => ?_⟩
    have kpb := kpB_of k1a taba ob
    have k2b := k2a.kb taba (Ne.symm nbb) kpb
    have tabb := kpb.tab
    obtain ⟨dxb, hob⟩ := kb.ob
    have ld : (t.drop 1).length + 1 = t.length := by
      rw [List.length_drop]
      omega
    refine ⟨_, rfl, b1, dxb, bf (t.drop 1), rfl, hob, bf_no _ (by decide +kernel), _, rfl, _, rfl, _, rfl, T t, rfl, tT, _, _, rfl, rfl, nz, _, _, t[j], rfl, rfl, tT, at_, ?_⟩
    refine ⟨b1, .str (T [t[j]]), t.drop 1, rfl, kb, tabb, .text [t[j]] (small200 (show 1 ≤ 200 by decide)), (fun e => absurd (goodL.symm.trans e) (by decide)), (fun _ e => absurd e (by omega)), fun c' ec _ _ Hc kpc kc => ?_⟩
    obtain rfl : t[j] = c' := (List.cons.inj (T_inj (V.str.inj ec))).1
    have k2c := k2b.kb tabb (Ne.symm nbb) kpc
    have tabc := kpc.tab
    obtain ⟨dxc, hoc⟩ := k2c.ob
    refine ⟨_, rfl, b2, dxc, bf (str t f la), rfl, hoc, bf_no _ (by decide +kernel), ?_⟩
    rw [b_T]
    refine ⟨b2, _, str t f la, rfl, k2c, tabc, thb _, (fun e => absurd (goodb.symm.trans e) (by decide)), (fun _ e => absurd e (by omega)), fun c' ec _ _ Hd kpd kd => ?_⟩
    obtain rfl : 98 = c' := (List.cons.inj (T_inj (V.str.inj ec))).1
    have k1d := kc.kb tabc nbb kpd
    have tabd := kpd.tab
    -- the end
    have ec1 : cutS (T t) (some 1) none = T (t.drop 1) := cut_from t 1
    refine ⟨_, rfl, _, rfl, 1, rfl, T t, rfl, tT, ?_⟩
    rw [ec1]
    refine ⟨_, rfl, _, rfl, _, rfl, T t, rfl, tT, _, _, rfl, rfl, nz, _, _, t[j], rfl, rfl, tT, at_, ?_⟩
    refine ⟨T (t.drop 1), T [t[j]], rfl, rfl, ?_, ?_⟩
    · rw [T_len, T_len]
      exact small200 (show (t.drop 1).length + 1 ≤ 200 by omega)
    rw [T_app]
    refine ⟨b1, t.drop 1 ++ [t[j]], rfl, k1d, ?_, tabd, fun He kpe => ⟨true, rfl, iteT ?_⟩⟩
    · rw [List.length_append]
      show (t.drop 1).length + 1 ≤ 100
      omega
    have ke := kd.kp tabd kpe
    refine ⟨_, rfl, _, rfl, _, rfl, _, rfl, _, rfl, _, rfl, T t, rfl, tT, ?_⟩
    rw [cut_str (by omega) h2]
    refine ⟨T [98], T (str t f la), rfl, rfl, ?_, ?_⟩
    · rw [T_len, T_len]
      exact small200 (show 1 + (str t f la).length ≤ 200 by omega)
    rw [T_app]
    exact ⟨b2, 98 :: str t f la, rfl, ke, by show (str t f la).length + 1 ≤ 100; omega, kpe.tab, fun Hf kpf => q Hf⟩
end
end Mw
namespace Mw
open PySem PySem.Spec PyProof.Rows L2
theorem all_mk {l : PySem.W.OpenLaw} {qq : Program} {w : World} {K : PySem.W.Frag} {h : Heap} {mg : Str → Option Value} {fa : Addr} (X : K.In h) (G : h.Ns mainGlobals mg) (hfa : mg "law" = some (.ref fa))
    {C0 : Addr} (e0 : PySem.W.nsIn K mainGlobals "BadText" = some (some (.ref C0)))
    {C1 : Addr} (e1 : PySem.W.nsIn K mainGlobals "BadLetter" = some (some (.ref C1)))
    {C2 : Addr} (e2 : PySem.W.nsIn K mainGlobals "Full" = some (some (.ref C2)))
    {C3 : Addr} (e3 : PySem.W.nsIn K mainGlobals "NoPlace" = some (some (.ref C3)))
    {C4 : Addr} (e4 : PySem.W.nsIn K mainGlobals "BadWord" = some (some (.ref C4)))
    {C5 : Addr} (e5 : PySem.W.nsIn K mainGlobals "BadArms" = some (some (.ref C5)))
    {C6 : Addr} (e6 : PySem.W.nsIn K mainGlobals "NoText" = some (some (.ref C6)))
    {C7 : Addr} (e7 : PySem.W.nsIn K mainGlobals "Book" = some (some (.ref C7)))
    {f1 cc1 : Addr} {od1 an1 : Option Addr} {sl1 : Array (Option Value)} {oc1 kV1 dc1 pm1 ct1 : Value}
    (a1 : PySem.W.nsIn K mainGlobals "is_text" = some (some (.ref f1))) (l1 : K.lookup f1 = some ⟨oc1, od1, .func (PySem.W.fnOf "is_text" "is_text" (defArgs sIs) (defBody sIs) (defScope sIs) .none kV1 dc1 pm1 an1 (.ref cc1) ct1), sl1⟩) (c1 : PySem.W.codeIn K (.ref cc1) "is_text" = true) (k1 : PySem.W.keepIn K (.ref f1) = true)
    {f2 : Addr} {od2 an2 : Option Addr} {sl2 : Array (Option Value)} {oc2 kV2 dc2 pm2 ct2 cd2 : Value}
    (a2 : PySem.W.nsIn K mainGlobals "reads_alike" = some (some (.ref f2))) (l2 : K.lookup f2 = some ⟨oc2, od2, .func (PySem.W.fnOf "reads_alike" "reads_alike" (defArgs sAlike) (defBody sAlike) (defScope sAlike) .none kV2 dc2 pm2 an2 cd2 ct2), sl2⟩) (c2 : PySem.W.codeIn K cd2 "reads_alike" = true) (k2 : PySem.W.keepIn K (.ref f2) = true)
    {f3 : Addr} {od3 an3 : Option Addr} {sl3 : Array (Option Value)} {oc3 kV3 dc3 pm3 ct3 cd3 : Value}
    (a3 : PySem.W.nsIn K mainGlobals "is_mirror" = some (some (.ref f3))) (l3 : K.lookup f3 = some ⟨oc3, od3, .func (PySem.W.fnOf "is_mirror" "is_mirror" (defArgs sMir) (defBody sMir) (defScope sMir) .none kV3 dc3 pm3 an3 cd3 ct3), sl3⟩) (c3 : PySem.W.codeIn K cd3 "is_mirror" = true) (k3 : PySem.W.keepIn K (.ref f3) = true)
    {f4 : Addr} {od4 an4 : Option Addr} {sl4 : Array (Option Value)} {oc4 kV4 dc4 pm4 ct4 cd4 : Value}
    (a4 : PySem.W.nsIn K mainGlobals "refuse_no_text" = some (some (.ref f4))) (l4 : K.lookup f4 = some ⟨oc4, od4, .func (PySem.W.fnOf "refuse_no_text" "refuse_no_text" (defArgs sRNT) (defBody sRNT) (defScope sRNT) .none kV4 dc4 pm4 an4 cd4 ct4), sl4⟩) (c4 : PySem.W.codeIn K cd4 "refuse_no_text" = true) (k4 : PySem.W.keepIn K (.ref f4) = true)
    {f5 : Addr} {od5 an5 : Option Addr} {sl5 : Array (Option Value)} {oc5 kV5 dc5 pm5 ct5 cd5 : Value}
    (a5 : PySem.W.nsIn K mainGlobals "refuse_no_mirror" = some (some (.ref f5))) (l5 : K.lookup f5 = some ⟨oc5, od5, .func (PySem.W.fnOf "refuse_no_mirror" "refuse_no_mirror" (defArgs sNoM) (defBody sNoM) (defScope sNoM) .none kV5 dc5 pm5 an5 cd5 ct5), sl5⟩) (c5 : PySem.W.codeIn K cd5 "refuse_no_mirror" = true) (k5 : PySem.W.keepIn K (.ref f5) = true)
    {f6 : Addr} {od6 an6 : Option Addr} {sl6 : Array (Option Value)} {oc6 kV6 dc6 pm6 ct6 cd6 : Value}
    (a6 : PySem.W.nsIn K mainGlobals "is_number_to" = some (some (.ref f6))) (l6 : K.lookup f6 = some ⟨oc6, od6, .func (PySem.W.fnOf "is_number_to" "is_number_to" (defArgs sNumTo) (defBody sNumTo) (defScope sNumTo) .none kV6 dc6 pm6 an6 cd6 ct6), sl6⟩) (c6 : PySem.W.codeIn K cd6 "is_number_to" = true) (k6 : PySem.W.keepIn K (.ref f6) = true)
    {f7 : Addr} {od7 an7 : Option Addr} {sl7 : Array (Option Value)} {oc7 kV7 dc7 pm7 ct7 cd7 : Value}
    (a7 : PySem.W.nsIn K mainGlobals "longest_at_end" = some (some (.ref f7))) (l7 : K.lookup f7 = some ⟨oc7, od7, .func (PySem.W.fnOf "longest_at_end" "longest_at_end" (defArgs sLAE) (defBody sLAE) (defScope sLAE) .none kV7 dc7 pm7 an7 cd7 ct7), sl7⟩) (c7 : PySem.W.codeIn K cd7 "longest_at_end" = true) (k7 : PySem.W.keepIn K (.ref f7) = true)
    {f8 : Addr} {od8 an8 : Option Addr} {sl8 : Array (Option Value)} {oc8 kV8 dc8 pm8 ct8 cd8 : Value}
    (a8 : PySem.W.nsIn K mainGlobals "longest_at_start" = some (some (.ref f8))) (l8 : K.lookup f8 = some ⟨oc8, od8, .func (PySem.W.fnOf "longest_at_start" "longest_at_start" (defArgs sLAS) (defBody sLAS) (defScope sLAS) .none kV8 dc8 pm8 an8 cd8 ct8), sl8⟩) (c8 : PySem.W.codeIn K cd8 "longest_at_start" = true) (k8 : PySem.W.keepIn K (.ref f8) = true)
    {f9 : Addr} {od9 an9 : Option Addr} {sl9 : Array (Option Value)} {oc9 kV9 dc9 pm9 ct9 cd9 : Value}
    (a9 : PySem.W.nsIn K mainGlobals "unless_in" = some (some (.ref f9))) (l9 : K.lookup f9 = some ⟨oc9, od9, .func (PySem.W.fnOf "unless_in" "unless_in" (defArgs sUnless) (defBody sUnless) (defScope sUnless) .none kV9 dc9 pm9 an9 cd9 ct9), sl9⟩) (c9 : PySem.W.codeIn K cd9 "unless_in" = true) (k9 : PySem.W.keepIn K (.ref f9) = true)
    {f10 : Addr} {od10 an10 : Option Addr} {sl10 : Array (Option Value)} {oc10 kV10 dc10 pm10 ct10 cd10 : Value}
    (a10 : PySem.W.nsIn K mainGlobals "refuse_put" = some (some (.ref f10))) (l10 : K.lookup f10 = some ⟨oc10, od10, .func (PySem.W.fnOf "refuse_put" "refuse_put" (defArgs sRPut) (defBody sRPut) (defScope sRPut) .none kV10 dc10 pm10 an10 cd10 ct10), sl10⟩) (c10 : PySem.W.codeIn K cd10 "refuse_put" = true) (k10 : PySem.W.keepIn K (.ref f10) = true)
    {f11 : Addr} {od11 an11 : Option Addr} {sl11 : Array (Option Value)} {oc11 kV11 dc11 pm11 ct11 cd11 : Value}
    (a11 : PySem.W.nsIn K mainGlobals "refuse_cut" = some (some (.ref f11))) (l11 : K.lookup f11 = some ⟨oc11, od11, .func (PySem.W.fnOf "refuse_cut" "refuse_cut" (defArgs sRCut) (defBody sRCut) (defScope sRCut) .none kV11 dc11 pm11 an11 cd11 ct11), sl11⟩) (c11 : PySem.W.codeIn K cd11 "refuse_cut" = true) (k11 : PySem.W.keepIn K (.ref f11) = true)
    {f12 : Addr} {od12 an12 : Option Addr} {sl12 : Array (Option Value)} {oc12 kV12 dc12 pm12 ct12 cd12 : Value}
    (a12 : PySem.W.nsIn K mainGlobals "refuse_no_place" = some (some (.ref f12))) (l12 : K.lookup f12 = some ⟨oc12, od12, .func (PySem.W.fnOf "refuse_no_place" "refuse_no_place" (defArgs sRNP) (defBody sRNP) (defScope sRNP) .none kV12 dc12 pm12 an12 cd12 ct12), sl12⟩) (c12 : PySem.W.codeIn K cd12 "refuse_no_place" = true) (k12 : PySem.W.keepIn K (.ref f12) = true)
    {f13 : Addr} {od13 an13 : Option Addr} {sl13 : Array (Option Value)} {oc13 kV13 dc13 pm13 ct13 cd13 : Value}
    (a13 : PySem.W.findIn K (.ref C7) "whole" = some (some (.ref f13))) (i13 : PySem.W.isFn K (.ref f13) = true) (l13 : K.lookup f13 = some ⟨oc13, od13, .func (PySem.W.fnOf "whole" "Book.whole" (defArgs sBWhole) (defBody sBWhole) (defScope sBWhole) .none kV13 dc13 pm13 an13 cd13 ct13), sl13⟩) (c13 : PySem.W.codeIn K cd13 "Book.whole" = true) (k13 : PySem.W.keepIn K (.ref f13) = true)
    {f14 : Addr} {od14 an14 : Option Addr} {sl14 : Array (Option Value)} {oc14 kV14 dc14 pm14 ct14 cd14 : Value}
    (a14 : PySem.W.findIn K (.ref C7) "put_last" = some (some (.ref f14))) (i14 : PySem.W.isFn K (.ref f14) = true) (l14 : K.lookup f14 = some ⟨oc14, od14, .func (PySem.W.fnOf "put_last" "Book.put_last" (defArgs sBPutLast) (defBody sBPutLast) (defScope sBPutLast) .none kV14 dc14 pm14 an14 cd14 ct14), sl14⟩) (c14 : PySem.W.codeIn K cd14 "Book.put_last" = true) (k14 : PySem.W.keepIn K (.ref f14) = true)
    {f15 : Addr} {od15 an15 : Option Addr} {sl15 : Array (Option Value)} {oc15 kV15 dc15 pm15 ct15 cd15 : Value}
    (a15 : PySem.W.findIn K (.ref C7) "put_first" = some (some (.ref f15))) (i15 : PySem.W.isFn K (.ref f15) = true) (l15 : K.lookup f15 = some ⟨oc15, od15, .func (PySem.W.fnOf "put_first" "Book.put_first" (defArgs sBPutFirst) (defBody sBPutFirst) (defScope sBPutFirst) .none kV15 dc15 pm15 an15 cd15 ct15), sl15⟩) (c15 : PySem.W.codeIn K cd15 "Book.put_first" = true) (k15 : PySem.W.keepIn K (.ref f15) = true)
    {f16 : Addr} {od16 an16 : Option Addr} {sl16 : Array (Option Value)} {oc16 kV16 dc16 pm16 ct16 cd16 : Value}
    (a16 : PySem.W.findIn K (.ref C7) "cut_last" = some (some (.ref f16))) (i16 : PySem.W.isFn K (.ref f16) = true) (l16 : K.lookup f16 = some ⟨oc16, od16, .func (PySem.W.fnOf "cut_last" "Book.cut_last" (defArgs sBCutLast) (defBody sBCutLast) (defScope sBCutLast) .none kV16 dc16 pm16 an16 cd16 ct16), sl16⟩) (c16 : PySem.W.codeIn K cd16 "Book.cut_last" = true) (k16 : PySem.W.keepIn K (.ref f16) = true)
    {f17 : Addr} {od17 an17 : Option Addr} {sl17 : Array (Option Value)} {oc17 kV17 dc17 pm17 ct17 cd17 : Value}
    (a17 : PySem.W.findIn K (.ref C7) "cut_first" = some (some (.ref f17))) (i17 : PySem.W.isFn K (.ref f17) = true) (l17 : K.lookup f17 = some ⟨oc17, od17, .func (PySem.W.fnOf "cut_first" "Book.cut_first" (defArgs sBCutFirst) (defBody sBCutFirst) (defScope sBCutFirst) .none kV17 dc17 pm17 an17 cd17 ct17), sl17⟩) (c17 : PySem.W.codeIn K cd17 "Book.cut_first" = true) (k17 : PySem.W.keepIn K (.ref f17) = true)
    {f18 : Addr} {od18 an18 : Option Addr} {sl18 : Array (Option Value)} {oc18 kV18 dc18 pm18 ct18 cd18 : Value}
    (a18 : PySem.W.findIn K (.ref C7) "ends_at" = some (some (.ref f18))) (i18 : PySem.W.isFn K (.ref f18) = true) (l18 : K.lookup f18 = some ⟨oc18, od18, .func (PySem.W.fnOf "ends_at" "Book.ends_at" (defArgs sBEndsAt) (defBody sBEndsAt) (defScope sBEndsAt) .none kV18 dc18 pm18 an18 cd18 ct18), sl18⟩) (c18 : PySem.W.codeIn K cd18 "Book.ends_at" = true) (k18 : PySem.W.keepIn K (.ref f18) = true)
    {f19 : Addr} {od19 an19 : Option Addr} {sl19 : Array (Option Value)} {oc19 kV19 dc19 pm19 ct19 cd19 : Value}
    (a19 : PySem.W.findIn K (.ref C7) "begins_at" = some (some (.ref f19))) (i19 : PySem.W.isFn K (.ref f19) = true) (l19 : K.lookup f19 = some ⟨oc19, od19, .func (PySem.W.fnOf "begins_at" "Book.begins_at" (defArgs sBBeginsAt) (defBody sBBeginsAt) (defScope sBBeginsAt) .none kV19 dc19 pm19 an19 cd19 ct19), sl19⟩) (c19 : PySem.W.codeIn K cd19 "Book.begins_at" = true) (k19 : PySem.W.keepIn K (.ref f19) = true)
    {f20 : Addr} {od20 an20 : Option Addr} {sl20 : Array (Option Value)} {oc20 kV20 dc20 pm20 ct20 cd20 : Value}
    (a20 : PySem.W.findIn K (.ref C7) "words" = some (some (.ref f20))) (i20 : PySem.W.isFn K (.ref f20) = true) (l20 : K.lookup f20 = some ⟨oc20, od20, .func (PySem.W.fnOf "words" "Book.words" (defArgs sBWords) (defBody sBWords) (defScope sBWords) .none kV20 dc20 pm20 an20 cd20 ct20), sl20⟩) (c20 : PySem.W.codeIn K cd20 "Book.words" = true) (k20 : PySem.W.keepIn K (.ref f20) = true)
    {f21 : Addr} {od21 an21 : Option Addr} {sl21 : Array (Option Value)} {oc21 kV21 dc21 pm21 ct21 cd21 : Value}
    (a21 : PySem.W.findIn K (.ref C7) "many" = some (some (.ref f21))) (i21 : PySem.W.isFn K (.ref f21) = true) (l21 : K.lookup f21 = some ⟨oc21, od21, .func (PySem.W.fnOf "many" "Book.many" (defArgs sBMany) (defBody sBMany) (defScope sBMany) .none kV21 dc21 pm21 an21 cd21 ct21), sl21⟩) (c21 : PySem.W.codeIn K cd21 "Book.many" = true) (k21 : PySem.W.keepIn K (.ref f21) = true)
    {f22 : Addr} {od22 an22 : Option Addr} {sl22 : Array (Option Value)} {oc22 kV22 dc22 pm22 ct22 cd22 : Value}
    (a22 : PySem.W.findIn K (.ref C7) "count" = some (some (.ref f22))) (i22 : PySem.W.isFn K (.ref f22) = true) (l22 : K.lookup f22 = some ⟨oc22, od22, .func (PySem.W.fnOf "count" "Book.count" (defArgs sBCount) (defBody sBCount) (defScope sBCount) .none kV22 dc22 pm22 an22 cd22 ct22), sl22⟩) (c22 : PySem.W.codeIn K cd22 "Book.count" = true) (k22 : PySem.W.keepIn K (.ref f22) = true)
    {f23 : Addr} {od23 an23 : Option Addr} {sl23 : Array (Option Value)} {oc23 kV23 dc23 pm23 ct23 cd23 : Value}
    (a23 : PySem.W.findIn K (.ref C7) "longest" = some (some (.ref f23))) (i23 : PySem.W.isFn K (.ref f23) = true) (l23 : K.lookup f23 = some ⟨oc23, od23, .func (PySem.W.fnOf "longest" "Book.longest" (defArgs sBLongest) (defBody sBLongest) (defScope sBLongest) .none kV23 dc23 pm23 an23 cd23 ct23), sl23⟩) (c23 : PySem.W.codeIn K cd23 "Book.longest" = true) (k23 : PySem.W.keepIn K (.ref f23) = true)
    {f24 : Addr} {od24 an24 : Option Addr} {sl24 : Array (Option Value)} {oc24 kV24 dc24 pm24 ct24 cd24 : Value}
    (a24 : PySem.W.nsIn K mainGlobals "arm_at" = some (some (.ref f24))) (l24 : K.lookup f24 = some ⟨oc24, od24, .func (PySem.W.fnOf "arm_at" "arm_at" (defArgs sArmAt) (defBody sArmAt) (defScope sArmAt) .none kV24 dc24 pm24 an24 cd24 ct24), sl24⟩) (c24 : PySem.W.codeIn K cd24 "arm_at" = true) (k24 : PySem.W.keepIn K (.ref f24) = true)
    {f25 : Addr} {od25 an25 : Option Addr} {sl25 : Array (Option Value)} {oc25 kV25 dc25 pm25 ct25 cd25 : Value}
    (a25 : PySem.W.nsIn K mainGlobals "arms" = some (some (.ref f25))) (l25 : K.lookup f25 = some ⟨oc25, od25, .func (PySem.W.fnOf "arms" "arms" (defArgs sArms) (defBody sArms) (defScope sArms) .none kV25 dc25 pm25 an25 cd25 ct25), sl25⟩) (c25 : PySem.W.codeIn K cd25 "arms" = true) (k25 : PySem.W.keepIn K (.ref f25) = true)
    {f26 : Addr} {od26 an26 : Option Addr} {sl26 : Array (Option Value)} {oc26 kV26 dc26 pm26 ct26 cd26 : Value}
    (a26 : PySem.W.nsIn K mainGlobals "are_middles" = some (some (.ref f26))) (l26 : K.lookup f26 = some ⟨oc26, od26, .func (PySem.W.fnOf "are_middles" "are_middles" (defArgs sAreMid) (defBody sAreMid) (defScope sAreMid) .none kV26 dc26 pm26 an26 cd26 ct26), sl26⟩) (c26 : PySem.W.codeIn K cd26 "are_middles" = true) (k26 : PySem.W.keepIn K (.ref f26) = true)
    {f27 : Addr} {od27 an27 : Option Addr} {sl27 : Array (Option Value)} {oc27 kV27 dc27 pm27 ct27 cd27 : Value}
    (a27 : PySem.W.nsIn K mainGlobals "room_at" = some (some (.ref f27))) (l27 : K.lookup f27 = some ⟨oc27, od27, .func (PySem.W.fnOf "room_at" "room_at" (defArgs sRoom) (defBody sRoom) (defScope sRoom) .none kV27 dc27 pm27 an27 cd27 ct27), sl27⟩) (c27 : PySem.W.codeIn K cd27 "room_at" = true) (k27 : PySem.W.keepIn K (.ref f27) = true)
    {f28 : Addr} {od28 an28 : Option Addr} {sl28 : Array (Option Value)} {oc28 kV28 dc28 pm28 ct28 cd28 : Value}
    (a28 : PySem.W.nsIn K mainGlobals "is_arms" = some (some (.ref f28))) (l28 : K.lookup f28 = some ⟨oc28, od28, .func (PySem.W.fnOf "is_arms" "is_arms" (defArgs sIsArms) (defBody sIsArms) (defScope sIsArms) .none kV28 dc28 pm28 an28 cd28 ct28), sl28⟩) (c28 : PySem.W.codeIn K cd28 "is_arms" = true) (k28 : PySem.W.keepIn K (.ref f28) = true)
    {f29 : Addr} {od29 an29 : Option Addr} {sl29 : Array (Option Value)} {oc29 kV29 dc29 pm29 ct29 cd29 : Value}
    (a29 : PySem.W.nsIn K mainGlobals "next_letter" = some (some (.ref f29))) (l29 : K.lookup f29 = some ⟨oc29, od29, .func (PySem.W.fnOf "next_letter" "next_letter" (defArgs sNext) (defBody sNext) (defScope sNext) .none kV29 dc29 pm29 an29 cd29 ct29), sl29⟩) (c29 : PySem.W.codeIn K cd29 "next_letter" = true) (k29 : PySem.W.keepIn K (.ref f29) = true)
    {f30 : Addr} {od30 an30 : Option Addr} {sl30 : Array (Option Value)} {oc30 kV30 dc30 pm30 ct30 cd30 : Value}
    (a30 : PySem.W.nsIn K mainGlobals "least_text" = some (some (.ref f30))) (l30 : K.lookup f30 = some ⟨oc30, od30, .func (PySem.W.fnOf "least_text" "least_text" (defArgs sLeast) (defBody sLeast) (defScope sLeast) .none kV30 dc30 pm30 an30 cd30 ct30), sl30⟩) (c30 : PySem.W.codeIn K cd30 "least_text" = true) (k30 : PySem.W.keepIn K (.ref f30) = true)
    {f31 : Addr} {od31 an31 : Option Addr} {sl31 : Array (Option Value)} {oc31 kV31 dc31 pm31 ct31 cd31 : Value}
    (a31 : PySem.W.nsIn K mainGlobals "ends_from" = some (some (.ref f31))) (l31 : K.lookup f31 = some ⟨oc31, od31, .func (PySem.W.fnOf "ends_from" "ends_from" (defArgs sEndsF) (defBody sEndsF) (defScope sEndsF) .none kV31 dc31 pm31 an31 cd31 ct31), sl31⟩) (c31 : PySem.W.codeIn K cd31 "ends_from" = true) (k31 : PySem.W.keepIn K (.ref f31) = true)
    {f32 : Addr} {od32 an32 : Option Addr} {sl32 : Array (Option Value)} {oc32 kV32 dc32 pm32 ct32 cd32 : Value}
    (a32 : PySem.W.nsIn K mainGlobals "words_needed" = some (some (.ref f32))) (l32 : K.lookup f32 = some ⟨oc32, od32, .func (PySem.W.fnOf "words_needed" "words_needed" (defArgs sNeeded) (defBody sNeeded) (defScope sNeeded) .none kV32 dc32 pm32 an32 cd32 ct32), sl32⟩) (c32 : PySem.W.codeIn K cd32 "words_needed" = true) (k32 : PySem.W.keepIn K (.ref f32) = true)
    {f33 : Addr} {od33 an33 : Option Addr} {sl33 : Array (Option Value)} {oc33 kV33 dc33 pm33 ct33 cd33 : Value}
    (a33 : PySem.W.nsIn K mainGlobals "fewest" = some (some (.ref f33))) (l33 : K.lookup f33 = some ⟨oc33, od33, .func (PySem.W.fnOf "fewest" "fewest" (defArgs sFewest) (defBody sFewest) (defScope sFewest) .none kV33 dc33 pm33 an33 cd33 ct33), sl33⟩) (c33 : PySem.W.codeIn K cd33 "fewest" = true) (k33 : PySem.W.keepIn K (.ref f33) = true)
    {f34 : Addr} {od34 an34 : Option Addr} {sl34 : Array (Option Value)} {oc34 kV34 dc34 pm34 ct34 cd34 : Value}
    (a34 : PySem.W.nsIn K mainGlobals "_law_draw" = some (some (.ref f34))) (l34 : K.lookup f34 = some ⟨oc34, od34, .func (PySem.W.fnOf "_law_draw" "_law_draw" (defArgs sDraw) (defBody sDraw) (defScope sDraw) .none kV34 dc34 pm34 an34 cd34 ct34), sl34⟩) (c34 : PySem.W.codeIn K cd34 "_law_draw" = true) (k34 : PySem.W.keepIn K (.ref f34) = true)
    {f35 : Addr} {od35 an35 : Option Addr} {sl35 : Array (Option Value)} {oc35 kV35 dc35 pm35 ct35 cd35 : Value}
    (a35 : PySem.W.nsIn K mainGlobals "_law_text" = some (some (.ref f35))) (l35 : K.lookup f35 = some ⟨oc35, od35, .func (PySem.W.fnOf "_law_text" "_law_text" (defArgs sText) (defBody sText) (defScope sText) .none kV35 dc35 pm35 an35 cd35 ct35), sl35⟩) (c35 : PySem.W.codeIn K cd35 "_law_text" = true) (k35 : PySem.W.keepIn K (.ref f35) = true)
    {f36 : Addr} {od36 an36 : Option Addr} {sl36 : Array (Option Value)} {oc36 kV36 dc36 pm36 ct36 cd36 : Value}
    (a36 : PySem.W.nsIn K mainGlobals "_law_grown" = some (some (.ref f36))) (l36 : K.lookup f36 = some ⟨oc36, od36, .func (PySem.W.fnOf "_law_grown" "_law_grown" (defArgs sLGrown) (defBody sLGrown) (defScope sLGrown) .none kV36 dc36 pm36 an36 cd36 ct36), sl36⟩) (c36 : PySem.W.codeIn K cd36 "_law_grown" = true) (k36 : PySem.W.keepIn K (.ref f36) = true)
    {f37 : Addr} {od37 an37 : Option Addr} {sl37 : Array (Option Value)} {oc37 kV37 dc37 pm37 ct37 cd37 : Value}
    (a37 : PySem.W.nsIn K mainGlobals "_law_lengths" = some (some (.ref f37))) (l37 : K.lookup f37 = some ⟨oc37, od37, .func (PySem.W.fnOf "_law_lengths" "_law_lengths" (defArgs sLLengths) (defBody sLLengths) (defScope sLLengths) .none kV37 dc37 pm37 an37 cd37 ct37), sl37⟩) (c37 : PySem.W.codeIn K cd37 "_law_lengths" = true) (k37 : PySem.W.keepIn K (.ref f37) = true)
    {f38 : Addr} {od38 an38 : Option Addr} {sl38 : Array (Option Value)} {oc38 kV38 dc38 pm38 ct38 cd38 : Value}
    (a38 : PySem.W.nsIn K mainGlobals "_law_told" = some (some (.ref f38))) (l38 : K.lookup f38 = some ⟨oc38, od38, .func (PySem.W.fnOf "_law_told" "_law_told" (defArgs sLTold) (defBody sLTold) (defScope sLTold) .none kV38 dc38 pm38 an38 cd38 ct38), sl38⟩) (c38 : PySem.W.codeIn K cd38 "_law_told" = true) (k38 : PySem.W.keepIn K (.ref f38) = true)
    {f39 : Addr} {od39 an39 : Option Addr} {sl39 : Array (Option Value)} {oc39 kV39 dc39 pm39 ct39 cd39 : Value}
    (a39 : PySem.W.nsIn K mainGlobals "_law_right" = some (some (.ref f39))) (l39 : K.lookup f39 = some ⟨oc39, od39, .func (PySem.W.fnOf "_law_right" "_law_right" (defArgs sLRight) (defBody sLRight) (defScope sLRight) .none kV39 dc39 pm39 an39 cd39 ct39), sl39⟩) (c39 : PySem.W.codeIn K cd39 "_law_right" = true) (k39 : PySem.W.keepIn K (.ref f39) = true)
    {f40 : Addr} {od40 an40 : Option Addr} {sl40 : Array (Option Value)} {oc40 kV40 dc40 pm40 ct40 cd40 : Value}
    (a40 : PySem.W.nsIn K mainGlobals "law" = some (some (.ref f40))) (l40 : K.lookup f40 = some ⟨oc40, od40, .func (PySem.W.fnOf "law" "law" (defArgs sLaw) (defBody sLaw) (defScope sLaw) .none kV40 dc40 pm40 an40 cd40 ct40), sl40⟩) (c40 : PySem.W.codeIn K cd40 "law" = true) (k40 : PySem.W.keepIn K (.ref f40) = true)
    (z1 : PySem.W.nsIn K mainGlobals "isinstance" = some none)
    (z2 : PySem.W.nsIn K mainGlobals "len" = some none)
    (z3 : PySem.W.nsIn K mainGlobals "all" = some none)
    (z4 : PySem.W.nsIn K mainGlobals "any" = some none)
    (z5 : PySem.W.nsIn K mainGlobals "str" = some none)
    (z6 : PySem.W.nsIn K mainGlobals "int" = some none)
    (z7 : PySem.W.nsIn K mainGlobals "bool" = some none)
    (z8 : PySem.W.nsIn K mainGlobals "range" = some none)
    (z9 : PySem.W.nsIn K mainGlobals "list" = some none)
    (z10 : PySem.W.nsIn K mainGlobals "min" = some none)
    (z11 : PySem.W.nsIn K mainGlobals "max" = some none)
    (z12 : PySem.W.nsIn K mainGlobals "sorted" = some none)
    (z13 : PySem.W.nsIn K mainGlobals "enumerate" = some none)
    (z14 : PySem.W.nsIn K mainGlobals "reversed" = some none)
    {tm : Tok} (gm : PySem.W.nsIn K mainGlobals "MOST" = some (some (.int 200 tm)))
    {P : Addr} {q1 : Value} {q2 : Option Addr} {vs : Array Value} {q3 : Array (Option Value)} (lc : K.lookup cc1 = some ⟨q1, q2, .fields vs, q3⟩)
    (hv : vs[11]? = some (.ref P))
    (nP : K.lookup P = none)
    (x0 : PySem.W.excIn K C0 [.type "ValueError", .type "Exception", .type "BaseException", .type "object"] "ValueError.__new__" = true)
    (xk0 : PySem.W.keepIn K (.ref C0) = true) (xb0 : PySem.W.subIn K (.ref C0) (.type "BaseException") = some true) (xt0 : PySem.W.typeIn K (.ref C0) = some (.type "type"))
    (x1 : PySem.W.excIn K C1 [.type "ValueError", .type "Exception", .type "BaseException", .type "object"] "ValueError.__new__" = true)
    (xk1 : PySem.W.keepIn K (.ref C1) = true) (xb1 : PySem.W.subIn K (.ref C1) (.type "BaseException") = some true) (xt1 : PySem.W.typeIn K (.ref C1) = some (.type "type"))
    (x2 : PySem.W.excIn K C2 [.type "ValueError", .type "Exception", .type "BaseException", .type "object"] "ValueError.__new__" = true)
    (xk2 : PySem.W.keepIn K (.ref C2) = true) (xb2 : PySem.W.subIn K (.ref C2) (.type "BaseException") = some true) (xt2 : PySem.W.typeIn K (.ref C2) = some (.type "type"))
    (x3 : PySem.W.excIn K C3 [.type "ValueError", .type "Exception", .type "BaseException", .type "object"] "ValueError.__new__" = true)
    (xk3 : PySem.W.keepIn K (.ref C3) = true) (xb3 : PySem.W.subIn K (.ref C3) (.type "BaseException") = some true) (xt3 : PySem.W.typeIn K (.ref C3) = some (.type "type"))
    (x4 : PySem.W.excIn K C4 [.type "ValueError", .type "Exception", .type "BaseException", .type "object"] "ValueError.__new__" = true)
    (xk4 : PySem.W.keepIn K (.ref C4) = true) (xb4 : PySem.W.subIn K (.ref C4) (.type "BaseException") = some true) (xt4 : PySem.W.typeIn K (.ref C4) = some (.type "type"))
    (x5 : PySem.W.excIn K C5 [.type "ValueError", .type "Exception", .type "BaseException", .type "object"] "ValueError.__new__" = true)
    (xk5 : PySem.W.keepIn K (.ref C5) = true) (xb5 : PySem.W.subIn K (.ref C5) (.type "BaseException") = some true) (xt5 : PySem.W.typeIn K (.ref C5) = some (.type "type"))
    (x6 : PySem.W.excIn K C6 [.type "ValueError", .type "Exception", .type "BaseException", .type "object"] "ValueError.__new__" = true)
    (xk6 : PySem.W.keepIn K (.ref C6) = true) (xb6 : PySem.W.subIn K (.ref C6) (.type "BaseException") = some true) (xt6 : PySem.W.typeIn K (.ref C6) = some (.type "type"))
    {tl : Tok} (gl : PySem.W.nsIn K mainGlobals "LETTERS" = some (some (.str "abcdefghijklmnopqrstuvwxyz" tl)))
    {fI TD : Addr} {odI anI : Option Addr} {slI : Array (Option Value)} {ocI kVI dcI pmI cdI ctI : Value} (aI : PySem.W.findIn K (.ref C7) "__init__" = some (some (.ref fI))) (iI : PySem.W.isFn K (.ref fI) = true) (lI : K.lookup fI = some ⟨ocI, odI, .func (PySem.W.fnOf "__init__" "Book.__init__" (defArgs sBInit) (defBody sBInit) (defScope sBInit) (.ref TD) kVI dcI pmI anI cdI ctI), slI⟩) (cI : PySem.W.codeIn K cdI "Book.__init__" = true) (kI : PySem.W.keepIn K (.ref fI) = true)
    {tkD : Tok} {nD : Nat} {oD1 : Value} {oD2 : Option Addr} {oD3 : Array (Option Value)} (lD : K.lookup TD = some ⟨oD1, oD2, .seq #[Value.str (Str.ofString "") tkD] nD, oD3⟩)
    (pg : PySem.W.plainGet K C7 Str.empty = true) (hd : PySem.W.hasDictIn K C7 = true) (po : PySem.W.plainOver K C7 = true) (sa : PySem.W.findIn K (.ref C7) "__setattr__" = some (some (.builtin "object.__setattr__"))) (mk : PySem.W.makesIn K C7 = true) (kc : PySem.W.keepIn K (.ref C7) = true) (nT : PySem.W.findIn K (.ref C7) "_text" = some none)
    (tabs : ∀ (y : Str) (c P : Addr), ((recsOf qq).find? (fun e => e.name == y)).isSome = true → PySem.W.tabIn K y = some (c, P) → PySem.W.CodeHd h c P ∧ h.get? P = some { cls := .none, data := .fields #[] })
    (isr : ((recsOf qq).find? (fun e => e.name == ("is_text" : Str))).isSome = true) :
    LamX.LawAtS l w K CX0 7 63 "_law_script" mg fa h := by
  have e := hfa.symm.trans (PySem.W.mg_of X G a40)
  cases e
  have F1 := fun_mk (st := sIs) l1 c1 k1
  have F2 := fun_mk (st := sAlike) l2 c2 k2
  have F3 := fun_mk (st := sMir) l3 c3 k3
  have F4 := fun_mk (st := sRNT) l4 c4 k4
  have F5 := fun_mk (st := sNoM) l5 c5 k5
  have F6 := fun_mk (st := sNumTo) l6 c6 k6
  have F7 := fun_mk (st := sLAE) l7 c7 k7
  have F8 := fun_mk (st := sLAS) l8 c8 k8
  have F9 := fun_mk (st := sUnless) l9 c9 k9
  have F10 := fun_mk (st := sRPut) l10 c10 k10
  have F11 := fun_mk (st := sRCut) l11 c11 k11
  have F12 := fun_mk (st := sRNP) l12 c12 k12
  have F13 := fun_mk (st := sBWhole) l13 c13 k13
  have F14 := fun_mk (st := sBPutLast) l14 c14 k14
  have F15 := fun_mk (st := sBPutFirst) l15 c15 k15
  have F16 := fun_mk (st := sBCutLast) l16 c16 k16
  have F17 := fun_mk (st := sBCutFirst) l17 c17 k17
  have F18 := fun_mk (st := sBEndsAt) l18 c18 k18
  have F19 := fun_mk (st := sBBeginsAt) l19 c19 k19
  have F20 := fun_mk (st := sBWords) l20 c20 k20
  have F21 := fun_mk (st := sBMany) l21 c21 k21
  have F22 := fun_mk (st := sBCount) l22 c22 k22
  have F23 := fun_mk (st := sBLongest) l23 c23 k23
  have F24 := fun_mk (st := sArmAt) l24 c24 k24
  have F25 := fun_mk (st := sArms) l25 c25 k25
  have F26 := fun_mk (st := sAreMid) l26 c26 k26
  have F27 := fun_mk (st := sRoom) l27 c27 k27
  have F28 := fun_mk (st := sIsArms) l28 c28 k28
  have F29 := fun_mk (st := sNext) l29 c29 k29
  have F30 := fun_mk (st := sLeast) l30 c30 k30
  have F31 := fun_mk (st := sEndsF) l31 c31 k31
  have F32 := fun_mk (st := sNeeded) l32 c32 k32
  have F33 := fun_mk (st := sFewest) l33 c33 k33
  have F34 := fun_mk (st := sDraw) l34 c34 k34
  have F35 := fun_mk (st := sText) l35 c35 k35
  have F36 := fun_mk (st := sLGrown) l36 c36 k36
  have F37 := fun_mk (st := sLLengths) l37 c37 k37
  have F38 := fun_mk (st := sLTold) l38 c38 k38
  have F39 := fun_mk (st := sLRight) l39 c39 k39
  have F40 := fun_mk (st := sLaw) l40 c40 k40
  have b1 := F1.binds (ps := ["thing"]) fun _ _ _ _ _ _ us hl => match us, hl with | [_], _ => rfl
  have b2 := F2.binds (ps := ["text"]) fun _ _ _ _ _ _ us hl => match us, hl with | [_], _ => rfl
  have b3 := F3.binds (ps := ["thing"]) fun _ _ _ _ _ _ us hl => match us, hl with | [_], _ => rfl
  have b4 := F4.binds (ps := ["text"]) fun _ _ _ _ _ _ us hl => match us, hl with | [_], _ => rfl
  have b5 := F5.binds (ps := ["word"]) fun _ _ _ _ _ _ us hl => match us, hl with | [_], _ => rfl
  have b6 := F6.binds (ps := ["thing", "most"]) fun _ _ _ _ _ _ us hl => match us, hl with | [_, _], _ => rfl
  have b7 := F7.binds (ps := ["text"]) fun _ _ _ _ _ _ us hl => match us, hl with | [_], _ => rfl
  have b8 := F8.binds (ps := ["text"]) fun _ _ _ _ _ _ us hl => match us, hl with | [_], _ => rfl
  have b9 := F9.binds (ps := ["text", "word"]) fun _ _ _ _ _ _ us hl => match us, hl with | [_, _], _ => rfl
  have b10 := F10.binds (ps := ["letter", "text"]) fun _ _ _ _ _ _ us hl => match us, hl with | [_, _], _ => rfl
  have b11 := F11.binds (ps := ["text"]) fun _ _ _ _ _ _ us hl => match us, hl with | [_], _ => rfl
  have b12 := F12.binds (ps := ["place", "text"]) fun _ _ _ _ _ _ us hl => match us, hl with | [_, _], _ => rfl
  have b13 := F13.binds (ps := ["self"]) fun _ _ _ _ _ _ us hl => match us, hl with | [_], _ => rfl
  have b14 := F14.binds (ps := ["self", "letter"]) fun _ _ _ _ _ _ us hl => match us, hl with | [_, _], _ => rfl
  have b15 := F15.binds (ps := ["self", "letter"]) fun _ _ _ _ _ _ us hl => match us, hl with | [_, _], _ => rfl
  have b16 := F16.binds (ps := ["self"]) fun _ _ _ _ _ _ us hl => match us, hl with | [_], _ => rfl
  have b17 := F17.binds (ps := ["self"]) fun _ _ _ _ _ _ us hl => match us, hl with | [_], _ => rfl
  have b18 := F18.binds (ps := ["self", "place"]) fun _ _ _ _ _ _ us hl => match us, hl with | [_, _], _ => rfl
  have b19 := F19.binds (ps := ["self", "place"]) fun _ _ _ _ _ _ us hl => match us, hl with | [_, _], _ => rfl
  have b20 := F20.binds (ps := ["self"]) fun _ _ _ _ _ _ us hl => match us, hl with | [_], _ => rfl
  have b21 := F21.binds (ps := ["self"]) fun _ _ _ _ _ _ us hl => match us, hl with | [_], _ => rfl
  have b22 := F22.binds (ps := ["self", "word"]) fun _ _ _ _ _ _ us hl => match us, hl with | [_, _], _ => rfl
  have b23 := F23.binds (ps := ["self"]) fun _ _ _ _ _ _ us hl => match us, hl with | [_], _ => rfl
  have b24 := F24.binds (ps := ["text", "middle"]) fun _ _ _ _ _ _ us hl => match us, hl with | [_, _], _ => rfl
  have b25 := F25.binds (ps := ["text"]) fun _ _ _ _ _ _ us hl => match us, hl with | [_], _ => rfl
  have b26 := F26.binds (ps := ["many"]) fun _ _ _ _ _ _ us hl => match us, hl with | [_], _ => rfl
  have b27 := F27.binds (ps := ["middle", "many"]) fun _ _ _ _ _ _ us hl => match us, hl with | [_, _], _ => rfl
  have b28 := F28.binds (ps := ["thing"]) fun _ _ _ _ _ _ us hl => match us, hl with | [_], _ => rfl
  have b29 := F29.binds (ps := ["text", "arms"]) fun _ _ _ _ _ _ us hl => match us, hl with | [_, _], _ => rfl
  have b30 := F30.binds (ps := ["arms"]) fun _ _ _ _ _ _ us hl => match us, hl with | [_], _ => rfl
  have b31 := F31.binds (ps := ["text", "start"]) fun _ _ _ _ _ _ us hl => match us, hl with | [_, _], _ => rfl
  have b32 := F32.binds (ps := ["text"]) fun _ _ _ _ _ _ us hl => match us, hl with | [_], _ => rfl
  have b33 := F33.binds (ps := ["text"]) fun _ _ _ _ _ _ us hl => match us, hl with | [_], _ => rfl
  have b34 := F34.binds (ps := ["_law_script", "_law_k"]) fun _ _ _ _ _ _ us hl => match us, hl with | [_, _], _ => rfl
  have b35 := F35.binds (ps := ["_law_script", "_law_first", "_law_most"]) fun _ _ _ _ _ _ us hl => match us, hl with | [_, _, _], _ => rfl
  have b36 := F36.binds (ps := ["_law_text_here", "_law_at", "_law_cell"]) fun _ _ _ _ _ _ us hl => match us, hl with | [_, _, _], _ => rfl
  have b37 := F37.binds (ps := ["_law_text_here"]) fun _ _ _ _ _ _ us hl => match us, hl with | [_], _ => rfl
  have b38 := F38.binds (ps := ["_law_book"]) fun _ _ _ _ _ _ us hl => match us, hl with | [_], _ => rfl
  have b39 := F39.binds (ps := ["_law_book", "_law_text_here"]) fun _ _ _ _ _ _ us hl => match us, hl with | [_, _], _ => rfl
  have g : ∀ {x : Str} {v : Value}, PySem.W.nsIn K mainGlobals x = some (some v) → mg x = some v := fun e => PySem.W.mg_of X G e
  have gn : ∀ {x : Str}, PySem.W.nsIn K mainGlobals x = some none → mg x = none := fun e => PySem.W.mg_none_of X G e
  have tb := tabs "is_text" cc1 P isr (tab_from a1 l1 rfl lc hv)
  refine ⟨PySem.W.fnOf "law" "law" (defArgs sLaw) (defBody sLaw) (defScope sLaw) .none kV40 dc40 pm40 an40 cd40 ct40, [(cc1, P)], spLaw7 K P, fun p hp => ?_, fun p hp => ?_, fun p hp => ?_, fun s u => .of_eq rfl, fun H a ns hlen hbits hT hS => ⟨a, ns, rfl, hS, hlen, ⟨#[], hT (cc1, P) List.mem_cons_self, trivial⟩, fun _ => rfl⟩, fun base _ _ TB => ?_⟩
  · obtain rfl := List.mem_singleton.mp hp
    exact tb.2
  · obtain rfl := List.mem_singleton.mp hp
    exact nP
  · obtain rfl := List.mem_singleton.mp hp
    exact tb.1
  · have TB1 : GxR.TabB base mg cc1 P := ⟨(TB (cc1, P) List.mem_cons_self).code, (TB (cc1, P) List.mem_cons_self).bm, (TB (cc1, P) List.mem_cons_self).gP⟩
    have E0 : ErrC K mg "BadText" C0 := ⟨g e0, x0, xk0, xb0, xt0⟩
    have E1 : ErrC K mg "BadLetter" C1 := ⟨g e1, x1, xk1, xb1, xt1⟩
    have E2 : ErrC K mg "Full" C2 := ⟨g e2, x2, xk2, xb2, xt2⟩
    have E3 : ErrC K mg "NoPlace" C3 := ⟨g e3, x3, xk3, xb3, xt3⟩
    have E4 : ErrC K mg "BadWord" C4 := ⟨g e4, x4, xk4, xb4, xt4⟩
    have E5 : ErrC K mg "BadArms" C5 := ⟨g e5, x5, xk5, xb5, xt5⟩
    have E6 : ErrC K mg "NoText" C6 := ⟨g e6, x6, xk6, xb6, xt6⟩
    have B : BkC K mg C7 := ⟨⟨pg, hd, po, sa⟩, nT, g e7⟩
    have FI : FunD K "__init__" "Book.__init__" (defArgs sBInit) (defBody sBInit) (defScope sBInit) [.str (T [])] [] fI _ := ⟨⟨ocI, odI, .ref TD, kVI, dcI, pmI, anI, cdI, ctI, slI, rfl, lI, cI, .inr ⟨nofun, TD, _, [Value.str (Str.ofString "") tkD], nD, rfl, lD, rfl, .cons ⟨tkD, rfl⟩ .nil⟩, .inl rfl⟩, kI⟩
    obtain ⟨ds1, vI, bI1⟩ := FI.binds1 (ps := ["self", "text"]) 1 0 nofun rfl (fun _ _ _ _ _ _ _ us its h1 h2 => match us, its, h1, h2 with | [_], [_], _, _ => ⟨_, rfl, rfl⟩)
    obtain ⟨ds2, vI2, bI2⟩ := FI.binds1 (ps := ["self", "text"]) 2 1 nofun rfl (fun _ _ _ _ _ _ _ us its h1 h2 => match us, its, h1, h2 with | [_, _], [_], _, _ => ⟨_, rfl, rfl⟩)
    cases vI2
    have MK : Mk K C7 fI := ⟨mk, aI, iI, kc⟩
    have N1 : Fn l.prog w K mg base CX0 1 "is_text" f1 _ ["thing"] (spIs K P) := ⟨ok_is F1 rfl TB1 (gn z1) (gn z2) (gn z3) (gn z5) (g gm), g a1, k1, b1⟩
    have N2 : Fn l.prog w K mg base CX0 1 "reads_alike" f2 _ ["text"] spAlike := ⟨ok_alike F2, g a2, k2, b2⟩
    have N3 : Fn l.prog w K mg base CX0 2 "is_mirror" f3 _ ["thing"] (spMir K P) := ⟨ok_mir F3 N1 N2 (gn z2), g a3, k3, b3⟩
    have N4 : Fn l.prog w K mg base (L2.CX l.prog w) 2 "refuse_no_text" f4 _ ["text"] (spNoT K P C0) := ⟨ok_rnt F4 N1 E0, g a4, k4, b4⟩
    have GI := ok_binit FI B N4
    have N5 : Fn l.prog w K mg base (L2.CX l.prog w) 3 "refuse_no_mirror" f5 _ ["word"] (spNoM K P C4) := ⟨ok_nom F5 N3 E4, g a5, k5, b5⟩
    have N6 : Fn l.prog w K mg base CX0 1 "is_number_to" f6 _ ["thing", "most"] (spNumTo K) := ⟨ok_numTo F6 (gn z1) (gn z6) (gn z7), g a6, k6, b6⟩
    have N7 : Fn l.prog w K mg base CX0 2 "longest_at_end" f7 _ ["text"] spLpe := ⟨ok_lae F7 N2, g a7, k7, b7⟩
    have N8 : Fn l.prog w K mg base CX0 3 "longest_at_start" f8 _ ["text"] spLps := ⟨ok_las F8 N7, g a8, k8, b8⟩
    have N9 : Fn l.prog w K mg base CX0 1 "unless_in" f9 _ ["text", "word"] spUnless := ⟨ok_unless F9, g a9, k9, b9⟩
    have N10 : Fn l.prog w K mg base (L2.CX l.prog w) 2 "refuse_put" f10 _ ["letter", "text"] (spRPut K P C1 C2) := ⟨ok_rput F10 N1 E1 E2 (gn z2) (g gm), g a10, k10, b10⟩
    have N11 : Fn l.prog w K mg base (L2.CX l.prog w) 1 "refuse_cut" f11 _ ["text"] (spRCut C3) := ⟨ok_rcut F11 E3 (gn z2), g a11, k11, b11⟩
    have N12 : Fn l.prog w K mg base (L2.CX l.prog w) 2 "refuse_no_place" f12 _ ["place", "text"] (spRNP K C3) := ⟨ok_rnp F12 N6 E3 (gn z2), g a12, k12, b12⟩
    have N13 : Me l.prog w K mg base CX0 1 C7 "whole" f13 _ ["self"] (spWhole C7) := ⟨ok_whole F13 B, ⟨a13, i13, k13⟩, b13⟩
    have N14 : Me l.prog w K mg base (L2.CX l.prog w) 3 C7 "put_last" f14 _ ["self", "letter"] (spPut K P C7 C1 C2 (fun l c => l ++ [c]) lps) := ⟨ok_putLast F14 B N10 N9 N7, ⟨a14, i14, k14⟩, b14⟩
    have N15 : Me l.prog w K mg base (L2.CX l.prog w) 4 C7 "put_first" f15 _ ["self", "letter"] (spPut K P C7 C1 C2 (fun l c => c :: l) fun l => lps l.reverse) := ⟨ok_putFirst F15 B N10 N9 N8, ⟨a15, i15, k15⟩, b15⟩
    have N16 : Me l.prog w K mg base (L2.CX l.prog w) 3 C7 "cut_last" f16 _ ["self"] (spCut C7 C3 (fun l => l.dropLast) lps) := ⟨ok_cutLast F16 B N11 N9 N7, ⟨a16, i16, k16⟩, b16⟩
    have N17 : Me l.prog w K mg base (L2.CX l.prog w) 4 C7 "cut_first" f17 _ ["self"] (spCut C7 C3 (fun l => l.drop 1) fun l => lps l.reverse) := ⟨ok_cutFirst F17 B N11 N9 N8, ⟨a17, i17, k17⟩, b17⟩
    have N18 : Me l.prog w K mg base (L2.CX l.prog w) 3 C7 "ends_at" f18 _ ["self", "place"] (spEndsAt K C7 C3 fEnd) := ⟨ok_endsAt F18 B N12 N7, ⟨a18, i18, k18⟩, b18⟩
    have N19 : Me l.prog w K mg base (L2.CX l.prog w) 4 C7 "begins_at" f19 _ ["self", "place"] (spEndsAt K C7 C3 bgn) := ⟨ok_beginsAt F19 B N12 N8, ⟨a19, i19, k19⟩, b19⟩
    have N20 : Me l.prog w K mg base CX0 4 C7 "words" f20 _ ["self"] (spWords C7) := ⟨ok_words F20 B N18 (gn z2) (gn z8) (gn z12), ⟨a20, i20, k20⟩, b20⟩
    have N21 : Me l.prog w K mg base CX0 5 C7 "many" f21 _ ["self"] (spMany C7) := ⟨ok_many F21 B N20 (gn z2), ⟨a21, i21, k21⟩, b21⟩
    have N22 : Me l.prog w K mg base (L2.CX l.prog w) 4 C7 "count" f22 _ ["self", "word"] (spCount K P C7 C4) := ⟨ok_count F22 B N5 (gn z2) (gn z8), ⟨a22, i22, k22⟩, b22⟩
    have N23 : Me l.prog w K mg base CX0 5 C7 "longest" f23 _ ["self"] (spLong C7) := ⟨ok_longest F23 B N19 (gn z2) (gn z8) (gn z11), ⟨a23, i23, k23⟩, b23⟩
    have N24 : Fn l.prog w K mg base CX0 1 "arm_at" f24 _ ["text", "middle"] spArmAt := ⟨ok_armAt F24 (gn z2), g a24, k24, b24⟩
    have N25 : Fn l.prog w K mg base (L2.CX l.prog w) 3 "arms" f25 _ ["text"] (spArms K P C0) := ⟨ok_arms F25 N4 N24 (gn z2) (gn z8), g a25, k25, b25⟩
    have N26 : Fn l.prog w K mg base CX0 1 "are_middles" f26 _ ["many"] spMids := ⟨ok_mids F26 (g gm), g a26, k26, b26⟩
    have N27 : Fn l.prog w K mg base CX0 1 "room_at" f27 _ ["middle", "many"] spRoom := ⟨ok_room F27 (gn z10), g a27, k27, b27⟩
    have N28 : Fn l.prog w K mg base CX0 2 "is_arms" f28 _ ["thing"] (spIsArms K) := ⟨ok_isArms F28 N6 N26 N27 (gn z1) (gn z9) (gn z2) (gn z3) (gn z13), g a28, k28, b28⟩
    have N29 : Fn l.prog w K mg base CX0 1 "next_letter" f29 _ ["text", "arms"] (spNext K) := ⟨ok_next F29 (gn z2) (gn z8) (gn z10) (g gl), g a29, k29, b29⟩
    have N30 : Fn l.prog w K mg base (L2.CX l.prog w) 3 "least_text" f30 _ ["arms"] (spLeast K C5 C6) := ⟨ok_least F30 N28 N29 N24 E5 E6 (gn z2) (gn z8) (gn z4) (gn z13), g a30, k30, b30⟩
    have N31 : Fn l.prog w K mg base CX0 2 "ends_from" f31 _ ["text", "start"] spEndsF := ⟨ok_endsF F31 N2 (gn z2) (gn z8), g a31, k31, b31⟩
    have N32 : Fn l.prog w K mg base CX0 3 "words_needed" f32 _ ["text"] spNeeded := ⟨ok_needed F32 N31 (gn z2) (gn z8) (gn z14) (gn z10), g a32, k32, b32⟩
    have N33 : Fn l.prog w K mg base (L2.CX l.prog w) 4 "fewest" f33 _ ["text"] (spFewest K P C0) := ⟨ok_fewest F33 N4 N32 N31 (gn z2) (gn z11), g a33, k33, b33⟩
    have N34 : Fn l.prog w K mg base CX0 1 "_law_draw" f34 _ ["_law_script", "_law_k"] (spDraw K) := ⟨ok_draw F34 (gn z2), g a34, k34, b34⟩
    have N35 : Fn l.prog w K mg base CX0 2 "_law_text" f35 _ ["_law_script", "_law_first", "_law_most"] (spText K) := ⟨ok_text F35 N34 (gn z2), g a35, k35, b35⟩
    have N36 : Fn l.prog w K mg base CX0 5 "_law_grown" f36 _ ["_law_text_here", "_law_at", "_law_cell"] (spGrown P C7) := ⟨ok_lgrown F36 B MK GI bI1 vI N14 N15 (gn z2), g a36, k36, b36⟩
    have N37 : Fn l.prog w K mg base CX0 4 "_law_lengths" f37 _ ["_law_text_here"] (spLengths P) := ⟨ok_llengths F37 N25 (gn z13) (gn z8), g a37, k37, b37⟩
    have N38 : Fn l.prog w K mg base CX0 5 "_law_told" f38 _ ["_law_book"] (spTold P C7) := ⟨ok_ltold F38 B N20 N22 (gn z2), g a38, k38, b38⟩
    have N39 : Fn l.prog w K mg base CX0 6 "_law_right" f39 _ ["_law_book", "_law_text_here"] (spRightT P C7) := ⟨ok_lright F39 B N20 N13 N38 N37 N33 N23 N30 N25 (gn z2) (gn z11), g a39, k39, b39⟩
    exact ok_law F40 B N34 N35 N36 N39 N20 N14 N16 N15 N17 (gn z2) (gn z8)
end Mw
open PySem PySem.W PyProof.Rows
set_option maxHeartbeats 0 in
theorem PySem.Challenge.cw_mirrorwords_k10_whole_books_and_arms_holds : PySem.Challenge.rw_mirrorwords_k10_whole_books_and_arms.Holds := by
  w_on; o_law; k_head; (case hw => w_witness2)
  k_fill
  refine Mw.walk_tab (l := PySem.Challenge.rw_mirrorwords_k10_whole_books_and_arms) (n := 63) (k := 7) (x := "_law_script") (CX := fun _ => L2.CX0) rfl (by decide) rfl ⟨rfl, by decide, by decide⟩ (fun w h Y => PySem.W.kIn_of Y) ?F (fun _ _ _ _ _ h => h)
  case F =>
    intro w mg fa h tabs KX G hmg
    refine' Mw.all_mk KX G hmg ?e0 ?e1 ?e2 ?e3 ?e4 ?e5 ?e6 ?e7 ?a1 ?l1 ?c1 ?k1 ?a2 ?l2 ?c2 ?k2 ?a3 ?l3 ?c3 ?k3 ?a4 ?l4 ?c4 ?k4 ?a5 ?l5 ?c5 ?k5 ?a6 ?l6 ?c6 ?k6 ?a7 ?l7 ?c7 ?k7 ?a8 ?l8 ?c8 ?k8 ?a9 ?l9 ?c9 ?k9 ?a10 ?l10 ?c10 ?k10 ?a11 ?l11 ?c11 ?k11 ?a12 ?l12 ?c12 ?k12 ?a13 ?i13 ?l13 ?c13 ?k13 ?a14 ?i14 ?l14 ?c14 ?k14 ?a15 ?i15 ?l15 ?c15 ?k15 ?a16 ?i16 ?l16 ?c16 ?k16 ?a17 ?i17 ?l17 ?c17 ?k17 ?a18 ?i18 ?l18 ?c18 ?k18 ?a19 ?i19 ?l19 ?c19 ?k19 ?a20 ?i20 ?l20 ?c20 ?k20 ?a21 ?i21 ?l21 ?c21 ?k21 ?a22 ?i22 ?l22 ?c22 ?k22 ?a23 ?i23 ?l23 ?c23 ?k23 ?a24 ?l24 ?c24 ?k24 ?a25 ?l25 ?c25 ?k25 ?a26 ?l26 ?c26 ?k26 ?a27 ?l27 ?c27 ?k27 ?a28 ?l28 ?c28 ?k28 ?a29 ?l29 ?c29 ?k29 ?a30 ?l30 ?c30 ?k30 ?a31 ?l31 ?c31 ?k31 ?a32 ?l32 ?c32 ?k32 ?a33 ?l33 ?c33 ?k33 ?a34 ?l34 ?c34 ?k34 ?a35 ?l35 ?c35 ?k35 ?a36 ?l36 ?c36 ?k36 ?a37 ?l37 ?c37 ?k37 ?a38 ?l38 ?c38 ?k38 ?a39 ?l39 ?c39 ?k39 ?a40 ?l40 ?c40 ?k40 ?z1 ?z2 ?z3 ?z4 ?z5 ?z6 ?z7 ?z8 ?z9 ?z10 ?z11 ?z12 ?z13 ?z14 ?gm ?lc ?hv ?nP ?x0 ?xk0 ?xb0 ?xt0 ?x1 ?xk1 ?xb1 ?xt1 ?x2 ?xk2 ?xb2 ?xt2 ?x3 ?xk3 ?xb3 ?xt3 ?x4 ?xk4 ?xb4 ?xt4 ?x5 ?xk5 ?xb5 ?xt5 ?x6 ?xk6 ?xb6 ?xt6 ?gl ?aI ?iI ?lI ?cI ?kI ?lD ?pg ?hd ?po ?sa ?mk ?kc ?nT tabs (by decide +kernel)
    (case e0 => k_is); (case e1 => k_is); (case e2 => k_is); (case e3 => k_is); (case e4 => k_is); (case e5 => k_is); (case e6 => k_is); (case e7 => k_is); (case a1 => k_is); (case l1 => k_is); (case c1 => k_is); (case k1 => k_is); (case a2 => k_is); (case l2 => k_is); (case c2 => k_is); (case k2 => k_is); (case a3 => k_is); (case l3 => k_is); (case c3 => k_is); (case k3 => k_is); (case a4 => k_is); (case l4 => k_is); (case c4 => k_is); (case k4 => k_is); (case a5 => k_is); (case l5 => k_is); (case c5 => k_is); (case k5 => k_is); (case a6 => k_is); (case l6 => k_is); (case c6 => k_is); (case k6 => k_is); (case a7 => k_is); (case l7 => k_is); (case c7 => k_is); (case k7 => k_is); (case a8 => k_is); (case l8 => k_is); (case c8 => k_is); (case k8 => k_is); (case a9 => k_is); (case l9 => k_is); (case c9 => k_is); (case k9 => k_is); (case a10 => k_is); (case l10 => k_is); (case c10 => k_is); (case k10 => k_is); (case a11 => k_is); (case l11 => k_is); (case c11 => k_is); (case k11 => k_is); (case a12 => k_is); (case l12 => k_is); (case c12 => k_is); (case k12 => k_is); (case a13 => k_is); (case i13 => k_is); (case l13 => k_is); (case c13 => k_is); (case k13 => k_is); (case a14 => k_is); (case i14 => k_is); (case l14 => k_is); (case c14 => k_is); (case k14 => k_is); (case a15 => k_is); (case i15 => k_is); (case l15 => k_is); (case c15 => k_is); (case k15 => k_is); (case a16 => k_is); (case i16 => k_is); (case l16 => k_is); (case c16 => k_is); (case k16 => k_is); (case a17 => k_is); (case i17 => k_is); (case l17 => k_is); (case c17 => k_is); (case k17 => k_is); (case a18 => k_is); (case i18 => k_is); (case l18 => k_is); (case c18 => k_is); (case k18 => k_is); (case a19 => k_is); (case i19 => k_is); (case l19 => k_is); (case c19 => k_is); (case k19 => k_is); (case a20 => k_is); (case i20 => k_is); (case l20 => k_is); (case c20 => k_is); (case k20 => k_is); (case a21 => k_is); (case i21 => k_is); (case l21 => k_is); (case c21 => k_is); (case k21 => k_is); (case a22 => k_is); (case i22 => k_is); (case l22 => k_is); (case c22 => k_is); (case k22 => k_is); (case a23 => k_is); (case i23 => k_is); (case l23 => k_is); (case c23 => k_is); (case k23 => k_is); (case a24 => k_is); (case l24 => k_is); (case c24 => k_is); (case k24 => k_is); (case a25 => k_is); (case l25 => k_is); (case c25 => k_is); (case k25 => k_is); (case a26 => k_is); (case l26 => k_is); (case c26 => k_is); (case k26 => k_is); (case a27 => k_is); (case l27 => k_is); (case c27 => k_is); (case k27 => k_is); (case a28 => k_is); (case l28 => k_is); (case c28 => k_is); (case k28 => k_is); (case a29 => k_is); (case l29 => k_is); (case c29 => k_is); (case k29 => k_is); (case a30 => k_is); (case l30 => k_is); (case c30 => k_is); (case k30 => k_is); (case a31 => k_is); (case l31 => k_is); (case c31 => k_is); (case k31 => k_is); (case a32 => k_is); (case l32 => k_is); (case c32 => k_is); (case k32 => k_is); (case a33 => k_is); (case l33 => k_is); (case c33 => k_is); (case k33 => k_is); (case a34 => k_is); (case l34 => k_is); (case c34 => k_is); (case k34 => k_is); (case a35 => k_is); (case l35 => k_is); (case c35 => k_is); (case k35 => k_is); (case a36 => k_is); (case l36 => k_is); (case c36 => k_is); (case k36 => k_is); (case a37 => k_is); (case l37 => k_is); (case c37 => k_is); (case k37 => k_is); (case a38 => k_is); (case l38 => k_is); (case c38 => k_is); (case k38 => k_is); (case a39 => k_is); (case l39 => k_is); (case c39 => k_is); (case k39 => k_is); (case a40 => k_is); (case l40 => k_is); (case c40 => k_is); (case k40 => k_is); (case z1 => k_is); (case z2 => k_is); (case z3 => k_is); (case z4 => k_is); (case z5 => k_is); (case z6 => k_is); (case z7 => k_is); (case z8 => k_is); (case z9 => k_is); (case z10 => k_is); (case z11 => k_is); (case z12 => k_is); (case z13 => k_is); (case z14 => k_is); (case gm => k_is); (case lc => k_is); (case hv => exact rfl); (case nP => kernel_rfl); (case x0 => k_exc); (case xk0 => k_is); (case xb0 => k_is); (case xt0 => k_is); (case x1 => k_exc); (case xk1 => k_is); (case xb1 => k_is); (case xt1 => k_is); (case x2 => k_exc); (case xk2 => k_is); (case xb2 => k_is); (case xt2 => k_is); (case x3 => k_exc); (case xk3 => k_is); (case xb3 => k_is); (case xt3 => k_is); (case x4 => k_exc); (case xk4 => k_is); (case xb4 => k_is); (case xt4 => k_is); (case x5 => k_exc); (case xk5 => k_is); (case xb5 => k_is); (case xt5 => k_is); (case x6 => k_exc); (case xk6 => k_is); (case xb6 => k_is); (case xt6 => k_is); (case gl => k_is); (case aI => k_is); (case iI => k_is); (case lI => k_is); (case cI => k_is); (case kI => k_is); (case lD => k_is); (case pg => k_is); (case hd => k_is); (case po => k_is); (case sa => k_is); (case mk => k_is); (case kc => k_is); (case nT => k_is)
