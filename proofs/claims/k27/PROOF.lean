import PyProof.Rows.All
import Wide.All
import OpenK.AllK
import Wide.FinOn
import HandS.ForMost
import HandS.Evl
import HandS.Walk
import HandS.Steps
import HandS.IsInst
import HandS.Defaults
import HandS.More
import HandS.ReplaceLit
import HandS.ReplaceDef
import HandS.ReplaceList
import HandS.Star
import HandS.CallLocal
import HandS.Style
import KE.GoesNew
import PyProof.Rows.SortShellAny
import HandS.Strs
import HandS.SetFor
import KE.KTupSum
import KE.OsArith
import HandS.WideBits
import HandS.DictComp
import HandS.Finally
import HandS.Conv
import KE.KDictZip
import KE.GoesZip
import KE.GoesMore
import PyProof.SeqRoads2
import HandS.Lambda
import KE.KSortKeySt
import HandS.Ends
import HandS.Words
import HandS.List
import PyProof.ReprRoads
import PyProof.StrLawsRepr
import PyProof.FitsInt
import PyProof.EqKinds
import PyProof.Rows.FactsN_isinstance2
import HandS.TupAny
import HandS.ForExc
import HandS.ExcCtx
import HandS.ExcIs
import HandS.HotCalls
import PySem.Challenge.RW_deltawires_k27_texts_spoilt
set_option Elab.async false
set_option linter.all false
set_option maxRecDepth 100000
namespace Dw
open PySem L2 Evl
/-! ### general words -/
def GlV (mg : Str → Option Value) (x : Str) (v : V) : Prop := ∃ u, mg x = some u ∧ RelV v u
theorem pgl {X : Cx} {x : Str} {v : V} {pos : Pos} (hg : Gl X x) (h : GlV X.mg x v) (hd : (x == ("__debug__" : Str)) = false := by decide) : PE X (.Name x pos) (tC v) :=
  let ⟨_, a, b⟩ := h
  pe_glob hg a b hd
/-- a def as callers know it -/
structure Df (P : Program) (w : World) (K : PySem.W.Frag) (mg : Str → Option Value) (base : Heap) (CX : CXT) (x : Str) (k : Nat) (f : Addr) (fd : FuncData) (ps : List Str) (sp : Sp) : Prop where
  ok : FnOk P w K mg base CX k f fd ps sp
  g : mg x = some (.ref f)
  kp : PySem.W.keepIn K (.ref f) = true
  b : Binds K fd ps []
/-- all but what stands at p is as it was -/
def ExB (p : Addr) (H H' : Hp) : Prop := ∀ b o, b ≠ p → H b = some o → H' b = some o
theorem ExB.refl (p : Addr) (H : Hp) : ExB p H H := fun _ _ _ h => h
theorem ExB.trans {p : Addr} {H H1 H2 : Hp} (a : ExB p H H1) (b : ExB p H1 H2) : ExB p H H2 := fun c o n h => b c o n (a c o n h)
theorem ExB.of {p : Addr} {H H' : Hp} (e : Ex H H') : ExB p H H' := fun b o _ h => e b o h
theorem ExB.upd {p : Addr} {H H' : Hp} {o : HO} (e : ExB p H H') : ExB p H (upd H' p o) := fun b u n h => by
  rw [upd_ne n]
  exact e b u n h
theorem ExB.back {p : Addr} {H0 H H' : Hp} (e0 : Ex H0 H) (hp : H0 p = none) (e : ExB p H H') : Ex H0 H' := fun b o h => e b o (ne_of_none h hp) (e0 b o h)
theorem ExB.rd {p a : Addr} {H H' : Hp} {u : HO} (e : ExB p H H') (n : a ≠ p) (h : Rd H a u) : Rd H' a u := by
  rcases h with h | ⟨o, h⟩
  · exact Or.inl (e a _ n h)
  · exact Or.inr ⟨o, e a _ n h⟩
theorem ExB.sq {K : PySem.W.Frag} {p a : Addr} {xs : List V} {H H' : Hp} (e : ExB p H H') (n : a ≠ p) (h : SqL K H a xs) : SqL K H' a xs := by
  rcases h with h | h
  · exact Or.inl (e.rd n h)
  · exact Or.inr h
/-- the pot: two numbers, of which take draws -/
def PotAt (H : Hp) (p : Addr) : Prop := ∃ x y : Int, H p = some (.lst [.int x, .int y]) ∧ 0 ≤ x ∧ 0 ≤ y ∧ y < 2147483647
theorem PotAt.ex {H H' : Hp} {p : Addr} (h : PotAt H p) (e : Ex H H') : PotAt H' p := by
  obtain ⟨x, y, h1, h2⟩ := h
  exact ⟨x, y, e _ _ h1, h2⟩
def spAt (K : PySem.W.Frag) : Sp := fun vs H Q _ => ∃ (a : Addr) (ns : List Int) (k : Int), vs = [.ref a, .int k] ∧ SqL K H a (ns.map V.int) ∧ 0 ≤ k ∧ ∀ c : Int, Q (.int c) H
def spPot (K : PySem.W.Frag) : Sp := fun vs H Q _ => ∃ (a : Addr) (ns : List Int) (k : Int), vs = [.ref a, .int k] ∧ SqL K H a (ns.map V.int) ∧ 0 ≤ k ∧ k ≤ 1000 ∧ ∀ (p : Addr) (H' : Hp), H p = none → Ex H H' → PotAt H' p → Q (.ref p) H'
def spTake : Sp := fun vs H Q _ => ∃ (p : Addr) (m : Int), vs = [.ref p, .int m] ∧ PotAt H p ∧ 0 < m ∧ m < 1073741824 ∧ ∀ (H' : Hp) (d : Int), ExB p H H' → PotAt H' p → 0 ≤ d → d < m → Q (.int d) H'
theorem at_map {ns : List Int} {k : Int} (h0 : 0 ≤ k) (h1 : k < ((ns.map V.int).length : Int)) : ∃ c : Int, atI (ns.map V.int) k = some (.int c) := by
  obtain ⟨j, rfl⟩ := Int.eq_ofNat_of_zero_le h0
  have h2 : j < ns.length := by
    rw [List.length_map] at h1
    omega
  refine ⟨ns[j], atI_nat ?_⟩
  rw [List.getElem?_map, List.getElem?_eq_getElem h2]
  rfl
/-! ### texts by their codes -/
abbrev Tx (l : List Nat) : Str := ⟨l.toArray⟩
theorem Tx_len (l : List Nat) : (Tx l).length = l.length := by simp [Tx, Str.length]
theorem Tx_tl (x : Str) : Tx x.cps.toList = x := TL.mk_tl x
theorem Tx_inj {a b : List Nat} (h : Tx a = Tx b) : a = b := congrArg (fun x : Str => x.cps.toList) h
theorem Tx_cat (a b : List Nat) : Tx a ++ Tx b = Tx (a ++ b) := TL.ext_tl (TL.tl_append (Tx a) (Tx b))
theorem joinL_ones : ∀ l : List Nat, TL.joinL [] (l.map fun c => [c]) = l
  | [] => rfl
  | [_] => rfl
  | c :: d :: r => by
    show [c] ++ ([] ++ TL.joinL [] ((d :: r).map fun c => [c])) = c :: d :: r
    rw [joinL_ones (d :: r)]
    rfl
theorem tl_empty : TL.tl (Str.ofString "") = [] := by decide +kernel
theorem join_ones (l : List Nat) : Txt.join (Str.ofString "") (l.map fun c => Tx [c]) = Tx l := by
  refine TL.ext_tl ?_
  rw [TL.join_eq, TL.tl_join, tl_empty, List.map_map]
  show TL.joinL [] (l.map fun c => [c]) = l
  exact joinL_ones l
theorem ones_len (l : List Nat) : ((l.map fun c => Tx [c]).map (·.length)).sum + (l.map fun c => Tx [c]).length * (Str.ofString "").length = l.length := by
  have e : (Str.ofString "").length = 0 := by decide +kernel
  rw [e, Nat.mul_zero, Nat.add_zero]
  induction l with
  | nil => rfl
  | cons c l ih =>
    rw [List.map_cons, List.map_cons, List.sum_cons, ih, Tx_len]
    simp
    omega
theorem map_strs (l : List Nat) : (l.map fun c => Tx [c]).map V.str = l.map fun c => V.str (Tx [c]) := by
  rw [List.map_map]
  rfl
/-! ### comprehensions by lists -/
theorem range_getD {α : Type} (l : List α) (d : α) : (List.range l.length).map (fun i => l.getD i d) = l := by
  apply List.ext_getElem
  · simp
  · intro i h1 h2
    simp at h1
    simp [h1]
theorem given_list {α : Type} (l : List α) (d : α) (p : α → Bool) (g : α → V) : given l.length (fun i => p (l.getD i d)) (fun i => g (l.getD i d)) = (l.filter p).map g := by
  unfold given
  have e : l.filter p = ((List.range l.length).map (fun i => l.getD i d)).filter p := by rw [range_getD]
  rw [e, List.filter_map, List.map_map]
  rfl
theorem given_all {α : Type} (l : List α) (d : α) (g : α → V) : given l.length (fun _ => true) (fun i => g (l.getD i d)) = l.map g := by
  have e := given_list l d (fun _ => true) g
  rw [List.filter_eq_self.mpr (fun _ _ => rfl)] at e
  exact e
section
variable {K : PySem.W.Frag} {σ : L2.St} {H H' : Hp} {ta tb te tx tl : TE} {t u : TT} {x y z v : V}
theorem el_lcS {z : Str} {j : Nat} {vs : List Nat} (f : Nat → Bool) (v : Nat → V) (h : Ev tl σ H (.str z)) (hz : z.cps.size ≤ 40000) (hw : ∀ x, wipe ((wipe σ vs).set j (some x)) vs = wipe σ vs)
    (ht : ∀ (i : Nat) (c : Nat) H1, Ex H H1 → z.cps[i]? = some c → EvT t ((wipe σ vs).set j (some (.str ⟨#[c]⟩))) H1 (f i)) (he : ∀ (i : Nat) (c : Nat) H1, Ex H H1 → z.cps[i]? = some c → f i = true → Ev te ((wipe σ vs).set j (some (.str ⟨#[c]⟩))) H1 (v i)) :
    EvL (tLc (iStr tl) (gName j) t te vs) σ H (given z.cps.size f v) := fun H0 e Q q => h H0 e _ fun H1 e1 => ⟨z, rfl, fun Dl hD =>
  lc_it walk_str (Cw H1 f v Dl) ⟨hD, Ex.new hD, upd_same⟩ (fun _ _ _ _ => True.intro) (fun i x H2 H3 hi p y => by
    obtain ⟨rfl, c, hc, rfl⟩ := y
    exact ⟨hw _, cw_turn p (by omega) (ht i c H1 (e.trans e1) hc) (fun hf => he i c H1 (e.trans e1) hc hf)⟩)
    (fun H' p => q Dl H' (fresh_back e1 p.1) (e1.trans p.2.1) p.2.2)⟩
/-- over a text: p tells which codes, g what of each -/
theorem el_lcT {l : List Nat} {j : Nat} {vs : List Nat} (p : Nat → Bool) (g : Nat → V) (h : Ev tl σ H (.str (Tx l))) (hz : l.length ≤ 40000) (hw : ∀ x, wipe ((wipe σ vs).set j (some x)) vs = wipe σ vs)
    (ht : ∀ (c : Nat) H1, Ex H H1 → c ∈ l → EvT t ((wipe σ vs).set j (some (.str (Tx [c])))) H1 (p c)) (he : ∀ (c : Nat) H1, Ex H H1 → c ∈ l → p c = true → Ev te ((wipe σ vs).set j (some (.str (Tx [c])))) H1 (g c)) :
    EvL (tLc (iStr tl) (gName j) t te vs) σ H ((l.filter p).map g) := by
  have hs : (Tx l).cps.size = l.length := Tx_len l
  have key : ∀ (i c : Nat), (Tx l).cps[i]? = some c → l.getD i 0 = c ∧ c ∈ l := fun i c hc => by
    have h1 : l[i]? = some c := by
      rw [← hc]
      simp [Tx]
    exact ⟨by rw [List.getD_eq_getElem?_getD, h1]; rfl, List.mem_of_getElem? h1⟩
  rw [← given_list l 0 p g, ← hs]
  refine el_lcS (fun i => p (l.getD i 0)) (fun i => g (l.getD i 0)) h (by omega) hw (fun i c H1 e hc => ?_) (fun i c H1 e hc hf => ?_)
  · obtain ⟨e1, e2⟩ := key i c hc
    simp only [e1]
    exact ht c H1 e e2
  · obtain ⟨e1, e2⟩ := key i c hc
    simp only [e1] at hf ⊢
    exact he c H1 e e2 hf
theorem et_yes : EvT tYes σ H true := fun H1 _ _ q => q H1 (Ex.refl H1)
theorem ev_cbL {r : List V → Hp → VK → Prop} {xs : List V} (h : EvL te σ H xs) (hr : ∀ p H1, H1 p = some (.lst xs) → Ex H H1 → RC r [.ref p] H1 z) : Ev (tCB r (tCons te tNil)) σ H z := fun H1 e Q q =>
  h H1 e _ fun p H2 _ e2 h2 => hr p H2 h2 (e.trans e2) H2 (Ex.refl _) Q fun H3 e3 => q H3 (e2.trans e3)
theorem ev_all {bs : List Bool} (h : EvL te σ H (bs.map V.bl)) : Ev (tCB (rAll K) (tCons te tNil)) σ H (.bl (bs.all id)) :=
  ev_cbL h fun p _ hp _ H2 e2 _ q => ⟨p, bs, rfl, sq_of (e2 p _ hp), q H2 (Ex.refl _)⟩
def rJoinS (K : PySem.W.Frag) : V → List V → Hp → VK → Prop := fun x xs H Q => ∃ a p, ∃ ys : List Str, x = .str a ∧ xs = [.ref p] ∧ (SqL K H p (ys.map V.str) ∨ SqT K H p (ys.map V.str)) ∧
      (ys.map (·.length)).sum + ys.length * a.length ≤ 16777216 ∧ Q (.str (Txt.join a ys)) H
/-- ''.join of a new list of signs -/
theorem ev_join1 {l : List Nat} (h : EvL te σ H (l.map fun c => V.str (Tx [c]))) (hz : l.length ≤ 40000) : Ev (tM1 (rJoinS K) (tC (.str (Str.ofString ""))) te) σ H (.str (Tx l)) := fun H1 e Q q =>
  ⟨⟨_, rfl⟩, h H1 e _ fun p H2 _ e2 h2 => ⟨Str.ofString "", p, l.map fun c => Tx [c], rfl, rfl, Or.inl (sq_of (by rw [map_strs]; exact h2)), by rw [ones_len]; omega, by rw [join_ones]; exact q H2 e2⟩⟩
theorem ev_inS {c : Nat} {w : Str} (ha : Ev ta σ H (.str (Tx [c]))) (hb : Ev tb σ H (.str w)) : Ev (tOp rInS ta tb) σ H (.bl (decide (c ∈ w.cps.toList))) :=
  ev_op ha hb fun H1 _ _ q => ⟨c, w, rfl, rfl, q H1 (Ex.refl _)⟩
theorem ev_notInS {c : Nat} {w : Str} (ha : Ev ta σ H (.str (Tx [c]))) (hb : Ev tb σ H (.str w)) : Ev (tOp rNotInS ta tb) σ H (.bl (!decide (c ∈ w.cps.toList))) :=
  ev_op ha hb fun H1 _ _ q => ⟨c, w, rfl, rfl, q H1 (Ex.refl _)⟩
def rLenT : List V → Hp → VK → Prop := fun xs H Q => ∃ z, xs = [.str z] ∧ z.length ≤ sizeLine ∧ Q (.int z.length) H
theorem ev_lenT {l : List Nat} (ha : Ev ta σ H (.str (Tx l))) (hz : l.length ≤ 40000) : Ev (tCB rLenT (tCons ta tNil)) σ H (.int (l.length : Int)) := fun H1 e Q q =>
  ha H1 e _ fun H2 e2 => ⟨Tx l, rfl, sz_of (by rw [Tx_len]; omega), by rw [Tx_len]; exact q H2 e2⟩
end
/-! ### lists of texts and of numbers compared -/
theorem dpAll_strs {K : PySem.W.Frag} {H : Hp} : ∀ xs : List Str, DpAll K H (xs.map V.str) (xs.map PyData.str)
  | [] => .nil
  | x :: xs => .cons (.str x) (dpAll_strs xs)
theorem dpAll_ints {K : PySem.W.Frag} {H : Hp} : ∀ xs : List Int, DpAll K H (xs.map V.int) (xs.map PyData.int)
  | [] => .nil
  | x :: xs => .cons (.int x) (dpAll_ints xs)
theorem dpAll_bls {K : PySem.W.Frag} {H : Hp} : ∀ xs : List Bool, DpAll K H (xs.map V.bl) (xs.map PyData.bool)
  | [] => .nil
  | x :: xs => .cons (.bl x) (dpAll_bls xs)
theorem eqvAll_strs : ∀ xs ys : List Str, PyData.eqvAll (xs.map PyData.str) (ys.map PyData.str) = decide (xs = ys)
  | [], [] => by simp [PyData.eqvAll]
  | [], y :: ys => by simp [PyData.eqvAll]
  | x :: xs, [] => by simp [PyData.eqvAll]
  | x :: xs, y :: ys => by
    have ih := eqvAll_strs xs ys
    simp only [List.map_cons, PyData.eqvAll, PyData.eqv, ih]
    rw [Bool.eq_iff_iff]
    simp
theorem eqvAll_ints : ∀ xs ys : List Int, PyData.eqvAll (xs.map PyData.int) (ys.map PyData.int) = decide (xs = ys)
  | [], [] => by simp [PyData.eqvAll]
  | [], y :: ys => by simp [PyData.eqvAll]
  | x :: xs, [] => by simp [PyData.eqvAll]
  | x :: xs, y :: ys => by
    have ih := eqvAll_ints xs ys
    simp only [List.map_cons, PyData.eqvAll, PyData.eqv, ih]
    rw [Bool.eq_iff_iff]
    simp
theorem eqvAll_bls : ∀ xs ys : List Bool, PyData.eqvAll (xs.map PyData.bool) (ys.map PyData.bool) = decide (xs = ys)
  | [], [] => by simp [PyData.eqvAll]
  | [], y :: ys => by simp [PyData.eqvAll]
  | x :: xs, [] => by simp [PyData.eqvAll]
  | x :: xs, y :: ys => by
    have ih := eqvAll_bls xs ys
    simp only [List.map_cons, PyData.eqvAll, PyData.eqv, ih]
    rw [Bool.eq_iff_iff]
    simp
def LowS (x : Str) : Prop := PyData.canLay0 (.str x) = true
theorem lay_strs : ∀ {xs : List Str}, (∀ x ∈ xs, LowS x) → PyData.canLayAll0 (xs.map PyData.str) = true
  | [], _ => by simp [PyData.canLayAll0]
  | x :: xs, h => by
    rw [List.map_cons, PyData.canLayAll0, h x (List.mem_cons_self ..), lay_strs fun y hy => h y (List.mem_cons_of_mem _ hy)]
    rfl
theorem lay_ints : ∀ xs : List Int, PyData.canLayAll0 (xs.map PyData.int) = true
  | [] => by simp [PyData.canLayAll0]
  | x :: xs => by
    rw [List.map_cons, PyData.canLayAll0, lay_ints xs]
    simp [PyData.canLay0]
theorem lay_bls : ∀ xs : List Bool, PyData.canLayAll0 (xs.map PyData.bool) = true
  | [] => by simp [PyData.canLayAll0]
  | x :: xs => by
    rw [List.map_cons, PyData.canLayAll0, lay_bls xs]
    simp [PyData.canLay0]
theorem deep_strs : ∀ xs : List Str, PyData.depthAll (xs.map PyData.str) = 0
  | [] => by simp [PyData.depthAll]
  | x :: xs => by
    rw [List.map_cons, PyData.depthAll, deep_strs xs]
    simp [PyData.depth]
theorem deep_ints : ∀ xs : List Int, PyData.depthAll (xs.map PyData.int) = 0
  | [] => by simp [PyData.depthAll]
  | x :: xs => by
    rw [List.map_cons, PyData.depthAll, deep_ints xs]
    simp [PyData.depth]
theorem deep_bls : ∀ xs : List Bool, PyData.depthAll (xs.map PyData.bool) = 0
  | [] => by simp [PyData.depthAll]
  | x :: xs => by
    rw [List.map_cons, PyData.depthAll, deep_bls xs]
    simp [PyData.depth]
theorem shaped_strs {xs : List Str} (h : ∀ x ∈ xs, LowS x) : SeqAt.shaped (.list (xs.map PyData.str)) = true := by
  unfold SeqAt.shaped
  rw [PyData.canLay0, lay_strs h, PyData.depth, deep_strs]
  rfl
theorem shaped_ints (xs : List Int) : SeqAt.shaped (.list (xs.map PyData.int)) = true := by
  unfold SeqAt.shaped
  rw [PyData.canLay0, lay_ints, PyData.depth, deep_ints]
  rfl
theorem shaped_bls (xs : List Bool) : SeqAt.shaped (.list (xs.map PyData.bool)) = true := by
  unfold SeqAt.shaped
  rw [PyData.canLay0, lay_bls, PyData.depth, deep_bls]
  rfl
theorem low_Tx {l : List Nat} (h : ∀ c ∈ l, c < 128) : LowS (Tx l) := by
  unfold LowS
  rw [PyData.canLay0]
  unfold PyData.strOk
  first
    | (simp only [Tx, List.all_toArray, List.all_eq_true]; intro c hc; have := h c hc; simp; omega)
    | (simp [Tx]; intro c hc; have := h c hc; omega)
section
variable {K : PySem.W.Frag} {H : Hp}
theorem rv_eqStrs {p q : Addr} {xs ys : List Str} (h1 : SqL K H p (xs.map V.str)) (h2 : SqL K H q (ys.map V.str)) (l1 : ∀ x ∈ xs, LowS x) (l2 : ∀ x ∈ ys, LowS x) : RV (rEqD K) (.ref p) (.ref q) H (.bl (decide (xs = ys))) := fun H1 e Q k =>
  ⟨_, _, .lst (ex_l e h1) (dpAll_strs xs), .lst (ex_l e h2) (dpAll_strs ys), shaped_strs l1, shaped_strs l2, by rw [PyData.eqv, eqvAll_strs]; exact k H1 (Ex.refl _)⟩
theorem rv_neStrs {p q : Addr} {xs ys : List Str} (h1 : SqL K H p (xs.map V.str)) (h2 : SqL K H q (ys.map V.str)) (l1 : ∀ x ∈ xs, LowS x) (l2 : ∀ x ∈ ys, LowS x) : RV (rNeD K) (.ref p) (.ref q) H (.bl (!decide (xs = ys))) := fun H1 e Q k =>
  ⟨_, _, .lst (ex_l e h1) (dpAll_strs xs), .lst (ex_l e h2) (dpAll_strs ys), shaped_strs l1, shaped_strs l2, by rw [PyData.eqv, eqvAll_strs]; exact k H1 (Ex.refl _)⟩
theorem rv_eqInts {p q : Addr} {xs ys : List Int} (h1 : SqL K H p (xs.map V.int)) (h2 : SqL K H q (ys.map V.int)) : RV (rEqD K) (.ref p) (.ref q) H (.bl (decide (xs = ys))) := fun H1 e Q k =>
  ⟨_, _, .lst (ex_l e h1) (dpAll_ints xs), .lst (ex_l e h2) (dpAll_ints ys), shaped_ints xs, shaped_ints ys, by rw [PyData.eqv, eqvAll_ints]; exact k H1 (Ex.refl _)⟩
theorem rv_neBls {p q : Addr} {xs ys : List Bool} (h1 : SqL K H p (xs.map V.bl)) (h2 : SqL K H q (ys.map V.bl)) : RV (rNeD K) (.ref p) (.ref q) H (.bl (!decide (xs = ys))) := fun H1 e Q k =>
  ⟨_, _, .lst (ex_l e h1) (dpAll_bls xs), .lst (ex_l e h2) (dpAll_bls ys), shaped_bls xs, shaped_bls ys, by rw [PyData.eqv, eqvAll_bls]; exact k H1 (Ex.refl _)⟩
theorem rv_eqBls {p q : Addr} {xs ys : List Bool} (h1 : SqL K H p (xs.map V.bl)) (h2 : SqL K H q (ys.map V.bl)) : RV (rEqD K) (.ref p) (.ref q) H (.bl (decide (xs = ys))) := fun H1 e Q k =>
  ⟨_, _, .lst (ex_l e h1) (dpAll_bls xs), .lst (ex_l e h2) (dpAll_bls ys), shaped_bls xs, shaped_bls ys, by rw [PyData.eqv, eqvAll_bls]; exact k H1 (Ex.refl _)⟩
end
section
variable {K : PySem.W.Frag} {σ : L2.St} {H H' : Hp} {ta tb tc te tx tl : TE} {t u : TT} {x y z v : V}
theorem ev_chain {r r' : R2} {w' : V} {k k2 : Bool} (ha : Ev ta σ H x) (hb : Ev tb σ H y) (h1 : RV r x y H (.bl k)) (h2 : k = true → Ev tc σ H w' ∧ RV r' y w' H (.bl k2)) : Ev (tChain r r' ta tb tc) σ H (.bl (k && k2)) := fun H1 e Q q =>
  ha H1 e _ fun H2 e2 => hb H2 (e.trans e2) _ fun H3 e3 => h1 H3 ((e.trans e2).trans e3) _ fun H4 e4 => ⟨k, rfl, by
    cases k with
    | true =>
      obtain ⟨hc, h3⟩ := h2 rfl
      show tc σ H4 fun w' H4 => r' y w' H4 Q
      exact hc H4 (((e.trans e2).trans e3).trans e4) _ fun H5 e5 => h3 H5 ((((e.trans e2).trans e3).trans e4).trans e5) Q fun H6 e6 => q H6 ((((e2.trans e3).trans e4).trans e5).trans e6)
    | false =>
      show Q (.bl false) H4
      exact q H4 ((e2.trans e3).trans e4)⟩
theorem ev_isi {T : String} {b : Bool} (ha : Ev ta σ H v) (hb : Ev tb σ H (.ty T)) (ty : ∀ H1, Ex H H1 → ∃ t, TyX K H1 v (.type t) ∧ kitB t T = some b) : Ev (tCB (rIsi K) (tCons ta (tCons tb tNil))) σ H (.bl b) := fun H1 e Q q =>
  ha H1 e _ fun H2 e2 => hb H2 (e.trans e2) _ fun H3 e3 => by
    obtain ⟨t, h1, h2⟩ := ty H3 ((e.trans e2).trans e3)
    exact ⟨v, .ty T, .type t, .type T, b, rfl, .ty T, h1, kit_ty h2, q H3 (e2.trans e3)⟩
theorem ev_eqS {r : R2} (ha : Ev ta σ H x) (hb : Ev tb σ H y) (h : RV r x y H z) : Ev (tOp r ta tb) σ H z := ev_op ha hb h
end
theorem op_mulS {X : Cx} : OpR X (binaryOp .Mult) (fun x y H Q => ∃ a i, x = .str a ∧ y = .int i ∧ MulOk a i ∧ Q (.str (Txt.mul a i)) H) := by
  intro pins s σ H x y v u Q I rx ry h
  obtain ⟨a, i, rfl, rfl, hm, q⟩ := h
  obtain ⟨t, rfl⟩ := rx
  obtain ⟨t', rfl⟩ := ry
  exact SB.mul hm fun t' k => ⟨.str (Txt.mul a i), H, I.tok _, ⟨_, rfl⟩, q⟩
structure DfD (P : Program) (w : World) (K : PySem.W.Frag) (mg : Str → Option Value) (base : Heap) (CX : CXT) (x : Str) (k : Nat) (f : Addr) (fd : FuncData) (ps : List Str) (sp : Sp) : Prop where
  ok : FnOk P w K mg base CX k f fd ps sp
  g : mg x = some (.ref f)
  kp : PySem.W.keepIn K (.ref f) = true
section
variable {K : PySem.W.Frag} {σ : L2.St} {H H' : Hp} {ta tb tc te tx tl : TE} {t u : TT} {x y z v : V}
theorem el_lcT1 {l : List Nat} {j : Nat} {vs : List Nat} (g : Nat → V) (h : Ev tl σ H (.str (Tx l))) (hz : l.length ≤ 40000) (hw : ∀ x, wipe ((wipe σ vs).set j (some x)) vs = wipe σ vs)
    (he : ∀ (c : Nat) H1, Ex H H1 → c ∈ l → Ev te ((wipe σ vs).set j (some (.str (Tx [c])))) H1 (g c)) :
    EvL (tLc (iStr tl) (gName j) tYes te vs) σ H (l.map g) := by
  have e := el_lcT (fun _ => true) g h hz hw (fun c H1 _ _ => et_yes) (fun c H1 e hc _ => he c H1 e hc)
  rw [List.filter_eq_self.mpr (fun _ _ => rfl)] at e
  exact e
theorem ev_callN {sp : Sp} {n m : Nat} {gV : List V → List V → List V} {E : XK} {tA tK : TA} {vs zs : List V} (h : EvA tA σ H vs) (hk : EvA tK σ H zs) (l1 : vs.length = n) (l2 : zs.length = m) (hs : SpV sp (gV vs zs) H z) : Ev (tCallN n m sp gV E tA tK) σ H z := fun H1 e Q q =>
  h H1 e _ fun H2 e2 => hk H2 (e.trans e2) _ fun H3 e3 => ⟨l1, l2, hs H3 ((e.trans e2).trans e3) Q (fun H4 e4 => q H4 ((e2.trans e3).trans e4)) E⟩
end
theorem ExB.mut {p D : Addr} {H H' : Hp} {o : HO} (e : ExB p H H') (h : H D = none) : ExB p H (L2.upd H' D o) := fun b u n hb => by
  rw [upd_ne (ne_of_none hb h)]
  exact e b u n hb
theorem PotAt.upd {H : Hp} {p D : Addr} {o : HO} (h : PotAt H p) (n : D ≠ p) : PotAt (L2.upd H D o) p := by
  obtain ⟨x, y, h1, h2⟩ := h
  exact ⟨x, y, (upd_ne n.symm).trans h1, h2⟩
theorem PotAt.ne {H : Hp} {p D : Addr} (h : PotAt H p) (n : H D = none) : D ≠ p := fun z => by
  obtain ⟨x, y, h1, _⟩ := h
  rw [z, h1] at n
  cases n
theorem at_sign {l : List Nat} {d : Int} (h0 : 0 ≤ d) (h1 : d < (l.length : Int)) : ∃ c, atI (Tx l).cps.toList d = some c ∧ c ∈ l := by
  obtain ⟨j, rfl⟩ := Int.eq_ofNat_of_zero_le h0
  have h2 : j < l.length := by omega
  refine ⟨l[j], atI_nat ?_, List.getElem_mem h2⟩
  show l[j]? = some l[j]
  exact List.getElem?_eq_getElem h2
def sgn : List Nat := [48, 49, 120, 122]
theorem e_sgn : (Str.ofString "01xz").cps.toList = sgn := by decide +kernel
/-! ### zip of two texts -/
def Itzs (x y : Str) : It := ⟨fun i _ => i < min x.cps.size y.cps.size,
  fun i H v H' => ∃ T c d, v = .ref T ∧ H T = none ∧ H' = upd H T (.tup [.str ⟨#[c]⟩, .str ⟨#[d]⟩]) ∧ x.cps[i]? = some c ∧ y.cps[i]? = some d,
  fun i _ => i = min x.cps.size y.cps.size⟩
theorem turn_zipS {P : Program} {w : World} {K : PySem.W.Frag} {elts : List Expr} {kk : Nat} {tpos : Pos} {z TI TO j1 j2 : Addr} {x y : Str} {t u : Tok} (D : ZipSep2 z TI TO j1 j2 [j1] [j2]) :
    Turn P w K (.Tuple elts kk tpos) (Itzs x y) [z, TI, TO, j1, j2] z (fun i h => IsZip h z TI TO .none ∧ IsTupOf2 h TI (.ref j1) (.ref j2) ∧ (∃ a1 a2, IsTupOf2 h TO a1 a2) ∧ h.IsStrIter j1 (strIterType x) x t i ∧ h.IsStrIter j2 (strIterType y) y u i) where
  mem := by simp
  obj := fun i h st c hc => by
    obtain ⟨hz, h1, ⟨a1, a2, h2⟩, ⟨o1, e1, _, d1⟩, ⟨o2, e2, _, d2⟩⟩ := st
    simp only [List.mem_cons, List.not_mem_nil, or_false] at hc
    rcases hc with rfl | rfl | rfl | rfl | rfl
    · exact ⟨_, hz, fun v q => nomatch q⟩
    · exact ⟨_, h1, fun v q => nomatch q⟩
    · exact ⟨_, h2, fun v q => nomatch q⟩
    · exact ⟨o1, e1, fun v q => by rw [d1] at q; cases q⟩
    · exact ⟨o2, e2, fun v q => by rw [d2] at q; cases q⟩
  keep := fun i h h' st k => by
    obtain ⟨hz, h1, ⟨a1, a2, h2⟩, ⟨o1, e1, r1⟩, ⟨o2, e2, r2⟩⟩ := st
    exact ⟨k z (by simp) _ hz, k TI (by simp) _ h1, ⟨a1, a2, k TO (by simp) _ h2⟩, ⟨o1, k j1 (by simp) _ e1, r1⟩, ⟨o2, k j2 (by simp) _ e2, r2⟩⟩
  item := by
    intro X hP hw hK hc i pins s σ H E I hf st hg
    subst hP hw hK
    have hh : X.A.handled = none := I.ok.hd hc
    have W := GoesN.zip2 (elts := elts) (x1 := kk) (pos := tpos) (A := X.A) D (Draws.text (prog := X.prog) (w := X.w) (A := X.A.in1) hh j1 x t) (Draws.text (prog := X.prog) (w := X.w) (A := X.A.in1) hh j2 y u)
    refine wpAny_mono (W.goes i s (fun v s2 => ∃ x' H', Inv X pins σ H' s2 ∧ RelV x' v ∧ (Itzs x y).yld i H x' H' ∧ (IsZip s2.heap z TI TO .none ∧ IsTupOf2 s2.heap TI (.ref j1) (.ref j2) ∧ (∃ a1 a2, IsTupOf2 s2.heap TO a1 a2) ∧ s2.heap.IsStrIter j1 (strIterType x) x t (i + 1) ∧ s2.heap.IsStrIter j2 (strIterType y) y u (i + 1)) ∧ ∀ b ∈ [z, TI, TO, j1, j2], H' b = none) E hg st fun v h' tk hY st' hk _ => ?_) (fun r s1 q => q) fun _ _ e => e
    obtain ⟨T, xv, yv, rfl, hn, ⟨c, u1, hc1, rfl⟩, ⟨d, u2, hc2, rfl⟩, hT⟩ := hY
    obtain ⟨o, ho, hcl, n, hd⟩ := hT
    have new : ObjOk X.prog X.w (upd H T (.tup [.str ⟨#[c]⟩, .str ⟨#[d]⟩])) h' T (.tup [.str ⟨#[c]⟩, .str ⟨#[d]⟩]) :=
      ⟨by show 2 ≤ sizeLine; decide, [.str ⟨#[c]⟩ u1, .str ⟨#[d]⟩ u2], .cons ⟨u1, rfl⟩ (.cons ⟨u2, rfl⟩ .nil), ⟨o, ho, hcl, n, hd⟩⟩
    have I1 : Inv X pins σ (upd H T (.tup [.str ⟨#[c]⟩, .str ⟨#[d]⟩])) { s with heap := h', toks := tk } :=
      I.turnedNew (t' := tk) (ch := [z, TI, TO, j1, j2]) (fun b o hb q => hk b o (fun q' => hb (by simp only [List.mem_cons, List.not_mem_nil, or_false] at q' ⊢; rcases q' with q' | q' | q' | q' <;> simp [q'])) q) hf hn new
    refine ⟨.ref T, _, I1, rfl, ⟨T, c, d, rfl, I.hok.fresh hn, rfl, hc1, hc2⟩, st', fun b hb => ?_⟩
    have hlt : b < s.heap.objs.size := by
      obtain ⟨hz, h1, ⟨a1, a2, h2⟩, ⟨o1, e1, _⟩, ⟨o2, e2, _⟩⟩ := st
      simp only [List.mem_cons, List.not_mem_nil, or_false] at hb
      rcases hb with rfl | rfl | rfl | rfl | rfl
      · exact Heap.lt_size hz
      · exact Heap.lt_size h1
      · exact Heap.lt_size h2
      · exact Heap.lt_size e1
      · exact Heap.lt_size e2
    rw [upd_ne (Nat.ne_of_lt (Nat.lt_of_lt_of_le hlt hn))]
    exact (hf b hb).1
  done := by
    intro X hP hw hK hc i pins s σ H E I hf st hg
    subst hP hw hK
    have hh : X.A.handled = none := I.ok.hd hc
    have W := GoesN.zip2 (elts := elts) (x1 := kk) (pos := tpos) (A := X.A) D (Draws.text (prog := X.prog) (w := X.w) (A := X.A.in1) hh j1 x t) (Draws.text (prog := X.prog) (w := X.w) (A := X.A.in1) hh j2 y u)
    have e : i = min x.cps.size y.cps.size := hg
    subst e
    exact W.stops s (fun s1 => Inv X pins σ H s1) E st fun h' tk hk _ => I.turnedL (t' := tk) (ch := [z, TI, TO, j1, j2]) (fun b o hb q => hk b o (fun q' => hb (by simp only [List.mem_cons, List.not_mem_nil, or_false] at q' ⊢; rcases q' with q' | q' | q' | q' <;> simp [q'])) q) hf
  self := fun A i s Q E st h => wpAny_pyIter_zip st.1 h
def iZipS (ta : TA) : TI := fun σ H R => ta σ H fun vs H1 => ∃ x y, vs = [.str x, .str y] ∧ R (Itzs x y) H1
theorem pi_zipS {X : Cx} {e e2 : Expr} {ta : TA} {p pos tpos : Pos} {elts : List Expr} {kk : Nat} (hg : Gl X "zip") (hm : X.mg "zip" = none) (ha : PA X [e, e2] ta)
    (hs : starEach [e, e2] X.env = (false, eval e X.env) :: starEach [e2] X.env := by rfl) (hpl : (backTo pos (starEach [e2] X.env)).any (·.1) = false := by rfl) :
    PI X (.Tuple elts kk tpos) (.Call (.Name "zip" p) [e, e2] [] pos) (iZipS ta) := by
  refine ⟨fun pins s σ H R I h => ?_⟩
  refine PyProof.Rows.Call_ (ld_blt I hg hm PyProof.Rows.boot_zip (PyProof.Rows.callWith_type1 (thn (ha.run pos pins s σ H _ I h) fun us s1 ⟨vs, H1, I1, r1, q1⟩ => ?_) hs hpl))
  obtain ⟨x, y, ex, q⟩ := q1
  subst ex
  cases r1 with
  | cons r rr =>
    cases rr with
    | cons r' rr =>
      cases rr
      obtain ⟨t, rfl⟩ := r
      obtain ⟨u, rfl⟩ := r'
      refine zip_begins2 (begins_text x t) (begins_text y u) True.intro True.intro fun h' hz h1 h2 g1 g2 hsz hk => wpAny_pyIter_zip hz ?_
      have I2 : Inv X pins σ H1 { s1 with heap := h' } := I1.kept (t' := s1.toks) hk
      refine ⟨s1.heap.objs.size + 4, [s1.heap.objs.size + 4, s1.heap.objs.size + 2, s1.heap.objs.size + 3, s1.heap.objs.size, s1.heap.objs.size + 1], _, _, H1, rfl, I2, turn_zipS (zip_sep2 (fun _ hb => by cases hb) (fun _ hb => by cases hb)), ⟨hz, h1, ⟨_, _, h2⟩, ⟨_, g1, rfl, rfl⟩, ⟨_, g2, rfl, rfl⟩⟩, fun c hcm => ?_, q⟩
      have hle : s1.heap.objs.size ≤ c := by
        simp only [List.mem_cons, List.not_mem_nil, or_false] at hcm
        rcases hcm with q' | q' | q' | q' | q' <;> rw [q'] <;> first | exact Nat.le_refl _ | exact Nat.le_add_right _ _
      exact I1.fpOk hle (I1.hok.fresh hle)
theorem walk_zipS {x y : Str} : Walk (Itzs x y) (min x.cps.size y.cps.size) (fun _ => True) (fun i H v H' => ∃ T c d, v = .ref T ∧ H T = none ∧ H' = upd H T (.tup [.str ⟨#[c]⟩, .str ⟨#[d]⟩]) ∧ x.cps[i]? = some c ∧ y.cps[i]? = some d) :=
  ⟨fun _ _ hi _ => hi, fun _ _ => rfl, fun _ _ _ _ _ _ q => q⟩
end Dw

set_option Elab.async false
set_option linter.all false
set_option maxRecDepth 100000
namespace Dw
open PySem L2 Evl
section
variable {K : PySem.W.Frag} {σ : L2.St} {H H' : Hp} {ta : TA} {tb tc te tx tl : TE} {t u : TT} {x y z v : V}
/-- [e for a, b in zip(x, y)], two texts of one length -/
theorem el_lcZ {la lb : List Nat} {j1 j2 : Nat} {vs : List Nat} (g : Nat → Nat → V) (h : EvA ta σ H [.str (Tx la), .str (Tx lb)]) (hl : la.length = lb.length) (hz : la.length ≤ 40000)
    (hw : ∀ x y, wipe (((wipe σ vs).set j1 (some x)).set j2 (some y)) vs = wipe σ vs)
    (he : ∀ (c d : Nat) H1, Ex H H1 → c ∈ la → d ∈ lb → Ev te (((wipe σ vs).set j1 (some (.str (Tx [c])))).set j2 (some (.str (Tx [d])))) H1 (g c d)) :
    EvL (tLc (iZipS ta) (gTup K 2 (gCons (gName j1) (gCons (gName j2) gNil))) tYes te vs) σ H (List.zipWith g la lb) := fun H0 e Q q => h H0 e _ fun H1 e1 => ⟨Tx la, Tx lb, rfl, fun Dl hD => by
  have hs : min (Tx la).cps.size (Tx lb).cps.size = la.length := by
    have h1 : (Tx la).cps.size = la.length := Tx_len la
    have h2 : (Tx lb).cps.size = lb.length := Tx_len lb
    omega
  refine lc_it walk_zipS (fun i H2 => Ex H1 H2 ∧ H2 Dl = some (.lst ((List.zipWith g la lb).take i))) ⟨Ex.new hD, upd_same⟩ (fun _ _ _ _ => True.intro) (fun i x' H2 H3 hi p yy => ?_) (fun H2 p => ?_)
  · obtain ⟨T, c, d, rfl, nT, rfl, hc, hd⟩ := yy
    have hc' : la[i]? = some c := by
      rw [← hc]
      simp [Tx]
    have hd' : lb[i]? = some d := by
      rw [← hd]
      simp [Tx]
    have hg : (List.zipWith g la lb)[i]? = some (g c d) := by
      rw [List.getElem?_zipWith, hc', hd']
    refine ⟨T, _, rfl, st_of upd_same, rfl, _, _, rfl, _, _, rfl, rfl, hw _ _, ?_⟩
    refine he c d _ (((e.trans e1).trans p.1).trans (Ex.new nT)) (List.mem_of_getElem? hc') (List.mem_of_getElem? hd') _ (Ex.refl _) _ fun H4 e4 => ⟨_, e4 Dl _ ((Ex.new nT) Dl _ p.2), sz_lt ?_, ?_, ?_⟩
    · have := List.length_take_le i (List.zipWith g la lb)
      omega
    · exact Ex.mut ((p.1.trans (Ex.new nT)).trans e4) hD
    · rw [upd_same, List.take_add_one, hg]
      rfl
  · obtain ⟨p1, p2⟩ := p
    rw [hs, List.take_of_length_le (by rw [List.length_zipWith]; omega)] at p2
    exact q Dl H2 (fresh_back e1 hD) (e1.trans p1) p2⟩
theorem ev_kd {w : World} {p : Addr} {s : Str} {ta tb : TE} (ha : Ev ta σ H (.ref p)) (hb : Ev tb σ H (.str s)) (hk : KDct K w p s v) : Ev (tOp (rIxD K w) ta tb) σ H v :=
  ev_op ha hb fun H1 _ _ q => ⟨p, s, v, rfl, rfl, hk, q H1 (Ex.refl _)⟩
end
/-! ### f(*xs), f a local that holds one of several defs -/
def tCallLS (K : PySem.W.Frag) (i : Nat) (S : Addr → Option Sp) (te : TE) : TE := fun σ H Q => ∃ f sp, σ[i]? = some (some (.ref f)) ∧ S f = some sp ∧ te σ H fun y H1 => ∃ a xs, y = V.ref a ∧ (SqT K H1 a xs ∨ SqL K H1 a xs) ∧ sp xs H1 Q (fun _ _ _ => False)
theorem pe_callLS {X : Cx} {k i : Nat} {x : Str} {p q pos : Pos} {e : Expr} {te : TE} {S : Addr → Option Sp} (A : ∀ f sp, S f = some sp → Held X.prog X.w X.K X.mg X.base k f sp) (hr : Room k X.A) (hN : X.N[i]? = some x) (hv : Vis X.env.scope x) (he : PE X e te)
    (hdb : (x == ("__debug__" : Str)) = false := by decide) (hcd : (x == ("__classdict__" : Str)) = false := by decide)
    (hst : starEach [.Starred e q] X.env = [(true, eval e X.env)] := by rfl) : PE X (.Call (.Name x p) [.Starred e q] [] pos) (tCallLS X.K i S te) := by
  refine ⟨fun pins s σ H Q I h => ?_⟩
  obtain ⟨f, sp, hs, hS, ht⟩ := h
  obtain ⟨fd, ps, F, hk, hb⟩ := (A f sp hS).ex
  refine wpAny_Call_Name_kw (thn ((pe_var (pos := p) hN hv hdb hcd).run pins s σ H (fun v H1 => v = .ref f ∧ H1 = H) I ⟨.ref f, hs, rfl, rfl⟩) fun u s1 ⟨v, H1, I1, r1, q1⟩ => ?_)
  obtain ⟨rfl, rfl⟩ := q1
  cases r1
  refine PySem.W.callWith_S (h₀ := X.base) I1.ok.mod.kin hk (thn (he.run pins s1 σ H1 _ I1 ht) fun v s2 ⟨y, H2, I2, ry, a, xs, ey, hxs, q2⟩ => ?_) hst
  subst ey
  obtain rfl : v = Value.ref a := ry
  refine StX.star_any I2 hxs fun us s3 I3 rv => ⟨I3.kIn, run_fn (dvs := []) (ds := []) (E := fun _ _ _ => False) F hr hb .nil (fun _ _ _ _ _ _ _ z => z.elim) I3 rv ?_⟩
  rw [List.append_nil]
  exact q2
/-! ### replace of one sign by another -/
theorem replL_map {a b : Nat} : ∀ l : List Nat, StrLaws.replL [a] [b] l = l.map fun c => if c = a then b else c
  | [] => StrLaws.replL_nil
  | c :: l => by
    by_cases h : c = a
    · rw [StrLaws.replL_hit (by simp) (by simp [h])]
      simp [h, replL_map l]
    · rw [StrLaws.replL_miss (by simp [h]), replL_map l]
      simp [h]
theorem replace_Tx {y z : Str} {a b : Nat} (hy : y = Tx [a]) (hz : z = Tx [b]) (l : List Nat) : Txt.replace (Tx l) y z = Tx (l.map fun c => if c = a then b else c) := by
  subst hy hz
  refine TL.ext_tl ?_
  exact (StrLaws.replace_list (by simp [Str.length])).trans (replL_map l)
end Dw

set_option Elab.async false
set_option linter.all false
set_option maxRecDepth 100000
namespace Dw
open PySem L2 Evl
/-! ### a text turned about -/
def tRevS (te : TE) : TE := fun σ H Q => te σ H fun x H1 => ∃ l, x = .str (Tx l) ∧ l.length ≤ 40000 ∧ Q (.str (Tx l.reverse)) H1
theorem rev_Tx (l : List Nat) (u : Tok) : Txt.sliceBy (Tx l) none none (-1, u) = Tx l.reverse := by
  refine TL.ext_tl ?_
  show (Txt.sliceBy (Tx l) none none (-1, u)).cps.toList = l.reverse
  rw [PyProof.Rows.step_rev_list, Tx_len]
  apply List.ext_getElem
  · simp
  · intro i h1 h2
    simp at h1
    simp [Tx, List.getElem_reverse]
    rw [List.getElem?_eq_getElem (by omega)]
    rfl
theorem pe_revS {X : Cx} {e : Expr} {te : TE} {k : Nat} {p1 p2 p3 pos : Pos} (he : PE X e te) : PE X (.Subscript e (.Slice none none (some (.UnaryOp .USub (.Constant (.int 1) k p1) p2)) p3) pos) (tRevS te) := by
  refine ⟨fun pins s σ H Q I h => ?_⟩
  refine PyProof.Rows.Subscript_ (thn (he.run pins s σ H _ I h) fun v s1 ⟨x, H1, I1, r1, q1⟩ => ?_)
  obtain ⟨l, ex, hl, q⟩ := q1
  subst ex
  obtain ⟨t, rfl⟩ := r1
  have hst : PO X (some (.UnaryOp .USub (.Constant (.int 1) k p1) p2)) (tPart (tUn (rU fun i => .int (-i)) (tC (.int 1)))) := po_some (pe_un un_neg pe_int)
  refine wpAny_Slice (thn (po_none.run pins s1 σ H1 (fun o G => o = none ∧ G = H1) I1 ⟨rfl, rfl⟩) fun vl s2 ⟨l2, H2, I2, pl, el, e2⟩ => ?_)
  subst el e2
  refine thn (po_none.run pins s2 σ H2 (fun o G => o = none ∧ G = H2) I2 ⟨rfl, rfl⟩) fun vu s3 ⟨u, H3, I3, pu, eu, e3⟩ => ?_
  subst eu e3
  refine thn (hst.run pins s3 σ H3 (fun o G => o = some (-1) ∧ G = H3) I3 ⟨1, rfl, -1, rfl, rfl, rfl⟩) fun vs s4 ⟨o, H4, I4, ps, eo, e4⟩ => ?_
  subst eo e4
  have I5 : Inv X pins σ H4 { s4 with heap := s4.heap.push { cls := .type "slice", data := .fields #[vl, vu, vs] } } := I4.kept (t' := s4.toks) fun b ob q => Heap.get?_push_of_some _ q
  obtain ⟨a1, rfl, ha1⟩ := IsPart.raw pl
  obtain ⟨a2, rfl, ha2⟩ := IsPart.raw pu
  obtain ⟨a3, rfl, ha3⟩ := IsPart.raw ps
  cases a1 with
  | some _ => cases ha1
  | none =>
    cases a2 with
    | some _ => cases ha2
    | none =>
      cases a3 with
      | none => cases ha3
      | some a3 =>
        obtain ⟨m, uk⟩ := a3
        have hm : m = -1 := by
          have := Option.some.inj ha3
          first | exact this.symm | exact this
        subst hm
        refine PyProof.Rows.tail_any (ops := [.ref s4.heap.objs.size, .str (Tx l) t]) (typeIs_str _ _ _) F.slot_str_getitem.lookup (wpAny_getItem_str_slice (l := none) (u := none) (st := some (-1, uk)) ⟨_, Heap.get?_push_size _ rfl, rfl, rfl⟩ rfl
          (post_val_or_str ⟨Nat.le_trans (Txt.sliceBy_le (Tx l) none none (-1, uk) (show (-1 : Int) ≠ 0 by decide)) (sz_of (by rw [Tx_len]; omega)), fun t' c => ?_⟩)) (by with_unfolding_all rfl)
        have e := rev_Tx l uk
        unfold Txt.sliceBy at e
        first
          | exact ⟨.str (Tx l.reverse), H4, I5.tok c, ⟨t', by rw [e]⟩, q⟩
          | exact ⟨.str (Tx l.reverse), H4, I5.tok c, ⟨t', by rw [← e]; rfl⟩, q⟩
theorem ev_revS {σ : L2.St} {H : Hp} {te : TE} {l : List Nat} (h : Ev te σ H (.str (Tx l))) (hl : l.length ≤ 40000) : Ev (tRevS te) σ H (.str (Tx l.reverse)) := fun H1 e Q q =>
  h H1 e _ fun H2 e2 => ⟨l, rfl, hl, q H2 e2⟩
end Dw

set_option Elab.async false
set_option linter.all false
set_option maxRecDepth 100000
namespace Dw
open PySem L2 Evl
/-! ### sorted of a tuple of texts, of a long list of texts -/
section
open PyProof.Rows
variable {prog : Program} {w : World} {A : Around} {E : Value → Shared → Prop} {s : Shared}
theorem collect_tup {l : Addr} {us : List Value} {R : List Value → Shared → Prop} (ht : s.heap.IsTuple l us.toArray)
    (k : R us { s with heap := (s.heap.push (seqObj "list" #[] 0)).update s.heap.objs.size (Obj.mapSeq (· ++ us.toArray)) }) (few : us.length ≤ sizeLine) : wpAny (model prog w) A (collect (.ref l)) R E s := by
  obtain ⟨ob, hob, hcl, n, hdt⟩ := id ht
  unfold collect
  refine wpAny_bind (wpAny_runValue (codeAny_builtin entry_proto_collect' ?_)); show wpAny _ _ (do again (.builtin "list.__iadd__" ⟨[← newList [], .ref l], []⟩)) _ _ s
  refine wpAny_bind (wpAny_newList (wpAny_pure ⟨Code.quiet_builtin _ (by decide +kernel), codeAny_builtin entry_list_iadd' ?_⟩)); show wpAny _ _ (Builtin.List.listExtendWith (.ref s.heap.objs.size) (.ref l) (.ref s.heap.objs.size)) _ _ { s with heap := s.heap.push (seqObj "list" #[] 0) }
  unfold Builtin.List.listExtendWith
  have hob' : (s.heap.push (seqObj "list" #[] 0)).get? l = some ob := Heap.get?_push_of_some _ hob
  refine wpAny_bind (wpAny_typeOf (T := "tuple") ⟨ob, hob', hcl⟩ ?_)
  rw [if_pos (by rw [show (Value.type "tuple" == Value.type "tuple") = true from rfl, Bool.or_true])]
  refine wpAny_bind (listItems_at hob' hdt ?_)
  refine wpAny_bind (listItems_at (xs := #[]) (n := 0) (Heap.get?_push_size _ rfl) rfl ?_); rw [if_neg (by simp)]
  refine wpAny_bind (listUpdate_at (xs := #[]) (n := 0) (Heap.get?_push_size _ rfl) rfl ?_ (Nat.zero_le _) (by show (#[] ++ us.toArray).size ≤ sizeLine + 1; simp only [Array.size_append, List.size_toArray, List.length_nil]; omega))
  refine wpAny_pure ?_
  show wpAny (model prog w) A (do let o ← load s.heap.objs.size; match o.data with | .seq xs _ => pure xs.toList | _ => unsupported "internal:collect") R E { s with heap := (s.heap.push (seqObj "list" #[] 0)).update s.heap.objs.size (Obj.mapSeq (· ++ us.toArray)) }
  refine wpAny_bind (wpAny_load (get?_update_seq (Heap.get?_push_size _ rfl) _) ?_)
  show wpAny _ _ (pure ((#[] : Array Value) ++ us.toArray).toList) R E _
  rw [show ((#[] : Array Value) ++ us.toArray).toList = us by simp]
  exact wpAny_pure k
theorem sorted_tupStrs {l : Addr} {us : List Value} {ss : List Str} {Q : Value → Shared → Prop} (ht : s.heap.IsTuple l us.toArray) (hS : StrsAre us ss) (few : us.length < 64)
    (h : ∀ (out : Array Value) (ss' : List Str), StrsAre out.toList ss' → ss'.Perm ss → sortedS ss' = true → Q (.ref (s.heap.objs.size + 1)) { s with heap := sortedAll s.heap us out }) :
    wpAny (model prog w) A (call (.builtin "sorted") [.ref l]) Q E s := by
  refine Calls.call_function_entry kind_sorted plain_sorted entry_sorted (args_sorted1 _) ?_; unfold Builtin.«sorted»
  have sz : us.length ≤ sizeLine := by rw [sizeLine_eq]; omega
  refine wpAny_bind (m := checkCount "sorted" 1 1 _) (wpAny_pure (wpAny_bind (collect_tup ht ?_ sz)))
  refine wpAny_bind (wpAny_newList ?_ sz)
  have e1 : ((s.heap.push (seqObj "list" #[] 0)).update s.heap.objs.size (Obj.mapSeq (· ++ us.toArray))).objs.size = s.heap.objs.size + 1 := by rw [Heap.size_update, size_push']
  have e2 : (((s.heap.push (seqObj "list" #[] 0)).update s.heap.objs.size (Obj.mapSeq (· ++ us.toArray))).push (seqObj "list" us.toArray 0)).get? (s.heap.objs.size + 1) = some (seqObj "list" us.toArray 0) := by rw [← e1]; exact Heap.get?_push_size _ rfl
  show wpAny _ _ _ _ _ { s with heap := ((s.heap.push (seqObj "list" #[] 0)).update s.heap.objs.size (Obj.mapSeq (· ++ us.toArray))).push (seqObj "list" us.toArray 0) }
  rw [e1]
  refine wpAny_bind (wpAny_holding (wpAny_call_entry slot_list_sort ⟨_, e2, rfl⟩ entry_list_sort (list_sort_treeK strKind_oneLt e2 hS.keysOf (fun v₁ v₂ rest e => keyKind_strs (by rw [← e]; exact hS)) few fun st' hp hs => ⟨_, rfl, ?_⟩) (args_list_sort _)))
  obtain ⟨ss', h1, h2, h3⟩ := sorted_out_str hS hp hs
  exact wpAny_pure ⟨_, rfl, h _ ss' h1 h2 h3⟩
end
section
variable {X : Cx}
def rSortedTS (K : PySem.W.Frag) : List V → Hp → VK → Prop := fun vs H Q => ∃ (a : Addr) (xs : List Str), vs = [V.ref a] ∧ SqT K H a (xs.map V.str) ∧ xs.length < 64 ∧
  ∀ (ys : List Str) (p : Addr), ys.Perm xs → PyProof.Rows.sortedS ys = true → H p = none → Q (.ref p) (upd H p (.lst (ys.map V.str)))
theorem cr_sortedTS : CallR X (.builtin "sorted") (rSortedTS X.K) := by
  intro pins s σ H vs us Q I r h
  obtain ⟨a, xs, rfl, hs, few, q⟩ := h
  obtain ⟨its, rv, hl, _⟩ := I.tuple hs
  rw [Vals.ref1 r]
  have n0 := rv.length
  rw [List.length_map] at n0
  refine sorted_tupStrs hl rv.strs (by rw [← n0]; exact few) fun out ys h1 h2 h3 => ?_
  obtain ⟨ep, he'⟩ := PyProof.Rows.sortedAll_at s.heap its out
  exact ⟨.ref _, upd H (s.heap.objs.size + 1) (.lst (ys.map V.str)), I.laid (t' := s.toks) (fun _ _ => PyProof.Rows.sortedAll_old) (Nat.le_succ _) ⟨by rw [List.length_map, h2.length_eq]; exact small64 few, out.toList, ep, vals_of_strs h1, he'⟩, rfl, q ys _ h2 h3 (I.hok.fresh (Nat.le_succ _))⟩
def rSortedSA (K : PySem.W.Frag) : List V → Hp → VK → Prop := fun vs H Q => ∃ (a : Addr) (xs : List Str), vs = [V.ref a] ∧ SqL K H a (xs.map V.str) ∧ xs.length ≤ 1000 ∧
  ∀ (ys : List Str) (p : Addr), ys.Perm xs → PyProof.Rows.sortedS ys = true → H p = none → Q (.ref p) (upd H p (.lst (ys.map V.str)))
theorem cr_sortedSA : CallR X (.builtin "sorted") (rSortedSA X.K) := by
  intro pins s σ H vs us Q I r h
  obtain ⟨a, xs, rfl, hs, few, q⟩ := h
  obtain ⟨its, rv, hl, _⟩ := I.list hs
  rw [Vals.ref1 r]
  have n0 := rv.length
  rw [List.length_map] at n0
  have sz : xs.length ≤ sizeLine := Nat.le_of_lt (small1000 few)
  refine PyProof.Rows.sorted_strsAny hl.isList rv.strs (by rw [← n0]; exact sz) fun out ys h1 h2 h3 => ?_
  obtain ⟨ep, he'⟩ := PyProof.Rows.sortedAll_at s.heap its out
  exact ⟨.ref _, upd H (s.heap.objs.size + 1) (.lst (ys.map V.str)), I.laid (t' := s.toks) (fun _ _ => PyProof.Rows.sortedAll_old) (Nat.le_succ _) ⟨by rw [List.length_map, h2.length_eq]; exact sz, out.toList, ep, vals_of_strs h1, he'⟩, rfl, q ys _ h2 h3 (I.hok.fresh (Nat.le_succ _))⟩
end
/-! ### drawn values, signs -/
def Sg (l : List Nat) : Prop := ∀ c ∈ l, c ∈ sgn
def rd (c : Nat) : Nat := if c = 122 then 120 else c
def Sx (l : List Nat) : Prop := ∀ c ∈ l, c ∈ [48, 49, 120]
theorem rd_sx {l : List Nat} (h : Sg l) : Sx (l.map rd) := fun c hc => by
  obtain ⟨d, hd, rfl⟩ := List.mem_map.mp hc
  have := h d hd
  simp only [sgn, List.mem_cons, List.not_mem_nil, or_false] at this
  rcases this with rfl | rfl | rfl | rfl <;> decide
theorem Sg.low {l : List Nat} (h : Sg l) : ∀ c ∈ l, c < 128 := fun c hc => by
  have := h c hc
  simp only [sgn, List.mem_cons, List.not_mem_nil, or_false] at this
  omega
def spVal : Sp := fun vs H Q _ => ∃ (p : Addr) (n : Int), vs = [.ref p, .int n] ∧ PotAt H p ∧ 1 ≤ n ∧ n ≤ 8 ∧ ∀ (H' : Hp) (l : List Nat), ExB p H H' → PotAt H' p → (l.length : Int) = n → Sg l → Q (.str (Tx l)) H'
def spRead : Sp := fun vs H Q _ => ∃ l : List Nat, vs = [.str (Tx l)] ∧ l.length ≤ 1000 ∧ ∀ H', Ex H H' → Q (.str (Tx (l.map rd))) H'
theorem s_0 : Str.ofString "0" = Tx [48] := by decide +kernel
theorem s_1 : Str.ofString "1" = Tx [49] := by decide +kernel
theorem s_x : Str.ofString "x" = Tx [120] := by decide +kernel
theorem s_z : Str.ofString "z" = Tx [122] := by decide +kernel
theorem s_e : Str.ofString "" = Tx [] := by decide +kernel
theorem s_01 : Str.ofString "01" = Tx [48, 49] := by decide +kernel
section
variable {K : PySem.W.Frag} {σ : L2.St} {H : Hp} {ta tb te : TE}
theorem ec_0 : Ev (tC (.str (Str.ofString "0"))) σ H (.str (Tx [48])) := by rw [s_0]; exact ev_c
theorem ec_1 : Ev (tC (.str (Str.ofString "1"))) σ H (.str (Tx [49])) := by rw [s_1]; exact ev_c
theorem ec_x : Ev (tC (.str (Str.ofString "x"))) σ H (.str (Tx [120])) := by rw [s_x]; exact ev_c
theorem ec_z : Ev (tC (.str (Str.ofString "z"))) σ H (.str (Tx [122])) := by rw [s_z]; exact ev_c
theorem ec_e : Ev (tC (.str (Str.ofString ""))) σ H (.str (Tx [])) := by rw [s_e]; exact ev_c
theorem ec_01 : Ev (tC (.str (Str.ofString "01"))) σ H (.str (Tx [48, 49])) := by rw [s_01]; exact ev_c
theorem dec_Tx (a b : List Nat) : decide (V.str (Tx a) = V.str (Tx b)) = decide (a = b) := by
  rw [decide_eq_decide]
  exact ⟨fun h => Tx_inj (V.str.inj h), fun h => by rw [h]⟩
theorem ev_eqT {a b : List Nat} (ha : Ev ta σ H (.str (Tx a))) (hb : Ev tb σ H (.str (Tx b))) : Ev (tOp rEq ta tb) σ H (.bl (decide (a = b))) := by
  rw [← dec_Tx]
  exact ev_op ha hb (rv_eq rfl)
theorem ev_neT {a b : List Nat} (ha : Ev ta σ H (.str (Tx a))) (hb : Ev tb σ H (.str (Tx b))) : Ev (tOp rNe ta tb) σ H (.bl (!decide (a = b))) := by
  rw [← dec_Tx]
  exact ev_op ha hb (rv_ne rfl)
theorem ev_inT {c : Nat} {l : List Nat} (ha : Ev ta σ H (.str (Tx [c]))) (hb : Ev tb σ H (.str (Tx l))) : Ev (tOp rInS ta tb) σ H (.bl (decide (c ∈ l))) := ev_inS ha hb
theorem ev_niT {c : Nat} {l : List Nat} (ha : Ev ta σ H (.str (Tx [c]))) (hb : Ev tb σ H (.str (Tx l))) : Ev (tOp rNotInS ta tb) σ H (.bl (!decide (c ∈ l))) := ev_notInS ha hb
theorem ev_addT {a b : List Nat} (ha : Ev ta σ H (.str (Tx a))) (hb : Ev tb σ H (.str (Tx b))) (hz : a.length + b.length ≤ 100000) :
    Ev (tOp (fun x y H Q => ∃ i j, x = .str i ∧ y = .str j ∧ i.length + j.length ≤ sizeLine ∧ Q (.str (i ++ j)) H) ta tb) σ H (.str (Tx (a ++ b))) :=
  ev_op ha hb fun H1 _ Q q => ⟨Tx a, Tx b, rfl, rfl, sz_of (by rw [Tx_len, Tx_len]; exact hz), by rw [Tx_cat]; exact q H1 (Ex.refl _)⟩
theorem ev_ixT {l : List Nat} {i : Int} {c : Nat} (ha : Ev ta σ H (.str (Tx l))) (hb : Ev tb σ H (.int i)) (hl : l.length ≤ 40000) (hc : atI l i = some c) : Ev (tOp rIxS ta tb) σ H (.str (Tx [c])) :=
  ev_op ha hb (rv_ixS (by rw [Tx_len]; omega) hc)
theorem ev_ifS {b : Bool} {t : TT} {v1 v2 : V} (h : EvT t σ H b) (h1 : Ev ta σ H v1) (h2 : Ev tb σ H v2) : Ev (tIf t ta tb) σ H (if b = true then v1 else v2) :=
  ev_if h (fun e => by rw [e]; exact h1) (fun e => by rw [e]; exact h2)
end
theorem vals_rev : ∀ {a : List V} {b : List Value}, Vals a b → Vals a.reverse b.reverse
  | _, _, .nil => .nil
  | _, _, .cons r t => by
    rw [List.reverse_cons, List.reverse_cons]
    exact (vals_rev t).append (.cons r .nil)
def spLaw (K : PySem.W.Frag) : Sp := fun vs H Q _ => ∃ (a : Addr) (ns : List Int), vs = [.ref a] ∧ SqL K H a (ns.map V.int) ∧ ns.length ≤ 63 ∧ ∀ H', Q (.bl true) H'
end Dw

set_option Elab.async false
set_option linter.all false
set_option maxRecDepth 100000
namespace Dw
open PySem L2 Evl
/-! ### two sorted lists of the same texts are one -/
abbrev leS (a b : Str) : Prop := a.cps.toList ≤ b.cps.toList
theorem risingS_le : ∀ (p : Str) (l : List Str), PyProof.Rows.risingS p l = true → (p :: l).Pairwise leS
  | p, [], _ => List.pairwise_singleton _ _
  | p, x :: r, h => by
    unfold PyProof.Rows.risingS at h
    rw [Bool.and_eq_true] at h
    have ih := risingS_le x r h.2
    have hx : leS p x := by
      have := h.1
      rw [PyProof.Rows.ltCps_eq] at this
      simp at this
      exact this
    refine List.pairwise_cons.mpr ⟨fun y hy => ?_, ih⟩
    rcases List.mem_cons.mp hy with rfl | hy
    · exact hx
    · exact List.le_trans hx ((List.pairwise_cons.mp ih).1 y hy)
theorem sortedS_le : ∀ {l : List Str}, PyProof.Rows.sortedS l = true → l.Pairwise leS
  | [], _ => List.Pairwise.nil
  | x :: r, h => risingS_le x r h
theorem leS_anti {a b : Str} (h1 : leS a b) (h2 : leS b a) : a = b := TL.ext_tl (List.le_antisymm h1 h2)
theorem sorted_one {xs ys zs : List Str} (p1 : xs.Perm zs) (s1 : PyProof.Rows.sortedS xs = true) (p2 : ys.Perm zs) (s2 : PyProof.Rows.sortedS ys = true) : xs = ys :=
  List.Perm.eq_of_pairwise (le := leS) (fun a b _ _ h1 h2 => leS_anti h1 h2) (sortedS_le s1) (sortedS_le s2) (p1.trans p2.symm)
/-! ### mirrors of the operators -/
def mixS (a b : Nat) : Nat := if a = b ∧ a ∈ [48, 49] then a else 120
def anyS (l : List Nat) : Nat := if 49 ∈ l then 49 else if 120 ∈ l then 120 else 48
def allS (l : List Nat) : Nat := if 48 ∈ l then 48 else if 120 ∈ l then 120 else 49
def pickS (c : Nat) (a b : List Nat) : List Nat := if c = 120 then List.zipWith mixS a b else if c = 49 then a else b
def partS (l : List Nat) (hi lo : Nat) : List Nat := (l.drop (l.length - 1 - hi)).take (hi + 1 - lo)
def spMixS : Sp := fun vs H Q _ => ∃ a b : Nat, vs = [.str (Tx [a]), .str (Tx [b])] ∧ ∀ H', Ex H H' → Q (.str (Tx [mixS a b])) H'
def spMixed : Sp := fun vs H Q _ => ∃ a b : List Nat, vs = [.str (Tx a), .str (Tx b)] ∧ a.length = b.length ∧ a.length ≤ 1000 ∧ ∀ H', Ex H H' → Q (.str (Tx (List.zipWith mixS a b))) H'
def spOne (f : List Nat → Nat) : Sp := fun vs H Q _ => ∃ l : List Nat, vs = [.str (Tx l)] ∧ ∀ H', Ex H H' → Q (.str (Tx [f l])) H'
def spPick : Sp := fun vs H Q _ => ∃ (c : Nat) (a b : List Nat), vs = [.str (Tx [c]), .str (Tx a), .str (Tx b)] ∧ a.length = b.length ∧ a.length ≤ 1000 ∧ ∀ H', Ex H H' → Q (.str (Tx (pickS c a b))) H'
def spJoin : Sp := fun vs H Q _ => ∃ a b : List Nat, vs = [.str (Tx a), .str (Tx b)] ∧ a.length + b.length ≤ 1000 ∧ ∀ H', Ex H H' → Q (.str (Tx (a ++ b))) H'
def spPart : Sp := fun vs H Q _ => ∃ (l : List Nat) (hi lo : Nat), vs = [.str (Tx l), .int (hi : Int), .int (lo : Int)] ∧ lo ≤ hi ∧ hi < l.length ∧ l.length ≤ 1000 ∧ ∀ H', Ex H H' → Q (.str (Tx (partS l hi lo))) H'
section
variable {K : PySem.W.Frag} {σ : L2.St} {H : Hp} {ta tb te : TE} {tl th : TO}
theorem cut_Tx (l : List Nat) (i j : Nat) (hij : i ≤ j) (hj : j ≤ l.length) : cutS (Tx l) (some (i : Int)) (some (j : Int)) = Tx ((l.drop i).take (j - i)) := by
  unfold cutS
  rw [Tx_len, HT.sIx_nat, HT.sIx_nat, Nat.min_eq_left hj, Nat.min_eq_left (by omega)]
theorem ev_cutT {l : List Nat} {i j : Nat} (ha : Ev te σ H (.str (Tx l))) (h1 : EvO tl σ H (some (i : Int))) (h2 : EvO th σ H (some (j : Int))) (hij : i ≤ j) (hj : j ≤ l.length) (hz : l.length ≤ 40000) : Ev (tSl rSlS te tl th) σ H (.str (Tx ((l.drop i).take (j - i)))) := fun H1 e Q q =>
  ha H1 e _ fun H2 e2 => h1 H2 (e.trans e2) _ fun H3 e3 => h2 H3 ((e.trans e2).trans e3) _ fun H4 e4 => ⟨Tx l, rfl, sz_of (by rw [Tx_len]; omega), by rw [cut_Tx l i j hij hj]; exact q H4 ((e2.trans e3).trans e4)⟩
/-- a new list of texts, of what a def tells of each of a list's texts -/
theorem el_lcV {xs : List (List Nat)} {a : Addr} {tl : TE} {j : Nat} {vs : List Nat} (g : List Nat → V) (h : Ev tl σ H (.ref a)) (hx : SqL K H a (xs.map fun l => V.str (Tx l))) (hz : xs.length ≤ 40000) (hw : ∀ x, wipe ((wipe σ vs).set j (some x)) vs = wipe σ vs)
    (he : ∀ (l : List Nat) H1, Ex H H1 → l ∈ xs → Ev te ((wipe σ vs).set j (some (.str (Tx l)))) H1 (g l)) :
    EvL (tLc (iList K tl) (gName j) tYes te vs) σ H (xs.map g) := by
  have hs : (xs.map fun l => V.str (Tx l)).length = xs.length := List.length_map _
  rw [← given_all xs [] g, ← hs]
  refine el_lcL (fun _ => true) (fun i => g (xs.getD i [])) h hx (by omega) hw (fun i x H1 e hi => et_yes) (fun i x H1 e hi _ => ?_)
  rw [List.getElem?_map] at hi
  cases hq : xs[i]? with
  | none =>
    rw [hq] at hi
    cases hi
  | some l =>
    rw [hq] at hi
    have ex : V.str (Tx l) = x := Option.some.inj hi
    subst ex
    rw [show xs.getD i [] = l by rw [List.getD_eq_getElem?_getD, hq]; rfl]
    exact he l H1 e (List.mem_of_getElem? hq)
end
end Dw

set_option Elab.async false
set_option linter.all false
set_option maxRecDepth 100000
namespace Dw
open PySem L2 Evl
section
variable {K : PySem.W.Frag} {σ : L2.St} {H : Hp} {ta : TA} {te tx : TE} {t : TT} {z : V}
/-- [e for k in range(i, j, -1)] -/
theorem el_lcR3 {j : Nat} {vs : List Nat} {a b : Int} (v : Nat → V) (h : EvA ta σ H [.int a, .int b, .int (-1)]) (hr : 0 ≤ a ∧ a ≤ 1000 ∧ -1 ≤ b ∧ b ≤ a) (hw : ∀ x, wipe ((wipe σ vs).set j (some x)) vs = wipe σ vs)
    (he : ∀ (i : Nat) H1, Ex H H1 → (i : Int) < a - b → Ev te ((wipe σ vs).set j (some (.int (a - (i : Int))))) H1 (v i)) :
    EvL (tLc (iRng3 ta) (gName j) tYes te vs) σ H ((List.range (a - b).toNat).map v) := fun H0 e Q q => h H0 e _ fun H1 e1 => ⟨a, b, -1, (a - b).toNat, rfl, RgC.neg (by omega) (by omega) (by omega) (by omega), fun Dl hD => by
  have e2 : (List.range (a - b).toNat).map v = given (a - b).toNat (fun _ => true) v := by
    unfold given
    rw [List.filter_eq_self.mpr (fun _ _ => rfl)]
  rw [e2] at q
  refine lc_it walk_rangeC (Cw H1 (fun _ => true) v Dl) ⟨hD, Ex.new hD, upd_same⟩ (fun _ _ _ _ => True.intro) (fun i x H2 H3 hi p y => ?_) (fun H' p => q Dl H' (fresh_back e1 p.1) (e1.trans p.2.1) p.2.2)
  obtain ⟨rfl, hx⟩ := y
  have hx2 : x = .int (a - (i : Int)) := by
    rw [hx]
    show V.int (a + (i : Int) * -1) = V.int (a - (i : Int))
    congr 1
    omega
  subst hx2
  exact ⟨hw _, cw_turn p (by omega) et_yes fun _ => he i H1 (e.trans e1) (by omega)⟩⟩
/-- f('word', [..]) -/
theorem ev_callL2 {sp : Sp} {dvs : List V} {E : XK} {w : V} {xs : List V} (h : EvL te σ H xs) (hs : ∀ p H1, H1 p = some (.lst xs) → Ex H H1 → SpV sp ([w, .ref p] ++ dvs) H1 z) : Ev (tCall sp dvs E (tCons (tC w) (tCons te tNil))) σ H z := fun H1 e Q q =>
  h H1 e _ fun p H2 _ e2 h2 => hs p H2 h2 (e.trans e2) H2 (Ex.refl _) Q (fun H3 e3 => q H3 (e2.trans e3)) E
/-- f('word', [..], k=..) -/
theorem ev_callNL2 {sp : Sp} {n m : Nat} {gV : List V → List V → List V} {E : XK} {tK : TA} {w : V} {xs zs : List V} (h : EvL te σ H xs) (hk : EvA tK σ H zs) (l1 : 2 = n) (l2 : zs.length = m) (hs : ∀ p H1, H1 p = some (.lst xs) → Ex H H1 → SpV sp (gV [w, .ref p] zs) H1 z) : Ev (tCallN n m sp gV E (tCons (tC w) (tCons te tNil)) tK) σ H z := fun H1 e Q q =>
  h H1 e _ fun p H2 _ e2 h2 => hk H2 (e.trans e2) _ fun H3 e3 => ⟨l1, l2, hs p H3 (e3 _ _ h2) ((e.trans e2).trans e3) H3 (Ex.refl _) Q (fun H4 e4 => q H4 ((e2.trans e3).trans e4)) E⟩
end
theorem mul_ok : ∀ d ∈ [48, 49], ∀ n : Fin 9, MulOk (Tx [d]) ((n.val : Nat) : Int) ∧ Txt.mul (Tx [d]) ((n.val : Nat) : Int) = Tx (List.replicate n.val d) := by
  simp only [MulOk]
  decide +kernel
theorem mul_Tx {d : Nat} (hd : d ∈ [48, 49]) {n : Nat} (hn : n ≤ 8) : MulOk (Tx [d]) (n : Int) ∧ Txt.mul (Tx [d]) (n : Int) = Tx (List.replicate n d) := mul_ok d hd ⟨n, by omega⟩
theorem part_due (L : List Nat) (hi lo : Nat) (h1 : lo ≤ hi) (h2 : hi < L.length) : (List.range (hi + 1 - lo)).map (fun t => L.reverse.getD (hi - t) 0) = partS L hi lo := by
  unfold partS
  apply List.ext_getElem
  · simp
    omega
  · intro i h3 h4
    simp at h3
    simp
    rw [List.getElem?_reverse (by omega), List.getElem?_eq_getElem (by omega)]
    show L[L.length - 1 - (hi - i)] = L[L.length - 1 - hi + i]
    congr 1
    omega
theorem mix_rd {a b : Nat} (ha : a ∈ sgn) (hb : b ∈ sgn) : mixS (rd a) (rd b) = mixS a b := by
  simp only [sgn, List.mem_cons, List.not_mem_nil, or_false] at ha hb
  rcases ha with rfl | rfl | rfl | rfl <;> rcases hb with rfl | rfl | rfl | rfl <;> decide
theorem mixed_rd : ∀ {a b : List Nat}, Sg a → Sg b → List.zipWith mixS (a.map rd) (b.map rd) = List.zipWith mixS a b
  | [], _, _, _ => by simp
  | _ :: _, [], _, _ => by simp
  | x :: a, y :: b, ha, hb => by
    rw [List.map_cons, List.map_cons, List.zipWith_cons_cons, List.zipWith_cons_cons, mix_rd (ha x (List.mem_cons_self ..)) (hb y (List.mem_cons_self ..)), mixed_rd (fun c hc => ha c (List.mem_cons_of_mem _ hc)) (fun c hc => hb c (List.mem_cons_of_mem _ hc))]
theorem mem_rd {l : List Nat} {c : Nat} (hc : c = 48 ∨ c = 49) : c ∈ l.map rd ↔ c ∈ l := by
  rw [List.mem_map]
  constructor
  · rintro ⟨d, hd, e⟩
    unfold rd at e
    by_cases h : d = 122
    · rw [if_pos h] at e
      omega
    · rw [if_neg h] at e
      rw [← e]
      exact hd
  · intro h
    exact ⟨c, h, by unfold rd; rw [if_neg (by omega)]⟩
theorem x_rd {l : List Nat} (h : Sg l) (u d : Nat) (hud : (u = 48 ∧ d = 49) ∨ (u = 49 ∧ d = 48)) (hu : u ∉ l) : 120 ∈ l.map rd ↔ ¬ l = List.replicate l.length d := by
  rw [List.mem_map]
  constructor
  · rintro ⟨c, hc, e⟩ hr
    rw [hr] at hc
    have := (List.mem_replicate.mp hc).2
    subst this
    unfold rd at e
    by_cases h2 : c = 122
    · omega
    · rw [if_neg h2] at e
      omega
  · intro hn
    by_cases hx : ∃ c ∈ l, rd c = 120
    · obtain ⟨c, hc, e⟩ := hx
      exact ⟨c, hc, e⟩
    · exfalso
      apply hn
      rw [List.eq_replicate_iff]
      refine ⟨rfl, fun c hc => ?_⟩
      have h3 := h c hc
      have h4 : rd c ≠ 120 := fun e => hx ⟨c, hc, e⟩
      have h5 : c ≠ u := fun e => hu (by rw [← e]; exact hc)
      simp only [sgn, List.mem_cons, List.not_mem_nil, or_false] at h3
      rcases h3 with rfl | rfl | rfl | rfl
      · omega
      · omega
      · exact absurd rfl h4
      · exact absurd rfl h4
end Dw

set_option Elab.async false
set_option linter.all false
set_option maxRecDepth 100000
namespace Dw
open PySem L2 Evl
/-! ### set(xs) of a list of whole numbers (the library has it of a tuple) -/
section
open PyProof.Rows
variable {P : Program} {w : World} {A : Around} {E : Value → Shared → Prop} {s : Shared}
abbrev set0 (w : World) : Obj := { cls := .type "set", dict := none, data := .set #[] 0 (.fresh 0 0 (!w.params.followText "set-order")) }
/-- set.__init__ of a set just made, handed a list -/
theorem init_set_lst {l : Addr} {us : Array Value} (ns : List Int) {R : PySem.Fin → Shared → Prop} (calm : A.handled = none) (isl : s.heap.IsList l us) (hni : IntsAre us.toList ns) (few : ns.length + 1 < scanBound)
    (k : ∀ (g : Heap) (tk c : Nat), SetR w g s.heap.objs.size (fun j => decide (j ∈ ns)) c → c ≤ ns.length → (∀ b o, s.heap.get? b = some o → g.get? b = some o) → R (.done (.ret .none)) { s with heap := g, toks := tk }) :
    wpAny (model P w) A (Builtin.«set.__init__» ⟨[.ref s.heap.objs.size, .ref l], []⟩) R E { s with heap := s.heap.push (set0 w) } := by
  have nI : us.size = ns.length := by
    rw [← Array.length_toList]
    exact IntsAre.length hni
  obtain ⟨⟨k1, k2, k3, k4⟩, at0, kc, nn, kd⟩ := isl
  simp only at kc kd
  subst kc kd
  have at1 : (s.heap.push (set0 w)).get? s.heap.objs.size = some (set0 w) := Heap.get?_push_size _ rfl
  have at2 : (s.heap.push (set0 w)).get? l = some ⟨.type "list", k2, .seq us nn, k4⟩ := Heap.get?_push_of_some _ at0
  have b1 := F.sub_list_set
  have b2 := F.sub_list_frozenset
  have b3 : (Value.type "list" == Value.type "dict") = false := by decide
  have b4 : (s.heap.push (set0 w)).IsList l us := ⟨_, at2, rfl, nn, rfl⟩
  unfold Builtin.«set.__init__» noKeywords Builtin.Frozenset.updateFrom
  generalize eI : pyIter = PI
  wp_walk
  subst eI
  refine wpAny_pyIter_list b4 (wpAny_bind (wpAny_runValue ?_))
  have lt : l < s.heap.objs.size := Heap.lt_size at0
  have n1 : (s.heap.push (set0 w)).objs.size = s.heap.objs.size + 1 := Heap.size_push ..
  have c2 : A.in1.handled = none := by simp [calm]
  have n2 : l ≠ (s.heap.push (set0 w)).objs.size := by
    rw [n1]
    exact Nat.ne_of_lt (Nat.lt_succ_of_lt lt)
  have n3 : s.heap.objs.size ∉ [(s.heap.push (set0 w)).objs.size, l] := by
    rw [n1]
    simp only [List.mem_cons, List.not_mem_nil, or_false, not_or]
    exact ⟨Nat.ne_of_lt (Nat.lt_succ_self _), Nat.ne_of_gt lt⟩
  refine set_update_ints ((Walks.list c2 _ l n2 us).toS) s.heap.objs.size n3 ns nI few (fun i v hv => ?_) (us.size - 0) 0 _ (by omega) (Nat.zero_le _) ⟨⟨_, Heap.get?_push_size _ rfl, rfl, rfl⟩, b4.push _⟩ ⟨0, Nat.le_refl 0, setR_new_at (Heap.get?_push_of_some _ at1)⟩ fun s' c mv hc hS => ?_
  · have hi : i < ns.length := by
      rw [← nI]
      exact (Array.getElem?_eq_some_iff.mp hv).1
    obtain ⟨t, e⟩ := IntsAre.int_at hni i v (by rw [Array.getElem?_toList]; exact hv)
    exact ⟨ns[i], t, List.getElem?_eq_getElem hi, by rw [e, List.getD_eq_getElem?_getD, List.getElem?_eq_getElem hi]; rfl⟩
  · obtain ⟨g, g2, d2, tk, o2⟩ := s'
    have e1 : g2 = s.gens := mv.gens
    have e2 : d2 = s.drawn := mv.drawn
    have e3 : o2 = s.os := mv.os
    subst e1 e2 e3
    rw [nI] at hc
    refine wpAny_pure (wpAny_pure (k g tk c hS hc fun b o e => ?_))
    have lb : b < s.heap.objs.size := Heap.lt_size e
    refine mv.heap b o (fun hm => ?_) (Heap.get?_push_of_some _ (Heap.get?_push_of_some _ e))
    rw [n1] at hm
    simp only [List.mem_cons, List.not_mem_nil, or_false] at hm
    rcases hm with hm | hm
    · exact absurd hm (Nat.ne_of_lt lb)
    · exact absurd hm (Nat.ne_of_lt (Nat.lt_succ_of_lt lb))
theorem call_set_lst {l : Addr} {us : Array Value} (ns : List Int) {Q : Value → Shared → Prop} (calm : A.handled = none) (isl : s.heap.IsList l us) (hni : IntsAre us.toList ns) (few : ns.length + 1 < scanBound)
    (k : ∀ (g : Heap) (tk c : Nat), SetR w g s.heap.objs.size (fun j => decide (j ∈ ns)) c → c ≤ ns.length → (∀ b o, s.heap.get? b = some o → g.get? b = some o) → Q (.ref s.heap.objs.size) { s with heap := g, toks := tk }) :
    wpAny (model P w) A (call (.type "set") [.ref l]) Q E s := by
  obtain ⟨c0, t0, m0⟩ := F.called_set.mro
  have f1 := F.called_set.made
  have f2 := F.called_set.sub
  have f3 := F.called_set.notType
  have f4 := F.called_set.canCreate
  have f5 := F.typeCall_set_1 (.ref l)
  refine wpAny_call (codeAny_of_tree (show wpAny _ _ (callAny (.type "set") _) _ _ _ from wpAny_pure ⟨Code.quiet_builtin _ (by decide +kernel), codeAny_builtin F.entry_type_call ?_⟩))
  rw [Around.under_plain (weight_type_call_type "set" [.ref l] []) rfl]
  (repeat (any_goals (first | assumption | wp_step)))
  refine codeAny_mono (code_set_led1 (.ref l) (E := E) (Q₁ := fun v s1 => v = .ref s.heap.objs.size ∧ s1 = { s with heap := s.heap.push (set0 w) }) ⟨rfl, rfl⟩) fun r s1 hr => ?_
  match r, hr with
  | .error e, hr => exact hr
  | .ok (.ret v), hr =>
    obtain ⟨rfl, rfl⟩ := hr
    have ty : Shared.TypeIs { s with heap := s.heap.push (set0 w) } (.ref s.heap.objs.size) "set" := ⟨_, Heap.get?_push_size _ rfl, rfl⟩
    have f6 := F.called_set.init.lookup
    have f7 := F.called_set.init.bind (.ref s.heap.objs.size)
    (repeat (any_goals (first | assumption | wp_step)))
    refine codeAny_mono (codeAny_call_builtin (R := wants (fun r s2 => r = .none ∧ Q (.ref s.heap.objs.size) s2) E) F.called_set.init.plain F.entry_set_init (check_set_init_1 ty ?_)) fun r2 s2 q => ?_
    · exact init_set_lst ns (A := A.in1.in1) (by simp [calm]) isl hni few fun g tk c h1 h2 h3 => ⟨rfl, k g tk c h1 h2 h3⟩
    · match r2, q with
      | .error e, q => exact q
      | .ok (.ret v), q =>
        obtain ⟨rfl, q⟩ := q
        (repeat (any_goals (first | assumption | wp_step)))
      | .ok .next, q => exact q.elim
      | .ok .brk, q => exact q.elim
      | .ok .cont, q => exact q.elim
  | .ok .next, hr => exact hr.elim
  | .ok .brk, hr => exact hr.elim
  | .ok .cont, hr => exact hr.elim
end
section
variable {X : Cx}
def rSetI (K : PySem.W.Frag) (w : World) : List V → Hp → VK → Prop := fun xs H Q => ∃ (l : Addr) (ns : List Int), xs = [.ref l] ∧ SqL K H l (ns.map V.int) ∧ ns.length ≤ 4000 ∧ ∀ (a : Addr) (c : Nat), H a = none → c ≤ ns.length → Q (.ref a) (upd H a (SetO w a (fun j => decide (j ∈ ns)) c))
theorem cr_setI (hc : X.calm = true) : CallR X (.type "set") (rSetI X.K X.w) := by
  intro pins s σ H xs us Q I r h
  obtain ⟨l, ns, rfl, hl, hn, q⟩ := h
  rw [Vals.ref1 r]
  obtain ⟨its, rv, pl, hz⟩ := I.list hl
  refine call_set_lst ns (I.ok.hd hc) pl.isList (by simpa using rv.ints) (by unfold scanBound; omega) fun g tk c hS hc2 hk => ?_
  exact ⟨.ref s.heap.objs.size, upd H s.heap.objs.size (SetO X.w s.heap.objs.size (fun j => decide (j ∈ ns)) c), I.laid (t' := tk) hk (Nat.le_refl _) (setO_new hS), rfl, q _ c (I.hok.fresh (Nat.le_refl _)) hc2⟩
end
/-- of a list of noughts and ones, sorted, each once -/
def su (ns : List Int) : List Int := (if 0 ∈ ns then [0] else []) ++ (if 1 ∈ ns then [1] else [])
theorem su_one {ns ms : List Int} (h01 : ∀ k ∈ ns, k = 0 ∨ k = 1) (hp : ms.Pairwise (· < ·)) (hm : ∀ k : Int, k ∈ ms ↔ k ∈ ns) : ms = su ns := by
  have sub : ∀ k ∈ ms, k = 0 ∨ k = 1 := fun k hk => h01 k ((hm k).mp hk)
  unfold su
  simp only [← hm]
  clear hm h01
  match ms, hp, sub with
  | [], _, _ => simp
  | [a], _, sub =>
    rcases sub a (by simp) with rfl | rfl <;> simp
  | [a, b], hp, sub =>
    have h1 : a < b := (List.pairwise_cons.mp hp).1 b (by simp)
    rcases sub a (by simp) with rfl | rfl <;> rcases sub b (by simp) with rfl | rfl <;> first | omega | simp
  | a :: b :: c :: r, hp, sub =>
    have h1 : a < b := (List.pairwise_cons.mp hp).1 b (by simp)
    have h2 : b < c := (List.pairwise_cons.mp (List.pairwise_cons.mp hp).2).1 c (by simp)
    have := sub a (by simp)
    have := sub c (by simp)
    have := sub b (by simp)
    omega
theorem el_su {K : PySem.W.Frag} {w : World} {σ : L2.St} {H : Hp} {te : TE} {ns : List Int} (h : EvL te σ H (ns.map V.int)) (h01 : ∀ k ∈ ns, k = 0 ∨ k = 1) (hz : ns.length < 64) : EvL (tCB (rSortedSet w) (tCons (tCB (rSetI K w) (tCons te tNil)) tNil)) σ H ((su ns).map V.int) := fun H1 e Q q =>
  h H1 e _ fun p H2 np e2 h2 => ⟨p, ns, rfl, sq_of h2, by omega, fun a c na hc => ⟨a, _, c, rfl, upd_same, by omega, fun ms r hp hm _ nr => by
    rw [su_one h01 hp (fun k => (hm k).trans decide_eq_true_iff)]
    exact q r _ (fresh_back e2 (fresh_back (Ex.new na) nr)) ((e2.trans (Ex.new na)).trans (Ex.new nr)) upd_same⟩⟩
/-- the same of a list that a name holds -/
theorem el_suV {K : PySem.W.Frag} {w : World} {σ : L2.St} {H : Hp} {te : TE} {ns : List Int} {p : Addr} (h : Ev te σ H (.ref p)) (hp0 : SqL K H p (ns.map V.int)) (h01 : ∀ k ∈ ns, k = 0 ∨ k = 1) (hz : ns.length < 64) : EvL (tCB (rSortedSet w) (tCons (tCB (rSetI K w) (tCons te tNil)) tNil)) σ H ((su ns).map V.int) := fun H1 e Q q =>
  h H1 e _ fun H2 e2 => ⟨p, ns, rfl, ex_l (e.trans e2) hp0, by omega, fun a c na hc => ⟨a, _, c, rfl, upd_same, by omega, fun ms r hp hm _ nr => by
    rw [su_one h01 hp (fun k => (hm k).trans decide_eq_true_iff)]
    exact q r _ (fresh_back e2 (fresh_back (Ex.new na) nr)) ((e2.trans (Ex.new na)).trans (Ex.new nr)) upd_same⟩⟩
end Dw

set_option Elab.async false
set_option linter.all false
set_option maxRecDepth 100000
namespace Dw
/-! ### the mathematics of k16: signs -/
def k3 : List Nat := [48, 49, 120]
def wN (c : Nat) : List Nat := if c ∈ [48, 49] then [if c = 49 then 1 else 0] else [0, 1]
def ways (c : Nat) : List Int := if c ∈ [48, 49] then [if c = 49 then 1 else 0] else [0, 1]
theorem ways_wN (c : Nat) : ways c = (wN c).map fun n : Nat => (n : Int) := by
  unfold ways wN
  by_cases h : c ∈ [48, 49]
  · rw [if_pos h, if_pos h]
    by_cases h2 : c = 49
    · rw [if_pos h2, if_pos h2]; rfl
    · rw [if_neg h2, if_neg h2]; rfl
  · rw [if_neg h, if_neg h]; rfl
def notS (c : Nat) : Nat := if c = 48 then 49 else if c = 49 then 48 else 120
def xorS (c d : Nat) : Nat := if c = 120 ∨ d = 120 then 120 else if c = d then 48 else 49
def orS (c d : Nat) : Nat := if c = 49 ∨ d = 49 then 49 else if c = 48 ∧ d = 48 then 48 else 120
def cnt (x c d k : Nat) : Nat := (if c = x then 1 else 0) + (if d = x then 1 else 0) + (if k = x then 1 else 0)
def mostS (c d k : Nat) : Nat := if 1 < cnt 48 c d k then 48 else if 1 < cnt 49 c d k then 49 else 120
/-- what a step makes of two bits and what is handed on: 0 plus, 1 same, 2 less, 3 the sum's own bit -/
def fW (w : Nat) (p q c : Int) : Int := match w with
  | 0 => (p + q + c) / 2
  | 1 => if (if p ≠ q then 1 else 0) > c then (if p ≠ q then 1 else 0) else c
  | 2 => if p < q + c then 1 else 0
  | _ => (p + q + c) % 2
def triL (c d : Nat) (C : List Int) : List (Int × Int × Int) := (ways c).flatMap fun a => (ways d).flatMap fun b => C.map fun k => (a, b, k)
def tri (w c d k : Nat) : List Int := (triL c d (ways k)).map fun t => fW w t.1 t.2.1 t.2.2
def signL (l : List Int) : Nat := if 0 ∈ l ∧ 1 ∈ l then 120 else if l.getD 0 0 = 1 then 49 else 48
/-- what is handed on behind all bits, the lowest first -/
def bK (w : Nat) : Nat → List Nat → List Nat → Nat
  | k, c :: A, d :: B => bK w (signL (tri w c d k)) A B
  | k, _, _ => k
def bF (w : Nat) : Nat → List Nat → List Nat → List Nat
  | k, c :: A, d :: B => signL (tri 3 c d k) :: bF w (signL (tri w c d k)) A B
  | _, _, _ => []
def plusL : Nat → List Nat → List Nat → List Nat
  | k, c :: A, d :: B => xorS (xorS c d) k :: plusL (mostS c d k) A B
  | _, _, _ => []
def hiS (c : Nat) : Nat := if c = 120 then 49 else c
def loS (c : Nat) : Nat := if c = 120 then 48 else c
def lessS (a b : List Nat) : Nat := if a.map hiS < b.map loS then 49 else if ¬ a.map loS < b.map hiS then 48 else 120
def plusS (a b : List Nat) : List Nat := (plusL 48 a.reverse b.reverse).reverse
def sameS (a b : List Nat) : Nat := notS (anyS (List.zipWith xorS a b))
/-- what the program tells of two values that are read -/
def opS (w : Nat) (a b : List Nat) : List Nat := match w with
  | 0 => plusS a b
  | 1 => [sameS a b]
  | _ => [lessS a b]
/-- what by_bits tells -/
def bbS (w : Nat) (a b : List Nat) : List Nat := match w with
  | 0 => (bF 0 48 a.reverse b.reverse).reverse
  | 1 => [notS (bK 1 48 a.reverse b.reverse)]
  | _ => [bK 2 48 a.reverse b.reverse]
theorem tri_ok : ∀ w : Fin 4, ∀ c ∈ sgn, ∀ d ∈ sgn, ∀ k ∈ k3, (∀ x ∈ tri w.val c d k, x = 0 ∨ x = 1) ∧ (tri w.val c d k).length ≤ 8 ∧ 0 < (tri w.val c d k).length ∧ su (tri w.val c d k) = ways (signL (tri w.val c d k)) ∧ signL (tri w.val c d k) ∈ k3 := by decide +kernel
theorem plus_step : ∀ c ∈ sgn, ∀ d ∈ sgn, ∀ k ∈ k3, signL (tri 3 c d k) = xorS (xorS (rd c) (rd d)) k ∧ signL (tri 0 c d k) = mostS (rd c) (rd d) k := by decide +kernel
theorem same_step : ∀ c ∈ sgn, ∀ d ∈ sgn, ∀ k ∈ k3, signL (tri 1 c d k) = orS k (xorS (rd c) (rd d)) := by decide +kernel
theorem k3_48 : 48 ∈ k3 := by decide
theorem plus_eq : ∀ (A B : List Nat) (k : Nat), Sg A → Sg B → k ∈ k3 → plusL k (A.map rd) (B.map rd) = bF 0 k A B
  | [], _, _, _, _, _ => by simp [plusL, bF]
  | _ :: _, [], _, _, _, _ => by simp [plusL, bF]
  | c :: A, d :: B, k, ha, hb, hk => by
    have hc := ha c (List.mem_cons_self ..)
    have hd := hb d (List.mem_cons_self ..)
    obtain ⟨e1, e2⟩ := plus_step c hc d hd k hk
    have h3 := (tri_ok 0 c hc d hd k hk).2.2.2.2
    show xorS (xorS (rd c) (rd d)) k :: plusL (mostS (rd c) (rd d) k) (A.map rd) (B.map rd) = signL (tri 3 c d k) :: bF 0 (signL (tri 0 c d k)) A B
    rw [e1, e2, plus_eq A B _ (fun x hx => ha x (List.mem_cons_of_mem _ hx)) (fun x hx => hb x (List.mem_cons_of_mem _ hx)) (e2 ▸ h3)]
theorem any_or (k x : Nat) (l : List Nat) (hk : k ∈ k3) (hx : x ∈ k3) : anyS (orS k x :: l) = anyS (k :: x :: l) := by
  unfold anyS
  simp only [k3, List.mem_cons, List.not_mem_nil, or_false] at hk hx
  rcases hk with rfl | rfl | rfl <;> rcases hx with rfl | rfl | rfl <;> simp [orS]
theorem xor_k3 : ∀ c ∈ sgn, ∀ d ∈ sgn, xorS (rd c) (rd d) ∈ k3 := by decide +kernel
theorem same_eq : ∀ (A B : List Nat) (k : Nat), Sg A → Sg B → k ∈ k3 → bK 1 k A B = anyS (k :: List.zipWith xorS (A.map rd) (B.map rd))
  | [], _, k, _, _, hk => by
    simp only [k3, List.mem_cons, List.not_mem_nil, or_false] at hk
    rcases hk with rfl | rfl | rfl <;> simp [bK, anyS]
  | _ :: _, [], k, _, _, hk => by
    simp only [k3, List.mem_cons, List.not_mem_nil, or_false] at hk
    rcases hk with rfl | rfl | rfl <;> simp [bK, anyS]
  | c :: A, d :: B, k, ha, hb, hk => by
    have hc := ha c (List.mem_cons_self ..)
    have hd := hb d (List.mem_cons_self ..)
    have h3 : signL (tri 1 c d k) ∈ k3 := (tri_ok 1 c hc d hd k hk).2.2.2.2
    show bK 1 (signL (tri 1 c d k)) A B = anyS (k :: xorS (rd c) (rd d) :: List.zipWith xorS (A.map rd) (B.map rd))
    rw [same_eq A B _ (fun x hx => ha x (List.mem_cons_of_mem _ hx)) (fun x hx => hb x (List.mem_cons_of_mem _ hx)) h3, same_step c hc d hd k hk, any_or _ _ _ hk (xor_k3 c hc d hd)]
theorem any_rev (l : List Nat) : anyS l.reverse = anyS l := by
  unfold anyS
  simp only [List.mem_reverse]
theorem any_48 (l : List Nat) : anyS (48 :: l) = anyS l := by
  unfold anyS
  simp
theorem bK_snoc (w : Nat) : ∀ (A B : List Nat) (k c d : Nat), A.length = B.length → bK w k (A ++ [c]) (B ++ [d]) = signL (tri w c d (bK w k A B))
  | [], [], k, c, d, _ => by simp [bK]
  | [], _ :: _, _, _, _, h => by simp at h
  | _ :: _, [], _, _, _, h => by simp at h
  | x :: A, y :: B, k, c, d, h => by
    show bK w (signL (tri w x y k)) (A ++ [c]) (B ++ [d]) = signL (tri w c d (bK w (signL (tri w x y k)) A B))
    exact bK_snoc w A B _ c d (by simpa using h)
theorem lo_hi : ∀ (a b : List Nat), Sx a → Sx b → a.length = b.length → a.map hiS < b.map loS → a.map loS < b.map hiS
  | [], [], _, _, _, h => absurd h (List.lt_irrefl _)
  | [], _ :: _, _, _, h, _ => by simp at h
  | _ :: _, [], _, _, h, _ => by simp at h
  | c :: a, d :: b, ha, hb, hl, h => by
    have hc := ha c (List.mem_cons_self ..)
    have hd := hb d (List.mem_cons_self ..)
    rw [List.map_cons, List.map_cons, List.cons_lt_cons_iff] at h ⊢
    have ih := lo_hi a b (fun x hx => ha x (List.mem_cons_of_mem _ hx)) (fun x hx => hb x (List.mem_cons_of_mem _ hx)) (by simpa using hl)
    simp only [List.mem_cons, List.not_mem_nil, or_false] at hc hd
    rcases h with h | ⟨h1, h2⟩
    · refine .inl ?_
      rcases hc with rfl | rfl | rfl <;> rcases hd with rfl | rfl | rfl <;> revert h <;> decide
    · have h3 := ih h2
      rcases hc with rfl | rfl | rfl <;> rcases hd with rfl | rfl | rfl <;> first | (exact absurd h1 (by decide)) | (exact .inr ⟨rfl, h3⟩) | (exact .inl (by decide))
theorem less_k3 (a b : List Nat) : lessS a b ∈ k3 := by
  unfold lessS
  split
  · decide
  · split <;> decide
theorem less_step {c d : Nat} (a b : List Nat) (hc : c ∈ sgn) (hd : d ∈ sgn) (ha : Sx a) (hb : Sx b) (hl : a.length = b.length) : lessS (rd c :: a) (rd d :: b) = signL (tri 2 c d (lessS a b)) := by
  have hx := lo_hi a b ha hb hl
  have key1 : ∀ c ∈ sgn, ∀ d ∈ sgn, (if hiS (rd c) < loS (rd d) ∨ hiS (rd c) = loS (rd d) ∧ True then 49 else if ¬ (loS (rd c) < hiS (rd d) ∨ loS (rd c) = hiS (rd d) ∧ True) then 48 else 120) = signL (tri 2 c d 49) := by decide +kernel
  have key2 : ∀ c ∈ sgn, ∀ d ∈ sgn, (if hiS (rd c) < loS (rd d) ∨ hiS (rd c) = loS (rd d) ∧ False then 49 else if ¬ (loS (rd c) < hiS (rd d) ∨ loS (rd c) = hiS (rd d) ∧ True) then 48 else 120) = signL (tri 2 c d 120) := by decide +kernel
  have key3 : ∀ c ∈ sgn, ∀ d ∈ sgn, (if hiS (rd c) < loS (rd d) ∨ hiS (rd c) = loS (rd d) ∧ False then 49 else if ¬ (loS (rd c) < hiS (rd d) ∨ loS (rd c) = hiS (rd d) ∧ False) then 48 else 120) = signL (tri 2 c d 48) := by decide +kernel
  unfold lessS
  simp only [List.map_cons, List.cons_lt_cons_iff]
  by_cases hP : a.map hiS < b.map loS
  · have hQ := hx hP
    simp only [hP, hQ, if_true]
    exact key1 c hc d hd
  · by_cases hQ : a.map loS < b.map hiS
    · simp only [hP, hQ, if_false, not_true_eq_false]
      exact key2 c hc d hd
    · simp only [hP, hQ, if_false, not_false_eq_true, if_true]
      exact key3 c hc d hd
theorem less_eq : ∀ (a b : List Nat), Sg a → Sg b → a.length = b.length → lessS (a.map rd) (b.map rd) = bK 2 48 a.reverse b.reverse
  | [], [], _, _, _ => by simp [lessS, bK]
  | [], _ :: _, _, _, h => by simp at h
  | _ :: _, [], _, _, h => by simp at h
  | c :: a, d :: b, ha, hb, hl => by
    have hl2 : a.length = b.length := by simpa using hl
    have ha2 : Sg a := fun x hx => ha x (List.mem_cons_of_mem _ hx)
    have hb2 : Sg b := fun x hx => hb x (List.mem_cons_of_mem _ hx)
    rw [List.reverse_cons, List.reverse_cons, bK_snoc 2 _ _ _ _ _ (by simpa using hl2), ← less_eq a b ha2 hb2 hl2]
    exact less_step _ _ (ha c (List.mem_cons_self ..)) (hb d (List.mem_cons_self ..)) (rd_sx ha2) (rd_sx hb2) (by simpa using hl2)
theorem sg_rev {a : List Nat} (h : Sg a) : Sg a.reverse := fun x hx => h x (List.mem_reverse.mp hx)
/-- the program tells what goes from bit to bit -/
theorem op_bb {w : Nat} (a b : List Nat) (ha : Sg a) (hb : Sg b) (hl : a.length = b.length) : opS w (a.map rd) (b.map rd) = bbS w a b := by
  match w with
  | 0 =>
    show (plusL 48 (a.map rd).reverse (b.map rd).reverse).reverse = (bF 0 48 a.reverse b.reverse).reverse
    rw [← List.map_reverse, ← List.map_reverse, plus_eq _ _ _ (sg_rev ha) (sg_rev hb) k3_48]
  | 1 =>
    show [notS (anyS (List.zipWith xorS (a.map rd) (b.map rd)))] = [notS (bK 1 48 a.reverse b.reverse)]
    rw [same_eq _ _ _ (sg_rev ha) (sg_rev hb) k3_48, any_48, List.map_reverse, List.map_reverse, ← List.reverse_zipWith (by simpa using hl), any_rev]
  | n + 2 =>
    show [lessS (a.map rd) (b.map rd)] = [bK 2 48 a.reverse b.reverse]
    rw [less_eq a b ha hb hl]
/-! ### numbers of all fillings -/
/-- m is a number of a filling, the lowest bit first -/
def Num : List Nat → Nat → Prop
  | [], m => m = 0
  | c :: A, m => ∃ p ∈ wN c, ∃ n, Num A n ∧ m = 2 * n + p
theorem num_some : ∀ A : List Nat, ∃ m, Num A m
  | [] => ⟨0, rfl⟩
  | c :: A => by
    obtain ⟨n, hn⟩ := num_some A
    have h : ∃ p, p ∈ wN c := by
      unfold wN
      split
      · exact ⟨_, List.mem_singleton.mpr rfl⟩
      · exact ⟨0, by simp⟩
    obtain ⟨p, hp⟩ := h
    exact ⟨2 * n + p, p, hp, n, hn, rfl⟩
theorem num_lt : ∀ (A : List Nat) (m : Nat), Num A m → m < 2 ^ A.length
  | [], m, h => by
    have : m = 0 := h
    simp [this]
  | c :: A, m, h => by
    obtain ⟨p, hp, n, hn, rfl⟩ := h
    have h1 := num_lt A n hn
    have h2 : p < 2 := by
      unfold wN at hp
      split at hp
      · have := List.mem_singleton.mp hp
        split at this <;> omega
      · simp at hp
        omega
    rw [List.length_cons, Nat.pow_succ]
    omega
/-- the sign c for what may be: true, false, both -/
def SignOf (P : Bool → Prop) (c : Nat) : Prop := (c = 49 ∧ P true ∧ ¬ P false) ∨ (c = 48 ∧ P false ∧ ¬ P true) ∨ (c = 120 ∧ P true ∧ P false)
theorem SignOf.one {P : Bool → Prop} {c d : Nat} (h1 : SignOf P c) (h2 : SignOf P d) : c = d := by
  rcases h1 with ⟨rfl, a, b⟩ | ⟨rfl, a, b⟩ | ⟨rfl, a, b⟩ <;> rcases h2 with ⟨rfl, a', b'⟩ | ⟨rfl, a', b'⟩ | ⟨rfl, a', b'⟩ <;> first | rfl | (exact absurd a b') | (exact absurd a' b) | (exact absurd b b') | (exact absurd b' b)
theorem SignOf.congr {P Q : Bool → Prop} {c : Nat} (h : ∀ v, P v ↔ Q v) (h1 : SignOf P c) : SignOf Q c := by
  unfold SignOf at h1 ⊢
  rw [← h true, ← h false]
  exact h1
theorem SignOf.not {P : Bool → Prop} {c : Nat} (h1 : SignOf P c) : SignOf (fun v => P (!v)) (notS c) := by
  rcases h1 with ⟨rfl, a, b⟩ | ⟨rfl, a, b⟩ | ⟨rfl, a, b⟩
  · exact .inr (.inl ⟨rfl, a, b⟩)
  · exact .inl ⟨rfl, a, b⟩
  · exact .inr (.inr ⟨rfl, b, a⟩)
/-- of two bits and what is handed on, and of the whole numbers -/
def hW (w : Nat) (m n q : Nat) : Bool := if w = 1 then decide (q = 1 ∨ m ≠ n) else decide (m < n + q)
theorem wN_01 (c : Nat) : ∀ p ∈ wN c, p = 0 ∨ p = 1 := by
  intro p hp
  unfold wN at hp
  split at hp
  · have := List.mem_singleton.mp hp
    split at this <;> omega
  · simp at hp
    omega
theorem tri_mem (w c d k : Nat) (x : Int) : x ∈ tri w c d k ↔ ∃ p ∈ wN c, ∃ q ∈ wN d, ∃ r ∈ wN k, x = fW w (p : Int) (q : Int) (r : Int) := by
  unfold tri triL
  simp only [ways_wN, List.mem_map, List.mem_flatMap]
  constructor
  · rintro ⟨t, ⟨a, ⟨p, hp, rfl⟩, b, ⟨q, hq, rfl⟩, k, ⟨r, hr, rfl⟩, rfl⟩, rfl⟩
    exact ⟨p, hp, q, hq, r, hr, rfl⟩
  · rintro ⟨p, hp, q, hq, r, hr, rfl⟩
    exact ⟨_, ⟨_, ⟨p, hp, rfl⟩, _, ⟨q, hq, rfl⟩, _, ⟨r, hr, rfl⟩, rfl⟩, rfl⟩
theorem su_mem (l : List Int) (h : ∀ x ∈ l, x = 0 ∨ x = 1) (x : Int) : x ∈ su l ↔ x ∈ l := by
  unfold su
  by_cases h0 : (0 : Int) ∈ l <;> by_cases h1 : (1 : Int) ∈ l <;> simp only [h0, h1, if_true, if_false, List.mem_append, List.mem_singleton, List.not_mem_nil, or_false, false_or]
  all_goals
    constructor
    · intro hx
      first | (rcases hx with rfl | rfl <;> assumption) | (subst hx; assumption) | exact hx.elim
    · intro hx
      have := h x hx
      rcases this with rfl | rfl <;> simp_all
/-- what is handed on, by signs -/
theorem next_mem {w : Nat} (hw : w < 4) {c d k : Nat} (hc : c ∈ sgn) (hd : d ∈ sgn) (hk : k ∈ k3) (s : Nat) : s ∈ wN (signL (tri w c d k)) ↔ ∃ p ∈ wN c, ∃ q ∈ wN d, ∃ r ∈ wN k, (s : Int) = fW w (p : Int) (q : Int) (r : Int) := by
  obtain ⟨h1, _, _, h4, _⟩ := tri_ok ⟨w, hw⟩ c hc d hd k hk
  simp only at h1 h4
  rw [← tri_mem, ← su_mem _ h1, h4, ways_wN, List.mem_map]
  constructor
  · intro h
    exact ⟨s, h, rfl⟩
  · rintro ⟨t, ht, e⟩
    rw [show s = t by omega]
    exact ht
theorem hW_step {w : Nat} (hw : w = 1 ∨ w = 2) {p q r m n : Nat} (hp : p = 0 ∨ p = 1) (hq : q = 0 ∨ q = 1) (hr : r = 0 ∨ r = 1) {s : Nat} (hs : (s : Int) = fW w (p : Int) (q : Int) (r : Int)) : hW w (2 * m + p) (2 * n + q) r = hW w m n s := by
  rcases hw with rfl | rfl
  · unfold hW
    rw [if_pos rfl, if_pos rfl, decide_eq_decide]
    rcases hp with rfl | rfl <;> rcases hq with rfl | rfl <;> rcases hr with rfl | rfl <;> simp [fW] at hs <;> omega
  · unfold hW
    rw [if_neg (by decide), if_neg (by decide), decide_eq_decide]
    rcases hp with rfl | rfl <;> rcases hq with rfl | rfl <;> rcases hr with rfl | rfl <;> simp [fW] at hs <;> omega
theorem fW_nat {w : Nat} (hw : w < 4) {p q r : Nat} (hp : p = 0 ∨ p = 1) (hq : q = 0 ∨ q = 1) (hr : r = 0 ∨ r = 1) : ∃ s : Nat, (s : Int) = fW w (p : Int) (q : Int) (r : Int) := by
  match w, hw with
  | 0, _ => exact ⟨(p + q + r) / 2, by simp [fW]⟩
  | 1, _ => rcases hp with rfl | rfl <;> rcases hq with rfl | rfl <;> rcases hr with rfl | rfl <;> first | exact ⟨0, by decide⟩ | exact ⟨1, by decide⟩
  | 2, _ => rcases hp with rfl | rfl <;> rcases hq with rfl | rfl <;> rcases hr with rfl | rfl <;> first | exact ⟨0, by decide⟩ | exact ⟨1, by decide⟩
  | 3, _ => exact ⟨(p + q + r) % 2, by simp [fW]⟩
theorem hand_eq {w : Nat} (hw : w = 1 ∨ w = 2) : ∀ (A B : List Nat) (k : Nat), Sg A → Sg B → k ∈ k3 → A.length = B.length → SignOf (fun v => ∃ m n q, Num A m ∧ Num B n ∧ q ∈ wN k ∧ hW w m n q = v) (bK w k A B)
  | [], [], k, _, _, hk, _ => by
    have base : ∀ (q : Nat), (q = 0 ∨ q = 1) → hW w 0 0 q = decide (q = 1) := fun q hq => by
      rcases hw with rfl | rfl <;> rcases hq with rfl | rfl <;> decide
    refine SignOf.congr (P := fun v => ∃ q ∈ wN k, decide (q = 1) = v) (fun v => ?_) ?_
    · constructor
      · rintro ⟨q, hq, rfl⟩
        exact ⟨0, 0, q, rfl, rfl, hq, base q (wN_01 k q hq)⟩
      · rintro ⟨m, n, q, rfl, rfl, hq, rfl⟩
        exact ⟨q, hq, (base q (wN_01 k q hq)).symm⟩
    · show SignOf _ k
      simp only [k3, List.mem_cons, List.not_mem_nil, or_false] at hk
      rcases hk with rfl | rfl | rfl
      · exact .inr (.inl ⟨rfl, ⟨0, by decide, by decide⟩, by rintro ⟨q, hq, e⟩; simp [wN] at hq; subst hq; revert e; decide⟩)
      · exact .inl ⟨rfl, ⟨1, by decide, by decide⟩, by rintro ⟨q, hq, e⟩; simp [wN] at hq; subst hq; revert e; decide⟩
      · exact .inr (.inr ⟨rfl, ⟨1, by decide, by decide⟩, ⟨0, by decide, by decide⟩⟩)
  | [], _ :: _, _, _, _, _, h => by simp at h
  | _ :: _, [], _, _, _, _, h => by simp at h
  | c :: A, d :: B, k, ha, hb, hk, hl => by
    have hc := ha c (List.mem_cons_self ..)
    have hd := hb d (List.mem_cons_self ..)
    have hw4 : w < 4 := by omega
    have h3 : signL (tri w c d k) ∈ k3 := (tri_ok ⟨w, hw4⟩ c hc d hd k hk).2.2.2.2
    have ih := hand_eq hw A B (signL (tri w c d k)) (fun x hx => ha x (List.mem_cons_of_mem _ hx)) (fun x hx => hb x (List.mem_cons_of_mem _ hx)) h3 (by simpa using hl)
    refine SignOf.congr (fun v => ?_) ih
    constructor
    · rintro ⟨m, n, s, hm, hn, hs, rfl⟩
      obtain ⟨p, hp, q, hq, r, hr, e⟩ := (next_mem hw4 hc hd hk s).mp hs
      exact ⟨2 * m + p, 2 * n + q, r, ⟨p, hp, m, hm, rfl⟩, ⟨q, hq, n, hn, rfl⟩, hr, hW_step hw (wN_01 _ _ hp) (wN_01 _ _ hq) (wN_01 _ _ hr) e⟩
    · rintro ⟨_, _, r, ⟨p, hp, m, hm, rfl⟩, ⟨q, hq, n, hn, rfl⟩, hr, rfl⟩
      obtain ⟨s, e⟩ := fW_nat hw4 (wN_01 _ _ hp) (wN_01 _ _ hq) (wN_01 _ _ hr)
      exact ⟨m, n, s, hm, hn, (next_mem hw4 hc hd hk s).mpr ⟨p, hp, q, hq, r, hr, e⟩, (hW_step hw (wN_01 _ _ hp) (wN_01 _ _ hq) (wN_01 _ _ hr) e).symm⟩
/-- a list of noughts and ones by its sign -/
theorem signL_of (l : List Int) (h : ∀ x ∈ l, x = 0 ∨ x = 1) (h0 : 0 < l.length) : SignOf (fun v => (if v then 1 else 0) ∈ l) (signL l) := by
  unfold signL SignOf
  match l, h0 with
  | x :: r, _ =>
    have hx := h x (List.mem_cons_self ..)
    by_cases h1 : (0 : Int) ∈ x :: r ∧ (1 : Int) ∈ x :: r
    · rw [if_pos h1]
      exact .inr (.inr ⟨rfl, h1.2, h1.1⟩)
    · rw [if_neg h1]
      rcases hx with rfl | rfl
      · refine .inr (.inl ⟨by simp, by simp, fun z => h1 ⟨by simp, by simpa using z⟩⟩)
      · refine .inl ⟨by simp, by simp, fun z => h1 ⟨by simpa using z, by simp⟩⟩
theorem bF_len (w : Nat) : ∀ (A B : List Nat) (k : Nat), A.length = B.length → (bF w k A B).length = A.length
  | [], [], _, _ => by simp [bF]
  | [], _ :: _, _, h => by simp at h
  | _ :: _, [], _, h => by simp at h
  | c :: A, d :: B, k, h => by
    show (_ :: bF w _ A B).length = A.length + 1
    rw [List.length_cons, bF_len w A B _ (by simpa using h)]
theorem sum_eq : ∀ (A B : List Nat) (k j : Nat), Sg A → Sg B → k ∈ k3 → A.length = B.length → j < A.length → SignOf (fun v => ∃ m n q, Num A m ∧ Num B n ∧ q ∈ wN k ∧ (m + n + q).testBit j = v) ((bF 0 k A B).getD j 0)
  | [], _, _, _, _, _, _, _, h => by simp at h
  | _ :: _, [], _, _, _, _, _, h, _ => by simp at h
  | c :: A, d :: B, k, 0, ha, hb, hk, hl, _ => by
    have hc := ha c (List.mem_cons_self ..)
    have hd := hb d (List.mem_cons_self ..)
    obtain ⟨h1, _, h3, _, _⟩ := tri_ok 3 c hc d hd k hk
    obtain ⟨m0, hm0⟩ := num_some A
    obtain ⟨n0, hn0⟩ := num_some B
    show SignOf _ (signL (tri 3 c d k))
    refine SignOf.congr (fun v => ?_) (signL_of (tri 3 c d k) h1 h3)
    rw [tri_mem]
    have bit : ∀ (p q r m n : Nat), ((if v = true then 1 else 0 : Int) = fW 3 (p : Int) (q : Int) (r : Int) ↔ (2 * m + p + (2 * n + q) + r).testBit 0 = v) := fun p q r m n => by
      rw [Nat.testBit_zero]
      simp only [fW]
      cases v with
      | true =>
        simp
        omega
      | false =>
        simp
        omega
    constructor
    · rintro ⟨p, hp, q, hq, r, hr, e⟩
      exact ⟨2 * m0 + p, 2 * n0 + q, r, ⟨p, hp, m0, hm0, rfl⟩, ⟨q, hq, n0, hn0, rfl⟩, hr, (bit p q r m0 n0).mp e⟩
    · rintro ⟨_, _, r, ⟨p, hp, m, hm, rfl⟩, ⟨q, hq, n, hn, rfl⟩, hr, e⟩
      exact ⟨p, hp, q, hq, r, hr, (bit p q r m n).mpr e⟩
  | c :: A, d :: B, k, j + 1, ha, hb, hk, hl, hj => by
    have hc := ha c (List.mem_cons_self ..)
    have hd := hb d (List.mem_cons_self ..)
    have h3 : signL (tri 0 c d k) ∈ k3 := (tri_ok 0 c hc d hd k hk).2.2.2.2
    have ih := sum_eq A B (signL (tri 0 c d k)) j (fun x hx => ha x (List.mem_cons_of_mem _ hx)) (fun x hx => hb x (List.mem_cons_of_mem _ hx)) h3 (by simpa using hl) (by simpa using hj)
    have ih : SignOf _ ((bF 0 k (c :: A) (d :: B)).getD (j + 1) 0) := ih
    refine SignOf.congr (fun v => ?_) ih
    have bit : ∀ (p q r m n s : Nat), (s : Int) = fW 0 (p : Int) (q : Int) (r : Int) → (2 * m + p + (2 * n + q) + r).testBit (j + 1) = (m + n + s).testBit j := fun p q r m n s e => by
      rw [Nat.testBit_succ]
      congr 1
      simp only [fW] at e
      omega
    constructor
    · rintro ⟨m, n, s, hm, hn, hs, rfl⟩
      obtain ⟨p, hp, q, hq, r, hr, e⟩ := (next_mem (by decide) hc hd hk s).mp hs
      exact ⟨2 * m + p, 2 * n + q, r, ⟨p, hp, m, hm, rfl⟩, ⟨q, hq, n, hn, rfl⟩, hr, bit p q r m n s e⟩
    · rintro ⟨_, _, r, ⟨p, hp, m, hm, rfl⟩, ⟨q, hq, n, hn, rfl⟩, hr, rfl⟩
      obtain ⟨s, e⟩ := fW_nat (w := 0) (by decide) (wN_01 _ _ hp) (wN_01 _ _ hq) (wN_01 _ _ hr)
      exact ⟨m, n, s, hm, hn, (next_mem (by decide) hc hd hk s).mpr ⟨p, hp, q, hq, r, hr, e⟩, (bit p q r m n s e).symm⟩
/-- all numbers, as the list grows -/
def numS (acc : List Nat) (c : Nat) : List Nat := acc.map (fun n => 2 * n + (wN c).getD 0 0) ++ acc.map (fun n => 2 * n + (wN c).getD ((wN c).length - 1) 0)
def nums (l : List Nat) : List Nat := l.foldl numS [0]
theorem nums_snoc (l : List Nat) (c : Nat) : nums (l ++ [c]) = numS (nums l) c := by
  unfold nums
  rw [List.foldl_append]
  rfl
theorem nums_len : ∀ l : List Nat, (nums l).length = 2 ^ l.length := fun l => by
  have gen : ∀ (l acc : List Nat), (l.foldl numS acc).length = acc.length * 2 ^ l.length := fun l => by
    induction l with
    | nil => intro acc; simp
    | cons c l ih =>
      intro acc
      rw [List.foldl_cons, ih, List.length_cons, Nat.pow_succ]
      unfold numS
      rw [List.length_append, List.length_map, List.length_map, ← Nat.mul_two, Nat.mul_assoc, Nat.mul_comm 2]
  have := gen l [0]
  simpa [nums] using this
theorem wN_ends (c p : Nat) : p ∈ wN c ↔ p = (wN c).getD 0 0 ∨ p = (wN c).getD ((wN c).length - 1) 0 := by
  unfold wN
  split <;> simp
theorem nums_mem : ∀ (A : List Nat) (m : Nat), m ∈ nums A.reverse ↔ Num A m
  | [], m => by simp [nums, Num]
  | c :: A, m => by
    rw [List.reverse_cons, nums_snoc]
    unfold numS
    rw [List.mem_append, List.mem_map, List.mem_map]
    constructor
    · rintro (⟨n, hn, rfl⟩ | ⟨n, hn, rfl⟩)
      · exact ⟨_, (wN_ends c _).mpr (.inl rfl), n, (nums_mem A n).mp hn, rfl⟩
      · exact ⟨_, (wN_ends c _).mpr (.inr rfl), n, (nums_mem A n).mp hn, rfl⟩
    · rintro ⟨p, hp, n, hn, rfl⟩
      rcases (wN_ends c p).mp hp with rfl | rfl
      · exact .inl ⟨n, (nums_mem A n).mpr hn, rfl⟩
      · exact .inr ⟨n, (nums_mem A n).mpr hn, rfl⟩
/-! ### the bits of all -/
def gW (w wd m n : Nat) : Nat := match w with
  | 0 => (m + n) % 2 ^ wd
  | 1 => if m = n then 1 else 0
  | _ => if m < n then 1 else 0
def pairs (w wd : Nat) (xs ys : List Nat) : List Nat := xs.flatMap fun m => ys.map fun n => gW w wd m n
def andL (l : List Nat) : Nat := l.foldl (· &&& ·) (l.getD 0 0)
def orL (l : List Nat) : Nat := l.foldl (· ||| ·) (l.getD 0 0)
def bitL (l : List Nat) (j : Nat) : Nat := if (andL l).testBit j = true then 49 else if (orL l).testBit j = false then 48 else 120
def bitsW (l : List Nat) (wd : Nat) : List Nat := (List.range wd).map fun i => bitL l (wd - 1 - i)
theorem and_bit (j : Nat) : ∀ (l : List Nat) (x : Nat), (l.foldl (· &&& ·) x).testBit j = (x.testBit j && l.all fun s => s.testBit j)
  | [], x => by simp
  | s :: l, x => by
    rw [List.foldl_cons, and_bit j l, Nat.testBit_and, List.all_cons, Bool.and_assoc]
theorem or_bit (j : Nat) : ∀ (l : List Nat) (x : Nat), (l.foldl (· ||| ·) x).testBit j = (x.testBit j || l.any fun s => s.testBit j)
  | [], x => by simp
  | s :: l, x => by
    rw [List.foldl_cons, or_bit j l, Nat.testBit_or, List.any_cons, Bool.or_assoc]
theorem bitL_of (l : List Nat) (j : Nat) (h0 : 0 < l.length) : SignOf (fun v => ∃ s ∈ l, s.testBit j = v) (bitL l j) := by
  match l, h0 with
  | x :: r, _ =>
    have ea : (andL (x :: r)).testBit j = (x :: r).all fun s => s.testBit j := by
      unfold andL
      rw [and_bit]
      simp [List.all_cons]
    have eo : (orL (x :: r)).testBit j = (x :: r).any fun s => s.testBit j := by
      unfold orL
      rw [or_bit]
      simp [List.any_cons]
    unfold bitL
    rw [ea, eo]
    by_cases h1 : ((x :: r).all fun s => s.testBit j) = true
    · rw [if_pos h1]
      rw [List.all_eq_true] at h1
      exact .inl ⟨rfl, ⟨x, by simp, h1 x (by simp)⟩, by
        rintro ⟨s, hs, e⟩
        rw [h1 s hs] at e
        cases e⟩
    · rw [if_neg h1]
      have hf : ∃ s ∈ x :: r, s.testBit j = false := by
        refine Classical.byContradiction fun z => h1 (List.all_eq_true.mpr fun s hs => ?_)
        cases e : s.testBit j with
        | true => rfl
        | false => exact absurd ⟨s, hs, e⟩ z
      by_cases h2 : ((x :: r).any fun s => s.testBit j) = false
      · rw [if_pos h2]
        rw [List.any_eq_false] at h2
        exact .inr (.inl ⟨rfl, hf, by
          rintro ⟨s, hs, e⟩
          exact h2 s hs e⟩)
      · rw [if_neg h2]
        have h3 : ((x :: r).any fun s => s.testBit j) = true := by
          cases e : (x :: r).any fun s => s.testBit j with
          | true => rfl
          | false => exact absurd e h2
        rw [List.any_eq_true] at h3
        exact .inr (.inr ⟨rfl, h3, hf⟩)
theorem pairs_mem (w wd : Nat) (xs ys : List Nat) (s : Nat) : s ∈ pairs w wd xs ys ↔ ∃ m ∈ xs, ∃ n ∈ ys, s = gW w wd m n := by
  unfold pairs
  rw [List.mem_flatMap]
  constructor
  · rintro ⟨m, hm, h⟩
    obtain ⟨n, hn, rfl⟩ := List.mem_map.mp h
    exact ⟨m, hm, n, hn, rfl⟩
  · rintro ⟨m, hm, n, hn, rfl⟩
    exact ⟨m, hm, List.mem_map.mpr ⟨n, hn, rfl⟩⟩
theorem getD_last (L : List Nat) (n i : Nat) (h : L.length = n) (hi : L.length - 1 - i < L.length) : L.getD (n - 1 - i) 0 = L[L.length - 1 - i]'hi := by
  subst h
  rw [List.getD_eq_getElem?_getD, List.getElem?_eq_getElem hi]
  rfl
/-- what all fillings give is what goes from bit to bit -/
theorem due_bb {w : Nat} {a b xs ys : List Nat} (ha : Sg a) (hb : Sg b) (hl : a.length = b.length) (hx : ∀ m, m ∈ xs ↔ m ∈ nums a) (hy : ∀ m, m ∈ ys ↔ m ∈ nums b) :
    0 < (pairs w a.length xs ys).length ∧ bitsW (pairs w a.length xs ys) (if w = 0 then a.length else 1) = bbS w a b := by
  have hxA : ∀ m, m ∈ xs ↔ Num a.reverse m := fun m => by
    rw [hx, ← nums_mem, List.reverse_reverse]
  have hyB : ∀ m, m ∈ ys ↔ Num b.reverse m := fun m => by
    rw [hy, ← nums_mem, List.reverse_reverse]
  obtain ⟨m0, hm0⟩ := num_some a.reverse
  obtain ⟨n0, hn0⟩ := num_some b.reverse
  have hpos : 0 < (pairs w a.length xs ys).length := List.length_pos_of_mem ((pairs_mem _ _ _ _ _).mpr ⟨m0, (hxA m0).mpr hm0, n0, (hyB n0).mpr hn0, rfl⟩)
  refine ⟨hpos, ?_⟩
  have hlr : a.reverse.length = b.reverse.length := by simpa using hl
  match w with
  | 0 =>
    show bitsW (pairs 0 a.length xs ys) a.length = (bF 0 48 a.reverse b.reverse).reverse
    have hF := bF_len 0 a.reverse b.reverse 48 hlr
    rw [List.length_reverse] at hF
    apply List.ext_getElem
    · rw [List.length_reverse, hF]
      simp [bitsW]
    · intro i h1 h2
      simp only [bitsW, List.length_map, List.length_range] at h1
      rw [List.getElem_reverse]
      simp only [bitsW, List.getElem_map, List.getElem_range]
      have s1 := bitL_of (pairs 0 a.length xs ys) (a.length - 1 - i) hpos
      have s2 := sum_eq a.reverse b.reverse 48 (a.length - 1 - i) (sg_rev ha) (sg_rev hb) k3_48 hlr (by rw [List.length_reverse]; omega)
      have e : (bF 0 48 a.reverse b.reverse).getD (a.length - 1 - i) 0 = (bF 0 48 a.reverse b.reverse)[(bF 0 48 a.reverse b.reverse).length - 1 - i]'(by omega) := by
        exact getD_last _ _ _ hF (by omega)
      rw [← e]
      refine SignOf.one s1 (SignOf.congr (fun v => ?_) s2)
      constructor
      · rintro ⟨m, n, q, hm, hn, hq, rfl⟩
        have hq0 : q = 0 := by simpa [wN] using hq
        subst hq0
        refine ⟨_, (pairs_mem _ _ _ _ _).mpr ⟨m, (hxA m).mpr hm, n, (hyB n).mpr hn, rfl⟩, ?_⟩
        show ((m + n) % 2 ^ a.length).testBit _ = _
        rw [Nat.testBit_mod_two_pow, decide_eq_true (by omega), Bool.true_and]
        rfl
      · rintro ⟨s, hs, rfl⟩
        obtain ⟨m, hm, n, hn, rfl⟩ := (pairs_mem _ _ _ _ _).mp hs
        refine ⟨m, n, 0, (hxA m).mp hm, (hyB n).mp hn, by decide, ?_⟩
        show _ = ((m + n) % 2 ^ a.length).testBit _
        rw [Nat.testBit_mod_two_pow, decide_eq_true (by omega), Bool.true_and]
        rfl
  | 1 =>
    show [bitL (pairs 1 a.length xs ys) 0] = [notS (bK 1 48 a.reverse b.reverse)]
    have s1 := bitL_of (pairs 1 a.length xs ys) 0 hpos
    have s2 := (hand_eq (w := 1) (.inl rfl) a.reverse b.reverse 48 (sg_rev ha) (sg_rev hb) k3_48 hlr).not
    congr 1
    refine SignOf.one s1 (SignOf.congr (fun v => ?_) s2)
    have bit : ∀ m n : Nat, (gW 1 a.length m n).testBit 0 = !hW 1 m n 0 := fun m n => by
      show (if m = n then 1 else 0 : Nat).testBit 0 = _
      unfold hW
      by_cases h : m = n <;> simp [h]
    constructor
    · rintro ⟨m, n, q, hm, hn, hq, e⟩
      have hq0 : q = 0 := by simpa [wN] using hq
      subst hq0
      exact ⟨_, (pairs_mem _ _ _ _ _).mpr ⟨m, (hxA m).mpr hm, n, (hyB n).mpr hn, rfl⟩, by rw [bit, e]; simp⟩
    · rintro ⟨s, hs, rfl⟩
      obtain ⟨m, hm, n, hn, rfl⟩ := (pairs_mem _ _ _ _ _).mp hs
      exact ⟨m, n, 0, (hxA m).mp hm, (hyB n).mp hn, by decide, by rw [bit]; simp⟩
  | w + 2 =>
    show [bitL (pairs (w + 2) a.length xs ys) 0] = [bK 2 48 a.reverse b.reverse]
    have s1 := bitL_of (pairs (w + 2) a.length xs ys) 0 hpos
    have s2 := hand_eq (w := 2) (.inr rfl) a.reverse b.reverse 48 (sg_rev ha) (sg_rev hb) k3_48 hlr
    congr 1
    refine SignOf.one s1 (SignOf.congr (fun v => ?_) s2)
    have bit : ∀ m n : Nat, (gW (w + 2) a.length m n).testBit 0 = hW 2 m n 0 := fun m n => by
      show (if m < n then 1 else 0 : Nat).testBit 0 = _
      unfold hW
      by_cases h : m < n <;> simp [h]
    constructor
    · rintro ⟨m, n, q, hm, hn, hq, rfl⟩
      have hq0 : q = 0 := by simpa [wN] using hq
      subst hq0
      exact ⟨_, (pairs_mem _ _ _ _ _).mpr ⟨m, (hxA m).mpr hm, n, (hyB n).mpr hn, rfl⟩, bit m n⟩
    · rintro ⟨s, hs, rfl⟩
      obtain ⟨m, hm, n, hn, rfl⟩ := (pairs_mem _ _ _ _ _).mp hs
      exact ⟨m, n, 0, (hxA m).mp hm, (hyB n).mp hn, by decide, (bit m n).symm⟩
end Dw

set_option Elab.async false
set_option linter.all false
set_option maxRecDepth 100000
namespace Dw
open PySem L2 Evl
/-! ### sorted(set(xs)), up to a thousand members; sum of a tuple -/
section
open PyProof.Rows
variable {P : Program} {w : World} {A : Around} {E : Value → Shared → Prop} {s : Shared} {a : Addr}
theorem sorted_setA {S : Int → Bool} {m : Nat} {Q : Value → Shared → Prop} (R : SetR w s.heap a S m) (calm : A.handled = none) (few : m ≤ 1000)
    (k : ∀ z p (o : Array Value) (c : Nat) (ms : List Int), (∀ b u, s.heap.get? b = some u → z.heap.get? b = some u) → z.gens = s.gens → z.os = s.os → s.heap.objs.size ≤ p → z.heap.get? p = some (seqObj "list" o c) → IntsAre o.toList ms → ms.Pairwise (· < ·) → (∀ j, j ∈ ms ↔ S j = true) → ms.length = m → Q (.ref p) z) :
    wpAny (model P w) A (call (.builtin "sorted") [.ref a]) Q E s := by
  obtain ⟨ob, es, ep, t, at0, ex0, dt, kg, nd, km, kb, kf, kn, kr, kl⟩ := R
  refine Calls.call_function_entry kind_sorted plain_sorted entry_sorted (args_sorted1 _) ?_; unfold Builtin.«sorted»
  refine wpAny_bind (m := checkCount "sorted" 1 1 _) (wpAny_pure (wpAny_bind (collect_set (A := A.in1) calm ⟨ob, at0, ex0.1, dt⟩ kf kb kr kl fun y vs k1 hz g1 o1 pm => ?_)))
  have nv : vs.length = m := by rw [pm.length_eq, List.length_map, Array.length_toList, kn]
  have hI : IntsAre vs (vs.map Builtin.Re.reRawOf) := ints_of vs fun x hx => by
    obtain ⟨en, he, rfl⟩ := List.mem_map.mp (pm.mem_iff.mp hx)
    obtain ⟨j, tk, e1, _⟩ := kg en he
    exact ⟨j, tk, e1⟩
  have pk : (vs.map Builtin.Re.reRawOf).Perm (es.toList.map keyOf) := by
    have g := pm.map Builtin.Re.reRawOf
    rwa [List.map_map] at g
  have nz : vs.length ≤ sizeLine := by rw [nv, sizeLine_eq]; omega
  refine wpAny_bind (wpAny_newList ?_ nz)
  have atL : (y.heap.push (seqObj "list" vs.toArray 0)).get? y.heap.objs.size = some (seqObj "list" vs.toArray 0) := Heap.get?_push_size _ rfl
  refine wpAny_bind (wpAny_holding (wpAny_call_entry slot_list_sort ⟨_, atL, rfl⟩ entry_list_sort (list_sort_treeAny atL hI nz fun o ms i1 i2 i3 => ⟨_, rfl, ?_⟩) (args_list_sort _)))
  obtain ⟨c, hc⟩ := sortedHeap_at (vs := vs) (out := o) atL
  have pn : ms.Perm (es.toList.map keyOf) := i2.trans pk
  refine wpAny_pure ⟨_, rfl, k _ y.heap.objs.size o c ms (fun b u e => ?_) g1 o1 hz hc i1 (lt_of_le_nodup ms i3 (pn.nodup_iff.mpr nd)) (fun j => by rw [pn.mem_iff, ← km j]) (by rw [pn.length_eq, List.length_map, Array.length_toList, kn])⟩
  have g := k1 b u e
  have lt := Heap.lt_size g
  show (sortedHeap (y.heap.push (seqObj "list" vs.toArray 0)) y.heap.objs.size vs o).get? b = some u
  rw [sortedHeap_old (Nat.ne_of_lt lt) (by rw [size_push']; exact Nat.lt_succ_of_lt lt)]
  exact Heap.get?_push_of_some _ g
end
section
variable {X : Cx}
def rSortedSetA (w : World) : List V → Hp → VK → Prop := fun vs H Q => ∃ (a : Addr) (S : Int → Bool) (n : Nat), vs = [V.ref a] ∧ H a = some (SetO w a S n) ∧ n ≤ 1000 ∧
  ∀ (ms : List Int) (p : Addr), ms.Pairwise (· < ·) → (∀ j : Int, j ∈ ms ↔ S j = true) → ms.length = n → H p = none → Q (.ref p) (upd H p (.lst (ms.map V.int)))
theorem cr_sortedSetA (calm : X.calm = true) : CallR X (.builtin "sorted") (rSortedSetA X.w) := by
  intro pins s σ H vs us Q I r h
  obtain ⟨a, S, n, rfl, ha, few, q⟩ := h
  rw [Vals.ref1 r]
  refine sorted_setA (setO_get I ha) (I.ok.hd calm) few fun z p o c ms k g y hp hg hi hs hm hl => ?_
  have nz : (ms.map V.int).length ≤ sizeLine := by rw [List.length_map, hl, sizeLine_eq]; omega
  have np : H p = none := I.hok.fresh hp
  have J : Inv X pins σ (upd H p (.lst (ms.map V.int))) { s with heap := z.heap, gens := z.gens, drawn := z.drawn, toks := z.toks } :=
    I.call (ch := []) (Un.laid k hp np) (I.hok.laid k hp ⟨nz, o.toList, c, vals_of_ints hi, hg⟩) (by rw [g]; exact I.bare) (fun _ u => nomatch u)
  have e : z = { s with heap := z.heap, gens := z.gens, drawn := z.drawn, toks := z.toks } := by
    cases z
    cases s
    cases y
    rfl
  rw [e]
  exact ⟨.ref p, _, J, rfl, q ms p hs hm hl np⟩
def rSumT (K : PySem.W.Frag) : List V → Hp → VK → Prop := fun vs H Q => ∃ (a : Addr) (ns : List Int), vs = [V.ref a] ∧ SqT K H a (ns.map V.int) ∧ Q (.int ns.sum) H
open PyProof.Rows in
theorem cr_sumT (calm : X.calm = true) : CallR X (.builtin "sum") (rSumT X.K) := by
  intro pins s σ H vs us Q I r h
  obtain ⟨a, ns, rfl, hs, q⟩ := h
  obtain ⟨its, rv, hl, _⟩ := I.tuple hs
  rw [Vals.ref1 r]
  have hi := rv.ints
  obtain ⟨xs, e⟩ := hi.allInts.items
  have hn : numsOf (intItems xs).toList = ns := by rw [← e]; exact hi.numsOf
  rw [nums_intItems] at hn
  rw [e] at hl
  refine PySem.W.ktm_sumG (I.ok.hd calm) hl fun h' tk t' hk => ?_
  rw [preSum_eq, List.take_of_length_le (by simp), hn]
  exact ⟨.int _, H, I.kept hk, ⟨_, rfl⟩, q⟩
end
end Dw

set_option Elab.async false
set_option linter.all false
set_option maxRecDepth 100000
namespace Dw
open PySem L2 Evl
/-! ### lists of tuples of three numbers -/
abbrev T3 := Int × Int × Int
def t3 (t : T3) : List V := [.int t.1, .int t.2.1, .int t.2.2]
inductive Tups (H : Hp) : List Addr → List T3 → Prop where
  | nil : Tups H [] []
  | cons {r : Addr} {rs : List Addr} {t : T3} {ts : List T3} : H r = some (.tup (t3 t)) → Tups H rs ts → Tups H (r :: rs) (t :: ts)
theorem Tups.len {H : Hp} {rs : List Addr} {ts : List T3} (h : Tups H rs ts) : rs.length = ts.length := by
  induction h with
  | nil => rfl
  | cons _ _ ih => rw [List.length_cons, List.length_cons, ih]
theorem Tups.mono {H H' : Hp} {rs : List Addr} {ts : List T3} (h : Tups H rs ts) (e : ∀ r xs, H r = some (.tup xs) → H' r = some (.tup xs)) : Tups H' rs ts := by
  induction h with
  | nil => exact .nil
  | cons a _ ih => exact .cons (e _ _ a) ih
theorem Tups.ex {H H' : Hp} {rs : List Addr} {ts : List T3} (h : Tups H rs ts) (e : Ex H H') : Tups H' rs ts := h.mono fun r xs a => e r _ a
theorem Tups.upd {H : Hp} {rs : List Addr} {ts : List T3} {l : Addr} {xs : List V} {o : HO} (h : Tups H rs ts) (hl : H l = some (.lst xs)) : Tups (L2.upd H l o) rs ts := h.mono fun r ys a => by
  have n : r ≠ l := fun z => by
    rw [z, hl] at a
    cases a
  rw [upd_ne n]
  exact a
theorem Tups.app {H : Hp} {rs rs' : List Addr} {ts ts' : List T3} (h : Tups H rs ts) (h' : Tups H rs' ts') : Tups H (rs ++ rs') (ts ++ ts') := by
  induction h with
  | nil => exact h'
  | cons a _ ih => exact .cons a ih
theorem Tups.at {H : Hp} {rs : List Addr} {ts : List T3} (h : Tups H rs ts) : ∀ {i : Nat} {r : Addr}, rs[i]? = some r → ∃ t, ts[i]? = some t ∧ H r = some (.tup (t3 t)) := by
  induction h with
  | nil => intro i r h; cases h
  | @cons r0 rs0 t0 ts0 a _ ih =>
    intro i r hi
    cases i with
    | zero =>
      have : r0 = r := Option.some.inj hi
      subst this
      exact ⟨t0, rfl, a⟩
    | succ i => exact ih hi
/-- a new list of new tuples -/
def EvTs (te : TE) (σ : L2.St) (H : Hp) (ts : List T3) : Prop := ∀ H1, Ex H H1 → ∀ Q : VK, (∀ p rs H2, H1 p = none → Ex H1 H2 → H2 p = some (.lst (rs.map V.ref)) → Tups H2 rs ts → Q (.ref p) H2) → te σ H1 Q
section
variable {K : PySem.W.Frag} {w : World} {σ : L2.St} {H H' : Hp} {ta tb tc te tx tl : TE} {t u : TT} {x y z v : V} {D : Ends}
theorem map_at {α : Type} {f : α → V} {xs : List α} {i : Nat} {y : V} (h : (xs.map f)[i]? = some y) : ∃ a, xs[i]? = some a ∧ y = f a := by
  rw [List.getElem?_map] at h
  cases hq : xs[i]? with
  | none =>
    rw [hq] at h
    cases h
  | some a =>
    rw [hq] at h
    exact ⟨a, rfl, (Option.some.inj h).symm⟩
theorem ets_lc {a : Addr} {ns : List Int} {j : Nat} {vs : List Nat} (g : Int → T3) (h : Ev tl σ H (.ref a)) (hx : SqL K H a (ns.map V.int)) (hz : ns.length ≤ 40000) (hw : ∀ x, wipe ((wipe σ vs).set j (some x)) vs = wipe σ vs)
    (he : ∀ (n : Int) H1, Ex H H1 → EvU te ((wipe σ vs).set j (some (.int n))) H1 (t3 (g n))) : EvTs (tLc (iList K tl) (gName j) tYes te vs) σ H (ns.map g) := fun H0 e Q q => h H0 e _ fun H1 e1 => ⟨a, rfl, ⟨_, ex_l (e.trans e1) hx⟩, fun Dl hD => by
  refine lc_list (xs := ns.map V.int) (fun i H2 => Ex H1 H2 ∧ ∃ rs, H2 Dl = some (.lst (rs.map V.ref)) ∧ Tups H2 rs ((ns.take i).map g)) ⟨Ex.new hD, [], upd_same, .nil⟩ (fun i H2 _ p => ex_l ((e.trans e1).trans p.1) hx) (fun i x H2 hi p => ?_) (fun H2 p => ?_)
  · obtain ⟨n, hn, rfl⟩ := map_at hi
    obtain ⟨x2, rs, hd, ht⟩ := p
    have hln := ht.len
    have hil : i < ns.length := (List.getElem?_eq_some_iff.mp hn).1
    refine ⟨hw _, he n H2 ((e.trans e1).trans x2) H2 (Ex.refl _) _ fun r H4 nr e4 h4 => ⟨_, e4 _ _ hd, sz_lt ?_, Ex.mut (x2.trans e4) hD, rs ++ [r], ?_, ?_⟩⟩
    · rw [List.length_map, hln, List.length_map, List.length_take]
      omega
    · rw [upd_same, List.map_append]
      rfl
    · rw [List.take_add_one, hn, List.map_append]
      refine ((ht.ex e4).app (.cons h4 .nil)).upd (e4 _ _ hd)
  · obtain ⟨x2, rs, hd, ht⟩ := p
    rw [List.length_map, List.take_length] at ht
    exact q Dl rs H2 (fresh_back e1 hD) (e1.trans x2) hd ht⟩
/-- over a list of tuples, by a name -/
theorem el_lcTs {p : Addr} {rs : List Addr} {ts : List T3} {j : Nat} {vs : List Nat} (g : T3 → V) (h : Ev tl σ H (.ref p)) (hp : H p = some (.lst (rs.map V.ref))) (ht : Tups H rs ts) (hz : rs.length ≤ 40000) (hw : ∀ x, wipe ((wipe σ vs).set j (some x)) vs = wipe σ vs)
    (he : ∀ (r : Addr) (t : T3) H1, Ex H H1 → t ∈ ts → H1 r = some (.tup (t3 t)) → Ev te ((wipe σ vs).set j (some (.ref r))) H1 (g t)) : EvL (tLc (iList K tl) (gName j) tYes te vs) σ H (ts.map g) := by
  have hs : (rs.map V.ref).length = ts.length := by rw [List.length_map, ht.len]
  rw [← given_all ts (0, 0, 0) g, ← hs]
  refine el_lcL (fun _ => true) (fun i => g (ts.getD i (0, 0, 0))) h (sq_of hp) (by rw [List.length_map]; exact hz) hw (fun i x H1 e hi => et_yes) (fun i x H1 e hi _ => ?_)
  obtain ⟨r, hr, rfl⟩ := map_at hi
  obtain ⟨t, h1, h2⟩ := ht.at hr
  rw [show ts.getD i (0, 0, 0) = t by rw [List.getD_eq_getElem?_getD, h1]; rfl]
  exact he r t H1 e (List.mem_of_getElem? h1) (e _ _ h2)
/-- over a list of tuples, by three names -/
theorem el_lcT3 {p : Addr} {rs : List Addr} {ts : List T3} {j1 j2 j3 : Nat} {vs : List Nat} (g : T3 → V) (h : Ev tl σ H (.ref p)) (hp : H p = some (.lst (rs.map V.ref))) (ht : Tups H rs ts) (hz : rs.length ≤ 40000) (hw : ∀ x y z, wipe ((((wipe σ vs).set j1 (some x)).set j2 (some y)).set j3 (some z)) vs = wipe σ vs)
    (he : ∀ (t : T3) H1, Ex H H1 → t ∈ ts → Ev te ((((wipe σ vs).set j1 (some (.int t.1))).set j2 (some (.int t.2.1))).set j3 (some (.int t.2.2))) H1 (g t)) : EvL (tLc (iList K tl) (gTup K 3 (gCons (gName j1) (gCons (gName j2) (gCons (gName j3) gNil)))) tYes te vs) σ H (ts.map g) := fun H0 e Q q => h H0 e _ fun H1 e1 => ⟨p, rfl, ⟨_, sq_of (e1 _ _ (e _ _ hp))⟩, fun Dl hD => by
  have hs : (rs.map V.ref).length = ts.length := by rw [List.length_map, ht.len]
  refine lc_list (xs := rs.map V.ref) (fun i H2 => Ex H1 H2 ∧ H2 Dl = some (.lst ((ts.map g).take i))) ⟨Ex.new hD, upd_same⟩ (fun i H2 _ p2 => sq_of (p2.1 _ _ (e1 _ _ (e _ _ hp)))) (fun i x H2 hi p2 => ?_) (fun H2 p2 => ?_)
  · obtain ⟨r, hr, rfl⟩ := map_at hi
    obtain ⟨t, h1, h2⟩ := ht.at hr
    have x02 := (e.trans e1).trans p2.1
    have hg : (ts.map g)[i]? = some (g t) := by rw [List.getElem?_map, h1]; rfl
    refine ⟨r, _, rfl, st_of (x02 _ _ h2), rfl, _, _, rfl, _, _, rfl, _, _, rfl, rfl, hw _ _ _, ?_⟩
    refine he t H2 x02 (List.mem_of_getElem? h1) H2 (Ex.refl _) _ fun H4 e4 => ⟨_, e4 _ _ p2.2, sz_lt ?_, ?_, ?_⟩
    · have := List.length_take_le' i (ts.map g)
      rw [List.length_map] at this hs
      omega
    · exact Ex.mut (p2.1.trans e4) hD
    · rw [upd_same, List.take_add_one, hg]
      rfl
  · obtain ⟨p1, p3⟩ := p2
    rw [hs, List.take_of_length_le (by rw [List.length_map]; exact Nat.le_refl _)] at p3
    exact q Dl H2 (fresh_back e1 hD) (e1.trans p1) p3⟩
/-- xs.extend([..]) -/
theorem s_ext {l : Addr} {xs ys : List V} (hl : H l = some (.lst xs)) (ha : Ev ta σ H (.ref l)) (h : EvL te σ H ys) (hz : xs.length + ys.length ≤ 100000) (k : ∀ H1, Ex H H1 → D.nx σ (L2.upd H1 l (.lst (xs ++ ys)))) :
    tDrop (tBM K "list" rExtend ta (tCons te tNil)) D σ H := ha H (Ex.refl H) _ fun H1 e1 =>
  ⟨Or.inl ⟨rfl, xs, sq_of (e1 l _ hl)⟩, h H1 e1 _ fun p H2 _ e2 h2 => ⟨l, p, xs, ys, rfl, rfl, e2 l _ (e1 l _ hl), h2, sz_of hz, k H2 (e1.trans e2)⟩⟩
theorem s_extT {l : Addr} {xs : List V} {ts : List T3} (hl : H l = some (.lst xs)) (ha : Ev ta σ H (.ref l)) (h : EvTs te σ H ts) (hz : xs.length + ts.length ≤ 100000) (k : ∀ rs H1, Ex H H1 → Tups H1 rs ts → D.nx σ (L2.upd H1 l (.lst (xs ++ rs.map V.ref)))) :
    tDrop (tBM K "list" rExtend ta (tCons te tNil)) D σ H := ha H (Ex.refl H) _ fun H1 e1 =>
  ⟨Or.inl ⟨rfl, xs, sq_of (e1 l _ hl)⟩, h H1 e1 _ fun p rs H2 _ e2 h2 h3 => ⟨l, p, xs, rs.map V.ref, rfl, rfl, e2 l _ (e1 l _ hl), h2, sz_of (by rw [List.length_map, h3.len]; exact hz), k rs H2 (e1.trans e2) h3⟩⟩
theorem ev_sumT {r : Addr} {ns : List Int} (h : Ev te σ H (.ref r)) (hr : SqT K H r (ns.map V.int)) : Ev (tCB (rSumT K) (tCons te tNil)) σ H (.int ns.sum) := fun H1 e Q q => h H1 e _ fun H2 e2 => ⟨r, ns, rfl, ex_t (e.trans e2) hr, q H2 e2⟩
theorem el_cat {xs ys : List V} (ha : EvL ta σ H xs) (hb : EvL tb σ H ys) (hz : xs.length + ys.length ≤ 100000) : EvL (tOp rCat ta tb) σ H (xs ++ ys) := fun H1 e Q q =>
  ha H1 e _ fun p H2 np e2 h2 => hb H2 (e.trans e2) _ fun r H3 nr e3 h3 => ⟨p, r, xs, ys, rfl, rfl, e3 _ _ h2, h3, sz_of hz, fun s ns => q s _ (fresh_back (e2.trans e3) ns) ((e2.trans e3).trans (Ex.new ns)) upd_same⟩
theorem ev_ixN {xs : List V} {i : Int} (ha : EvL ta σ H xs) (hb : ∀ H1, Ex H H1 → Ev tb σ H1 (.int i)) (h : atI xs i = some v) : Ev (tOp (rIxL K) ta tb) σ H v := ev_opL1 ha hb fun p H1 hp _ => rv_ixL (sq_of hp) h
theorem el_is {xs ys : List V} (h : EvL te σ H xs) (e : xs = ys) : EvL te σ H ys := e ▸ h
def rInt1 : List V → Hp → VK → Prop := fun xs H Q => (∃ i, xs = [.int i] ∧ Q (.int i) H) ∨ ∃ k, xs = [.bl k] ∧ Q (.int (if k then 1 else 0)) H
theorem ev_int1 {b : Bool} (h : Ev te σ H (.bl b)) : Ev (tCB rInt1 (tCons te tNil)) σ H (.int (if b then 1 else 0)) := fun H1 e Q q => h H1 e _ fun H2 e2 => .inr ⟨b, rfl, q H2 e2⟩
theorem ev_ltT {a b : List Nat} (ha : Ev ta σ H (.str (Tx a))) (hb : Ev tb σ H (.str (Tx b))) : Ev (tOp (fun x y H Q => ∃ i j, x = .str i ∧ y = .str j ∧ Q (.bl (decide (i.cps.toList < j.cps.toList))) H) ta tb) σ H (.bl (decide (a < b))) := ev_op ha hb fun H1 _ Q q => ⟨Tx a, Tx b, rfl, rfl, q H1 (Ex.refl _)⟩
theorem ev_geT {a b : List Nat} (ha : Ev ta σ H (.str (Tx a))) (hb : Ev tb σ H (.str (Tx b))) : Ev (tOp (fun x y H Q => ∃ i j, x = .str i ∧ y = .str j ∧ Q (.bl (!decide (i.cps.toList < j.cps.toList))) H) ta tb) σ H (.bl (!decide (a < b))) := ev_op ha hb fun H1 _ Q q => ⟨Tx a, Tx b, rfl, rfl, q H1 (Ex.refl _)⟩
theorem ev_countT {a : List Nat} {c : Nat} {n : Nat} (ha : Ev ta σ H (.str (Tx a))) (hb : Ev tb σ H (.str (Tx [c]))) (hn : Txt.count (Tx a) (Tx [c]) = n) : Ev (tM1 (fun x xs H Q => ∃ a b, x = .str a ∧ xs = [.str b] ∧ Q (.int (Txt.count a b)) H) ta tb) σ H (.int (n : Int)) := fun H1 e Q q =>
  ha H1 e _ fun H2 e2 => ⟨⟨_, rfl⟩, hb H2 (e.trans e2) _ fun H3 e3 => ⟨Tx a, Tx [c], rfl, rfl, by rw [hn]; exact q H3 (e2.trans e3)⟩⟩
theorem ev_cutA {l : List Nat} {th : TO} {j : Nat} (ha : Ev te σ H (.str (Tx l))) (h2 : EvO th σ H (some (j : Int))) (hj : j ≤ l.length) (hz : l.length ≤ 40000) : Ev (tSl rSlS te tNoPart th) σ H (.str (Tx (l.take j))) := fun H1 e Q q =>
  ha H1 e _ fun H2 e2 => eo_none H2 (Ex.refl _) _ fun H3 e3 => h2 H3 ((e.trans e2).trans e3) _ fun H4 e4 => ⟨Tx l, rfl, sz_of (by rw [Tx_len]; omega), by
    have : cutS (Tx l) none (some (j : Int)) = Tx (l.take j) := by
      unfold cutS
      rw [Tx_len, HT.sIx_none, HT.sIx_nat, Nat.min_eq_left hj]
      rfl
    rw [this]
    exact q H4 ((e2.trans e3).trans e4)⟩
theorem ev_cutB {l : List Nat} {th : TO} {i : Nat} (ha : Ev te σ H (.str (Tx l))) (h2 : EvO th σ H (some (i : Int))) (hi : i ≤ l.length) (hz : l.length ≤ 40000) : Ev (tSl rSlS te th tNoPart) σ H (.str (Tx (l.drop i))) := fun H1 e Q q =>
  ha H1 e _ fun H2 e2 => h2 H2 (e.trans e2) _ fun H3 e3 => eo_none H3 (Ex.refl _) _ fun H4 e4 => ⟨Tx l, rfl, sz_of (by rw [Tx_len]; omega), by
    have : cutS (Tx l) (some (i : Int)) none = Tx (l.drop i) := by
      unfold cutS
      rw [Tx_len, HT.sIx_none, HT.sIx_nat, Nat.min_eq_left hi]
      show Tx ((l.drop i).take (l.length - i)) = Tx (l.drop i)
      rw [List.take_of_length_le (by rw [List.length_drop]; exact Nat.le_refl _)]
    rw [this]
    exact q H4 ((e2.trans e3).trans e4)⟩
/-- sorted(set(..)) of noughts and ones, of any list of numbers -/
theorem el_suA {ns : List Int} (h : EvL te σ H (ns.map V.int)) (h01 : ∀ k ∈ ns, k = 0 ∨ k = 1) (hz : ns.length ≤ 1000) : EvL (tCB (rSortedSetA w) (tCons (tCB (rSetI K w) (tCons te tNil)) tNil)) σ H ((su ns).map V.int) := fun H1 e Q q =>
  h H1 e _ fun p H2 np e2 h2 => ⟨p, ns, rfl, sq_of h2, by omega, fun a c na hc => ⟨a, _, c, rfl, upd_same, by omega, fun ms r hp hm _ nr => by
    rw [su_one h01 hp (fun k => (hm k).trans decide_eq_true_iff)]
    exact q r _ (fresh_back e2 (fresh_back (Ex.new na) nr)) ((e2.trans (Ex.new na)).trans (Ex.new nr)) upd_same⟩⟩
theorem el_suVA {ns : List Int} {p : Addr} (h : Ev te σ H (.ref p)) (hp0 : SqL K H p (ns.map V.int)) (h01 : ∀ k ∈ ns, k = 0 ∨ k = 1) (hz : ns.length ≤ 1000) : EvL (tCB (rSortedSetA w) (tCons (tCB (rSetI K w) (tCons te tNil)) tNil)) σ H ((su ns).map V.int) := fun H1 e Q q =>
  h H1 e _ fun H2 e2 => ⟨p, ns, rfl, ex_l (e.trans e2) hp0, by omega, fun a c na hc => ⟨a, _, c, rfl, upd_same, by omega, fun ms r hp hm _ nr => by
    rw [su_one h01 hp (fun k => (hm k).trans decide_eq_true_iff)]
    exact q r _ (fresh_back e2 (fresh_back (Ex.new na) nr)) ((e2.trans (Ex.new na)).trans (Ex.new nr)) upd_same⟩⟩
/-- sorted(set(xs)) of numbers from nought on: a list of the same numbers -/
theorem s_retN {ns : List Nat} {p : Addr} (h : Ev te σ H (.ref p)) (hp0 : SqL K H p (ns.map fun n : Nat => V.int (n : Int))) (hz : ns.length ≤ 1000)
    (k : ∀ (ms : List Nat) r H1, (∀ m, m ∈ ms ↔ m ∈ ns) → ms.length ≤ ns.length → H r = none → Ex H H1 → H1 r = some (.lst (ms.map fun n : Nat => V.int (n : Int))) → D.rt (.ref r) H1) : tRet (tCB (rSortedSetA w) (tCons (tCB (rSetI K w) (tCons te tNil)) tNil)) D σ H := by
  refine h H (Ex.refl _) _ fun H2 e2 => ⟨p, ns.map fun n : Nat => (n : Int), rfl, ?_, by rw [List.length_map]; omega, fun a c na hc => ⟨a, _, c, rfl, upd_same, by rw [List.length_map] at hc; omega, fun ms r hp hm hl nr => ?_⟩⟩
  · rw [List.map_map]
    exact ex_l e2 hp0
  · have hm2 : ∀ j : Int, j ∈ ms ↔ ∃ n ∈ ns, (n : Int) = j := fun j => by rw [hm j, decide_eq_true_iff, List.mem_map]
    have e3 : ms = (ms.map Int.toNat).map fun n : Nat => (n : Int) := by
      rw [List.map_map]
      refine (List.map_id ms).symm.trans (List.map_congr_left fun j hj => ?_)
      obtain ⟨n, _, rfl⟩ := (hm2 j).mp hj
      rfl
    rw [e3, List.map_map]
    refine k (ms.map Int.toNat) r _ (fun m => ?_) (by rw [List.length_map, hl]; rw [List.length_map] at hc; exact hc) (fresh_back e2 (fresh_back (Ex.new na) nr)) ((e2.trans (Ex.new na)).trans (Ex.new nr)) upd_same
    rw [List.mem_map]
    constructor
    · rintro ⟨j, hj, rfl⟩
      obtain ⟨n, hn, rfl⟩ := (hm2 j).mp hj
      exact hn
    · intro hm3
      exact ⟨(m : Int), (hm2 _).mpr ⟨m, hm3, rfl⟩, rfl⟩
end
theorem su_01 {ns : List Int} : su ns = [0, 1] ↔ 0 ∈ ns ∧ 1 ∈ ns := by
  unfold su
  by_cases h0 : (0 : Int) ∈ ns <;> by_cases h1 : (1 : Int) ∈ ns <;> simp [h0, h1]
theorem str_01 {i : Int} (h : i = 0 ∨ i = 1) : (i.natAbs.log2 < 1920) ∧ (V.str (Str.ofString (toString i)) = V.str (Tx [if i = 1 then 49 else 48])) := by
  rcases h with rfl | rfl
  · exact ⟨by decide, by decide +kernel⟩
  · exact ⟨by decide, by decide +kernel⟩
theorem low_of {l : List Nat} (h : Sg l) : LowS (Tx l) := low_Tx h.low
theorem g_name {i : Nat} {v : V} {σ : L2.St} {H : Hp} {R : L2.St → Hp → Prop} (h : R (σ.set i (some v)) H) : gName i v σ H R := h
theorem ev_callL2' {σ : L2.St} {H : Hp} {te tw : TE} {z : V} {sp : Sp} {dvs : List V} {E : XK} {w : V} {xs : List V} (hw : Ev tw σ H w) (h : EvL te σ H xs) (hs : ∀ p H1, H1 p = some (.lst xs) → Ex H H1 → SpV sp ([w, .ref p] ++ dvs) H1 z) : Ev (tCall sp dvs E (tCons tw (tCons te tNil))) σ H z := fun H1 e Q q =>
  hw H1 e _ fun H0 e0 => h H0 (e.trans e0) _ fun p H2 _ e2 h2 => hs p H2 h2 ((e.trans e0).trans e2) H2 (Ex.refl _) Q (fun H3 e3 => q H3 ((e0.trans e2).trans e3)) E
theorem ev_callL1 {σ : L2.St} {H : Hp} {te : TE} {z : V} {sp : Sp} {dvs : List V} {E : XK} {xs : List V} (h : EvL te σ H xs) (hs : ∀ p H1, H1 p = some (.lst xs) → Ex H H1 → SpV sp ([.ref p] ++ dvs) H1 z) : Ev (tCall sp dvs E (tCons te tNil)) σ H z := fun H1 e Q q =>
  h H1 e _ fun p H2 _ e2 h2 => hs p H2 h2 (e.trans e2) H2 (Ex.refl _) Q (fun H3 e3 => q H3 (e2.trans e3)) E
/-! ### and, or of numbers from nought on -/
theorem band (a b : Nat) : Builtin.bitAnd (a : Int) (b : Int) = ((a &&& b : Nat) : Int) := PySem.W.os_band a b
theorem bor (a b : Nat) : Builtin.bitOr (a : Int) (b : Int) = ((a ||| b : Nat) : Int) := bitOr_nn (Int.natCast_nonneg _) (Int.natCast_nonneg _)
theorem shr_bit (x k : Nat) (v : Bool) : decide (V.int (Builtin.bitAnd ((x : Int) / 2 ^ ((k : Int).toNat)) 1) = V.int (if v then 1 else 0)) = decide (x.testBit k = v) := by
  have e : (x : Int) / 2 ^ ((k : Int).toNat) = ((x / 2 ^ k : Nat) : Int) := by
    rw [Int.toNat_natCast]
    simp
  have e2 : Builtin.bitAnd ((x : Int) / 2 ^ ((k : Int).toNat)) 1 = ((x / 2 ^ k % 2 : Nat) : Int) := by
    rw [e]
    refine (band (x / 2 ^ k) 1).trans ?_
    rw [Nat.and_one_is_mod]
  rw [e2, Nat.testBit_eq_decide_div_mod_eq, decide_eq_decide]
  have h2 : x / 2 ^ k % 2 = 0 ∨ x / 2 ^ k % 2 = 1 := by omega
  rcases h2 with h | h <;> rw [h] <;> cases v <;> decide
end Dw

set_option Elab.async false
set_option linter.all false
set_option maxRecDepth 100000
namespace Dw
open PySem L2 Evl
theorem ix_listK {X : Cx} {K : PySem.W.Frag} (h : X.K = K) : IxR X (rIxL K) := h ▸ ix_list
theorem cr_sumTK {X : Cx} {K : PySem.W.Frag} (h : X.K = K) (calm : X.calm = true) : CallR X (.builtin "sum") (rSumT K) := h ▸ cr_sumT calm
theorem code_of {l : List Nat} {i c : Nat} (h : (Tx l).cps[i]? = some c) : l[i]? = some c := by
  rw [← h]
  simp [Tx]
theorem drop_at {l : List Nat} {i c : Nat} (h : l[i]? = some c) : l.drop i = c :: l.drop (i + 1) := by
  obtain ⟨hi, rfl⟩ := List.getElem?_eq_some_iff.mp h
  exact List.drop_eq_getElem_cons hi
theorem take_snoc {l : List Nat} {i c : Nat} (h : l[i]? = some c) : l.take (i + 1) = l.take i ++ [c] := by
  rw [List.take_add_one, h]
  rfl
/-- all but what stands at p and at r is as it was -/
def ExC (p r : Addr) (H H' : Hp) : Prop := ∀ b o, b ≠ p → b ≠ r → H b = some o → H' b = some o
theorem ExC.of {p r : Addr} {H H' : Hp} (e : Ex H H') : ExC p r H H' := fun b o _ _ h => e b o h
theorem ExC.ofB {p r : Addr} {H H' : Hp} (e : ExB p H H') : ExC p r H H' := fun b o n _ h => e b o n h
theorem ExC.trans {p r : Addr} {H H1 H2 : Hp} (a : ExC p r H H1) (b : ExC p r H1 H2) : ExC p r H H2 := fun c o n m h => b c o n m (a c o n m h)
theorem ExC.upd {p r : Addr} {H H' : Hp} {o : HO} (e : ExC p r H H') : ExC p r H (L2.upd H' r o) := fun b u n m h => by
  rw [upd_ne m]
  exact e b u n m h
theorem ExC.back {p r : Addr} {H0 H H' : Hp} (e0 : Ex H0 H) (hp : H0 p = none) (hr : H0 r = none) (e : ExC p r H H') : Ex H0 H' := fun b o h => e b o (ne_of_none h hp) (ne_of_none h hr) (e0 b o h)
def RoomAt (H : Hp) (r : Addr) : Prop := ∃ x : Int, H r = some (.lst [.int x])
theorem RoomAt.ex {H H' : Hp} {r : Addr} (h : RoomAt H r) (e : Ex H H') : RoomAt H' r := let ⟨x, h⟩ := h; ⟨x, e _ _ h⟩
theorem pot_room {H : Hp} {p r : Addr} (h : PotAt H p) (h2 : RoomAt H r) : r ≠ p := fun z => by
  obtain ⟨x, y, h1, _⟩ := h
  obtain ⟨u, h2⟩ := h2
  rw [z, h1] at h2
  cases h2
theorem RoomAt.exB {H H' : Hp} {p r : Addr} (h : RoomAt H r) (hp : PotAt H p) (e : ExB p H H') : RoomAt H' r :=
  let n := pot_room hp h
  let ⟨x, h⟩ := h
  ⟨x, e _ _ n h⟩
section
variable {K : PySem.W.Frag} {w : World} {σ : L2.St} {H H' : Hp} {ta tb tc te tx tl : TE} {t u : TT} {x y z v : V} {D : Ends}
/-- over a list of whatever -/
theorem el_lcG {α : Type} [Inhabited α] {xs : List α} {a : Addr} {j : Nat} {vs : List Nat} (f : α → V) (g : α → V) (h : Ev tl σ H (.ref a)) (hx : SqL K H a (xs.map f)) (hz : xs.length ≤ 40000) (hw : ∀ x, wipe ((wipe σ vs).set j (some x)) vs = wipe σ vs)
    (he : ∀ (n : α) H1, Ex H H1 → n ∈ xs → Ev te ((wipe σ vs).set j (some (f n))) H1 (g n)) : EvL (tLc (iList K tl) (gName j) tYes te vs) σ H (xs.map g) := by
  have hs : (xs.map f).length = xs.length := List.length_map _
  rw [← given_all xs default g, ← hs]
  refine el_lcL (fun _ => true) (fun i => g (xs.getD i default)) h hx (by omega) hw (fun i x H1 e hi => et_yes) (fun i x H1 e hi _ => ?_)
  obtain ⟨n, hn, rfl⟩ := map_at hi
  rw [show xs.getD i default = n by rw [List.getD_eq_getElem?_getD, hn]; rfl]
  exact he n H1 e (List.mem_of_getElem? hn)
theorem tCons_def {tr : TA} {Q : List V → Hp → Prop} : tCons te tr σ H Q = te σ H fun x H1 => tr σ H1 fun xs H2 => Q (x :: xs) H2 := rfl
theorem tLst_def {tr : TA} {Q : VK} : tLst tr σ H Q = tr σ H fun xs H1 => xs.length ≤ sizeLine ∧ ∀ p, H1 p = none → Q (.ref p) (L2.upd H1 p (.lst xs)) := rfl
theorem tOp_def {r : R2} {Q : VK} : tOp r ta tb σ H Q = ta σ H fun x H1 => tb σ H1 fun y H2 => r x y H2 Q := rfl
/-- [[0, 1], [int(sign == '1')]][int(sign in '01')] -/
theorem el_ways {c i : Nat} (hi : σ[i]? = some (some (.str (Tx [c])))) : EvL (tOp (rIxL K) (tLst (tCons (tLst (tCons (tC (.int 0)) (tCons (tC (.int 1)) tNil))) (tCons (tLst (tCons (tCB rInt1 (tCons (tOp rEq (tVar i) (tC (.str (Str.ofString "1")))) tNil)) tNil)) tNil)))
    (tCB rInt1 (tCons (tOp rInS (tVar i) (tC (.str (Str.ofString "01")))) tNil))) σ H ((ways c).map V.int) := fun H0 e0 Q q => by
  have A1 : EvL (tLst (tCons (tC (.int 0)) (tCons (tC (.int 1)) tNil))) σ H0 [V.int 0, .int 1] := el_lst (ea_cons ev_c (ea_cons ev_c ea_nil)) (by simp)
  rw [tOp_def, tLst_def, tCons_def]
  refine A1 H0 (Ex.refl _) _ fun p1 H1 n1 e1 h1 => ?_
  have A2 : EvL (tLst (tCons (tCB rInt1 (tCons (tOp rEq (tVar i) (tC (.str (Str.ofString "1")))) tNil)) tNil)) σ H1 [V.int (if decide ([c] = [49]) = true then 1 else 0)] := el_lst (ea_cons (ev_int1 (ev_eqT (ev_var hi) ec_1)) ea_nil) (by simp)
  rw [tCons_def]
  refine A2 H1 (Ex.refl _) _ fun p2 H2 n2 e2 h2 => ?_
  refine ⟨by show 2 ≤ sizeLine; decide, fun p3 n3 => ?_⟩
  have e3 := Ex.new (o := .lst [V.ref p1, .ref p2]) n3
  have h3 := upd_same (H := H2) (a := p3) (o := .lst [V.ref p1, .ref p2])
  generalize L2.upd H2 p3 (.lst [V.ref p1, .ref p2]) = H3 at e3 h3 ⊢
  have A4 : Ev (tCB rInt1 (tCons (tOp rInS (tVar i) (tC (.str (Str.ofString "01")))) tNil)) σ H3 (.int (if decide (c ∈ [48, 49]) = true then 1 else 0)) := ev_int1 (ev_inT (ev_var hi) ec_01)
  refine A4 H3 (Ex.refl _) _ fun H4 e4 => ?_
  have x1 : Ex H0 H4 := ((e1.trans e2).trans e3).trans e4
  by_cases h : c ∈ [48, 49]
  · refine ⟨p3, _, 1, _, rfl, by rw [if_pos (decide_eq_true h)], sq_of (e4 _ _ h3), atI_nat (j := 1) rfl, q p2 H4 (fresh_back e1 n2) x1 ?_⟩
    unfold ways
    rw [if_pos h, (e3.trans e4) _ _ h2]
    simp
  · refine ⟨p3, _, 0, _, rfl, by rw [if_neg (by rw [decide_eq_false h]; decide)], sq_of (e4 _ _ h3), atI_nat (j := 0) rfl, q p1 H4 n1 x1 ?_⟩
    unfold ways
    rw [if_neg h, ((e2.trans e3).trans e4) _ _ h1]
    rfl
end
section
variable {K : PySem.W.Frag} {σ : L2.St} {H : Hp} {D : Ends} {tu tz : TS}
/-- for a, b in zip(x, y): .., two texts of one length -/
theorem q_forZ {la lb : List Nat} {j1 j2 : Nat} {tA : TA} (h : EvA tA σ H [.str (Tx la), .str (Tx lb)]) (hl : la.length = lb.length) (Pv : Nat → L2.St → Hp → Prop) (h0 : ∀ H1, Ex H H1 → Pv 0 σ H1)
    (hs : ∀ i c d σ' H', la[i]? = some c → lb[i]? = some d → Pv i σ' H' → ∀ H2, Ex H' H2 → tu { D with nx := Pv (i + 1), ct := Pv (i + 1), bk := tz D } ((σ'.set j1 (some (.str (Tx [c])))).set j2 (some (.str (Tx [d])))) H2)
    (hd : ∀ σ' H', Pv la.length σ' H' → tz D σ' H') : tSeq (tFor (iZipS tA) (gTup K 2 (gCons (gName j1) (gCons (gName j2) gNil))) tu) tz D σ H := by
  have hn : min (Tx la).cps.size (Tx lb).cps.size = la.length := by
    have h1 : (Tx la).cps.size = la.length := Tx_len _
    have h2 : (Tx lb).cps.size = lb.length := Tx_len _
    omega
  refine h H (Ex.refl _) _ fun H1 e1 => ⟨Tx la, Tx lb, rfl, for_it (D := { D with nx := tz D }) walk_zipS Pv (h0 H1 e1) (fun _ _ _ _ _ => True.intro) (fun i x σ' H2 H3 hi hv y => ?_) (fun σ' H2 hv => ?_)⟩
  · obtain ⟨T, c, d, rfl, nT, rfl, hc, hd⟩ := y
    refine ⟨T, _, rfl, st_of upd_same, rfl, _, _, rfl, _, _, rfl, rfl, ?_⟩
    exact hs i c d σ' H2 (code_of hc) (code_of hd) hv _ (Ex.new nT)
  · rw [hn] at hv
    exact hd σ' H2 hv
/-- for k in range(n - 1, -1, -1): .. -/
theorem q_forDown {n j : Nat} {tA : TA} (h : EvA tA σ H [.int ((n : Int) - 1), .int (-1), .int (-1)]) (hz : n ≤ 100000) (Pv : Nat → L2.St → Hp → Prop) (h0 : ∀ H1, Ex H H1 → Pv 0 σ H1)
    (hs : ∀ i σ' H', i < n → Pv i σ' H' → tu { D with nx := Pv (i + 1), ct := Pv (i + 1), bk := tz D } (σ'.set j (some (.int ((n - 1 - i : Nat) : Int)))) H')
    (hd : ∀ σ' H', Pv n σ' H' → tz D σ' H') : tSeq (tFor (iRng3 tA) (gName j) tu) tz D σ H := by
  have hn : ((n : Int) - 1 - (-1)).toNat = n := by omega
  refine h H (Ex.refl _) _ fun H1 e1 => ⟨(n : Int) - 1, -1, -1, ((n : Int) - 1 - (-1)).toNat, rfl, RgC.neg (by omega) (by omega) (by omega) (by omega), for_it (D := { D with nx := tz D }) walk_rangeC Pv (h0 H1 e1) (fun _ _ _ _ _ => True.intro) (fun i x σ' H2 H3 hi hv y => ?_) (fun σ' H2 hv => ?_)⟩
  · obtain ⟨rfl, hx⟩ := y
    rw [hn] at hi
    have hx2 : x = .int ((n - 1 - i : Nat) : Int) := by
      rw [hx]
      show V.int ((n : Int) - 1 + (i : Int) * -1) = _
      congr 1
      omega
    subst hx2
    exact hs i σ' H3 hi hv
  · rw [hn] at hv
    exact hd σ' H2 hv
end
theorem ways_at (c : Nat) : atI ((ways c).map V.int) 0 = some (.int (((wN c).getD 0 0 : Nat) : Int)) ∧ atI ((ways c).map V.int) (-1) = some (.int (((wN c).getD ((wN c).length - 1) 0 : Nat) : Int)) := by
  unfold ways wN
  by_cases h : c ∈ [48, 49]
  · rw [if_pos h, if_pos h]
    by_cases h2 : c = 49
    · rw [if_pos h2, if_pos h2]
      exact ⟨rfl, rfl⟩
    · rw [if_neg h2, if_neg h2]
      exact ⟨rfl, rfl⟩
  · rw [if_neg h, if_neg h]
    exact ⟨rfl, rfl⟩
theorem ways_len (c : Nat) : (ways c).length ≤ 2 := by
  unfold ways
  split <;> simp
theorem count_ok : ∀ a ∈ k3, ∀ b ∈ k3, ∀ c ∈ k3, Txt.count (Tx ([a] ++ [b] ++ [c])) (Tx [48]) = cnt 48 a b c ∧ Txt.count (Tx ([a] ++ [b] ++ [c])) (Tx [49]) = cnt 49 a b c := by decide +kernel
theorem most_k3 (c d k : Nat) : mostS c d k ∈ k3 := by
  unfold mostS
  split
  · decide
  · split <;> decide
theorem any_k3 (l : List Nat) : anyS l ∈ k3 := by
  unfold anyS
  split
  · decide
  · split <;> decide
/-! ### words -/
def wd : Nat → Str
  | 0 => "plus"
  | 1 => "same"
  | _ => "less"
theorem wd_plus : ∀ w : Fin 3, decide (V.str (wd w.val) = V.str (Str.ofString "plus")) = decide (w.val = 0) := by decide +kernel
theorem wd_same : ∀ w : Fin 3, decide (V.str (wd w.val) = V.str (Str.ofString "same")) = decide (w.val = 1) := by decide +kernel
theorem wd_less : ∀ w : Fin 3, decide (V.str (wd w.val) = V.str (Str.ofString "less")) = decide (w.val = 2) := by decide +kernel
theorem no_part : ∀ w : Fin 3, wd w.val ≠ Str.ofString "part" := by decide +kernel
theorem sign_end : ∀ w : Fin 3, ∀ k ∈ k3, (∀ x ∈ (ways k).map (fun c : Int => if w.val = 1 then 1 - c else c), x = 0 ∨ x = 1) ∧ 0 < ((ways k).map (fun c : Int => if w.val = 1 then 1 - c else c)).length ∧ signL ((ways k).map (fun c : Int => if w.val = 1 then 1 - c else c)) = if w.val = 1 then notS k else k := by decide +kernel
theorem e_xz : (Str.ofString "xz") = Tx [120, 122] := by decide +kernel
theorem e_sgn8 : (Str.ofString "01xz01xz").cps.toList = [48, 49, 120, 122, 48, 49, 120, 122] := by decide +kernel
theorem e_01 : (Str.ofString "01").cps.toList = [48, 49] := by decide +kernel
theorem ec_xz {σ : L2.St} {H : Hp} : Ev (tC (.str (Str.ofString "xz"))) σ H (.str (Tx [120, 122])) := by rw [e_xz]; exact ev_c
theorem triL_01 : ∀ c ∈ sgn, ∀ d ∈ sgn, ∀ k ∈ k3, ∀ t ∈ triL c d (ways k), (t.1 = 0 ∨ t.1 = 1) ∧ (t.2.1 = 0 ∨ t.2.1 = 1) ∧ (t.2.2 = 0 ∨ t.2.2 = 1) := by decide +kernel
theorem triL_len : ∀ c ∈ sgn, ∀ d ∈ sgn, ∀ k ∈ k3, (triL c d (ways k)).length ≤ 8 := by decide +kernel
theorem sum3 (t : T3) : ([t.1, t.2.1, t.2.2] : List Int).sum = t.1 + t.2.1 + t.2.2 := by
  simp
  omega
theorem tri_map (w c d k : Nat) : (tri w c d k).map V.int = (triL c d (ways k)).map fun t => V.int (fW w t.1 t.2.1 t.2.2) := by
  unfold tri
  rw [List.map_map]
  rfl
theorem pairs_step (w n m : Nat) (xs ys : List Nat) : pairs w n (xs ++ [m]) ys = pairs w n xs ys ++ ys.map fun y => gW w n m y := by
  unfold pairs
  rw [List.flatMap_append]
  simp
theorem pairs_len (w n : Nat) (xs ys : List Nat) : (pairs w n xs ys).length = xs.length * ys.length := by
  unfold pairs
  induction xs with
  | nil => simp
  | cons x xs ih =>
    rw [List.flatMap_cons, List.length_append, ih, List.length_map, List.length_cons, Nat.succ_mul]
    omega
end Dw

set_option Elab.async false
set_option linter.all false
set_option maxRecDepth 100000
namespace Dw
open PySem L2 Evl
/-! ### terms, as they lie in the heap -/
inductive W1 where | not | any | all
inductive W2 where | and | or | xor | plus | same | less | join
def W1.s : W1 → Str
  | .not => "not"
  | .any => "any"
  | .all => "all"
def W2.s : W2 → Str
  | .and => "and"
  | .or => "or"
  | .xor => "xor"
  | .plus => "plus"
  | .same => "same"
  | .less => "less"
  | .join => "join"
inductive Tm where
  | is (l : List Nat)
  | of (x : Str)
  | un (w : W1) (a : Tm)
  | bi (w : W2) (a b : Tm)
  | pick (c a b : Tm)
  | part (a : Tm) (hi lo : Nat)
def TmAt (H : Hp) : Tm → V → Prop
  | .is l, v => ∃ a, v = .ref a ∧ H a = some (.tup [.str "is", .str (Tx l)])
  | .of x, v => ∃ a, v = .ref a ∧ H a = some (.tup [.str "of", .str x])
  | .un w s, v => ∃ a u, v = .ref a ∧ H a = some (.tup [.str w.s, u]) ∧ TmAt H s u
  | .bi w s t, v => ∃ a u u2, v = .ref a ∧ H a = some (.tup [.str w.s, u, u2]) ∧ TmAt H s u ∧ TmAt H t u2
  | .pick c s t, v => ∃ a u u1 u2, v = .ref a ∧ H a = some (.tup [.str "pick", u, u1, u2]) ∧ TmAt H c u ∧ TmAt H s u1 ∧ TmAt H t u2
  | .part s hi lo, v => ∃ a u, v = .ref a ∧ H a = some (.tup [.str "part", u, .int (hi : Int), .int (lo : Int)]) ∧ TmAt H s u
/-- tuples stay -/
def ExT (H H' : Hp) : Prop := ∀ a xs, H a = some (.tup xs) → H' a = some (.tup xs)
theorem ExT.refl (H : Hp) : ExT H H := fun _ _ h => h
theorem ExT.of {H H' : Hp} (e : Ex H H') : ExT H H' := fun a xs h => e a _ h
theorem ExT.trans {H H1 H2 : Hp} (a : ExT H H1) (b : ExT H1 H2) : ExT H H2 := fun x o h => b x o (a x o h)
theorem ExT.ofB {H H' : Hp} {p : Addr} (hp : PotAt H p) (e : ExB p H H') : ExT H H' := fun a xs h => e a _ (fun z => by
  obtain ⟨x, y, h1, _⟩ := hp
  rw [z, h1] at h
  cases h) h
theorem ExT.ofC {H H' : Hp} {p r : Addr} (hp : PotAt H p) (hr : RoomAt H r) (e : ExC p r H H') : ExT H H' := fun a xs h => e a _ (fun z => by
  obtain ⟨x, y, h1, _⟩ := hp
  rw [z, h1] at h
  cases h) (fun z => by
  obtain ⟨x, h1⟩ := hr
  rw [z, h1] at h
  cases h) h
theorem ExT.upd {H H' : Hp} {a : Addr} {xs ys : List V} (e : ExT H H') (h : H' a = some (.lst xs)) : ExT H (L2.upd H' a (.lst ys)) := fun b zs hb => by
  have h2 := e b zs hb
  have n : b ≠ a := fun z => by
    rw [z, h] at h2
    cases h2
  rw [upd_ne n]
  exact h2
theorem TmAt.mono {H H' : Hp} (e : ExT H H') : ∀ {t : Tm} {v : V}, TmAt H t v → TmAt H' t v
  | .is l, _, ⟨a, h1, h2⟩ => ⟨a, h1, e _ _ h2⟩
  | .of x, _, ⟨a, h1, h2⟩ => ⟨a, h1, e _ _ h2⟩
  | .un w s, _, ⟨a, u, h1, h2, h3⟩ => ⟨a, u, h1, e _ _ h2, TmAt.mono e h3⟩
  | .bi w s t, _, ⟨a, u, u2, h1, h2, h3, h4⟩ => ⟨a, u, u2, h1, e _ _ h2, TmAt.mono e h3, TmAt.mono e h4⟩
  | .pick c s t, _, ⟨a, u, u1, u2, h1, h2, h3, h4, h5⟩ => ⟨a, u, u1, u2, h1, e _ _ h2, TmAt.mono e h3, TmAt.mono e h4, TmAt.mono e h5⟩
  | .part s hi lo, _, ⟨a, u, h1, h2, h3⟩ => ⟨a, u, h1, e _ _ h2, TmAt.mono e h3⟩
theorem TmAt.ex {H H' : Hp} {t : Tm} {v : V} (h : TmAt H t v) (e : Ex H H') : TmAt H' t v := TmAt.mono (ExT.of e) h
def dep : Tm → Nat
  | .is _ => 1
  | .of _ => 1
  | .un _ a => dep a + 1
  | .bi _ a b => max (dep a) (dep b) + 1
  | .pick c a b => max (dep c) (max (dep a) (dep b)) + 1
  | .part a _ _ => dep a + 1
def wt : Tm → Nat
  | .is _ => 1
  | .of _ => 1
  | .un _ a => wt a + 1
  | .bi _ a b => wt a + wt b + 1
  | .pick c a b => wt c + wt a + wt b + 1
  | .part a _ _ => wt a + 1
/-- it fits, and has the width n -/
def Wd (ws : List (Str × Nat)) : Tm → Nat → Prop
  | .is l, n => Sx l ∧ l.length = n ∧ 1 ≤ n ∧ n ≤ 8
  | .of x, n => (x, n) ∈ ws
  | .un .not a, n => Wd ws a n
  | .un .any a, n => n = 1 ∧ ∃ m, Wd ws a m
  | .un .all a, n => n = 1 ∧ ∃ m, Wd ws a m
  | .bi .same a b, n => n = 1 ∧ ∃ m, Wd ws a m ∧ Wd ws b m
  | .bi .less a b, n => n = 1 ∧ ∃ m, Wd ws a m ∧ Wd ws b m
  | .bi .join a b, n => n ≤ 8 ∧ ∃ i j, Wd ws a i ∧ Wd ws b j ∧ i + j = n
  | .bi _ a b, n => Wd ws a n ∧ Wd ws b n
  | .pick c a b, n => Wd ws c 1 ∧ Wd ws a n ∧ Wd ws b n
  | .part a hi lo, n => ∃ m, Wd ws a m ∧ lo ≤ hi ∧ hi < m ∧ n = hi - lo + 1
def WsOk (ws : List (Str × Nat)) : Prop := (ws.map (·.1)).Nodup ∧ ∀ p ∈ ws, 1 ≤ p.2 ∧ p.2 ≤ 8 ∧ LowS p.1
theorem Wd.bound {ws : List (Str × Nat)} (h : WsOk ws) : ∀ {t : Tm} {n : Nat}, Wd ws t n → 1 ≤ n ∧ n ≤ 8
  | .is l, _, ⟨_, _, h1, h2⟩ => ⟨h1, h2⟩
  | .of x, _, hx => ⟨(h.2 _ hx).1, (h.2 _ hx).2.1⟩
  | .un .not a, _, ha => Wd.bound h (t := a) ha
  | .un .any a, _, ⟨rfl, _⟩ => ⟨by omega, by omega⟩
  | .un .all a, _, ⟨rfl, _⟩ => ⟨by omega, by omega⟩
  | .bi .same a b, _, ⟨rfl, _⟩ => ⟨by omega, by omega⟩
  | .bi .less a b, _, ⟨rfl, _⟩ => ⟨by omega, by omega⟩
  | .bi .join a b, _, ⟨h8, i, j, ha, hb, hij⟩ => ⟨by have := Wd.bound h (t := a) ha; omega, h8⟩
  | .bi .and a b, _, hab => Wd.bound h (t := a) hab.1
  | .bi .or a b, _, hab => Wd.bound h (t := a) hab.1
  | .bi .xor a b, _, hab => Wd.bound h (t := a) hab.1
  | .bi .plus a b, _, hab => Wd.bound h (t := a) hab.1
  | .pick c a b, _, hab => Wd.bound h (t := a) hab.2.1
  | .part a hi lo, _, ⟨m, ha, h1, h2, h3⟩ => by
    have := Wd.bound h (t := a) ha
    omega
/-! ### values -/
def andS (c d : Nat) : Nat := if c = 48 ∨ d = 48 then 48 else if c = 49 ∧ d = 49 then 49 else 120
def un1 : W1 → List Nat → List Nat
  | .not, l => l.map notS
  | .any, l => [anyS l]
  | .all, l => [allS l]
def bi2 : W2 → List Nat → List Nat → List Nat
  | .and, a, b => List.zipWith andS a b
  | .or, a, b => List.zipWith orS a b
  | .xor, a, b => List.zipWith xorS a b
  | .plus, a, b => plusS a b
  | .same, a, b => [sameS a b]
  | .less, a, b => [lessS a b]
  | .join, a, b => a ++ b
def val (E : Str → List Nat) : Tm → List Nat
  | .is l => l
  | .of x => (E x).map rd
  | .un w a => un1 w (val E a)
  | .bi w a b => bi2 w (val E a) (val E b)
  | .pick c a b => pickS ((val E c).getD 0 0) (val E a) (val E b)
  | .part a hi lo => partS (val E a) hi lo
/-- what the names have -/
def EnvOk (ws : List (Str × Nat)) (E : Str → List Nat) : Prop := ∀ p ∈ ws, Sg (E p.1) ∧ (E p.1).length = p.2
theorem rd_id {l : List Nat} (h : Sx l) : l.map rd = l := by
  have : ∀ c ∈ l, rd c = c := fun c hc => by
    have h3 := h c hc
    simp only [List.mem_cons, List.not_mem_nil, or_false] at h3
    rcases h3 with rfl | rfl | rfl <;> rfl
  exact (List.map_congr_left this).trans (List.map_id _)
theorem sx_sg {l : List Nat} (h : Sx l) : Sg l := fun c hc => by
  have h3 := h c hc
  simp only [List.mem_cons, List.not_mem_nil, or_false] at h3
  rcases h3 with rfl | rfl | rfl <;> decide
theorem sx_one {c : Nat} (h : c ∈ k3) : Sx [c] := fun d hd => by
  rw [List.mem_singleton.mp hd]
  exact h
theorem sx_zip {f : Nat → Nat → Nat} (hf : ∀ c d, f c d ∈ k3) : ∀ {a b : List Nat}, Sx (List.zipWith f a b)
  | [], _ => by
    intro c hc
    simp at hc
  | _ :: _, [] => by
    intro c hc
    simp at hc
  | x :: a, y :: b => fun c hc => by
    rw [List.zipWith_cons_cons] at hc
    rcases List.mem_cons.mp hc with rfl | h
    · exact hf x y
    · exact sx_zip hf c h
theorem and_k3 (c d : Nat) : andS c d ∈ k3 := by
  unfold andS
  split
  · decide
  · split <;> decide
theorem or_k3 (c d : Nat) : orS c d ∈ k3 := by
  unfold orS
  split
  · decide
  · split <;> decide
theorem xor_k3' (c d : Nat) : xorS c d ∈ k3 := by
  unfold xorS
  split
  · decide
  · split <;> decide
theorem not_k3 (c : Nat) : notS c ∈ k3 := by
  unfold notS
  split
  · decide
  · split <;> decide
theorem all_k3 (l : List Nat) : allS l ∈ k3 := by
  unfold allS
  split
  · decide
  · split <;> decide
theorem mix_k3 (c d : Nat) : mixS c d ∈ k3 := by
  unfold mixS
  split
  · rename_i h
    have h2 := h.2
    simp only [List.mem_cons, List.not_mem_nil, or_false] at h2
    rcases h2 with h2 | h2 <;> rw [h2] <;> decide
  · decide
theorem plusL_ok : ∀ (a b : List Nat) (k : Nat), a.length = b.length → Sx (plusL k a b) ∧ (plusL k a b).length = a.length
  | [], [], k, _ => ⟨fun c hc => by simp [plusL] at hc, rfl⟩
  | [], _ :: _, _, h => by simp at h
  | _ :: _, [], _, h => by simp at h
  | x :: a, y :: b, k, h => by
    have ih := plusL_ok a b (mostS x y k) (by simpa using h)
    unfold plusL
    refine ⟨fun c hc => ?_, by simp [ih.2]⟩
    rcases List.mem_cons.mp hc with rfl | h2
    · exact xor_k3' _ _
    · exact ih.1 c h2
theorem plus_ok {a b : List Nat} (h : a.length = b.length) : Sx (plusS a b) ∧ (plusS a b).length = a.length := by
  have := plusL_ok a.reverse b.reverse 48 (by simpa using h)
  unfold plusS
  refine ⟨fun c hc => this.1 c (List.mem_reverse.mp hc), by rw [List.length_reverse, this.2, List.length_reverse]⟩
theorem part_len {l : List Nat} {hi lo : Nat} (h1 : lo ≤ hi) (h2 : hi < l.length) : (partS l hi lo).length = hi - lo + 1 := by
  unfold partS
  simp
  omega
theorem part_sx {l : List Nat} {hi lo : Nat} (h : Sx l) : Sx (partS l hi lo) := fun c hc => h c (List.mem_of_mem_drop (List.mem_of_mem_take hc))
theorem val_ok {ws : List (Str × Nat)} {E : Str → List Nat} (he : EnvOk ws E) : ∀ {t : Tm} {n : Nat}, Wd ws t n → Sx (val E t) ∧ (val E t).length = n
  | .is l, _, ⟨h1, h2, _, _⟩ => ⟨h1, h2⟩
  | .of x, n, hx => ⟨rd_sx (he (x, n) hx).1, by show ((E x).map rd).length = n; rw [List.length_map]; exact (he (x, n) hx).2⟩
  | .un .not a, _, ha => by
    have := val_ok he (t := a) ha
    refine ⟨fun c hc => ?_, by show ((val E a).map notS).length = _; rw [List.length_map]; exact this.2⟩
    obtain ⟨d, _, rfl⟩ := List.mem_map.mp hc
    exact not_k3 d
  | .un .any a, _, ⟨h1, _⟩ => ⟨sx_one (any_k3 _), by rw [h1]; rfl⟩
  | .un .all a, _, ⟨h1, _⟩ => ⟨sx_one (all_k3 _), by rw [h1]; rfl⟩
  | .bi .same a b, _, ⟨h1, _⟩ => ⟨sx_one (not_k3 _), by rw [h1]; rfl⟩
  | .bi .less a b, _, ⟨h1, _⟩ => ⟨sx_one (less_k3 _ _), by rw [h1]; rfl⟩
  | .bi .join a b, _, ⟨h8, i, j, ha, hb, hij⟩ => by
    have h1 := val_ok he (t := a) ha
    have h2 := val_ok he (t := b) hb
    refine ⟨fun c hc => ?_, by show (val E a ++ val E b).length = _; rw [List.length_append, h1.2, h2.2, hij]⟩
    rcases List.mem_append.mp hc with h | h
    · exact h1.1 c h
    · exact h2.1 c h
  | .bi .and a b, _, hab => ⟨sx_zip and_k3, by show (List.zipWith andS (val E a) (val E b)).length = _; rw [List.length_zipWith, (val_ok he hab.1).2, (val_ok he hab.2).2, Nat.min_self]⟩
  | .bi .or a b, _, hab => ⟨sx_zip or_k3, by show (List.zipWith orS (val E a) (val E b)).length = _; rw [List.length_zipWith, (val_ok he hab.1).2, (val_ok he hab.2).2, Nat.min_self]⟩
  | .bi .xor a b, _, hab => ⟨sx_zip xor_k3', by show (List.zipWith xorS (val E a) (val E b)).length = _; rw [List.length_zipWith, (val_ok he hab.1).2, (val_ok he hab.2).2, Nat.min_self]⟩
  | .bi .plus a b, _, hab => by
    have h1 := val_ok he (t := a) hab.1
    have h2 := val_ok he (t := b) hab.2
    have h3 := plus_ok (a := val E a) (b := val E b) (by rw [h1.2, h2.2])
    exact ⟨h3.1, h3.2.trans h1.2⟩
  | .pick c a b, n, hab => by
    have h1 := val_ok he (t := a) hab.2.1
    have h2 := val_ok he (t := b) hab.2.2
    show Sx (pickS _ (val E a) (val E b)) ∧ (pickS _ (val E a) (val E b)).length = n
    unfold pickS
    split
    · exact ⟨sx_zip mix_k3, by rw [List.length_zipWith, h1.2, h2.2, Nat.min_self]⟩
    · split
      · exact h1
      · exact h2
  | .part a hi lo, _, ⟨m, ha, h1, h2, h3⟩ => by
    have h := val_ok he (t := a) ha
    exact ⟨part_sx h.1, by rw [h3]; exact part_len h1 (by rw [h.2]; exact h2)⟩
/-- what an operator makes of values without z -/
inductive Op : Str → List (List Nat) → Int → Int → List Nat → Prop where
  | un (w : W1) (l : List Nat) (hi lo : Int) (h0 : 1 ≤ l.length) : Op w.s [l] hi lo (un1 w l)
  | bi (w : W2) (a b : List Nat) (hi lo : Int) (h0 : 1 ≤ a.length) (h : a.length = b.length ∨ w = .join ∧ a.length + b.length ≤ 8) : Op w.s [a, b] hi lo (bi2 w a b)
  | pick (c : Nat) (a b : List Nat) (hi lo : Int) (h : a.length = b.length) : Op "pick" [[c], a, b] hi lo (pickS c a b)
  | part (l : List Nat) (hi lo : Nat) (h1 : lo ≤ hi) (h2 : hi < l.length) : Op "part" [l] (hi : Int) (lo : Int) (partS l hi lo)
def wordOf : Tm → Str
  | .is _ => "is"
  | .of _ => "of"
  | .un w _ => w.s
  | .bi w _ _ => w.s
  | .pick _ _ _ => "pick"
  | .part _ _ _ => "part"
def kids : Tm → List Tm
  | .is _ => []
  | .of _ => []
  | .un _ a => [a]
  | .bi _ a b => [a, b]
  | .pick c a b => [c, a, b]
  | .part a _ _ => [a]
def ends : Tm → List V
  | .part _ hi lo => [.int (hi : Int), .int (lo : Int)]
  | _ => []
def hiOf : Tm → Int
  | .part _ hi _ => (hi : Int)
  | _ => 0
def loOf : Tm → Int
  | .part _ _ lo => (lo : Int)
  | _ => 0
def leafy : Tm → Bool
  | .is _ => true
  | .of _ => true
  | _ => false
inductive All2 {α β : Type} (R : α → β → Prop) : List α → List β → Prop where
  | nil : All2 R [] []
  | cons {a : α} {b : β} {as : List α} {bs : List β} : R a b → All2 R as bs → All2 R (a :: as) (b :: bs)
theorem All2.len {α β : Type} {R : α → β → Prop} {as : List α} {bs : List β} (h : All2 R as bs) : as.length = bs.length := by
  induction h with
  | nil => rfl
  | cons _ _ ih => simp [ih]
theorem All2.at {α β : Type} {R : α → β → Prop} {as : List α} {bs : List β} (h : All2 R as bs) : ∀ {i : Nat} {b : β}, bs[i]? = some b → ∃ a, as[i]? = some a ∧ R a b := by
  induction h with
  | nil => intro i b hb; simp at hb
  | cons r _ ih =>
    intro i b hb
    match i with
    | 0 => simp at hb; exact ⟨_, rfl, hb ▸ r⟩
    | i + 1 => simp at hb; simpa using ih hb
theorem All2.map {α β : Type} {R S : α → β → Prop} {as : List α} {bs : List β} (h : All2 R as bs) (f : ∀ a b, R a b → S a b) : All2 S as bs := by
  induction h with
  | nil => exact .nil
  | cons r _ ih => exact .cons (f _ _ r) ih
/-- an operator's tuple by its word, the terms within, what is behind -/
theorem TmAt.open {H : Hp} : ∀ {t : Tm} {v : V}, TmAt H t v → leafy t = false → ∃ a us, v = .ref a ∧ H a = some (.tup (.str (wordOf t) :: (us ++ ends t))) ∧ All2 (TmAt H) (kids t) us
  | .un w s, _, ⟨a, u, h1, h2, h3⟩, _ => ⟨a, [u], h1, h2, .cons h3 .nil⟩
  | .bi w s t, _, ⟨a, u, u2, h1, h2, h3, h4⟩, _ => ⟨a, [u, u2], h1, h2, .cons h3 (.cons h4 .nil)⟩
  | .pick c s t, _, ⟨a, u, u1, u2, h1, h2, h3, h4, h5⟩, _ => ⟨a, [u, u1, u2], h1, h2, .cons h3 (.cons h4 (.cons h5 .nil))⟩
  | .part s hi lo, _, ⟨a, u, h1, h2, h3⟩, _ => ⟨a, [u], h1, h2, .cons h3 .nil⟩
  | .is _, _, _, h => by cases h
  | .of _, _, _, h => by cases h
theorem Wd.kids {ws : List (Str × Nat)} (h : WsOk ws) : ∀ {t : Tm} {n : Nat}, Wd ws t n → ∀ s ∈ kids t, ∃ m, Wd ws s m
  | .is _, _, _, s, hs => by cases hs
  | .of _, _, _, s, hs => by cases hs
  | .un .not a, _, ha, s, hs => by rw [List.mem_singleton.mp hs]; exact ⟨_, ha⟩
  | .un .any a, _, ⟨_, m, ha⟩, s, hs => by rw [List.mem_singleton.mp hs]; exact ⟨m, ha⟩
  | .un .all a, _, ⟨_, m, ha⟩, s, hs => by rw [List.mem_singleton.mp hs]; exact ⟨m, ha⟩
  | .bi .same a b, _, ⟨_, m, ha, hb⟩, s, hs => by
    simp only [Dw.kids, List.mem_cons, List.not_mem_nil, or_false] at hs
    rcases hs with rfl | rfl
    · exact ⟨m, ha⟩
    · exact ⟨m, hb⟩
  | .bi .less a b, _, ⟨_, m, ha, hb⟩, s, hs => by
    simp only [Dw.kids, List.mem_cons, List.not_mem_nil, or_false] at hs
    rcases hs with rfl | rfl
    · exact ⟨m, ha⟩
    · exact ⟨m, hb⟩
  | .bi .join a b, _, ⟨_, i, j, ha, hb, _⟩, s, hs => by
    simp only [Dw.kids, List.mem_cons, List.not_mem_nil, or_false] at hs
    rcases hs with rfl | rfl
    · exact ⟨i, ha⟩
    · exact ⟨j, hb⟩
  | .bi .and a b, _, hab, s, hs => by
    simp only [Dw.kids, List.mem_cons, List.not_mem_nil, or_false] at hs
    rcases hs with rfl | rfl
    · exact ⟨_, hab.1⟩
    · exact ⟨_, hab.2⟩
  | .bi .or a b, _, hab, s, hs => by
    simp only [Dw.kids, List.mem_cons, List.not_mem_nil, or_false] at hs
    rcases hs with rfl | rfl
    · exact ⟨_, hab.1⟩
    · exact ⟨_, hab.2⟩
  | .bi .xor a b, _, hab, s, hs => by
    simp only [Dw.kids, List.mem_cons, List.not_mem_nil, or_false] at hs
    rcases hs with rfl | rfl
    · exact ⟨_, hab.1⟩
    · exact ⟨_, hab.2⟩
  | .bi .plus a b, _, hab, s, hs => by
    simp only [Dw.kids, List.mem_cons, List.not_mem_nil, or_false] at hs
    rcases hs with rfl | rfl
    · exact ⟨_, hab.1⟩
    · exact ⟨_, hab.2⟩
  | .pick c a b, _, hab, s, hs => by
    simp only [Dw.kids, List.mem_cons, List.not_mem_nil, or_false] at hs
    rcases hs with rfl | rfl | rfl
    · exact ⟨_, hab.1⟩
    · exact ⟨_, hab.2.1⟩
    · exact ⟨_, hab.2.2⟩
  | .part a hi lo, _, ⟨m, ha, _⟩, s, hs => by rw [List.mem_singleton.mp hs]; exact ⟨m, ha⟩
theorem dep_kids : ∀ {t s : Tm}, s ∈ kids t → dep s < dep t
  | .is _, s, hs => by cases hs
  | .of _, s, hs => by cases hs
  | .un _ a, s, hs => by rw [List.mem_singleton.mp hs]; exact Nat.lt_succ_self _
  | .bi _ a b, s, hs => by
    simp only [Dw.kids, List.mem_cons, List.not_mem_nil, or_false] at hs
    simp only [dep]
    rcases hs with rfl | rfl <;> omega
  | .pick c a b, s, hs => by
    simp only [Dw.kids, List.mem_cons, List.not_mem_nil, or_false] at hs
    simp only [dep]
    rcases hs with rfl | rfl | rfl <;> omega
  | .part a _ _, s, hs => by rw [List.mem_singleton.mp hs]; exact Nat.lt_succ_self _
theorem op_of {ws : List (Str × Nat)} {E : Str → List Nat} (h : WsOk ws) (he : EnvOk ws E) : ∀ {t : Tm} {n : Nat}, Wd ws t n → leafy t = false → Op (wordOf t) ((kids t).map (val E)) (hiOf t) (loOf t) (val E t)
  | .un .not a, _, ha, _ => .un .not _ _ _ (by rw [(val_ok he (t := a) ha).2]; exact (Wd.bound h (t := a) ha).1)
  | .un .any a, _, ⟨_, m, ha⟩, _ => .un .any _ _ _ (by rw [(val_ok he (t := a) ha).2]; exact (Wd.bound h (t := a) ha).1)
  | .un .all a, _, ⟨_, m, ha⟩, _ => .un .all _ _ _ (by rw [(val_ok he (t := a) ha).2]; exact (Wd.bound h (t := a) ha).1)
  | .bi .same a b, _, ⟨_, m, ha, hb⟩, _ => .bi .same _ _ _ _ (by rw [(val_ok he (t := a) ha).2]; exact (Wd.bound h (t := a) ha).1) (.inl (by rw [(val_ok he (t := a) ha).2, (val_ok he (t := b) hb).2]))
  | .bi .less a b, _, ⟨_, m, ha, hb⟩, _ => .bi .less _ _ _ _ (by rw [(val_ok he (t := a) ha).2]; exact (Wd.bound h (t := a) ha).1) (.inl (by rw [(val_ok he (t := a) ha).2, (val_ok he (t := b) hb).2]))
  | .bi .join a b, _, ⟨h8, i, j, ha, hb, hij⟩, _ => .bi .join _ _ _ _ (by rw [(val_ok he (t := a) ha).2]; exact (Wd.bound h (t := a) ha).1) (.inr ⟨rfl, by rw [(val_ok he (t := a) ha).2, (val_ok he (t := b) hb).2]; omega⟩)
  | .bi .and a b, _, ⟨ha, hb⟩, _ => .bi .and _ _ _ _ (by rw [(val_ok he (t := a) ha).2]; exact (Wd.bound h (t := a) ha).1) (.inl (by rw [(val_ok he (t := a) ha).2, (val_ok he (t := b) hb).2]))
  | .bi .or a b, _, ⟨ha, hb⟩, _ => .bi .or _ _ _ _ (by rw [(val_ok he (t := a) ha).2]; exact (Wd.bound h (t := a) ha).1) (.inl (by rw [(val_ok he (t := a) ha).2, (val_ok he (t := b) hb).2]))
  | .bi .xor a b, _, ⟨ha, hb⟩, _ => .bi .xor _ _ _ _ (by rw [(val_ok he (t := a) ha).2]; exact (Wd.bound h (t := a) ha).1) (.inl (by rw [(val_ok he (t := a) ha).2, (val_ok he (t := b) hb).2]))
  | .bi .plus a b, _, ⟨ha, hb⟩, _ => .bi .plus _ _ _ _ (by rw [(val_ok he (t := a) ha).2]; exact (Wd.bound h (t := a) ha).1) (.inl (by rw [(val_ok he (t := a) ha).2, (val_ok he (t := b) hb).2]))
  | .pick c a b, n, ⟨hc, ha, hb⟩, _ => by
    have h1 := (val_ok he (t := c) hc).2
    have e : val E c = [(val E c).getD 0 0] := by
      match hv : val E c, h1 with
      | [x], _ => rfl
    have := Op.pick ((val E c).getD 0 0) (val E a) (val E b) 0 0 (by rw [(val_ok he (t := a) ha).2, (val_ok he (t := b) hb).2])
    rw [← e] at this
    exact this
  | .part a hi lo, _, ⟨m, ha, h1, h2, h3⟩, _ => .part _ hi lo h1 (by rw [(val_ok he (t := a) ha).2]; exact h2)
end Dw

set_option Elab.async false
set_option linter.all false
set_option maxRecDepth 100000
namespace Dw
open PySem L2 Evl
/-! ### dicts from names -/
theorem valV_of {α : Type} {k : α → Str} {g : α → V} : ∀ {l : List α}, (l.map k).Nodup → ∀ {p : α}, p ∈ l → valV (l.map fun p => ((Sum.inr (k p) : Key), g p)) (Sum.inr (k p)) = some (g p)
  | [], _, p, hp => by cases hp
  | a :: l, hn, p, hp => by
    rw [List.map_cons, List.nodup_cons] at hn
    unfold valV
    rw [List.map_cons, List.find?_cons]
    rcases List.mem_cons.mp hp with rfl | h
    · simp
    · have n : k a ≠ k p := fun z => hn.1 (by rw [z]; exact List.mem_map.mpr ⟨p, h, rfl⟩)
      have e : decide ((Sum.inr (k a) : Key) = Sum.inr (k p)) = false := decide_eq_false fun z => n (Sum.inr.inj z)
      simp only [e]
      exact valV_of hn.2 h
theorem merge_of {α : Type} {k : α → Str} {g : α → V} : ∀ (l : List α) (acc : List (Key × V)), (l.map k).Nodup → (∀ p ∈ l, ∀ kv ∈ acc, kv.1 ≠ (Sum.inr (k p) : Key)) → mergeK acc (l.map fun p => ((Sum.inr (k p) : Key), g p)) = acc ++ l.map fun p => ((Sum.inr (k p) : Key), g p)
  | [], acc, _, _ => by simp [mergeK]
  | a :: l, acc, hn, hd => by
    rw [List.map_cons, List.nodup_cons] at hn
    have e : putK acc (Sum.inr (k a) : Key) (g a) = acc ++ [((Sum.inr (k a) : Key), g a)] := by
      unfold putK
      rw [if_neg]
      intro z
      obtain ⟨kv, h1, h2⟩ := List.any_eq_true.mp z
      exact hd a (List.mem_cons_self ..) kv h1 (of_decide_eq_true h2)
    have ih := merge_of (g := g) l (acc ++ [((Sum.inr (k a) : Key), g a)]) hn.2 fun p hp kv hkv => by
      rcases List.mem_append.mp hkv with h | h
      · exact hd p (List.mem_cons_of_mem _ hp) kv h
      · rw [List.mem_singleton.mp h]
        exact fun z => hn.1 (by rw [Sum.inr.inj z]; exact List.mem_map.mpr ⟨p, hp, rfl⟩)
    show mergeK (putK acc (Sum.inr (k a) : Key) (g a)) (l.map fun p => ((Sum.inr (k p) : Key), g p)) = _
    rw [e, ih, List.append_assoc]
    rfl
abbrev wsK (ws : List (Str × Nat)) : List (Key × V) := ws.map fun p => ((Sum.inr p.1 : Key), V.int (p.2 : Int))
def WsAt (H : Hp) (q : Addr) (ws : List (Str × Nat)) : Prop := H q = some (.dK (wsK ws))
theorem WsAt.ex {H H' : Hp} {q : Addr} {ws : List (Str × Nat)} (h : WsAt H q ws) (e : Ex H H') : WsAt H' q ws := e _ _ h
theorem WsAt.ne {H : Hp} {p q : Addr} {ws : List (Str × Nat)} {xs : List V} (h : WsAt H q ws) (hp : H p = some (.lst xs)) : q ≠ p := fun z => by
  unfold WsAt at h
  rw [z, hp] at h
  cases h
theorem WsAt.exB {H H' : Hp} {p q : Addr} {ws : List (Str × Nat)} (h : WsAt H q ws) (hp : PotAt H p) (e : ExB p H H') : WsAt H' q ws := by
  obtain ⟨x, y, h1, _⟩ := hp
  exact e _ _ (h.ne h1) h
theorem WsAt.exC {H H' : Hp} {p r q : Addr} {ws : List (Str × Nat)} (h : WsAt H q ws) (hp : PotAt H p) (hr : RoomAt H r) (e : ExC p r H H') : WsAt H' q ws := by
  obtain ⟨x, y, h1, _⟩ := hp
  obtain ⟨z, h2⟩ := hr
  exact e _ _ (h.ne h1) (h.ne h2) h
theorem valV_ws {ws : List (Str × Nat)} (hn : (ws.map (·.1)).Nodup) {x : Str} {n : Nat} (h : (x, n) ∈ ws) : valV (wsK ws) (Sum.inr x : Key) = some (.int (n : Int)) := valV_of (k := fun p : Str × Nat => p.1) (g := fun p => V.int (p.2 : Int)) hn h
section
variable {K : PySem.W.Frag} {σ : L2.St} {H H' : Hp} {ta tb te tx tl td ty : TE} {t u : TT} {x y z v : V} {D : Ends} {tu tz : TS}
theorem ev_dget {a : Addr} {kvs : List (Key × V)} {s : Str} (hd : Ev td σ H (.ref a)) (hy : Ev ty σ H (.str s)) (h : Rd H a (.dK kvs)) (hv : valV kvs (Sum.inr s : Key) = some v) : Ev (tDGet td ty) σ H v := fun H1 e Q q =>
  hd H1 e _ fun H2 e2 => hy H2 (e.trans e2) _ fun H3 e3 => ⟨a, v, rfl, .inl ⟨kvs, Sum.inr s, ex_rd ((e.trans e2).trans e3) h, rfl, hv.symm⟩, q H3 (e2.trans e3)⟩
theorem frz_at {d : Addr} {od : Obj} {w : HO} : L2.upd H d (.frz od w) d = some (.frz od w) := upd_same
/-- behind the lock -/
theorem unlock {d : Addr} {od : Obj} {w : HO} (hd : H d = some w) (e : Ex (L2.upd H d (.frz od w)) H') : Ex H (L2.upd H' d w) := fun b o hb => by
  by_cases n : b = d
  · rw [n, upd_same]
    rw [n, hd] at hb
    exact hb
  · rw [upd_ne n]
    exact e b o (by rw [upd_ne n]; exact hb)
/-- y = [e for k in d if t] -/
theorem q_lockLc {d : Addr} {kvs : List (Key × V)} {i j : Nat} {vs : List Nat} (f : Nat → Bool) (v : Nat → V) (hd : H d = some (.dK kvs)) (h : ∀ H1, Ev tl σ H1 (.ref d)) (hz : kvs.length ≤ 40000) (hw : ∀ x, wipe ((wipe σ vs).set j (some x)) vs = wipe σ vs)
    (ht : ∀ (n : Nat) (k : Key) (x : V) H1, Rd H1 d (.dK kvs) → kvs[n]? = some (k, x) → EvT t ((wipe σ vs).set j (some (kV k))) H1 (f n)) (he : ∀ (n : Nat) (k : Key) (x : V) H1, Rd H1 d (.dK kvs) → kvs[n]? = some (k, x) → f n = true → Ev te ((wipe σ vs).set j (some (kV k))) H1 (v n))
    (c : ∀ p H1, H p = none → Ex H H1 → H1 p = some (.lst (given kvs.length f v)) → tz D (σ.set i (some (.ref p))) H1) :
    tSeq (tLock (tAsg (tLc (iKeys tl) (gName j) t te vs) (gName i))) tz D σ H := by
  refine ⟨d, .dK kvs, hd, trivial, fun od => ?_⟩
  refine h _ _ (Ex.refl _) _ fun H1 e1 => ⟨d, od, rfl, .inl ⟨kvs, e1 _ _ upd_same, fun Dl hD => ?_⟩⟩
  have nd : Dl ≠ d := fun z => by
    rw [z, e1 _ _ upd_same] at hD
    cases hD
  have nH : H Dl = none := by
    have := fresh_back e1 hD
    rw [upd_ne nd] at this
    exact this
  refine lc_it walk_keys (Cw H1 f v Dl) ⟨hD, Ex.new hD, upd_same⟩ (fun _ _ _ p => p.2.1 _ _ (e1 _ _ upd_same)) (fun n x H2 H3 hi p y => ?_) (fun H' p => ?_)
  · obtain ⟨rfl, k, x2, hk, rfl⟩ := y
    have hrd : Rd H1 d (.dK kvs) := .inr ⟨od, e1 _ _ upd_same⟩
    exact ⟨hw _, cw_turn p (by omega) (ht n k x2 H1 hrd hk) (fun hf => he n k x2 H1 hrd hk hf)⟩
  · refine ⟨p.2.1 _ _ (e1 _ _ upd_same), c Dl _ nH (unlock hd (e1.trans p.2.1)) ?_⟩
    rw [upd_ne nd]
    exact p.2.2
end
/-- of all entries those that f keeps -/
theorem given_kvs {α : Type} [Inhabited α] (l : List α) (f : α → Bool) (g : α → V) {n : Nat} (hn : n = l.length) : given n (fun i => f (l.getD i default)) (fun i => g (l.getD i default)) = (l.filter f).map g := by
  rw [hn]
  exact given_list l default f g
/-! ### names -/
theorem pig : ∀ (t c : List Str), c.Nodup → t.length < c.length → ∃ x ∈ c, x ∉ t
  | [], c, _, h => by
    match c, h with
    | x :: c, _ => exact ⟨x, List.mem_cons_self .., fun z => by cases z⟩
  | y :: t, c, hn, h => by
    obtain ⟨x, h1, h2⟩ := pig t (c.erase y) (hn.erase y) (by
      rw [List.length_cons] at h
      rw [List.length_erase]
      split <;> omega)
    have h3 := (hn.mem_erase_iff).mp h1
    exact ⟨x, h3.2, fun z => by
      rcases List.mem_cons.mp z with z | z
      · exact h3.1 z
      · exact h2 z⟩
def lets : List Nat := [97, 98, 99, 100, 101, 102, 103, 104, 105, 106, 107, 108, 109, 110, 111, 112, 113, 114, 115, 116, 117, 118, 119, 120, 121, 122]
def figs : List Nat := [48, 49, 50, 51, 52, 53, 54, 55, 56, 57]
def words17 : List Str := ["not", "and", "or", "xor", "plus", "same", "less", "any", "all", "pick", "join", "part", "is", "of", "at", "filters", "later"]
theorem s_lets : Str.ofString "abcdefghijklmnopqrstuvwxyz" = Tx lets := by decide +kernel
theorem s_figs : Str.ofString "0123456789" = Tx figs := by decide +kernel
/-- a name, as the document has it -/
def NmOk (x : Str) : Prop := ∃ c l, x = Tx (c :: l) ∧ c ∈ lets ∧ (∀ d ∈ l, d ∈ lets ++ figs) ∧ l.length ≤ 7 ∧ x ∉ words17
theorem nm0 : ∀ c ∈ lets, Tx [c, 48] ∉ words17 := by decide +kernel
theorem NmOk.zero {c : Nat} (h : c ∈ lets) : NmOk (Tx [c, 48]) := ⟨c, [48], rfl, h, by decide, by decide, nm0 c h⟩
theorem lets_nd : (lets.map fun c => Tx [c, 48]).Nodup := by decide +kernel
end Dw

set_option Elab.async false
set_option linter.all false
set_option maxRecDepth 100000
namespace Dw
open PySem L2 Evl
/-! ### what draws from the pot at p: values that keep G -/
def EvP (p : Addr) (te : TE) (σ : L2.St) (H : Hp) (G : V → Hp → Prop) : Prop := ∀ H1, ExB p H H1 → PotAt H1 p → ∀ Q : VK, (∀ v H2, ExB p H1 H2 → PotAt H2 p → G v H2 → Q v H2) → te σ H1 Q
/-- a new list -/
def EvPL (p : Addr) (te : TE) (σ : L2.St) (H : Hp) (G : List V → Hp → Prop) : Prop := ∀ H1, ExB p H H1 → PotAt H1 p → ∀ Q : VK, (∀ D xs H2, H1 D = none → ExB p H1 H2 → PotAt H2 p → H2 D = some (.lst xs) → G xs H2 → Q (.ref D) H2) → te σ H1 Q
def isI (m : Int) : V → Hp → Prop := fun v _ => ∃ d : Int, v = .int d ∧ 0 ≤ d ∧ d < m
def eqs (w : V) : V → Hp → Prop := fun v _ => v = w
section
variable {K : PySem.W.Frag} {σ : L2.St} {H H' : Hp} {ta tb te tx : TE} {t u : TT} {x y z v : V} {D : Ends} {tu tz : TS} {p : Addr} {G G' Ga Gb : V → Hp → Prop}
theorem EvP.mono (h : EvP p te σ H G) (hg : ∀ v H2, G v H2 → G' v H2) : EvP p te σ H G' := fun H1 e hP Q q => h H1 e hP Q fun v H2 e2 hP2 g => q v H2 e2 hP2 (hg v H2 g)
theorem EvP.at (h : EvP p te σ H G) (e : ExB p H H') : EvP p te σ H' G := fun H1 e1 hP Q q => h H1 (e.trans e1) hP Q q
theorem evp_of {w : V} (h : ∀ H1, ExB p H H1 → Ev te σ H1 w) : EvP p te σ H (eqs w) := fun H1 e hP Q q => h H1 e H1 (Ex.refl _) Q fun H2 e2 => q w H2 (ExB.of e2) (hP.ex e2) rfl
theorem evp_c : EvP p (tC v) σ H (eqs v) := evp_of fun _ _ => ev_c
theorem evp_var {i : Nat} (h : σ[i]? = some (some v)) : EvP p (tVar i) σ H (eqs v) := evp_of fun _ _ => ev_var h
theorem evp_takeE {i : Nat} {E : XK} {lim : V → Hp → Prop} {m : Int} (hi : σ[i]? = some (some (.ref p))) (hm : EvP p te σ H fun v H2 => ∃ d : Int, v = .int d ∧ 0 < d ∧ d ≤ m) (h1 : m < 1073741824) : EvP p (tCall spTake [] E (tCons (tVar i) (tCons te tNil))) σ H (isI m) := fun H1 e hP Q q =>
  ⟨_, hi, hm H1 e hP _ fun v H2 e2 hP2 ⟨d, hv, d0, d1⟩ => ⟨p, d, by rw [hv]; rfl, hP2, d0, by omega, fun H3 k e3 hP3 k0 k1 => q _ H3 (e2.trans e3) hP3 ⟨k, rfl, k0, by omega⟩⟩⟩
/-- take(pot, m), m told by what it is -/
theorem evp_takeV {i : Nat} {E : XK} {m : Int} (hi : σ[i]? = some (some (.ref p))) (hm : EvP p te σ H (eqs (.int m))) (h0 : 0 < m) (h1 : m < 1073741824) : EvP p (tCall spTake [] E (tCons (tVar i) (tCons te tNil))) σ H (isI m) :=
  evp_takeE (lim := fun _ _ => True) hi (hm.mono fun v _ h => ⟨m, h, h0, Int.le_refl _⟩) h1
theorem evp_take {i : Nat} {E : XK} {m : Int} (hi : σ[i]? = some (some (.ref p))) (h0 : 0 < m) (h1 : m < 1073741824) : EvP p (tCall spTake [] E (tCons (tVar i) (tCons (tC (.int m)) tNil))) σ H (isI m) := evp_takeV hi evp_c h0 h1
/-- [a, b, ..][e], all constants -/
theorem evp_lit {tA : TA} {vs : List V} (hA : ∀ H1, EvA tA σ H1 vs) (hz : vs.length ≤ 100000) (he : EvP p te σ H (isI (vs.length : Int))) : EvP p (tOp (rIxL K) (tLst tA) te) σ H (fun v _ => v ∈ vs) := fun H1 e hP Q q => by
  refine hA H1 H1 (Ex.refl _) _ fun H2 e2 => ⟨sz_of hz, fun l hl => ?_⟩
  have e3 : Ex H2 (L2.upd H2 l (.lst vs)) := Ex.new hl
  have hn : l ≠ p := (hP.ex e2).ne hl
  refine he _ (e.trans (ExB.of (e2.trans e3))) (hP.ex (e2.trans e3)) _ fun v H4 e4 hP4 ⟨d, hv, d0, d1⟩ => ?_
  obtain ⟨j, rfl⟩ := Int.eq_ofNat_of_zero_le d0
  have hj : j < vs.length := by omega
  refine ⟨l, vs, (j : Int), vs[j], rfl, hv, sq_of (e4 _ _ hn upd_same), atI_nat (by rw [List.getElem?_eq_getElem hj]), q _ H4 ((ExB.of (e2.trans e3)).trans e4) hP4 (List.getElem_mem hj)⟩
/-- text[e] -/
theorem evp_sign {l : List Nat} (ha : ∀ H1, Ev ta σ H1 (.str (Tx l))) (hz : l.length ≤ 100000) (he : EvP p te σ H (isI (l.length : Int))) : EvP p (tOp rIxS ta te) σ H (fun v _ => ∃ c ∈ l, v = .str (Tx [c])) := fun H1 e hP Q q => by
  refine ha H1 H1 (Ex.refl _) _ fun H2 e2 => he H2 (e.trans (ExB.of e2)) (hP.ex e2) _ fun v H3 e3 hP3 ⟨d, hv, d0, d1⟩ => ?_
  obtain ⟨c, hc, hm⟩ := at_sign (l := l) d0 d1
  exact ⟨Tx l, d, c, rfl, hv, sz_of (by rw [Tx_len]; exact hz), hc, q _ H3 ((ExB.of e2).trans e3) hP3 ⟨c, hm, rfl⟩⟩
/-- a + e -/
theorem evp_add {a m : Int} (he : EvP p te σ H (isI m)) : EvP p (tOp (rI0 fun i j => .int (i + j)) (tC (.int a)) te) σ H (fun v _ => ∃ d : Int, v = .int d ∧ a ≤ d ∧ d < a + m) := fun H1 e hP Q q =>
  he H1 e hP _ fun v H2 e2 hP2 ⟨d, hv, d0, d1⟩ => ⟨a, d, rfl, hv, q _ H2 e2 hP2 ⟨a + d, rfl, by omega, by omega⟩⟩
theorem evp_addV {a m : Int} (ha : EvP p ta σ H (eqs (.int a))) (he : EvP p te σ H (isI m)) : EvP p (tOp (rI0 fun i j => .int (i + j)) ta te) σ H (fun v _ => ∃ d : Int, v = .int d ∧ a ≤ d ∧ d < a + m) := fun H1 e hP Q q =>
  ha H1 e hP _ fun w H0 e0 hP0 hw => he H0 (e.trans e0) hP0 _ fun v H2 e2 hP2 ⟨d, hv, d0, d1⟩ => ⟨a, d, hw, hv, q _ H2 (e0.trans e2) hP2 ⟨a + d, rfl, by omega, by omega⟩⟩
/-! statements -/
theorem p_asg {i : Nat} (h : EvP p te σ H G) (hP : PotAt H p) (k : ∀ v H1, ExB p H H1 → PotAt H1 p → G v H1 → tz D (σ.set i (some v)) H1) : tSeq (tAsg te (gName i)) tz D σ H := h H (ExB.refl _ _) hP _ fun v H1 e hP1 g => k v H1 e hP1 g
theorem p_asg1 {i : Nat} (h : EvP p te σ H G) (hP : PotAt H p) (k : ∀ v H1, ExB p H H1 → PotAt H1 p → G v H1 → D.nx (σ.set i (some v)) H1) : tAsg te (gName i) D σ H := h H (ExB.refl _ _) hP _ fun v H1 e hP1 g => k v H1 e hP1 g
theorem p_ret (h : EvP p te σ H G) (hP : PotAt H p) (k : ∀ v H1, ExB p H H1 → PotAt H1 p → G v H1 → D.rt v H1) : tRet te D σ H := h H (ExB.refl _ _) hP _ fun v H1 e hP1 g => k v H1 e hP1 g
/-- for k in range(e): .. -/
theorem p_forR1 {j : Nat} {m : Int} (h : EvP p te σ H fun v _ => ∃ d : Int, v = .int d ∧ 0 ≤ d ∧ d ≤ m) (hm : m ≤ 100000) (hP : PotAt H p) (Pv : Nat → L2.St → Hp → Prop) (h0 : ∀ H1, ExB p H H1 → PotAt H1 p → Pv 0 σ H1)
    (hs : ∀ (i : Nat) σ' H', (i : Int) < m → Pv i σ' H' → tu { D with nx := Pv (i + 1), ct := Pv (i + 1), bk := tz D } (σ'.set j (some (.int (i : Int)))) H') (hd : ∀ (n : Nat) σ' H', (n : Int) ≤ m → Pv n σ' H' → tz D σ' H') : tSeq (tFor (iRng1 (tCons te tNil)) (gName j) tu) tz D σ H :=
  h H (ExB.refl _ _) hP _ fun v H1 e hP1 ⟨d, hv, d0, d1⟩ => ⟨d, by rw [hv], by omega, by omega, for_range (D := { D with nx := tz D }) (lo := 0) (n := d.toNat) Pv (h0 H1 e hP1) (fun i σ' H' hi q => by
    have e0 : (0 : Int) + (i : Int) = (i : Int) := Int.zero_add _
    show tu { D with nx := Pv (i + 1), ct := Pv (i + 1), bk := tz D } (σ'.set j (some (.int ((0 : Int) + (i : Int))))) H'
    rw [e0]
    exact hs i σ' H' (by omega) q) (fun σ' H' q => hd d.toNat σ' H' (by omega) q)⟩
/-- [e for k in range(n)], new things in the heap among what e gives -/
theorem evp_lcR {lo m : Int} {j : Nat} {vs : List Nat} {tn : TE} (hn : EvP p tn σ H fun v _ => ∃ d : Int, v = .int d ∧ lo ≤ d ∧ d ≤ m) (hl : 0 ≤ lo) (hm : m ≤ 40000) (hw : ∀ x, wipe ((wipe σ vs).set j (some x)) vs = wipe σ vs)
    (he : ∀ (i : Nat) H1, ExB p H H1 → (i : Int) < m → EvP p te ((wipe σ vs).set j (some (.int (i : Int)))) H1 G) (hg : ∀ v H1 H2, ExT H1 H2 → G v H1 → G v H2) :
    EvPL p (tLc (iRng1 (tCons tn tNil)) (gName j) tYes te vs) σ H (fun xs H2 => lo ≤ (xs.length : Int) ∧ (xs.length : Int) ≤ m ∧ ∀ x ∈ xs, G x H2) := fun H1 e hP Q q => by
  refine hn H1 e hP _ fun v H2 e2 hP2 ⟨d, hv, d0, d1⟩ => ⟨d, by rw [hv], by omega, by omega, fun Dl hD => ?_⟩
  have nD := hP2.ne hD
  refine lc_range (lo := 0) (n := d.toNat) (fun i H4 => ExB p H2 H4 ∧ PotAt H4 p ∧ ∃ xs : List V, H4 Dl = some (.lst xs) ∧ xs.length = i ∧ ∀ x ∈ xs, G x H4)
    ⟨ExB.of (Ex.new hD), hP2.ex (Ex.new hD), [], upd_same, rfl, fun x hx => by cases hx⟩ (fun i H4 hi hv => ?_) (fun H4 hv => ?_)
  · obtain ⟨e4, hP4, xs, h4, hn4, hs⟩ := hv
    refine ⟨?_, ?_⟩
    · exact hw _
    · have e0 : (0 : Int) + (i : Int) = (i : Int) := Int.zero_add _
      show te ((wipe σ vs).set j (some (.int ((0 : Int) + (i : Int))))) H4 _
      rw [e0]
      refine he i H4 ((e.trans e2).trans e4) (by omega) H4 (ExB.refl _ _) hP4 _ fun y H5 e5 hP5 g5 => ?_
      have h5 := e5 Dl _ nD h4
      have et : ExT H4 (L2.upd H5 Dl (.lst (xs ++ [y]))) := (ExT.ofB hP4 e5).upd h5
      refine ⟨xs, h5, sz_lt (by omega), (e4.trans e5).mut hD, hP5.upd nD, xs ++ [y], upd_same, by rw [List.length_append, hn4]; rfl, fun z hz => ?_⟩
      rcases List.mem_append.mp hz with h | h
      · exact hg z _ _ et (hs z h)
      · rw [List.mem_singleton.mp h]
        exact hg y _ _ ((ExT.refl H5).upd h5) g5
  · obtain ⟨e4, hP4, xs, h4, hn4, hs⟩ := hv
    exact q Dl xs H4 (by
      cases hx : H1 Dl with
      | none => rfl
      | some o =>
        have := e2 Dl o nD hx
        rw [hD] at this
        cases this) (e2.trans e4) hP4 h4 ⟨by omega, by omega, hs⟩
end
/-! ### the promises of what is drawn -/
def spWords : Sp := fun vs H Q _ => vs = [] ∧ ∀ (g : Addr) (H' : Hp), H g = none → Ex H H' → H' g = some (.lst (words17.map V.str)) → Q (.ref g) H'
def spName : Sp := fun vs H Q _ => ∃ (p g : Addr) (taken : List Str), vs = [.ref p, .ref g] ∧ PotAt H p ∧ H g = some (.lst (taken.map V.str)) ∧ taken.length ≤ 20 ∧ ∀ (H' : Hp) (x : Str), ExB p H H' → PotAt H' p → NmOk x → x ∉ taken → Q (.str x) H'
def spNames : Sp := fun vs H Q _ => ∃ (p : Addr) (m : Nat), vs = [.ref p, .int (m : Int)] ∧ PotAt H p ∧ m ≤ 20 ∧ ∀ (H' : Hp) (g : Addr) (xs : List Str), ExB p H H' → PotAt H' p → H g = none → H' g = some (.lst (xs.map V.str)) → xs.length = m → xs.Nodup → (∀ x ∈ xs, NmOk x) → Q (.ref g) H'
def spBitsD : Sp := fun vs H Q _ => ∃ (p : Addr) (m : Nat) (ss : List Nat), vs = [.ref p, .int (m : Int), .str (Tx ss)] ∧ PotAt H p ∧ m ≤ 8 ∧ 0 < ss.length ∧ ss.length ≤ 1000 ∧ ∀ (H' : Hp) (l : List Nat), ExB p H H' → PotAt H' p → l.length = m → (∀ c ∈ l, c ∈ ss) → Q (.str (Tx l)) H'
def spLeaf : Sp := fun vs H Q _ => ∃ (p q : Addr) (m : Nat) (ws : List (Str × Nat)), vs = [.ref p, .ref q, .int (m : Int)] ∧ PotAt H p ∧ WsAt H q ws ∧ WsOk ws ∧ ws.length ≤ 1000 ∧ 1 ≤ m ∧ m ≤ 8 ∧ ∀ (H' : Hp) (v : V) (t : Tm), ExB p H H' → PotAt H' p → TmAt H' t v → Wd ws t m → dep t ≤ 2 → wt t ≤ 2 → Q v H'
/-- a term that was drawn: c draws of terms, of which room was taken -/
structure TmOut (p r : Addr) (ws : List (Str × Nat)) (n m : Nat) (R : Int) (H H' : Hp) (v : V) (t : Tm) (c : Nat) : Prop where
  ex : ExC p r H H'
  pot : PotAt H' p
  room : H' r = some (.lst [.int (R - (c : Int))])
  c1 : 1 ≤ c
  c0 : R ≤ 0 → c = 1
  cR : 0 < R → (c : Int) ≤ R + 2 * (n : Int) + 1
  tm : TmAt H' t v
  wd : Wd ws t m
  dp : dep t ≤ n + 2
  wt : wt t ≤ 2 * c
def spTerm (n : Nat) : Sp := fun vs H Q _ => ∃ (p q r : Addr) (m : Nat) (R : Int) (ws : List (Str × Nat)), vs = [.ref p, .ref q, .int (m : Int), .int (n : Int), .ref r] ∧ PotAt H p ∧ WsAt H q ws ∧ H r = some (.lst [.int R]) ∧ WsOk ws ∧ ws.length ≤ 1000 ∧ 1 ≤ m ∧ m ≤ 8 ∧
  ∀ (H' : Hp) (v : V) (t : Tm) (c : Nat), TmOut p r ws n m R H H' v t c → Q v H'
def spPrev : Nat → Sp
  | 0 => fun _ _ _ _ => False
  | n + 1 => spTerm n
/-- a term of one bit, behind the taking of room for itself -/
structure BitOut (p r : Addr) (ws : List (Str × Nat)) (n : Nat) (R : Int) (H H' : Hp) (v : V) (t : Tm) (c : Nat) : Prop where
  ex : ExC p r H H'
  pot : PotAt H' p
  room : H' r = some (.lst [.int (R - (c : Int))])
  cR : (c : Int) ≤ R + 2 * (n : Int) + 1
  tm : TmAt H' t v
  wd : Wd ws t 1
  dp : dep t ≤ n + 2
  wt : wt t ≤ 2 * c + 1
def spBitT (n : Nat) : Sp := fun vs H Q _ => ∃ (p q r : Addr) (R : Int) (ws : List (Str × Nat)), vs = [.ref p, .ref q, .int (n : Int), .ref r] ∧ 0 < n ∧ PotAt H p ∧ WsAt H q ws ∧ H r = some (.lst [.int R]) ∧ 0 ≤ R ∧ WsOk ws ∧ ws.length ≤ 1000 ∧
  ∀ (H' : Hp) (v : V) (t : Tm) (c : Nat), BitOut p r ws n R H H' v t c → Q v H'
/-! ### small things for what is drawn -/
theorem RoomAt.is {H : Hp} {r : Addr} {R : Int} (h : H r = some (.lst [.int R])) : RoomAt H r := ⟨R, h⟩
theorem inV_strs (x : Str) : ∀ xs : List Str, inV (.str x) (xs.map V.str) = decide (x ∈ xs)
  | [] => by simp [inV]
  | y :: xs => by
    have ih := inV_strs x xs
    unfold inV at ih ⊢
    rw [List.map_cons, List.any_cons, ih]
    rw [Bool.eq_iff_iff]
    simp [eqV]
    constructor
    · rintro (h | h)
      · exact .inl h.symm
      · exact .inr h
    · rintro (h | h)
      · exact .inl h.symm
      · exact .inr h
theorem flat_strs (xs : List Str) : (xs.map V.str).all flatV = true := by
  rw [List.all_eq_true]
  intro v hv
  obtain ⟨x, _, rfl⟩ := List.mem_map.mp hv
  rfl
section
variable {K : PySem.W.Frag} {σ : L2.St} {H H' : Hp} {ta tb te tx : TE}
theorem ev_inStrs {x : Str} {xs : List Str} {g : Addr} (ha : Ev ta σ H (.str x)) (hb : Ev tb σ H (.ref g)) (h : SqL K H g (xs.map V.str)) : Ev (tOp (rIn K false) ta tb) σ H (.bl (decide (x ∈ xs))) := by
  rw [← inV_strs]
  exact ev_op ha hb (rv_isL h rfl (flat_strs xs))
theorem ev_niStrs {x : Str} {xs : List Str} {g : Addr} (ha : Ev ta σ H (.str x)) (hb : Ev tb σ H (.ref g)) (h : SqL K H g (xs.map V.str)) : Ev (tOp (rIn K true) ta tb) σ H (.bl (!decide (x ∈ xs))) := by
  rw [← inV_strs]
  exact ev_op ha hb (rv_niL h rfl (flat_strs xs))
theorem ev_inStrsN {x : Str} {xs : List Str} (ha : Ev ta σ H (.str x)) (hb : EvL tb σ H (xs.map V.str)) : Ev (tOp (rIn K false) ta tb) σ H (.bl (decide (x ∈ xs))) := by
  rw [← inV_strs]
  exact ev_opL ha hb fun p H1 hp _ => rv_isL (sq_of hp) rfl (flat_strs xs)
end
theorem low_nm {x : Str} (h : NmOk x) : LowS x := by
  obtain ⟨c, l, rfl, h1, h2, _⟩ := h
  have a1 : ∀ d ∈ lets ++ figs, d < 128 := by decide
  refine low_Tx fun d hd => ?_
  rcases List.mem_cons.mp hd with rfl | h
  · exact a1 d (List.mem_append_left _ h1)
  · exact a1 d (h2 d h)
section
variable {K : PySem.W.Frag} {σ : L2.St} {H H' : Hp} {ta tb te tx : TE} {p : Addr}
theorem ev_neNil {g : Addr} {xs : List Str} (ha : Ev ta σ H (.ref g)) (h : SqL K H g (xs.map V.str)) (hl : ∀ x ∈ xs, LowS x) : Ev (tOp (rNeD K) ta (tLst tNil)) σ H (.bl (!decide (xs = []))) :=
  ev_opL (xs := []) ha (el_lst ea_nil (by decide)) fun q H1 hq e => rv_neStrs (ys := []) (ex_l e h) (sq_of hq) hl (fun x hx => by cases hx)
/-- xs[take(pot, len(xs))] -/
theorem evp_pickL {g : Addr} {xs : List V} {i : Nat} {E : XK} (hi : σ[i]? = some (some (.ref p))) (ha : ∀ H1, Ev ta σ H1 (.ref g)) (hb : ∀ H1, Ev tb σ H1 (.ref g)) (hg : H g = some (.lst xs)) (ng : g ≠ p) (h0 : 0 < xs.length) (h1 : xs.length ≤ 1000000) :
    EvP p (tOp (rIxL K) ta (tCall spTake [] E (tCons (tVar i) (tCons (tCB (rLenS K) (tCons tb tNil)) tNil)))) σ H (fun v _ => v ∈ xs) := fun H1 e hP Q q => by
  refine ha H1 H1 (Ex.refl _) _ fun H2 e2 => ?_
  refine evp_takeV (p := p) (H := H2) (m := (xs.length : Int)) hi (evp_of fun H3 e3 => ev_len (hb H3) (sq_of (e3 _ _ ng (e2 _ _ (e _ _ ng hg))))) (by omega) (by omega) H2 (ExB.refl _ _) (hP.ex e2) _ fun v H3 e3 hP3 ⟨d, hv, d0, d1⟩ => ?_
  obtain ⟨j, rfl⟩ := Int.eq_ofNat_of_zero_le d0
  have hj : j < xs.length := by omega
  exact ⟨g, xs, (j : Int), xs[j], rfl, hv, sq_of (e3 _ _ ng (e2 _ _ (e _ _ ng hg))), atI_nat (by rw [List.getElem?_eq_getElem hj]), q _ H3 ((ExB.of e2).trans e3) hP3 (List.getElem_mem hj)⟩
end
theorem ws_key {ws : List (Str × Nat)} {n : Nat} {k : Key} {x : V} (h : (wsK ws)[n]? = some (k, x)) : ∃ a : Str × Nat, ws[n]? = some a ∧ ws.getD n default = a ∧ a ∈ ws ∧ k = Sum.inr a.1 ∧ x = .int (a.2 : Int) := by
  rw [List.getElem?_map] at h
  cases ha : ws[n]? with
  | none =>
    rw [ha] at h
    cases h
  | some a =>
    rw [ha] at h
    have := Option.some.inj h
    exact ⟨a, rfl, by rw [List.getD_eq_getElem?_getD, ha]; rfl, List.mem_of_getElem? ha, (congrArg Prod.fst this).symm, (congrArg Prod.snd this).symm⟩
theorem op_niK {X : Cx} {K : PySem.W.Frag} (h : X.K = K) : OpR X (compareOp .NotIn) (rIn K true) := h ▸ op_notIn_seq
theorem op_inK {X : Cx} {K : PySem.W.Frag} (h : X.K = K) : OpR X (compareOp .In) (rIn K false) := h ▸ op_in_seq
theorem ix_tupK {X : Cx} {K : PySem.W.Frag} (h : X.K = K) : IxR X (rIxT K) := h ▸ ix_tup
def cellOf (ns : List Int) (k : Int) : Int := if k < (ns.length : Int) then ns.getD k.toNat 0 else 0
theorem cell_at {ns : List Int} {k : Int} (h0 : 0 ≤ k) (h1 : k < (ns.length : Int)) : atI (ns.map V.int) k = some (.int (cellOf ns k)) := by
  obtain ⟨j, rfl⟩ := Int.eq_ofNat_of_zero_le h0
  have h2 : j < ns.length := by omega
  refine atI_nat ?_
  rw [List.getElem?_map, List.getElem?_eq_getElem h2]
  unfold cellOf
  rw [if_pos h1, List.getD_eq_getElem?_getD]
  simp [List.getElem?_eq_getElem h2]
theorem prev_of {n : Nat} {vs : List V} {H : Hp} {Q : VK} {E : XK} (h : ∃ m, n = m + 1 ∧ spTerm m vs H Q E) : spPrev n vs H Q E := by
  obtain ⟨m, rfl, h⟩ := h
  exact h
section
variable {K : PySem.W.Frag} {σ : L2.St} {H H' : Hp} {te : TE} {t u : TT} {D : Ends} {tu tz : TS} {p : Addr}
/-- if a or b or e == 0: .. -/
theorem p_when3 {b1 b2 : Bool} {m : Int} (h1 : EvT t σ H b1) (h2 : EvT u σ H b2) (h3 : EvP p te σ H (isI m)) (hP : PotAt H p) (k1 : ∀ H1, ExB p H H1 → PotAt H1 p → tu { D with nx := tz D } σ H1) (k2 : b1 = false → b2 = false → ∀ H1, ExB p H H1 → PotAt H1 p → tz D σ H1) :
    tSeq (tIfS (tOr t (tOr u (tTest (tOp rEq te (tC (.int 0)))))) tu tNext) tz D σ H := by
  refine h1 H (Ex.refl _) _ fun H1 e1 => ?_
  cases b1 with
  | true => exact k1 H1 (ExB.of e1) (hP.ex e1)
  | false =>
    refine h2 H1 e1 _ fun H2 e2 => ?_
    cases b2 with
    | true => exact k1 H2 (ExB.of (e1.trans e2)) (hP.ex (e1.trans e2))
    | false =>
      refine h3 H2 (ExB.of (e1.trans e2)) (hP.ex (e1.trans e2)) _ fun v H3 e3 hP3 ⟨d, hv, d0, d1⟩ => ?_
      subst hv
      have x3 : ExB p H H3 := (ExB.of (e1.trans e2)).trans e3
      refine ⟨rfl, _, rfl, ?_⟩
      cases hd : decide (V.int d = V.int 0) with
      | true => exact k1 H3 x3 hP3
      | false => exact k2 rfl rfl H3 x3 hP3
end
theorem ExC.refl (p r : Addr) (H : Hp) : ExC p r H H := fun _ _ _ _ h => h
end Dw

set_option Elab.async false
set_option linter.all false
set_option maxRecDepth 100000
namespace Dw
open PySem L2 Evl
instance : Inhabited Tm := ⟨.is []⟩
/-! ### the program's operators -/
def op3 : Nat → Nat → Nat → Nat
  | 1 => andS
  | 2 => orS
  | _ => xorS
def spSg (op : Nat → Nat → Nat) : Sp := fun vs H Q _ => ∃ a b : Nat, vs = [.str (Tx [a]), .str (Tx [b])] ∧ ∀ H', Ex H H' → Q (.str (Tx [op a b])) H'
theorem spv_sg {op : Nat → Nat → Nat} {a b : Nat} {H : Hp} : SpV (spSg op) [.str (Tx [a]), .str (Tx [b])] H (.str (Tx [op a b])) := fun H1 e Q q E => ⟨a, b, rfl, q⟩
def spBits (qa qo qx : Addr) : Sp := fun vs H Q _ => ∃ (g : Addr) (k : Nat) (a b : List Nat), vs = [.ref g, .str (Tx a), .str (Tx b)] ∧ ((k = 1 ∧ g = qa) ∨ (k = 2 ∧ g = qo) ∨ (k = 3 ∧ g = qx)) ∧ a.length = b.length ∧ a.length ≤ 1000 ∧ ∀ H', Ex H H' → Q (.str (Tx (List.zipWith (op3 k) a b))) H'
def spTwo (k : Nat) : Sp := fun vs H Q _ => ∃ a b : List Nat, vs = [.str (Tx a), .str (Tx b)] ∧ a.length = b.length ∧ a.length ≤ 1000 ∧ ∀ H', Ex H H' → Q (.str (Tx (List.zipWith (op3 k) a b))) H'
def spNot : Sp := fun vs H Q _ => ∃ l : List Nat, vs = [.str (Tx l)] ∧ Sx l ∧ l.length ≤ 1000 ∧ ∀ H', Ex H H' → Q (.str (Tx (l.map notS))) H'
def spMost : Sp := fun vs H Q _ => ∃ a b c : Nat, vs = [.str (Tx [a]), .str (Tx [b]), .str (Tx [c])] ∧ a ∈ k3 ∧ b ∈ k3 ∧ c ∈ k3 ∧ ∀ H', Ex H H' → Q (.str (Tx [mostS a b c])) H'
theorem spv_most {a b c : Nat} {H : Hp} (ha : a ∈ k3) (hb : b ∈ k3) (hc : c ∈ k3) : SpV spMost [.str (Tx [a]), .str (Tx [b]), .str (Tx [c])] H (.str (Tx [mostS a b c])) := fun H1 e Q q E => ⟨a, b, c, rfl, ha, hb, hc, q⟩
def spTwoS (f : List Nat → List Nat → List Nat) : Sp := fun vs H Q _ => ∃ a b : List Nat, vs = [.str (Tx a), .str (Tx b)] ∧ Sx a ∧ Sx b ∧ a.length = b.length ∧ a.length ≤ 8 ∧ ∀ H', Ex H H' → Q (.str (Tx (f a b))) H'
def spMapS (f : Nat → Nat) : Sp := fun vs H Q _ => ∃ l : List Nat, vs = [.str (Tx l)] ∧ l.length ≤ 1000 ∧ ∀ H', Ex H H' → Q (.str (Tx (l.map f))) H'
theorem spv_map {f : Nat → Nat} {l : List Nat} {H : Hp} (h : l.length ≤ 1000) : SpV (spMapS f) [.str (Tx l)] H (.str (Tx (l.map f))) := fun H1 e Q q E => ⟨l, rfl, h, q⟩
theorem spv_read {l : List Nat} {H : Hp} (h : l.length ≤ 1000) : SpV spRead [.str (Tx l)] H (.str (Tx (l.map rd))) := fun H1 e Q q E => ⟨l, rfl, h, q⟩
theorem spv_mixS {a b : Nat} {H : Hp} : SpV spMixS [.str (Tx [a]), .str (Tx [b])] H (.str (Tx [mixS a b])) := fun H1 e Q q E => ⟨a, b, rfl, q⟩
theorem spv_mixed {a b : List Nat} {H : Hp} (h : a.length = b.length) (hz : a.length ≤ 1000) : SpV spMixed [.str (Tx a), .str (Tx b)] H (.str (Tx (List.zipWith mixS a b))) := fun H1 e Q q E => ⟨a, b, rfl, h, hz, q⟩
theorem spv_part {l : List Nat} {hi lo : Nat} {H : Hp} (h1 : lo ≤ hi) (h2 : hi < l.length) (h3 : l.length ≤ 1000) : SpV spPart [.str (Tx l), .int (hi : Int), .int (lo : Int)] H (.str (Tx (partS l hi lo))) := fun H1 e Q q E => ⟨l, hi, lo, rfl, h1, h2, h3, q⟩
def spOp (K : PySem.W.Frag) : Sp := fun vs H Q _ => ∃ (word : Str) (a : Addr) (ls : List (List Nat)) (hi lo : Int) (r : List Nat), vs = [.str word, .ref a, .int hi, .int lo] ∧ SqL K H a (ls.map fun l => V.str (Tx l)) ∧ (∀ l ∈ ls, Sx l ∧ l.length ≤ 8) ∧ Op word ls hi lo r ∧ ∀ H', Ex H H' → Q (.str (Tx r)) H'
theorem spv_op {K : PySem.W.Frag} {H : Hp} {word : Str} {a : Addr} {ls : List (List Nat)} {hi lo : Int} {r : List Nat} (h : SqL K H a (ls.map fun l => V.str (Tx l))) (h8 : ∀ l ∈ ls, Sx l ∧ l.length ≤ 8) (o : Op word ls hi lo r) : SpV (spOp K) [.str word, .ref a, .int hi, .int lo] H (.str (Tx r)) :=
  fun H1 e Q q E => ⟨word, a, ls, hi, lo, r, rfl, ex_l e h, h8, o, q⟩
theorem Op.len {word : Str} {ls : List (List Nat)} {hi lo : Int} {r : List Nat} (h : Op word ls hi lo r) : ls.length ≤ 3 := by cases h <;> simp
theorem rd_ids {ls : List (List Nat)} (h : ∀ l ∈ ls, Sx l ∧ l.length ≤ 8) : (ls.map fun l => l.map rd) = ls := by
  exact (List.map_congr_left fun l hl => rd_id (h l hl).1).trans (List.map_id _)
theorem w1_part : ∀ w : W1, w.s ≠ Str.ofString "part" := by intro w; cases w <;> decide +kernel
theorem w2_part : ∀ w : W2, w.s ≠ Str.ofString "part" := by intro w; cases w <;> decide +kernel
/-! ### terms asked -/
/-- how many terms behind a word -/
def argN : List (Str × Int) := [("not", 1), ("and", 2), ("or", 2), ("xor", 2), ("plus", 2), ("same", 2), ("less", 2), ("any", 1), ("all", 1), ("pick", 3), ("join", 2), ("part", 1)]
def spArgs : Sp := fun vs H Q _ => ∃ (a : Addr) (w : Str) (us es : List V), vs = [.ref a] ∧ H a = some (.tup (.str w :: (us ++ es))) ∧ (w, (us.length : Int)) ∈ argN ∧ us.length + es.length ≤ 100 ∧ ∀ (g : Addr) (H' : Hp), H g = none → Ex H H' → H' g = some (.lst us) → Q (.ref g) H'
theorem spl_args {a : Addr} {w : Str} {us es : List V} {H : Hp} (h : H a = some (.tup (.str w :: (us ++ es)))) (hw : (w, (us.length : Int)) ∈ argN) (hz : us.length + es.length ≤ 100) : SpL spArgs [.ref a] H us := fun H1 e Q q E => ⟨a, w, us, es, rfl, e _ _ h, hw, hz, q⟩
theorem argN_ok : ∀ p ∈ argN, p.1 ≠ Str.ofString "is" ∧ p.1 ≠ Str.ofString "of" := by decide +kernel
theorem kids_arg : ∀ {t : Tm}, leafy t = false → (wordOf t, ((kids t).length : Int)) ∈ argN
  | .un .not _, _ => by
    show (("not" : Str), (1 : Int)) ∈ argN
    decide +kernel
  | .un .any _, _ => by
    show (("any" : Str), (1 : Int)) ∈ argN
    decide +kernel
  | .un .all _, _ => by
    show (("all" : Str), (1 : Int)) ∈ argN
    decide +kernel
  | .bi .and _ _, _ => by
    show (("and" : Str), (2 : Int)) ∈ argN
    decide +kernel
  | .bi .or _ _, _ => by
    show (("or" : Str), (2 : Int)) ∈ argN
    decide +kernel
  | .bi .xor _ _, _ => by
    show (("xor" : Str), (2 : Int)) ∈ argN
    decide +kernel
  | .bi .plus _ _, _ => by
    show (("plus" : Str), (2 : Int)) ∈ argN
    decide +kernel
  | .bi .same _ _, _ => by
    show (("same" : Str), (2 : Int)) ∈ argN
    decide +kernel
  | .bi .less _ _, _ => by
    show (("less" : Str), (2 : Int)) ∈ argN
    decide +kernel
  | .bi .join _ _, _ => by
    show (("join" : Str), (2 : Int)) ∈ argN
    decide +kernel
  | .pick _ _ _, _ => by
    show (("pick" : Str), (3 : Int)) ∈ argN
    decide +kernel
  | .part _ _ _, _ => by
    show (("part" : Str), (1 : Int)) ∈ argN
    decide +kernel
  | .is _, h => by cases h
  | .of _, h => by cases h
theorem dep_pos (t : Tm) : 1 ≤ dep t := by cases t <;> simp [dep]
theorem ends_len (t : Tm) : (ends t).length ≤ 2 := by cases t <;> simp [ends]
theorem kids_len (t : Tm) : (kids t).length ≤ 3 := by cases t <;> simp [kids]
/-- a dict of what the names have -/
def EnvAt (H : Hp) (d : Addr) (ws : List (Str × Nat)) (E : Str → List Nat) : Prop := ∃ kvs, H d = some (.dK kvs) ∧ ∀ a ∈ ws, valV kvs (Sum.inr a.1 : Key) = some (.str (Tx (E a.1)))
theorem EnvAt.ex {H H' : Hp} {d : Addr} {ws : List (Str × Nat)} {E : Str → List Nat} (h : EnvAt H d ws E) (e : Ex H H') : EnvAt H' d ws E := let ⟨k, a, b⟩ := h; ⟨k, e _ _ a, b⟩
def spVT (n : Nat) : Sp := fun vs H Q _ => ∃ (v : V) (d : Addr) (t : Tm) (m : Nat) (ws : List (Str × Nat)) (E : Str → List Nat), vs = [v, .ref d] ∧ TmAt H t v ∧ dep t ≤ n ∧ Wd ws t m ∧ WsOk ws ∧ EnvOk ws E ∧ EnvAt H d ws E ∧ ∀ H', Ex H H' → Q (.str (Tx (val E t))) H'
theorem spv_vt {n : Nat} {v : V} {d : Addr} {t : Tm} {m : Nat} {ws : List (Str × Nat)} {E : Str → List Nat} {H : Hp} (h1 : TmAt H t v) (h2 : dep t ≤ n) (h3 : Wd ws t m) (h4 : WsOk ws) (h5 : EnvOk ws E) (h6 : EnvAt H d ws E) : SpV (spVT n) [v, .ref d] H (.str (Tx (val E t))) :=
  fun H1 e Q q E1 => ⟨v, d, t, m, ws, E, rfl, h1.ex e, h2, h3, h4, h5, h6.ex e, q⟩
theorem kids_ok {ws : List (Str × Nat)} {E : Str → List Nat} (h : WsOk ws) (he : EnvOk ws E) {t : Tm} {n : Nat} (hw : Wd ws t n) : ∀ l ∈ (kids t).map (val E), Sx l ∧ l.length ≤ 8 := fun l hl => by
  obtain ⟨s, hs, rfl⟩ := List.mem_map.mp hl
  obtain ⟨m, hm⟩ := hw.kids h s hs
  exact ⟨(val_ok he hm).1, by rw [(val_ok he hm).2]; exact (hm.bound h).2⟩
theorem part_word : ∀ {t : Tm}, leafy t = false → (∃ a hi lo, t = .part a hi lo) ∨ (wordOf t ≠ Str.ofString "part" ∧ hiOf t = 0 ∧ loOf t = 0)
  | .un w _, _ => .inr ⟨w1_part w, rfl, rfl⟩
  | .bi w _ _, _ => .inr ⟨w2_part w, rfl, rfl⟩
  | .pick _ _ _, _ => .inr ⟨by show ("pick" : Str) ≠ Str.ofString "part"; decide +kernel, rfl, rfl⟩
  | .part a hi lo, _ => .inl ⟨a, hi, lo, rfl⟩
  | .is _, h => by cases h
  | .of _, h => by cases h
theorem cut_args {w : V} {us es : List V} : cutV (w :: (us ++ es)) (some 1) (some (1 + (us.length : Int))) = us := by
  unfold cutV
  have h1 : HT.sIx (w :: (us ++ es)).length 0 (some 1) = 1 := by
    unfold HT.sIx
    first | rfl | (simp; done) | (simp; omega)
  have h2 : HT.sIx (w :: (us ++ es)).length (w :: (us ++ es)).length (some (1 + (us.length : Int))) = us.length + 1 := by
    rw [show 1 + (us.length : Int) = ((us.length + 1 : Nat) : Int) by omega, HT.sIx_nat]
    simp
  rw [h1, h2]
  simp
end Dw

set_option Elab.async false
set_option linter.all false
set_option maxRecDepth 100000
/-! ### zip of any number of texts -/
namespace Dw
open PySem PySem.Spec PyProof.Rows PySem.W
abbrev ZpF (h : Heap) (z TI TO : Addr) (v : Value) (f : Bool) : Prop := h.get? z = some { cls := .type "zip", dict := none, data := .fields #[v, .bool f, .bool false, .ref TI, .ref TO], slots := #[] }
abbrev TpN (h : Heap) (t : Addr) (vs : List Value) : Prop := h.get? t = some { cls := .type "tuple", data := .seq vs.toArray }
abbrev Tri := Nat × Str × Tok
def ItA (h : Heap) (i : Nat) (e : Tri) : Prop := h.IsStrIter e.1 (strIterType e.2.1) e.2.1 e.2.2 i
theorem ItA.over {h h' : Heap} {i : Nat} {e : Tri} (a : ItA h i e) (k : ∀ o, h.get? e.1 = some o → h'.get? e.1 = some o) : ItA h' i e := by
  obtain ⟨o, ho, r⟩ := a
  exact ⟨o, k o ho, r⟩
structure SepN (z TI TO : Addr) (es : List Tri) : Prop where
  zT : z ≠ TI
  zO : z ≠ TO
  TTO : TI ≠ TO
  jz : ∀ e ∈ es, e.1 ≠ z
  jT : ∀ e ∈ es, e.1 ≠ TI
  jO : ∀ e ∈ es, e.1 ≠ TO
  nd : (es.map fun e => e.1).Nodup
def Dr (i : Nat) (e : Tri) (v : Value) : Prop := ∃ c u, e.2.1.cps[i]? = some c ∧ v = .str ⟨#[c]⟩ u
theorem paired_snoc {α β : Type} {R : α → β → Prop} {b : β} {a : α} (h : R a b) : ∀ {as : List α} {bs : List β}, Paired R as bs → Paired R (as ++ [a]) (bs ++ [b])
  | _, _, .nil => .cons h .nil
  | _, _, .cons r t => .cons r (paired_snoc h t)
section
variable {prog : Program} {w : World} {A : Around} {E : Value → Shared → Prop} {s : Shared} {z TI TO T : Addr} {es : List Tri} {f : Bool} {oT : Obj} {i : Nat}
theorem zn_held {Q : Value → Shared → Prop} (hh : A.handled = none) (S : SepN z TI TO es) (ne : es ≠ []) (few : es.length ≤ 1000) (zp : ZpF s.heap z TI TO (rawInt T) f) (tA : s.heap.get? T = some oT) (tI : TpN s.heap TI (es.map fun e => .ref e.1)) (its : ∀ e ∈ es, ItA s.heap i e) (lt : ∀ e ∈ es, i < e.2.1.cps.size)
    (k : ∀ vs h' tk, Paired (Dr i) es vs → ZpF h' z TI TO (rawInt T) true → (∀ e ∈ es, ItA h' (i + 1) e) → TpN h' s.heap.objs.size vs → h'.objs.size = s.heap.objs.size + 1 → (∀ c o, c ≠ z → (∀ e ∈ es, c ≠ e.1) → s.heap.get? c = some o → h'.get? c = some o) → Q (.ref s.heap.objs.size) { s with heap := h', toks := tk }) :
    wpAny (model prog w) A (Builtin.«zip.__next__» ⟨[.ref z], []⟩) (fun fin s' => ∃ v, fin = .done (.ret v) ∧ Q v s') E s := by
  obtain ⟨hp, g, d, tk0, os⟩ := s
  show wpAny _ _ (field (.ref z) 2 >>= _) _ _ _
  refine wpAny_bind (wpAny_field zp rfl (x := .bool false) rfl ?_)
  show wpAny _ _ (field (.ref z) 3 >>= _) _ _ _
  refine wpAny_bind (wpAny_field zp rfl (x := .ref TI) rfl ?_)
  refine wpAny_bind (wpAny_seqItems tI rfl ?_)
  have full : ((es.map fun e => Value.ref e.1).toArray.isEmpty) = false := by
    cases es with
    | nil => exact absurd rfl ne
    | cons a r => simp
  dsimp only
  rw [full]
  show wpAny _ _ (Builtin.SmallTypes.ownedTupleIsFree (.ref z) >>= _) _ _ _
  refine wpAny_bind (wpAny_tupleHeld_zip zp tA fun h1 zp1 same1 => ?_)
  simp only [Bool.false_eq_true, if_false]
  refine wpAny_bind ?_
  rw [← Array.forIn_toList]
  refine wpAny_forIn_list _ (fun rest b s' => b.1 = none ∧ ∃ (pre suf : List Tri) (hq : Heap) (tk : Nat), es = pre ++ suf ∧ rest = (suf.map fun e => Value.ref e.1) ∧ Paired (Dr i) pre b.2.toList ∧ s' = ⟨hq, g, d, tk, os⟩ ∧ ZpF hq z TI TO (rawInt T) true ∧ (∀ e ∈ pre, ItA hq (i + 1) e) ∧ (∀ e ∈ suf, ItA hq i e) ∧ hq.objs.size = hp.objs.size ∧ ∀ c o, c ≠ z → (∀ e ∈ es, c ≠ e.1) → hp.get? c = some o → hq.get? c = some o) _ ?turn ?fin _ _ ?init
  case init => exact ⟨rfl, [], es, h1, tk0, rfl, rfl, .nil, rfl, zp1, (fun e he => by cases he), (fun e he => (its e he).over fun o ho => same1.extBut _ _ (S.jz e he) ho), same1.1, fun c o nz _ hc => same1.extBut _ _ nz hc⟩
  case turn =>
    rintro x rest b s' ⟨b0, pre, suf, hq, tk, esp, er, pd, rfl, zq, ip, is, sz, kp⟩
    cases suf with
    | nil => cases er
    | cons e suf =>
      rw [List.map_cons] at er
      obtain ⟨rfl, rfl⟩ := List.cons.inj er
      have mem : e ∈ es := by rw [esp]; simp
      refine wpAny_bind (wpAny_holding ?_)
      show wpAny _ _ (Builtin.SmallTypes.nextOf (.ref e.1) >>= _) _ _ _
      refine wpAny_bind ((Draws.text hh e.1 e.2.1 e.2.2).item i ⟨hq, g, d, tk, os⟩ _ _ (lt e mem) (is e (List.mem_cons_self ..)) fun v h' tk' dr it' same' => wpAny_pure ?_)
      refine wpAny_pure ?_
      replace same' : Heap.SameBut e.1 hq h' := same'
      have nds := S.nd
      rw [esp, List.map_append, List.map_cons, List.nodup_append] at nds
      obtain ⟨_, nd2, nd3⟩ := nds
      refine ⟨rfl, pre ++ [e], suf, h', tk', by rw [esp]; simp, rfl, ?_, rfl, same'.extBut _ _ (S.jz e mem).symm zq, fun e' he' => ?_, fun e' he' => ?_, same'.1.trans sz, fun c o nz nj hc => same'.extBut _ _ (nj e mem) (kp c o nz nj hc)⟩
      · rw [Array.toList_push]
        exact paired_snoc dr pd
      · rcases List.mem_append.mp he' with hm | hm
        · exact (ip e' hm).over fun o ho => same'.extBut _ _ (nd3 e'.1 (List.mem_map.mpr ⟨e', hm, rfl⟩) e.1 (List.mem_cons_self ..)) ho
        · rw [List.mem_singleton.mp hm]
          exact it'
      · refine (is e' (List.mem_cons_of_mem _ he')).over fun o ho => same'.extBut _ _ (fun z => ?_) ho
        exact (List.nodup_cons.mp nd2).1 (z ▸ List.mem_map.mpr ⟨e', he', rfl⟩)
  case fin =>
    rintro ⟨b1, b2⟩ s' ⟨b0, pre, suf, hq, tk, esp, er, pd, rfl, zq, ip, is, sz, kp⟩
    have : suf = [] := List.map_eq_nil_iff.mp er.symm
    subst this
    rw [List.append_nil] at esp
    subst esp
    cases (show b1 = none from b0)
    have fits : b2.toList.length ≤ sizeLine := by
      rw [← pd.length]
      exact Evl.sz_of (by omega)
    refine wpAny_bind (wpAny_newTuple ?_ fits)
    refine wpAny_pure ⟨_, rfl, ?_⟩
    have there : TpN (hq.push { cls := .type "tuple", data := .seq b2.toList.toArray }) hq.objs.size b2.toList := Heap.get?_push_size _ rfl
    have grows : (hq.push { cls := .type "tuple", data := .seq b2.toList.toArray }).objs.size = hq.objs.size + 1 := Heap.size_push ..
    rw [sz] at there grows
    show Q (.ref hq.objs.size) _
    rw [sz]
    exact k b2.toList _ tk pd (Heap.get?_push_of_some _ zq) (fun e he => (ip e he).over fun o ho => Heap.get?_push_of_some _ ho) there grows fun c o nz nj hc => Heap.get?_push_of_some _ (kp c o nz nj hc)
/-- the kept tuple is free: none was handed out, or it is gone -/
def FreeV (h : Heap) (v : Value) : Prop := v = .none ∨ ∃ T : Addr, v = rawInt T ∧ h.get? T = none
theorem gone_load {a : Addr} {Q : Option Obj → Shared → Prop} (gone : s.heap.get? a = none) (k : Q none s) : wpAny (model prog w) A (loadIfAlive a) Q E s := by
  have k' : Q (s.heap.get? a) s := by
    rw [gone]
    exact k
  exact fun _ _ _ => k'
theorem upd_tuple {t : Addr} {l : List Value} {x : Value} {j : Nat} {Q : Unit → Shared → Prop} (tp : TpN s.heap t l) (few : l.length ≤ 1000) (k : ∀ h', TpN h' t (l.set j x) → Heap.SameBut t s.heap h' → Q () { s with heap := h' }) : wpAny (model prog w) A (updateSeq t fun v => v.setIfInBounds j x) Q E s := by
  have f1 : l.toArray.size ≤ sizeLine := by
    show l.length ≤ sizeLine
    exact Evl.sz_of (by omega)
  have f2 : (l.toArray.setIfInBounds j x).size ≤ sizeLine + 1 := by
    rw [Array.size_setIfInBounds]
    omega
  refine wpAny_updateSeq tp rfl (k _ ?_ (Heap.SameBut.update ..)) f1 f2
  unfold TpN
  rw [Heap.get?_update_self _ tp rfl]
  simp [Obj.mapSeq]
theorem zn_isFree {v : Value} {Q : Bool → Shared → Prop} (zp : ZpF s.heap z TI TO v f) (fr : FreeV s.heap v) (k : Q true s) : wpAny (model prog w) A (Builtin.SmallTypes.ownedTupleIsFree (.ref z)) Q E s := by
  unfold Builtin.SmallTypes.ownedTupleIsFree
  rcases fr with rfl | ⟨T, rfl, gone⟩
  · exact wpAny_bind (wpAny_field zp rfl (x := .none) rfl (wpAny_pure k))
  · refine wpAny_bind (wpAny_field zp rfl (x := rawInt T) rfl ?_)
    show wpAny _ _ (loadIfAlive ((T : Int).toNat) >>= _) _ _ _
    rw [Int.toNat_natCast]
    refine wpAny_bind (gone_load gone ?_)
    exact wpAny_pure k
theorem zn_free {v : Value} {old : List Value} {Q : Value → Shared → Prop} (hh : A.handled = none) (S : SepN z TI TO es) (ne : es ≠ []) (few : es.length ≤ 1000) (zp : ZpF s.heap z TI TO v f) (fr : FreeV s.heap v) (tI : TpN s.heap TI (es.map fun e => .ref e.1)) (tO : TpN s.heap TO old) (ol : old.length = es.length) (its : ∀ e ∈ es, ItA s.heap i e) (lt : ∀ e ∈ es, i < e.2.1.cps.size)
    (k : ∀ vs h' tk, Paired (Dr i) es vs → ZpF h' z TI TO (rawInt s.heap.objs.size) false → TpN h' TO vs → (∀ e ∈ es, ItA h' (i + 1) e) → TpN h' s.heap.objs.size vs → h'.objs.size = s.heap.objs.size + 1 → (∀ c o, c ≠ z → c ≠ TO → (∀ e ∈ es, c ≠ e.1) → s.heap.get? c = some o → h'.get? c = some o) → Q (.ref s.heap.objs.size) { s with heap := h', toks := tk }) :
    wpAny (model prog w) A (Builtin.«zip.__next__» ⟨[.ref z], []⟩) (fun fin s' => ∃ v, fin = .done (.ret v) ∧ Q v s') E s := by
  obtain ⟨hp, g, d, tk0, os⟩ := s
  show wpAny _ _ (field (.ref z) 2 >>= _) _ _ _
  refine wpAny_bind (wpAny_field zp rfl (x := .bool false) rfl ?_)
  show wpAny _ _ (field (.ref z) 3 >>= _) _ _ _
  refine wpAny_bind (wpAny_field zp rfl (x := .ref TI) rfl ?_)
  refine wpAny_bind (wpAny_seqItems tI rfl ?_)
  have full : ((es.map fun e => Value.ref e.1).toArray.isEmpty) = false := by
    cases es with
    | nil => exact absurd rfl ne
    | cons a r => simp
  dsimp only
  rw [full]
  show wpAny _ _ (Builtin.SmallTypes.ownedTupleIsFree (.ref z) >>= _) _ _ _
  refine wpAny_bind (zn_isFree zp fr ?_)
  simp only [if_true]
  refine wpAny_bind (wpAny_rule ?_)
  refine wpAny_bind (wpAny_field zp rfl (x := .ref TO) rfl ?_)
  refine wpAny_bind (wpAny_setField_rec zp (by simp) fun g0 z0 same0 => ?_)
  replace z0 : ZpF g0 z TI TO .ellipsis f := z0
  replace same0 : Heap.SameBut z hp g0 := same0
  refine wpAny_bind ?_
  refine wpAny_forIn_list _ (fun rest b s' => b.1 = none ∧ ∃ (pre suf : List Tri) (vs left : List Value) (hq : Heap) (tk : Nat), es = pre ++ suf ∧ rest = (suf.map fun e => Value.ref e.1).zipIdx pre.length ∧ Paired (Dr i) pre vs ∧ left.length = suf.length ∧ s' = ⟨hq, g, d, tk, os⟩ ∧ ZpF hq z TI TO .ellipsis f ∧ TpN hq TO (vs ++ left) ∧ (∀ e ∈ pre, ItA hq (i + 1) e) ∧ (∀ e ∈ suf, ItA hq i e) ∧ hq.objs.size = hp.objs.size ∧ ∀ c o, c ≠ z → c ≠ TO → (∀ e ∈ es, c ≠ e.1) → hp.get? c = some o → hq.get? c = some o) _ ?turn ?fin _ _ ?init
  case init => exact ⟨rfl, [], es, [], old, g0, tk0, rfl, rfl, .nil, ol, rfl, z0, same0.extBut _ _ S.zO.symm tO, (fun e he => by cases he), (fun e he => (its e he).over fun o ho => same0.extBut _ _ (S.jz e he) ho), same0.1, fun c o nz _ _ hc => same0.extBut _ _ nz hc⟩
  case turn =>
    rintro ⟨x, n⟩ rest b s' ⟨b0, pre, suf, vs, left, hq, tk, esp, er, pd, ll, rfl, zq, tq, ip, is, sz, kp⟩
    cases suf with
    | nil => cases er
    | cons e suf =>
      cases left with
      | nil => cases ll
      | cons o0 left =>
        rw [List.map_cons, List.zipIdx_cons] at er
        obtain ⟨er1, rfl⟩ := List.cons.inj er
        obtain ⟨rfl, rfl⟩ := Prod.mk.inj er1
        have mem : e ∈ es := by rw [esp]; simp
        refine wpAny_bind (wpAny_onRaise ?_)
        show wpAny _ _ (Builtin.SmallTypes.nextOf (.ref e.1) >>= _) _ _ _
        refine wpAny_bind ((Draws.text hh e.1 e.2.1 e.2.2).item i ⟨hq, g, d, tk, os⟩ _ _ (lt e mem) (is e (List.mem_cons_self ..)) fun v h' tk' dr it' same' => wpAny_pure ?_)
        replace same' : Heap.SameBut e.1 hq h' := same'
        have tq' : TpN h' TO (vs ++ o0 :: left) := same'.extBut _ _ (S.jO e mem).symm tq
        have room : (vs ++ o0 :: left).length ≤ 1000 := by
          have l1 := pd.length
          have l2 := congrArg List.length esp
          rw [List.length_append] at l2 ⊢
          simp only [List.length_cons] at ll l2 ⊢
          omega
        refine wpAny_bind (wpAny_seqItems (s := ⟨h', g, d, tk', os⟩) tq' rfl ?_)
        refine wpAny_bind (upd_tuple (s := ⟨h', g, d, tk', os⟩) tq' room fun h2 t2 same2 => ?_)
        replace same2 : Heap.SameBut TO h' h2 := same2
        refine wpAny_bind (wpAny_letGo (wpAny_pure ?_))
        have nds := S.nd
        rw [esp, List.map_append, List.map_cons, List.nodup_append] at nds
        obtain ⟨_, nd2, nd3⟩ := nds
        have len := pd.length
        refine ⟨rfl, pre ++ [e], suf, vs ++ [v], left, h2, tk', by rw [esp]; simp, by rw [List.length_append]; rfl, paired_snoc dr pd, by simpa using ll, rfl, same2.extBut _ _ S.zO (same'.extBut _ _ (S.jz e mem).symm zq), ?_, fun e' he' => ?_, fun e' he' => ?_, (same2.1.trans same'.1).trans sz, fun c o nz nO nj hc => same2.extBut _ _ nO (same'.extBut _ _ (nj e mem) (kp c o nz nO nj hc))⟩
        · rw [len, List.set_append_right _ _ (Nat.le_refl _), Nat.sub_self] at t2
          rw [List.append_assoc]
          exact t2
        · rcases List.mem_append.mp he' with hm | hm
          · exact ((ip e' hm).over fun o ho => same'.extBut _ _ (nd3 e'.1 (List.mem_map.mpr ⟨e', hm, rfl⟩) e.1 (List.mem_cons_self ..)) ho).over fun o ho => same2.extBut _ _ (S.jO e' (by rw [esp]; exact List.mem_append.mpr (.inl hm))) ho
          · rw [List.mem_singleton.mp hm]
            exact ItA.over (h := h') it' fun o ho => same2.extBut _ _ (S.jO e mem) ho
        · refine ((is e' (List.mem_cons_of_mem _ he')).over fun o ho => same'.extBut _ _ (fun z => ?_) ho).over fun o ho => same2.extBut _ _ (S.jO e' (by rw [esp]; exact List.mem_append.mpr (.inr (List.mem_cons_of_mem _ he')))) ho
          exact (List.nodup_cons.mp nd2).1 (z ▸ List.mem_map.mpr ⟨e', he', rfl⟩)
  case fin =>
    rintro ⟨b1, b2⟩ s' ⟨b0, pre, suf, vs, left, hq, tk, esp, er, pd, ll, rfl, zq, tq, ip, is, sz, kp⟩
    have none' : suf = [] := by
      cases suf with
      | nil => rfl
      | cons a r =>
        rw [List.map_cons, List.zipIdx_cons] at er
        cases er
    subst none'
    rw [List.append_nil] at esp
    subst esp
    have none2 : left = [] := List.length_eq_zero_iff.mp ll
    subst none2
    rw [List.append_nil] at tq
    cases (show b1 = none from b0)
    have fits : vs.toArray.toList.length ≤ sizeLine := by
      show vs.length ≤ sizeLine
      rw [← pd.length]
      exact Evl.sz_of (by omega)
    refine wpAny_bind (wpAny_seqItems (s := ⟨hq, g, d, tk, os⟩) tq rfl ?_)
    refine wpAny_bind (wpAny_newTuple ?_ fits)
    have zlt : z < hq.objs.size := Heap.lt_size zq
    show wpAny _ _ (Builtin.SmallTypes.ownedTupleHandOut (.ref z) (.ref hq.objs.size) >>= _) _ _ ⟨hq.push { cls := .type "tuple", data := .seq vs.toArray }, g, d, tk, os⟩
    refine wpAny_bind ?_
    unfold Builtin.SmallTypes.ownedTupleHandOut
    have zq3 : ZpF (hq.push { cls := .type "tuple", data := .seq vs.toArray }) z TI TO .ellipsis f := Heap.get?_push_of_some _ zq
    refine wpAny_bind (wpAny_setField_rec zq3 (by simp) fun h4 zq4 same4 => ?_)
    replace zq4 : ZpF h4 z TI TO (rawInt hq.objs.size) f := zq4
    replace same4 : Heap.SameBut z (hq.push { cls := .type "tuple", data := .seq vs.toArray }) h4 := same4
    refine wpAny_setField_rec zq4 (by simp) fun h5 zq5 same5 => ?_
    replace zq5 : ZpF h5 z TI TO (rawInt hq.objs.size) false := zq5
    replace same5 : Heap.SameBut z h4 h5 := same5
    have up : ∀ c o, c ≠ z → hq.get? c = some o → h5.get? c = some o := fun c o nz hc => same5.extBut _ _ nz (same4.extBut _ _ nz (Heap.get?_push_of_some _ hc))
    have there : TpN h5 hq.objs.size vs := same5.extBut _ _ (Nat.ne_of_gt zlt) (same4.extBut _ _ (Nat.ne_of_gt zlt) (Heap.get?_push_size _ rfl))
    have grows : h5.objs.size = hq.objs.size + 1 := by rw [same5.1, same4.1, Heap.size_push]
    rw [sz] at zq5 there grows
    refine wpAny_pure ⟨_, rfl, ?_⟩
    show Q (.ref hq.objs.size) ⟨h5, g, d, tk, os⟩
    rw [sz]
    exact k vs h5 tk pd zq5 (up _ _ S.zO.symm tq) (fun e he => (ip e he).over fun o ho => up _ _ (S.jz e he) ho) there grows fun c o nz nO nj hc => up c o nz (kp c o nz nO nj hc)
/-- all have ended -/
theorem zn_end {v : Value} {Q : Fin → Shared → Prop} (hh : A.handled = none) (S : SepN z TI TO es) (ne : es ≠ []) (zp : ZpF s.heap z TI TO v f) (any : FreeV s.heap v ∨ ∃ (T : Addr) (o : Obj), v = rawInt T ∧ s.heap.get? T = some o) (tI : TpN s.heap TI (es.map fun e => .ref e.1)) (its : ∀ e ∈ es, ItA s.heap e.2.1.cps.size e)
    (k : ∀ h' x, (∀ c o, c ≠ z → (∀ e ∈ es, c ≠ e.1) → s.heap.get? c = some o → h'.get? c = some o) → (∃ o, h'.get? x = some o ∧ o.cls = .type "StopIteration") → E (.ref x) { s with heap := h' }) :
    wpAny (model prog w) A (Builtin.«zip.__next__» ⟨[.ref z], []⟩) Q E s := by
  obtain ⟨hp, g, d, tk0, os⟩ := s
  show wpAny _ _ (field (.ref z) 2 >>= _) _ _ _
  refine wpAny_bind (wpAny_field zp rfl (x := .bool false) rfl ?_)
  show wpAny _ _ (field (.ref z) 3 >>= _) _ _ _
  refine wpAny_bind (wpAny_field zp rfl (x := .ref TI) rfl ?_)
  refine wpAny_bind (wpAny_seqItems tI rfl ?_)
  cases es with
  | nil => exact absurd rfl ne
  | cons e es =>
    have mem : e ∈ e :: es := List.mem_cons_self ..
    show wpAny _ _ (Builtin.SmallTypes.ownedTupleIsFree (.ref z) >>= _) _ _ _
    rcases any with fr | ⟨T, oT, rfl, tA⟩
    · refine wpAny_bind (zn_isFree zp fr ?_)
      simp only [if_true]
      refine wpAny_bind (wpAny_rule ?_)
      refine wpAny_bind (wpAny_field zp rfl (x := .ref TO) rfl ?_)
      refine wpAny_bind (wpAny_setField_rec zp (by simp) fun g0 z0 same0 => ?_)
      replace z0 : ZpF g0 z TI TO .ellipsis f := z0
      replace same0 : Heap.SameBut z hp g0 := same0
      refine wpAny_bind ?_
      simp only [List.map_cons, List.zipIdx_cons, List.forIn_cons]
      refine wpAny_bind (wpAny_bind (wpAny_onRaise ?_))
      show wpAny _ _ (Builtin.SmallTypes.nextOf (.ref e.1) >>= _) _ _ ⟨g0, g, d, tk0, os⟩
      refine wpAny_bind ((Draws.text hh e.1 e.2.1 e.2.2).done ⟨g0, g, d, tk0, os⟩ _ _ ((its e mem).over fun o ho => same0.extBut _ _ (S.jz e mem) ho) fun q x ext he => ?_)
      replace ext : Heap.ExtBut e.1 g0 q := ext
      obtain ⟨ox, hx, cx⟩ := he
      replace hx : q.get? x = some ox := hx
      have zq : ZpF q z TI TO .ellipsis f := ext _ _ (S.jz e mem).symm z0
      have nxz : x ≠ z := fun y => by
        subst y
        rw [zq] at hx
        cases hx
        simp at cx
      refine wpAny_setField_rec (s := ⟨q, g, d, tk0, os⟩) zq (by simp) fun q' _ same' => ?_
      replace same' : Heap.SameBut z q q' := same'
      exact k q' x (fun c o nz nj hc => same'.extBut _ _ nz (ext _ _ (nj e mem) (same0.extBut _ _ nz hc))) ⟨ox, same'.extBut _ _ nxz hx, cx⟩
    · refine wpAny_bind (wpAny_tupleHeld_zip zp tA fun h1 zp1 same1 => ?_)
      simp only [Bool.false_eq_true, if_false]
      refine wpAny_bind ?_
      rw [← Array.forIn_toList]
      simp only [List.map_cons, List.forIn_cons]
      refine wpAny_bind (wpAny_bind (wpAny_holding ?_))
      show wpAny _ _ (Builtin.SmallTypes.nextOf (.ref e.1) >>= _) _ _ _
      refine wpAny_bind ((Draws.text hh e.1 e.2.1 e.2.2).done _ _ _ ((its e mem).over fun o ho => same1.extBut _ _ (S.jz e mem) ho) fun q x ext he => ?_)
      exact k q x (fun c o nz nj hc => ext _ _ (nj e mem) (same1.extBut _ _ nz hc)) he
end
end Dw

set_option Elab.async false
set_option linter.all false
set_option maxRecDepth 100000
namespace Dw
open PySem PySem.Spec PyProof.Rows PySem.W
def esOf : Nat → List (Str × Tok) → List Tri
  | _, [] => []
  | N, p :: r => (N, p.1, p.2) :: esOf (N + 1) r
theorem esOf_len : ∀ (N : Nat) (ps : List (Str × Tok)), (esOf N ps).length = ps.length
  | _, [] => rfl
  | N, p :: r => by
    rw [esOf, List.length_cons, List.length_cons, esOf_len (N + 1) r]
theorem esOf_mem : ∀ {N : Nat} {ps : List (Str × Tok)} {e : Tri}, e ∈ esOf N ps → N ≤ e.1 ∧ e.1 < N + ps.length ∧ ∃ p ∈ ps, e.2 = p
  | _, [], _, h => by cases h
  | N, p :: r, e, h => by
    rw [esOf] at h
    rcases List.mem_cons.mp h with rfl | h
    · exact ⟨Nat.le_refl _, by simp, p, List.mem_cons_self .., rfl⟩
    · obtain ⟨h1, h2, q, hq, e2⟩ := esOf_mem h
      exact ⟨by omega, by simp; omega, q, List.mem_cons_of_mem _ hq, e2⟩
theorem esOf_nd : ∀ (N : Nat) (ps : List (Str × Tok)), ((esOf N ps).map fun e => e.1).Nodup
  | _, [] => by simp [esOf]
  | N, p :: r => by
    rw [esOf, List.map_cons, List.nodup_cons]
    refine ⟨fun h => ?_, esOf_nd (N + 1) r⟩
    obtain ⟨e, he, en⟩ := List.mem_map.mp h
    have := (esOf_mem he).1
    simp only at en
    omega
theorem esOf_texts : ∀ (N : Nat) (ps : List (Str × Tok)), ((esOf N ps).map fun e => e.2.1) = ps.map fun p => p.1
  | _, [] => rfl
  | N, p :: r => by
    rw [esOf, List.map_cons, List.map_cons, esOf_texts (N + 1) r]
section
variable {prog : Program} {w : World} {A : Around} {E : Value → Shared → Prop}
theorem it_all {ps : List (Str × Tok)} {hp : Heap} {g : Array GenState} {d : Drawn} {tk : Nat} {os : OsState} {Q : List Value → Shared → Prop}
    (k : ∀ h', (∀ e ∈ esOf hp.objs.size ps, ItA h' 0 e) → h'.objs.size = hp.objs.size + ps.length → (∀ c o, hp.get? c = some o → h'.get? c = some o) → Q ((esOf hp.objs.size ps).map fun e => Value.ref e.1) ⟨h', g, d, tk, os⟩) :
    wpAny (model prog w) A (Builtin.SmallTypes.iterAll (ps.map fun p => Value.str p.1 p.2)) Q E ⟨hp, g, d, tk, os⟩ := by
  unfold Builtin.SmallTypes.iterAll
  refine wpAny_bind ?_
  refine wpAny_forIn_list _ (fun rest b s' => ∃ (pre suf : List (Str × Tok)) (hq : Heap), ps = pre ++ suf ∧ rest = (suf.map fun p => Value.str p.1 p.2) ∧ b.toList = ((esOf hp.objs.size pre).map fun e => Value.ref e.1) ∧ s' = ⟨hq, g, d, tk, os⟩ ∧ (∀ e ∈ esOf hp.objs.size pre, ItA hq 0 e) ∧ hq.objs.size = hp.objs.size + pre.length ∧ ∀ c o, hp.get? c = some o → hq.get? c = some o) _ ?turn ?fin _ _ ?init
  case init => exact ⟨[], ps, hp, rfl, rfl, rfl, rfl, (fun e he => by cases he), rfl, fun c o hc => hc⟩
  case turn =>
    rintro x rest b s' ⟨pre, suf, hq, ep, er, eb, rfl, is, sz, kp⟩
    cases suf with
    | nil => cases er
    | cons p suf =>
      rw [List.map_cons] at er
      obtain ⟨rfl, rfl⟩ := List.cons.inj er
      refine wpAny_bind (wpAny_holding (wpAny_pyIter_strU ?_))
      refine wpAny_pure ?_
      have app : ∀ (N : Nat) (l : List (Str × Tok)), esOf N (l ++ [p]) = esOf N l ++ [(N + l.length, p.1, p.2)] := by
        intro N l
        induction l generalizing N with
        | nil => rfl
        | cons a l ih =>
          rw [List.cons_append, esOf, esOf, ih, List.cons_append, List.length_cons, show N + 1 + l.length = N + (l.length + 1) by omega]
      refine ⟨pre ++ [p], suf, _, by rw [ep]; simp, rfl, ?_, rfl, fun e he => ?_, ?_, fun c o hc => Heap.get?_push_of_some _ (kp c o hc)⟩
      · rw [Array.toList_push, eb, app, List.map_append]
        show _ ++ [Value.ref hq.objs.size] = _ ++ [Value.ref (hp.objs.size + pre.length)]
        rw [sz]
      · rw [app] at he
        rcases List.mem_append.mp he with hm | hm
        · exact (is e hm).over fun o ho => Heap.get?_push_of_some _ ho
        · rw [List.mem_singleton.mp hm]
          refine ⟨{ cls := .type (strIterType p.1), data := .fields #[.str p.1 p.2, .int 0 0] }, ?_, rfl, rfl⟩
          show (hq.push _).get? (hp.objs.size + pre.length) = _
          rw [← sz]
          exact Heap.get?_push_size _ rfl
      · rw [Heap.size_push, sz, List.length_append]
        rfl
  case fin =>
    rintro b s' ⟨pre, suf, hq, ep, er, eb, rfl, is, sz, kp⟩
    have : suf = [] := List.map_eq_nil_iff.mp er.symm
    subst this
    rw [List.append_nil] at ep
    subst ep
    refine wpAny_pure ?_
    rw [eb]
    exact k hq is sz kp
end
theorem zn_new {ps : List (Str × Tok)} (few : ps.length ≤ 1000) : Meets (Builtin.«zip.__new__» ⟨.type "zip" :: ps.map fun p => Value.str p.1 p.2, []⟩) (fun _ R s => ∀ h', (∀ e ∈ esOf s.heap.objs.size ps, ItA h' 0 e) → TpN h' (s.heap.objs.size + ps.length) ((esOf s.heap.objs.size ps).map fun e => Value.ref e.1) → TpN h' (s.heap.objs.size + ps.length + 1) ((esOf s.heap.objs.size ps).map fun _ => Value.none) →
      ZpF h' (s.heap.objs.size + ps.length + 2) (s.heap.objs.size + ps.length) (s.heap.objs.size + ps.length + 1) .none false → (∀ c o, s.heap.get? c = some o → h'.get? c = some o) → R (.ok (.ret (.ref (s.heap.objs.size + ps.length + 2)))) { s with heap := h' }) :=
  .of_wp fun prog w A R s h => by
    obtain ⟨hp, g, d, tk, os⟩ := s
    unfold Builtin.«zip.__new__»
    refine wpAny_bind (wpAny_of_eq (a := (Value.type "zip", ps.map fun p => Value.str p.1 p.2)) ?_ ?_)
    · unfold Builtin.SmallTypes.newClass
      simp only [isType, sub_zip, pure_bind, Bool.not_true, Bool.false_eq_true, if_false]
    · show wpAny _ _ (Builtin.SmallTypes.iterAll (ps.map fun p => Value.str p.1 p.2) >>= _) _ _ _
      refine wpAny_bind (it_all fun h1 is sz kp => ?_)
      have fits : ((esOf hp.objs.size ps).map fun e => Value.ref e.1).length ≤ sizeLine := by
        rw [List.length_map, esOf_len]
        exact Evl.sz_of (by omega)
      have fits2 : (((esOf hp.objs.size ps).map fun e => Value.ref e.1).map fun _ => Value.none).length ≤ sizeLine := by
        rw [List.length_map]
        exact fits
      refine wpAny_bind (wpAny_newTuple ?_ fits)
      refine wpAny_bind (wpAny_newTuple ?_ fits2)
      obtain ⟨o1, ho1⟩ : ∃ o : Obj, o = { cls := .type "tuple", data := .seq ((esOf hp.objs.size ps).map fun e => Value.ref e.1).toArray } := ⟨_, rfl⟩
      obtain ⟨o2, ho2⟩ : ∃ o : Obj, o = { cls := .type "tuple", data := .seq (((esOf hp.objs.size ps).map fun e => Value.ref e.1).map fun _ => Value.none).toArray } := ⟨_, rfl⟩
      show wpAny _ _ (newObj (.type "zip") (.fields #[.none, .bool false, .bool false, .ref h1.objs.size, .ref (h1.push { cls := .type "tuple", data := .seq ((esOf hp.objs.size ps).map fun e => Value.ref e.1).toArray }).objs.size]) >>= _) _ _ ⟨(h1.push { cls := .type "tuple", data := .seq ((esOf hp.objs.size ps).map fun e => Value.ref e.1).toArray }).push { cls := .type "tuple", data := .seq (((esOf hp.objs.size ps).map fun e => Value.ref e.1).map fun _ => Value.none).toArray }, g, d, tk, os⟩
      rw [← ho1, ← ho2]
      have z1 : (h1.push o1).objs.size = hp.objs.size + ps.length + 1 := by rw [Heap.size_push, sz]
      have z2 : ((h1.push o1).push o2).objs.size = hp.objs.size + ps.length + 2 := by rw [Heap.size_push, z1]
      refine wpAny_bind (wpAny_newObj_type (wpAny_pure ⟨_, rfl, ?_⟩) (by show (5 : Nat) ≤ sizeLine + 2; decide))
      show R (.ok (.ret (.ref ((h1.push o1).push o2).objs.size))) _
      rw [z2, z1, sz]
      refine h _ (fun e he => (is e he).over fun o ho => Heap.get?_push_of_some _ (Heap.get?_push_of_some _ (Heap.get?_push_of_some _ ho))) ?_ ?_ ?_ fun c o hc => Heap.get?_push_of_some _ (Heap.get?_push_of_some _ (Heap.get?_push_of_some _ (kp c o hc)))
      · have t : (h1.push o1).get? h1.objs.size = some o1 := Heap.get?_push_size _ (by rw [ho1]; rfl)
        rw [sz] at t
        rw [ho1] at t ⊢
        exact Heap.get?_push_of_some _ (Heap.get?_push_of_some _ t)
      · have t : ((h1.push o1).push o2).get? (h1.push o1).objs.size = some o2 := Heap.get?_push_size _ (by rw [ho2]; rfl)
        rw [z1] at t
        have e2 : (((esOf hp.objs.size ps).map fun e => Value.ref e.1).map fun _ => Value.none) = (esOf hp.objs.size ps).map fun _ => Value.none := by rw [List.map_map]; rfl
        rw [e2] at ho2
        have t2 := t
        rw [ho2] at t2
        rw [← ho2] at t2
        show Heap.get? _ _ = some { cls := .type "tuple", data := .seq ((esOf hp.objs.size ps).map fun _ => Value.none).toArray }
        rw [← ho2]
        exact Heap.get?_push_of_some _ t
      · have t := Heap.get?_push_size ((h1.push o1).push o2) (o := { cls := .type "zip", dict := none, data := .fields #[.none, .bool false, .bool false, .ref (hp.objs.size + ps.length), .ref (hp.objs.size + ps.length + 1)] }) rfl
        rw [z2] at t
        exact t
end Dw

set_option Elab.async false
set_option linter.all false
set_option maxRecDepth 100000
namespace Dw
open PySem PySem.Spec PyProof.Rows PySem.W
theorem initArgs (obj : Value) (us : List Value) (h : us.length ≤ 8) : argsOk "object.__init__" ⟨obj :: us, []⟩ := by
  unfold argsOk; rw [signature?_of (id := "object.__init__") (n := ['_', '_', 't', 'i', 'n', 'i', '_', '_']) (o := ['t', 'c', 'e', 'j', 'b', 'o']) (by kernel_rfl) F.owner_object]
  match us, h with
  | [], _ => kernel_rfl
  | [_], _ => kernel_rfl
  | [_, _], _ => kernel_rfl
  | [_, _, _], _ => kernel_rfl
  | [_, _, _, _], _ => kernel_rfl
  | [_, _, _, _, _], _ => kernel_rfl
  | [_, _, _, _, _, _], _ => kernel_rfl
  | [_, _, _, _, _, _, _], _ => kernel_rfl
  | [_, _, _, _, _, _, _, _], _ => kernel_rfl
theorem zipCall (us : List Value) (h : us.length ≤ 8) : checkTypeCall "zip" ⟨us, []⟩ = pure () ∧ checkBuiltinCall "zip.__new__" ⟨.type "zip" :: us, []⟩ = pure () := by
  match us, h with
  | [], _ => exact ⟨by kernel_rfl, by kernel_rfl⟩
  | [_], _ => exact ⟨by kernel_rfl, by kernel_rfl⟩
  | [_, _], _ => exact ⟨by kernel_rfl, by kernel_rfl⟩
  | [_, _, _], _ => exact ⟨by kernel_rfl, by kernel_rfl⟩
  | [_, _, _, _], _ => exact ⟨by kernel_rfl, by kernel_rfl⟩
  | [_, _, _, _, _], _ => exact ⟨by kernel_rfl, by kernel_rfl⟩
  | [_, _, _, _, _, _], _ => exact ⟨by kernel_rfl, by kernel_rfl⟩
  | [_, _, _, _, _, _, _], _ => exact ⟨by kernel_rfl, by kernel_rfl⟩
  | [_, _, _, _, _, _, _, _], _ => exact ⟨by kernel_rfl, by kernel_rfl⟩
section
variable {prog : Program} {w : World} {A : Around} {E : Value → Shared → Prop} {s : Shared}
theorem zn_begin {ps : List (Str × Tok)} {Q : Value → Shared → Prop} (h8 : ps.length ≤ 8) (k : ∀ h', (∀ e ∈ esOf s.heap.objs.size ps, ItA h' 0 e) → TpN h' (s.heap.objs.size + ps.length) ((esOf s.heap.objs.size ps).map fun e => Value.ref e.1) → TpN h' (s.heap.objs.size + ps.length + 1) ((esOf s.heap.objs.size ps).map fun _ => Value.none) →
      ZpF h' (s.heap.objs.size + ps.length + 2) (s.heap.objs.size + ps.length) (s.heap.objs.size + ps.length + 1) .none false → (∀ c o, s.heap.get? c = some o → h'.get? c = some o) → Q (.ref (s.heap.objs.size + ps.length + 2)) { s with heap := h' }) :
    wpAny (model prog w) A (call (.type "zip") (ps.map fun p => Value.str p.1 p.2)) Q E s := by
  have hl : (ps.map fun p => Value.str p.1 p.2).length ≤ 8 := by rw [List.length_map]; exact h8
  refine callType_new F.called_zip (by decide) (zipCall _ hl).1 (zipCall _ hl).2 (fun obj => initArgs obj _ hl) F.entry_zip_new (zn_new (by omega)) fun h' a b c zp kp => ?_
  exact ⟨⟨_, zp, rfl⟩, k h' a b c zp kp⟩
end
end Dw
open PySem PySem.Spec PyProof.Rows L2
namespace Dw
/-- the turns of zip(*texts), all of one length n -/
def Itzn (ls : List (List Nat)) (n : Nat) : It := ⟨fun i _ => i < n, fun i H v H' => ∃ T, v = .ref T ∧ H T = none ∧ H' = upd H T (.tup (ls.map fun l => V.str (Tx [l.getD i 0]))), fun i _ => i = n⟩
theorem vals_of {i : Nat} : ∀ {es : List Tri} {ls : List (List Nat)} {vs : List Value}, (es.map fun e => e.2.1) = ls.map Tx → Paired (Dr i) es vs → Vals (ls.map fun l => V.str (Tx [l.getD i 0])) vs
  | [], [], _, _, .nil => .nil
  | [], _ :: _, _, h, _ => by cases h
  | _ :: _, [], _, h, _ => by cases h
  | e :: es, l :: ls, _, h, .cons r t => by
    rw [List.map_cons, List.map_cons] at h
    obtain ⟨h1, h2⟩ := List.cons.inj h
    obtain ⟨c, u, hc, rfl⟩ := r
    rw [h1] at hc
    have hc2 : l[i]? = some c := by
      rw [← hc]
      simp [Tx]
    have e1 : l.getD i 0 = c := by rw [List.getD_eq_getElem?_getD, hc2]; rfl
    rw [List.map_cons, e1]
    exact .cons ⟨u, rfl⟩ (vals_of h2 t)
def ZnAt (z TI TO : Addr) (es : List Tri) (i : Nat) (h : Heap) : Prop := (∃ (v : Value) (f : Bool) (old : List Value), (v = .none ∨ ∃ T : Addr, v = rawInt T) ∧ ZpF h z TI TO v f ∧ TpN h TO old ∧ old.length = es.length) ∧ TpN h TI (es.map fun e => .ref e.1) ∧ ∀ e ∈ es, ItA h i e
theorem free_or {h : Heap} {v : Value} (hv : v = .none ∨ ∃ T : Addr, v = rawInt T) : FreeV h v ∨ ∃ (T : Addr) (o : Obj), v = rawInt T ∧ h.get? T = some o := by
  rcases hv with rfl | ⟨T, rfl⟩
  · exact .inl (.inl rfl)
  · cases e : h.get? T with
    | none => exact .inl (.inr ⟨T, rfl, e⟩)
    | some o => exact .inr ⟨T, o, rfl, e⟩
theorem turn_zipN {P : Program} {w : World} {K : PySem.W.Frag} {nm : Str} {npos : Pos} {z TI TO : Addr} {es : List Tri} {ls : List (List Nat)} {n : Nat} (S : SepN z TI TO es) (ne : es ≠ []) (h8 : es.length ≤ 8) (ht : (es.map fun e => e.2.1) = ls.map Tx) (hn : ∀ e ∈ es, e.2.1.cps.size = n) :
    Turn P w K (.Name nm npos) (Itzn ls n) (z :: TI :: TO :: es.map fun e => e.1) z (ZnAt z TI TO es) where
  mem := by simp
  obj := fun i h st c hc => by
    obtain ⟨⟨v, f, old, _, zp, tO, _⟩, tI, is⟩ := st
    simp only [List.mem_cons] at hc
    rcases hc with rfl | rfl | rfl | hc
    · exact ⟨_, zp, fun v q => nomatch q⟩
    · exact ⟨_, tI, fun v q => nomatch q⟩
    · exact ⟨_, tO, fun v q => nomatch q⟩
    · obtain ⟨e, he, rfl⟩ := List.mem_map.mp hc
      obtain ⟨o, ho, _, hd⟩ := is e he
      exact ⟨o, ho, fun v q => by rw [hd] at q; cases q⟩
  keep := fun i h h' st k => by
    obtain ⟨⟨v, f, old, hv, zp, tO, lo⟩, tI, is⟩ := st
    exact ⟨⟨v, f, old, hv, k z (by simp) _ zp, k TO (by simp) _ tO, lo⟩, k TI (by simp) _ tI, fun e he => (is e he).over fun o ho => k e.1 (by simp only [List.mem_cons]; exact .inr (.inr (.inr (List.mem_map.mpr ⟨e, he, rfl⟩)))) o ho⟩
  item := by
    intro X hP hw hK hc i pins s σ H E I hf st hg
    subst hP hw hK
    have hh : X.A.handled = none := I.ok.hd hc
    obtain ⟨⟨v, f, old, hv, zp, tO, lo⟩, tI, is⟩ := st
    have lt : ∀ e ∈ es, i < e.2.1.cps.size := fun e he => by rw [hn e he]; exact hg
    have main : ∀ (vs : List Value) (h' : Heap) (tk : Nat), Paired (Dr i) es vs → (∃ (v : Value) (f : Bool) (old : List Value), (v = .none ∨ ∃ T : Addr, v = rawInt T) ∧ ZpF h' z TI TO v f ∧ TpN h' TO old ∧ old.length = es.length) → TpN h' TI (es.map fun e => .ref e.1) → (∀ e ∈ es, ItA h' (i + 1) e) → TpN h' s.heap.objs.size vs → (∀ c o, c ≠ z → c ≠ TO → (∀ e ∈ es, c ≠ e.1) → s.heap.get? c = some o → h'.get? c = some o) →
        ∃ u, (some (Value.ref s.heap.objs.size)) = some u ∧ wpAny (model X.prog X.w) X.A (letOwnedTupleGo (.Name nm npos) (.ref z) u) (fun _ s2 => ∃ x H', Inv X pins σ H' s2 ∧ RelV x u ∧ (Itzn ls n).yld i H x H' ∧ ZnAt z TI TO es (i + 1) s2.heap ∧ ∀ b ∈ (z :: TI :: TO :: es.map fun e => e.1), H' b = none) E { s with heap := h', toks := tk } := fun vs h' tk pd sz tI' is' tp kp => by
      refine ⟨_, rfl, wpAny_pure ?_⟩
      have rel := vals_of ht pd
      have few : (ls.map fun l => V.str (Tx [l.getD i 0])).length ≤ sizeLine := by
        rw [rel.length, ← pd.length]
        exact Evl.sz_of (by omega)
      have new : ObjOk X.prog X.w (upd H s.heap.objs.size (.tup (ls.map fun l => V.str (Tx [l.getD i 0])))) h' s.heap.objs.size (.tup (ls.map fun l => V.str (Tx [l.getD i 0]))) := ⟨few, vs, rel, ⟨_, tp, rfl, _, rfl⟩⟩
      have I1 : Inv X pins σ (upd H s.heap.objs.size (.tup (ls.map fun l => V.str (Tx [l.getD i 0])))) { s with heap := h', toks := tk } :=
        I.turnedNew (t' := tk) (ch := z :: TI :: TO :: es.map fun e => e.1) (fun b o hb q => kp b o (fun y => hb (by rw [y]; simp)) (fun y => hb (by rw [y]; simp)) (fun e he y => hb (by rw [y]; simp only [List.mem_cons]; exact .inr (.inr (.inr (List.mem_map.mpr ⟨e, he, rfl⟩))))) q) hf (Nat.le_refl _) new
      refine ⟨.ref s.heap.objs.size, _, I1, rfl, ⟨s.heap.objs.size, rfl, I.hok.fresh (Nat.le_refl _), rfl⟩, ⟨sz, tI', is'⟩, fun b hb => ?_⟩
      have hlt : b < s.heap.objs.size := by
        simp only [List.mem_cons] at hb
        rcases hb with rfl | rfl | rfl | hb
        · exact Heap.lt_size zp
        · exact Heap.lt_size tI
        · exact Heap.lt_size tO
        · obtain ⟨e, he, rfl⟩ := List.mem_map.mp hb
          obtain ⟨o, ho, _⟩ := is e he
          exact Heap.lt_size ho
      rw [upd_ne (Nat.ne_of_lt hlt)]
      exact (hf b hb).1
    have ty : s.TypeIs (.ref z) "zip" := ⟨_, zp, rfl⟩
    have tIkeep : ∀ {h' : Heap}, (∀ c o, c ≠ z → c ≠ TO → (∀ e ∈ es, c ≠ e.1) → s.heap.get? c = some o → h'.get? c = some o) → TpN h' TI (es.map fun e => .ref e.1) := fun kp => kp _ _ S.zT.symm S.TTO (fun e he y => S.jT e he y.symm) tI
    unfold pyNext
    rcases free_or (h := s.heap) hv with fr | ⟨T, oT, rfl, tA⟩
    · exact wpAny_bind (wpAny_attempt (wpAny_callSpecial?_slot (name := Str.ofString "__next__") ty F.slot_zip_next (wpAny_call_entry F.slot_zip_next ty F.entry_zip_next
        (zn_free (A := X.A.in1) hh S ne (by omega) zp fr tI tO lo is lt fun vs h' tk pd zp' tO' is' tp sz kp => wpAny_pure (main vs h' tk pd ⟨_, _, vs, .inr ⟨_, rfl⟩, zp', tO', by rw [← pd.length]⟩ (tIkeep kp) is' tp kp)) (F.args_zip_next_1 _))))
    · exact wpAny_bind (wpAny_attempt (wpAny_callSpecial?_slot (name := Str.ofString "__next__") ty F.slot_zip_next (wpAny_call_entry F.slot_zip_next ty F.entry_zip_next
        (zn_held (A := X.A.in1) hh S ne (by omega) zp tA tI is lt fun vs h' tk pd zp' is' tp sz kp => wpAny_pure (main vs h' tk pd ⟨_, _, old, .inr ⟨_, rfl⟩, zp', kp _ _ S.zO.symm (fun e he y => S.jO e he y.symm) tO, lo⟩ (tIkeep fun c o a _ b => kp c o a b) is' tp fun c o a _ b => kp c o a b)) (F.args_zip_next_1 _))))
  done := by
    intro X hP hw hK hc i pins s σ H E I hf st hg
    subst hP hw hK
    have hh : X.A.handled = none := I.ok.hd hc
    obtain ⟨⟨v, f, old, hv, zp, tO, lo⟩, tI, is⟩ := st
    have en : i = n := hg
    have ty : s.TypeIs (.ref z) "zip" := ⟨_, zp, rfl⟩
    unfold pyNext
    refine wpAny_bind (wpAny_attempt (wpAny_callSpecial?_slot (name := Str.ofString "__next__") ty F.slot_zip_next (wpAny_call_entry F.slot_zip_next ty F.entry_zip_next
      (zn_end (A := X.A.in1) hh S ne zp (free_or hv) tI (fun e he => by rw [hn e he, ← en]; exact is e he) fun h' x kp he => ?_) (F.args_zip_next_1 _))))
    obtain ⟨o, ho, hco⟩ := he
    refine wpAny_bind (wpAny_isInstance (T := "StopIteration") (b := true) ⟨o, ho, hco⟩ isSubtype_stop ?_)
    exact wpAny_pure ⟨rfl, I.turnedL (t' := s.toks) (ch := z :: TI :: TO :: es.map fun e => e.1) (fun b o hb q => kp b o (fun y => hb (by rw [y]; simp)) (fun e he y => hb (by rw [y]; simp only [List.mem_cons]; exact .inr (.inr (.inr (List.mem_map.mpr ⟨e, he, rfl⟩))))) q) hf⟩
  self := fun A i s Q E st k => by
    obtain ⟨⟨v, f, old, _, zp, _⟩, _⟩ := st
    have ty : s.TypeIs (.ref z) "zip" := ⟨_, zp, rfl⟩
    refine wpAny_pyIter_slot ty F.slot_zip_iter (wpAny_call_entry F.slot_zip_iter ty F.entry_zip_iter ?_ (F.args_zip_iter_1 _))
    exact wpAny_pure ⟨_, rfl, "zip", _, ty, F.slot_zip_next.lookup, k⟩
end Dw

set_option Elab.async false
set_option linter.all false
set_option maxRecDepth 100000
open PySem PySem.Spec PyProof.Rows L2
namespace Dw
theorem texts_of : ∀ {ls : List (List Nat)} {us : List Value}, Vals (ls.map fun l => V.str (Tx l)) us → ∃ ps : List (Str × Tok), us = (ps.map fun p => Value.str p.1 p.2) ∧ (ps.map fun p => p.1) = ls.map Tx
  | [], _, .nil => ⟨[], rfl, rfl⟩
  | l :: ls, _, .cons r t => by
    obtain ⟨ps, rfl, e⟩ := texts_of t
    obtain ⟨u, rfl⟩ := r
    exact ⟨(Tx l, u) :: ps, rfl, by rw [List.map_cons, List.map_cons, e]⟩
def iZipN (K : PySem.W.Frag) (te : TE) : TI := fun σ H R => te σ H fun x H1 => ∃ (a : Addr) (ls : List (List Nat)) (n : Nat), x = .ref a ∧ SqL K H1 a (ls.map fun l => V.str (Tx l)) ∧ ls ≠ [] ∧ ls.length ≤ 8 ∧ (∀ l ∈ ls, l.length = n) ∧ R (Itzn ls n) H1
theorem pi_zipN {X : Cx} {e : Expr} {te : TE} {p q pos npos : Pos} {nm : Str} (hg : Gl X "zip") (hm : X.mg "zip" = none) (ha : PE X e te) (hst : starEach [.Starred e q] X.env = [(true, eval e X.env)] := by rfl) :
    PI X (.Name nm npos) (.Call (.Name "zip" p) [.Starred e q] [] pos) (iZipN X.K te) := by
  refine ⟨fun pins s σ H R I h => ?_⟩
  refine PyProof.Rows.Call_ (ld_blt I hg hm PyProof.Rows.boot_zip ?_)
  rw [hst]
  refine PySem.W.ks_call (P := fun _ => True) rfl (fun _ _ => ⟨.machine, .inr (.inl rfl), PySem.W.Looks.now⟩) (PySem.W.ks_lone (thn (ha.run pins s σ H _ I h) fun v s1 ⟨x, H1, I1, r1, a, ls, n, ex, hsq, hne, h8, hln, q1⟩ => ?_))
  subst ex
  obtain rfl : v = Value.ref a := r1
  refine StX.star_any I1 (.inr hsq) fun us s2 I2 rv => ⟨trivial, ?_⟩
  obtain ⟨ps, rfl, ep⟩ := texts_of rv
  have lp : ps.length = ls.length := by
    have := congrArg List.length ep
    rwa [List.length_map, List.length_map] at this
  show wpAny _ _ (call (.type "zip") ([] ++ _)) _ _ _
  rw [List.nil_append]
  refine zn_begin (by omega) fun h' is tI tO zp kp => wpAny_pyIter_zip zp ?_
  have I3 : Inv X pins σ H1 { s2 with heap := h' } := I2.kept (t' := s2.toks) kp
  have S : SepN (s2.heap.objs.size + ps.length + 2) (s2.heap.objs.size + ps.length) (s2.heap.objs.size + ps.length + 1) (esOf s2.heap.objs.size ps) :=
    ⟨fun y => by have y' : s2.heap.objs.size + ps.length + 2 = s2.heap.objs.size + ps.length := y; omega, fun y => by have y' : s2.heap.objs.size + ps.length + 2 = s2.heap.objs.size + ps.length + 1 := y; omega, fun y => by have y' : s2.heap.objs.size + ps.length = s2.heap.objs.size + ps.length + 1 := y; omega,
      fun e he y => by have := (esOf_mem he).2.1; have y' : e.1 = s2.heap.objs.size + ps.length + 2 := y; omega, fun e he y => by have := (esOf_mem he).2.1; have y' : e.1 = s2.heap.objs.size + ps.length := y; omega, fun e he y => by have := (esOf_mem he).2.1; have y' : e.1 = s2.heap.objs.size + ps.length + 1 := y; omega, esOf_nd _ _⟩
  have nes : esOf s2.heap.objs.size ps ≠ [] := fun y => hne (List.length_eq_zero_iff.mp (by rw [← lp, ← esOf_len s2.heap.objs.size ps, y]; rfl))
  have hsz : ∀ e ∈ esOf s2.heap.objs.size ps, e.2.1.cps.size = n := fun e he => by
    have m : e.2.1 ∈ ((esOf s2.heap.objs.size ps).map fun e => e.2.1) := List.mem_map.mpr ⟨e, he, rfl⟩
    rw [esOf_texts, ep] at m
    obtain ⟨l, hl, e2⟩ := List.mem_map.mp m
    rw [← e2]
    have := hln l hl
    have t := Tx_len l
    exact t.trans this
  refine ⟨s2.heap.objs.size + ps.length + 2, _, _, _, H1, rfl, I3, turn_zipN S nes (by rw [esOf_len]; omega) (by rw [esOf_texts]; exact ep) hsz, ⟨⟨_, _, _, .inl rfl, zp, tO, by rw [List.length_map]⟩, tI, is⟩, fun c hc => ?_, q1⟩
  have hle : s2.heap.objs.size ≤ c := by
    simp only [List.mem_cons] at hc
    rcases hc with rfl | rfl | rfl | hc
    · exact Nat.le_trans (Nat.le_add_right _ _) (Nat.le_add_right _ _)
    · exact Nat.le_add_right _ _
    · exact Nat.le_trans (Nat.le_add_right _ _) (Nat.le_add_right _ _)
    · obtain ⟨e, he, rfl⟩ := List.mem_map.mp hc
      exact (esOf_mem he).1
  exact I2.fpOk hle (I2.hok.fresh hle)
theorem walk_zipN {ls : List (List Nat)} {n : Nat} : Walk (Itzn ls n) n (fun _ => True) (fun i H v H' => ∃ T, v = .ref T ∧ H T = none ∧ H' = upd H T (.tup (ls.map fun l => V.str (Tx [l.getD i 0])))) :=
  ⟨fun _ _ hi _ => hi, fun _ _ => rfl, fun _ _ _ _ _ _ q => q⟩
end Dw

set_option Elab.async false
set_option linter.all false
set_option maxRecDepth 100000
namespace Dw
open PySem L2 Evl
/-! ### xs.count(x), xs a list of signs -/
def sameT (x : Str) (v : Value) : Bool := match v with
  | .str y _ => y.cps.toList == x.cps.toList
  | _ => false
theorem sameT_gives {x : Str} {t : Tok} : ∀ {cs : List Nat} {us : List Value}, Vals (cs.map fun c => V.str (Tx [c])) us → ∀ y ∈ us, MeetsSeq.EqGives y (.str x t) (sameT x y)
  | [], _, .nil => fun y hy => by cases hy
  | c :: cs, _, .cons r h => fun y hy => by
    rcases List.mem_cons.mp hy with rfl | hy
    · obtain ⟨u, rfl⟩ := r
      exact SeqRoads2.EqGives.str _ _ _ _
    · exact sameT_gives h y hy
theorem sameT_count {d : Nat} : ∀ {cs : List Nat} {us : List Value}, Vals (cs.map fun c => V.str (Tx [c])) us → us.countP (sameT (Tx [d])) = cs.count d
  | [], _, .nil => rfl
  | c :: cs, _, .cons r h => by
    obtain ⟨u, rfl⟩ := r
    have e : sameT (Tx [d]) (.str (Tx [c]) u) = (c == d) := by
      show ([c] == [d]) = (c == d)
      by_cases hd : c = d <;> simp [hd]
    rw [List.countP_cons, List.count_cons, sameT_count h, e]
def rCntS (K : PySem.W.Frag) : V → List V → Hp → VK → Prop := fun x xs H Q => ∃ (p : Addr) (cs : List Nat) (d : Nat), x = .ref p ∧ xs = [.str (Tx [d])] ∧ SqL K H p (cs.map fun c => V.str (Tx [c])) ∧ Q (.int (cs.count d : Nat)) H
theorem mt_countS {X : Cx} : MtR X "list.count" (rCntS X.K) := by
  intro pins s σ H x xs v us Q I rx rxs h
  obtain ⟨p, cs, d, rfl, rfl, hs, q⟩ := h
  cases rx
  obtain ⟨u, rfl, ru⟩ := rxs.one
  obtain ⟨t, rfl⟩ := ru
  obtain ⟨its, rv, ⟨⟨cls, dd, data, sl⟩, n, ho, hc, hdn, hd⟩, hlen⟩ := I.list hs
  simp only at hc hd
  subst hc hd
  refine call_meets PySem.F.slot_list_count ⟨_, ho, rfl⟩ PySem.F.entry_list_count (PySem.F.args_list_count_2 _ _) (SeqAt.list_countAt p its.toArray n dd sl (.str (Tx [d]) t) (sameT (Tx [d]))) ⟨ho, fun y hy => (sameT_gives rv y (by simpa using hy)).at _ _, ?_⟩
  have ec : its.toArray.toList.countP (sameT (Tx [d])) = cs.count d := sameT_count rv
  refine ⟨.int (cs.count d : Nat), H, I.tok _, ⟨s.toks, ?_⟩, q⟩
  show Value.int ((its.toArray.toList.countP (sameT (Tx [d])) : Nat) : Int) s.toks = _
  rw [ec]
section
variable {K : PySem.W.Frag} {σ : L2.St} {H H' : Hp} {ta tb te tx tl : TE} {t u : TT} {x y z v : V}
theorem ev_count {p : Addr} {cs : List Nat} {d : Nat} (ha : Ev ta σ H (.ref p)) (hx : SqL K H p (cs.map fun c => V.str (Tx [c]))) (hb : Ev tb σ H (.str (Tx [d]))) : Ev (tBM K "list" (rCntS K) ta (tCons tb tNil)) σ H (.int (cs.count d : Nat)) := fun H1 e Q q =>
  ha H1 e _ fun H2 e2 => ⟨.inl ⟨rfl, _, ex_l (e.trans e2) hx⟩, hb H2 (e.trans e2) _ fun H3 e3 => ⟨p, cs, d, rfl, rfl, ex_l ((e.trans e2).trans e3) hx, q H3 (e2.trans e3)⟩⟩
theorem el_lcZN {a : Addr} {ls : List (List Nat)} {n j : Nat} {vs : List Nat} (g : Nat → V) (h : Ev tl σ H (.ref a)) (hx : SqL K H a (ls.map fun l => V.str (Tx l))) (ne : ls ≠ []) (h8 : ls.length ≤ 8) (hn : ∀ l ∈ ls, l.length = n) (hz : n ≤ 40000) (hw : ∀ x, wipe ((wipe σ vs).set j (some x)) vs = wipe σ vs)
    (he : ∀ (i : Nat) (T : Addr) H1, Ex H H1 → i < n → H1 T = some (.tup (ls.map fun l => V.str (Tx [l.getD i 0]))) → Ev te ((wipe σ vs).set j (some (.ref T))) H1 (g i)) :
    EvL (tLc (iZipN K tl) (gName j) tYes te vs) σ H ((List.range n).map g) := fun H0 e Q q => h H0 e _ fun H1 e1 => ⟨a, ls, n, rfl, ex_l (e.trans e1) hx, ne, h8, hn, fun Dl hD => by
  refine lc_it walk_zipN (fun i H2 => Ex H1 H2 ∧ H2 Dl = some (.lst ((List.range i).map g))) ⟨Ex.new hD, upd_same⟩ (fun _ _ _ _ => True.intro) (fun i x' H2 H3 hi p yy => ?_) (fun H2 p => q Dl H2 (fresh_back e1 hD) (e1.trans p.1) p.2)
  obtain ⟨T, rfl, nT, rfl⟩ := yy
  refine ⟨hw _, ?_⟩
  refine he i T _ (((e.trans e1).trans p.1).trans (Ex.new nT)) hi upd_same _ (Ex.refl _) _ fun H4 e4 => ⟨_, e4 Dl _ ((Ex.new nT) Dl _ p.2), sz_lt (by rw [List.length_map, List.length_range]; omega), Ex.mut ((p.1.trans (Ex.new nT)).trans e4) hD, ?_⟩
  rw [upd_same, List.range_succ, List.map_append]
  rfl⟩
theorem el_lcTp {a : Addr} {cs : List Nat} {j : Nat} {vs : List Nat} (p : Nat → Bool) (g : Nat → V) (h : Ev tl σ H (.ref a)) (hx : SqT K H a (cs.map fun c => V.str (Tx [c]))) (hz : cs.length ≤ 40000) (hw : ∀ x, wipe ((wipe σ vs).set j (some x)) vs = wipe σ vs)
    (ht : ∀ (c : Nat) H1, Ex H H1 → c ∈ cs → EvT t ((wipe σ vs).set j (some (.str (Tx [c])))) H1 (p c)) (he : ∀ (c : Nat) H1, Ex H H1 → c ∈ cs → p c = true → Ev te ((wipe σ vs).set j (some (.str (Tx [c])))) H1 (g c)) :
    EvL (tLc (iTup K tl) (gName j) t te vs) σ H ((cs.filter p).map g) := by
  rw [← given_list cs 0 p g]
  have hl : (cs.map fun c => V.str (Tx [c])).length = cs.length := List.length_map _
  have key : ∀ (i : Nat) (x : V), (cs.map fun c => V.str (Tx [c]))[i]? = some x → ∃ c, x = .str (Tx [c]) ∧ cs.getD i 0 = c ∧ c ∈ cs := fun i x hi => by
    rw [List.getElem?_map] at hi
    cases hc : cs[i]? with
    | none =>
      rw [hc] at hi
      cases hi
    | some c =>
      rw [hc] at hi
      cases hi
      exact ⟨c, rfl, by rw [List.getD_eq_getElem?_getD, hc]; rfl, List.mem_of_getElem? hc⟩
  exact fun H0 e Q q => h H0 e _ fun H1 e1 => ⟨a, rfl, ⟨_, ex_t (e.trans e1) hx⟩, fun Dl hD => by
    refine lc_it (walk_tup (xs := cs.map fun c => V.str (Tx [c]))) (Cw H1 (fun i => p (cs.getD i 0)) (fun i => g (cs.getD i 0)) Dl) ⟨hD, Ex.new hD, upd_same⟩ (fun i H' _ pp => ex_t ((e.trans e1).trans pp.2.1) hx) (fun i x H2 H3 hi pp y => ?_) (fun H' pp => ?_)
    · obtain ⟨rfl, hi2⟩ := y
      obtain ⟨c, rfl, ec, mc⟩ := key i x hi2
      refine ⟨hw _, cw_turn pp (by omega) ?_ ?_⟩
      · simp only [ec]
        exact ht c H1 (e.trans e1) mc
      · simp only [ec]
        exact fun hf => he c H1 (e.trans e1) mc hf
    · rw [hl] at pp
      exact q Dl H' (fresh_back e1 pp.1) (e1.trans pp.2.1) pp.2.2⟩
theorem el_lcLs {a : Addr} {cs : List Nat} {j : Nat} {vs : List Nat} (p : Nat → Bool) (g : Nat → V) (h : Ev tl σ H (.ref a)) (hx : SqL K H a (cs.map fun c => V.str (Tx [c]))) (hz : cs.length ≤ 40000) (hw : ∀ x, wipe ((wipe σ vs).set j (some x)) vs = wipe σ vs)
    (ht : ∀ (c : Nat) H1, Ex H H1 → c ∈ cs → EvT t ((wipe σ vs).set j (some (.str (Tx [c])))) H1 (p c)) (he : ∀ (c : Nat) H1, Ex H H1 → c ∈ cs → p c = true → Ev te ((wipe σ vs).set j (some (.str (Tx [c])))) H1 (g c)) :
    EvL (tLc (iList K tl) (gName j) t te vs) σ H ((cs.filter p).map g) := by
  have hl : (cs.map fun c => V.str (Tx [c])).length = cs.length := List.length_map _
  rw [← given_list cs 0 p g, ← hl]
  have key : ∀ (i : Nat) (x : V), (cs.map fun c => V.str (Tx [c]))[i]? = some x → ∃ c, x = .str (Tx [c]) ∧ cs.getD i 0 = c ∧ c ∈ cs := fun i x hi => by
    rw [List.getElem?_map] at hi
    cases hc : cs[i]? with
    | none =>
      rw [hc] at hi
      cases hi
    | some c =>
      rw [hc] at hi
      cases hi
      exact ⟨c, rfl, by rw [List.getD_eq_getElem?_getD, hc]; rfl, List.mem_of_getElem? hc⟩
  refine el_lcL (fun i => p (cs.getD i 0)) (fun i => g (cs.getD i 0)) h hx (by omega) hw (fun i x H1 e hi => ?_) (fun i x H1 e hi hf => ?_)
  · obtain ⟨c, rfl, ec, mc⟩ := key i x hi
    simp only [ec]
    exact ht c H1 e mc
  · obtain ⟨c, rfl, ec, mc⟩ := key i x hi
    simp only [ec] at hf ⊢
    exact he c H1 e mc hf
theorem ev_joinV {a : Addr} {l : List Nat} (h : Ev te σ H (.ref a)) (hx : SqL K H a (l.map fun c => V.str (Tx [c]))) (hz : l.length ≤ 40000) : Ev (tM1 (rJoinS K) (tC (.str (Str.ofString ""))) te) σ H (.str (Tx l)) := fun H1 e Q q =>
  ⟨⟨_, rfl⟩, h H1 e _ fun H2 e2 => ⟨Str.ofString "", a, l.map fun c => Tx [c], rfl, rfl, Or.inl (by rw [map_strs]; exact ex_l (e.trans e2) hx), by rw [ones_len]; omega, by rw [join_ones]; exact q H2 e2⟩⟩
theorem et_list {a : Addr} {xs : List V} (h : Ev te σ H (.ref a)) (hx : SqL K H a xs) : EvT (fun σ H Q => te σ H fun x H' => ∃ k, TruV K x H' k ∧ Q k H') σ H (!xs.isEmpty) := fun H1 e Q q =>
  h H1 e _ fun H2 e2 => ⟨_, .inl ⟨xs, ex_l (e.trans e2) hx, rfl⟩, q H2 e2⟩
/-- [x] * n -/
theorem el_rep {n : Nat} (ha : EvL ta σ H [x]) (hb : ∀ H1, Ex H H1 → Ev tb σ H1 (.int (n : Int))) (hz : n ≤ 40000) : EvL (tOp rRep ta tb) σ H (List.replicate n x) := fun H1 e Q q =>
  ha H1 e _ fun p H2 np e2 h2 => hb H2 (e.trans e2) H2 (Ex.refl _) _ fun H3 e3 => ⟨p, (n : Int), [x], rfl, rfl, e3 _ _ h2, by omega, by omega, by rw [Int.toNat_natCast]; show 1 * n ≤ sizeLine; exact sz_of (by omega), fun r nr => by
    have e4 : (List.replicate (n : Int).toNat [x]).flatten = List.replicate n x := by rw [Int.toNat_natCast, List.flatten_replicate_singleton]
    rw [e4]
    exact q r _ (fresh_back (e2.trans e3) nr) ((e2.trans e3).trans (Ex.new nr)) upd_same⟩
end
/-! ### what several signs give together -/
def resS (cs : List Nat) : Nat := match cs.filter fun c => !decide (c = 122) with
  | [] => 122
  | d :: r => if (d :: r).count d = (d :: r).length then d else 120
def drvS (cs : List Nat) : Nat := match cs.filter fun c => !decide (c = 122) with
  | [] => 122
  | d :: r => if (d :: r) = List.replicate (d :: r).length d ∧ d ∈ [48, 49] then d else 120
theorem res_drv {cs : List Nat} (h : ∀ c ∈ cs, c ∈ sgn) : resS cs = drvS cs := by
  unfold resS drvS
  have hm : ∀ c ∈ cs.filter (fun c => !decide (c = 122)), c = 48 ∨ c = 49 ∨ c = 120 := fun c hc => by
    obtain ⟨h1, h2⟩ := List.mem_filter.mp hc
    have h3 := h c h1
    simp only [sgn, List.mem_cons, List.not_mem_nil, or_false] at h3
    have h4 : c ≠ 122 := by simpa using h2
    omega
  generalize cs.filter (fun c => !decide (c = 122)) = l at hm
  cases l with
  | nil => rfl
  | cons d r =>
    have hd := hm d (List.mem_cons_self ..)
    show (if _ then _ else _) = (if _ then _ else _)
    by_cases ha : ∀ b ∈ d :: r, d = b
    · rw [if_pos (List.count_eq_length.mpr ha)]
      have hr : (d :: r) = List.replicate (d :: r).length d := List.eq_replicate_iff.mpr ⟨rfl, fun b hb => (ha b hb).symm⟩
      by_cases h01 : d ∈ [48, 49]
      · rw [if_pos ⟨hr, h01⟩]
      · rw [if_neg fun z => h01 z.2]
        simp only [List.mem_cons, List.not_mem_nil, or_false] at h01
        omega
    · rw [if_neg fun z => ha (List.count_eq_length.mp z), if_neg fun z => ha fun b hb => ((List.eq_replicate_iff.mp z.1).2 b hb).symm]
/-! ### covers -/
def covP (c d : Nat) : Bool := !decide (c ∈ [48, 49]) || decide (c = d)
def covB (a b : List Nat) : Bool := (List.zipWith covP a b).all id
theorem cov_ix : ∀ (a b : List Nat), a.length = b.length → (covB a b = true ↔ ∀ k, k < a.length → covP (a.getD k 0) (b.getD k 0) = true)
  | [], [], _ => by simp [covB]
  | [], _ :: _, h => by cases h
  | _ :: _, [], h => by cases h
  | c :: a, d :: b, h => by
    have ih := cov_ix a b (by simpa using h)
    unfold covB at ih ⊢
    rw [List.zipWith_cons_cons, List.all_cons, Bool.and_eq_true, ih]
    constructor
    · rintro ⟨h1, h2⟩ k hk
      cases k with
      | zero => exact h1
      | succ k => exact h2 k (by simpa using hk)
    · intro h2
      exact ⟨h2 0 (by simp), fun k hk => h2 (k + 1) (by simpa using hk)⟩
def covF (a b : List Nat) (k : Nat) : Bool := decide (a.getD k 0 ∈ [48, 49]) && !decide (a.getD k 0 = b.getD k 0)
theorem cov_due (a b : List Nat) (h : a.length = b.length) : decide ((((List.range a.length).filter (covF a b)).map fun k : Nat => (k : Int)) = []) = covB a b := by
  rw [Bool.eq_iff_iff, decide_eq_true_eq, List.map_eq_nil_iff, List.filter_eq_nil_iff, cov_ix a b h]
  constructor
  · intro g k hk
    have := g k (List.mem_range.mpr hk)
    unfold covF at this
    unfold covP
    by_cases h1 : a.getD k 0 ∈ [48, 49] <;> by_cases h2 : a.getD k 0 = b.getD k 0 <;> simp_all
  · intro g k hk
    have := g k (List.mem_range.mp hk)
    unfold covP at this
    unfold covF
    by_cases h1 : a.getD k 0 ∈ [48, 49] <;> by_cases h2 : a.getD k 0 = b.getD k 0 <;> simp_all
end Dw

set_option Elab.async false
set_option linter.all false
set_option maxRecDepth 100000
/-! ### list(zip(a, b)), two texts of one length -/
open PySem PySem.Spec PyProof.Rows L2
namespace Dw
section
variable {prog : Program} {w : World} {A : Around} {E : Value → Shared → Prop} {s : Shared} {z TI TO : Addr} {es : List Tri} {i : Nat}
theorem zn_next {Q : Option Value → Shared → Prop} (hh : A.handled = none) (S : SepN z TI TO es) (ne : es ≠ []) (h8 : es.length ≤ 8) (st : ZnAt z TI TO es i s.heap) (lt : ∀ e ∈ es, i < e.2.1.cps.size)
    (k : ∀ (vs : List Value) (h' : Heap) (tk : Nat), Paired (Dr i) es vs → ZnAt z TI TO es (i + 1) h' → TpN h' s.heap.objs.size vs → (∀ c o, c ≠ z → c ≠ TO → (∀ e ∈ es, c ≠ e.1) → s.heap.get? c = some o → h'.get? c = some o) → Q (some (.ref s.heap.objs.size)) { s with heap := h', toks := tk }) :
    wpAny (model prog w) A (pyNext (.ref z)) Q E s := by
  obtain ⟨⟨v, f, old, hv, zp, tO, lo⟩, tI, is⟩ := st
  have ty : s.TypeIs (.ref z) "zip" := ⟨_, zp, rfl⟩
  have tIkeep : ∀ {h' : Heap}, (∀ c o, c ≠ z → c ≠ TO → (∀ e ∈ es, c ≠ e.1) → s.heap.get? c = some o → h'.get? c = some o) → TpN h' TI (es.map fun e => .ref e.1) := fun kp => kp _ _ S.zT.symm S.TTO (fun e he y => S.jT e he y.symm) tI
  unfold pyNext
  rcases free_or (h := s.heap) hv with fr | ⟨T, oT, rfl, tA⟩
  · exact wpAny_bind (wpAny_attempt (wpAny_callSpecial?_slot (name := Str.ofString "__next__") ty F.slot_zip_next (wpAny_call_entry F.slot_zip_next ty F.entry_zip_next
      (zn_free (A := A.in1) hh S ne (by omega) zp fr tI tO lo is lt fun vs h' tk pd zp' tO' is' tp sz kp => wpAny_pure (k vs h' tk pd ⟨⟨_, _, vs, .inr ⟨_, rfl⟩, zp', tO', by rw [← pd.length]⟩, tIkeep kp, is'⟩ tp kp)) (F.args_zip_next_1 _))))
  · exact wpAny_bind (wpAny_attempt (wpAny_callSpecial?_slot (name := Str.ofString "__next__") ty F.slot_zip_next (wpAny_call_entry F.slot_zip_next ty F.entry_zip_next
      (zn_held (A := A.in1) hh S ne (by omega) zp tA tI is lt fun vs h' tk pd zp' is' tp sz kp => wpAny_pure (k vs h' tk pd ⟨⟨_, _, old, .inr ⟨_, rfl⟩, zp', kp _ _ S.zO.symm (fun e he y => S.jO e he y.symm) tO, lo⟩, tIkeep fun c o a _ b => kp c o a b, is'⟩ tp fun c o a _ b => kp c o a b)) (F.args_zip_next_1 _))))
theorem zn_stop {Q : Option Value → Shared → Prop} (hh : A.handled = none) (S : SepN z TI TO es) (ne : es ≠ []) (st : ZnAt z TI TO es i s.heap) (hn : ∀ e ∈ es, e.2.1.cps.size = i)
    (k : ∀ (h' : Heap), (∀ c o, c ≠ z → (∀ e ∈ es, c ≠ e.1) → s.heap.get? c = some o → h'.get? c = some o) → Q none { s with heap := h' }) : wpAny (model prog w) A (pyNext (.ref z)) Q E s := by
  obtain ⟨⟨v, f, old, hv, zp, tO, lo⟩, tI, is⟩ := st
  have ty : s.TypeIs (.ref z) "zip" := ⟨_, zp, rfl⟩
  unfold pyNext
  refine wpAny_bind (wpAny_attempt (wpAny_callSpecial?_slot (name := Str.ofString "__next__") ty F.slot_zip_next (wpAny_call_entry F.slot_zip_next ty F.entry_zip_next
    (zn_end (A := A.in1) hh S ne zp (free_or hv) tI (fun e he => by rw [hn e he]; exact is e he) fun h' x kp he => ?_) (F.args_zip_next_1 _))))
  obtain ⟨o, ho, hco⟩ := he
  refine wpAny_bind (wpAny_isInstance (T := "StopIteration") (b := true) ⟨o, ho, hco⟩ isSubtype_stop ?_)
  exact wpAny_pure (k h' kp)
end
theorem zip_no_len : typeLookup (.type "zip") "__len__" = pure none := by rw [typeLookup_type, builtinLookup_eq_fast]; kernel_rfl
theorem zip_no_hint : typeLookup (.type "zip") "__length_hint__" = pure none := by rw [typeLookup_type, builtinLookup_eq_fast]; kernel_rfl
/-- the tuples of the turns so far -/
def Rows (H : Hp) (ls : List (List Nat)) (rs : List Addr) : Prop := ∀ j r, rs[j]? = some r → H r = some (.tup (ls.map fun l => V.str (Tx [l.getD j 0])))
section
variable {X : Cx} {pins : List (Addr × Obj)} {σ : L2.St} {z TI TO Sl : Addr} {es : List Tri} {ls : List (List Nat)} {n : Nat} {A : Around} {R : Result → Shared → Prop}
theorem zl_loop (hh : A.handled = none) (S : SepN z TI TO es) (ne : es ≠ []) (h8 : es.length ≤ 8) (ht : (es.map fun e => e.2.1) = ls.map Tx) (hn : ∀ e ∈ es, e.2.1.cps.size = n) (hz : n ≤ 1000) (H0 : Hp) (nS : Sl ∉ (z :: TI :: TO :: es.map fun e => e.1))
    (hR : ∀ (s' : Shared) (H' : Hp) (rs : List Addr), Inv X pins σ H' s' → Evl.Ex H0 H' → H' Sl = some (.lst (rs.map V.ref)) → rs.length = n → Rows H' ls rs → R (.ok (.ret .none)) s') :
    ∀ (k i : Nat) (s : Shared) (H : Hp) (rs : List Addr), n - i = k → i ≤ n → Inv X pins σ H s → (∀ b ∈ (z :: TI :: TO :: es.map fun e => e.1), FpOk X pins H b) → ZnAt z TI TO es i s.heap → Evl.Ex H0 H → H0 Sl = none → H Sl = some (.lst (rs.map V.ref)) → rs.length = i → Rows H ls rs →
      codeAny (model X.prog X.w) A (.builtin "list.extend.loop" ⟨[.ref Sl, .ref z, .none], []⟩) R s := by
  intro k
  induction k with
  | zero =>
    intro i s H rs hk hi I hf st e0 n0 hS hl hr
    have hin : i = n := by omega
    subst hin
    refine codeAny_builtin F.entry_extend_loop ?_
    rw [Around.under_plainId F.plain_extend_loop _]
    show wpAny _ A.in1 (pyNext (.ref z) >>= _) _ _ s
    refine wpAny_bind (zn_stop (A := A.in1) hh S ne st hn fun h' kp => ?_)
    refine wpAny_pure (hR _ H rs (I.turnedL (t' := s.toks) (ch := z :: TI :: TO :: es.map fun e => e.1) (fun b o hb q => kp b o (fun y => hb (by rw [y]; simp)) (fun e he y => hb (by rw [y]; simp only [List.mem_cons]; exact .inr (.inr (.inr (List.mem_map.mpr ⟨e, he, rfl⟩))))) q) hf) e0 hS hl hr)
  | succ k ih =>
    intro i s H rs hk hi I hf st e0 n0 hS hl hr
    have hlt : i < n := by omega
    refine codeAny_builtin F.entry_extend_loop ?_
    rw [Around.under_plainId F.plain_extend_loop _]
    show wpAny _ A.in1 (pyNext (.ref z) >>= _) _ _ s
    refine wpAny_bind (zn_next (A := A.in1) hh S ne h8 st (fun e he => by rw [hn e he]; exact hlt) fun vs h' tk pd st' tp kp => ?_)
    have rel := vals_of ht pd
    have few : (ls.map fun l => V.str (Tx [l.getD i 0])).length ≤ sizeLine := by
      rw [rel.length, ← pd.length]
      exact Evl.sz_of (by omega)
    have new : ObjOk X.prog X.w (upd H s.heap.objs.size (.tup (ls.map fun l => V.str (Tx [l.getD i 0])))) h' s.heap.objs.size (.tup (ls.map fun l => V.str (Tx [l.getD i 0]))) := ⟨few, vs, rel, ⟨_, tp, rfl, _, rfl⟩⟩
    have I1 : Inv X pins σ (upd H s.heap.objs.size (.tup (ls.map fun l => V.str (Tx [l.getD i 0])))) { s with heap := h', toks := tk } :=
      I.turnedNew (t' := tk) (ch := z :: TI :: TO :: es.map fun e => e.1) (fun b o hb q => kp b o (fun y => hb (by rw [y]; simp)) (fun y => hb (by rw [y]; simp)) (fun e he y => hb (by rw [y]; simp only [List.mem_cons]; exact .inr (.inr (.inr (List.mem_map.mpr ⟨e, he, rfl⟩))))) q) hf (Nat.le_refl _) new
    have fresh := I.hok.fresh (Nat.le_refl s.heap.objs.size)
    have nST : Sl ≠ s.heap.objs.size := fun y => by
      rw [← y, hS] at fresh
      cases fresh
    have hS1 : (upd H s.heap.objs.size (.tup (ls.map fun l => V.str (Tx [l.getD i 0])))) Sl = some (.lst (rs.map V.ref)) := by
      rw [upd_ne nST]
      exact hS
    have e1 : Evl.Ex H (upd H s.heap.objs.size (.tup (ls.map fun l => V.str (Tx [l.getD i 0])))) := Evl.Ex.new fresh
    have hT1 := upd_same (H := H) (a := s.heap.objs.size) (o := .tup (ls.map fun l => V.str (Tx [l.getD i 0])))
    have hbl : ∀ b ∈ (z :: TI :: TO :: es.map fun e => e.1), b < s.heap.objs.size := fun b hb => by
      obtain ⟨⟨v, f, old, _, zp, tO, _⟩, tI, is⟩ := st
      simp only [List.mem_cons] at hb
      rcases hb with rfl | rfl | rfl | hb
      · exact Heap.lt_size zp
      · exact Heap.lt_size tI
      · exact Heap.lt_size tO
      · obtain ⟨e, he, rfl⟩ := List.mem_map.mp hb
        obtain ⟨o, ho, _⟩ := is e he
        exact Heap.lt_size ho
    have hf1 : ∀ b ∈ (z :: TI :: TO :: es.map fun e => e.1), FpOk X pins (upd H s.heap.objs.size (.tup (ls.map fun l => V.str (Tx [l.getD i 0])))) b := fun b hb => ⟨by rw [upd_ne (Nat.ne_of_lt (hbl b hb))]; exact (hf b hb).1, (hf b hb).2⟩
    generalize upd H s.heap.objs.size (.tup (ls.map fun l => V.str (Tx [l.getD i 0]))) = H1 at I1 hS1 e1 hT1 hf1
    obtain ⟨hz1, its, c, rv, hob⟩ := I1.hok _ _ hS1
    have hil : its.length = i := by rw [← rv.length, List.length_map, hl]
    show wpAny _ A.in1 (updateSeq Sl (·.push (Value.ref s.heap.objs.size)) >>= _) _ _ _
    have hob' : ({ s with heap := h', toks := tk } : Shared).heap.get? Sl = some { cls := .type "list", dict := none, data := .seq its.toArray c, slots := #[] } := hob
    refine wpAny_bind (wpAny_updateSeq hob' rfl (wpAny_pure ⟨plainId_quiet F.plain_extend_loop _, ?_⟩) (by rw [List.size_toArray]; exact Nat.le_trans (by omega : its.length ≤ 1000) (by decide)) (by show (its.toArray.push _).size ≤ sizeLine + 1; rw [Array.size_push, List.size_toArray, hil]; exact Nat.le_trans (by omega : i + 1 ≤ 1001) (by decide)))
    have hself := Heap.get?_update_self (Obj.mapSeq (·.push (Value.ref s.heap.objs.size))) hob' rfl
    have oth : ∀ b o, b ≠ Sl → h'.get? b = some o → (h'.update Sl (Obj.mapSeq (·.push (Value.ref s.heap.objs.size)))).get? b = some o := fun b o hb e => (Heap.get?_update_other _ _ (Ne.symm hb)).trans e
    have epush : its.toArray.push (Value.ref s.heap.objs.size) = (its ++ [Value.ref s.heap.objs.size]).toArray := by simp
    have I2 : Inv X pins σ (upd H1 Sl (.lst ((rs ++ [s.heap.objs.size]).map V.ref))) { s with heap := h'.update Sl (Obj.mapSeq (·.push (Value.ref s.heap.objs.size))), toks := tk } :=
      I1.write (e := Sl) (t' := tk) (by rw [hS1]; trivial) (.inl rfl) (fun b u hb hu => oth b u hb hu) ⟨_, hself⟩
        ⟨by rw [List.length_map, List.length_append, hl]; exact Evl.sz_of (by simp; omega), its ++ [Value.ref s.heap.objs.size], _, by
          rw [List.map_append]
          exact rv.append (.cons rfl .nil), by
          rw [← epush]
          exact hself⟩
    refine ih (i + 1) _ _ (rs ++ [s.heap.objs.size]) (by omega) hlt I2 (fun b hb => ⟨?_, (hf1 b hb).2⟩) ?_ ?_ n0 upd_same (by rw [List.length_append, hl]; rfl) ?_
    · have nb : b ≠ Sl := fun y => nS (y ▸ hb)
      rw [upd_ne nb]
      exact (hf1 b hb).1
    · obtain ⟨⟨v, f, old, hv, zp, tO, lo⟩, tI, is⟩ := st'
      have q : ∀ b ∈ (z :: TI :: TO :: es.map fun e => e.1), b ≠ Sl := fun b hb y => nS (y ▸ hb)
      exact ⟨⟨v, f, old, hv, oth _ _ (q z (by simp)) zp, oth _ _ (q TO (by simp)) tO, lo⟩, oth _ _ (q TI (by simp)) tI, fun e he => (is e he).over fun o ho => oth _ _ (q e.1 (by simp only [List.mem_cons]; exact .inr (.inr (.inr (List.mem_map.mpr ⟨e, he, rfl⟩))))) ho⟩
    · exact Evl.Ex.mut (e0.trans e1) n0
    · intro j r hj
      have key : H1 r = some (.tup (ls.map fun l => V.str (Tx [l.getD j 0]))) := by
        by_cases hj2 : j < rs.length
        · rw [List.getElem?_append_left hj2] at hj
          exact e1 _ _ (hr j r hj)
        · rw [List.getElem?_append_right (by omega)] at hj
          have hj3 : j - rs.length = 0 := by
            by_cases h : j - rs.length = 0
            · exact h
            · rw [List.getElem?_eq_none (by simp; omega)] at hj
              cases hj
          rw [hj3] at hj
          have : s.heap.objs.size = r := by simpa using hj
          rw [← this, show j = i by omega]
          exact hT1
      rw [upd_ne (fun y => by
        rw [y, hS1] at key
        cases key)]
      exact key
theorem zl_extend (hh : A.handled = none) (S : SepN z TI TO es) (ne : es ≠ []) (h8 : es.length ≤ 8) (ht : (es.map fun e => e.2.1) = ls.map Tx) (hn : ∀ e ∈ es, e.2.1.cps.size = n) (hz : n ≤ 1000) {s : Shared} {H0 : Hp} {s0 : Shared} {c₀ : Nat} (I : Inv X pins σ H0 s0) (hs : s0.heap.objs.size ≤ Sl) (keep : ∀ b o, s0.heap.get? b = some o → s.heap.get? b = some o) (ha : ∃ tk, { s0 with heap := s.heap, toks := tk } = s)
    (hf : ∀ b ∈ (z :: TI :: TO :: es.map fun e => e.1), FpOk X pins H0 b) (st : ZnAt z TI TO es 0 s0.heap) (hS : s.heap.get? Sl = some { cls := .type "list", data := .seq #[] c₀ })
    (hR : ∀ (s' : Shared) (H' : Hp) (rs : List Addr), Inv X pins σ H' s' → Evl.Ex H0 H' → H' Sl = some (.lst (rs.map V.ref)) → rs.length = n → Rows H' ls rs → R (.ok (.ret .none)) s') :
    wpAny (model X.prog X.w) A.in1 (Builtin.List.listExtendWith (.ref Sl) (.ref z) .none)
      (fun fin s' => match fin with | .done f => R (.ok f) s' | .again c' => c'.quiet = true ∧ codeAny (model X.prog X.w) A c' R s') (fun e s' => R (.error e) s') s := by
  have hlt : ∀ b ∈ (z :: TI :: TO :: es.map fun e => e.1), b < s0.heap.objs.size := fun b hb => by
    obtain ⟨⟨v, f, old, _, zp, tO, _⟩, tI, is⟩ := st
    simp only [List.mem_cons] at hb
    rcases hb with rfl | rfl | rfl | hb
    · exact Heap.lt_size zp
    · exact Heap.lt_size tI
    · exact Heap.lt_size tO
    · obtain ⟨e, he, rfl⟩ := List.mem_map.mp hb
      obtain ⟨o, ho, _⟩ := is e he
      exact Heap.lt_size ho
  have nS : Sl ∉ (z :: TI :: TO :: es.map fun e => e.1) := fun hm => Nat.lt_irrefl _ (Nat.lt_of_lt_of_le (hlt Sl hm) hs)
  have hSI : Sl ≠ z := fun e => nS (by rw [e]; simp)
  have stS : ∀ (h' : Heap), (∀ b o, b ≠ Sl → s.heap.get? b = some o → h'.get? b = some o) → ZnAt z TI TO es 0 h' := fun h' kp => by
    obtain ⟨⟨v, f, old, hv, zp, tO, lo⟩, tI, is⟩ := st
    have q : ∀ b ∈ (z :: TI :: TO :: es.map fun e => e.1), ∀ o, s0.heap.get? b = some o → h'.get? b = some o := fun b hb o e => kp b o (fun y => nS (y ▸ hb)) (keep b o e)
    exact ⟨⟨v, f, old, hv, q z (by simp) _ zp, q TO (by simp) _ tO, lo⟩, q TI (by simp) _ tI, fun e he => (is e he).over fun o ho => q e.1 (by simp only [List.mem_cons]; exact .inr (.inr (.inr (List.mem_map.mpr ⟨e, he, rfl⟩)))) _ ho⟩
  have zp0 : ∃ v f, ZpF s.heap z TI TO v f := by
    obtain ⟨⟨v, f, old, hv, zp, _⟩, _⟩ := st
    exact ⟨v, f, keep _ _ zp⟩
  obtain ⟨vz, fz, zp0⟩ := zp0
  have ty : s.TypeIs (.ref z) "zip" := ⟨_, zp0, rfl⟩
  unfold Builtin.List.listExtendWith
  refine wpAny_bind (wpAny_typeOf ty ?_)
  have h1 : Builtin.List.listSameRef (.ref Sl) (.ref z) = false := by simp [Builtin.List.listSameRef, hSI]
  have h2 : (Value.type "zip" == Value.type "list") = false := by decide
  have h3 : (Value.type "zip" == Value.type "tuple") = false := by decide
  simp only [h1, h2, h3, Bool.or_false, Bool.false_eq_true, if_false]
  refine wpAny_bind (wpAny_pyIter_slot ty F.slot_zip_iter (wpAny_call_entry F.slot_zip_iter ty F.entry_zip_iter (wpAny_pure ⟨_, rfl, "zip", _, ty, F.slot_zip_next.lookup, ?_⟩) (F.args_zip_iter_1 _)))
  refine wpAny_bind (wpAny_holding ?_)
  unfold Builtin.List.listLengthHint
  refine wpAny_bind (wpAny_specialOf ty zip_no_len ?_)
  show wpAny _ A.in1 (specialOf (Value.ref z) (Str.ofString "__length_hint__") >>= _) _ _ _
  refine wpAny_bind (wpAny_specialOf ty zip_no_hint ?_)
  refine wpAny_pure ?_
  show wpAny _ A.in1 (rule "list.extend.makes-room" >>= fun _ => Builtin.List.listTouch (.ref Sl) >>= fun _ =>
    again (.builtin "list.extend.loop" ⟨[.ref Sl, .ref z, .none], []⟩)) _ _ _
  refine wpAny_bind (wpAny_rule ?_)
  refine wpAny_bind ?_
  show wpAny _ A.in1 (updateSeq Sl (·.push .none) >>= fun _ => updateSeq Sl (·.pop)) _ _ _
  refine wpAny_bind (wpAny_updateSeq hS rfl ?_)
  have hS₂ := Heap.get?_update_self (Obj.mapSeq (·.push Value.none)) hS rfl
  refine wpAny_updateSeq (hz := by seq_fits) hS₂ rfl ?_
  have hS₃ := Heap.get?_update_self (Obj.mapSeq (·.pop)) hS₂ rfl
  have oth : ∀ b o, b ≠ Sl → s.heap.get? b = some o → ((s.heap.update Sl (Obj.mapSeq (·.push Value.none))).update Sl (Obj.mapSeq (·.pop))).get? b = some o :=
    fun b o hb e => (Heap.get?_update_other _ _ (Ne.symm hb)).trans ((Heap.get?_update_other _ _ (Ne.symm hb)).trans e)
  obtain ⟨tk, ha⟩ := ha
  have n0 : H0 Sl = none := I.hok.fresh hs
  have hlt2 : ∀ b o, s0.heap.get? b = some o → b ≠ Sl := fun b o e y => Nat.lt_irrefl _ (Nat.lt_of_lt_of_le (Heap.lt_size e) (by rw [y]; exact hs))
  have I1 : Inv X pins σ (upd H0 Sl (.lst [])) { s0 with heap := (s.heap.update Sl (Obj.mapSeq (·.push Value.none))).update Sl (Obj.mapSeq (·.pop)), toks := tk } :=
    I.laid (t' := tk) (fun b u e => oth b u (hlt2 b u e) (keep b u e)) hs ⟨Nat.zero_le _, [], _, .nil, hS₃⟩
  have es2 : ({ s0 with heap := (s.heap.update Sl (Obj.mapSeq (·.push Value.none))).update Sl (Obj.mapSeq (·.pop)), toks := tk } : Shared) = { s with heap := (s.heap.update Sl (Obj.mapSeq (·.push Value.none))).update Sl (Obj.mapSeq (·.pop)) } := by
    conv => rhs; rw [← ha]
  rw [es2] at I1
  refine wpAny_pure ⟨plainId_quiet F.plain_extend_loop _, zl_loop hh S ne h8 ht hn hz H0 nS hR n 0 _ _ [] rfl (Nat.zero_le _) I1 (fun b hb => ⟨?_, (hf b hb).2⟩) (stS _ oth) (Evl.Ex.new n0) n0 upd_same rfl (fun j r hj => by simp at hj)⟩
  have nb : b ≠ Sl := fun y => nS (y ▸ hb)
  rw [upd_ne nb]
  exact (hf b hb).1
end
end Dw

set_option Elab.async false
set_option linter.all false
set_option maxRecDepth 100000
open PySem PySem.Spec PyProof.Rows L2
namespace Dw
section
variable {X : Cx} {pins : List (Addr × Obj)} {σ : L2.St} {z TI TO : Addr} {es : List Tri} {ls : List (List Nat)} {n : Nat}
theorem zl_call {A : Around} {Q : Value → Shared → Prop} {E : Value → Shared → Prop} (hh : A.handled = none) (S : SepN z TI TO es) (ne : es ≠ []) (h8 : es.length ≤ 8) (ht : (es.map fun e => e.2.1) = ls.map Tx) (hn : ∀ e ∈ es, e.2.1.cps.size = n) (hz : n ≤ 1000) {s : Shared} {H0 : Hp} (I : Inv X pins σ H0 s)
    (hf : ∀ b ∈ (z :: TI :: TO :: es.map fun e => e.1), FpOk X pins H0 b) (st : ZnAt z TI TO es 0 s.heap)
    (hQ : ∀ (s' : Shared) (H' : Hp) (rs : List Addr), Inv X pins σ H' s' → Evl.Ex H0 H' → H' s.heap.objs.size = some (.lst (rs.map V.ref)) → rs.length = n → Rows H' ls rs → Q (.ref s.heap.objs.size) s') :
    wpAny (model X.prog X.w) A (call (.type "list") [.ref z]) Q E s := by
  refine callType_codes (Q₁ := fun obj s₁ => obj = .ref s.heap.objs.size ∧ s₁ = { s with heap := s.heap.push { cls := .type "list", data := .seq #[] } }) F.called_list (F.typeCall_list_1 _) F.entry_list_init
    (code_list_new _ ⟨rfl, rfl⟩) fun obj s₁ h₁ => ?_
  obtain ⟨rfl, rfl⟩ := h₁
  have hS : (s.heap.push { cls := .type "list", data := .seq #[] }).get? s.heap.objs.size = some { cls := .type "list", data := .seq #[] } := Heap.get?_push_size _ rfl
  refine ⟨⟨_, hS, rfl⟩, F.args_list_init_2 _ _, ?_⟩
  show wpAny _ A.in1.in1 (do let old ← Builtin.List.listItems (.ref s.heap.objs.size); Builtin.List.listUpdate (.ref s.heap.objs.size) (fun _ => #[]); letGo old.toList.reverse; Builtin.List.listExtendWith (.ref s.heap.objs.size) (.ref z) .none) _ _ _
  refine wpAny_bind ?_
  unfold Builtin.List.listItems
  refine wpAny_bind (wpAny_seqItems hS rfl (wpAny_pure ?_))
  show wpAny _ A.in1.in1 (updateSeq s.heap.objs.size (fun _ => #[]) >>= fun _ => letGo (#[] : Array Value).toList.reverse >>= fun _ => Builtin.List.listExtendWith (.ref s.heap.objs.size) (.ref z) .none) _ _ _
  refine wpAny_bind (wpAny_updateSeq hS rfl ?_)
  have hS₂ := Heap.get?_update_self (Obj.mapSeq (fun _ => (#[] : Array Value))) hS rfl
  refine wpAny_bind (wpAny_letGo ?_)
  refine zl_extend (A := A.in1) (s0 := s) (H0 := H0) hh S ne h8 ht hn hz I (Nat.le_refl _) (fun b o e => ?_) ⟨s.toks, rfl⟩ hf st hS₂ fun s' H' rs I' e' h' hl hr => ⟨rfl, hQ s' H' rs I' e' h' hl hr⟩
  exact (Heap.get?_update_other _ _ (Ne.symm (Nat.ne_of_lt (Heap.lt_size e)))).trans (Heap.get?_push_of_some _ e)
end
/-- list(zip(a, b)) -/
def tListZ (ta : TA) : TE := fun σ H Q => ta σ H fun vs H1 => ∃ la lb : List Nat, vs = [.str (Tx la), .str (Tx lb)] ∧ la.length = lb.length ∧ la.length ≤ 1000 ∧ ∀ (D : Addr) (rs : List Addr) (H2 : Hp), H1 D = none → Evl.Ex H1 H2 → H2 D = some (.lst (rs.map V.ref)) → rs.length = la.length → Rows H2 [la, lb] rs → Q (.ref D) H2
theorem pe_listZ {X : Cx} {a b : Expr} {ta : TA} {p p2 pos pos2 : Pos} (hc : X.calm = true) (hg : Gl X "list") (hm : X.mg "list" = none) (hg2 : Gl X "zip") (hm2 : X.mg "zip" = none) (ha : PA X [a, b] ta)
    (hs : starEach [a, b] X.env = (false, eval a X.env) :: starEach [b] X.env := by rfl) (hpl : (backTo pos2 (starEach [b] X.env)).any (·.1) = false := by rfl)
    (hs1 : starEach [.Call (.Name "zip" p2) [a, b] [] pos2] X.env = (false, eval (.Call (.Name "zip" p2) [a, b] [] pos2) X.env) :: starEach [] X.env := by rfl) (hpl1 : (backTo pos (starEach [] X.env)).any (·.1) = false := by rfl) :
    PE X (.Call (.Name "list" p) [.Call (.Name "zip" p2) [a, b] [] pos2] [] pos) (tListZ ta) := by
  refine ⟨fun pins s σ H Q I h => ?_⟩
  have hb1 : bootBuiltins "list" = some (.type "list") := by decide +kernel
  refine PyProof.Rows.Call_ (ld_blt I hg hm hb1 (PyProof.Rows.callWith_type1 ?_ hs1 hpl1))
  rw [hs1]
  show wpAny _ _ (spliced ((false, eval (.Call (.Name "zip" p2) [a, b] [] pos2) X.env) :: [])) _ _ s
  refine Calls.spliced_cons ?_
  refine PyProof.Rows.Call_ (ld_blt I hg2 hm2 PyProof.Rows.boot_zip (PyProof.Rows.callWith_type1 (thn (ha.run pos2 pins s σ H _ I h) fun us s1 ⟨vs, H1, I1, r1, q1⟩ => ?_) hs hpl))
  obtain ⟨la, lb, ev, hl, hz, q⟩ := q1
  have rv : Vals ([la, lb].map fun l => V.str (Tx l)) us := by
    rw [ev] at r1
    exact r1
  obtain ⟨ps, rfl, ep⟩ := texts_of rv
  have lp : ps.length = 2 := by
    have := congrArg List.length ep
    rwa [List.length_map, List.length_map] at this
  refine zn_begin (by omega) fun h' is tI tO zp kp => ?_
  have I3 : Inv X pins σ H1 { s1 with heap := h' } := I1.kept (t' := s1.toks) kp
  have S : SepN (s1.heap.objs.size + ps.length + 2) (s1.heap.objs.size + ps.length) (s1.heap.objs.size + ps.length + 1) (esOf s1.heap.objs.size ps) :=
    ⟨fun y => by have y' : s1.heap.objs.size + ps.length + 2 = s1.heap.objs.size + ps.length := y; omega, fun y => by have y' : s1.heap.objs.size + ps.length + 2 = s1.heap.objs.size + ps.length + 1 := y; omega, fun y => by have y' : s1.heap.objs.size + ps.length = s1.heap.objs.size + ps.length + 1 := y; omega,
      fun e he y => by have := (esOf_mem he).2.1; have y' : e.1 = s1.heap.objs.size + ps.length + 2 := y; omega, fun e he y => by have := (esOf_mem he).2.1; have y' : e.1 = s1.heap.objs.size + ps.length := y; omega, fun e he y => by have := (esOf_mem he).2.1; have y' : e.1 = s1.heap.objs.size + ps.length + 1 := y; omega, esOf_nd _ _⟩
  have nes : esOf s1.heap.objs.size ps ≠ [] := fun y => by
    have := esOf_len s1.heap.objs.size ps
    rw [y, lp] at this
    cases this
  have hsz : ∀ e ∈ esOf s1.heap.objs.size ps, e.2.1.cps.size = la.length := fun e he => by
    have m : e.2.1 ∈ ((esOf s1.heap.objs.size ps).map fun e => e.2.1) := List.mem_map.mpr ⟨e, he, rfl⟩
    rw [esOf_texts, ep] at m
    obtain ⟨l, hl2, e2⟩ := List.mem_map.mp m
    rw [← e2]
    simp only [List.mem_cons, List.not_mem_nil, or_false] at hl2
    rcases hl2 with rfl | rfl
    · exact Tx_len _
    · exact (Tx_len _).trans hl.symm
  refine Calls.spliced_nil ?_
  refine zl_call (X := X) (pins := pins) (σ := σ) (I3.ok.hd hc) S nes (by rw [esOf_len]; omega) (by rw [esOf_texts]; exact ep) hsz hz I3 (fun c hcm => ?_) ⟨⟨_, _, _, .inl rfl, zp, tO, by rw [List.length_map]⟩, tI, is⟩ fun s' H' rs I' e' hD hlr hr => ⟨.ref _, H', I', rfl, q _ rs H' ?_ e' hD hlr hr⟩
  · have hle : s1.heap.objs.size ≤ c := by
      simp only [List.mem_cons] at hcm
      rcases hcm with rfl | rfl | rfl | hcm
      · exact Nat.le_trans (Nat.le_add_right _ _) (Nat.le_add_right _ _)
      · exact Nat.le_add_right _ _
      · exact Nat.le_trans (Nat.le_add_right _ _) (Nat.le_add_right _ _)
      · obtain ⟨e, he, rfl⟩ := List.mem_map.mp hcm
        exact (esOf_mem he).1
    exact I1.fpOk hle (I1.hok.fresh hle)
  · exact I3.hok.fresh (Nat.le_refl _)
end Dw

set_option Elab.async false
set_option linter.all false
set_option maxRecDepth 100000
namespace Dw
open PySem L2 Evl
/-- an if whose test has a written text at its right end: behind it a token is out -/
theorem ps_ifT {X : Cx} {a : Expr} {ta : TE} {op : CmpOp} {r : R2} {y : Str} {j : Nat} {c pos pos2 : Pos} {body els : List Stmt} {t u : TS} (ho : OpR X (compareOp op) r) (ha : PE X a ta) (hb : PSsT X body t) (hc : PSs X els u) (hm : behindInMarks op (.Constant (.str y) j c) = false := by rfl) :
    PS X (.If (.Compare a [op] [.Constant (.str y) j c] pos) body els pos2) (tIfS (tTest (tOp r ta (tC (.str y)))) t u) := by
  refine ⟨fun pins s σ H D I h => ?_⟩
  refine wpAny_If (wpAny_isTrue_Compare1 (thn (ha.run pins s σ H _ I h) fun v s1 ⟨x, H1, I1, r1, q1⟩ => Calls.Constant_str (wpAny_mono (PySem.wpAny_toks (ho pins _ σ H1 x (.str y) v _ _ (I1.tok _) r1 ⟨_, rfl⟩ q1)) (fun w s3 q => ?_) fun _ _ z => z.2)) hm)
  obtain ⟨hk, z, H3, I3, r3, k, e, q3⟩ := q
  subst e
  cases r3
  have h1 : 1 ≤ s3.toks := Nat.le_trans (Nat.le_add_left 1 _) hk
  refine wpAny_truthy_bool ?_
  cases k with
  | true => exact hb pins s3 σ H3 D h1 I3 q3
  | false => exact hc.run pins s3 σ H3 D I3 q3
section
variable {σ : L2.St} {H : Hp} {ta tb : TE}
theorem el_catV {l : Addr} {xs ys : List V} (ha : Ev ta σ H (.ref l)) (hx : H l = some (.lst xs)) (hb : EvL tb σ H ys) (hz : xs.length + ys.length ≤ 100000) : EvL (tOp rCat ta tb) σ H (xs ++ ys) := fun H1 e Q q =>
  ha H1 e _ fun H2 e2 => hb H2 (e.trans e2) _ fun r H3 nr e3 h3 => ⟨l, r, xs, ys, rfl, rfl, e3 _ _ (e2 _ _ (e _ _ hx)), h3, sz_of hz, fun s ns => q s _ (fresh_back (e2.trans e3) ns) ((e2.trans e3).trans (Ex.new ns)) upd_same⟩
end
theorem mt_countK {X : Cx} {K : PySem.W.Frag} (h : X.K = K) : MtR X "list.count" (rCntS K) := h ▸ mt_countS
/-! ### the law's own operators -/
def spNotS : Sp := fun vs H Q _ => ∃ c : Nat, vs = [.str (Tx [c])] ∧ ∀ H', Ex H H' → Q (.str (Tx [notS c])) H'
theorem spv_notS {c : Nat} {H : Hp} : SpV spNotS [.str (Tx [c])] H (.str (Tx [notS c])) := fun H1 e Q q E => ⟨c, rfl, q⟩
def spSgK (op : Nat → Nat → Nat) : Sp := fun vs H Q _ => ∃ a b : Nat, vs = [.str (Tx [a]), .str (Tx [b])] ∧ a ∈ k3 ∧ b ∈ k3 ∧ ∀ H', Ex H H' → Q (.str (Tx [op a b])) H'
theorem spv_sgK {op : Nat → Nat → Nat} {a b : Nat} {H : Hp} (ha : a ∈ k3) (hb : b ∈ k3) : SpV (spSgK op) [.str (Tx [a]), .str (Tx [b])] H (.str (Tx [op a b])) := fun H1 e Q q E => ⟨a, b, rfl, ha, hb, q⟩
theorem or_by : ∀ a ∈ k3, ∀ b ∈ k3, notS (andS (notS a) (notS b)) = orS a b := by decide +kernel
def stepK : W2 → Nat → Nat → Nat → Nat
  | .plus, c, d, k => mostS c d k
  | .less, c, d, k => mostS (notS c) d k
  | _, _, _, k => k
def stepF : W2 → Nat → Nat → Nat → List Nat → List Nat
  | .and, c, d, _, s => [andS c d] ++ s
  | .or, c, d, _, s => [orS c d] ++ s
  | .xor, c, d, _, s => [xorS c d] ++ s
  | .plus, c, d, k, s => [xorS (xorS c d) k] ++ s
  | _, _, _, _, s => s
def outW (w : W2) : List Nat → List Nat → Nat → List Nat → List Nat × Nat
  | c :: A, d :: B, k, s => outW w A B (stepK w c d k) (stepF w c d k s)
  | _, _, k, s => (s, k)
theorem out_and : ∀ (A B : List Nat) (k : Nat) (s : List Nat), outW .and A B k s = ((List.zipWith andS A B).reverse ++ s, k)
  | [], _, _, _ => by simp [outW]
  | _ :: _, [], _, _ => by simp [outW]
  | c :: A, d :: B, k, s => by simp [outW, stepK, stepF, out_and A B]
theorem out_or : ∀ (A B : List Nat) (k : Nat) (s : List Nat), outW .or A B k s = ((List.zipWith orS A B).reverse ++ s, k)
  | [], _, _, _ => by simp [outW]
  | _ :: _, [], _, _ => by simp [outW]
  | c :: A, d :: B, k, s => by simp [outW, stepK, stepF, out_or A B]
theorem out_xor : ∀ (A B : List Nat) (k : Nat) (s : List Nat), outW .xor A B k s = ((List.zipWith xorS A B).reverse ++ s, k)
  | [], _, _, _ => by simp [outW]
  | _ :: _, [], _, _ => by simp [outW]
  | c :: A, d :: B, k, s => by simp [outW, stepK, stepF, out_xor A B]
theorem out_plus : ∀ (A B : List Nat) (k : Nat) (s : List Nat), (outW .plus A B k s).1 = (plusL k A B).reverse ++ s
  | [], _, _, _ => by simp [outW, plusL]
  | _ :: _, [], _, _ => by simp [outW, plusL]
  | c :: A, d :: B, k, s => by simp [outW, stepK, stepF, out_plus A B, plusL]
theorem less_by : ∀ c ∈ k3, ∀ d ∈ k3, ∀ k ∈ k3, mostS (notS c) d k = signL (tri 2 c d k) := by decide +kernel
theorem out_less : ∀ (A B : List Nat) (k : Nat) (s : List Nat), Sx A → Sx B → k ∈ k3 → (outW .less A B k s).2 = bK 2 k A B
  | [], _, _, _, _, _, _ => by simp [outW, bK]
  | _ :: _, [], _, _, _, _, _ => by simp [outW, bK]
  | c :: A, d :: B, k, s, ha, hb, hk => by
    have hc := ha c (List.mem_cons_self ..)
    have hd := hb d (List.mem_cons_self ..)
    have ih := out_less A B (mostS (notS c) d k) s (fun x hx => ha x (List.mem_cons_of_mem _ hx)) (fun x hx => hb x (List.mem_cons_of_mem _ hx)) (most_k3 _ _ _)
    simp only [outW, stepK, stepF, bK]
    rw [ih, less_by c hc d hd k hk]
theorem sx_rev {a : List Nat} (h : Sx a) : Sx a.reverse := fun c hc => h c (List.mem_reverse.mp hc)
instance : DecidableEq W2 := fun a b => by
  cases a <;> cases b <;> first | exact isTrue rfl | exact isFalse (fun z => nomatch z)
def resW (w : W2) (a b : List Nat) : List Nat := if w = .less then [(outW w a.reverse b.reverse 48 []).2] else (outW w a.reverse b.reverse 48 []).1
theorem res_ok {w : W2} {a b : List Nat} (hw : w ≠ .same) (hw2 : w ≠ .join) (ha : Sx a) (hb : Sx b) (hl : a.length = b.length) : resW w a b = bi2 w a b := by
  have hl2 : a.reverse.length = b.reverse.length := by simpa using hl
  cases w with
  | and =>
    show (outW .and a.reverse b.reverse 48 []).1 = List.zipWith andS a b
    rw [out_and, List.append_nil]
    show (List.zipWith andS a.reverse b.reverse).reverse = _
    rw [List.reverse_zipWith hl2, List.reverse_reverse, List.reverse_reverse]
  | or =>
    show (outW .or a.reverse b.reverse 48 []).1 = List.zipWith orS a b
    rw [out_or, List.append_nil]
    show (List.zipWith orS a.reverse b.reverse).reverse = _
    rw [List.reverse_zipWith hl2, List.reverse_reverse, List.reverse_reverse]
  | xor =>
    show (outW .xor a.reverse b.reverse 48 []).1 = List.zipWith xorS a b
    rw [out_xor, List.append_nil]
    show (List.zipWith xorS a.reverse b.reverse).reverse = _
    rw [List.reverse_zipWith hl2, List.reverse_reverse, List.reverse_reverse]
  | plus =>
    show (outW .plus a.reverse b.reverse 48 []).1 = plusS a b
    rw [out_plus, List.append_nil]
    rfl
  | less =>
    show [(outW .less a.reverse b.reverse 48 []).2] = [lessS a b]
    rw [out_less _ _ _ _ (sx_rev ha) (sx_rev hb) k3_48]
    have := less_eq a b (sx_sg ha) (sx_sg hb) hl
    rw [rd_id ha, rd_id hb] at this
    rw [this]
  | same => exact absurd rfl hw
  | join => exact absurd rfl hw2
def spAlong : Sp := fun vs H Q _ => ∃ (w : W2) (a b : List Nat), vs = [.str w.s, .str (Tx a), .str (Tx b)] ∧ w ≠ .same ∧ w ≠ .join ∧ Sx a ∧ Sx b ∧ a.length = b.length ∧ a.length ≤ 8 ∧ ∀ H', Ex H H' → Q (.str (Tx (bi2 w a b))) H'
theorem spv_along {w : W2} {a b : List Nat} {H : Hp} (h1 : w ≠ .same) (h2 : w ≠ .join) (ha : Sx a) (hb : Sx b) (hl : a.length = b.length) (h8 : a.length ≤ 8) : SpV spAlong [.str w.s, .str (Tx a), .str (Tx b)] H (.str (Tx (bi2 w a b))) := fun H1 e Q q E => ⟨w, a, b, rfl, h1, h2, ha, hb, hl, h8, q⟩
def overW : W1 → List Nat → Nat
  | .any, l => anyS l
  | _, l => allS l
def spOver : Sp := fun vs H Q _ => ∃ (w : W1) (l : List Nat), vs = [.str w.s, .str (Tx l)] ∧ w ≠ .not ∧ Sx l ∧ l.length ≤ 8 ∧ ∀ H', Ex H H' → Q (.str (Tx [overW w l])) H'
theorem spv_over {w : W1} {l : List Nat} {H : Hp} (h1 : w ≠ .not) (hl : Sx l) (h8 : l.length ≤ 8) : SpV spOver [.str w.s, .str (Tx l)] H (.str (Tx [overW w l])) := fun H1 e Q q E => ⟨w, l, rfl, h1, hl, h8, q⟩
theorem all_and (k x : Nat) (l : List Nat) (hk : k ∈ k3) (hx : x ∈ k3) : allS (andS k x :: l) = allS (k :: x :: l) := by
  simp only [k3, List.mem_cons, List.not_mem_nil, or_false] at hk hx
  unfold allS
  rcases hk with rfl | rfl | rfl <;> rcases hx with rfl | rfl | rfl <;> simp [andS]
theorem any_fold : ∀ (l : List Nat) (k : Nat), k ∈ k3 → Sx l → l.foldl orS k = anyS (k :: l)
  | [], k, hk, _ => by
    simp only [k3, List.mem_cons, List.not_mem_nil, or_false] at hk
    rcases hk with rfl | rfl | rfl <;> rfl
  | x :: l, k, hk, hl => by
    rw [List.foldl_cons, any_fold l _ (or_k3 _ _) (fun c hc => hl c (List.mem_cons_of_mem _ hc)), any_or k x l hk (hl x (List.mem_cons_self ..))]
theorem all_fold : ∀ (l : List Nat) (k : Nat), k ∈ k3 → Sx l → l.foldl andS k = allS (k :: l)
  | [], k, hk, _ => by
    simp only [k3, List.mem_cons, List.not_mem_nil, or_false] at hk
    rcases hk with rfl | rfl | rfl <;> rfl
  | x :: l, k, hk, hl => by
    rw [List.foldl_cons, all_fold l _ (and_k3 _ _) (fun c hc => hl c (List.mem_cons_of_mem _ hc)), all_and k x l hk (hl x (List.mem_cons_self ..))]
theorem all_49 (l : List Nat) : allS (49 :: l) = allS l := by
  unfold allS
  simp
def startW : W1 → Nat
  | .any => 48
  | _ => 49
def foldW : W1 → Nat → Nat → Nat
  | .any => orS
  | _ => andS
theorem over_ok {w : W1} {l : List Nat} (hl : Sx l) : l.foldl (foldW w) (startW w) = overW w l := by
  cases w with
  | any => exact (any_fold l 48 (by decide) hl).trans (any_48 l)
  | all => exact (all_fold l 49 (by decide) hl).trans (all_49 l)
  | not => exact (all_fold l 49 (by decide) hl).trans (all_49 l)
theorem fold_k3 (w : W1) (a b : Nat) : foldW w a b ∈ k3 := by
  cases w with
  | any => exact or_k3 _ _
  | all => exact and_k3 _ _
  | not => exact and_k3 _ _
def spLOp (K : PySem.W.Frag) : Sp := fun vs H Q _ => ∃ (word : Str) (a : Addr) (ls : List (List Nat)) (r : List Nat), vs = [.str word, .ref a] ∧ SqL K H a (ls.map fun l => V.str (Tx l)) ∧ (∀ l ∈ ls, Sx l ∧ l.length ≤ 8) ∧ Op word ls 0 0 r ∧ word ≠ Str.ofString "part" ∧ ∀ H', Ex H H' → Q (.str (Tx r)) H'
theorem spv_lop {K : PySem.W.Frag} {H : Hp} {word : Str} {a : Addr} {ls : List (List Nat)} {r : List Nat} (h : SqL K H a (ls.map fun l => V.str (Tx l))) (h8 : ∀ l ∈ ls, Sx l ∧ l.length ≤ 8) (o : Op word ls 0 0 r) (np : word ≠ Str.ofString "part") : SpV (spLOp K) [.str word, .ref a] H (.str (Tx r)) :=
  fun H1 e Q q E => ⟨word, a, ls, r, rfl, ex_l e h, h8, o, np, q⟩
end Dw

set_option Elab.async false
set_option linter.all false
set_option maxRecDepth 100000
namespace Dw
open PySem L2 Evl
section
variable {K : PySem.W.Frag} {σ : L2.St} {H H' : Hp} {ta tb te tx tl : TE} {t u : TT} {x y z v : V} {D : Ends} {tz : TS}
/-- over pairs of signs that lie in tuples -/
theorem el_lcP {rs : List Addr} {a : Addr} {la lb : List Nat} {j1 j2 : Nat} {vs : List Nat} (g : Nat → V) (h : Ev tl σ H (.ref a)) (hx : SqL K H a (rs.map V.ref)) (hr : Rows H [la, lb] rs) (hl : rs.length = la.length) (hz : la.length ≤ 1000)
    (hw : ∀ x y, wipe (((wipe σ vs).set j1 (some x)).set j2 (some y)) vs = wipe σ vs) (he : ∀ i H1, Ex H H1 → i < la.length → Ev te (((wipe σ vs).set j1 (some (.str (Tx [la.getD i 0])))).set j2 (some (.str (Tx [lb.getD i 0])))) H1 (g i)) :
    EvL (tLc (iList K tl) (gTup K 2 (gCons (gName j1) (gCons (gName j2) gNil))) tYes te vs) σ H ((List.range la.length).map g) := fun H0 e Q q => by
  have e2 : (List.range la.length).map g = given (rs.map V.ref).length (fun _ => true) g := by
    unfold given
    rw [List.filter_eq_self.mpr (fun _ _ => rfl), List.length_map, hl]
  rw [e2] at q
  refine h H0 e _ fun H1 e1 => ⟨a, rfl, ⟨_, ex_l (e.trans e1) hx⟩, fun Dl hD => ?_⟩
  refine lc_list (xs := rs.map V.ref) (Cw H1 (fun _ => true) g Dl) ⟨hD, Ex.new hD, upd_same⟩ (fun i H' _ p => ex_l ((e.trans e1).trans p.2.1) hx) (fun i x H' hi p => ?_) (fun H' p => q Dl H' (fresh_back e1 p.1) (e1.trans p.2.1) p.2.2)
  rw [List.getElem?_map] at hi
  cases hri : rs[i]? with
  | none =>
    rw [hri] at hi
    cases hi
  | some r =>
    rw [hri] at hi
    cases hi
    have hil : i < la.length := by
      rw [← hl]
      exact (List.getElem?_eq_some_iff.mp hri).1
    have ht := ((e.trans e1).trans p.2.1) _ _ (hr i r hri)
    refine ⟨r, _, rfl, st_of ht, rfl, _, _, rfl, _, _, rfl, rfl, ?_⟩
    exact ⟨hw _ _, cw_turn p (by omega) et_yes fun _ => he i H1 (e.trans e1) hil⟩
/-- over a new tuple -/
theorem el_lcNT {xs : List V} {j : Nat} {vs : List Nat} (f : Nat → Bool) (v : Nat → V) (h : EvU tl σ H xs) (hz : xs.length ≤ 40000) (hw : ∀ x, wipe ((wipe σ vs).set j (some x)) vs = wipe σ vs)
    (ht : ∀ (i : Nat) (x : V) H1, Ex H H1 → xs[i]? = some x → EvT t ((wipe σ vs).set j (some x)) H1 (f i)) (he : ∀ (i : Nat) (x : V) H1, Ex H H1 → xs[i]? = some x → f i = true → Ev te ((wipe σ vs).set j (some x)) H1 (v i)) :
    EvL (tLc (iTup K tl) (gName j) t te vs) σ H (given xs.length f v) := fun H0 e Q q => h H0 e _ fun a H1 ha e1 hx => ⟨a, rfl, ⟨xs, st_of hx⟩, fun Dl hD =>
  lc_tup (xs := xs) (Cw H1 f v Dl) ⟨hD, Ex.new hD, upd_same⟩ (fun i H' _ p => st_of (p.2.1 a _ hx)) (fun i x H' hi p => ⟨hw x, cw_turn p (by have := (List.getElem?_eq_some_iff.mp hi).1; omega) (ht i x H1 (e.trans e1) hi) (fun hf => he i x H1 (e.trans e1) hi hf)⟩)
    (fun H' p => q Dl H' (fresh_back e1 p.1) (e1.trans p.2.1) p.2.2)⟩
theorem eu_slT {tlo thi : TO} {a : Addr} {xs : List V} {lo hi : Option Int} (h : Ev te σ H (.ref a)) (h1 : EvO tlo σ H lo) (h2 : EvO thi σ H hi) (hs : SqT K H a xs) (hn : ¬ (HT.sIx xs.length 0 lo = 0 ∧ HT.sIx xs.length xs.length hi = xs.length)) : EvU (tSl (rSlT K) te tlo thi) σ H (cutV xs lo hi) := fun H1 e _ q =>
  h H1 e _ fun H2 e2 => h1 H2 (e.trans e2) _ fun H3 e3 => h2 H3 ((e.trans e2).trans e3) _ fun H4 e4 =>
    ⟨a, xs, rfl, ex_t (((e.trans e2).trans e3).trans e4) hs, hn, fun p hp => q p _ (fresh_back ((e2.trans e3).trans e4) hp) (((e2.trans e3).trans e4).trans (Ex.new hp)) upd_same⟩
theorem q_asgLZ {i : Nat} {tA : TA} {la lb : List Nat} (h : EvA tA σ H [.str (Tx la), .str (Tx lb)]) (hl : la.length = lb.length) (hz : la.length ≤ 1000) (k : ∀ p rs H1, H p = none → Ex H H1 → H1 p = some (.lst (rs.map V.ref)) → rs.length = la.length → Rows H1 [la, lb] rs → tz D (σ.set i (some (.ref p))) H1) :
    tSeq (tAsg (tListZ tA) (gName i)) tz D σ H := h H (Ex.refl _) _ fun H1 e1 => ⟨la, lb, rfl, hl, hz, fun p rs H2 np e2 h2 hl2 hr => k p rs H2 (fresh_back e1 np) (e1.trans e2) h2 hl2 hr⟩
end
theorem given_first {n m : Nat} {v : Nat → V} : given (n + m) (fun i => decide (i < n)) v = given n (fun _ => true) v := by
  induction m with
  | zero =>
    unfold given
    congr 1
    refine List.filter_congr fun i hi => ?_
    rw [Nat.add_zero] at hi
    simp [List.mem_range.mp hi]
  | succ m ih =>
    rw [← Nat.add_assoc, given_no (by simp), ih]
theorem cut_behind {w : V} {xs : List V} : cutV (w :: xs) (some 1) none = xs := by
  unfold cutV
  have h1 : HT.sIx (w :: xs).length 0 (some 1) = 1 := by
    unfold HT.sIx
    simp
  rw [h1, HT.sIx_none]
  simp
theorem cut_not {w : V} {xs : List V} {hi : Option Int} : ¬ (HT.sIx (w :: xs).length 0 (some 1) = 0 ∧ HT.sIx (w :: xs).length (w :: xs).length hi = (w :: xs).length) := fun z => by
  have := z.1
  unfold HT.sIx at this
  simp at this
theorem mix_range {la lb : List Nat} (h : la.length = lb.length) : ((List.range la.length).map fun i => V.str (Tx [mixS (la.getD i 0) (lb.getD i 0)])) = (List.zipWith mixS la lb).map fun c => V.str (Tx [c]) := by
  apply List.ext_getElem
  · simp [h]
  · intro i h1 h2
    simp at h1
    simp [h1, show i < lb.length by omega]
theorem mix_sx {a b : Nat} (ha : a ∈ k3) (hb : b ∈ k3) : mixS a b = if a = b then a else 120 := by
  simp only [k3, List.mem_cons, List.not_mem_nil, or_false] at ha hb
  rcases ha with rfl | rfl | rfl <;> rcases hb with rfl | rfl | rfl <;> decide
theorem ends_int {t : Tm} {i : Nat} {x : V} (h : (ends t)[i]? = some x) : ∃ n : Int, x = .int n := by
  cases t with
  | part a hi lo =>
    match i, h with
    | 0, h => exact ⟨_, (Option.some.inj h).symm⟩
    | 1, h => exact ⟨_, (Option.some.inj h).symm⟩
  | is l => simp [ends] at h
  | of l => simp [ends] at h
  | un w a => simp [ends] at h
  | bi w a b => simp [ends] at h
  | pick c a b => simp [ends] at h
theorem TmAt.isTup {H : Hp} : ∀ {t : Tm} {v : V}, TmAt H t v → ∃ a xs, v = .ref a ∧ H a = some (.tup xs)
  | .is l, _, ⟨a, h1, h2⟩ => ⟨a, _, h1, h2⟩
  | .of x, _, ⟨a, h1, h2⟩ => ⟨a, _, h1, h2⟩
  | .un w s, _, ⟨a, u, h1, h2, h3⟩ => ⟨a, _, h1, h2⟩
  | .bi w s t, _, ⟨a, u, u2, h1, h2, h3, h4⟩ => ⟨a, _, h1, h2⟩
  | .pick c s t, _, ⟨a, u, u1, u2, h1, h2, h3, h4, h5⟩ => ⟨a, _, h1, h2⟩
  | .part s hi lo, _, ⟨a, u, h1, h2, h3⟩ => ⟨a, _, h1, h2⟩
end Dw

set_option Elab.async false
set_option linter.all false
set_option maxRecDepth 100000
namespace Dw
open PySem L2 Evl
theorem unlockB {H H' : Hp} {p d : Addr} {od : Obj} {w : HO} (hd : H d = some w) (e : ExB p (L2.upd H d (.frz od w)) H') : ExB p H (L2.upd H' d w) := fun b o nb hb => by
  by_cases n : b = d
  · rw [n, upd_same]
    rw [n, hd] at hb
    exact hb
  · rw [upd_ne n]
    exact e b o nb (by rw [upd_ne n]; exact hb)
theorem paired_imp {α β : Type} {R S : α → β → Prop} (f : ∀ a b, R a b → S a b) : ∀ {as : List α} {bs : List β}, PySem.Paired R as bs → PySem.Paired S as bs
  | _, _, .nil => .nil
  | _, _, .cons r t => .cons (f _ _ r) (paired_imp f t)
theorem paired_rmap {α β γ : Type} {R : α → γ → Prop} (g : β → γ) : ∀ {as : List α} {bs : List β}, PySem.Paired (fun a b => R a (g b)) as bs → PySem.Paired R as (bs.map g)
  | _, _, .nil => .nil
  | _, _, .cons r t => .cons r (paired_rmap g t)
/-- one name, what it has -/
abbrev YV := Str × List Nat
def rowOf (H : Hp) (r : Addr) (y : YV) : Prop := H r = some (.tup [.str y.1, .str (Tx y.2)])
def fitY (ss : List Nat) (y : YV) (a : Str × Nat) : Prop := y.1 = a.1 ∧ y.2.length = a.2 ∧ ∀ c ∈ y.2, c ∈ ss
abbrev ysK (ys : List YV) : List (Key × V) := ys.map fun y => ((Sum.inr y.1 : Key), V.str (Tx y.2))
theorem fit_names {ss : List Nat} : ∀ {ys : List YV} {ws : List (Str × Nat)}, PySem.Paired (fitY ss) ys ws → ys.map (·.1) = ws.map (·.1)
  | _, _, .nil => rfl
  | _, _, .cons r t => by rw [List.map_cons, List.map_cons, r.1, fit_names t]
def spVals : Sp := fun vs H Q _ => ∃ (p q : Addr) (ss : List Nat) (ws : List (Str × Nat)), vs = [.ref p, .ref q, .str (Tx ss)] ∧ PotAt H p ∧ WsAt H q ws ∧ WsOk ws ∧ ws.length ≤ 1000 ∧ 0 < ss.length ∧ ss.length ≤ 1000 ∧
  ∀ (H' : Hp) (d : Addr) (ys : List YV), ExB p H H' → PotAt H' p → H' d = some (.dK (ysK ys)) → PySem.Paired (fitY ss) ys ws → Q (.ref d) H'
theorem env_of {ss : List Nat} (hs : ∀ c ∈ ss, c ∈ sgn) : ∀ {ys : List YV} {ws : List (Str × Nat)}, PySem.Paired (fitY ss) ys ws → (ws.map (·.1)).Nodup → ∃ E : Str → List Nat, EnvOk ws E ∧ ∀ y ∈ ys, E y.1 = y.2
  | _, _, .nil, _ => ⟨fun _ => [], fun p hp => (by cases hp), fun y hy => by cases hy⟩
  | y :: ys, a :: ws, .cons r t, hn => by
    rw [List.map_cons, List.nodup_cons] at hn
    obtain ⟨E, h1, h2⟩ := env_of hs t hn.2
    refine ⟨fun x => if x = a.1 then y.2 else E x, fun b hb => ?_, fun z hz => ?_⟩
    · rcases List.mem_cons.mp hb with rfl | hb
      · simp only [if_pos rfl]
        exact ⟨fun c hc => hs c (r.2.2 c hc), r.2.1⟩
      · have nb : b.1 ≠ a.1 := fun z => hn.1 (by rw [← z]; exact List.mem_map.mpr ⟨b, hb, rfl⟩)
        simp only [if_neg nb]
        exact h1 b hb
    · rcases List.mem_cons.mp hz with rfl | hz
      · exact if_pos r.1
      · have nb : z.1 ≠ a.1 := fun w => hn.1 (by rw [← w, ← fit_names t]; exact List.mem_map.mpr ⟨z, hz, rfl⟩)
        simp only [if_neg nb]
        exact h2 z hz
/-- the dict has what E says -/
theorem envAt_of {ss : List Nat} {ys : List YV} {ws : List (Str × Nat)} {E : Str → List Nat} {H : Hp} {d : Addr} (hd : H d = some (.dK (ysK ys))) (hp : PySem.Paired (fitY ss) ys ws) (hn : (ws.map (·.1)).Nodup) (hE : ∀ y ∈ ys, E y.1 = y.2) : EnvAt H d ws E := by
  refine ⟨_, hd, fun a ha => ?_⟩
  have hy : ∃ y ∈ ys, y.1 = a.1 := by
    have : a.1 ∈ ys.map (·.1) := by rw [fit_names hp]; exact List.mem_map.mpr ⟨a, ha, rfl⟩
    obtain ⟨y, h1, h2⟩ := List.mem_map.mp this
    exact ⟨y, h1, h2⟩
  obtain ⟨y, h1, h2⟩ := hy
  rw [← h2, hE y h1]
  exact valV_of (k := fun y : YV => y.1) (g := fun y => V.str (Tx y.2)) (by rw [fit_names hp]; exact hn) h1
theorem PotAt.ne' {H : Hp} {p D : Addr} {xs : List V} (h : PotAt H p) (n : H D = some (.tup xs)) : D ≠ p := fun z => by
  obtain ⟨x, y, h1, _⟩ := h
  rw [z, h1] at n
  cases n
theorem p_asgL {σ : L2.St} {H : Hp} {te : TE} {p : Addr} {D : Ends} {tz : TS} {G : List V → Hp → Prop} {i : Nat} (h : EvPL p te σ H G) (hP : PotAt H p) (k : ∀ g xs H1, H g = none → ExB p H H1 → PotAt H1 p → H1 g = some (.lst xs) → G xs H1 → tz D (σ.set i (some (.ref g))) H1) : tSeq (tAsg te (gName i)) tz D σ H := h H (ExB.refl _ _) hP _ fun g xs H1 n e hP1 hg g1 => k g xs H1 n e hP1 hg g1
theorem q_lcR3 {σ : L2.St} {H : Hp} {te : TE} {D : Ends} {tz : TS} {n j i : Nat} {vs : List Nat} {a b c : Int} {tA : TA} (hA : EvA tA σ H [.int a, .int b, .int c]) (hr : RgC a b c n) (Pv : Hp → Addr → Nat → Hp → Prop) (h0 : ∀ H1 Dl, Ex H H1 → H1 Dl = none → Pv H1 Dl 0 (L2.upd H1 Dl (.lst [])))
    (hs : ∀ H1 Dl k H2, Ex H H1 → H1 Dl = none → k < n → Pv H1 Dl k H2 → wipe ((wipe σ vs).set j (some (.int (a + (k : Int) * c)))) vs = wipe σ vs ∧ te ((wipe σ vs).set j (some (.int (a + (k : Int) * c)))) H2 fun y H4 => ∃ acc, H4 Dl = some (.lst acc) ∧ acc.length < sizeLine ∧ Pv H1 Dl (k + 1) (L2.upd H4 Dl (.lst (acc ++ [y]))))
    (hd : ∀ H1 Dl H2, Ex H H1 → H1 Dl = none → Pv H1 Dl n H2 → tz D (σ.set i (some (.ref Dl))) H2) : tSeq (tAsg (tLc (iRng3 tA) (gName j) tYes te vs) (gName i)) tz D σ H :=
  hA H (Ex.refl _) _ fun H1 e1 => ⟨a, b, c, n, rfl, hr, fun Dl hD => lc_it walk_rangeC (Pv H1 Dl) (h0 H1 Dl e1 hD) (fun _ _ _ _ => True.intro) (fun k x H2 H3 hk p y => by
    obtain ⟨rfl, rfl⟩ := y
    exact hs H1 Dl k H3 e1 hD hk p) (fun H2 p => hd H1 Dl H2 e1 hD p)⟩
/-! ### great terms -/
def TmG (ws : List (Str × Nat)) (m n : Nat) : V → Hp → Prop := fun v H => ∃ t, TmAt H t v ∧ Wd ws t m ∧ dep t ≤ n
theorem TmG.mono {ws : List (Str × Nat)} {m n : Nat} {v : V} {H H' : Hp} (h : TmG ws m n v H) (e : ExT H H') : TmG ws m n v H' := let ⟨t, a, b, c⟩ := h; ⟨t, TmAt.mono e a, b, c⟩
def spGreat : Sp := fun vs H Q _ => ∃ (p : Addr) (x : Str) (w : Nat) (ws : List (Str × Nat)), vs = [.ref p, .str x] ∧ PotAt H p ∧ (x, w) ∈ ws ∧ WsOk ws ∧ ∀ (H' : Hp) (v : V), ExB p H H' → PotAt H' p → (∃ m, TmG ws m 11 v H') → Q v H'
def lens : Nat → Nat
  | 0 => 20
  | 1 => 10
  | 2 => 5
  | 3 => 3
  | 4 => 2
  | _ => 1
theorem lens_step {j L : Nat} (hj : j ≤ 5) (h : L ≤ lens j) (h1 : 1 < L) : j + 1 ≤ 5 ∧ L / 2 + L % 2 ≤ lens (j + 1) := by
  match j, hj with
  | 0, _ => simp [lens] at h ⊢; omega
  | 1, _ => simp [lens] at h ⊢; omega
  | 2, _ => simp [lens] at h ⊢; omega
  | 3, _ => simp [lens] at h ⊢; omega
  | 4, _ => simp [lens] at h ⊢; omega
  | 5, _ => simp [lens] at h; omega
theorem rg2 : ∀ L : Fin 32, 1 < L.val → RgC 0 ((L.val : Int) - 1) 2 (L.val / 2) := by
  unfold RgC
  decide +kernel
/-- [e for k in range(n)], what e gives kept by its own rules -/
theorem evp_lcR2 {σ : L2.St} {H : Hp} {te : TE} {p : Addr} {G : V → Hp → Prop} {lo m : Int} {j : Nat} {vs : List Nat} {tn : TE} (hn : EvP p tn σ H fun v _ => ∃ d : Int, v = .int d ∧ lo ≤ d ∧ d ≤ m) (hl : 0 ≤ lo) (hm : m ≤ 40000) (hw : ∀ x, wipe ((wipe σ vs).set j (some x)) vs = wipe σ vs)
    (he : ∀ (i : Nat) H1, ExB p H H1 → (i : Int) < m → EvP p te ((wipe σ vs).set j (some (.int (i : Int)))) H1 G) (hg : ∀ v H1 H2, ExB p H1 H2 → PotAt H1 p → G v H1 → G v H2) (hg2 : ∀ v H1 D xs ys, H1 D = some (.lst xs) → G v H1 → G v (L2.upd H1 D (.lst ys))) :
    EvPL p (tLc (iRng1 (tCons tn tNil)) (gName j) tYes te vs) σ H (fun xs H2 => lo ≤ (xs.length : Int) ∧ (xs.length : Int) ≤ m ∧ ∀ x ∈ xs, G x H2) := fun H1 e hP Q q => by
  refine hn H1 e hP _ fun v H2 e2 hP2 ⟨d, hv, d0, d1⟩ => ⟨d, by rw [hv], by omega, by omega, fun Dl hD => ?_⟩
  have nD := hP2.ne hD
  refine lc_range (lo := 0) (n := d.toNat) (fun i H4 => ExB p H2 H4 ∧ PotAt H4 p ∧ ∃ xs : List V, H4 Dl = some (.lst xs) ∧ xs.length = i ∧ ∀ x ∈ xs, G x H4)
    ⟨ExB.of (Ex.new hD), hP2.ex (Ex.new hD), [], upd_same, rfl, fun x hx => by cases hx⟩ (fun i H4 hi hv => ?_) (fun H4 hv => ?_)
  · obtain ⟨e4, hP4, xs, h4, hn4, hs⟩ := hv
    refine ⟨?_, ?_⟩
    · exact hw _
    · have e0 : (0 : Int) + (i : Int) = (i : Int) := Int.zero_add _
      show te ((wipe σ vs).set j (some (.int ((0 : Int) + (i : Int))))) H4 _
      rw [e0]
      refine he i H4 ((e.trans e2).trans e4) (by omega) H4 (ExB.refl _ _) hP4 _ fun y H5 e5 hP5 g5 => ?_
      have h5 := e5 Dl _ nD h4
      refine ⟨xs, h5, sz_lt (by omega), (e4.trans e5).mut hD, hP5.upd nD, xs ++ [y], upd_same, by rw [List.length_append, hn4]; rfl, fun z hz => ?_⟩
      rcases List.mem_append.mp hz with h | h
      · exact hg2 z _ _ _ _ h5 (hg z _ _ e5 hP4 (hs z h))
      · rw [List.mem_singleton.mp h]
        exact hg2 y _ _ _ _ h5 g5
  · obtain ⟨e4, hP4, xs, h4, hn4, hs⟩ := hv
    exact q Dl xs H4 (by
      cases hx : H1 Dl with
      | none => rfl
      | some o =>
        have := e2 Dl o nD hx
        rw [hD] at this
        cases this) (e2.trans e4) hP4 h4 ⟨by omega, by omega, hs⟩
theorem exB_of_C {H H1 H2 : Hp} {p r : Addr} (e1 : Ex H H1) (hr : H r = none) (e2 : ExC p r H1 H2) : ExB p H H2 := fun b o nb hb => e2 b o nb (ne_of_none hb hr) (e1 b o hb)
def wdRow (H : Hp) (r : Addr) (a : Str × Nat) : Prop := H r = some (.tup [.str a.1, .int (a.2 : Int)])
/-- a dict of what the names have, as it was drawn -/
def DcG (ws : List (Str × Nat)) : V → Hp → Prop := fun v H => ∃ d ys ss, v = .ref d ∧ H d = some (.dK (ysK ys)) ∧ PySem.Paired (fitY ss) ys ws ∧ ∀ c ∈ ss, c ∈ sgn
theorem DcG.ex {ws : List (Str × Nat)} {v : V} {H H' : Hp} (h : DcG ws v H) (e : Ex H H') : DcG ws v H' := let ⟨d, ys, ss, a, b, c⟩ := h; ⟨d, ys, ss, a, e _ _ b, c⟩
theorem mem_cut {xs : List V} {lo hi : Option Int} {v : V} (h : v ∈ cutV xs lo hi) : v ∈ xs := by
  unfold cutV at h
  exact List.mem_of_mem_drop (List.mem_of_mem_take h)
theorem cut_len {xs : List V} {lo hi : Option Int} : (cutV xs lo hi).length ≤ xs.length := by
  unfold cutV
  rw [List.length_take, List.length_drop]
  omega
end Dw

set_option Elab.async false
set_option linter.all false
set_option maxRecDepth 100000
set_option maxHeartbeats 4000000
namespace Dw
open PySem PySem.Spec L2 Evl
/-! ### a lambda of one parameter, called from the state of its maker -/
structure LamS1 (sc scope : Scope) (p : Str) : Prop where
  kind : scope.kind = .function
  co : scope.isCoroutine = false
  gen : scope.isGenerator = false
  par : scope.names.lookup p = some .local
  own : ∀ y ∈ scope.names, y.2 ≠ .cell ∧ (y.2 = .local → y.1 = p)
  free : ∀ y ∈ scope.names, y.2 = .free → sc.names.lookup y.1 = some .cell ∨ sc.names.lookup y.1 = some .free
def lamS1B (sc scope : Scope) (p : Str) : Bool :=
  decide (scope.kind = .function) && !scope.isCoroutine && !scope.isGenerator && decide (scope.names.lookup p = some .local) && scope.names.all fun y => !decide (y.2 = .cell) && (!decide (y.2 = .local) || decide (y.1 = p)) && (!decide (y.2 = .free) || decide (sc.names.lookup y.1 = some .cell) || decide (sc.names.lookup y.1 = some .free))
theorem lamS1_by {sc scope : Scope} {p : Str} (h : lamS1B sc scope p = true) : LamS1 sc scope p := by
  unfold lamS1B at h
  simp only [Bool.and_eq_true, Bool.or_eq_true, Bool.not_eq_true', decide_eq_true_eq, decide_eq_false_iff_not, List.all_eq_true] at h
  obtain ⟨⟨⟨⟨h1, h2⟩, h3⟩, h4⟩, h5⟩ := h
  refine ⟨h1, h2, h3, h4, fun y hy => ⟨(h5 y hy).1.1, fun e => ?_⟩, fun y hy e => ?_⟩
  · rcases (h5 y hy).1.2 with z | z
    · exact absurd e z
    · exact z
  · rcases (h5 y hy).2 with (z | z) | z
    · exact absurd e z
    · exact .inl z
    · exact .inr z
theorem LamS1.has {X : Cx} {scope : Scope} {p : Str} (L : LamS1 X.env.scope scope p) (ok : X.Ok) : ∀ y ∈ scope.names, y.2 = .free → ∃ c, X.env.cells.lookup y.1 = some c := fun y hy e => by
  rcases L.free y hy e with k | k
  · exact ok.has _ (.inl k)
  · exact ok.has _ (.inr k)
/-- the context of the body: the parameter ahead of the maker's names; nothing is raised -/
def lamCx1 (X : Cx) (A : Around) (s : Shared) (H : Hp) (scope : Scope) (p : Str) (f c' : Addr) : Cx where
  prog := X.prog
  w := X.w
  K := X.K
  mg := X.mg
  base := X.base
  A := A.deeper (LamX.lamEnv X scope s.heap.objs.size f c')
  N := p :: X.N
  s_0 := s
  H_0 := H
  env := LamX.lamEnv X scope s.heap.objs.size f c'
  outer := X.stack
  stack := LamX.lamEnv X scope s.heap.objs.size f c' :: X.stack
  ex := []
  fn := fun _ => false
  calm := true
  pn := []
  xe := fun _ _ => False
section
open PyProof.Rows LamX
variable {X : Cx} {pins : List (Addr × Obj)} {σ σe : L2.St} {H : Hp} {s : Shared} {A : Around} {scope : Scope} {p : Str} {f c' : Addr} {v : V} {u : Value}
theorem lam_start1 {h₁ : Heap} {tk : Nat} (I : Inv X pins σ H s) (L : LamS1 X.env.scope scope p) (e0 : Env0 X.prog X.w X.K X.mg X.base A X.stack s H) (hd : A.handled = none)
    (hns : h₁.Ns s.heap.objs.size fun y => ([(p, u)] : List (Str × Value)).reverse.lookup y) (kp : ∀ b o, s.heap.get? b = some o → h₁.get? b = some o) (rv : RelV v u)
    (he : σe.length = σ.length) (hs : ∀ (i : Nat) v, σe[i]? = some (some v) → σ[i]? = some (some v) ∧ X.N[i]? ≠ some p) :
    Inv (lamCx1 X A s H scope p f c') [] (some v :: σe) H { s with heap := h₁, toks := tk } := by
  have hfree := L.has I.ok
  have cm : ∀ {y c}, (cloFrom X.env.cells scope.names []).lookup y = some c → X.env.cells.lookup y = some c := fun {y c} e => by
    rcases cloFrom_mem (PySem.mem_of_lookup e) with hm | ⟨h1, h2⟩
    · cases hm
    · obtain ⟨c1, hc⟩ := hfree _ h1 rfl
      have hc : X.env.cells.lookup y = some c1 := hc
      have e2 : c = c1 := by
        rw [h2, hc] <;> rfl
      rw [e2]
      exact hc
  have look : ∀ {y}, scope.names.lookup y = some .free → ∃ c, (cloFrom X.env.cells scope.names []).lookup y = some c := fun {y} hl => by
    have hy : (y, NameKind.free) ∈ scope.names := PySem.mem_of_lookup hl
    exact mem_lookup (cloFrom_has (cells := X.env.cells) (acc := []) hy)
  have cellK : ∀ {c : Addr} {v : Option Value}, s.heap.IsCell c v → h₁.IsCell c v := fun {c v} ⟨o, ho, hd⟩ => ⟨_, kp _ _ ho, hd⟩
  have noA : ∀ b : Addr, b ∉ (lamCx1 X A s H scope p f c').ex := fun b z => absurd (show b ∈ ([] : List Addr) from z) (by simp)
  refine ⟨⟨e0.mod, L.kind, rfl, rfl, Nat.le_refl _, fun y z c e1 e2 => I.ok.inj y z c (cm e1) (cm e2), fun y hy => ?_, fun y c z _ => ?_, fun _ => hd, Around.frames_deeper e0.frames, .inr ⟨rfl, rfl⟩, fun b z => absurd z (noA b), e0.bs, e0.bsz, fun b _ _ => noA b,
      fun b z => absurd z (noA b), e0.funs, e0.frf⟩,
    rfl, e0.bare, Un.kept kp, ⟨_, hns, fun i y v' e1 e2 e3 => ?_⟩, fun y c e => ?_, e0.hok.fresh (Nat.le_refl _), fun y c e => ?_, fun q hq => absurd (show q ∈ ([] : List (Addr × Obj)) ++ [] from hq) (by simp), e0.hok.kept kp, ?_⟩
  · have hy : scope.names.lookup y = some .cell ∨ scope.names.lookup y = some .free := hy
    rcases hy with hy | hy
    · exact absurd rfl (L.own _ (PySem.mem_of_lookup hy)).1
    · exact look hy
  · have z : false = true := z
    cases z
  · cases i with
    | zero =>
      have e1 : some p = some y := e1
      have e2 : some (some v) = some (some v') := e2
      cases e1
      cases e2
      exact ⟨u, rv, .inl ⟨L.par, by simp⟩⟩
    | succ i =>
      have e1 : X.N[i]? = some y := by simpa [lamCx1] using e1
      have e2 : σe[i]? = some (some v') := by simpa using e2
      have e3 : Vis scope y := e3
      obtain ⟨e2', ne⟩ := hs i v' e2
      rcases e3 with k | k | k
      · exact absurd (e1.trans (congrArg some ((L.own _ (PySem.mem_of_lookup k)).2 rfl))) ne
      · exact absurd rfl (L.own _ (PySem.mem_of_lookup k)).1
      · obtain ⟨m, hn, hl⟩ := I.loc
        have hvis : Vis X.env.scope y := (L.free _ (PySem.mem_of_lookup k) rfl).elim (fun k => .inr (.inl k)) (fun k => .inr (.inr k))
        obtain ⟨w', r, q⟩ := hl i y v' e1 e2' hvis
        obtain ⟨c2, h2⟩ := look k
        refine ⟨w', r, .inr ⟨.inr k, c2, h2, ?_⟩⟩
        have c1 := cm h2
        rcases q with ⟨k', _⟩ | ⟨_, c3, e', z⟩
        · have k' : X.env.scope.names.lookup y = some .local := k'
          rcases L.free _ (PySem.mem_of_lookup k) rfl with k2 | k2 <;> rw [show X.env.scope.names.lookup y = _ from k2] at k' <;> cases k'
        · rw [c1] at e'
          cases e'
          exact cellK z
  · obtain ⟨w', z⟩ := I.cell y c (cm e)
    exact ⟨w', cellK z⟩
  · exact I.freeC y c (cm e)
  · show (some v :: σe).length = (p :: X.N).length
    rw [List.length_cons, List.length_cons, he, I.len]
/-- the lambda at f, called with u -/
theorem lam_run1 {k : Nat} {params : Arguments} {body : Expr} {pm ctv : Value} {Q : VK} {tb : TE} (I : Inv X pins σ H s) (L : LamS1 X.env.scope scope p)
    (hf : s.heap.get? f = some (PySem.W.kla_obj "<lambda>" (X.env.qual ++ "<lambda>") params body scope (cloFrom X.env.cells scope.names []) pm c' ctv)) (hc : H c' = some (CodeO c' (X.env.qual ++ "<lambda>")))
    (hbind : bindArgs (PySem.W.kla_fn "<lambda>" (X.env.qual ++ "<lambda>") params body scope (cloFrom X.env.cells scope.names []) pm (.ref c') ctv) ⟨[u], []⟩ = pure [(p, u)])
    (hr : Room (k + 1) A) (e0 : Env0 X.prog X.w X.K X.mg X.base A X.stack s H) (rv : RelV v u)
    (he : σe.length = σ.length) (hs : ∀ (i : Nat) v, σe[i]? = some (some v) → σ[i]? = some (some v) ∧ X.N[i]? ≠ some p)
    (hbody : PE (lamCx1 X A s H scope p f c') body tb) (ht : tb (some v :: σe) H Q) :
    wpAny (model X.prog X.w) A (call (.ref f) [u]) (EP X pins σ Q) (fun _ _ => False) s := by
  obtain ⟨⟨oc, vs, t, hoc, hdc, hvc⟩, _, _⟩ := I.hok c' _ hc
  have rc : codeAny (model X.prog X.w) A (.call (.ref f) ⟨[u], []⟩) (CR C8.CX0 X.stack X.prog X.w H s Q C8.E0) s := by
    refine PySem.W.kla_callFunE hr.depth hf rfl L.co L.gen rfl ⟨c', oc, vs, t, rfl, hoc, hdc, hvc⟩ ?_
    rw [hbind]
    refine wpAny_pure (wpAny_newFunctionEnv (fun y hy => (L.own y hy).1) (fun y hy => ?_) (fun h₁ hns hsb => ⟨I.nolimit.fresh _ hsb, ?_⟩) L.kind)
    · rw [List.mem_singleton.mp hy]
      exact L.par
    · show codeAny _ _ (.expr body (lamEnv X scope s.heap.objs.size f c')) _ _
      have kp : ∀ b o, s.heap.get? b = some o → h₁.get? b = some o := fun b o e => hsb.extBut b o (Nat.ne_of_lt (Heap.lt_size e)) (Heap.get?_push_of_some _ e)
      have J : Inv (lamCx1 X A s H scope p f c') [] (some v :: σe) H { s with heap := h₁, toks := s.toks + ([(p, u)] : List (Str × Value)).length } :=
        lam_start1 I L e0 hr.hd hns kp rv he hs
      refine PySem.W.kla_codeExpr (wpAny_mono (hbody.run [] _ _ H Q J ht) (fun v s' hq => ?_) fun e s' hq => hq.elim)
      obtain ⟨w', H', J', rv, q⟩ := hq
      exact ⟨w', H', J'.os, J'.bare, J'.base, J'.hok, rv, q⟩
  refine wpAny_call (codeAny_mono rc fun r s' hq => ?_)
  cases r with
  | error e => exact hq
  | ok fl =>
    cases fl with
    | ret u => exact I.after hq
    | next => exact False.elim hq
    | brk => exact False.elim hq
    | cont => exact False.elim hq
end
end Dw

set_option Elab.async false
set_option linter.all false
set_option maxRecDepth 100000
set_option maxHeartbeats 4000000
namespace Dw
open PySem PySem.Spec L2 Evl
/-! ### sorted by the keys that a call tells -/
/-- ys: the members of xs, by their keys kz, alike ones as they stood -/
def KOut (kz : List Int) (xs ys : List V) : Prop :=
  ∃ qs : List (Int × V), qs.Perm (kz.zip xs) ∧ ys = qs.map Prod.snd ∧ qs.Pairwise (fun p q => p.1 ≤ q.1) ∧ ∀ c, qs.filter (fun p => p.1 == c) = (kz.zip xs).filter (fun p => p.1 == c)
def toV (u : Value) : V := (absV u).getD .non
theorem toV_rel {x : V} {u : Value} (r : RelV x u) : toV u = x := by
  unfold toV
  rw [r.abs]
  rfl
theorem vals_map : ∀ {xs : List V} {us : List Value}, Vals xs us → xs = us.map toV
  | _, _, .nil => rfl
  | _, _, .cons r t => by rw [List.map_cons, toV_rel r, ← vals_map t]
theorem vals_mem : ∀ {xs : List V} {us : List Value}, Vals xs us → ∀ u ∈ us, RelV (toV u) u
  | _, _, .nil, u, h => nomatch h
  | _, _, .cons r t, u, h => by
    rcases List.mem_cons.mp h with e | h
    · rw [e, toV_rel r]; exact r
    · exact vals_mem t u h
theorem vals_back : ∀ {us : List Value}, (∀ u ∈ us, RelV (toV u) u) → Vals (us.map toV) us
  | [], _ => .nil
  | u :: us, h => .cons (h u List.mem_cons_self) (vals_back fun w hw => h w (List.mem_cons_of_mem _ hw))
theorem zip_mapR {α β γ : Type} (g : β → γ) : ∀ (l : List α) (m : List β), l.zip (m.map g) = (l.zip m).map fun p => (p.1, g p.2)
  | [], _ => by simp
  | _ :: _, [] => by simp
  | a :: l, b :: m => by simp [zip_mapR g l m]
theorem kout_of {kz : List Int} {xs : List V} {vs out : List Value} (r : Vals xs vs) (k : PyProof.Rows.KskOutSt false kz vs out) : KOut kz xs (out.map toV) ∧ Vals (out.map toV) out := by
  obtain ⟨ps, p1, p2, p3, p4⟩ := k
  have ex : kz.zip xs = (kz.zip vs).map fun p => (p.1, toV p.2) := by rw [vals_map r, zip_mapR]
  refine ⟨⟨ps.map fun p => (p.1, toV p.2), by rw [ex]; exact p1.map _, by rw [p2, List.map_map, List.map_map]; rfl, ?_, fun c => ?_⟩, vals_back fun u hu => ?_⟩
  · rw [List.pairwise_map]
    exact p3.imp fun h => by simpa using h
  · rw [ex, List.filter_map, List.filter_map]
    exact congrArg _ (p4 c)
  · rw [p2] at hu
    obtain ⟨q, hq, e⟩ := List.mem_map.mp hu
    have := p1.mem_iff.mp hq
    rw [← e]
    exact vals_mem r _ (List.of_mem_zip this).2
section
open PyProof.Rows
variable {X : Cx} {pins : List (Addr × Obj)} {σ : L2.St} {H : Hp} {s : Shared} {A : Around}
/-- a pinned object is written -/
theorem pin_upd {it : Addr} {o o' : Obj} {h' : Heap} {t' : Nat} (I : Inv X ((it, o) :: pins) σ H s) (h1 : X.s_0.heap.objs.size ≤ it) (nd : ∀ p ∈ X.pn ++ pins, p.1 ≠ it)
    (k : ∀ b u, b ≠ it → s.heap.get? b = some u → h'.get? b = some u) (hn : h'.get? it = some o') (hc : ∀ v, o'.data ≠ .cell v) : Inv X ((it, o') :: pins) σ H { s with heap := h', toks := t' } := by
  obtain ⟨e, n, ne, nf, d⟩ := I.pin (it, o) (List.mem_append_right _ List.mem_cons_self)
  have I0 : Inv X pins σ H s := I.pins_of fun p hp => I.pin p (List.mem_append_right _ (List.mem_cons_of_mem _ hp))
  have J := I0.turned (t' := t') k n ne (.inr h1) (fun x c ec z => by
    obtain ⟨v, o2, ho, hd⟩ := I.cell x c ec
    rw [z, e] at ho
    cases ho
    exact d _ hd) nd
  refine J.pins_of fun p hp => ?_
  rcases List.mem_cons.mp hp with z | hp
  · rw [z]
    exact ⟨hn, n, ne, nf, hc⟩
  · exact J.pin p (List.mem_append_right _ hp)
theorem pin_swap {a b : Addr × Obj} (I : Inv X (a :: b :: pins) σ H s) : Inv X (b :: a :: pins) σ H s :=
  I.pins_of fun p hp => I.pin p (List.mem_append_right _ (by
    rcases List.mem_cons.mp hp with z | hp
    · exact List.mem_cons_of_mem _ (by rw [z]; exact List.mem_cons_self)
    · rcases List.mem_cons.mp hp with z | hp
      · rw [z]; exact List.mem_cons_self
      · exact List.mem_cons_of_mem _ (List.mem_cons_of_mem _ hp)))
/-- the objects of a heap but three -/
def others (h : Heap) (L a b : Addr) : List (Addr × Obj) := (List.range h.objs.size).filterMap fun c => if c = L ∨ c = a ∨ c = b then none else (h.get? c).map fun o => (c, o)
theorem others_mem {h : Heap} {L a b : Addr} {p : Addr × Obj} (hp : p ∈ others h L a b) : h.get? p.1 = some p.2 ∧ p.1 ≠ L ∧ p.1 ≠ a ∧ p.1 ≠ b := by
  unfold others at hp
  obtain ⟨c, _, e⟩ := List.mem_filterMap.mp hp
  split at e
  · cases e
  · rename_i n
    cases q : h.get? c with
    | none => rw [q] at e; cases e
    | some o =>
      rw [q] at e
      cases e
      exact ⟨q, fun z => n (.inl z), fun z => n (.inr (.inl z)), fun z => n (.inr (.inr z))⟩
theorem others_of {h : Heap} {L a b c : Addr} {o : Obj} (e : h.get? c = some o) (h1 : c ≠ L) (h2 : c ≠ a) (h3 : c ≠ b) : (c, o) ∈ others h L a b := by
  unfold others
  refine List.mem_filterMap.mpr ⟨c, List.mem_range.mpr (Heap.lt_size e), ?_⟩
  rw [if_neg (fun z => z.elim h1 fun z => z.elim h2 h3), e]
  rfl
theorem ns_one {h : Heap} {L : Addr} {m m' : Str → Option Value} (a : h.Ns L m) (b : h.Ns L m') : m = m' := by
  obtain ⟨o, es, ep, e1, e2, _, e3⟩ := a
  obtain ⟨o', es', ep', f1, f2, _, f3⟩ := b
  rw [e1] at f1
  cases f1
  rw [e2] at f2
  cases f2
  exact funext fun x => (e3 x).symm.trans (f3 x)
theorem sortk_end {a kS : Addr} {vs : List Value} {xs : List V} {kz : List Int} {keys : Array Value} {e e1 : Nat} {P : PySem.Fin → Shared → Prop} {E : Value → Shared → Prop}
    (I : Inv X ((kS, seqObj "list" keys e) :: (a, seqObj "list" #[] e1) :: pins) σ H s) (hk0 : X.s_0.heap.objs.size ≤ kS) (ha0 : X.s_0.heap.objs.size ≤ a) (hka : kS ≠ a) (hnk : ∀ p ∈ X.pn ++ pins, p.1 ≠ kS) (hna : ∀ p ∈ X.pn ++ pins, p.1 ≠ a)
    (hk : IntsAre keys.toList kz) (hlen : kz.length = vs.length) (hZ : vs.length ≤ sizeLine) (rv : Vals xs vs)
    (h : ∀ h' tk ys, Inv X pins σ (upd H a (.lst ys)) { s with heap := h', toks := tk } → KOut kz xs ys → H a = none → P (.done (.ret .none)) { s with heap := h', toks := tk }) :
    wpAny (model X.prog X.w) A (ksk_end a false vs.toArray e1 (.ref kS) keys) P E s := by
  obtain ⟨m, hm, _⟩ := id I.loc
  obtain ⟨k1, k2, k3, k4, k5⟩ := I.pin (kS, seqObj "list" keys e) (List.mem_append_right _ List.mem_cons_self)
  obtain ⟨a1, a2, a3, a4, a5⟩ := I.pin (a, seqObj "list" #[] e1) (List.mem_append_right _ (List.mem_cons_of_mem _ List.mem_cons_self))
  have I0 : Inv X pins σ H s := I.pins_of fun p hp => I.pin p (List.mem_append_right _ (List.mem_cons_of_mem _ (List.mem_cons_of_mem _ hp)))
  have n0 : ∀ b : Addr, (({} : Heap)).get? b = none := fun b => Heap.get?_none_of_le (Nat.zero_le _)
  have cel : ∀ x c, X.env.cells.lookup x = some c → c ≠ kS ∧ c ≠ a := fun x c ec => by
    obtain ⟨v, o2, ho, hd⟩ := I.cell x c ec
    refine ⟨fun z => ?_, fun z => ?_⟩
    · rw [z, k1] at ho
      cases ho
      exact k5 _ hd
    · rw [z, a1] at ho
      cases ho
      exact a5 _ hd
  refine ksk_end_St (e := e) (h₀ := {}) (L := X.env.locals) (m := m) (news := others s.heap X.env.locals kS a) (b := false) ⟨hm, fun b o q => (by rw [n0] at q; cases q), Nat.zero_le _⟩ (fun p hp => ?_) hka (fun p hp => (others_mem hp).2.2.1) (fun p hp => (others_mem hp).2.2.2) hk hlen hZ fun h' tk out c F' N' ko => ?_
  · rcases List.mem_append.mp hp with hp | hp
    · obtain ⟨q1, q2, _, _⟩ := others_mem hp
      exact ⟨q1, q2, n0 _⟩
    · rcases List.mem_cons.mp hp with z | hp
      · rw [z]; exact ⟨k1, k3, n0 _⟩
      · rw [List.mem_singleton.mp hp]; exact ⟨a1, a3, n0 _⟩
  · obtain ⟨ko', ro⟩ := kout_of rv ko
    have kp : ∀ b o, b ≠ X.env.locals → b ≠ kS → b ≠ a → s.heap.get? b = some o → h'.get? b = some o := fun b o h1 h2 h3 q => (N' (b, o) (List.mem_cons_of_mem _ (others_of q h1 h2 h3))).1
    have ha : h'.get? a = some (seqObj "list" out c) := (N' (a, seqObj "list" out c) List.mem_cons_self).1
    have ne : ∀ b u, H b = some u → b ≠ X.env.locals ∧ b ≠ kS ∧ b ≠ a := fun b u q => ⟨fun z => (by rw [z, I.free] at q; cases q), fun z => (by rw [z, k2] at q; cases q), fun z => (by rw [z, a2] at q; cases q)⟩
    have up : ∀ b u, H b = some u → upd H a (.lst (out.toList.map toV)) b = some u := fun b u q => by rw [upd_ne (ne b u q).2.2]; exact q
    refine h h' tk (out.toList.map toV) ?_ ko' a2
    refine I0.step (g' := s.gens) (d' := s.drawn) (t' := tk) (h' := h') (ch := [kS, a]) (fun b hb => ?_) (fun b o h1 _ hc q _ => ?_) (fun b o h1 _ hc q _ => ⟨o.slots, ?_⟩) (fun b o hc q n => ?_) (fun b o hc q => ?_) (fun b xs q => up b _ q) (fun b o u q => up b _ q) (fun b ps q => ⟨#[], by rw [up b _ q]; simp⟩) (fun m' hm' => ?_) (fun b u q => ?_) I.bare
    · rcases List.mem_cons.mp hb with z | hb
      · rw [z]; exact ⟨.inr hk0, k3, fun x c ec => (cel x c ec).1, hnk⟩
      · rw [List.mem_singleton.mp hb]; exact ⟨.inr ha0, a3, fun x c ec => (cel x c ec).2, hna⟩
    · exact kp b o h1 (fun z => hc (by simp [z])) (fun z => hc (by simp [z])) q
    · exact kp b o h1 (fun z => hc (by simp [z])) (fun z => hc (by simp [z])) q
    · rw [upd_ne (fun z => hc (by simp [z]))]; exact n
    · by_cases hL : b = X.env.locals
      · obtain ⟨o', _, _, z, _⟩ := F'.ns
        rw [hL]
        exact ⟨o', z⟩
      · exact ⟨o, kp b o hL (fun z => hc (by simp [z])) (fun z => hc (by simp [z])) q⟩
    · rw [← ns_one hm hm']
      exact F'.ns
    · by_cases hb : b = a
      · rw [hb, upd_same] at q
        cases q
        rw [hb]
        have lo : (out.toList.map toV).length = vs.length := by
          obtain ⟨ps, p1, p2, _⟩ := ko
          rw [List.length_map, p2, List.length_map, p1.length_eq, List.length_zip, hlen, Nat.min_self]
        exact ⟨by rw [lo]; exact hZ, out.toList, c, ro, ha⟩
      · rw [upd_ne hb] at q
        refine (I.hok b u q).stay (fun d v hd z => ?_) (fun d z => up d _ z) fun d xs z => up d _ z
        have nd : d ≠ X.env.locals ∧ d ≠ kS ∧ d ≠ a := by
          rcases hd with y | y
          · rw [y]; exact ne b u q
          · exact ne d _ y
        exact kp d v nd.1 nd.2.1 nd.2.2 z
end
end Dw

set_option Elab.async false
set_option linter.all false
set_option maxRecDepth 100000
set_option maxHeartbeats 4000000
namespace Dw
open PySem PySem.Spec L2 Evl
section
open PyProof.Rows
variable {X : Cx} {pins : List (Addr × Obj)} {σ : L2.St} {H : Hp} {s : Shared} {A : Around} {f : Value} {a kS : Addr} {vs : List Value} {xs : List V} {kz : List Int} {P : PySem.Fin → Shared → Prop} {E : Value → Shared → Prop}
theorem list_nocell {its : Array Value} {n : Nat} : ∀ v, (seqObj "list" its n).data ≠ .cell v := fun v z => by cases z
/-- the key of each member is told by a call of f -/
def KTurn (X : Cx) (A : Around) (pins : List (Addr × Obj)) (σ : L2.St) (H : Hp) (f : Value) (vs : List Value) (kz : List Int) : Prop :=
  ∀ (i : Nat) (v : Value) (k : Int), vs[i]? = some v → kz[i]? = some k → ∀ (own : List (Addr × Obj)) (s' : Shared), Inv X (own ++ pins) σ H s' →
    wpAny (model X.prog X.w) A (call f [v]) (fun u s'' => (∃ t, u = .int k t) ∧ Inv X (own ++ pins) σ H s'') (fun _ _ => False) s'
theorem sortk_rest {e1 : Nat} (I : Inv X ((kS, seqObj "list" #[] 0) :: (a, seqObj "list" #[] e1) :: pins) σ H s) (hk0 : X.s_0.heap.objs.size ≤ kS) (ha0 : X.s_0.heap.objs.size ≤ a) (hka : kS ≠ a) (hnk : ∀ p ∈ X.pn ++ pins, p.1 ≠ kS) (hna : ∀ p ∈ X.pn ++ pins, p.1 ≠ a)
    (hlen : kz.length = vs.length) (hZ : vs.length ≤ sizeLine) (rv : Vals xs vs) (turn : KTurn X A pins σ H f vs kz)
    (h : ∀ s' ys, Inv X pins σ (upd H a (.lst ys)) s' → KOut kz xs ys → H a = none → P (.done (.ret .none)) s') :
    wpAny (model X.prog X.w) A (ksk_rest a f false vs.toArray e1 (.ref kS)) P E s := by
  have hZ2 := hZ
  rw [sizeLine_eq] at hZ2
  unfold ksk_rest
  refine wpAny_bind (wpAny_rule ?_)
  first
    | rw [List.forIn_toArray]
    | (rw [← Array.forIn_toList]; simp only [List.toList_toArray])
    | rw [← Array.forIn_toList]
  refine wpAny_bind (ksk_fold (fun i s' => ∃ kA e, Inv X ((kS, seqObj "list" kA e) :: (a, seqObj "list" #[] e1) :: pins) σ H s' ∧ IntsAre kA.toList (kz.take i)) vs 0 s ⟨#[], 0, I, by simpa using IntsAre.nil⟩ ?step ?done)
  case step =>
    rintro j x s' hx ⟨kA, e, I', hk⟩
    simp only [Nat.zero_add] at hk ⊢
    have hj : j < vs.length := (List.getElem?_eq_some_iff.mp hx).1
    obtain ⟨k, hkj⟩ : ∃ k, kz[j]? = some k := ⟨_, List.getElem?_eq_getElem (by omega)⟩
    have hz : kA.size ≤ vs.length := by
      have h1 := hk.length
      rw [Array.length_toList, List.length_take] at h1
      omega
    refine wpAny_bind (wpAny_attempt (wpAny_mono (turn j x k hx hkj [(kS, seqObj "list" kA e), (a, seqObj "list" #[] e1)] s' I') (fun v s'' he => ?_) fun _ _ hF => hF.elim))
    obtain ⟨⟨t2, rfl⟩, I2⟩ := he
    try dsimp only
    have nk := (I2.pin (kS, seqObj "list" kA e) (List.mem_append_right _ List.mem_cons_self)).1
    have s1 := Heap.SameBut.update s''.heap kS (Obj.mapSeq (·.push (.int k t2)))
    obtain ⟨c2, hc2⟩ : ∃ c2, (s''.heap.update kS (Obj.mapSeq (·.push (.int k t2)))).get? kS = some (seqObj "list" (kA.push (.int k t2)) c2) := ⟨_, get?_update_seq nk (·.push (.int k t2))⟩
    have ek : kz.take (j + 1) = kz.take j ++ [k] := by rw [List.take_add_one, hkj]; simp
    have ea : (kA.push (Value.int k t2)).toList = kA.toList ++ [Value.int k t2] := by simp
    refine wpAny_bind (listUpdate_at nk rfl ?_ (by rw [sizeLine_eq]; omega) (Nat.le_trans (Nat.le_of_eq (Array.size_push ..)) (by rw [sizeLine_eq]; omega)))
    refine wpAny_pure ⟨rfl, kA.push (.int k t2), c2, pin_upd (t' := s''.toks) I2 hk0 (fun p hp => ?_) (fun b u hb q => (s1.2 b hb).trans q) hc2 list_nocell, by rw [ea, ek]; exact ksk_snoc hk⟩
    rcases List.mem_append.mp hp with hp | hp
    · exact hnk p (List.mem_append_left _ hp)
    · rcases List.mem_cons.mp hp with z | hp
      · rw [z]; exact hka.symm
      · exact hnk p (List.mem_append_right _ hp)
  case done =>
    rintro s' ⟨kA, e, I', hk⟩
    have hk' : IntsAre kA.toList kz := by
      have e3 : kz.take (0 + vs.length) = kz := List.take_of_length_le (by omega)
      rw [e3] at hk
      exact hk
    have nk := (I'.pin (kS, seqObj "list" kA e) (List.mem_append_right _ List.mem_cons_self)).1
    try dsimp only
    refine wpAny_bind (listItems_at nk rfl ?_)
    exact sortk_end I' hk0 ha0 hka hnk hna hk' hlen hZ rv fun h' tk ys J ko n => h _ ys J ko n
theorem sortk_tree {n : Nat} (I : Inv X ((a, seqObj "list" vs.toArray n) :: pins) σ H s) (ha0 : X.s_0.heap.objs.size ≤ a) (hna : ∀ p ∈ X.pn ++ pins, p.1 ≠ a)
    (hlen : kz.length = vs.length) (hZ : vs.length ≤ sizeLine) (rv : Vals xs vs) (turn : KTurn X A pins σ H f vs kz)
    (h : ∀ s' ys, Inv X pins σ (upd H a (.lst ys)) s' → KOut kz xs ys → H a = none → P (.done (.ret .none)) s') :
    wpAny (model X.prog X.w) A (ksk_tree a f false) P E s := by
  have hZ2 := hZ
  rw [sizeLine_eq] at hZ2
  have ho := (I.pin (a, seqObj "list" vs.toArray n) (List.mem_append_right _ List.mem_cons_self)).1
  have s1 := Heap.SameBut.update s.heap a (Obj.mapSeq fun _ => (#[] : Array Value))
  obtain ⟨e1, ho1⟩ : ∃ e1, (s.heap.update a (Obj.mapSeq fun _ => (#[] : Array Value))).get? a = some (seqObj "list" #[] e1) := ⟨_, get?_update_seq ho fun _ => #[]⟩
  have I1 : Inv X ((a, seqObj "list" #[] e1) :: pins) σ H { s with heap := s.heap.update a (Obj.mapSeq fun _ => (#[] : Array Value)), toks := s.toks } := pin_upd I ha0 hna (fun b u hb q => (s1.2 b hb).trans q) ho1 list_nocell
  have I2 : Inv X ((a, seqObj "list" #[] e1) :: pins) σ H { s with heap := (s.heap.update a (Obj.mapSeq fun _ => (#[] : Array Value))).push (seqObj "tuple" vs.toArray 0), toks := s.toks } := I1.kept fun b u q => Heap.get?_push_of_some _ q
  have I3 : Inv X ((a, seqObj "list" #[] e1) :: pins) σ H { s with heap := ((s.heap.update a (Obj.mapSeq fun _ => (#[] : Array Value))).push (seqObj "tuple" vs.toArray 0)).push (seqObj "list" #[] 0), toks := s.toks } := I2.kept fun b u q => Heap.get?_push_of_some _ q
  have lt : ∀ p ∈ X.pn ++ ((a, seqObj "list" #[] e1) :: pins), p.1 ≠ ((s.heap.update a (Obj.mapSeq fun _ => (#[] : Array Value))).push (seqObj "tuple" vs.toArray 0)).objs.size := fun p hp => Nat.ne_of_lt (Heap.lt_size (I2.pin p hp).1)
  have I4 : Inv X ((((s.heap.update a (Obj.mapSeq fun _ => (#[] : Array Value))).push (seqObj "tuple" vs.toArray 0)).objs.size, seqObj "list" #[] 0) :: (a, seqObj "list" #[] e1) :: pins) σ H { s with heap := ((s.heap.update a (Obj.mapSeq fun _ => (#[] : Array Value))).push (seqObj "tuple" vs.toArray 0)).push (seqObj "list" #[] 0), toks := s.toks } := I3.pins_of fun p hp => by
    rcases List.mem_cons.mp hp with z | hp
    · rw [z]
      exact ⟨Heap.get?_push_size _ rfl, I2.hok.fresh (Nat.le_refl _), Nat.ne_of_gt I2.lt, I2.nofs (Nat.le_refl _), list_nocell⟩
    · exact I3.pin p (List.mem_append_right _ hp)
  unfold ksk_tree
  refine wpAny_bind (listItems_at ho rfl ?_)
  refine wpAny_bind (listUpdate_at ho rfl ?_ (by rw [List.size_toArray, sizeLine_eq]; omega) (Nat.zero_le _))
  refine wpAny_bind (seqEpoch_at ho1 rfl ?_)
  refine wpAny_bind (wpAny_newTuple ?_ (by show vs.length ≤ _; rw [sizeLine_eq]; omega))
  refine wpAny_bind (wpAny_newList ?_ (Nat.zero_le _))
  refine wpAny_holding ?_
  exact sortk_rest I4 I2.sz ha0 (lt _ (List.mem_append_right _ List.mem_cons_self)).symm (fun p hp => lt p (by
    rcases List.mem_append.mp hp with hp | hp
    · exact List.mem_append_left _ hp
    · exact List.mem_append_right _ (List.mem_cons_of_mem _ hp))) hna hlen hZ rv turn h
/-- sorted(l, key=q) -/
theorem sortk_sorted {l q : Addr} {Q : Value → Shared → Prop} (I : Inv X pins σ H s) (hl : s.heap.IsList l vs.toArray) (hlen : kz.length = vs.length) (hZ : vs.length ≤ sizeLine) (rv : Vals xs vs) (turn : KTurn X A.in1.in1 pins σ H (.ref q) vs kz)
    (h : ∀ D s' ys, Inv X pins σ (upd H D (.lst ys)) s' → KOut kz xs ys → H D = none → Q (.ref D) s') :
    wpAny (model X.prog X.w) A (call (.builtin "sorted") [.ref l] [(Str.ofString "key", .ref q)]) Q E s := by
  have hZ2 := hZ
  rw [sizeLine_eq] at hZ2
  refine call_function_entry_kw kind_sorted plain_sorted entry_sorted (ksk_s1 _ _) ?_
  unfold Builtin.«sorted»
  refine wpAny_bind (m := checkCount "sorted" 1 1 _) (wpAny_pure ?_)
  refine wpAny_bind (collect_list hl ?_ (by rw [sizeLine_eq]; omega))
  refine wpAny_bind (wpAny_newList ?_ (by rw [sizeLine_eq]; omega))
  have hsz : ((s.heap.push (seqObj "list" #[] 0)).update s.heap.objs.size (Obj.mapSeq (· ++ vs.toArray))).objs.size = s.heap.objs.size + 1 := by
    rw [Heap.size_update, size_push']
  have hoL : (((s.heap.push (seqObj "list" #[] 0)).update s.heap.objs.size (Obj.mapSeq (· ++ vs.toArray))).push (seqObj "list" vs.toArray 0)).get? (s.heap.objs.size + 1) = some (seqObj "list" vs.toArray 0) := by
    rw [← hsz]; exact Heap.get?_push_size _ rfl
  have keep : ∀ b o, s.heap.get? b = some o → (((s.heap.push (seqObj "list" #[] 0)).update s.heap.objs.size (Obj.mapSeq (· ++ vs.toArray))).push (seqObj "list" vs.toArray 0)).get? b = some o := fun b o q => by
    have hlt : b < s.heap.objs.size := Heap.lt_size q
    rw [Heap.get?_push_ne _ _ _ (by rw [hsz]; exact Nat.ne_of_lt (Nat.lt_succ_of_lt hlt)), Heap.get?_update_ne _ _ _ _ (Nat.ne_of_lt hlt), Heap.get?_push_ne _ _ _ (Nat.ne_of_lt hlt)]
    exact q
  have lt : ∀ p ∈ X.pn ++ pins, p.1 ≠ s.heap.objs.size + 1 := fun p hp => Nat.ne_of_lt (Nat.lt_succ_of_lt (Heap.lt_size (I.pin p hp).1))
  have I1 : Inv X pins σ H { s with heap := ((s.heap.push (seqObj "list" #[] 0)).update s.heap.objs.size (Obj.mapSeq (· ++ vs.toArray))).push (seqObj "list" vs.toArray 0), toks := s.toks } := I.kept keep
  have I2 : Inv X ((s.heap.objs.size + 1, seqObj "list" vs.toArray 0) :: pins) σ H { s with heap := ((s.heap.push (seqObj "list" #[] 0)).update s.heap.objs.size (Obj.mapSeq (· ++ vs.toArray))).push (seqObj "list" vs.toArray 0), toks := s.toks } := I1.pins_of fun p hp => by
    rcases List.mem_cons.mp hp with z | hp
    · rw [z]
      exact ⟨hoL, I.hok.fresh (Nat.le_succ _), Nat.ne_of_gt (Nat.lt_succ_of_lt I.lt), I.nofs (Nat.le_succ _), list_nocell⟩
    · exact I1.pin p (List.mem_append_right _ hp)
  show wpAny _ _ _ _ _ { s with heap := ((s.heap.push (seqObj "list" #[] 0)).update s.heap.objs.size (Obj.mapSeq (· ++ vs.toArray))).push (seqObj "list" vs.toArray 0) }
  rw [hsz]
  refine wpAny_bind (wpAny_holding (wpAny_call_entry_kw slot_list_sort ⟨_, hoL, rfl⟩ entry_list_sort ?body (ksk_l1 _ _)))
  case body =>
    show wpAny (model X.prog X.w) A.in1.in1 (Builtin.«list.sort» ⟨[.ref (s.heap.objs.size + 1)], [(Str.ofString "key", .ref q)]⟩) _ _ _
    rw [ksk_t1]
    refine sortk_tree I2 (Nat.le_trans I.sz (Nat.le_succ _)) lt hlen hZ rv turn fun s' ys J ko n => ⟨_, rfl, ?_⟩
    exact wpAny_pure ⟨_, rfl, h _ s' ys J ko n⟩
end
end Dw

set_option Elab.async false
set_option linter.all false
set_option maxRecDepth 100000
set_option maxHeartbeats 4000000
namespace Dw
open PySem PySem.Spec L2 Evl
/-- the names' values without the one of p -/
def erz (p : Str) (N : List Str) (σ : L2.St) : L2.St := List.zipWith (fun n o => if n = p then none else o) N σ
theorem erz_len {p : Str} {N : List Str} {σ : L2.St} (h : σ.length = N.length) : (erz p N σ).length = σ.length := by
  unfold erz
  rw [List.length_zipWith, h, Nat.min_self]
theorem erz_get {p : Str} {N : List Str} {σ : L2.St} {i : Nat} {v : V} (h : (erz p N σ)[i]? = some (some v)) : σ[i]? = some (some v) ∧ N[i]? ≠ some p := by
  unfold erz at h
  rw [List.getElem?_zipWith] at h
  cases h1 : N[i]? with
  | none => rw [h1] at h; cases h
  | some n =>
    cases h2 : σ[i]? with
    | none => rw [h1, h2] at h; cases h
    | some o =>
      rw [h1, h2] at h
      have h : (if n = p then none else o) = some v := Option.some.inj h
      by_cases e : n = p
      · rw [if_pos e] at h; cases h
      · rw [if_neg e] at h
        exact ⟨by rw [h], fun z => e (Option.some.inj z)⟩
/-- sorted(.., key=lambda p: ..): tb tells the key and leaves all as it is -/
def tSortK (K : PySem.W.Frag) (T : List (Addr × Str)) (p : Str) (N : List Str) (ta tb : TE) : TE := fun σ H Q => ta σ H fun x H1 => ∃ (l : Addr) (xs : List V), x = .ref l ∧ SqL K H1 l xs ∧ LamX.Tabs T H1 ∧
  ∀ H2, LamX.ExtN H1 H2 → LamX.Tabs T H2 → ∃ kz : List Int, kz.length = xs.length ∧ (∀ (i : Nat) (v : V) (k : Int), xs[i]? = some v → kz[i]? = some k → tb (some v :: erz p N σ) H2 (fun u H3 => u = .int k ∧ H3 = H2)) ∧
    ∀ ys D, KOut kz xs ys → H2 D = none → Q (.ref D) (upd H2 D (.lst ys))
theorem SqL.extN {K : PySem.W.Frag} {H H' : Hp} {a : Addr} {xs : List V} (h : SqL K H a xs) (e : LamX.ExtN H H') : SqL K H' a xs := by
  rcases h with (h | ⟨o, h⟩) | h
  · exact .inl (.inl (e _ _ h fun ps z => by cases z))
  · exact .inl (.inr ⟨o, e _ _ h fun ps z => by cases z⟩)
  · exact .inr h
section
open PyProof.Rows LamX
variable {X : Cx}
theorem pe_sortk {T : List (Addr × Str)} {c P : Addr} {k : Nat} {params : Arguments} {body e : Expr} {scope : Scope} {p : Str} {ta tb : TE} {p1 lpos kpos pos : Pos} (hg : Gl X "sorted") (hm : X.mg "sorted" = none) (ha : PE X e ta)
    (TB : TabB X.base X.mg c P) (hcode : X.env.code = .ref c) (hmT : (P, X.env.qual ++ "<lambda>") ∈ T) (hu : ∀ q ∈ T, q.1 = P → q.2 = X.env.qual ++ "<lambda>") (hr : Room (k + 3) X.A) (L : LamS1 X.env.scope scope p) (hdef : defaultsOf params X.env = ([], []))
    (hbind : ∀ (q : Str) (cl : List (Str × Addr)) (pm cv ctv u : Value), bindArgs (PySem.W.kla_fn "<lambda>" q params body scope cl pm cv ctv) ⟨[u], []⟩ = pure [(p, u)])
    (hbody : ∀ (s : Shared) (H : Hp) (f c' : Addr), Room k (X.A.in1.in1.deeper (lamEnv X scope s.heap.objs.size f c')) → PE (lamCx1 X X.A.in1.in1 s H scope p f c') body tb)
    (hv : bootBuiltins "sorted" = some (.builtin "sorted") := by rfl)
    (he : backTo pos (starEach [e] X.env) = (false, eval e X.env) :: backTo pos (starEach [] X.env) := by rfl) (hpl : (backTo pos (starEach [e] X.env)).any (·.1) = false := by rfl) :
    PE X (.Call (.Name "sorted" p1) [e] [⟨some "key", .Lambda params body scope lpos, kpos⟩] pos) (tSortK X.K T p X.N ta tb) := by
  refine ⟨fun pins s σ H Q I h => ?_⟩
  refine wpAny_Call_Name_kw (ld_blt I hg hm hv ?_ (by decide) (by decide))
  refine PyProof.Rows.callWith_kw ?_ he hpl rfl rfl
  rw [he]
  refine Calls.spliced_cons (thn (ha.run pins s σ H _ I h) fun u s1 ⟨x, H1, I1, r1, q1⟩ => Calls.spliced_nil ?_)
  obtain ⟨l, xs, rfl, hs, hT, q1⟩ := q1
  obtain rfl : u = Value.ref l := r1
  show wpAny _ _ (evalAll ((do let v ← eval (.Lambda params body scope lpos) X.env; standAt pos; pure v) :: (backToKw pos (keywordEach [] X.env)).map (·.2))) _ _ s1
  refine wpAny_evalAll_cons (wpAny_bind (lam_make2 I1 TB hcode hmT hu hT hdef (L.has I1.ok) fun f c' pm' ctv H2 s2 I2 eN T2 hf hfn hfr hco => wpAny_bind (wpAny_standAt (wpAny_pure ?_))))
  refine wpAny_evalAll_nil ?_
  show wpAny _ _ (call (.builtin "sorted") [.ref l] [(Str.ofString "key", .ref f)]) _ _ s2
  obtain ⟨kz, hlen, hk, q⟩ := q1 H2 eN T2
  obtain ⟨its, rv, hl, hz⟩ := I2.list (SqL.extN hs eN)
  have nL : f ≠ X.env.locals := fun z => by
    obtain ⟨m, ⟨o, es, ep, ho, hd, _⟩, _⟩ := I2.loc
    rw [z, ho] at hf
    cases hf
    cases hd
  have nF : f ∉ X.fs := fun z => hfr (by
    rcases I2.ok.stk with e | ⟨e, hf'⟩
    · rw [e]; exact z
    · rw [e]
      unfold frs
      rw [List.filterMap_cons, hf']
      exact List.mem_cons_of_mem _ z)
  have I3 : Inv X ((f, PySem.W.kla_obj "<lambda>" (X.env.qual ++ "<lambda>") params body scope (cloFrom X.env.cells scope.names []) pm' c' ctv) :: pins) σ H2 s2 := I2.pins_of fun y hy => by
    rcases List.mem_cons.mp hy with z | hy
    · rw [z]
      exact ⟨hf, hfn, nL, nF, fun v z => by cases z⟩
    · exact I2.pin y (List.mem_append_right _ hy)
  have hr1 : Room (k + 1) X.A.in1.in1 := hr.in1.in1
  refine sortk_sorted (kz := kz) I3 hl.isList (by rw [hlen, rv.length]) (by rw [← rv.length]; exact hz) rv (fun i v kk hv hkk own s' J => ?_) fun D s' ys J ko n => ?_
  · have hi : i < its.length := (List.getElem?_eq_some_iff.mp hv).1
    obtain ⟨y, hy⟩ : ∃ y, xs[i]? = some y := ⟨_, List.getElem?_eq_getElem (by rw [rv.length]; exact hi)⟩
    obtain ⟨v', e1, ry⟩ := Vals.get rv hy
    rw [hv] at e1
    cases e1
    have hf' := (J.pin (f, PySem.W.kla_obj "<lambda>" (X.env.qual ++ "<lambda>") params body scope (cloFrom X.env.cells scope.names []) pm' c' ctv) (List.mem_append_right _ (List.mem_append_right _ List.mem_cons_self))).1
    refine wpAny_mono (lam_run1 (σe := erz p X.N σ) J L hf' hco (hbind _ _ _ _ _ _) hr1 J.env0.in1.in1 ry (erz_len J.len) (fun i v h => erz_get h) (hbody s' H2 f c' (hr1.deeper _)) (hk i y kk hy hkk)) (fun u' s'' hq => ?_) fun _ _ z => z
    obtain ⟨w', H', J', r', rfl, rfl⟩ := hq
    exact ⟨r', J'⟩
  · exact ⟨.ref D, upd H2 D (.lst ys), J.pins_of fun y hy => J.pin y (List.mem_append_right _ (List.mem_cons_of_mem _ hy)), rfl, q ys D ko n⟩
end
end Dw

set_option Elab.async false
set_option linter.all false
set_option maxRecDepth 100000
set_option maxHeartbeats 4000000
namespace Dw
open PySem L2 Evl
/-! ### the names of a term -/
def nmsOf : Tm → List Str
  | .is _ => []
  | .of x => [x]
  | .un _ a => nmsOf a
  | .bi _ a b => nmsOf a ++ nmsOf b
  | .pick c a b => nmsOf c ++ nmsOf a ++ nmsOf b
  | .part a _ _ => nmsOf a
theorem nms_kids : ∀ {t : Tm}, leafy t = false → nmsOf t = (kids t).flatMap nmsOf
  | .un _ _, _ => by simp [nmsOf, kids]
  | .bi _ _ _, _ => by simp [nmsOf, kids]
  | .pick _ _ _, _ => by simp [nmsOf, kids]
  | .part _ _ _, _ => by simp [nmsOf, kids]
theorem dep_one (t : Tm) : 1 ≤ dep t := by cases t <;> simp [dep]
theorem nms_len : ∀ (t : Tm) (n : Nat), dep t ≤ n + 1 → (nmsOf t).length ≤ 3 ^ n
  | .is _, n, _ => by simp [nmsOf]
  | .of _, n, _ => by
    have : 1 ≤ 3 ^ n := Nat.one_le_pow _ _ (by decide)
    simpa [nmsOf] using this
  | .un _ a, n, h => by
    simp only [dep] at h
    have := dep_one a
    obtain ⟨k, rfl⟩ : ∃ k, n = k + 1 := ⟨n - 1, by omega⟩
    have := nms_len a k (by omega)
    rw [nmsOf, Nat.pow_succ]
    omega
  | .bi _ a b, n, h => by
    simp only [dep] at h
    have := dep_one a
    obtain ⟨k, rfl⟩ : ∃ k, n = k + 1 := ⟨n - 1, by omega⟩
    have h1 := nms_len a k (by omega)
    have h2 := nms_len b k (by omega)
    rw [nmsOf, List.length_append, Nat.pow_succ]
    omega
  | .pick c a b, n, h => by
    simp only [dep] at h
    have := dep_one a
    obtain ⟨k, rfl⟩ : ∃ k, n = k + 1 := ⟨n - 1, by omega⟩
    have h1 := nms_len a k (by omega)
    have h2 := nms_len b k (by omega)
    have h3 := nms_len c k (by omega)
    rw [nmsOf, List.length_append, List.length_append, Nat.pow_succ]
    omega
  | .part a _ _, n, h => by
    simp only [dep] at h
    have := dep_one a
    obtain ⟨k, rfl⟩ : ∃ k, n = k + 1 := ⟨n - 1, by omega⟩
    have := nms_len a k (by omega)
    rw [nmsOf, Nat.pow_succ]
    omega
theorem nms_sz {t : Tm} (h : dep t ≤ 11) : (nmsOf t).length ≤ 59049 := nms_len t 10 h
theorem nms_in {ws : List (Str × Nat)} : ∀ {t : Tm} {m : Nat}, Wd ws t m → WsOk ws → ∀ x ∈ nmsOf t, x ∈ ws.map (·.1) := by
  intro t
  induction t with
  | is l => intro m h hok x hx; cases hx
  | of y => intro m h hok x hx; rw [List.mem_singleton.mp hx]; exact List.mem_map.mpr ⟨_, h, rfl⟩
  | un w a ih => intro m h hok x hx; obtain ⟨m2, h2⟩ := h.kids hok a (by simp [kids]); exact ih h2 hok x hx
  | part a hi lo ih => intro m h hok x hx; obtain ⟨m2, h2⟩ := h.kids hok a (by simp [kids]); exact ih h2 hok x hx
  | bi w a b iha ihb =>
    intro m h hok x hx
    obtain ⟨m2, h2⟩ := h.kids hok a (by simp [kids])
    obtain ⟨m3, h3⟩ := h.kids hok b (by simp [kids])
    rcases List.mem_append.mp hx with z | z
    · exact iha h2 hok x z
    · exact ihb h3 hok x z
  | pick c a b ihc iha ihb =>
    intro m h hok x hx
    obtain ⟨m2, h2⟩ := h.kids hok a (by simp [kids])
    obtain ⟨m3, h3⟩ := h.kids hok b (by simp [kids])
    obtain ⟨m4, h4⟩ := h.kids hok c (by simp [kids])
    rcases List.mem_append.mp hx with z | z
    · rcases List.mem_append.mp z with z | z
      · exact ihc h4 hok x z
      · exact iha h2 hok x z
    · exact ihb h3 hok x z
/-- each once, in the order in which they come first -/
def firsts : List Str → List Str → List Str
  | acc, [] => acc
  | acc, x :: xs => firsts (if x ∈ acc then acc else acc ++ [x]) xs
theorem firsts_snoc : ∀ (xs : List Str) (acc : List Str) (x : Str), firsts acc (xs ++ [x]) = if x ∈ firsts acc xs then firsts acc xs else firsts acc xs ++ [x]
  | [], acc, x => rfl
  | y :: xs, acc, x => firsts_snoc xs _ x
theorem firsts_mem : ∀ (xs : List Str) (acc : List Str) (y : Str), y ∈ firsts acc xs ↔ y ∈ acc ∨ y ∈ xs
  | [], acc, y => by simp [firsts]
  | x :: xs, acc, y => by
    rw [firsts, firsts_mem xs]
    by_cases h : x ∈ acc
    · rw [if_pos h]
      constructor
      · rintro (z | z)
        · exact .inl z
        · exact .inr (List.mem_cons_of_mem _ z)
      · rintro (z | z)
        · exact .inl z
        · rcases List.mem_cons.mp z with z | z
          · rw [z]; exact .inl h
          · exact .inr z
    · rw [if_neg h]
      simp only [List.mem_append, List.mem_cons, List.not_mem_nil, or_false]
      exact or_assoc
theorem firsts_nodup : ∀ (xs : List Str) (acc : List Str), acc.Nodup → (firsts acc xs).Nodup
  | [], acc, h => h
  | x :: xs, acc, h => by
    rw [firsts]
    refine firsts_nodup xs _ ?_
    by_cases hx : x ∈ acc
    · rw [if_pos hx]; exact h
    · rw [if_neg hx, List.nodup_append]
      exact ⟨h, by simp, fun a ha b hb e => by
        rw [List.mem_singleton.mp hb] at e
        exact hx (e ▸ ha)⟩
/-- the first ones stand by their first places -/
theorem firsts_sorted (zs : List Str) : ∀ n, n ≤ zs.length → (firsts [] (zs.take n)).Pairwise fun x y => zs.idxOf x < zs.idxOf y
  | 0, _ => by simp [firsts]
  | n + 1, h => by
    have ih := firsts_sorted zs n (by omega)
    rw [List.take_add_one, List.getElem?_eq_getElem (by omega)]
    show (firsts [] (zs.take n ++ [zs[n]])).Pairwise _
    rw [firsts_snoc]
    by_cases hx : zs[n] ∈ firsts [] (zs.take n)
    · rw [if_pos hx]; exact ih
    · rw [if_neg hx, List.pairwise_append]
      refine ⟨ih, by simp, fun a ha b hb => ?_⟩
      rw [List.mem_singleton.mp hb]
      have hx2 : zs[n] ∉ zs.take n := fun z => hx ((firsts_mem _ _ _).mpr (.inr z))
      have ha2 : a ∈ zs.take n := ((firsts_mem _ _ _).mp ha).resolve_left (by simp)
      have e1 : zs.idxOf a < n := by
        have e : zs = zs.take n ++ zs.drop n := (List.take_append_drop n zs).symm
        have : zs.idxOf a = (zs.take n).idxOf a := by
          conv => lhs; rw [e]
          rw [List.idxOf_append, if_pos ha2]
        rw [this]
        have := List.idxOf_lt_length_of_mem ha2
        rw [List.length_take] at this
        omega
      have e2 : n ≤ zs.idxOf zs[n] := by
        generalize zs[n] = z at hx2
        have e : zs = zs.take n ++ zs.drop n := (List.take_append_drop n zs).symm
        have : zs.idxOf z = (zs.drop n).idxOf z + (zs.take n).length := by
          conv => lhs; rw [e]
          rw [List.idxOf_append, if_neg hx2]
        rw [this, List.length_take]
        omega
      omega
end Dw

set_option Elab.async false
set_option linter.all false
set_option maxRecDepth 100000
set_option maxHeartbeats 4000000
namespace Dw
open PySem L2 Evl
section
variable {K : PySem.W.Frag} {σ : L2.St} {H : Hp} {ta tb te tl tl1 : TE} {t : TT}
/-- [y for x in xs for y in a new list of x] -/
theorem el_lc22 {xs : List V} {j j1 : Nat} {vs vs1 : List Nat} (f : Nat → List V) (h : EvL tl σ H xs) (hz : ((List.range xs.length).flatMap f).length < 100000)
    (hw : ∀ x, wipe ((wipe σ vs).set j (some x)) vs = wipe σ vs) (hw1 : ∀ x y, wipe ((wipe ((wipe σ vs).set j (some x)) vs1).set j1 (some y)) vs1 = wipe ((wipe σ vs).set j (some x)) vs1)
    (hj : ∀ x y, ((wipe ((wipe σ vs).set j (some x)) vs1).set j1 (some y))[j1]? = some (some y))
    (hi1 : ∀ (i : Nat) (x : V) H1, Ex H H1 → xs[i]? = some x → EvL tl1 ((wipe σ vs).set j (some x)) H1 (f i)) :
    EvL (tLc2 (iList K tl) (gName j) tYes (iList K tl1) (gName j1) tYes (tVar j1) vs vs1) σ H ((List.range xs.length).flatMap f) := fun H0 e Q q => h H0 e _ fun a H1 na e1 ha => ⟨a, rfl, ⟨_, sq_of ha⟩, fun Dl hD => by
  have pre : ∀ i, i ≤ xs.length → ((List.range i).flatMap f).length ≤ ((List.range xs.length).flatMap f).length := fun i hi => by
    obtain ⟨d, hd⟩ : ∃ d, xs.length = i + d := ⟨xs.length - i, by omega⟩
    rw [hd, List.range_add, List.flatMap_append, List.length_append]
    omega
  refine ⟨fun i m G => m = xs.length - i ∧ i ≤ xs.length ∧ Ex H1 G ∧ G Dl = some (.lst ((List.range i).flatMap f)), ⟨_, rfl, Nat.zero_le _, Ex.new hD, upd_same⟩, ?_⟩
  rintro i m G ⟨rfl, hi, x1, hG⟩
  have hxG : SqL K G a xs := sq_of (x1 _ _ ha)
  by_cases hlt : i < xs.length
  · refine .inr ⟨⟨_, _, hxG, List.getElem?_eq_getElem hlt⟩, fun G' => Ex H1 G' ∧ G' Dl = some (.lst ((List.range (i + 1)).flatMap f)), fun G' p => ⟨_, by omega, rfl, hlt, p.1, p.2⟩, fun x G' y => ?_⟩
    obtain ⟨rfl, hy⟩ := y
    have hx := hy _ hxG
    refine ⟨hw _, hi1 i x _ ((e.trans e1).trans x1) hx _ (Ex.refl _) _ fun b G2 nb e2 hb => ⟨b, rfl, ⟨_, sq_of hb⟩, ?_⟩⟩
    have hbD : b ≠ Dl := fun z => by
      rw [z, hG] at nb
      cases nb
    have tk : (List.range (i + 1)).flatMap f = (List.range i).flatMap f ++ f i := by
      rw [List.range_succ, List.flatMap_append]
      simp
    have pr := pre (i + 1) hlt
    rw [tk, List.length_append] at pr
    refine ⟨fun k n G3 => n = (f i).length - k ∧ k ≤ (f i).length ∧ Ex H1 G3 ∧ G3 b = some (.lst (f i)) ∧ G3 Dl = some (.lst ((List.range i).flatMap f ++ (f i).take k)), ⟨_, rfl, Nat.zero_le _, x1.trans e2, hb, by rw [e2 _ _ hG]; simp⟩, ?_⟩
    rintro k n G3 ⟨rfl, hk, x3, hb3, hG3⟩
    by_cases hkt : k < (f i).length
    · refine .inr ⟨⟨_, _, sq_of hb3, List.getElem?_eq_getElem hkt⟩, fun G4 => Ex H1 G4 ∧ G4 b = some (.lst (f i)) ∧ G4 Dl = some (.lst ((List.range i).flatMap f ++ (f i).take (k + 1))), fun G4 p => ⟨_, by omega, rfl, hkt, p.1, p.2.1, p.2.2⟩, fun y G4 hy => ?_⟩
      obtain ⟨rfl, hy⟩ := hy
      have hy2 := hy _ (sq_of hb3)
      refine ⟨hw1 _ _, ⟨y, hj _ _, _, hG3, sz_lt ?_, Ex.mut x3 hD, ?_, ?_⟩⟩
      · rw [List.length_append, List.length_take]
        omega
      · rw [upd_ne hbD]
        exact hb3
      · rw [upd_same, List.take_add_one, hy2, List.append_assoc]
        rfl
    · have ek : k = (f i).length := by omega
      subst ek
      refine .inl ⟨⟨_, sq_of hb3, Nat.le_refl _⟩, x3, ?_⟩
      rw [tk, hG3, List.take_length]
  · have ei : i = xs.length := by omega
    subst ei
    exact .inl ⟨⟨_, hxG, Nat.le_refl _⟩, q Dl G (fresh_back e1 hD) (e1.trans x1) hG⟩⟩
/-! ### {x: True for x in texts}, in a list -/
def onK (xs : List Str) : List (Key × V) := xs.map fun x => ((Sum.inr x : Key), V.bl true)
theorem put_on (xs : List Str) (x : Str) : putK (onK xs) (Sum.inr x : Key) (.bl true) = onK (if x ∈ xs then xs else xs ++ [x]) := by
  unfold putK onK
  by_cases h : x ∈ xs
  · rw [if_pos h, if_pos]
    · rw [List.map_map]
      refine List.map_congr_left fun y hy => ?_
      show (if (Sum.inr y : Key) = Sum.inr x then ((Sum.inr y : Key), V.bl true) else (Sum.inr y, V.bl true)) = _
      split <;> rfl
    · rw [List.any_map, List.any_eq_true]
      exact ⟨x, h, by simp⟩
  · rw [if_neg h, if_neg, List.map_append]
    · rfl
    · rw [List.any_map, List.any_eq_true]
      rintro ⟨y, hy, e⟩
      have : y = x := by simpa using e
      exact h (this ▸ hy)
theorem firsts_take (xs : List Str) (i : Nat) (x : Str) (h : xs[i]? = some x) : firsts [] (xs.take (i + 1)) = if x ∈ firsts [] (xs.take i) then firsts [] (xs.take i) else firsts [] (xs.take i) ++ [x] := by
  rw [List.take_add_one, h]
  exact firsts_snoc _ _ _
theorem firsts_len : ∀ (xs acc : List Str), (firsts acc xs).length ≤ acc.length + xs.length
  | [], acc => by simp [firsts]
  | x :: xs, acc => by
    rw [firsts]
    have := firsts_len xs (if x ∈ acc then acc else acc ++ [x])
    by_cases h : x ∈ acc
    · rw [if_pos h] at this ⊢
      simp only [List.length_cons]
      omega
    · rw [if_neg h] at this ⊢
      simp only [List.length_append, List.length_cons, List.length_nil] at this ⊢
      omega
theorem el_once {xs : List Str} {a : Addr} {j : Nat} {vs : List Nat} (h : Ev tl σ H (.ref a)) (hx : SqL K H a (xs.map V.str)) (hz : xs.length < 100000) (hw : ∀ x, wipe ((wipe σ vs).set j (some x)) vs = wipe σ vs) (hj : ∀ x, ((wipe σ vs).set j (some x))[j]? = some (some x)) :
    EvL (tCB (fun xs H Q => ∃ (a : Addr) (kvs : List (Key × V)), xs = [.ref a] ∧ Rd H a (.dK kvs) ∧ ∀ p, H p = none → Q (.ref p) (L2.upd H p (.lst (kvs.map fun kv => kV kv.1)))) (tCons (tDc (iList K tl) (gName j) tYes (tVar j) (tC (.bl true)) vs) tNil)) σ H ((firsts [] xs).map V.str) := fun H0 e Q q =>
  h H0 e _ fun H1 e1 => ⟨a, rfl, ⟨_, ex_l (e.trans e1) hx⟩, fun D hD => by
  have hs : (xs.map V.str).length = xs.length := List.length_map _
  refine ⟨fun i m G => m = xs.length - i ∧ i ≤ xs.length ∧ Ex H1 G ∧ G D = some (.dK (onK (firsts [] (xs.take i)))), ⟨_, rfl, Nat.zero_le _, Ex.new hD, upd_same⟩, ?_⟩
  rintro i m G ⟨rfl, hi, x1, hG⟩
  have hxG : SqL K G a (xs.map V.str) := ex_l ((e.trans e1).trans x1) hx
  by_cases hlt : i < xs.length
  · refine .inr ⟨⟨_, _, hxG, by rw [List.getElem?_map, List.getElem?_eq_getElem hlt]; rfl⟩, fun G' => Ex H1 G' ∧ G' D = some (.dK (onK (firsts [] (xs.take (i + 1))))), fun G' p => ⟨_, by omega, rfl, hlt, p.1, p.2⟩, fun x G' y => ?_⟩
    obtain ⟨rfl, hy⟩ := y
    have ex : x = .str xs[i] := by
      have := hy _ hxG
      rw [List.getElem?_map, List.getElem?_eq_getElem hlt] at this
      exact (Option.some.inj this).symm
    subst ex
    refine ⟨hw _, _, hj _, ⟨onK (firsts [] (xs.take i)), Sum.inr xs[i], rfl, hG, sz_lt ?_, Ex.mut x1 hD, ?_⟩⟩
    · have := firsts_len (xs.take i) []
      rw [List.length_take] at this
      unfold onK
      rw [List.length_map]
      simp only [List.length_nil] at this
      omega
    · rw [upd_same, put_on, firsts_take xs i xs[i] (List.getElem?_eq_getElem hlt)]
  · have ei : i = xs.length := by omega
    subst ei
    rw [List.take_length] at hG
    refine .inl ⟨⟨_, hxG, by rw [hs]; exact Nat.le_refl _⟩, D, _, rfl, .inl hG, fun p hp => ?_⟩
    have := q p (L2.upd G p (.lst ((firsts [] xs).map V.str))) (fresh_back (e1.trans x1) hp) ((e1.trans x1).trans (Ex.new hp)) upd_same
    rw [show ((onK (firsts [] xs)).map fun kv => kV kv.1) = (firsts [] xs).map V.str by unfold onK; rw [List.map_map]; rfl]
    exact this⟩
end
/-! ### xs.count(x), xs a list of texts -/
theorem sameT_givesT {x : Str} {t : Tok} : ∀ {cs : List Str} {us : List Value}, Vals (cs.map V.str) us → ∀ y ∈ us, MeetsSeq.EqGives y (.str x t) (sameT x y)
  | [], _, .nil => fun y hy => by cases hy
  | c :: cs, _, .cons r h => fun y hy => by
    rcases List.mem_cons.mp hy with rfl | hy
    · obtain ⟨u, rfl⟩ := r
      exact SeqRoads2.EqGives.str _ _ _ _
    · exact sameT_givesT h y hy
theorem sameT_countT {d : Str} : ∀ {cs : List Str} {us : List Value}, Vals (cs.map V.str) us → us.countP (sameT d) = cs.count d
  | [], _, .nil => rfl
  | c :: cs, _, .cons r h => by
    obtain ⟨u, rfl⟩ := r
    have e : sameT d (.str c u) = (c == d) := by
      show (c.cps.toList == d.cps.toList) = (c == d)
      by_cases hd : c = d
      · rw [hd]; simp
      · have : c.cps.toList ≠ d.cps.toList := fun z => hd (by
          cases c
          cases d
          simp only at z
          simp only [Str.mk.injEq]
          exact Array.toList_inj.mp z)
        rw [beq_eq_false_iff_ne.mpr this, beq_eq_false_iff_ne.mpr hd]
    rw [List.countP_cons, List.count_cons, sameT_countT h, e]
def rCntT (K : PySem.W.Frag) : V → List V → Hp → VK → Prop := fun x xs H Q => ∃ (p : Addr) (cs : List Str) (d : Str), x = .ref p ∧ xs = [.str d] ∧ SqL K H p (cs.map V.str) ∧ Q (.int (cs.count d : Nat)) H
theorem mt_countT {X : Cx} : MtR X "list.count" (rCntT X.K) := by
  intro pins s σ H x xs v us Q I rx rxs h
  obtain ⟨p, cs, d, rfl, rfl, hs, q⟩ := h
  cases rx
  obtain ⟨u, rfl, ru⟩ := rxs.one
  obtain ⟨t, rfl⟩ := ru
  obtain ⟨its, rv, ⟨⟨cls, dd, data, sl⟩, n, ho, hc, hdn, hd⟩, hlen⟩ := I.list hs
  simp only at hc hd
  subst hc hd
  refine call_meets PySem.F.slot_list_count ⟨_, ho, rfl⟩ PySem.F.entry_list_count (PySem.F.args_list_count_2 _ _) (SeqAt.list_countAt p its.toArray n dd sl (.str d t) (sameT d)) ⟨ho, fun y hy => (sameT_givesT rv y (by simpa using hy)).at _ _, ?_⟩
  have ec : its.toArray.toList.countP (sameT d) = cs.count d := sameT_countT rv
  refine ⟨.int (cs.count d : Nat), H, I.tok _, ⟨s.toks, ?_⟩, q⟩
  show Value.int ((its.toArray.toList.countP (sameT d) : Nat) : Int) s.toks = _
  rw [ec]
section
variable {K : PySem.W.Frag} {σ : L2.St} {H : Hp} {ta tb te tl tl1 : TE} {t : TT}
theorem ev_countTx {p : Addr} {cs : List Str} {d : Str} (ha : Ev ta σ H (.ref p)) (hx : SqL K H p (cs.map V.str)) (hb : Ev tb σ H (.str d)) : Ev (tBM K "list" (rCntT K) ta (tCons tb tNil)) σ H (.int (cs.count d : Nat)) := fun H1 e Q q =>
  ha H1 e _ fun H2 e2 => ⟨.inl ⟨rfl, _, ex_l (e.trans e2) hx⟩, hb H2 (e.trans e2) _ fun H3 e3 => ⟨p, cs, d, rfl, rfl, ex_l ((e.trans e2).trans e3) hx, q H3 (e2.trans e3)⟩⟩
theorem ev_countTL {cs : List Str} {d : Str} (ha : EvL ta σ H (cs.map V.str)) (hb : Ev tb σ H (.str d)) : Ev (tBM K "list" (rCntT K) ta (tCons tb tNil)) σ H (.int (cs.count d : Nat)) := fun H1 e Q q =>
  ha H1 e _ fun p H2 np e2 h2 => ⟨.inl ⟨rfl, _, sq_of h2⟩, hb H2 (e.trans e2) _ fun H3 e3 => ⟨p, cs, d, rfl, rfl, sq_of (e3 _ _ h2), q H3 (e2.trans e3)⟩⟩
end
theorem flat_range {α β : Type} [Inhabited α] (f : α → List β) : ∀ (ks : List α), (List.range ks.length).flatMap (fun i => f (ks.getD i default)) = ks.flatMap f
  | [] => rfl
  | k :: ks => by
    rw [List.length_cons, List.range_succ_eq_map, List.flatMap_cons, List.flatMap_map, List.flatMap_cons]
    exact congrArg (f k ++ ·) (flat_range f ks)
theorem flat_names {t : Tm} (h : leafy t = false) : (List.range (kids t).length).flatMap (fun i => (nmsOf ((kids t).getD i default)).map V.str) = (nmsOf t).map V.str := by
  rw [flat_range (fun k => (nmsOf k).map V.str), nms_kids h, List.map_flatMap]
/-! ### what the program's defs promise -/
def spEN (n : Nat) : Sp := fun vs H Q _ => ∃ (v : V) (t : Tm), vs = [v] ∧ TmAt H t v ∧ dep t ≤ n ∧ ∀ (g : Addr) (H' : Hp), H g = none → Ex H H' → H' g = some (.lst ((nmsOf t).map V.str)) → Q (.ref g) H'
theorem spl_en {n : Nat} {v : V} {t : Tm} {H : Hp} (h1 : TmAt H t v) (h2 : dep t ≤ n) : SpL (spEN n) [v] H ((nmsOf t).map V.str) := fun H1 e Q q E => ⟨v, t, rfl, h1.ex e, h2, q⟩
def spOnce (K : PySem.W.Frag) : Sp := fun vs H Q _ => ∃ (a : Addr) (xs : List Str), vs = [.ref a] ∧ SqL K H a (xs.map V.str) ∧ xs.length < 100000 ∧ ∀ (g : Addr) (H' : Hp), H g = none → Ex H H' → H' g = some (.lst ((firsts [] xs).map V.str)) → Q (.ref g) H'
def spNI : Sp := fun vs H Q _ => ∃ (v : V) (t : Tm), vs = [v] ∧ TmAt H t v ∧ dep t ≤ 11 ∧ ∀ (g : Addr) (H' : Hp), H g = none → Ex H H' → H' g = some (.lst ((firsts [] (nmsOf t)).map V.str)) → Q (.ref g) H'
theorem spl_ni {v : V} {t : Tm} {H : Hp} (h1 : TmAt H t v) (h2 : dep t ≤ 11) : SpL spNI [v] H ((firsts [] (nmsOf t)).map V.str) := fun H1 e Q q E => ⟨v, t, rfl, h1.ex e, h2, q⟩
def spTI : Sp := fun vs H Q _ => ∃ (v : V) (t : Tm) (x : Str), vs = [v, .str x] ∧ TmAt H t v ∧ dep t ≤ 11 ∧ ∀ H', Ex H H' → Q (.int ((nmsOf t).count x : Nat)) H'
theorem spv_ti {v : V} {t : Tm} {x : Str} {H : Hp} (h1 : TmAt H t v) (h2 : dep t ≤ 11) : SpV spTI [v, .str x] H (.int ((nmsOf t).count x : Nat)) := fun H1 e Q q E => ⟨v, t, x, rfl, h1.ex e, h2, q⟩
/-- arguments_of: of a word too that has none -/
def spArgs0 : Sp := fun vs H Q E => spArgs vs H Q E ∨ ∃ (a : Addr) (l : V), vs = [.ref a] ∧ H a = some (.tup [.str "is", l]) ∧ ∀ (g : Addr) (H' : Hp), H g = none → Ex H H' → H' g = some (.lst []) → Q (.ref g) H'
theorem spl_args0 {a : Addr} {w : Str} {us es : List V} {H : Hp} (h : H a = some (.tup (.str w :: (us ++ es)))) (hw : (w, (us.length : Int)) ∈ argN) (hz : us.length + es.length ≤ 100) : SpL spArgs0 [.ref a] H us := fun H1 e Q q E => .inl ⟨a, w, us, es, rfl, e _ _ h, hw, hz, q⟩
theorem spl_argsIs {a : Addr} {l : V} {H : Hp} (h : H a = some (.tup [.str "is", l])) : SpL spArgs0 [.ref a] H [] := fun H1 e Q q E => .inr ⟨a, l, rfl, e _ _ h, q⟩
end Dw

set_option Elab.async false
set_option linter.all false
set_option maxRecDepth 100000
set_option maxHeartbeats 4000000
namespace Dw
open PySem L2 Evl
theorem cut_tail {w : V} {us : List V} : cutV (w :: us) (some 1) none = us := by
  unfold cutV
  have h1 : HT.sIx (w :: us).length 0 (some 1) = 1 := by
    unfold HT.sIx
    first | rfl | (simp; done) | (simp; omega)
  have h2 : HT.sIx (w :: us).length (w :: us).length none = us.length + 1 := by
    unfold HT.sIx
    first | rfl | (simp; done)
  rw [h1, h2]
  simp
theorem TmAt.open2 {H : Hp} : ∀ {t : Tm} {v : V}, TmAt H t v → wordOf t ≠ Str.ofString "of" → ∃ a us es, v = .ref a ∧ H a = some (.tup (.str (wordOf t) :: (us ++ es))) ∧ All2 (TmAt H) (kids t) us ∧ us.length + es.length ≤ 3 ∧ ∀ x ∈ es, (∃ i, x = .int i) ∨ ∃ s, x = .str s
  | .is l, _, ⟨a, h1, h2⟩, _ => ⟨a, [], [.str (Tx l)], h1, h2, .nil, by simp, fun x hx => .inr ⟨_, List.mem_singleton.mp hx⟩⟩
  | .of x, _, _, h => absurd rfl h
  | .un w s, _, ⟨a, u, h1, h2, h3⟩, _ => ⟨a, [u], [], h1, h2, .cons h3 .nil, by simp, fun x hx => nomatch hx⟩
  | .bi w s t, _, ⟨a, u, u2, h1, h2, h3, h4⟩, _ => ⟨a, [u, u2], [], h1, h2, .cons h3 (.cons h4 .nil), by simp, fun x hx => nomatch hx⟩
  | .pick c s t, _, ⟨a, u, u1, u2, h1, h2, h3, h4, h5⟩, _ => ⟨a, [u, u1, u2], [], h1, h2, .cons h3 (.cons h4 (.cons h5 .nil)), by simp, fun x hx => nomatch hx⟩
  | .part s hi lo, _, ⟨a, u, h1, h2, h3⟩, _ => ⟨a, [u], [.int hi, .int lo], h1, h2, .cons h3 .nil, by simp, fun x hx => by
    simp only [List.mem_cons, List.not_mem_nil, or_false] at hx
    rcases hx with z | z <;> exact .inl ⟨_, z⟩⟩
theorem word_of : ∀ {t : Tm}, wordOf t = Str.ofString "of" → ∃ x, t = .of x
  | .of x, _ => ⟨x, rfl⟩
  | .is _, h => absurd (show ("is" : Str) = Str.ofString "of" from h) (by decide +kernel)
  | .un w _, h => absurd (show w.s = Str.ofString "of" from h) (by cases w <;> decide +kernel)
  | .bi w _ _, h => absurd (show w.s = Str.ofString "of" from h) (by cases w <;> decide +kernel)
  | .pick _ _ _, h => absurd (show ("pick" : Str) = Str.ofString "of" from h) (by decide +kernel)
  | .part _ _ _, h => absurd (show ("part" : Str) = Str.ofString "of" from h) (by decide +kernel)
theorem nms_kids2 : ∀ {t : Tm}, ¬ wordOf t = Str.ofString "of" → nmsOf t = (kids t).flatMap nmsOf
  | .of x, h => absurd rfl h
  | .is _, _ => rfl
  | .un w a, _ => nms_kids rfl
  | .bi w a b, _ => nms_kids rfl
  | .pick c a b, _ => nms_kids rfl
  | .part a _ _, _ => nms_kids rfl
section
variable {K : PySem.W.Frag} {σ : L2.St} {H : Hp} {ta tb te tl tl1 : TE} {t : TT} {tz tu : TS} {D : Ends} {g : TG} {z v : V} {r : R2}
theorem q_forNU {xs : List V} {tl : TE} (h : EvU tl σ H xs) (Pv : Addr → Nat → L2.St → Hp → Prop) (h0 : ∀ p H1, H p = none → Ex H H1 → H1 p = some (.tup xs) → Pv p 0 σ H1) (hl : ∀ p i σ' H', i ≤ xs.length → Pv p i σ' H' → SqT K H' p xs)
    (hs : ∀ p i x σ' H', xs[i]? = some x → Pv p i σ' H' → g x σ' H' fun σ2 H2 => tu { D with nx := Pv p (i + 1), ct := Pv p (i + 1), bk := tz D } σ2 H2) (hd : ∀ p σ' H', Pv p xs.length σ' H' → tz D σ' H') : tSeq (tFor (iTup K tl) g tu) tz D σ H :=
  h H (Ex.refl H) _ fun p H1 hp e h1 => ⟨p, rfl, ⟨xs, st_of h1⟩, for_tup (D := { D with nx := tz D }) (Pv p) (h0 p H1 hp e h1) (hl p) (hs p) (hd p)⟩
theorem s_extL {l : Addr} {xs ys : List V} (hl : H l = some (.lst xs)) (ha : Ev ta σ H (.ref l)) (h : EvL te σ H ys) (hz : xs.length + ys.length ≤ 100000) (k : ∀ H1, Ex H H1 → D.nx σ (L2.upd H1 l (.lst (xs ++ ys)))) :
    tDrop (tBM K "list" rExtend ta (tCons te tNil)) D σ H :=
  ha H (Ex.refl _) _ fun H2 e2 => ⟨.inl ⟨rfl, _, sq_of (e2 _ _ hl)⟩, h H2 e2 _ fun p H3 np e3 h3 => ⟨l, p, xs, ys, rfl, rfl, e3 _ _ (e2 _ _ hl), h3, sz_of hz, k H3 (e2.trans e3)⟩⟩
theorem ev_opLn {xs : List V} (ha : EvL ta σ H xs) (hb : Ev tb σ H v) (hr : ∀ p H1, Ex H H1 → H1 p = some (.lst xs) → RV r (.ref p) v H1 z) : Ev (tOp r ta tb) σ H z := fun H1 e Q q =>
  ha H1 e _ fun p H2 np e2 h2 => hb H2 (e.trans e2) _ fun H3 e3 => hr p H3 ((e.trans e2).trans e3) (e3 _ _ h2) H3 (Ex.refl _) Q fun H4 e4 => q H4 ((e2.trans e3).trans e4)
theorem ev_opRn {x : V} {ys : List V} (ha : Ev ta σ H x) (hb : EvL tb σ H ys) (hr : ∀ p H1, Ex H H1 → H1 p = some (.lst ys) → RV r x (.ref p) H1 z) : Ev (tOp r ta tb) σ H z := fun H1 e Q q =>
  ha H1 e _ fun H2 e2 => hb H2 (e.trans e2) _ fun p H3 np e3 h3 => hr p H3 ((e.trans e2).trans e3) h3 H3 (Ex.refl _) Q fun H4 e4 => q H4 ((e2.trans e3).trans e4)
/-- x = sorted(l, key=lambda p: ..) -/
theorem q_sortk {T : List (Addr × Str)} {p : Str} {N : List Str} {i : Nat} {l : Addr} {xs : List V} (kz : List Int) (h : Ev ta σ H (.ref l)) (hx : SqL K H l xs) (hT : LamX.Tabs T H) (hn : kz.length = xs.length)
    (hk : ∀ H2, LamX.ExtN H H2 → ∀ (j : Nat) (v : V) (k : Int), xs[j]? = some v → kz[j]? = some k → tb (some v :: erz p N σ) H2 (fun u H3 => u = .int k ∧ H3 = H2))
    (k : ∀ H2 ys q, LamX.ExtN H H2 → LamX.Tabs T H2 → KOut kz xs ys → H2 q = some (.lst ys) → tz D (σ.set i (some (.ref q))) H2) :
    tSeq (tAsg (tSortK K T p N ta tb) (gName i)) tz D σ H :=
  h H (Ex.refl _) _ fun H1 e1 => ⟨l, xs, rfl, ex_l e1 hx, hT.ext e1, fun H2 e2 T2 => ⟨kz, hn, fun j v kk h1 h2 => hk H2 ((LamX.ExtN.of e1).trans e2) j v kk h1 h2, fun ys q ko nq => k _ ys q (((LamX.ExtN.of e1).trans e2).trans (LamX.ExtN.of (Ex.new nq))) (T2.ext (Ex.new nq)) ko upd_same⟩⟩
end
/-! ### a filtered list of texts; the sorted one -/
section
variable {K : PySem.W.Frag} {σ : L2.St} {H : Hp} {te tl : TE} {t : TT}
theorem el_lcStr {a : Addr} {xs : List Str} {j : Nat} {vs : List Nat} (p : Str → Bool) (h : Ev tl σ H (.ref a)) (hx : SqL K H a (xs.map V.str)) (hz : xs.length ≤ 40000) (hw : ∀ x, wipe ((wipe σ vs).set j (some x)) vs = wipe σ vs) (hj : ∀ x, ((wipe σ vs).set j (some x))[j]? = some (some x))
    (ht : ∀ (x : Str) H1, Ex H H1 → x ∈ xs → EvT t ((wipe σ vs).set j (some (.str x))) H1 (p x)) :
    EvL (tLc (iList K tl) (gName j) t (tVar j) vs) σ H ((xs.filter p).map V.str) := by
  have hs : (xs.map V.str).length = xs.length := List.length_map _
  have key : ∀ (i : Nat) (x : V), (xs.map V.str)[i]? = some x → x = .str (xs.getD i default) ∧ xs.getD i default ∈ xs := fun i x hi => by
    rw [List.getElem?_map] at hi
    cases q : xs[i]? with
    | none => rw [q] at hi; cases hi
    | some y =>
      rw [q] at hi
      cases hi
      rw [List.getD_eq_getElem?_getD, q]
      exact ⟨rfl, List.mem_of_getElem? q⟩
  rw [← given_list xs default p V.str, ← hs]
  refine el_lcL (fun i => p (xs.getD i default)) (fun i => V.str (xs.getD i default)) h hx (by omega) hw (fun i x H1 e hi => ?_) (fun i x H1 e hi _ => ?_)
  · obtain ⟨rfl, hm⟩ := key i x hi
    exact ht _ H1 e hm
  · obtain ⟨rfl, hm⟩ := key i x hi
    exact ev_var (hj _)
end
/-- the places of the members, told by list.index -/
theorem sort_firsts {zs names : List Str} {ys : List V} (hn : names.Nodup) (hs : ∀ x ∈ zs, x ∈ names) (ko : KOut ((names.filter fun x => decide (x ∈ zs)).map fun x => (zs.idxOf x : Int)) ((names.filter fun x => decide (x ∈ zs)).map V.str) ys) : ys = (firsts [] zs).map V.str := by
  obtain ⟨qs, p1, p2, p3, _⟩ := ko
  have ez : ((names.filter fun x => decide (x ∈ zs)).map fun x => (zs.idxOf x : Int)).zip ((names.filter fun x => decide (x ∈ zs)).map V.str) = (names.filter fun x => decide (x ∈ zs)).map fun x => ((zs.idxOf x : Int), V.str x) := by
    generalize names.filter (fun x => decide (x ∈ zs)) = l
    induction l with
    | nil => rfl
    | cons x l ih => rw [List.map_cons, List.map_cons, List.zip_cons_cons, ih]; rfl
  rw [ez] at p1
  have fp : ((firsts [] zs).map fun x => ((zs.idxOf x : Int), V.str x)).Perm ((names.filter fun x => decide (x ∈ zs)).map fun x => ((zs.idxOf x : Int), V.str x)) := by
    refine List.Perm.map _ ((List.perm_ext_iff_of_nodup (firsts_nodup zs [] (by simp)) (hn.filter _)).mpr fun x => ?_)
    rw [firsts_mem, List.mem_filter]
    simp only [List.not_mem_nil, false_or, decide_eq_true_eq]
    exact ⟨fun h => ⟨hs x h, h⟩, fun h => h.2⟩
  have fs : ((firsts [] zs).map fun x => ((zs.idxOf x : Int), V.str x)).Pairwise fun p q => p.1 ≤ q.1 := by
    rw [List.pairwise_map]
    have := firsts_sorted zs zs.length (Nat.le_refl _)
    rw [List.take_length] at this
    exact this.imp fun h => by
      show (_ : Int) ≤ _
      omega
  have e : qs = (firsts [] zs).map fun x => ((zs.idxOf x : Int), V.str x) := by
    refine List.Perm.eq_of_pairwise (le := fun p q => p.1 ≤ q.1) (fun a b ha hb h1 h2 => ?_) p3 fs (p1.trans fp.symm)
    have ha2 := p1.mem_iff.mp ha
    have hb2 := fp.mem_iff.mp hb
    obtain ⟨x, hx, rfl⟩ := List.mem_map.mp ha2
    obtain ⟨y, hy, rfl⟩ := List.mem_map.mp hb2
    have hxz : x ∈ zs := by simpa using (List.mem_filter.mp hx).2
    have hyz : y ∈ zs := by simpa using (List.mem_filter.mp hy).2
    have h3 : zs.idxOf x = zs.idxOf y := by
      simp only at h1 h2
      omega
    have : x = y := by
      have l1 := List.idxOf_lt_length_of_mem hxz
      have l2 := List.idxOf_lt_length_of_mem hyz
      have g1 : zs[zs.idxOf x] = x := List.getElem_idxOf l1
      have g2 : zs[zs.idxOf y] = y := List.getElem_idxOf l2
      rw [← g1, ← g2]
      simp only [h3]
    rw [this]
  rw [p2, e, List.map_map]
  rfl
/-- a def whose code object is known -/
def FunC (K : PySem.W.Frag) (x qual : Str) (st : Stmt) (f : Addr) (fd : FuncData) (c : Addr) : Prop :=
  ∃ (oc : Value) (od : Option Addr) (kV doc pm : Value) (an : Option Addr) (ct : Value) (osl : Array (Option Value)),
    fd = PySem.W.fnOf x qual (defArgs st) (defBody st) (defScope st) .none kV doc pm an (.ref c) ct ∧ K.lookup f = some ⟨oc, od, .func fd, osl⟩ ∧ PySem.W.codeIn K (.ref c) qual = true
theorem FunC.ok {P : Program} {w : World} {K : PySem.W.Frag} {mg : Str → Option Value} {base : Heap} {x qual : Str} {st : Stmt} {f c : Addr} {fd : FuncData} {N ps : List Str} {k : Nat} {sp : Sp} (F : FunC K x qual st f fd c) (S : FnScope N ps (defScope st)) (len : ∀ vs H Q E, sp vs H Q E → vs.length = ps.length)
    (hbody : ∀ (A : Around) (outer : List Env) (s : Shared) (H : Hp) (vs : List V) (Q : VK) (E : XK), Room k (A.deeper (PyProof.Rows.envOfC qual (defScope st) s.heap.objs.size f (.ref c))) → sp vs H Q E →
      ∃ t, PSs (cxOf CX0 P w K mg base N qual (defScope st) f (.ref c) A outer s H E).nox (defBody st) t ∧ t { nx := fun _ H' => Q .non H', rt := Q } (start N vs) H) : FnOk P w K mg base CX0 (k + 1) f fd ps sp := by
  obtain ⟨oc, od, kV, doc, pm, an, ct, osl, rfl, lk, hcd⟩ := F
  refine fn_of lk hcd S len fun A outer s H vs Q E hr hsp => ?_
  obtain ⟨t, h, q⟩ := hbody A outer s H vs Q E hr hsp
  exact ⟨t, h.nox, q⟩
def qR : Str := (Str.ofString "_law_right" ++ ".<locals>.") ++ "<lambda>"
def spRight (T : List (Addr × Str)) : Sp := fun vs H Q _ => ∃ (v : V) (t : Tm) (g : Addr) (names : List Str), vs = [v, .ref g] ∧ TmAt H t v ∧ dep t ≤ 11 ∧ H g = some (.lst (names.map V.str)) ∧ names.Nodup ∧ names.length ≤ 20 ∧ (∀ x ∈ names, LowS x) ∧ (∀ x ∈ nmsOf t, x ∈ names) ∧ LamX.Tabs T H ∧
  ∀ H', LamX.ExtN H H' → LamX.Tabs T H' → Q (.bl true) H'
end Dw

set_option Elab.async false
set_option linter.all false
set_option maxRecDepth 100000
set_option maxHeartbeats 4000000
namespace Dw
open PySem L2 Evl
/-- a term by these names, at most n deep -/
def NmG (names : List Str) (n : Nat) : V → Hp → Prop := fun v H => ∃ t, TmAt H t v ∧ dep t ≤ n ∧ ∀ x ∈ nmsOf t, x ∈ names
theorem NmG.mono {names : List Str} {n m : Nat} {v : V} {H H' : Hp} (h : NmG names n v H) (e : ExT H H') (k : n ≤ m) : NmG names m v H' := let ⟨t, a, b, c⟩ := h; ⟨t, TmAt.mono e a, Nat.le_trans b k, c⟩
def spLawT (K : PySem.W.Frag) (T : List (Addr × Str)) : Sp := fun vs H Q _ => ∃ (a : Addr) (ns : List Int), vs = [.ref a] ∧ SqL K H a (ns.map V.int) ∧ ns.length ≤ 63 ∧ LamX.Tabs T H ∧ ∀ H', Q (.bl true) H'
theorem PotAt.exB' {H H' : Hp} {p g : Addr} (h : PotAt H p) (e : ExB g H H') (n : p ≠ g) : PotAt H' p := let ⟨x, y, h1, r⟩ := h; ⟨x, y, e _ _ n h1, r⟩
theorem at_last {xs : List V} {v : V} (h : xs.getLast? = some v) : atI xs (-1) = some v := by
  have hp : 0 < xs.length := by
    cases xs with
    | nil => cases h
    | cons x xs => simp
  rw [List.getLast?_eq_getElem?] at h
  unfold atI
  rw [← h]
  have e : ixN xs.length (-1) = some (xs.length - 1) := by
    unfold ixN
    rw [if_neg (by omega)]
    first
      | (rw [if_pos (by omega)]; congr 1; omega)
      | (split <;> first | (congr 1; omega) | omega)
  rw [e]
  rfl
section
variable {K : PySem.W.Frag} {σ : L2.St} {H : Hp} {ta tb te tl tl1 : TE} {t : TT} {tz tu : TS} {D : Ends} {z v : V} {p : Addr}
theorem q_whenApp {b : Bool} {l : Addr} {xs : List V} (h : EvT t σ H b) (hl : H l = some (.lst xs)) (ha : Ev ta σ H (.ref l)) (he : Ev te σ H v) (hz : xs.length < 100000) (k : ∀ H1 ys, ExB l H H1 → H1 l = some (.lst ys) → ys = (if b then xs ++ [v] else xs) → tz D σ H1) :
    tSeq (tIfS t (tDrop (tBM K "list" rAppend ta (tCons te tNil))) tNext) tz D σ H := by
  refine q_when h (fun hb H1 e1 => ?_) (fun hb H1 e1 => k H1 xs (ExB.of e1) (e1 _ _ hl) (by rw [hb]; rfl))
  refine s_app (D := { D with nx := tz D }) (e1 _ _ hl) (ha.mono e1) (he.mono e1) hz fun H2 e2 => ?_
  exact k _ (xs ++ [v]) (ExB.of (e1.trans e2)).upd upd_same (by rw [hb]; rfl)
theorem evp_term {E : XK} {i j k m : Nat} {qd : Addr} {ws : List (Str × Nat)} (hi : σ[i]? = some (some (.ref p))) (hj : σ[j]? = some (some (.ref qd))) (hk : σ[k]? = some (some (.int (m : Int)))) (hW : WsAt H qd ws) (hP0 : PotAt H p) (hok : WsOk ws) (hz : ws.length ≤ 1000) (m1 : 1 ≤ m) (m8 : m ≤ 8) :
    EvP p (tCall (spTerm 4) [] E (tCons (tVar i) (tCons (tVar j) (tCons (tVar k) (tCons (tC (.int 4)) (tCons (tLst (tCons (tC (.int 9)) tNil)) tNil)))))) σ H (NmG (ws.map (·.1)) 6) := fun H1 e hP Q q => by
  refine ⟨_, hi, _, hj, _, hk, by show 1 ≤ sizeLine; decide, fun r nr => ?_⟩
  have f9 := Ex.new (o := .lst [V.int 9]) nr
  refine ⟨p, qd, r, m, 9, ws, rfl, hP.ex f9, (hW.exB hP0 e).ex f9, upd_same, hok, hz, m1, m8, fun HA v t c o => ?_⟩
  exact q v HA (exB_of_C f9 nr o.ex) o.pot ⟨t, o.tm, o.dp, nms_in o.wd hok⟩
theorem evp_both {E : XK} {i j k : Nat} {names : List Str} {u1 u2 : V} (hi : σ[i]? = some (some (.ref p))) (hj : σ[j]? = some (some u1)) (hk : σ[k]? = some (some u2)) (h1 : NmG names 6 u1 H) (h2 : NmG names 6 u2 H) (hP0 : PotAt H p) :
    EvP p (tOp (rIxL K) (tLst (tCons (tTup (tCons (tC (.str "and")) (tCons (tVar j) (tCons (tVar j) tNil)))) (tCons (tTup (tCons (tC (.str "same")) (tCons (tVar k) (tCons (tVar j) tNil)))) (tCons (tTup (tCons (tC (.str "pick")) (tCons (tTup (tCons (tC (.str "is")) (tCons (tC (.str "x")) tNil))) (tCons (tVar j) (tCons (tVar k) tNil))))) tNil))))
      (tCall spTake [] E (tCons (tVar i) (tCons (tC (.int 3)) tNil)))) σ H (NmG names 7) := fun H1 e hP Q q => by
  obtain ⟨t1, a1, b1, c1⟩ := h1.mono (ExT.ofB hP0 e) (Nat.le_refl _)
  obtain ⟨t2, a2, b2, c2⟩ := h2.mono (ExT.ofB hP0 e) (Nat.le_refl _)
  refine ⟨_, hj, _, hj, by show 3 ≤ sizeLine; decide, fun T1 n1 => ?_⟩
  have f1 := Ex.new (o := .tup [V.str "and", u1, u1]) n1
  refine ⟨_, hk, _, hj, by show 3 ≤ sizeLine; decide, fun T2 n2 => ?_⟩
  have f2 := Ex.new (o := .tup [V.str "same", u2, u1]) n2
  refine ⟨by show 2 ≤ sizeLine; decide, fun T3 n3 => ?_⟩
  have f3 := Ex.new (o := .tup [V.str "is", V.str "x"]) n3
  refine ⟨_, hj, _, hk, by show 4 ≤ sizeLine; decide, fun T4 n4 => ?_⟩
  have f4 := Ex.new (o := .tup [V.str "pick", V.ref T3, u1, u2]) n4
  refine ⟨by show 3 ≤ sizeLine; decide, fun Lx nL => ?_⟩
  have f5 := Ex.new (o := .lst [V.ref T1, V.ref T2, V.ref T4]) nL
  have x5 := (((f1.trans f2).trans f3).trans f4).trans f5
  refine ⟨_, hi, p, 3, rfl, hP.ex x5, by decide, by decide, fun H6 d e6 hP6 d0 d1 => ?_⟩
  obtain ⟨d, rfl⟩ := Int.eq_ofNat_of_zero_le d0
  have nLp : Lx ≠ p := fun z => by
    obtain ⟨x, y, k1, _⟩ := hP.ex (((f1.trans f2).trans f3).trans f4)
    rw [z, k1] at nL
    cases nL
  have hL6 := e6 _ _ nLp upd_same
  have hP5 : PotAt (L2.upd (L2.upd (L2.upd (L2.upd (L2.upd H1 T1 (.tup [V.str "and", u1, u1])) T2 (.tup [V.str "same", u2, u1])) T3 (.tup [V.str "is", V.str "x"])) T4 (.tup [V.str "pick", V.ref T3, u1, u2])) Lx (.lst [V.ref T1, V.ref T2, V.ref T4])) p := hP.ex x5
  have et : ExT _ H6 := ExT.ofB hP5 e6
  have ea1 := TmAt.mono ((ExT.of x5).trans et) a1
  have ea2 := TmAt.mono ((ExT.of x5).trans et) a2
  have k1 : H6 T1 = some (.tup [V.str "and", u1, u1]) := et _ _ ((((f2.trans f3).trans f4).trans f5) _ _ upd_same)
  have k2 : H6 T2 = some (.tup [V.str "same", u2, u1]) := et _ _ (((f3.trans f4).trans f5) _ _ upd_same)
  have k3 : H6 T3 = some (.tup [V.str "is", V.str "x"]) := et _ _ ((f4.trans f5) _ _ upd_same)
  have k4 : H6 T4 = some (.tup [V.str "pick", V.ref T3, u1, u2]) := et _ _ (f5 _ _ upd_same)
  have xe : ExB p H1 H6 := (ExB.of x5).trans e6
  have d3 : d = 0 ∨ d = 1 ∨ d = 2 := by omega
  rcases d3 with rfl | rfl | rfl
  · refine ⟨Lx, _, _, .ref T1, rfl, rfl, sq_of hL6, atI_nat (j := 0) rfl, q _ H6 xe hP6 ⟨.bi .and t1 t1, ⟨T1, u1, u1, rfl, k1, ea1, ea1⟩, by simp only [dep]; omega, fun x hx => ?_⟩⟩
    rcases List.mem_append.mp hx with h | h <;> exact c1 x h
  · refine ⟨Lx, _, _, .ref T2, rfl, rfl, sq_of hL6, atI_nat (j := 1) rfl, q _ H6 xe hP6 ⟨.bi .same t2 t1, ⟨T2, u2, u1, rfl, k2, ea2, ea1⟩, by simp only [dep]; omega, fun x hx => ?_⟩⟩
    rcases List.mem_append.mp hx with h | h
    · exact c2 x h
    · exact c1 x h
  · refine ⟨Lx, _, _, .ref T4, rfl, rfl, sq_of hL6, atI_nat (j := 2) rfl, q _ H6 xe hP6 ⟨.pick (.is [120]) t1 t2, ⟨T4, .ref T3, u1, u2, rfl, k4, ⟨T3, rfl, by rw [k3, show Tx [120] = Str.ofString "x" by decide +kernel]⟩, ea1, ea2⟩, by simp only [dep]; omega, fun x hx => ?_⟩⟩
    rcases List.mem_append.mp hx with h | h
    · rcases List.mem_append.mp h with h | h
      · cases h
      · exact c1 x h
    · exact c2 x h
end
end Dw

set_option Elab.async false
set_option linter.all false
set_option maxRecDepth 100000
/-! defs that are called while nothing is being shown (the list of guards is known to be empty), and repr of nested data in them -/
namespace L2
open PySem PySem.Spec PyProof.Rows

/-- a def's promise where nothing is being shown at the call -/
structure FnG (P : Program) (w : World) (K : PySem.W.Frag) (mg : Str → Option Value) (base : Heap) (CX : CXT) (k : Nat) (f : Addr) (fd : FuncData) (ps : List Str) (sp : Sp) : Prop where
  many : ∀ xs H Q E, sp xs H Q E → xs.length = ps.length
  goes : ∀ (A : Around) (outer : List Env) (s : Shared) (H : Hp) (args : Args) (us : List Value) (xs : List V) (Q : VK) (E : XK), A.guards = some [] → Room k A → Env0 P w K mg base A outer s H →
    BindsTo s fd args (ps.zip us) → Vals xs us → sp xs H Q E → codeAny (model P w) A (.call (.ref f) args) (CR CX outer P w H s Q E) s

section
variable {P : Program} {w : World} {K : PySem.W.Frag} {mg : Str → Option Value} {base : Heap}
theorem FnG.more {CX : CXT} {j k : Nat} {f : Addr} {fd : FuncData} {ps : List Str} {sp : Sp} (F : FnG P w K mg base CX j f fd ps sp) (h : j ≤ k) : FnG P w K mg base CX k f fd ps sp :=
  ⟨F.many, fun A outer s H args us xs Q E g hr => F.goes A outer s H args us xs Q E g (hr.mono h)⟩

/-- a def by its body, the body read where nothing is being shown -/
theorem fng_of {CX : CXT} {k : Nat} {f : Addr} {name qual : Str} {params : Arguments} {body : List Stmt} {scope : Scope} {dV kV doc pm cdv ct oc : Value} {an od : Option Addr} {osl : Array (Option Value)} {N ps : List Str} {sp : Sp}
    (lk : K.lookup f = some ⟨oc, od, .func (PySem.W.fnOf name qual params body scope dV kV doc pm an cdv ct), osl⟩) (cd : PySem.W.codeIn K cdv qual = true) (S : FnScope N ps scope)
    (many : ∀ xs H Q E, sp xs H Q E → xs.length = ps.length)
    (read : ∀ (A : Around) (outer : List Env) (s : Shared) (H : Hp) (xs : List V) (Q : VK) (E : XK), A.guards = some [] → Room k (A.deeper (envOfC qual scope s.heap.objs.size f cdv)) → sp xs H Q E →
      ∃ t, PSs (cxOf CX P w K mg base N qual scope f cdv A outer s H E) body t ∧ t { nx := fun _ H2 => Q .non H2, rt := Q } (start N xs) H) :
    FnG P w K mg base CX (k + 1) f (PySem.W.fnOf name qual params body scope dV kV doc pm an cdv ct) ps sp := by
  constructor
  · exact many
  intro A outer s H args us xs Q E g hr z hb rel want
  have inHeap : K.In s.heap := z.mod.kin.keeps fun b o e => (z.bs b o e).1
  have free : s.heap.NoLimit := z.mod.nolimit.keeps fun b o e => (z.bs b o e).1
  refine codeAny_call_function hr.depth (inHeap _ _ lk) rfl S.co S.gen rfl (PySem.W.codeRec_of inHeap cd) (hb _ _ _ _ (wpAny_newFunctionEnv_cells S.kind (fun y hy => ?_) fun env he s1 x => ?_))
  · obtain ⟨n, v⟩ := y
    rcases S.par n (List.of_mem_zip hy).1 with q | q
    · exact Or.inl q
    · exact Or.inr ⟨q, PySem.W.cellsFrom_some _ _ _ (Or.inl q)⟩
  · subst he
    obtain ⟨t, der, val⟩ := read A outer s H xs Q E g (hr.deeper _) want
    have I := inv_start (CX := CX) (E := E) S hr.hd z (many _ _ _ _ want) rel x
    refine ⟨free.keeps x.toInCall.keep, codeAny_func (wpAny_mono (der.run [] s1 (start N xs) H _ I val) (fun fl s2 out => ?_) fun e s2 out => out)⟩
    cases fl with
    | brk => exact (out.choose_spec.choose_spec.2).elim
    | cont => exact (out.choose_spec.choose_spec.2).elim
    | next =>
      obtain ⟨σ2, H2, J, q⟩ := out
      exact ⟨V.non, H2, J.os, J.bare, J.base, J.hok, rfl, q⟩
    | ret u =>
      obtain ⟨v, σ2, H2, J, rv, q⟩ := out
      exact ⟨v, H2, J.os, J.bare, J.base, J.hok, rv, q⟩

theorem Fun.okG {x qual : Str} {st : Stmt} {f : Addr} {fd : FuncData} {N ps : List Str} {k : Nat} {sp : Sp} (F : Fun K x qual st f fd) (S : FnScope N ps (defScope st)) (many : ∀ xs H Q E, sp xs H Q E → xs.length = ps.length)
    (read : ∀ (cdv : Value) (A : Around) (outer : List Env) (s : Shared) (H : Hp) (xs : List V) (Q : VK) (E : XK), A.guards = some [] → Room k (A.deeper (envOfC qual (defScope st) s.heap.objs.size f cdv)) → sp xs H Q E →
      ∃ t, PSs (cxOf CX0 P w K mg base N qual (defScope st) f cdv A outer s H E).nox (defBody st) t ∧ t { nx := fun _ H2 => Q .non H2, rt := Q } (start N xs) H) : FnG P w K mg base CX0 (k + 1) f fd ps sp := by
  obtain ⟨oc, od, kV, doc, pm, an, cdv, ct, osl, rfl, lk, cd⟩ := F.ex
  exact fng_of lk cd S many fun A outer s H xs Q E g hr want => (read cdv A outer s H xs Q E g hr want).imp fun t p => ⟨p.1.nox, p.2⟩
end

section
variable {X : Cx} {CX : CXT} {k : Nat} {f : Addr} {fd : FuncData} {ps : List Str} {ds : List Value} {dvs : List V} {sp : Sp} {E : XK}
/-- such a def called where nothing is being shown -/
theorem run_fng {pins : List (Addr × Obj)} {σ : St} {H : Hp} {s : Shared} {Q : VK} {us : List Value} {vs : List V} (F : FnG X.prog X.w X.K X.mg X.base CX k f fd ps sp) (g : X.A.guards = some []) (hr : Room k X.A) (hb : Binds X.K fd ps ds) (hd : Vals dvs ds) (hx : Passes CX X E)
    (I : Inv X pins σ H s) (rel : Vals vs us) (want : sp (vs ++ dvs) H Q E) : wpAny (model X.prog X.w) X.A (call (.ref f) us) (EP X pins σ Q) X.xe s := by
  have rel2 := rel.append hd
  refine wpAny_call (codeAny_mono (F.goes X.A X.stack s H ⟨us, []⟩ (us ++ ds) (vs ++ dvs) Q E g hr I.env0 (hb s us I.kIn ?_) rel2 want) fun r s2 out => ?_)
  · rw [← rel2.length]
    exact F.many _ _ _ _ want
  · match r, out with
    | .error e, out => exact hx pins σ H s e s2 I out
    | .ok (.ret u), out => exact I.after out
    | .ok .next, out => exact out.elim
    | .ok .brk, out => exact out.elim
    | .ok .cont, out => exact out.elim
theorem pe_callG {x : Str} {p pos : Pos} {e : Expr} {es : List Expr} {t : TA} (F : FnG X.prog X.w X.K X.mg X.base CX k f fd ps sp) (g : X.A.guards = some []) (hr : Room k X.A) (hg : Gl X x) (hm : X.mg x = some (.ref f)) (hk : PySem.W.keepIn X.K (.ref f) = true) (hb : Binds X.K fd ps ds)
    (hd : Vals dvs ds) (hx : Passes CX X E) (ha : PA X (e :: es) t) (nd : (x == ("__debug__" : Str)) = false := by decide) (he : starEach (e :: es) X.env = (false, eval e X.env) :: starEach es X.env := by rfl)
    (hpl : (backTo pos (starEach es X.env)).any (·.1) = false := by rfl) : PE X (.Call (.Name x p) (e :: es) [] pos) (tCall sp dvs E t) := by
  constructor
  intro pins s σ H Q I want
  refine wpAny_Call_Name_kw (ld_glob I hg hm (PySem.W.callWith_K (h₀ := X.base) I.ok.mod.kin hk (thn (ha.run pos pins s σ H _ I want) fun us s1 out => ?_) he hpl) nd)
  obtain ⟨vs, H1, I1, rel, q⟩ := out
  exact ⟨I1.kIn, run_fng F g hr hb hd hx I1 rel q⟩
end
end L2

set_option Elab.async false
set_option linter.all false
set_option maxRecDepth 100000
namespace L2
open PySem PySem.Spec PyProof.Rows

/-- the law's own call, from the promise of a def that is called where nothing is being shown -/
theorem lawg_call {P : Program} {w : World} {K : PySem.W.Frag} {mg mb : Str → Option Value} {CX : CXT} {k : Nat} {fa a : Addr} {fd : FuncData} {x : Str} {sp : Sp} {s₁ : Shared} {vs : List Value} {ns : List Int}
    (kin : K.In s₁.heap) (top : s₁.heap.Ns mainGlobals mg) (bt : s₁.heap.Ns builtinsNs mb) (boot : ∀ x : Str, x ≠ "__name__" → mb x = bootBuiltins x) (free : s₁.heap.NoLimit) (gens : s₁.gens = #[])
    (sc : s₁.heap.get? a = some { cls := .type "list", data := .seq vs.toArray }) (isI : IntsAre vs ns) (short : ns.length ≤ sizeLine) (room : Room k callerA)
    (F : ∀ base : Heap, K.In base → base.Ns mainGlobals mg → FnG P w K mg base CX k fa fd [x] sp) (binds : ∀ (s : Shared) (u : Value), BindsTo s fd ⟨[u], []⟩ [(x, u)])
    (want : ∀ H : Hp, SqL K H a (ns.map V.int) → sp [.ref a] H (fun v _ => v = .bl true) fun _ _ _ => False)
    (noX : ∀ H e s', CX [] H s₁ (fun _ _ _ => False) e s' → False) :
    codeAny (model P w) callerA (.call (.ref fa) ⟨[.ref a], []⟩) (fun r s' => r = .ok (.ret (.bool true)) ∧ OldK s₁.heap s'.heap ∧ s'.os = s₁.os ∧ AllBare s'.gens) s₁ := by
  have rel := vals_ints isI
  have long := isI.length
  -- over a heap that tracks the script at most
  have main : ∀ H : Hp, Only H → SqL K H a (ns.map V.int) → HOk P w H s₁.heap → (∀ b, H b ≠ none → b = a ∧ K.lookup a = none) →
      codeAny (model P w) callerA (.call (.ref fa) ⟨[.ref a], []⟩) (fun r s' => r = .ok (.ret (.bool true)) ∧ OldK s₁.heap s'.heap ∧ s'.os = s₁.os ∧ AllBare s'.gens) s₁ := by
    intro H only hS ok just
    have none_of : ∀ {b : Addr}, (b = a → False) → H b = none := fun {b} hb => by
      by_cases q : H b = none
      · exact q
      · exact (hb (just b q).1).elim
    have dict_ne : ∀ {b : Addr} {o : Obj} {es : Array DictEntry} {ep : Nat}, s₁.heap.get? b = some o → o.data = .dict es ep → H b = none := fun {b o es ep} e d => none_of fun z => by
      rw [z, sc] at e
      cases e
      cases d
    have nsT : ∀ {b : Addr} {m : Str → Option Value}, s₁.heap.Ns b m → (hidT s₁.heap H).Ns b m := fun {b m} h => by
      obtain ⟨o, es, ep, e, d, r⟩ := h
      exact ⟨o, es, ep, hidT_get e (dict_ne e d), d, r⟩
    have kinT : K.In (hidT s₁.heap H) := fun b o e => hidT_get (kin b o e) (by
      by_cases q : H b = none
      · exact q
      · obtain ⟨z1, z2⟩ := just b q
        rw [z1, z2] at e
        cases e)
    have e0 : Env0 P w K mg (hidT s₁.heap H) callerA [] s₁ H := by
      refine ⟨rfl, ⟨kinT, nsT top, ⟨mb, nsT bt, boot⟩, ?_⟩, fun b o e => of_hidT e, Nat.le_of_eq (hidT_size _ _), trivial, fun b hb => ?_, ok, .of_eq gens⟩
      · obtain ⟨mc, h1, h2⟩ := free
        exact ⟨mc, nsT h1, h2⟩
      · cases hb
    refine codeAny_mono ((F _ kinT (nsT top)).goes callerA [] s₁ H ⟨[.ref a], []⟩ [.ref a] [.ref a] _ _ rfl room e0 (binds s₁ (.ref a)) (.cons rfl .nil) (want H hS)) fun r s2 out => ?_
    match r, out with
    | .error e, out => exact (noX H e s2 out).elim
    | .ok .next, out => exact out.elim
    | .ok .brk, out => exact out.elim
    | .ok .cont, out => exact out.elim
    | .ok (.ret u), out =>
      obtain ⟨v, H2, os, bare, un, ok2, rv, q⟩ := out
      cases (show v = .bl true from q)
      cases (show u = Value.bool true from rv)
      refine ⟨rfl, OldK.of_keep fun b o e => ?_, os, bare⟩
      rcases only b with z | ⟨ob, xs, z⟩
      · exact un.keep b o e z (fun y => by cases y) (by simp)
      · have first := (ok b _ z).1
        have later := (ok2 b _ (un.frzs b ob _ z)).1
        rw [e] at first
        cases first
        exact later
  by_cases known : K.lookup a = none
  · refine main (fun b => if b = a then some (.frz { cls := .type "list", data := .seq vs.toArray } (.lst (ns.map V.int))) else none) (fun b => ?_) (.inl (.inr ⟨{ cls := .type "list", data := .seq vs.toArray }, if_pos rfl⟩)) (fun b u z => ?_) (fun b z => ?_)
    · by_cases hb : b = a
      · exact .inr ⟨_, _, if_pos hb⟩
      · exact .inl (if_neg hb)
    · by_cases hb : b = a
      · subst hb
        have z2 := (if_pos rfl).symm.trans z
        cases z2
        exact ⟨sc, by rw [List.length_map]; exact short, vs, _, rel, sc⟩
      · have z2 := (if_neg hb).symm.trans z
        cases z2
    · by_cases hb : b = a
      · exact ⟨hb, known⟩
      · exact absurd (if_neg hb) z
  · obtain ⟨o, ko⟩ := Option.ne_none_iff_exists'.mp known
    have e := kin a o ko
    rw [sc] at e
    cases e
    refine main (fun _ => none) (fun _ => .inl rfl) (.inr ⟨_, vs.toArray, _, ko, rfl, rfl, rfl, by rw [List.size_toArray, long]; exact short, by simpa using rel⟩) (fun b u z => ?_) fun b z => absurd rfl z
    cases (show (none : Option HO) = some u from z)

theorem walkg_of {l : PySem.W.OpenLaw} {n k : Nat} {q : Program} {loose : List Str} {XP : (Str → Option Value) → Heap → Prop} {YP : World → Heap → Prop} {d : DefRec} {K : Params → PySem.W.Frag} {CX : World → CXT} {sp : World → Sp} {x : Str}
    (hn : l.most = some n) (hn2 : n ≤ sizeLine) (hdf : d.params.defaults = []) (room : Room k callerA) (hY : ∀ (w : World) (h : Heap), YP w h → (K w.params).In h)
    (F : ∀ (w : World) (mg : Str → Option Value) (fa : Addr) (h : Heap), (K w.params).In h → h.Ns mainGlobals mg → mg d.name = some (.ref fa) → ∃ fd : FuncData, (∀ (s : Shared) (u : Value), BindsTo s fd ⟨[u], []⟩ [(x, u)]) ∧
      ∀ base : Heap, (K w.params).In base → base.Ns mainGlobals mg → FnG l.prog w (K w.params) mg base (CX w) k fa fd [x] (sp w))
    (want : ∀ (w : World) (H : Hp) (a : Addr) (ns : List Int), ns.length ≤ n → SqL (K w.params) H a (ns.map V.int) → sp w [.ref a] H (fun v _ => v = .bl true) fun _ _ _ => False)
    (noX : ∀ (w : World) (H : Hp) (s : Shared) (e : Value) (s' : Shared), CX w [] H s (fun _ _ _ => False) e s' → False) :
    PySem.W.WalkO q loose XP YP l.row.toRowW d [] (fun f vs => PySem.call f vs) := by
  refine Att.attach_call hn hdf fun w s₀ s₁ mg mb fa o pm cd doc a vs ns G Y ho hd hcd hmg hobj hints hlen hg => ?_
  have kin := hY w _ Y
  obtain ⟨fd, binds, hF⟩ := F w mg fa _ kin G.T.g hmg
  exact lawg_call kin G.T.g G.T.b G.T.builtins G.T.nolimit hg hobj hints (Nat.le_trans hlen hn2) room hF binds (fun H hS => want w H a ns hlen hS) fun H e s' => noX w H s₁ e s'

/-! ### how long what is shown may be -/
theorem listText_le (ts : List Str) : (listText ts).length ≤ piled ts + 2 := by
  have hX : (listText ts).length = (textFrom 0 "[" ts).length + 1 := by
    show (textFrom 0 "[" ts ++ "]").length = _
    rw [strLen_append]
    rfl
  rw [hX]
  cases ts with
  | nil => decide
  | cons t r =>
    have h := textFrom_length_pos r 1 (("[" : Str) ++ (if (0 : Nat) > 0 then ", " else "" : String) ++ t) (Nat.succ_pos 0)
    have e : ((("[" : Str) ++ (if (0 : Nat) > 0 then ", " else "" : String) ++ t)).length = 1 + t.length := by
      rw [strLen_append, strLen_append]; rfl
    show (textFrom 1 (("[" : Str) ++ (if (0 : Nat) > 0 then ", " else "" : String) ++ t) r).length + 1 ≤ _
    rw [h, e, piled_cons]
    omega
theorem tupleText_le (ts : List Str) : (tupleText ts).length ≤ piled ts + 3 := by
  unfold tupleText
  rw [strLen_append, strLen_append]
  have e1 : ((("(" : String) : Str)).length = 1 := rfl
  have e3 : (((if ts.length == 1 then ",)" else ")" : String) : Str)).length ≤ 2 := by split <;> decide
  rw [e1]
  by_cases h : ts = []
  · subst h
    have : (Str.join ", " []).length = 0 := rfl
    omega
  · have := join_length_add ts h
    omega
mutual
/-- a bound of what is shown -/
def shB : PyData → Nat
  | .none => 4
  | .bool _ => 5
  | .int _ => 2000
  | .str x => 10 * x.length + 2
  | .list xs => shBs xs + 2
  | .tuple xs => shBs xs + 3
  | .dict _ => 0
def shBs : List PyData → Nat
  | [] => 0
  | x :: xs => shB x + 2 + shBs xs
end
mutual
/-- data that can be shown: no dict, no great number, texts of signs -/
def ShOk : PyData → Prop
  | .none => True
  | .bool _ => True
  | .int i => i.natAbs.log2 < 1920
  | .str x => ∀ c ∈ x.cps.toList, c < 16 ^ 8
  | .list xs => ShOks xs
  | .tuple xs => ShOks xs
  | .dict _ => False
def ShOks : List PyData → Prop
  | [] => True
  | x :: xs => ShOk x ∧ ShOks xs
end
mutual
theorem shown_le : ∀ d : PyData, ShOk d → d.showable = true ∧ d.hasDict = false ∧ d.shown.length ≤ shB d
  | .none, _ => ⟨rfl, rfl, by show (Str.ofString "None").length ≤ 4; decide⟩
  | .bool b, _ => ⟨rfl, rfl, by cases b <;> (show (Str.ofString _).length ≤ 5; decide)⟩
  | .int i, h => ⟨by simpa [PyData.showable] using (show i.natAbs.log2 < 1920 from h), rfl, by
      have e := int_text_length_le (k := 1920) (by decide) h
      show (Str.ofString (toString i)).length ≤ 2000
      rw [PySem.ofString_length]
      omega⟩
  | .str x, h => ⟨rfl, rfl, by
      show (reprText x).length ≤ 10 * x.length + 2
      exact StrLaws.reprText_len x h⟩
  | .list xs, h => by
    obtain ⟨h1, h2, h3⟩ := showns_le xs h
    refine ⟨by simpa [PyData.showable] using h1, by simpa [PyData.hasDict] using h2, ?_⟩
    have := listText_le (PyData.shownAll xs)
    simp only [PyData.shown, shB]
    omega
  | .tuple xs, h => by
    obtain ⟨h1, h2, h3⟩ := showns_le xs h
    refine ⟨by simpa [PyData.showable] using h1, by simpa [PyData.hasDict] using h2, ?_⟩
    have := tupleText_le (PyData.shownAll xs)
    simp only [PyData.shown, shB]
    omega
  | .dict _, h => (show False from h).elim
theorem showns_le : ∀ ds : List PyData, ShOks ds → PyData.showableAll ds = true ∧ PyData.hasDictAll ds = false ∧ piled (PyData.shownAll ds) ≤ shBs ds
  | [], _ => ⟨rfl, rfl, Nat.le_refl _⟩
  | d :: ds, h => by
    obtain ⟨a1, a2, a3⟩ := shown_le d h.1
    obtain ⟨b1, b2, b3⟩ := showns_le ds h.2
    refine ⟨by simp [PyData.showableAll, a1, b1], by simp [PyData.hasDictAll, a2, b2], ?_⟩
    simp only [PyData.shownAll, shBs, piled_cons]
    omega
end

/-! ### repr of nested data -/
def rRepr (K : PySem.W.Frag) : List V → Hp → VK → Prop := fun xs H Q => ∃ (a : Addr) (d : PyData), xs = [.ref a] ∧ Dp K H (.ref a) d ∧ ShOk d ∧ d.depth ≤ 100 ∧ shB d ≤ sizeLine ∧ Q (.str d.shown) H
theorem call_repr {X : Cx} (g : X.A.guards = some []) (hu : X.A.units + 101 < cLine) : CallR X (.builtin "repr") (rRepr X.K) := by
  intro pins s σ H xs us Q I rel h
  obtain ⟨a, d, rfl, hd, ok, dep, fit, q⟩ := h
  cases rel with
  | cons r1 r2 =>
    cases r2
    cases r1
    obtain ⟨as, rd⟩ := Dp.reads I d (.ref a) (.ref a) hd rfl
    obtain ⟨h1, h2, h3⟩ := shown_le d ok
    exact repr_of_reads' rd h1 (PyData.noDict_hsm h2) g (by omega) (fun _ _ e => e) (fun h' u tk hk => ⟨.str d.shown, H, I.kept hk, ⟨u, rfl⟩, q⟩) (Nat.le_trans h3 fit)
theorem pe_repr {X : Cx} {p pos : Pos} {e : Expr} {te : TE} (g : X.A.guards = some []) (hu : X.A.units + 101 < cLine) (hg : Gl X "repr") (hm : X.mg "repr" = none) (ha : PE X e te)
    (he : starEach [e] X.env = (false, eval e X.env) :: starEach [] X.env := by rfl) (h0 : starEach [] X.env = [] := by rfl) : PE X (.Call (.Name "repr" p) [e] [] pos) (tCB (rRepr X.K) (tCons te tNil)) :=
  pe_callB (call_repr g hu) hg hm rfl (pa_cons ha pa_nil he) (by decide) (by decide) he (by rw [h0]; rfl)
end L2
namespace Evl
open PySem L2
theorem ev_repr {K : PySem.W.Frag} {σ : L2.St} {H : Hp} {ta : TE} {a : Addr} {d : PyData} (ha : Ev ta σ H (.ref a)) (hd : ∀ H2, Ex H H2 → Dp K H2 (.ref a) d) (ok : ShOk d) (dep : d.depth ≤ 100) (fit : shB d ≤ sizeLine) :
    Ev (tCB (rRepr K) (tCons ta tNil)) σ H (.str d.shown) := fun H1 e Q q => ha H1 e _ fun H2 e2 => ⟨a, d, rfl, hd H2 (e.trans e2), ok, dep, fit, q H2 e2⟩
end Evl

set_option Elab.async false
set_option linter.all false
set_option maxRecDepth 100000
namespace Dw
open PySem L2 Evl
/-- a def that is called where nothing is being shown, as it stands -/
structure DfG (P : Program) (w : World) (K : PySem.W.Frag) (mg : Str → Option Value) (base : Heap) (CX : CXT) (x : Str) (k : Nat) (f : Addr) (fd : FuncData) (ps : List Str) (sp : Sp) : Prop where
  ok : FnG P w K mg base CX k f fd ps sp
  g : mg x = some (.ref f)
  kp : PySem.W.keepIn K (.ref f) = true
  b : Binds K fd ps []
theorem u101 {k : Nat} {A : Around} (hr : Room k A) : A.units + 101 < cLine := by
  have := hr.un
  omega
/-- a statement that is not come to -/
theorem ps_never {X : Cx} {st : Stmt} : PS X st (fun _ _ _ => False) := ⟨fun _ _ _ _ _ _ h => h.elim⟩
end Dw

set_option Elab.async false
set_option linter.all false
set_option maxRecDepth 100000
set_option maxHeartbeats 2000000
namespace Dw
open PySem L2 Evl
/-! ### the text of a term -/
def nsg : List Nat := lets ++ figs
theorem s_nsg : Str.ofString "abcdefghijklmnopqrstuvwxyz0123456789" = Tx nsg := by decide +kernel
/-- what stands behind the word, but for the last bracket -/
def bod : Bool → List (List Nat) → List Nat
  | _, [] => []
  | f, x :: xs => (if f then [40] else [44, 32]) ++ x ++ bod false xs
def endsT : Tm → List (List Nat)
  | .part _ hi lo => [[48 + hi], [48 + lo]]
  | _ => []
def txT : Tm → List Nat
  | .is l => 39 :: l
  | .of x => x.cps.toList
  | .un w a => w.s.cps.toList ++ bod true [txT a] ++ [41]
  | .bi w a b => w.s.cps.toList ++ bod true [txT a, txT b] ++ [41]
  | .pick c a b => (Str.ofString "pick").cps.toList ++ bod true [txT c, txT a, txT b] ++ [41]
  | .part a hi lo => (Str.ofString "part").cps.toList ++ bod true [txT a, [48 + hi], [48 + lo]] ++ [41]
theorem txT_open : ∀ {t : Tm}, leafy t = false → txT t = (wordOf t).cps.toList ++ bod true ((kids t).map txT ++ endsT t) ++ [41]
  | .un _ _, _ => rfl
  | .bi _ _ _, _ => rfl
  | .pick _ _ _, _ => rfl
  | .part _ _ _, _ => rfl
  | .is _, h => by cases h
  | .of _, h => by cases h
/-- a term that can be written and read -/
def TmTx : Tm → Prop
  | .is l => Sx l ∧ 1 ≤ l.length ∧ l.length ≤ 8
  | .of x => NmOk x
  | .un _ a => TmTx a
  | .bi _ a b => TmTx a ∧ TmTx b
  | .pick c a b => TmTx c ∧ TmTx a ∧ TmTx b
  | .part a hi lo => TmTx a ∧ lo ≤ hi ∧ hi ≤ 7
theorem TmTx.kids : ∀ {t : Tm}, TmTx t → ∀ s ∈ kids t, TmTx s
  | .un _ a, h, s, hs => by
    rw [List.mem_singleton.mp hs]
    exact h
  | .bi _ a b, h, s, hs => by
    simp only [Dw.kids, List.mem_cons, List.not_mem_nil, or_false] at hs
    rcases hs with rfl | rfl
    · exact h.1
    · exact h.2
  | .pick c a b, h, s, hs => by
    simp only [Dw.kids, List.mem_cons, List.not_mem_nil, or_false] at hs
    rcases hs with rfl | rfl | rfl
    · exact h.1
    · exact h.2.1
    · exact h.2.2
  | .part a _ _, h, s, hs => by
    rw [List.mem_singleton.mp hs]
    exact h.1
  | .is _, _, s, hs => by cases hs
  | .of _, _, s, hs => by cases hs
theorem sx_nsg {l : List Nat} (h : Sx l) : ∀ c ∈ l, c ∈ nsg := fun c hc => by
  have := h c hc
  have key : ∀ c ∈ [48, 49, 120], c ∈ nsg := by decide
  exact key c this
theorem nm_nsg {x : Str} (h : NmOk x) : ∀ c ∈ x.cps.toList, c ∈ nsg := by
  obtain ⟨c, l, rfl, h1, h2, _⟩ := h
  intro d hd
  have hd' : d ∈ c :: l := by simpa [Tx] using hd
  rcases List.mem_cons.mp hd' with rfl | h3
  · exact List.mem_append_left _ h1
  · exact h2 d h3
theorem word_nsg : ∀ p ∈ argN, ∀ c ∈ p.1.cps.toList, c ∈ nsg := by decide +kernel
theorem word_len : ∀ p ∈ argN, p.1.cps.toList.length ≤ 4 := by decide +kernel
/-- lengths -/
theorem bod_len : ∀ (f : Bool) (xs : List (List Nat)), (bod f xs).length ≤ (xs.map fun x => x.length + 2).sum
  | _, [] => Nat.le_refl _
  | f, x :: xs => by
    have := bod_len false xs
    rw [bod, List.length_append, List.length_append, List.map_cons, List.sum_cons]
    have h2 : (if f then [40] else [44, 32] : List Nat).length ≤ 2 := by cases f <;> decide
    omega
theorem ends_sum (t : Tm) : ((endsT t).map fun x => x.length + 2).sum ≤ 6 := by cases t <;> simp [endsT]
theorem tx_len : ∀ {t : Tm}, TmTx t → (txT t).length ≤ 20 * wt t
  | .is l, h => by
    have := h.2.2
    show l.length + 1 ≤ 20
    omega
  | .of x, h => by
    obtain ⟨c, l, rfl, h1, h2, h3, _⟩ := h
    show (Tx (c :: l)).cps.toList.length ≤ 20
    simp [Tx]
    omega
  | .un w a, h => by
    have i := tx_len (t := a) h
    have hw := word_len _ (kids_arg (t := .un w a) rfl)
    have hb := bod_len true [txT a]
    simp only [txT, List.length_append, List.length_singleton, wt]
    simp at hb
    have hw2 : w.s.cps.toList.length ≤ 4 := hw
    omega
  | .bi w a b, h => by
    have i := tx_len (t := a) h.1
    have j := tx_len (t := b) h.2
    have hw := word_len _ (kids_arg (t := .bi w a b) rfl)
    have hb := bod_len true [txT a, txT b]
    simp only [txT, List.length_append, List.length_singleton, wt]
    simp at hb
    have hw2 : w.s.cps.toList.length ≤ 4 := hw
    omega
  | .pick c a b, h => by
    have k := tx_len (t := c) h.1
    have i := tx_len (t := a) h.2.1
    have j := tx_len (t := b) h.2.2
    have hw := word_len _ (kids_arg (t := .pick c a b) rfl)
    have hb := bod_len true [txT c, txT a, txT b]
    simp only [txT, List.length_append, List.length_singleton, wt]
    simp at hb
    have hw2 : (Str.ofString "pick").cps.toList.length ≤ 4 := hw
    omega
  | .part a hi lo, h => by
    have i := tx_len (t := a) h.1
    have hw := word_len _ (kids_arg (t := .part a hi lo) rfl)
    have hb := bod_len true [txT a, [48 + hi], [48 + lo]]
    simp only [txT, List.length_append, List.length_singleton, wt]
    simp at hb
    have hw2 : (Str.ofString "part").cps.toList.length ≤ 4 := hw
    omega
/-! ### join -/
def joinC : List (List Nat) → List Nat
  | [] => []
  | [x] => x
  | x :: y :: r => x ++ [44, 32] ++ joinC (y :: r)
theorem bod_join : ∀ (x : List Nat) (xs : List (List Nat)) (f : Bool), bod f (x :: xs) = (if f then [40] else [44, 32]) ++ joinC (x :: xs)
  | x, [], f => by simp [bod, joinC]
  | x, y :: xs, f => by
    have ih := bod_join y xs false
    rw [bod, ih, joinC]
    simp
theorem s_cb : Str.ofString ", " = Tx [44, 32] := by decide +kernel
theorem s_cb2 : Str.ofString "(" = Tx [40] := by decide +kernel
theorem s_cb3 : Str.ofString ")" = Tx [41] := by decide +kernel
theorem s_cb4 : Str.ofString "'" = Tx [39] := by decide +kernel
theorem join_c : ∀ xs : List (List Nat), Str.join (Tx [44, 32]) (xs.map Tx) = Tx (joinC xs)
  | [] => by decide +kernel
  | [x] => rfl
  | x :: y :: r => by
    have ih := join_c (y :: r)
    show Tx x ++ Tx [44, 32] ++ Str.join (Tx [44, 32]) ((y :: r).map Tx) = Tx (x ++ [44, 32] ++ joinC (y :: r))
    rw [ih, Tx_cat, Tx_cat]
/-! ### what stands at a place -/
def runT (T : List Nat) (i : Nat) : List Nat := (T.drop i).takeWhile fun c => decide (c ∈ nsg)
def Stop (post : List Nat) : Prop := ∀ c, post.head? = some c → c ∉ nsg
theorem run_is {pre w post : List Nat} (hw : ∀ c ∈ w, c ∈ nsg) (hp : Stop post) : runT (pre ++ w ++ post) pre.length = w := by
  unfold runT
  rw [List.append_assoc, List.drop_left]
  induction w with
  | nil =>
    cases post with
    | nil => rfl
    | cons c l =>
      have := hp c rfl
      simp [this]
  | cons c w ih =>
    have hc := hw c (List.mem_cons_self ..)
    rw [List.cons_append, List.takeWhile_cons, if_pos (decide_eq_true hc)]
    rw [ih fun d hd => hw d (List.mem_cons_of_mem _ hd)]
theorem stop_41 (post : List Nat) : Stop (41 :: post) := fun c h => by
  cases h
  decide
theorem stop_44 (post : List Nat) : Stop (44 :: post) := fun c h => by
  cases h
  decide
theorem stop_40 (post : List Nat) : Stop (40 :: post) := fun c h => by
  cases h
  decide
theorem stop_bod {xs : List (List Nat)} {f : Bool} {post : List Nat} : Stop (bod f xs ++ 41 :: post) := by
  cases xs with
  | nil => exact stop_41 post
  | cons x xs =>
    cases f with
    | true => exact stop_40 _
    | false => exact stop_44 _
/-! ### the promises of the program's term texts -/
def spTT (n : Nat) : Sp := fun vs H Q _ => ∃ (v : V) (t : Tm), vs = [v] ∧ TmAt H t v ∧ dep t ≤ n ∧ wt t ≤ 100 ∧ TmTx t ∧ ∀ H', Ex H H' → Q (.str (Tx (txT t))) H'
theorem spv_tt {n : Nat} {v : V} {t : Tm} {H : Hp} (h1 : TmAt H t v) (h2 : dep t ≤ n) (h3 : wt t ≤ 100) (h4 : TmTx t) : SpV (spTT n) [v] H (.str (Tx (txT t))) := fun H1 e Q q E => ⟨v, t, rfl, h1.ex e, h2, h3, h4, q⟩
def spRun : Sp := fun vs H Q _ => ∃ (T : List Nat) (i : Nat), vs = [.str (Tx T), .int (i : Int)] ∧ i ≤ T.length ∧ T.length ≤ 30000 ∧ ∀ H', Ex H H' → Q (.str (Tx (runT T i))) H'
def spBehind : Sp := fun vs H Q _ => ∃ (T m : List Nat) (i : Nat), vs = [.str (Tx T), .int (i : Int), .str (Tx m)] ∧ i ≤ T.length ∧ T.length ≤ 30000 ∧ (T.drop i).take m.length = m ∧ m.length ≤ 100 ∧ ∀ H', Ex H H' → Q (.int ((i + m.length : Nat) : Int)) H'
def spFig : Sp := fun vs H Q _ => ∃ (T : List Nat) (i k : Nat), vs = [.str (Tx T), .int (i : Int)] ∧ T.length ≤ 30000 ∧ T[i]? = some (48 + k) ∧ k ≤ 7 ∧ ∀ H', Ex H H' → Q (.int (k : Int)) H'
/-- a new pair of a term and the place behind it -/
def spTA (n : Nat) : Sp := fun vs H Q _ => ∃ (t : Tm) (pre post : List Nat) (deep : Nat), vs = [.str (Tx (pre ++ txT t ++ post)), .int (pre.length : Int), .int (deep : Int)] ∧ Stop post ∧ (pre ++ txT t ++ post).length ≤ 30000 ∧ dep t ≤ n ∧ deep + dep t ≤ 11 ∧ TmTx t ∧
  ∀ (r : Addr) (v : V) (H' : Hp), Ex H H' → H' r = some (.tup [v, .int ((pre.length + (txT t).length : Nat) : Int)]) → TmAt H' t v → Q (.ref r) H'
def spOA (n : Nat) : Sp := fun vs H Q _ => ∃ (t : Tm) (pre post : List Nat) (deep : Nat), vs = [.str (Tx (pre ++ txT t ++ post)), .int ((pre.length + (wordOf t).cps.toList.length : Nat) : Int), .str (wordOf t), .int (deep : Int)] ∧ leafy t = false ∧ (pre ++ txT t ++ post).length ≤ 30000 ∧ dep t ≤ n ∧ deep + dep t ≤ 11 ∧ TmTx t ∧
  ∀ (r : Addr) (v : V) (H' : Hp), Ex H H' → H' r = some (.tup [v, .int ((pre.length + (txT t).length : Nat) : Int)]) → TmAt H' t v → Q (.ref r) H'
end Dw

set_option Elab.async false
set_option linter.all false
set_option maxRecDepth 100000
set_option maxHeartbeats 2000000
namespace Dw
open PySem L2 Evl
theorem take_run {T : List Nat} {i e : Nat} (hi : i ≤ e) (he : e ≤ T.length) (h1 : ∀ c ∈ (T.drop i).take (e - i), c ∈ nsg) (h2 : ∀ c, T[e]? = some c → c ∉ nsg) : (T.drop i).take (e - i) = runT T i := by
  have e1 := run_is (pre := T.take i) (w := (T.drop i).take (e - i)) (post := T.drop e) h1 (fun c hc => h2 c (by rw [← hc, List.head?_drop]))
  have e2 : T.take i ++ (T.drop i).take (e - i) ++ T.drop e = T := by
    have : T.take i ++ (T.drop i).take (e - i) = T.take e := by
      rw [show e = i + (e - i) by omega, List.take_add]
      congr 2
      omega
    rw [this, List.take_append_drop]
  rw [e2] at e1
  rw [← e1, List.length_take, Nat.min_eq_left (by omega)]
theorem int_fig : ∀ k : Fin 8, PySem.intText? (Tx [48 + k.val]) = some (k.val : Int) := by decide +kernel
theorem in_fig : ∀ k : Fin 8, (48 + k.val) ∈ (Str.ofString "01234567").cps.toList := by decide +kernel
/-- arguments_of, of every term's tuple -/
def spArgs1 : Sp := fun vs H Q E => spArgs vs H Q E ∨ ∃ (a : Addr) (w : Str) (l : V), vs = [.ref a] ∧ (w = Str.ofString "is" ∨ w = Str.ofString "of") ∧ H a = some (.tup [.str w, l]) ∧ ∀ (g : Addr) (H' : Hp), H g = none → Ex H H' → H' g = some (.lst []) → Q (.ref g) H'
theorem spl_args1 {a : Addr} {w : Str} {us es : List V} {H : Hp} (h : H a = some (.tup (.str w :: (us ++ es)))) (hw : (w, (us.length : Int)) ∈ argN) (hz : us.length + es.length ≤ 100) : SpL spArgs1 [.ref a] H us := fun H1 e Q q E => .inl ⟨a, w, us, es, rfl, e _ _ h, hw, hz, q⟩
theorem spl_argsL {a : Addr} {w : Str} {l : V} {H : Hp} (hw : w = Str.ofString "is" ∨ w = Str.ofString "of") (h : H a = some (.tup [.str w, l])) : SpL spArgs1 [.ref a] H [] := fun H1 e Q q E => .inr ⟨a, w, l, rfl, hw, e _ _ h, q⟩
section
variable {K : PySem.W.Frag} {σ : L2.St} {H H' : Hp} {ta tb te : TE} {D : Ends} {tz : TS}
theorem ev_joinC {xs : List (List Nat)} {a : Addr} (h : Ev te σ H (.ref a)) (hx : SqL K H a ((xs.map Tx).map V.str)) (hz : (xs.map fun x => x.length + 2).sum ≤ 40000) : Ev (tM1 (rJoinS K) (tC (.str (Str.ofString ", "))) te) σ H (.str (Tx (joinC xs))) := fun H1 e Q q =>
  ⟨⟨_, rfl⟩, h H1 e _ fun H2 e2 => ⟨Str.ofString ", ", a, xs.map Tx, rfl, rfl, Or.inl (ex_l (e.trans e2) hx), by
    have e1 : (Str.ofString ", ").length = 2 := by decide +kernel
    rw [e1, List.map_map, List.length_map]
    have : ∀ xs : List (List Nat), (xs.map ((·.length) ∘ Tx)).sum + xs.length * 2 = (xs.map fun x => x.length + 2).sum := by
      intro xs
      induction xs with
      | nil => rfl
      | cons x xs ih =>
        rw [List.map_cons, List.sum_cons, List.map_cons, List.sum_cons, ← ih, List.length_cons]
        show (Tx x).length + _ + _ = _
        rw [Tx_len]
        omega
    rw [this]
    omega, by
    have := q H2 e2
    rw [s_cb]
    rw [show Txt.join (Tx [44, 32]) (xs.map Tx) = Tx (joinC xs) from (TL.join_eq _ _).trans (join_c xs)]
    exact this⟩⟩
end
/-- whether word is in the dict of operators, K's own -/
def NoArg (K : PySem.W.Frag) (d : Addr) : Prop := ∀ z : Str, z ∉ argN.map (·.1) → PySem.W.nsIn K d z = some none
theorem noArg_of {K : PySem.W.Frag} {d : Addr} {es : Array DictEntry} {n : Nat} (h : K.lookup d = some ⟨.type "dict", none, .dict es n, #[]⟩) (hk : (es.toList.all fun e => !e.refKey && (argN.map (·.1)).any fun x => e.key.isStr x) = true) : NoArg K d := fun z hz => by
  unfold PySem.W.nsIn
  rw [h]
  have hall := List.all_eq_true.mp hk
  have hf : es.toList.find? (·.key.isStr z) = none := List.find?_eq_none.mpr fun e he hs => by
    have h1 := hall e he
    rw [Bool.and_eq_true] at h1
    obtain ⟨x, hx, hx2⟩ := List.any_eq_true.mp h1.2
    have : x = z := by
      unfold Value.isStr at hs hx2
      cases hkk : e.key <;> rw [hkk] at hs hx2 <;> simp_all
    exact hz (this ▸ hx)
  have hr : es.toList.any (·.refKey) = false := List.any_eq_false.mpr fun e he hs => by
    have h1 := hall e he
    rw [Bool.and_eq_true] at h1
    rw [hs] at h1
    simp at h1
  simp only [hf, hr]
  rfl
end Dw
namespace Dw
open PySem L2 Evl
def rInKD (K : PySem.W.Frag) (d : Addr) : R2 := fun x y H Q => ∃ (z : Str) (r : Option Value), x = .str z ∧ y = .ref d ∧ PySem.W.nsIn K d z = some r ∧ Q (.bl r.isSome) H
theorem op_inKD {X : Cx} {d : Addr} (h : ∃ es n, KDict X.K X.w d es n) : OpR X (compareOp .In) (rInKD X.K d) := by
  obtain ⟨es, n, D⟩ := h
  exact op_in_kd D
theorem rv_inKD {K : PySem.W.Frag} {w : World} {d : Addr} {z : Str} {v : V} {H : Hp} (h : KDct K w d z v) : RV (rInKD K d) (.str z) (.ref d) H (.bl true) := fun H1 _ Q q => by
  obtain ⟨es, n, u, _, _, h3, _⟩ := h
  exact ⟨z, some u, rfl, rfl, h3, q H1 (Ex.refl _)⟩
theorem rv_notKD {K : PySem.W.Frag} {d : Addr} {z : Str} {H : Hp} (h : NoArg K d) (hz : z ∉ argN.map (·.1)) : RV (rInKD K d) (.str z) (.ref d) H (.bl false) := fun H1 _ Q q => ⟨z, none, rfl, rfl, h z hz, q H1 (Ex.refl _)⟩
theorem nm_notArg {x : Str} (h : NmOk x) : x ∉ argN.map (·.1) := by
  obtain ⟨c, l, rfl, _, _, _, hw⟩ := h
  have sub : ∀ y ∈ argN.map (·.1), y ∈ words17 := by decide +kernel
  exact fun z => hw (sub _ z)
theorem TmTx.part {t : Tm} (h : TmTx t) : ∀ x ∈ endsT t, ∃ k, x = [48 + k] ∧ k ≤ 7 := by
  cases t with
  | part a hi lo =>
    intro x hx
    obtain ⟨_, h1, h2⟩ := h
    simp only [endsT, List.mem_cons, List.not_mem_nil, or_false] at hx
    rcases hx with rfl | rfl
    · exact ⟨hi, rfl, h2⟩
    · exact ⟨lo, rfl, by omega⟩
  | _ => intro x hx; cases hx
end Dw
namespace Dw
open PySem L2 Evl
theorem wt_kids : ∀ {t s : Tm}, s ∈ kids t → wt s < wt t
  | .is _, s, hs => by cases hs
  | .of _, s, hs => by cases hs
  | .un _ a, s, hs => by rw [List.mem_singleton.mp hs]; exact Nat.lt_succ_self _
  | .bi _ a b, s, hs => by
    simp only [Dw.kids, List.mem_cons, List.not_mem_nil, or_false] at hs
    simp only [wt]
    rcases hs with rfl | rfl <;> omega
  | .pick c a b, s, hs => by
    simp only [Dw.kids, List.mem_cons, List.not_mem_nil, or_false] at hs
    simp only [wt]
    rcases hs with rfl | rfl | rfl <;> omega
  | .part a _ _, s, hs => by rw [List.mem_singleton.mp hs]; exact Nat.lt_succ_self _
theorem parts_sum {t : Tm} (hx : TmTx t) (hl : leafy t = false) (hw : wt t ≤ 100) : (((kids t).map txT ++ endsT t).map fun x => x.length + 2).sum ≤ 40000 := by
  have key : ∀ s ∈ kids t, (txT s).length ≤ 2000 := fun s hs => by
    have h1 := tx_len (hx.kids s hs)
    have h2 := wt_kids hs
    omega
  cases t with
  | is l => cases hl
  | of x => cases hl
  | un w a =>
    have := key a (by simp [kids])
    simp [kids, endsT]
    omega
  | bi w a b =>
    have := key a (by simp [kids])
    have := key b (by simp [kids])
    simp [kids, endsT]
    omega
  | pick c a b =>
    have := key c (by simp [kids])
    have := key a (by simp [kids])
    have := key b (by simp [kids])
    simp [kids, endsT]
    omega
  | part a hi lo =>
    have := key a (by simp [kids])
    simp [kids, endsT]
    omega
theorem no_ends {t : Tm} (h : wordOf t ≠ Str.ofString "part") : endsT t = [] := by
  cases t with
  | part a hi lo => exact absurd rfl h
  | _ => rfl
section
variable {K : PySem.W.Frag} {σ : L2.St} {H H' : Hp} {ta tb te : TE} {t : TT} {tu tz : TS} {D : Ends}
theorem el_catV2 {g : Addr} {xs ys : List V} (ha : Ev ta σ H (.ref g)) (hg : H g = some (.lst xs)) (hb : EvL tb σ H ys) (hz : xs.length + ys.length ≤ 100000) : EvL (tOp rCat ta tb) σ H (xs ++ ys) := fun H1 e Q q =>
  ha H1 e _ fun H2 e2 => hb H2 (e.trans e2) _ fun r H3 nr e3 h3 => ⟨g, r, xs, ys, rfl, rfl, e3 _ _ (e2 _ _ (e _ _ hg)), h3, sz_of hz, fun s ns => q s _ (fresh_back (e2.trans e3) ns) ((e2.trans e3).trans (Ex.new ns)) upd_same⟩
theorem str_fig : ∀ k : Fin 8, Str.ofString (toString (k.val : Int)) = Tx [48 + k.val] := by decide +kernel
theorem ev_strF {k : Nat} (h : Ev te σ H (.int (k : Int))) (hk : k ≤ 7) : Ev (tCB (fun xs H Q => ∃ i, xs = [.int i] ∧ i.natAbs.log2 < 1920 ∧ Q (.str (toString i)) H) (tCons te tNil)) σ H (.str (Tx [48 + k])) := fun H1 e Q q =>
  h H1 e _ fun H2 e2 => ⟨(k : Int), rfl, by
    rw [Int.natAbs_natCast]
    have : k.log2 ≤ k := Nat.log2_le_self k
    omega, by
    have e3 := str_fig ⟨k, by omega⟩
    have q3 := q H2 e2
    rw [← e3] at q3
    exact q3⟩
end
end Dw

set_option Elab.async false
set_option linter.all false
set_option maxRecDepth 100000
set_option maxHeartbeats 2000000
namespace Dw
open PySem L2 Evl
theorem TmAt.close {H : Hp} : ∀ {t : Tm} {a : Addr} {us : List V}, leafy t = false → H a = some (.tup (.str (wordOf t) :: (us ++ ends t))) → All2 (TmAt H) (kids t) us → TmAt H t (.ref a)
  | .un w s, a, us, _, h, hk => by
    cases hk with
    | cons a1 a2 =>
      cases a2
      exact ⟨a, _, rfl, h, a1⟩
  | .bi w s t, a, us, _, h, hk => by
    cases hk with
    | cons a1 a2 =>
      cases a2 with
      | cons a3 a4 =>
        cases a4
        exact ⟨a, _, _, rfl, h, a1, a3⟩
  | .pick c s t, a, us, _, h, hk => by
    cases hk with
    | cons a1 a2 =>
      cases a2 with
      | cons a3 a4 =>
        cases a4 with
        | cons a5 a6 =>
          cases a6
          exact ⟨a, _, _, _, rfl, h, a1, a3, a5⟩
  | .part s hi lo, a, us, _, h, hk => by
    cases hk with
    | cons a1 a2 =>
      cases a2
      exact ⟨a, _, rfl, h, a1⟩
  | .is _, _, _, h, _, _ => by cases h
  | .of _, _, _, h, _, _ => by cases h
theorem All2.snoc {α β : Type} {R : α → β → Prop} {a : α} {b : β} : ∀ {as : List α} {bs : List β}, All2 R as bs → R a b → All2 R (as ++ [a]) (bs ++ [b])
  | _, _, .nil, h => .cons h .nil
  | _, _, .cons x y, h => .cons x (y.snoc h)
theorem All2.imp {α β : Type} {R S : α → β → Prop} (f : ∀ a b, R a b → S a b) : ∀ {as : List α} {bs : List β}, All2 R as bs → All2 S as bs
  | _, _, .nil => .nil
  | _, _, .cons x y => .cons (f _ _ x) (y.imp f)
/-- a new pair of a term and a place -/
def EvTA (te : TE) (σ : L2.St) (H : Hp) (t : Tm) (e : Nat) : Prop := ∀ H1, Ex H H1 → ∀ Q : VK, (∀ r v H2, Ex H1 H2 → H2 r = some (.tup [v, .int (e : Int)]) → TmAt H2 t v → Q (.ref r) H2) → te σ H1 Q
section
variable {K : PySem.W.Frag} {σ : L2.St} {H H' : Hp} {ta tb tc td te : TE} {tu tz : TS} {D : Ends} {T m pre post : List Nat} {t : Tm} {E : XK} {n i deep : Nat}
theorem ev_behind (ha : Ev ta σ H (.str (Tx T))) (hb : Ev tb σ H (.int (i : Int))) (hc : Ev tc σ H (.str (Tx m))) (hi : i ≤ T.length) (hz : T.length ≤ 30000) (hm : (T.drop i).take m.length = m) (hml : m.length ≤ 100) : Ev (tCall spBehind [] E (tCons ta (tCons tb (tCons tc tNil)))) σ H (.int ((i + m.length : Nat) : Int)) :=
  ev_call (ea_cons ha (ea_cons hb (ea_cons hc ea_nil))) fun H1 e Q q E1 => ⟨T, m, i, rfl, hi, hz, hm, hml, q⟩
theorem ev_run (ha : Ev ta σ H (.str (Tx T))) (hb : Ev tb σ H (.int (i : Int))) (hi : i ≤ T.length) (hz : T.length ≤ 30000) : Ev (tCall spRun [] E (tCons ta (tCons tb tNil))) σ H (.str (Tx (runT T i))) :=
  ev_call (ea_cons ha (ea_cons hb ea_nil)) fun H1 e Q q E1 => ⟨T, i, rfl, hi, hz, q⟩
theorem ev_fig {k : Nat} (ha : Ev ta σ H (.str (Tx T))) (hb : Ev tb σ H (.int (i : Int))) (hz : T.length ≤ 30000) (hc : T[i]? = some (48 + k)) (hk : k ≤ 7) : Ev (tCall spFig [] E (tCons ta (tCons tb tNil))) σ H (.int (k : Int)) :=
  ev_call (ea_cons ha (ea_cons hb ea_nil)) fun H1 e Q q E1 => ⟨T, i, k, rfl, hz, hc, hk, q⟩
theorem ta_call (ha : Ev ta σ H (.str (Tx T))) (hb : Ev tb σ H (.int (i : Int))) (hc : Ev tc σ H (.int (deep : Int))) (hT : T = pre ++ txT t ++ post) (hi : i = pre.length) (hs : Stop post) (hz : T.length ≤ 30000) (hd : dep t ≤ n) (hdp : deep + dep t ≤ 11) (hx : TmTx t) :
    EvTA (tCall (spTA n) [] E (tCons ta (tCons tb (tCons tc tNil)))) σ H t (pre.length + (txT t).length) := fun H1 e Q q =>
  ha H1 e _ fun H2 e2 => hb H2 (e.trans e2) _ fun H3 e3 => hc H3 ((e.trans e2).trans e3) _ fun H4 e4 => ⟨t, pre, post, deep, by rw [hT, hi]; rfl, hs, by rw [← hT]; exact hz, hd, hdp, hx, fun r v H5 e5 h5 hv => q r v H5 ((e2.trans e3).trans (e4.trans e5)) h5 hv⟩
theorem oa_call (ha : Ev ta σ H (.str (Tx T))) (hb : Ev tb σ H (.int (i : Int))) (hw : Ev td σ H (.str (wordOf t))) (hc : Ev tc σ H (.int (deep : Int))) (hT : T = pre ++ txT t ++ post) (hi : i = pre.length + (wordOf t).cps.toList.length) (hl : leafy t = false) (hz : T.length ≤ 30000) (hd : dep t ≤ n) (hdp : deep + dep t ≤ 11) (hx : TmTx t) :
    EvTA (tCall (spOA n) [] E (tCons ta (tCons tb (tCons td (tCons tc tNil))))) σ H t (pre.length + (txT t).length) := fun H1 e Q q =>
  ha H1 e _ fun H2 e2 => hb H2 (e.trans e2) _ fun H3 e3 => hw H3 ((e.trans e2).trans e3) _ fun H4 e4 => hc H4 (((e.trans e2).trans e3).trans e4) _ fun H5 e5 => ⟨t, pre, post, deep, by rw [hT, hi]; rfl, hl, by rw [← hT]; exact hz, hd, hdp, hx, fun r v H6 e6 h6 hv => q r v H6 ((e2.trans e3).trans ((e4.trans e5).trans e6)) h6 hv⟩
theorem q_asgTA {j1 j2 e : Nat} (h : EvTA te σ H t e) (kk : ∀ v H1, Ex H H1 → TmAt H1 t v → tz D ((σ.set j1 (some v)).set j2 (some (.int (e : Int)))) H1) : tSeq (tAsg te (gTup K 2 (gCons (gName j1) (gCons (gName j2) gNil)))) tz D σ H :=
  h H (Ex.refl _) _ fun r v H1 e1 hr hv => ⟨r, _, rfl, st_of hr, rfl, _, _, rfl, _, _, rfl, rfl, kk v H1 e1 hv⟩
theorem s_retTA {e : Nat} (h : EvTA te σ H t e) (kk : ∀ r v H1, Ex H H1 → H1 r = some (.tup [v, .int (e : Int)]) → TmAt H1 t v → D.rt (.ref r) H1) : tRet te D σ H := h H (Ex.refl _) _ fun r v H1 e1 hr hv => kk r v H1 e1 hr hv
/-- tuple(list), a place -/
theorem ta_tup {g : Addr} {us : List V} {e : Nat} (ha : Ev ta σ H (.ref g)) (hl : leafy t = false) (hg : H g = some (.lst (.str (wordOf t) :: (us ++ ends t)))) (hk : All2 (TmAt H) (kids t) us) (hb : ∀ H1, Ex H H1 → Ev tb σ H1 (.int (e : Int))) :
    EvTA (tTup (tCons (tCB (fun xs H Q => ∃ p ys, xs = [.ref p] ∧ ((SqL K H p ys ∧ ∀ l, H l = none → Q (.ref l) (L2.upd H l (.tup ys))) ∨ (SqT K H p ys ∧ Q (.ref p) H))) (tCons ta tNil)) (tCons tb tNil))) σ H t e := fun H1 e1 Q q =>
  ha H1 e1 _ fun H2 e2 => ⟨g, _, rfl, .inl ⟨sq_of (e2 _ _ (e1 _ _ hg)), fun l nl => by
    have f := Ex.new (o := .tup (.str (wordOf t) :: (us ++ ends t))) nl
    have x3 := (e1.trans e2).trans f
    refine hb _ x3 _ (Ex.refl _) _ fun H4 e4 => ⟨by show 2 ≤ sizeLine; decide, fun r nr => ?_⟩
    have f2 := Ex.new (o := .tup [.ref l, .int (e : Int)]) nr
    refine q r (.ref l) _ ((e2.trans f).trans (e4.trans f2)) upd_same ?_
    exact TmAt.close hl (f2 _ _ (e4 _ _ upd_same)) (hk.imp fun s u hs => hs.ex (x3.trans (e4.trans f2)))⟩⟩
/-- (word, value), a place: a leaf -/
theorem ta_leaf {e : Nat} {w : Str} {l : V} (hw : Ev ta σ H (.str w)) (hv : Ev tb σ H l) (hc : Ev tc σ H (.int (e : Int))) (ht : ∀ (H1 : Hp) (a : Addr), H1 a = some (.tup [.str w, l]) → TmAt H1 t (.ref a)) :
    EvTA (tTup (tCons (tTup (tCons ta (tCons tb tNil))) (tCons tc tNil))) σ H t e := fun H1 e1 Q q =>
  hw H1 e1 _ fun H2 e2 => hv H2 (e1.trans e2) _ fun H3 e3 => ⟨by show 2 ≤ sizeLine; decide, fun a na => by
    have f := Ex.new (o := .tup [.str w, l]) na
    refine hc _ (((e1.trans e2).trans e3).trans f) _ fun H4 e4 => ⟨by show 2 ≤ sizeLine; decide, fun r nr => ?_⟩
    have f2 := Ex.new (o := .tup [.ref a, .int (e : Int)]) nr
    exact q r (.ref a) _ ((e2.trans e3).trans (f.trans (e4.trans f2))) upd_same (ht _ _ (f2 _ _ (e4 _ _ upd_same)))⟩
theorem q_ifN2 {t : TT} {b : Bool} (h : EvT t σ H b) (Pv : L2.St → Hp → Prop) (h1 : b = true → ∀ H1, Ex H H1 → ∀ N : L2.St → Hp → Prop, (∀ σ' H', Pv σ' H' → N σ' H') → tu { D with nx := N } σ H1) (h2 : b = false → ∀ H1, Ex H H1 → Pv σ H1) (k : ∀ σ' H', Pv σ' H' → tz D σ' H') :
    tSeq (tIfS t tu tNext) tz D σ H := q_when h (fun hb H1 e => h1 hb H1 e _ k) (fun hb H1 e => k _ _ (h2 hb H1 e))
end
theorem word_first : ∀ {p : Str × Int}, p ∈ argN → ∃ c l, p.1.cps.toList = c :: l ∧ c ≠ 39 := by
  intro p hp
  have key : ∀ p ∈ argN, p.1.cps.toList ≠ [] ∧ p.1.cps.toList.headD 0 ≠ 39 := by decide +kernel
  obtain ⟨h1, h2⟩ := key p hp
  cases h : p.1.cps.toList with
  | nil => exact absurd h h1
  | cons c l =>
    rw [h] at h2
    exact ⟨c, l, rfl, h2⟩
/-! ### places in texts -/
theorem at_mid {P m R : List Nat} : ((P ++ (m ++ R)).drop P.length).take m.length = m := by
  rw [List.drop_left, List.take_left]
theorem bod_cons (f : Bool) (x : List Nat) (xs : List (List Nat)) : bod f (x :: xs) = (if f then [40] else [44, 32]) ++ x ++ bod false xs := rfl
end Dw

set_option Elab.async false
set_option linter.all false
set_option maxRecDepth 100000
set_option maxHeartbeats 2000000
namespace Dw
open PySem L2 Evl
section
variable {K : PySem.W.Frag} {σ : L2.St} {H : Hp} {ta tb te tl tl1 : TE} {t : TT}
/-- two fors, the first over a list that stands -/
theorem el_lc22V {xs : List V} {a : Addr} {j j1 : Nat} {vs vs1 : List Nat} (f : Nat → List V) (h : Ev tl σ H (.ref a)) (ha0 : H a = some (.lst xs)) (hz : ((List.range xs.length).flatMap f).length < 100000)
    (hw : ∀ x, wipe ((wipe σ vs).set j (some x)) vs = wipe σ vs) (hw1 : ∀ x y, wipe ((wipe ((wipe σ vs).set j (some x)) vs1).set j1 (some y)) vs1 = wipe ((wipe σ vs).set j (some x)) vs1)
    (hj : ∀ x y, ((wipe ((wipe σ vs).set j (some x)) vs1).set j1 (some y))[j1]? = some (some y))
    (hi1 : ∀ (i : Nat) (x : V) H1, Ex H H1 → xs[i]? = some x → EvL tl1 ((wipe σ vs).set j (some x)) H1 (f i)) :
    EvL (tLc2 (iList K tl) (gName j) tYes (iList K tl1) (gName j1) tYes (tVar j1) vs vs1) σ H ((List.range xs.length).flatMap f) := fun H0 e Q q => h H0 e _ fun H1 e1 => by
  have ha : H1 a = some (.lst xs) := e1 _ _ (e _ _ ha0)
  refine ⟨a, rfl, ⟨_, sq_of ha⟩, fun Dl hD => ?_⟩
  have pre : ∀ i, i ≤ xs.length → ((List.range i).flatMap f).length ≤ ((List.range xs.length).flatMap f).length := fun i hi => by
    obtain ⟨d, hd⟩ : ∃ d, xs.length = i + d := ⟨xs.length - i, by omega⟩
    rw [hd, List.range_add, List.flatMap_append, List.length_append]
    omega
  refine ⟨fun i m G => m = xs.length - i ∧ i ≤ xs.length ∧ Ex H1 G ∧ G Dl = some (.lst ((List.range i).flatMap f)), ⟨_, rfl, Nat.zero_le _, Ex.new hD, upd_same⟩, ?_⟩
  rintro i m G ⟨rfl, hi, x1, hG⟩
  have hxG : SqL K G a xs := sq_of (x1 _ _ ha)
  by_cases hlt : i < xs.length
  · refine .inr ⟨⟨_, _, hxG, List.getElem?_eq_getElem hlt⟩, fun G' => Ex H1 G' ∧ G' Dl = some (.lst ((List.range (i + 1)).flatMap f)), fun G' p => ⟨_, by omega, rfl, hlt, p.1, p.2⟩, fun x G' y => ?_⟩
    obtain ⟨rfl, hy⟩ := y
    have hx := hy _ hxG
    refine ⟨hw _, hi1 i x _ ((e.trans e1).trans x1) hx _ (Ex.refl _) _ fun b G2 nb e2 hb => ⟨b, rfl, ⟨_, sq_of hb⟩, ?_⟩⟩
    have hbD : b ≠ Dl := fun z => by
      rw [z, hG] at nb
      cases nb
    have tk : (List.range (i + 1)).flatMap f = (List.range i).flatMap f ++ f i := by
      rw [List.range_succ, List.flatMap_append]
      simp
    have pr := pre (i + 1) hlt
    rw [tk, List.length_append] at pr
    refine ⟨fun k n G3 => n = (f i).length - k ∧ k ≤ (f i).length ∧ Ex H1 G3 ∧ G3 b = some (.lst (f i)) ∧ G3 Dl = some (.lst ((List.range i).flatMap f ++ (f i).take k)), ⟨_, rfl, Nat.zero_le _, x1.trans e2, hb, by rw [e2 _ _ hG]; simp⟩, ?_⟩
    rintro k n G3 ⟨rfl, hk, x3, hb3, hG3⟩
    by_cases hkt : k < (f i).length
    · refine .inr ⟨⟨_, _, sq_of hb3, List.getElem?_eq_getElem hkt⟩, fun G4 => Ex H1 G4 ∧ G4 b = some (.lst (f i)) ∧ G4 Dl = some (.lst ((List.range i).flatMap f ++ (f i).take (k + 1))), fun G4 p => ⟨_, by omega, rfl, hkt, p.1, p.2.1, p.2.2⟩, fun y G4 hy => ?_⟩
      obtain ⟨rfl, hy⟩ := hy
      have hy2 := hy _ (sq_of hb3)
      refine ⟨hw1 _ _, ⟨y, hj _ _, _, hG3, sz_lt ?_, Ex.mut x3 hD, ?_, ?_⟩⟩
      · rw [List.length_append, List.length_take]
        omega
      · rw [upd_ne hbD]
        exact hb3
      · rw [upd_same, List.take_add_one, hy2, List.append_assoc]
        rfl
    · have ek : k = (f i).length := by omega
      subst ek
      refine .inl ⟨⟨_, sq_of hb3, Nat.le_refl _⟩, x3, ?_⟩
      rw [tk, hG3, List.take_length]
  · have ei : i = xs.length := by omega
    subst ei
    exact .inl ⟨⟨_, hxG, Nat.le_refl _⟩, q Dl G (fresh_back e1 hD) (e1.trans x1) hG⟩
end
/-! ### a <= b <= c < d -/
def tChain3 (r1 r2 r3 : R2) (ta tb tc td : TE) : TE := fun σ H Q => ta σ H fun x H1 => tb σ H1 fun y H2 => r1 x y H2 fun z H3 => ∃ k, z = .bl k ∧
  (if k = true then tc σ H3 fun u H4 => r2 y u H4 fun z2 H5 => ∃ k2, z2 = .bl k2 ∧ (if k2 = true then td σ H5 fun u2 H6 => r3 u u2 H6 Q else Q (.bl false) H5) else Q (.bl false) H3)
open PySem.Spec PyProof.Rows in
theorem pe_chain3 {X : Cx} {a b c d : Expr} {ta tb tc td : TE} {pos : Pos} {o1 o2 o3 : CmpOp} {r1 r2 r3 : R2} (h1 : OpR X (compareOp o1) r1) (h2 : OpR X (compareOp o2) r2) (h3 : OpR X (compareOp o3) r3) (ha : PE X a ta) (hb : PE X b tb) (hc : PE X c tc) (hd : PE X d td)
    (hm : lastMarks [o1, o2, o3] [b, c, d] = false := by with_unfolding_all rfl) : PE X (.Compare a [o1, o2, o3] [b, c, d] pos) (tChain3 r1 r2 r3 ta tb tc td) := by
  constructor
  intro pins s σ H Q I h
  refine Compare_chain (thn (ha.run pins s σ H _ I h) fun v s1 p1 => ?_) hm
  obtain ⟨x, H1, I1, rx, q1⟩ := p1
  refine chain_link (thn (hb.run pins s1 σ H1 _ I1 q1) fun u s2 p2 => ?_)
  obtain ⟨y, H2, I2, ry, q2⟩ := p2
  refine thn (h1 pins s2 σ H2 x y v u _ I2 rx ry q2) fun d1 s3 p3 => ?_
  obtain ⟨z, H3, I3, rz, k, e, q3⟩ := p3
  subst e
  cases rz
  refine wpAny_truthy_bool ?_
  cases k with
  | false => exact ite_ff ⟨.bl false, H3, I3, rfl, q3⟩
  | true =>
    refine ite_tt (chain_link (thn (hc.run pins s3 σ H3 _ I3 q3) fun u4 s4 p4 => ?_))
    obtain ⟨y4, H4, I4, r4, q4⟩ := p4
    refine thn (h2 pins s4 σ H4 y y4 u u4 _ I4 ry r4 q4) fun d2 s5 p5 => ?_
    obtain ⟨z2, H5, I5, rz2, k2, e2, q5⟩ := p5
    subst e2
    cases rz2
    refine wpAny_truthy_bool ?_
    cases k2 with
    | false => exact ite_ff ⟨.bl false, H5, I5, rfl, q5⟩
    | true => exact ite_tt (chain_last (thn (hd.run pins s5 σ H5 _ I5 q5) fun u6 s6 ⟨y6, H6, I6, r6, q6⟩ => h3 pins s6 σ H6 y4 y6 u4 u6 Q I6 r4 r6 q6))
theorem ev_chain3 {σ : L2.St} {H : Hp} {ta tb tc td : TE} {r1 r2 r3 : R2} {x y z u : V} (ha : Ev ta σ H x) (hb : Ev tb σ H y) (hc : Ev tc σ H z) (hd : Ev td σ H u) (h1 : RV r1 x y H (.bl true)) (h2 : RV r2 y z H (.bl true)) (h3 : RV r3 z u H (.bl true)) : Ev (tChain3 r1 r2 r3 ta tb tc td) σ H (.bl true) := fun H1 e Q q =>
  ha H1 e _ fun H2 e2 => hb H2 (e.trans e2) _ fun H3 e3 => h1 H3 ((e.trans e2).trans e3) _ fun H4 e4 => ⟨true, rfl, iteT (hc H4 (((e.trans e2).trans e3).trans e4) _ fun H5 e5 => h2 H5 ((((e.trans e2).trans e3).trans e4).trans e5) _ fun H6 e6 => ⟨true, rfl, iteT (hd H6 (((((e.trans e2).trans e3).trans e4).trans e5).trans e6) _ fun H7 e7 => h3 H7 ((((((e.trans e2).trans e3).trans e4).trans e5).trans e6).trans e7) Q fun H8 e8 => q H8 ((e2.trans e3).trans ((e4.trans e5).trans (e6.trans (e7.trans e8)))))⟩)⟩
/-! ### the promises of what judges a term, of one that is one -/
def spWhole1 : Sp := fun vs H Q _ => ∃ i : Int, vs = [.int i] ∧ ∀ H', Ex H H' → Q (.bl true) H'
def spPut1 : Sp := fun vs H Q _ => ∃ l : List Nat, vs = [.str (Tx l), .int 0] ∧ Sx l ∧ 1 ≤ l.length ∧ l.length ≤ 8 ∧ ∀ H', Ex H H' → Q (.bl true) H'
def spName1 : Sp := fun vs H Q _ => ∃ x : Str, vs = [.str x] ∧ NmOk x ∧ ∀ H', Ex H H' → Q (.bl true) H'
def spSpan1 : Sp := fun vs H Q _ => ∃ hi lo : Nat, vs = [.int (hi : Int), .int (lo : Int)] ∧ lo ≤ hi ∧ hi ≤ 7 ∧ ∀ H', Ex H H' → Q (.bl true) H'
def spShell1 : Sp := fun vs H Q _ => ∃ (v : V) (t : Tm), vs = [v] ∧ TmAt H t v ∧ TmTx t ∧ ∀ H', Ex H H' → Q (.bl true) H'
def spIsTerm1 : Sp := fun vs H Q _ => ∃ (v : V) (t : Tm), vs = [v] ∧ TmAt H t v ∧ TmTx t ∧ dep t ≤ 10 ∧ wt t ≤ 60 ∧ ∀ H', Ex H H' → Q (.bl true) H'
def spRead1 : Sp := fun vs H Q _ => ∃ t : Tm, vs = [.str (Tx (txT t))] ∧ TmTx t ∧ dep t ≤ 10 ∧ wt t ≤ 60 ∧ ∀ (v : V) (H' : Hp), Ex H H' → TmAt H' t v → Q v H'
/-! ### level by level -/
def lev (t : Tm) : Nat → List Tm
  | 0 => [t]
  | n + 1 => (lev t n).flatMap kids
def wts (ts : List Tm) : Nat := (ts.map wt).sum
theorem wt_open (t : Tm) : wt t = 1 + wts (kids t) := by
  cases t <;> simp [wt, wts, kids] <;> omega
theorem wts_flat : ∀ ts : List Tm, wts ts = ts.length + wts (ts.flatMap kids)
  | [] => rfl
  | t :: ts => by
    have ih := wts_flat ts
    have h := wt_open t
    unfold wts at ih h ⊢
    rw [List.map_cons, List.sum_cons, List.flatMap_cons, List.map_append, List.sum_append, List.length_cons]
    omega
theorem lev_dep {t : Tm} : ∀ (n : Nat), ∀ s ∈ lev t n, dep s + n ≤ dep t
  | 0, s, hs => by
    rw [List.mem_singleton.mp hs]
    exact Nat.le_refl _
  | n + 1, s, hs => by
    obtain ⟨u, hu, hs2⟩ := List.mem_flatMap.mp hs
    have h1 := lev_dep n u hu
    have h2 := dep_kids hs2
    omega
theorem lev_tx {t : Tm} (hx : TmTx t) : ∀ (n : Nat), ∀ s ∈ lev t n, TmTx s
  | 0, s, hs => by
    rw [List.mem_singleton.mp hs]
    exact hx
  | n + 1, s, hs => by
    obtain ⟨u, hu, hs2⟩ := List.mem_flatMap.mp hs
    exact (lev_tx hx n u hu).kids s hs2
end Dw
namespace Dw
open PySem L2 Evl
section
variable {K : PySem.W.Frag} {σ : L2.St} {H H' : Hp} {ta tb te tx : TE}
theorem ev_inStrsT {x : Str} {xs : List Str} {g : Addr} (ha : Ev ta σ H (.str x)) (hb : Ev tb σ H (.ref g)) (h : SqT K H g (xs.map V.str)) : Ev (tOp (rIn K false) ta tb) σ H (.bl (decide (x ∈ xs))) := by
  rw [← inV_strs]
  exact ev_op ha hb fun H1 e Q q => ⟨g, _, rfl, .inr (ex_t e h), rfl, flat_strs xs, q H1 (Ex.refl _)⟩
theorem ev_lenU1 {p : Addr} {xs : List V} (ha : Ev ta σ H (.ref p)) (h : H p = some (.tup xs)) : Ev (tCB (rLenS K) (tCons ta tNil)) σ H (.int (xs.length : Int)) := fun H1 e Q q => ha H1 e _ fun H2 e2 => ⟨p, xs, rfl, Or.inr (st_of (e2 _ _ (e _ _ h))), q H2 e2⟩
end
def words12 : List Str := ["not", "and", "or", "xor", "plus", "same", "less", "any", "all", "pick", "join", "part"]
def words5 : List Str := ["is", "of", "at", "filters", "later"]
theorem nm_12 {x : Str} (h : NmOk x) : x ∉ words12 ∧ x ∉ words5 := by
  obtain ⟨c, l, rfl, _, _, _, hw⟩ := h
  have s1 : ∀ y ∈ words12, y ∈ words17 := by decide +kernel
  have s2 : ∀ y ∈ words5, y ∈ words17 := by decide +kernel
  exact ⟨fun z => hw (s1 _ z), fun z => hw (s2 _ z)⟩
theorem e_nsg : (Str.ofString "abcdefghijklmnopqrstuvwxyz0123456789").cps.toList = nsg := by decide +kernel
theorem e_lets : (Str.ofString "abcdefghijklmnopqrstuvwxyz").cps.toList = lets := by decide +kernel
theorem sx_sgn : ∀ c ∈ [48, 49, 120], c ∈ sgn := by decide
end Dw
namespace Dw
open PySem L2 Evl
theorem rv_is {r : R2} {x y z z' : V} {H : Hp} (h : RV r x y H z) (e : z = z') : RV r x y H z' := e ▸ h
end Dw
namespace Dw
open PySem L2 Evl
theorem given_rep (n : Nat) (v : V) : given n (fun _ => true) (fun _ => v) = List.replicate n v := by
  have := given_all (List.replicate n ()) () (fun _ => v)
  rw [List.length_replicate, List.map_replicate] at this
  exact this
theorem All2.app2 {α β : Type} {R : α → β → Prop} : ∀ {as : List α} {bs : List β} {cs : List α} {ds : List β}, All2 R as bs → All2 R cs ds → All2 R (as ++ cs) (bs ++ ds)
  | _, _, _, _, .nil, h => h
  | _, _, _, _, .cons x y, h => .cons x (y.app2 h)
theorem All2.len2 {α β : Type} {R : α → β → Prop} {as : List α} {bs : List β} (h : All2 R as bs) : bs.length = as.length := h.len.symm
/-- the lists of arguments of a level's terms -/
theorem kid_lists {H : Hp} : ∀ {ts : List Tm} {vs : List V}, All2 (TmAt H) ts vs → ∃ F : Nat → List V, (∀ (j : Nat) (x : V), vs[j]? = some x → ∀ H1, Ex H H1 → SpL spArgs1 [x] H1 (F j)) ∧ All2 (TmAt H) (ts.flatMap kids) ((List.range vs.length).flatMap F) := by
  intro ts vs h
  induction h with
  | nil => exact ⟨fun _ => [], (fun j x hx => by cases hx), .nil⟩
  | @cons t v ts vs ht hr ih =>
    obtain ⟨F, h1, h2⟩ := ih
    obtain ⟨us, hus, hk⟩ : ∃ us, (∀ H1, Ex H H1 → SpL spArgs1 [v] H1 us) ∧ All2 (TmAt H) (kids t) us := by
      cases hlf : leafy t with
      | true =>
        cases t with
        | is l =>
          obtain ⟨a, rfl, ha⟩ := ht
          exact ⟨[], fun H1 e => spl_argsL (.inl rfl) (e _ _ ha), .nil⟩
        | of x =>
          obtain ⟨a, rfl, ha⟩ := ht
          exact ⟨[], fun H1 e => spl_argsL (.inr rfl) (e _ _ ha), .nil⟩
        | un w a => cases hlf
        | bi w a b => cases hlf
        | pick c a b => cases hlf
        | part a hi lo => cases hlf
      | false =>
        obtain ⟨a, us, rfl, ha, hk⟩ := ht.open hlf
        have harg := kids_arg hlf
        have hl := hk.len
        rw [hl] at harg
        have := kids_len t
        have := ends_len t
        exact ⟨us, fun H1 e => spl_args1 (e _ _ ha) harg (by omega), hk⟩
    refine ⟨fun j => match j with | 0 => us | j + 1 => F j, fun j x hx H1 e => ?_, ?_⟩
    · cases j with
      | zero =>
        cases hx
        exact hus H1 e
      | succ j => exact h1 j x hx H1 e
    · rw [List.flatMap_cons, List.length_cons, List.range_succ_eq_map, List.flatMap_cons, List.flatMap_map]
      exact hk.app2 h2
end Dw
namespace Dw
open PySem L2 Evl
theorem wd_tx {ws : List (Str × Nat)} (h : WsOk ws) (hn : ∀ p ∈ ws, NmOk p.1) : ∀ {t : Tm} {n : Nat}, Wd ws t n → TmTx t
  | .is l, n, hw => ⟨hw.1, by have := hw.2; omega, by have := hw.2; omega⟩
  | .of x, n, hw => hn (x, n) hw
  | .un w a, n, hw => by
    obtain ⟨m, hm⟩ := Wd.kids h hw a (by simp [kids])
    exact (wd_tx h hn hm : TmTx a)
  | .bi w a b, n, hw => by
    obtain ⟨m, hm⟩ := Wd.kids h hw a (by simp [kids])
    obtain ⟨m2, hm2⟩ := Wd.kids h hw b (by simp [kids])
    exact ⟨wd_tx h hn hm, wd_tx h hn hm2⟩
  | .pick c a b, n, hw => by
    obtain ⟨m, hm⟩ := Wd.kids h hw c (by simp [kids])
    obtain ⟨m2, hm2⟩ := Wd.kids h hw a (by simp [kids])
    obtain ⟨m3, hm3⟩ := Wd.kids h hw b (by simp [kids])
    exact ⟨wd_tx h hn hm, wd_tx h hn hm2, wd_tx h hn hm3⟩
  | .part a hi lo, n, hw => by
    obtain ⟨m, h1, h2, h3, _⟩ := hw
    have := (Wd.bound h h1).2
    exact ⟨wd_tx h hn h1, h2, by omega⟩
theorem TmAt.tup {H : Hp} : ∀ {t : Tm} {v : V}, TmAt H t v → ∃ a xs, v = .ref a ∧ H a = some (.tup xs)
  | .is l, _, ⟨a, h1, h2⟩ => ⟨a, _, h1, h2⟩
  | .of x, _, ⟨a, h1, h2⟩ => ⟨a, _, h1, h2⟩
  | .un w s, _, ⟨a, u, h1, h2, h3⟩ => ⟨a, _, h1, h2⟩
  | .bi w s t, _, ⟨a, u, u2, h1, h2, h3, h4⟩ => ⟨a, _, h1, h2⟩
  | .pick c s t, _, ⟨a, u, u1, u2, h1, h2, h3, h4, h5⟩ => ⟨a, _, h1, h2⟩
  | .part s hi lo, _, ⟨a, u, h1, h2, h3⟩ => ⟨a, _, h1, h2⟩
/-! ### a term shown -/
def sD (x : Str) : PyData := .str x
def tmD : Tm → PyData
  | .is l => .tuple [sD "is", sD (Tx l)]
  | .of x => .tuple [sD "of", sD x]
  | .un w a => .tuple [sD w.s, tmD a]
  | .bi w a b => .tuple [sD w.s, tmD a, tmD b]
  | .pick c a b => .tuple [sD "pick", tmD c, tmD a, tmD b]
  | .part a hi lo => .tuple [sD "part", tmD a, .int (hi : Int), .int (lo : Int)]
theorem TmAt.dp {K : PySem.W.Frag} {H : Hp} : ∀ {t : Tm} {v : V}, TmAt H t v → Dp K H v (tmD t)
  | .is l, _, ⟨a, rfl, h2⟩ => .tup (st_of h2) (.cons (.str _) (.cons (.str _) .nil))
  | .of x, _, ⟨a, rfl, h2⟩ => .tup (st_of h2) (.cons (.str _) (.cons (.str _) .nil))
  | .un w s, _, ⟨a, u, rfl, h2, h3⟩ => .tup (st_of h2) (.cons (.str _) (.cons (TmAt.dp h3) .nil))
  | .bi w s t, _, ⟨a, u, u2, rfl, h2, h3, h4⟩ => .tup (st_of h2) (.cons (.str _) (.cons (TmAt.dp h3) (.cons (TmAt.dp h4) .nil)))
  | .pick c s t, _, ⟨a, u, u1, u2, rfl, h2, h3, h4, h5⟩ => .tup (st_of h2) (.cons (.str _) (.cons (TmAt.dp h3) (.cons (TmAt.dp h4) (.cons (TmAt.dp h5) .nil))))
  | .part s hi lo, _, ⟨a, u, rfl, h2, h3⟩ => .tup (st_of h2) (.cons (.str _) (.cons (TmAt.dp h3) (.cons (.int _) (.cons (.int _) .nil))))
def lowW (x : Str) : Prop := ∀ c ∈ x.cps.toList, c < 16 ^ 8
theorem low_words : ∀ p ∈ argN, (∀ c ∈ p.1.cps.toList, c < 16 ^ 8) ∧ p.1.length ≤ 4 := by decide +kernel
theorem low_io : ((∀ c ∈ (Str.ofString "is").cps.toList, c < 16 ^ 8) ∧ (Str.ofString "is").length ≤ 4) ∧ ((∀ c ∈ (Str.ofString "of").cps.toList, c < 16 ^ 8) ∧ (Str.ofString "of").length ≤ 4) := by decide +kernel
theorem nsg_low : ∀ c ∈ nsg, c < 16 ^ 8 := by decide
theorem lg7 {k : Nat} (h : k ≤ 7) : ((k : Int)).natAbs.log2 < 1920 := by
  rw [Int.natAbs_natCast]
  have := Nat.log2_le_self k
  omega
theorem tm_shown : ∀ {t : Tm}, TmTx t → ShOk (tmD t) ∧ (tmD t).depth ≤ dep t ∧ shB (tmD t) ≤ 5000 * wt t
  | .is l, h => by
    obtain ⟨a1, a2⟩ := low_io.1
    refine ⟨⟨a1, fun c hc => nsg_low c (sx_nsg h.1 c (by simpa [Tx] using hc)), True.intro⟩, by simp [tmD, sD, PyData.depth, PyData.depthAll, dep], ?_⟩
    have := h.2.2
    have e : (Tx l).length = l.length := Tx_len l
    simp only [tmD, sD, shB, shBs, wt, e]
    omega
  | .of x, h => by
    obtain ⟨a1, a2⟩ := low_io.2
    have hl : x.length ≤ 8 := by
      obtain ⟨c, l, rfl, _, _, h7, _⟩ := h
      rw [Tx_len, List.length_cons]
      omega
    refine ⟨⟨a1, fun c hc => nsg_low c (nm_nsg h c hc), True.intro⟩, by simp [tmD, sD, PyData.depth, PyData.depthAll, dep], ?_⟩
    simp only [tmD, sD, shB, shBs, wt]
    omega
  | .un w a, h => by
    obtain ⟨i1, i2, i3⟩ := tm_shown (t := a) h
    obtain ⟨a1, a2⟩ := low_words _ (kids_arg (t := .un w a) rfl)
    have a2' : w.s.length ≤ 4 := a2
    refine ⟨⟨a1, i1, True.intro⟩, by simp only [tmD, sD, PyData.depth, PyData.depthAll, dep]; omega, ?_⟩
    simp only [tmD, sD, shB, shBs, wt]
    omega
  | .bi w a b, h => by
    obtain ⟨i1, i2, i3⟩ := tm_shown (t := a) h.1
    obtain ⟨j1, j2, j3⟩ := tm_shown (t := b) h.2
    obtain ⟨a1, a2⟩ := low_words _ (kids_arg (t := .bi w a b) rfl)
    have a2' : w.s.length ≤ 4 := a2
    refine ⟨⟨a1, i1, j1, True.intro⟩, by simp only [tmD, sD, PyData.depth, PyData.depthAll, dep]; omega, ?_⟩
    simp only [tmD, sD, shB, shBs, wt]
    omega
  | .pick c a b, h => by
    obtain ⟨k1, k2, k3⟩ := tm_shown (t := c) h.1
    obtain ⟨i1, i2, i3⟩ := tm_shown (t := a) h.2.1
    obtain ⟨j1, j2, j3⟩ := tm_shown (t := b) h.2.2
    obtain ⟨a1, a2⟩ := low_words _ (kids_arg (t := .pick c a b) rfl)
    have a2' : (Str.ofString "pick").length ≤ 4 := a2
    refine ⟨⟨a1, k1, i1, j1, True.intro⟩, by simp only [tmD, sD, PyData.depth, PyData.depthAll, dep]; omega, ?_⟩
    simp only [tmD, sD, shB, shBs, wt]
    omega
  | .part a hi lo, h => by
    obtain ⟨i1, i2, i3⟩ := tm_shown (t := a) h.1
    obtain ⟨a1, a2⟩ := low_words _ (kids_arg (t := .part a hi lo) rfl)
    have a2' : (Str.ofString "part").length ≤ 4 := a2
    have h1 := h.2.1
    have h2 := h.2.2
    refine ⟨⟨a1, i1, lg7 h2, lg7 (by omega), True.intro⟩, by simp only [tmD, sD, PyData.depth, PyData.depthAll, dep]; omega, ?_⟩
    simp only [tmD, sD, shB, shBs, wt]
    omega
end Dw
namespace Dw
open PySem L2 Evl
def spRight26 : Sp := fun vs H Q _ => ∃ (v : V) (t : Tm), vs = [v] ∧ TmAt H t v ∧ TmTx t ∧ dep t ≤ 10 ∧ wt t ≤ 60 ∧ ∀ H', Ex H H' → Q (.bl true) H'
theorem end_at {t : Tm} (hx : TmTx t) {i : Nat} {x : V} (h : (ends t)[i]? = some x) : ∃ k : Nat, x = .int (k : Int) ∧ k ≤ 7 ∧ ((endsT t)[i]?).getD [] = [48 + k] := by
  cases t with
  | part a hi lo =>
    obtain ⟨_, h1, h2⟩ := hx
    match i, h with
    | 0, h => cases h; exact ⟨hi, rfl, h2, rfl⟩
    | 1, h => cases h; exact ⟨lo, rfl, by omega, rfl⟩
    | n + 2, h => simp [ends] at h
  | _ => simp [ends] at h
end Dw
namespace Dw
open PySem L2 Evl
theorem call_isiK {X : Cx} {K : PySem.W.Frag} (h : X.K = K) : CallR X (.builtin "isinstance") (rIsi K) := h ▸ call_isi
end Dw

set_option Elab.async false
set_option linter.all false
set_option maxRecDepth 100000
set_option maxHeartbeats 2000000
namespace Dw
open PySem L2 Evl
/-! ### what is made anew: a value that keeps G, a new list that keeps G -/
def EvX (te : TE) (σ : L2.St) (H : Hp) (G : V → Hp → Prop) : Prop := ∀ H1, Ex H H1 → ∀ Q : VK, (∀ v H2, Ex H1 H2 → G v H2 → Q v H2) → te σ H1 Q
def EvXL (te : TE) (σ : L2.St) (H : Hp) (G : List V → Hp → Prop) : Prop := ∀ H1, Ex H H1 → ∀ Q : VK, (∀ D xs H2, H1 D = none → Ex H1 H2 → H2 D = some (.lst xs) → G xs H2 → Q (.ref D) H2) → te σ H1 Q
section
variable {K : PySem.W.Frag} {σ : L2.St} {H : Hp} {ta tb te tn : TE} {tA : TA} {tz : TS} {D : Ends} {v : V}
theorem EvX.at {H' : Hp} {G : V → Hp → Prop} (h : EvX te σ H G) (e : Ex H H') : EvX te σ H' G := fun H1 e1 Q q => h H1 (e.trans e1) Q q
theorem EvXL.at {H' : Hp} {G : List V → Hp → Prop} (h : EvXL te σ H G) (e : Ex H H') : EvXL te σ H' G := fun H1 e1 Q q => h H1 (e.trans e1) Q q
theorem evx_of (h : Ev te σ H v) : EvX te σ H (fun w _ => w = v) := fun H1 e Q q => h H1 e Q fun H2 e2 => q v H2 e2 rfl
theorem elx_of {xs : List V} (h : EvL te σ H xs) : EvXL te σ H (fun ys _ => ys = xs) := fun H1 e Q q => h H1 e Q fun p H2 np e2 hp => q p xs H2 np e2 hp rfl
theorem q_asgX {i : Nat} {G : V → Hp → Prop} (h : EvX te σ H G) (k : ∀ v H1, Ex H H1 → G v H1 → tz D (σ.set i (some v)) H1) : tSeq (tAsg te (gName i)) tz D σ H := h H (Ex.refl _) _ fun v H1 e g => k v H1 e g
theorem q_asgXL {i : Nat} {G : List V → Hp → Prop} (h : EvXL te σ H G) (k : ∀ g xs H1, H g = none → Ex H H1 → H1 g = some (.lst xs) → G xs H1 → tz D (σ.set i (some (.ref g))) H1) : tSeq (tAsg te (gName i)) tz D σ H := h H (Ex.refl _) _ fun g xs H1 n e hg g1 => k g xs H1 n e hg g1
theorem s_asgXL {i : Nat} {G : List V → Hp → Prop} (h : EvXL te σ H G) (k : ∀ g xs H1, H g = none → Ex H H1 → H1 g = some (.lst xs) → G xs H1 → D.nx (σ.set i (some (.ref g))) H1) : tAsg te (gName i) D σ H := h H (Ex.refl _) _ fun g xs H1 n e hg g1 => k g xs H1 n e hg g1
theorem elx_lcR3 {n j : Nat} {vs : List Nat} {a b c : Int} {G : Nat → V → Hp → Prop} (hA : EvA tA σ H [.int a, .int b, .int c]) (hr : RgC a b c n) (hz : n ≤ 40000) (hw : ∀ x, wipe ((wipe σ vs).set j (some x)) vs = wipe σ vs)
    (he : ∀ (k : Nat) H1, Ex H H1 → k < n → EvX te ((wipe σ vs).set j (some (.int (a + (k : Int) * c)))) H1 (G k)) (hg : ∀ k v H1 H2, ExT H1 H2 → G k v H1 → G k v H2) :
    EvXL (tLc (iRng3 tA) (gName j) tYes te vs) σ H (fun xs H2 => xs.length = n ∧ ∀ k v, xs[k]? = some v → G k v H2) := fun H0 e0 Q q =>
  hA H0 e0 _ fun H1 e1 => ⟨a, b, c, n, rfl, hr, fun Dl hD => lc_it walk_rangeC (fun i H4 => Ex H1 H4 ∧ ∃ xs : List V, H4 Dl = some (.lst xs) ∧ xs.length = i ∧ ∀ k v, xs[k]? = some v → G k v H4)
    ⟨Ex.new hD, [], upd_same, rfl, fun k v h => by cases h⟩ (fun _ _ _ _ => True.intro) (fun k x H2 H3 hk p y => by
    obtain ⟨rfl, rfl⟩ := y
    obtain ⟨e4, xs, h4, hn4, hs⟩ := p
    refine ⟨hw _, he k H3 ((e0.trans e1).trans e4) hk H3 (Ex.refl _) _ fun u H5 e5 g5 => ?_⟩
    have h5 := e5 Dl _ h4
    have et : ExT H3 (L2.upd H5 Dl (.lst (xs ++ [u]))) := (ExT.of e5).upd h5
    refine ⟨xs, h5, sz_lt (by omega), Ex.mut (e4.trans e5) hD, xs ++ [u], upd_same, by rw [List.length_append, hn4]; rfl, fun m w hm => ?_⟩
    by_cases hlt : m < xs.length
    · rw [List.getElem?_append_left hlt] at hm
      exact hg m w _ _ et (hs m w hm)
    · rw [List.getElem?_append_right (by omega)] at hm
      have : m - xs.length = 0 := by
        match hq : m - xs.length, hm with
        | 0, _ => rfl
      rw [this] at hm
      cases hm
      rw [show m = k by omega]
      exact hg k u _ _ ((ExT.refl H5).upd h5) g5) (fun H2 p => by
    obtain ⟨e4, xs, h4, hn4, hs⟩ := p
    exact q Dl xs H2 (fresh_back e1 hD) (e1.trans e4) h4 ⟨hn4, hs⟩)⟩
theorem elx_lcR1 {n : Int} {j : Nat} {vs : List Nat} {G : Nat → V → Hp → Prop} (hn : Ev tn σ H (.int n)) (h0 : 0 ≤ n) (hz : n ≤ 40000) (hw : ∀ x, wipe ((wipe σ vs).set j (some x)) vs = wipe σ vs)
    (he : ∀ (k : Nat) H1, Ex H H1 → (k : Int) < n → EvX te ((wipe σ vs).set j (some (.int (k : Int)))) H1 (G k)) (hg : ∀ k v H1 H2, ExT H1 H2 → G k v H1 → G k v H2) :
    EvXL (tLc (iRng1 (tCons tn tNil)) (gName j) tYes te vs) σ H (fun xs H2 => (xs.length : Int) = n ∧ ∀ k v, xs[k]? = some v → G k v H2) := fun H0 e0 Q q => by
  refine hn H0 e0 _ fun H1 e1 => ⟨n, rfl, by omega, by omega, fun Dl hD => ?_⟩
  refine lc_range (lo := 0) (n := n.toNat) (fun i H4 => Ex H1 H4 ∧ ∃ xs : List V, H4 Dl = some (.lst xs) ∧ xs.length = i ∧ ∀ k v, xs[k]? = some v → G k v H4)
    ⟨Ex.new hD, [], upd_same, rfl, fun k v h => by cases h⟩ (fun k H3 hk p => ?_) (fun H2 p => ?_)
  · obtain ⟨e4, xs, h4, hn4, hs⟩ := p
    refine ⟨?_, ?_⟩
    · exact hw _
    · have z0 : (0 : Int) + (k : Int) = (k : Int) := Int.zero_add _
      show te ((wipe σ vs).set j (some (.int ((0 : Int) + (k : Int))))) H3 _
      rw [z0]
      refine he k H3 ((e0.trans e1).trans e4) (by omega) H3 (Ex.refl _) _ fun u H5 e5 g5 => ?_
      have h5 := e5 Dl _ h4
      have et : ExT H3 (L2.upd H5 Dl (.lst (xs ++ [u]))) := (ExT.of e5).upd h5
      refine ⟨xs, h5, sz_lt (by omega), Ex.mut (e4.trans e5) hD, xs ++ [u], upd_same, by rw [List.length_append, hn4]; rfl, fun m w hm => ?_⟩
      by_cases hlt : m < xs.length
      · rw [List.getElem?_append_left hlt] at hm
        exact hg m w _ _ et (hs m w hm)
      · rw [List.getElem?_append_right (by omega)] at hm
        have : m - xs.length = 0 := by
          match hq : m - xs.length, hm with
          | 0, _ => rfl
        rw [this] at hm
        cases hm
        rw [show m = k by omega]
        exact hg k u _ _ ((ExT.refl H5).upd h5) g5
  · obtain ⟨e4, xs, h4, hn4, hs⟩ := p
    exact q Dl xs H2 (fresh_back e1 hD) (e1.trans e4) h4 ⟨by omega, hs⟩
theorem elx_cat {G1 G2 : List V → Hp → Prop} (ha : EvXL ta σ H G1) (hb : ∀ H1, Ex H H1 → EvXL tb σ H1 G2) (hg : ∀ xs H1 H2, Ex H1 H2 → G1 xs H1 → G1 xs H2) (hg2 : ∀ xs H1 H2, Ex H1 H2 → G2 xs H1 → G2 xs H2) (h1 : ∀ xs H1, G1 xs H1 → xs.length ≤ 50000) (h2 : ∀ xs H1, G2 xs H1 → xs.length ≤ 50000) :
    EvXL (tOp rCat ta tb) σ H (fun xs H2 => ∃ ys zs, xs = ys ++ zs ∧ G1 ys H2 ∧ G2 zs H2) := fun H0 e0 Q q =>
  ha H0 e0 _ fun g ys H1 ng e1 hg1 k1 => hb H1 (e0.trans e1) H1 (Ex.refl _) _ fun r zs H2 nr e2 hr k2 => ⟨g, r, ys, zs, rfl, rfl, e2 _ _ hg1, hr, sz_of (by have := h1 _ _ k1; have := h2 _ _ k2; omega), fun s ns => q s _ _ (fresh_back (e1.trans e2) ns) ((e1.trans e2).trans (Ex.new ns)) upd_same ⟨ys, zs, rfl, hg _ _ _ (e2.trans (Ex.new ns)) k1, hg2 _ _ _ (Ex.new ns) k2⟩⟩
end
/-! ### rows of terms -/
def TmR : V → Hp → Prop := fun v H => ∃ t, TmAt H t v ∧ TmTx t ∧ dep t ≤ 10 ∧ wt t ≤ 60
theorem TmR.mono {v : V} {H H' : Hp} (h : TmR v H) (e : ExT H H') : TmR v H' := let ⟨t, a, b⟩ := h; ⟨t, TmAt.mono e a, b⟩
def TmU (n : Nat) : V → Hp → Prop := fun v H => ∃ t, TmAt H t v ∧ TmTx t ∧ dep t ≤ n ∧ wt t ≤ n
theorem TmU.mono {n : Nat} {v : V} {H H' : Hp} (h : TmU n v H) (e : ExT H H') : TmU n v H' := let ⟨t, a, b⟩ := h; ⟨t, TmAt.mono e a, b⟩
def spTmR : Sp := fun vs H Q _ => ∃ p : Addr, vs = [.ref p] ∧ PotAt H p ∧ ∀ (H' : Hp) (v : V), ExB p H H' → PotAt H' p → TmR v H' → Q v H'
/-- a row of terms, n deep at most -/
def RowAt (n : Nat) (H : Hp) (ts : List Tm) (xs : List V) : Prop := All2 (fun t v => TmAt H t v ∧ TmTx t ∧ dep t ≤ n) ts xs
theorem RowAt.mono {n : Nat} {H H' : Hp} {ts : List Tm} {xs : List V} (h : RowAt n H ts xs) (e : ExT H H') : RowAt n H' ts xs := h.map fun t v r => ⟨TmAt.mono e r.1, r.2⟩
theorem RowAt.more {n m : Nat} {H : Hp} {ts : List Tm} {xs : List V} (h : RowAt n H ts xs) (k : n ≤ m) : RowAt m H ts xs := h.map fun t v r => ⟨r.1, r.2.1, Nat.le_trans r.2.2 k⟩
theorem all2_ex {α β : Type} {R : α → β → Prop} : ∀ {bs : List β}, (∀ b ∈ bs, ∃ a, R a b) → ∃ as, All2 R as bs
  | [], _ => ⟨[], .nil⟩
  | b :: bs, h => by
    obtain ⟨a, ha⟩ := h b (List.mem_cons_self ..)
    obtain ⟨as, has⟩ := all2_ex fun c hc => h c (List.mem_cons_of_mem _ hc)
    exact ⟨a :: as, .cons ha has⟩
theorem All2.drop {α β : Type} {R : α → β → Prop} : ∀ {as : List α} {bs : List β} (n : Nat), All2 R as bs → All2 R (as.drop n) (bs.drop n)
  | _, _, 0, h => h
  | _, _, _ + 1, .nil => .nil
  | _, _, n + 1, .cons _ h => h.drop n
theorem All2.of_at {α β : Type} {R : α → β → Prop} : ∀ {as : List α} {bs : List β}, as.length = bs.length → (∀ (k : Nat) a b, as[k]? = some a → bs[k]? = some b → R a b) → All2 R as bs
  | [], [], _, _ => .nil
  | [], _ :: _, h, _ => by simp at h
  | _ :: _, [], h, _ => by simp at h
  | a :: as, b :: bs, h, k => .cons (k 0 a b rfl rfl) (All2.of_at (by simpa using h) fun i x y hx hy => k (i + 1) x y (by simpa using hx) (by simpa using hy))
theorem All2.at2 {α β : Type} {R : α → β → Prop} {as : List α} {bs : List β} (h : All2 R as bs) : ∀ {i : Nat} {a : α}, as[i]? = some a → ∃ b, bs[i]? = some b ∧ R a b := by
  induction h with
  | nil => intro i b hb; simp at hb
  | cons r _ ih =>
    intro i b hb
    match i with
    | 0 => simp at hb; exact ⟨_, rfl, hb ▸ r⟩
    | i + 1 => simp at hb; simpa using ih hb
def pairT (ts : List Tm) (n : Nat) : List Tm := (List.range n).map fun k => .bi .or (ts.getD (2 * k) default) (ts.getD (2 * k + 1) default)
theorem pair_len (ts : List Tm) (n : Nat) : (pairT ts n).length = n := by simp [pairT]
theorem pair_wts (ts : List Tm) : ∀ n, 2 * n ≤ ts.length → wts (pairT ts n) = wts (ts.take (2 * n)) + n
  | 0, _ => by simp [pairT, wts]
  | n + 1, h => by
    have ih := pair_wts ts n (by omega)
    have h1 : 2 * n < ts.length := by omega
    have h2 : 2 * n + 1 < ts.length := by omega
    have e1 : pairT ts (n + 1) = pairT ts n ++ [.bi .or (ts.getD (2 * n) default) (ts.getD (2 * n + 1) default)] := by simp [pairT, List.range_succ]
    have e2 : ts.take (2 * (n + 1)) = ts.take (2 * n) ++ [ts.getD (2 * n) default, ts.getD (2 * n + 1) default] := by
      rw [show 2 * (n + 1) = 2 * n + 1 + 1 by omega, List.take_add_one, List.take_add_one, List.getElem?_eq_getElem h1, List.getElem?_eq_getElem h2, List.append_assoc]
      simp [List.getD_eq_getElem?_getD, List.getElem?_eq_getElem h1, List.getElem?_eq_getElem h2]
    unfold wts at ih ⊢
    rw [e1, e2, List.map_append, List.sum_append, ih, List.map_append, List.sum_append]
    simp [wt]
    omega
theorem wts_cut (ts : List Tm) (n : Nat) : wts (ts.take n) + wts (ts.drop n) = wts ts := by
  unfold wts
  rw [← List.sum_append, ← List.map_append, List.take_append_drop]
theorem wts_app (a b : List Tm) : wts (a ++ b) = wts a + wts b := by
  unfold wts
  rw [List.map_append, List.sum_append]
def len30 : Nat → Nat
  | 0 => 30
  | 1 => 15
  | 2 => 8
  | 3 => 4
  | 4 => 2
  | _ => 1
theorem len30_step {j L : Nat} (hj : j ≤ 5) (h : L ≤ len30 j) (h1 : 1 < L) : j + 1 ≤ 5 ∧ L / 2 + L % 2 ≤ len30 (j + 1) := by
  match j, hj with
  | 0, _ => simp [len30] at h ⊢; omega
  | 1, _ => simp [len30] at h ⊢; omega
  | 2, _ => simp [len30] at h ⊢; omega
  | 3, _ => simp [len30] at h ⊢; omega
  | 4, _ => simp [len30] at h ⊢; omega
  | 5, _ => simp [len30] at h; omega
theorem len30_le (j : Nat) : len30 j ≤ 30 := by
  match j with
  | 0 => decide
  | 1 => decide
  | 2 => decide
  | 3 => decide
  | 4 => decide
  | n + 5 => show 1 ≤ 30; decide
theorem s_01x : Str.ofString "01x" = Tx [48, 49, 120] := by decide +kernel
theorem el_mapNL {K : PySem.W.Frag} {σ : L2.St} {H : Hp} {te tl : TE} {xs : List V} {j : Nat} {vs : List Nat} (g : V → V) (h : EvL tl σ H xs) (hz : xs.length ≤ 40000) (hw : ∀ x, wipe ((wipe σ vs).set j (some x)) vs = wipe σ vs)
    (he : ∀ (x : V) H1, Ex H H1 → x ∈ xs → Ev te ((wipe σ vs).set j (some x)) H1 (g x)) : EvL (tLc (iList K tl) (gName j) tYes te vs) σ H (xs.map g) := fun H0 e Q q => h H0 e _ fun a H1 ha e1 hx => ⟨a, rfl, ⟨xs, sq_of hx⟩, fun Dl hD =>
  lc_list (xs := xs) (Cw H1 (fun _ => true) (fun i => g (xs.getD i .non)) Dl) ⟨hD, Ex.new hD, upd_same⟩ (fun i H' _ p => sq_of (p.2.1 a _ hx)) (fun i x H' hi p => ⟨hw x, cw_turn p (by have := (List.getElem?_eq_some_iff.mp hi).1; omega) et_yes (fun _ => by
    have e2 : xs.getD i .non = x := by rw [List.getD_eq_getElem?_getD, hi]; rfl
    rw [e2]
    exact he x H1 (e.trans e1) (List.mem_of_getElem? hi))⟩)
    (fun H' p => q Dl H' (fresh_back e1 p.1) (e1.trans p.2.1) (by rw [← given_all xs .non g]; exact p.2.2))⟩
end Dw

set_option Elab.async false
set_option linter.all false
set_option maxRecDepth 100000
set_option maxHeartbeats 2000000
namespace Dw
open PySem PySem.SeqAt PyProof.Rows
theorem dict_declines_str (l : Addr) (es : Array DictEntry) (n : Nat) (dd : Option Addr) (sl : Array (Option Value)) (b : Str) (u : Tok) :
    Meets (Builtin.«dict.__eq__» ⟨[.ref l, .str b u], []⟩) (fun _ R s => s.heap.get? l = some { cls := .type "dict", dict := dd, data := .dict es n, slots := sl } ∧ R (.ok (.ret .notImplemented)) s) :=
  .of_wp fun prog w A R s h => by obtain ⟨hp, g, d, tk, os⟩ := s; obtain ⟨hl, h⟩ := h; have f1 := F.sub_str_dict; wp_walk using wpAny_loadPart' hl, wpAny_load hl; exact ⟨_, rfl, h⟩
theorem str_declines_dict (b : Str) (u : Tok) (l : Addr) (es : Array DictEntry) (n : Nat) (dd : Option Addr) (sl : Array (Option Value)) :
    Meets (Builtin.«str.__eq__» ⟨[.str b u, .ref l], []⟩) (fun _ R s => s.heap.get? l = some { cls := .type "dict", dict := dd, data := .dict es n, slots := sl } ∧ R (.ok (.ret .notImplemented)) s) :=
  .of_wp fun prog w A R s h => by obtain ⟨hp, g, d, tk, os⟩ := s; obtain ⟨hl, h⟩ := h; wp_walk using wpAny_loadPart' hl, wpAny_load hl; exact ⟨_, rfl, h⟩
end Dw

set_option Elab.async false
set_option linter.all false
set_option maxRecDepth 100000
set_option maxHeartbeats 2000000
namespace Dw
open PySem L2 Evl
/-! ### data in the heap: lists lie elsewhere than the pot, dicts are empty -/
mutual
inductive Dz (p : Addr) (H : Hp) : V → PyData → Prop
  | non : Dz p H .non .none
  | bl (b : Bool) : Dz p H (.bl b) (.bool b)
  | int (i : Int) : Dz p H (.int i) (.int i)
  | str (l : List Nat) : Dz p H (.str (Tx l)) (.str (Tx l))
  | lst {a : Addr} {xs : List V} {ds : List PyData} : H a = some (.lst xs) → a ≠ p → a ≠ sysModules → DzAll p H xs ds → Dz p H (.ref a) (.list ds)
  | tup {a : Addr} {xs : List V} {ds : List PyData} : H a = some (.tup xs) → DzAll p H xs ds → Dz p H (.ref a) (.tuple ds)
  | dct {a : Addr} : H a = some (.dK []) → Dz p H (.ref a) (.dict [])
inductive DzAll (p : Addr) (H : Hp) : List V → List PyData → Prop
  | nil : DzAll p H [] []
  | cons {v : V} {vs : List V} {d : PyData} {ds : List PyData} : Dz p H v d → DzAll p H vs ds → DzAll p H (v :: vs) (d :: ds)
end
mutual
theorem Dz.exB {p : Addr} {H H' : Hp} (hp : PotAt H p) (e : ExB p H H') : ∀ {v : V} {d : PyData}, Dz p H v d → Dz p H' v d
  | _, _, .non => .non
  | _, _, .bl b => .bl b
  | _, _, .int i => .int i
  | _, _, .str x => .str x
  | _, _, .lst h1 h3 h4 h2 => .lst (e _ _ h3 h1) h3 h4 (h2.exB hp e)
  | _, _, .tup h1 h2 => .tup (e _ _ (fun z => by obtain ⟨x, y, k, _⟩ := hp; rw [z, k] at h1; cases h1) h1) (h2.exB hp e)
  | _, _, .dct h1 => .dct (e _ _ (fun z => by obtain ⟨x, y, k, _⟩ := hp; rw [z, k] at h1; cases h1) h1)
theorem DzAll.exB {p : Addr} {H H' : Hp} (hp : PotAt H p) (e : ExB p H H') : ∀ {vs : List V} {ds : List PyData}, DzAll p H vs ds → DzAll p H' vs ds
  | _, _, .nil => .nil
  | _, _, .cons h1 h2 => .cons (h1.exB hp e) (h2.exB hp e)
end
mutual
theorem Dz.ex {p : Addr} {H H' : Hp} (e : Ex H H') : ∀ {v : V} {d : PyData}, Dz p H v d → Dz p H' v d
  | _, _, .non => .non
  | _, _, .bl b => .bl b
  | _, _, .int i => .int i
  | _, _, .str x => .str x
  | _, _, .lst h1 h3 h4 h2 => .lst (e _ _ h1) h3 h4 (h2.ex e)
  | _, _, .tup h1 h2 => .tup (e _ _ h1) (h2.ex e)
  | _, _, .dct h1 => .dct (e _ _ h1)
theorem DzAll.ex {p : Addr} {H H' : Hp} (e : Ex H H') : ∀ {vs : List V} {ds : List PyData}, DzAll p H vs ds → DzAll p H' vs ds
  | _, _, .nil => .nil
  | _, _, .cons h1 h2 => .cons (h1.ex e) (h2.ex e)
end
theorem DzAll.len {p : Addr} {H : Hp} : ∀ {vs : List V} {ds : List PyData}, DzAll p H vs ds → vs.length = ds.length
  | _, _, .nil => rfl
  | _, _, .cons _ h2 => by rw [List.length_cons, List.length_cons, h2.len]
theorem DzAll.at {p : Addr} {H : Hp} : ∀ {vs : List V} {ds : List PyData} {i : Nat} {v : V}, DzAll p H vs ds → vs[i]? = some v → ∃ d, ds[i]? = some d ∧ Dz p H v d
  | _, _, _, _, .nil, h => by cases h
  | _, _, 0, _, .cons h1 h2, h => by
    cases h
    exact ⟨_, rfl, h1⟩
  | _, _, i + 1, _, .cons h1 h2, h => h2.at (i := i) h
theorem DzAll.to {p : Addr} {H : Hp} : ∀ {vs : List V} {ds : List PyData} {i : Nat} {d : PyData}, DzAll p H vs ds → ds[i]? = some d → ∃ v, vs[i]? = some v ∧ Dz p H v d
  | _, _, _, _, .nil, h => by cases h
  | _, _, 0, _, .cons h1 h2, h => by
    cases h
    exact ⟨_, rfl, h1⟩
  | _, _, i + 1, _, .cons h1 h2, h => h2.to (i := i) h
theorem DzAll.app {p : Addr} {H : Hp} : ∀ {vs : List V} {ds : List PyData} {ws : List V} {es : List PyData}, DzAll p H vs ds → DzAll p H ws es → DzAll p H (vs ++ ws) (ds ++ es)
  | _, _, _, _, .nil, h => h
  | _, _, _, _, .cons h1 h2, h => .cons h1 (h2.app h)
theorem DzAll.take {p : Addr} {H : Hp} : ∀ {vs : List V} {ds : List PyData} (n : Nat), DzAll p H vs ds → DzAll p H (vs.take n) (ds.take n)
  | _, _, 0, _ => .nil
  | _, _, _ + 1, .nil => .nil
  | _, _, n + 1, .cons h1 h2 => .cons h1 (h2.take n)
theorem DzAll.drop {p : Addr} {H : Hp} : ∀ {vs : List V} {ds : List PyData} (n : Nat), DzAll p H vs ds → DzAll p H (vs.drop n) (ds.drop n)
  | _, _, 0, h => h
  | _, _, _ + 1, .nil => .nil
  | _, _, n + 1, .cons _ h2 => h2.drop n
def tyZ : PyData → String
  | .none => "NoneType"
  | .bool _ => "bool"
  | .int _ => "int"
  | .str _ => "str"
  | .list _ => "list"
  | .tuple _ => "tuple"
  | .dict _ => "dict"
theorem Dz.ty {K : PySem.W.Frag} {p : Addr} {H : Hp} {v : V} {d : PyData} (h : Dz p H v d) : TyX K H v (.type (tyZ d)) := by
  cases h with
  | non => exact .base .non
  | bl b => exact .base (.bl b)
  | int i => exact .base (.int i)
  | str x => exact .base (.str _)
  | lst h1 _ _ _ => exact .base (.lst h1)
  | tup h1 _ => exact .base (.tup h1)
  | dct h1 => exact .base (.dK h1)
def isZs (T t : String) : Bool := decide (t = T) || (decide (T = "int") && decide (t = "bool"))
def isZ (T : String) (d : PyData) : Bool := isZs T (tyZ d)
theorem kit_zs : ∀ t ∈ ["NoneType", "bool", "int", "str", "list", "tuple", "dict"], kitB t "int" = some (isZs "int" t) ∧ kitB t "bool" = some (isZs "bool" t) ∧ kitB t "str" = some (isZs "str" t) ∧ kitB t "tuple" = some (isZs "tuple" t) := by decide +kernel
theorem tyZ_mem (d : PyData) : tyZ d ∈ ["NoneType", "bool", "int", "str", "list", "tuple", "dict"] := by cases d <;> simp [tyZ]
theorem kit_z (d : PyData) : kitB (tyZ d) "int" = some (isZ "int" d) ∧ kitB (tyZ d) "bool" = some (isZ "bool" d) ∧ kitB (tyZ d) "str" = some (isZ "str" d) ∧ kitB (tyZ d) "tuple" = some (isZ "tuple" d) := kit_zs _ (tyZ_mem d)
section
variable {X : Cx} {pins : List (Addr × Obj)} {σ : L2.St} {H : Hp} {s : Shared} {p : Addr}
mutual
theorem Dz.reads (I : Inv X pins σ H s) : ∀ (d : PyData) (v : V) (u : Value), Dz p H v d → RelV v u → ∃ as, Reads s.heap u d as ∧ sysModules ∉ as
  | .none, _, _, h, r => by
    cases h
    cases r
    exact ⟨_, Reads.none, by simp⟩
  | .bool b, _, _, h, r => by
    cases h
    cases r
    exact ⟨_, Reads.bool b, by simp⟩
  | .int i, _, _, h, r => by
    cases h
    obtain ⟨t, rfl⟩ := r
    exact ⟨_, Reads.int i t, by simp⟩
  | .str x, _, _, h, r => by
    cases h
    obtain ⟨t, rfl⟩ := r
    exact ⟨_, Reads.str _ t, by simp⟩
  | .list ds, _, _, h, r => by
    cases h with
    | lst hs _ hn ha =>
      cases r
      obtain ⟨its, rv, ⟨o, n, ho, hc, _, hd⟩, _⟩ := I.list (SqL.of hs)
      obtain ⟨as, hr, hno⟩ := DzAll.reads I ds _ its ha rv
      exact ⟨_, Reads.list ho hc hd hr, fun z => by
        rcases List.mem_cons.mp z with z | z
        · exact hn z.symm
        · exact hno z⟩
  | .tuple ds, _, _, h, r => by
    cases h with
    | tup hs ha =>
      cases r
      obtain ⟨its, rv, ⟨o, ho, hc, n, hd⟩, _⟩ := I.tuple (SqT.of hs)
      obtain ⟨as, hr, hno⟩ := DzAll.reads I ds _ its ha rv
      exact ⟨_, Reads.tuple ho hc hd hr, hno⟩
  | .dict kvs, _, _, h, r => by
    cases h with
    | dct hs =>
      cases r
      obtain ⟨_, hsm, vs, rel, ⟨o, es, ep, ho, hx, hd, _, hp, _⟩⟩ := dk_of I.hok hs
      cases rel
      have he : es.toList = [] := by
        cases h0 : es.toList with
        | nil => rfl
        | cons a b =>
          rw [h0] at hp
          cases hp
      exact ⟨_, Reads.dict (kvs := []) (as := []) (bs := []) ho hx.1 hd (by rw [he]; exact .nil) (by rw [he]; exact .nil), fun z => by
        simp only [List.append_nil, List.mem_singleton] at z
        rw [← z] at hsm
        simp at hsm⟩
theorem DzAll.reads (I : Inv X pins σ H s) : ∀ (ds : List PyData) (vs : List V) (us : List Value), DzAll p H vs ds → Vals vs us → ∃ as, ReadsAll s.heap us ds as ∧ sysModules ∉ as
  | [], _, _, h, r => by
    cases h
    cases r
    exact ⟨_, ReadsAll.nil, by simp⟩
  | d :: ds, _, _, h, r => by
    cases h with
    | cons h1 h2 =>
      cases r with
      | cons r1 r2 =>
        obtain ⟨as, q1, n1⟩ := Dz.reads I d _ _ h1 r1
        obtain ⟨bs, q2, n2⟩ := DzAll.reads I ds _ _ h2 r2
        exact ⟨_, ReadsAll.cons q1 q2, fun z => by
          rcases List.mem_append.mp z with z | z
          · exact n1 z
          · exact n2 z⟩
end
theorem size_gt (I : Inv X pins σ H s) : 3 < s.heap.objs.size := by
  obtain ⟨o, es, ep, ho, _⟩ := I.ok.mod.glob
  exact Heap.lt_size (I.bk _ _ ho)
end
/-! ### new rules: a new list is not where the modules lie; repr; in; == () -/
def tLstN (t : TA) : TE := fun σ H Q => t σ H fun xs H1 => xs.length ≤ sizeLine ∧ ∀ p, H1 p = none → p ≠ sysModules → Q (.ref p) (L2.upd H1 p (.lst xs))
section
variable {X : Cx}
theorem pe_lstN {es : List Expr} {t : TA} {pos : Pos} (h : PA X es t) : PE X (.List es pos) (tLstN t) := by
  refine ⟨fun pins s σ H Q I hq => ?_⟩
  refine wpAny_List_spliced (thn (h.run pos pins s σ H _ I hq) fun us s1 ⟨xs, H1, I1, r, z, q⟩ => ⟨by rw [← r.length]; exact z, ?_⟩)
  have hf : H1 s1.heap.objs.size = none := I1.hok.fresh (Nat.le_refl _)
  have h3 := size_gt I1
  have hn : s1.heap.objs.size ≠ sysModules := fun z => by unfold sysModules at z; omega
  refine ⟨.ref s1.heap.objs.size, L2.upd H1 s1.heap.objs.size (.lst xs), I1.laid (t' := s1.toks) (fun b u e => Heap.get?_push_of_some _ e) (Nat.le_refl _) ?_, rfl, q _ hf hn⟩
  exact ⟨z, us, 0, r, Heap.get?_push_size _ rfl⟩
def rListN (K : PySem.W.Frag) : List V → Hp → VK → Prop := fun xs H Q => ∃ p ys, xs = [.ref p] ∧ SqT K H p ys ∧ ∀ l, H l = none → l ≠ sysModules → Q (.ref l) (L2.upd H l (.lst ys))
theorem call_listN : CallR X (.type "list") (rListN X.K) := by
  intro pins s σ H xs us Q I r h
  obtain ⟨p, ys, rfl, hq, q⟩ := h
  have h3 := size_gt I
  have hn : s.heap.objs.size ≠ sysModules := fun z => by unfold sysModules at z; omega
  obtain ⟨u, rfl, rx⟩ := vals1 r
  cases rx
  obtain ⟨its, r', pl, hz⟩ := I.tuple hq
  have hlen := r'.length
  obtain ⟨o, ho, hc, n, hd⟩ := pl
  exact call_list_seq p (.inr rfl) ho hc hd (fun h' c' kp e => ⟨.ref s.heap.objs.size, _, I.laid (t' := s.toks) kp (Nat.le_refl _) (show ObjOk X.prog X.w _ h' _ (.lst ys) from ⟨hz, its, c', r', e⟩), rfl, q _ (I.hok.fresh (Nat.le_refl _)) hn⟩) (by simp only [List.size_toArray] <;> omega)
end
end Dw

set_option Elab.async false
set_option linter.all false
set_option maxRecDepth 100000
set_option maxHeartbeats 2000000
namespace Dw
open PySem L2 Evl
/-! ### how long data is, shown -/
mutual
def mZ : PyData → Nat
  | .none => 1
  | .bool _ => 1
  | .int _ => 1
  | .str x => 1 + x.length
  | .list xs => 1 + mZs xs
  | .tuple xs => 1 + mZs xs
  | .dict _ => 1
def mZs : List PyData → Nat
  | [] => 0
  | x :: xs => mZ x + mZs xs
end
mutual
def okZ : PyData → Prop
  | .none => True
  | .bool _ => True
  | .int i => i.natAbs.log2 < 1920
  | .str x => ∀ c ∈ x.cps.toList, c < 16 ^ 8
  | .list xs => okZs xs
  | .tuple xs => okZs xs
  | .dict kvs => kvs = []
def okZs : List PyData → Prop
  | [] => True
  | x :: xs => okZ x ∧ okZs xs
end
mutual
theorem shownZ : ∀ d : PyData, okZ d → d.showable = true ∧ d.shown.length + 5 ≤ 2010 * mZ d
  | .none, _ => ⟨rfl, by show (Str.ofString "None").length + 5 ≤ 2010 * 1; decide⟩
  | .bool b, _ => ⟨rfl, by cases b <;> (show (Str.ofString _).length + 5 ≤ 2010 * 1; decide)⟩
  | .int i, h => ⟨by simpa [PyData.showable] using (show i.natAbs.log2 < 1920 from h), by
      have e := int_text_length_le (k := 1920) (by decide) h
      show (Str.ofString (toString i)).length + 5 ≤ 2010 * 1
      rw [PySem.ofString_length]
      omega⟩
  | .str x, h => ⟨rfl, by
      show (reprText x).length + 5 ≤ 2010 * (1 + x.length)
      have := StrLaws.reprText_len x h
      omega⟩
  | .list xs, h => by
    obtain ⟨h1, h3⟩ := shownZs xs h
    refine ⟨by simpa [PyData.showable] using h1, ?_⟩
    have := listText_le (PyData.shownAll xs)
    simp only [PyData.shown, mZ]
    omega
  | .tuple xs, h => by
    obtain ⟨h1, h3⟩ := shownZs xs h
    refine ⟨by simpa [PyData.showable] using h1, ?_⟩
    have := tupleText_le (PyData.shownAll xs)
    simp only [PyData.shown, mZ]
    omega
  | .dict kvs, h => by
    have h0 : kvs = [] := h
    subst h0
    refine ⟨rfl, ?_⟩
    show (Str.ofString "{" ++ Str.join ", " [] ++ Str.ofString "}").length + 5 ≤ 2010 * 1
    decide
theorem shownZs : ∀ ds : List PyData, okZs ds → PyData.showableAll ds = true ∧ piled (PyData.shownAll ds) ≤ 2010 * mZs ds
  | [], _ => ⟨rfl, Nat.le_refl _⟩
  | d :: ds, h => by
    obtain ⟨a1, a3⟩ := shownZ d h.1
    obtain ⟨b1, b3⟩ := shownZs ds h.2
    refine ⟨by simp [PyData.showableAll, a1, b1], ?_⟩
    simp only [PyData.shownAll, mZs, piled_cons]
    omega
end
/-- small enough to be shown and judged -/
structure SmZ (d : PyData) : Prop where
  ok : okZ d
  m : mZ d ≤ 5000
  dep : d.depth ≤ 30
def rReprZ : List V → Hp → VK → Prop := fun xs H Q => ∃ (p : Addr) (v : V) (d : PyData), xs = [v] ∧ Dz p H v d ∧ SmZ d ∧ Q (.str d.shown) H
section
variable {X : Cx}
theorem call_reprZ (g : X.A.guards = some []) (hu : X.A.units + 101 < cLine) : CallR X (.builtin "repr") rReprZ := by
  intro pins s σ H xs us Q I rel h
  obtain ⟨p, v, d, rfl, hd, sm, q⟩ := h
  obtain ⟨u, rfl, rx⟩ := vals1 rel
  obtain ⟨h1, h3⟩ := shownZ d sm.ok
  have hm := sm.m
  have hdep := sm.dep
  have hsz : d.shown.length ≤ sizeLine := by
    have : sizeLine = 16777216 := by decide
    omega
  obtain ⟨as, rd, hno⟩ := Dz.reads I d v u hd rx
  have big : ∀ a, u = .ref a → wpAny (model X.prog X.w) X.A (call (.builtin "repr") [u]) (EP X pins σ Q) X.xe s := fun a ha => by
    subst ha
    exact repr_of_reads' rd h1 (fun _ => hno) g (by omega) (fun _ _ e => e) (fun h' u tk hk => ⟨.str d.shown, H, I.kept hk, ⟨u, rfl⟩, q⟩) hsz
  cases rd with
  | none => exact PySem.P.repr_of_none ⟨.str _, H, I.tok _, ⟨_, rfl⟩, q⟩
  | bool b => exact PySem.P.repr_of_bool ⟨.str _, H, I.tok _, ⟨_, rfl⟩, by cases b <;> exact q⟩
  | int i t => exact PySem.P.repr_of_int sm.ok ⟨.str _, H, I.tok _, ⟨_, rfl⟩, q⟩
  | str x t => exact PySem.P.repr_of_str ⟨.str _, H, I.tok _, ⟨_, rfl⟩, q⟩ hsz
  | list _ _ _ _ => exact big _ rfl
  | tuple _ _ _ _ => exact big _ rfl
  | dict _ _ _ _ _ => exact big _ rfl
end
/-! ### x in [texts], x whatever -/
section
open PySem.SeqAt
variable {A : Around} {s : Shared}
theorem rc_str_dict {l : Addr} {es : Array DictEntry} {n : Nat} {dd : Option Addr} {sl : Array (Option Value)} (b : Str) (u : Tok) (ho : s.heap.get? l = some { cls := .type "dict", dict := dd, data := .dict es n, slots := sl }) (hu : A.units < cLine) : RcAt A s (.str b u) (.ref l) false := fun prog w E Q h =>
  rc_eq_decline_or (k := false) (typeIs_str s b u) ⟨_, ho, rfl⟩ (by decide) F.sub_dict_str F.slot_str_eq F.slot_dict_eq_refl
    (fun _ hq => call_meets F.slot_str_eq (typeIs_str s b u) F.entry_str_eq (F.args_str_eq_2 _ _) (str_declines_dict b u l es n dd sl) ⟨ho, hq⟩)
    (fun _ hq => call_meets F.slot_dict_eq_refl ⟨_, ho, rfl⟩ F.entry_dict_eq (F.args_dict_eq_2 _ _) (dict_declines_str l es n dd sl b u) ⟨ho, hq⟩)
    (fun _ hq => wpAny_of_eq (rfl : isSame (.str b u) (.ref l) = pure false) hq) (.inr hu) h
theorem eqAt_str_dict {l : Addr} {o : Obj} {es : Array DictEntry} {n : Nat} (b : Str) (u : Tok) (h1 : s.heap.get? l = some o) (h2 : o.cls = .type "dict") (h3 : o.data = .dict es n) (hu : A.units < cLine) : EqAt A s (.str b u) (.ref l) false := fun prog w E Q h => by
  obtain ⟨cls, dd, data, sl⟩ := o
  simp only at h2 h3
  subst h2 h3
  unfold eqBool
  refine wpAny_holding ?_
  refine wpAny_ite_split (fun hab => absurd (eq_of_beq hab) nofun) (fun _ => ?_)
  exact wpAny_bind (rc_str_dict b u h1 hu prog w E _ (wpAny_truthy_bool h))
def strZ (z : Str) : PyData → Bool
  | .str x => z == x
  | _ => false
theorem eqAt_strZ {v : Value} {d : PyData} {as : List Addr} (z : Str) (t : Tok) (r : Reads s.heap v d as) (hu : A.units < cLine) : EqAt A s (.str z t) v (strZ z d) := by
  cases r with
  | none => exact EqAt.str_none z t
  | bool y => exact EqAt.str_bool z t y
  | int y u => exact EqAt.str_int z t y u
  | str y u => exact EqAt.str_str z t y u
  | list k1 k2 k3 k4 => exact EqAt.str_list z t ⟨_, k1, k2, _, k3⟩ hu
  | tuple k1 k2 k3 k4 => exact EqAt.str_tuple z t ⟨_, k1, k2, _, k3⟩ hu
  | dict k1 k2 k3 k4 k5 => exact eqAt_str_dict z t k1 k2 k3 hu
end
def inZ (d : PyData) (ws : List Str) : Bool := ws.any fun z => strZ z d
def rInZ (K : PySem.W.Frag) : R2 := fun x y H Q => ∃ (p q : Addr) (d : PyData) (ws : List Str), y = .ref q ∧ SqL K H q (ws.map V.str) ∧ Dz p H x d ∧ Q (.bl (inZ d ws)) H
theorem op_inZ {X : Cx} (hu : X.A.units + 64 < cLine) : OpR X (compareOp .In) (rInZ X.K) := by
  intro pins s σ H x y v u Q I rx ry h
  obtain ⟨p, q0, d, ws, rfl, hq, hd, q⟩ := h
  cases ry
  obtain ⟨as, rd, _⟩ := Dz.reads I d x v hd rx
  obtain ⟨its, r, pl, hz⟩ := I.list hq
  have key : ∀ (ws : List Str) (its : List Value), Vals (ws.map V.str) its → (∀ w ∈ its, ∃ z t, w = .str z t) ∧ its.any (fun w => match w with | .str z _ => strZ z d | _ => false) = inZ d ws := by
    intro ws
    induction ws with
    | nil =>
      intro its r
      cases r
      exact ⟨fun w hw => (by cases hw), rfl⟩
    | cons z ws ih =>
      intro its r
      cases r with
      | cons r1 r2 =>
        obtain ⟨t, rfl⟩ := r1
        obtain ⟨i1, i2⟩ := ih _ r2
        refine ⟨fun w hw => ?_, ?_⟩
        · rcases List.mem_cons.mp hw with rfl | h
          · exact ⟨z, t, rfl⟩
          · exact i1 w h
        · rw [List.any_cons, i2]
          rfl
  obtain ⟨k1, k2⟩ := key ws its r
  refine SeqAt.in_listAt (fun w => match w with | .str z _ => strZ z d | _ => false) pl.isList (fun w hw => ?_) ⟨.bl _, H, I, rfl, ?_⟩
  · obtain ⟨z, t, rfl⟩ := k1 w (by simpa using hw)
    exact eqAt_strZ z t rd (by show X.A.units + 1 < cLine; omega)
  · rw [show its.toArray.any (fun w => match w with | .str z _ => strZ z d | _ => false) = its.any (fun w => match w with | .str z _ => strZ z d | _ => false) by simp, k2]
    exact q
/-! ### t == () -/
def rEq0 (K : PySem.W.Frag) : R2 := fun x y H Q => ∃ (a b : Addr) (xs : List V), x = .ref a ∧ y = .ref b ∧ SqT K H a xs ∧ SqT K H b [] ∧ Q (.bl (decide (xs = []))) H
theorem op_eq0 {X : Cx} (hu : X.A.units + 64 < cLine) : OpR X (compareOp .Eq) (rEq0 X.K) := by
  intro pins s σ H x y v u Q I rx ry h
  obtain ⟨a, b, xs, rfl, rfl, ha, hb, q⟩ := h
  cases rx
  cases ry
  obtain ⟨its, r1, p1, _⟩ := I.tuple ha
  obtain ⟨its2, r2, p2, _⟩ := I.tuple hb
  cases r2
  have hl := r1.length
  refine SeqAt.eq_tupleAt (e := fun _ => true) p1 p2 (by omega) (fun j h1 h2 => absurd h2 (by simp)) ⟨.bl _, H, I, rfl, ?_⟩
  have : (((List.range (min its.toArray.size ([] : List Value).toArray.size)).all fun _ => true) && its.toArray.size == ([] : List Value).toArray.size) = decide (xs = []) := by
    rw [Bool.eq_iff_iff]
    cases xs with
    | nil => cases r1; simp
    | cons y ys => cases r1; simp
  rw [this]
  exact q
end Dw

set_option Elab.async false
set_option linter.all false
set_option maxRecDepth 100000
set_option maxHeartbeats 2000000
namespace Dw
open PySem L2 Evl
/-! ### what is a term, of data -/
def wholeZ : PyData → Bool
  | .int _ => true
  | _ => false
def nameL (l : List Nat) : Bool := decide (1 ≤ l.length) && decide (l.length ≤ 8) && !decide (Tx l ∈ words12) && !decide (Tx l ∈ words5) && decide (l.getD 0 0 ∈ lets) && l.all fun c => decide (c ∈ nsg)
def nameZ : PyData → Bool
  | .str x => nameL x.cps.toList
  | _ => false
def putL (l : List Nat) : Bool := decide (1 ≤ l.length) && decide (l.length ≤ 8) && l.all fun c => decide (c ∈ [48, 49, 120])
def putZ : PyData → Bool
  | .str x => putL x.cps.toList
  | _ => false
def spanZ : PyData → PyData → Bool
  | .int h, .int l => decide (0 ≤ l) && decide (l ≤ h) && decide (h < 8)
  | _, _ => false
def argc (w : Str) : Option Nat := (argN.find? fun p => p.1 == w).map fun p => p.2.toNat
def shellZ : PyData → Bool
  | .tuple (.str w :: r) =>
    if w = Str.ofString "is" then (match r with | [d] => putZ d | _ => false)
    else if w = Str.ofString "of" then (match r with | [d] => nameZ d | _ => false)
    else if w = Str.ofString "part" then (match r with | [_, h, l] => spanZ h l | _ => false)
    else match argc w with
      | some n => decide (r.length = n)
      | none => false
  | _ => false
def argsZ : PyData → List PyData
  | .tuple (.str w :: r) => if w = Str.ofString "is" ∨ w = Str.ofString "of" then [] else r.take ((argc w).getD 0)
  | _ => []
def wZ : Nat → PyData → Nat
  | 0, _ => 0
  | n + 1, d => if shellZ d = true then (if 0 ∈ (argsZ d).map (wZ n) then 0 else 1 + ((argsZ d).map (wZ n)).sum) else 0
def termZ (d : PyData) : Bool := decide (1 ≤ wZ 10 d) && decide (wZ 10 d ≤ 60)
/-- level by level -/
def runZ : Nat → List PyData → Nat → Bool
  | 0, _, _ => false
  | n + 1, L, m => if m + L.length > 60 ∨ L.all shellZ = false then false else if L.flatMap argsZ = [] then true else runZ n (L.flatMap argsZ) (m + L.length)
theorem runZ_is : ∀ (n : Nat) (L : List PyData) (m : Nat), L ≠ [] → runZ n L m = (decide (∀ d ∈ L, wZ n d ≠ 0) && decide (m + (L.map (wZ n)).sum ≤ 60))
  | 0, L, m, h => by
    obtain ⟨d, hd⟩ := List.exists_mem_of_ne_nil L h
    have : ¬ ∀ d ∈ L, wZ 0 d ≠ 0 := fun z => z d hd rfl
    simp only [runZ]
    rw [decide_eq_false this, Bool.false_and]
  | n + 1, L, m, h => by
    have sumlen : ∀ (L : List PyData), (∀ d ∈ L, wZ (n + 1) d ≠ 0) → L.length ≤ (L.map (wZ (n + 1))).sum := by
      intro L
      induction L with
      | nil => intro _; simp
      | cons d L ih =>
        intro hd
        have h1 := hd d (List.mem_cons_self ..)
        have h2 := ih fun c hc => hd c (List.mem_cons_of_mem _ hc)
        rw [List.length_cons, List.map_cons, List.sum_cons]
        omega
    by_cases hs : L.all shellZ = true
    · by_cases hm : m + L.length > 60
      · simp only [runZ]
        rw [if_pos (.inl hm)]
        by_cases hz : ∀ d ∈ L, wZ (n + 1) d ≠ 0
        · have := sumlen L hz
          rw [decide_eq_false (by omega : ¬ m + (L.map (wZ (n + 1))).sum ≤ 60), Bool.and_false]
        · rw [decide_eq_false hz, Bool.false_and]
      · have hsh := List.all_eq_true.mp hs
        have step : ∀ (L : List PyData), (∀ d ∈ L, shellZ d = true) → ((∀ d ∈ L, wZ (n + 1) d ≠ 0) ↔ ∀ c ∈ L.flatMap argsZ, wZ n c ≠ 0) ∧ ((∀ c ∈ L.flatMap argsZ, wZ n c ≠ 0) → (L.map (wZ (n + 1))).sum = L.length + ((L.flatMap argsZ).map (wZ n)).sum) := by
          intro L
          induction L with
          | nil => intro _; simp
          | cons d L ih =>
            intro hd
            have hd1 := hd d (List.mem_cons_self ..)
            obtain ⟨i1, i2⟩ := ih fun c hc => hd c (List.mem_cons_of_mem _ hc)
            have hw : wZ (n + 1) d ≠ 0 ↔ ∀ c ∈ argsZ d, wZ n c ≠ 0 := by
              simp only [wZ, if_pos hd1]
              constructor
              · intro h c hc hz
                rw [if_pos (List.mem_map.mpr ⟨c, hc, hz⟩)] at h
                exact h rfl
              · intro h
                rw [if_neg fun z => by
                  obtain ⟨c, hc, hz⟩ := List.mem_map.mp z
                  exact h c hc hz]
                omega
            refine ⟨?_, fun h => ?_⟩
            · rw [List.flatMap_cons]
              constructor
              · intro h c hc
                rcases List.mem_append.mp hc with hc | hc
                · exact hw.mp (h d (List.mem_cons_self ..)) c hc
                · exact i1.mp (fun e he => h e (List.mem_cons_of_mem _ he)) c hc
              · intro h e he
                rcases List.mem_cons.mp he with rfl | he
                · exact hw.mpr fun c hc => h c (List.mem_append_left _ hc)
                · exact i1.mpr (fun c hc => h c (List.mem_append_right _ hc)) e he
            · rw [List.flatMap_cons] at h ⊢
              have h1 : ∀ c ∈ argsZ d, wZ n c ≠ 0 := fun c hc => h c (List.mem_append_left _ hc)
              have e1 := i2 fun c hc => h c (List.mem_append_right _ hc)
              have e2 : wZ (n + 1) d = 1 + ((argsZ d).map (wZ n)).sum := by
                simp only [wZ, if_pos hd1]
                rw [if_neg fun z => by
                  obtain ⟨c, hc, hz⟩ := List.mem_map.mp z
                  exact h1 c hc hz]
              rw [List.map_cons, List.sum_cons, e1, e2, List.map_append, List.sum_append, List.length_cons]
              omega
        obtain ⟨s1, s2⟩ := step L hsh
        simp only [runZ]
        rw [if_neg (by rintro (h1 | h1); exact hm h1; rw [hs] at h1; cases h1)]
        by_cases he : L.flatMap argsZ = []
        · rw [if_pos he]
          have a1 : ∀ c ∈ L.flatMap argsZ, wZ n c ≠ 0 := fun c hc => by rw [he] at hc; cases hc
          have a2 := s2 a1
          rw [he] at a2
          simp only [List.map_nil, List.sum_nil] at a2
          rw [decide_eq_true (s1.mpr a1), decide_eq_true (by omega : m + (L.map (wZ (n + 1))).sum ≤ 60)]
          rfl
        · rw [if_neg he, runZ_is n _ _ he]
          by_cases a1 : ∀ c ∈ L.flatMap argsZ, wZ n c ≠ 0
          · have a2 := s2 a1
            rw [decide_eq_true a1, decide_eq_true (s1.mpr a1), Bool.true_and, Bool.true_and]
            exact decide_eq_decide.mpr (by omega)
          · rw [decide_eq_false a1, decide_eq_false (fun z => a1 (s1.mp z)), Bool.false_and, Bool.false_and]
    · have hs' : L.all shellZ = false := by simpa using hs
      simp only [runZ]
      rw [if_pos (.inr hs')]
      obtain ⟨d, hd, hz⟩ : ∃ d ∈ L, shellZ d = false := by
        have := List.all_eq_false.mp hs'
        obtain ⟨d, hd, hz⟩ := this
        exact ⟨d, hd, by simpa using hz⟩
      have : ¬ ∀ d ∈ L, wZ (n + 1) d ≠ 0 := fun z => z d hd (by simp only [wZ]; rw [if_neg (by rw [hz]; simp)])
      rw [decide_eq_false this, Bool.false_and]
theorem term_run (d : PyData) : runZ 10 [d] 0 = termZ d := by
  rw [runZ_is 10 [d] 0 (by simp)]
  unfold termZ
  rw [Bool.eq_iff_iff]
  simp
  omega
/-! ### paths -/
mutual
def pathsZ : PyData → List (List Nat)
  | .tuple ds => [] :: pathsZs 0 ds
  | _ => [[]]
def pathsZs : Nat → List PyData → List (List Nat)
  | _, [] => []
  | k, d :: ds => (pathsZ d).map (k :: ·) ++ pathsZs (k + 1) ds
end
def partZ : PyData → List Nat → Option PyData
  | d, [] => some d
  | .tuple ds, k :: ks => match ds[k]? with
    | some d => partZ d ks
    | none => none
  | _, _ :: _ => none
theorem partZ_nil (d : PyData) : partZ d [] = some d := by cases d <;> rfl
mutual
theorem paths_ok : ∀ (d : PyData), ∀ ks ∈ pathsZ d, ∃ e, partZ d ks = some e
  | .tuple ds, ks, h => by
    simp only [pathsZ] at h
    rcases List.mem_cons.mp h with rfl | h
    · exact ⟨_, partZ_nil _⟩
    · obtain ⟨j, d, ks', rfl, h1, e, h2⟩ := pathss_ok ds 0 ks h
      refine ⟨e, ?_⟩
      simp only [partZ, Nat.zero_add, h1]
      exact h2
  | .none, ks, h => by simp only [pathsZ, List.mem_singleton] at h; subst h; exact ⟨_, partZ_nil _⟩
  | .bool _, ks, h => by simp only [pathsZ, List.mem_singleton] at h; subst h; exact ⟨_, partZ_nil _⟩
  | .int _, ks, h => by simp only [pathsZ, List.mem_singleton] at h; subst h; exact ⟨_, partZ_nil _⟩
  | .str _, ks, h => by simp only [pathsZ, List.mem_singleton] at h; subst h; exact ⟨_, partZ_nil _⟩
  | .list _, ks, h => by simp only [pathsZ, List.mem_singleton] at h; subst h; exact ⟨_, partZ_nil _⟩
  | .dict _, ks, h => by simp only [pathsZ, List.mem_singleton] at h; subst h; exact ⟨_, partZ_nil _⟩
theorem pathss_ok : ∀ (ds : List PyData) (k : Nat), ∀ ks ∈ pathsZs k ds, ∃ j d ks', ks = (k + j) :: ks' ∧ ds[j]? = some d ∧ ∃ e, partZ d ks' = some e
  | [], k, ks, h => by simp [pathsZs] at h
  | d :: ds, k, ks, h => by
    simp only [pathsZs] at h
    rcases List.mem_append.mp h with h | h
    · obtain ⟨ks', h1, rfl⟩ := List.mem_map.mp h
      obtain ⟨e, he⟩ := paths_ok d ks' h1
      exact ⟨0, d, ks', rfl, rfl, e, he⟩
    · obtain ⟨j, c, ks', rfl, h1, h2⟩ := pathss_ok ds (k + 1) ks h
      exact ⟨j + 1, c, ks', by rw [show k + 1 + j = k + (j + 1) by omega], by simpa using h1, h2⟩
end
end Dw

set_option Elab.async false
set_option linter.all false
set_option maxRecDepth 100000
set_option maxHeartbeats 2000000
namespace Dw
open PySem L2 Evl
/-! ### data by kind -/
section
variable {K : PySem.W.Frag} {p : Addr} {H : Hp} {v : V} {d : PyData} {σ : L2.St} {ta tb tc td : TE}
theorem Dz.isStr (h : Dz p H v d) (hs : isZ "str" d = true) : ∃ l, d = .str (Tx l) ∧ v = .str (Tx l) := by
  cases h with
  | str l => exact ⟨l, rfl, rfl⟩
  | _ => exact absurd hs (by simp [isZ, isZs, tyZ])
theorem Dz.isTup (h : Dz p H v d) (hs : isZ "tuple" d = true) : ∃ a xs ds, v = .ref a ∧ d = .tuple ds ∧ H a = some (.tup xs) ∧ DzAll p H xs ds := by
  cases h with
  | tup h1 h2 => exact ⟨_, _, _, rfl, rfl, h1, h2⟩
  | _ => exact absurd hs (by simp [isZ, isZs, tyZ])
theorem Dz.isInt (h : Dz p H v d) (hs : wholeZ d = true) : ∃ i, d = .int i ∧ v = .int i := by
  cases h with
  | int i => exact ⟨i, rfl, rfl⟩
  | _ => exact absurd hs (by simp [wholeZ])
theorem ev_isZi (ha : Ev ta σ H v) (hd : Dz p H v d) : Ev (tCB (rIsi K) (tCons ta (tCons (tC (.ty "int")) tNil))) σ H (.bl (isZ "int" d)) := ev_isi ha ev_c fun H1 e => ⟨_, (hd.ex e).ty, (kit_z d).1⟩
theorem ev_isZb (ha : Ev ta σ H v) (hd : Dz p H v d) : Ev (tCB (rIsi K) (tCons ta (tCons (tC (.ty "bool")) tNil))) σ H (.bl (isZ "bool" d)) := ev_isi ha ev_c fun H1 e => ⟨_, (hd.ex e).ty, (kit_z d).2.1⟩
theorem ev_isZs (ha : Ev ta σ H v) (hd : Dz p H v d) : Ev (tCB (rIsi K) (tCons ta (tCons (tC (.ty "str")) tNil))) σ H (.bl (isZ "str" d)) := ev_isi ha ev_c fun H1 e => ⟨_, (hd.ex e).ty, (kit_z d).2.2.1⟩
theorem ev_isZt (ha : Ev ta σ H v) (hd : Dz p H v d) : Ev (tCB (rIsi K) (tCons ta (tCons (tC (.ty "tuple")) tNil))) σ H (.bl (isZ "tuple" d)) := ev_isi ha ev_c fun H1 e => ⟨_, (hd.ex e).ty, (kit_z d).2.2.2⟩
theorem ev_chain3B {r1 r2 r3 : R2} {x y z u : V} {b1 b2 b3 : Bool} (ha : Ev ta σ H x) (hb : Ev tb σ H y) (hc : Ev tc σ H z) (hd : Ev td σ H u) (h1 : RV r1 x y H (.bl b1)) (h2 : RV r2 y z H (.bl b2)) (h3 : RV r3 z u H (.bl b3)) : Ev (tChain3 r1 r2 r3 ta tb tc td) σ H (.bl (b1 && (b2 && b3))) := fun H1 e Q q =>
  ha H1 e _ fun H2 e2 => hb H2 (e.trans e2) _ fun H3 e3 => h1 H3 ((e.trans e2).trans e3) _ fun H4 e4 => ⟨b1, rfl, by
    cases b1 with
    | false => exact iteF (q H4 ((e2.trans e3).trans e4))
    | true =>
      refine iteT (hc H4 (((e.trans e2).trans e3).trans e4) _ fun H5 e5 => h2 H5 ((((e.trans e2).trans e3).trans e4).trans e5) _ fun H6 e6 => ⟨b2, rfl, ?_⟩)
      cases b2 with
      | false => exact iteF (q H6 ((e2.trans e3).trans ((e4.trans e5).trans e6)))
      | true => exact iteT (hd H6 (((((e.trans e2).trans e3).trans e4).trans e5).trans e6) _ fun H7 e7 => h3 H7 ((((((e.trans e2).trans e3).trans e4).trans e5).trans e6).trans e7) Q fun H8 e8 => q H8 ((e2.trans e3).trans ((e4.trans e5).trans (e6.trans (e7.trans e8)))))⟩
end
theorem isZ_int (d : PyData) : (isZ "int" d && !isZ "bool" d) = wholeZ d := by cases d <;> rfl
theorem not_str {d : PyData} (h : isZ "str" d = false) : nameZ d = false ∧ putZ d = false := by
  cases d with
  | str x => exact absurd h (by simp [isZ, isZs, tyZ])
  | _ => exact ⟨rfl, rfl⟩
theorem not_tup {d : PyData} (h : isZ "tuple" d = false) : shellZ d = false := by
  cases d with
  | tuple x => exact absurd h (by simp [isZ, isZs, tyZ])
  | _ => rfl
def vL (l : List Nat) : Bool := decide (1 ≤ l.length) && decide (l.length ≤ 8) && (l.all fun c => decide (c ∈ sgn))
def valueZ : PyData → Bool
  | .str x => vL x.cps.toList
  | _ => false
def nozZ : PyData → Bool
  | .str x => !decide (122 ∈ x.cps.toList)
  | _ => true
theorem put_is (d : PyData) : (valueZ d && nozZ d) = putZ d := by
  cases d with
  | str x =>
    show (vL x.cps.toList && !decide (122 ∈ x.cps.toList)) = putL x.cps.toList
    unfold vL putL
    rw [Bool.and_assoc]
    congr 1
    rw [Bool.eq_iff_iff]
    simp only [Bool.and_eq_true, List.all_eq_true, decide_eq_true_eq, Bool.not_eq_true', decide_eq_false_iff_not, sgn]
    constructor
    · rintro ⟨h1, h2⟩ c hc
      have := h1 c hc
      simp only [List.mem_cons, List.not_mem_nil, or_false, decide_eq_true_eq] at this ⊢
      rcases this with h | h | h | h
      · exact .inl h
      · exact .inr (.inl h)
      · exact .inr (.inr h)
      · exact absurd (h ▸ hc) h2
    · intro h
      refine ⟨fun c hc => ?_, fun hz => ?_⟩
      · have := h c hc
        simp only [List.mem_cons, List.not_mem_nil, or_false, decide_eq_true_eq] at this ⊢
        rcases this with h | h | h
        · exact .inl h
        · exact .inr (.inl h)
        · exact .inr (.inr (.inl h))
      · have := h 122 hz
        simp at this
  | _ => rfl
/-! ### sizes of parts -/
theorem mZs_mem : ∀ {ds : List PyData} {d : PyData}, d ∈ ds → mZ d ≤ mZs ds
  | _ :: ds, d, h => by
    simp only [mZs]
    rcases List.mem_cons.mp h with rfl | h
    · omega
    · have := mZs_mem h
      omega
theorem args_sub {d c : PyData} (h : c ∈ argsZ d) : mZ c ≤ mZ d := by
  unfold argsZ at h
  split at h
  · split at h
    · cases h
    · have := mZs_mem (List.mem_of_mem_take h)
      simp only [mZ, mZs]
      omega
  · cases h
theorem argc_le {w : Str} {n : Nat} (h : argc w = some n) : n ≤ 3 ∧ 1 ≤ n ∧ (w, (n : Int)) ∈ argN := by
  unfold argc at h
  cases hf : argN.find? fun p => p.1 == w with
  | none => rw [hf] at h; cases h
  | some q =>
    rw [hf] at h
    cases h
    have hm := List.mem_of_find?_eq_some hf
    have hw := List.find?_some hf
    have hq : q.1 = w := by simpa using hw
    have key : ∀ q ∈ argN, q.2.toNat ≤ 3 ∧ 1 ≤ q.2.toNat ∧ ((q.2.toNat : Nat) : Int) = q.2 := by decide +kernel
    obtain ⟨k1, k2, k3⟩ := key q hm
    refine ⟨k1, k2, ?_⟩
    rw [k3, ← hq]
    exact hm
theorem argc_none {w : Str} (h : argc w = none) : w ∉ argN.map (·.1) := fun hm => by
  unfold argc at h
  obtain ⟨q, hq, rfl⟩ := List.mem_map.mp hm
  have : argN.find? (fun p => p.1 == q.1) ≠ none := fun z => by
    have := List.find?_eq_none.mp z q hq
    simp at this
  cases hf : argN.find? fun p => p.1 == q.1 with
  | none => exact this hf
  | some r => rw [hf] at h; cases h
theorem args_len {d : PyData} (h : shellZ d = true) : (argsZ d).length ≤ 3 := by
  unfold argsZ
  split
  · rename_i w r
    split
    · simp
    · rw [List.length_take]
      cases hc : argc w with
      | none => simp
      | some n =>
        have := (argc_le hc).1
        simp only [Option.getD_some]
        omega
  · simp
/-! ### the promises of the program's judging -/
def spWholeZ : Sp := fun vs H Q _ => ∃ (p : Addr) (v : V) (d : PyData), vs = [v] ∧ Dz p H v d ∧ ∀ H', Ex H H' → Q (.bl (wholeZ d)) H'
def spValueZ : Sp := fun vs H Q _ => ∃ (p : Addr) (v : V) (d : PyData), vs = [v, .int 0] ∧ Dz p H v d ∧ mZ d ≤ 39000 ∧ ∀ H', Ex H H' → Q (.bl (valueZ d)) H'
def spPutZ : Sp := fun vs H Q _ => ∃ (p : Addr) (v : V) (d : PyData), vs = [v, .int 0] ∧ Dz p H v d ∧ mZ d ≤ 39000 ∧ ∀ H', Ex H H' → Q (.bl (putZ d)) H'
def spNameZ : Sp := fun vs H Q _ => ∃ (p : Addr) (v : V) (d : PyData), vs = [v] ∧ Dz p H v d ∧ mZ d ≤ 39000 ∧ ∀ H', Ex H H' → Q (.bl (nameZ d)) H'
def spSpanZ : Sp := fun vs H Q _ => ∃ (p : Addr) (v u : V) (d e : PyData), vs = [v, u] ∧ Dz p H v d ∧ Dz p H u e ∧ ∀ H', Ex H H' → Q (.bl (spanZ d e)) H'
def spShellZ : Sp := fun vs H Q _ => ∃ (p : Addr) (v : V) (d : PyData), vs = [v] ∧ Dz p H v d ∧ mZ d ≤ 39000 ∧ ∀ H', Ex H H' → Q (.bl (shellZ d)) H'
def spTermZ : Sp := fun vs H Q _ => ∃ (p : Addr) (v : V) (d : PyData), vs = [v] ∧ Dz p H v d ∧ mZ d ≤ 39000 ∧ ∀ H', Ex H H' → Q (.bl (termZ d)) H'
/-- the arguments of a shell, as the program tells them -/
theorem shell_args {p : Addr} {H : Hp} {v : V} {d : PyData} (hd : Dz p H v d) (h : shellZ d = true) : ∃ us, (∀ H1, Ex H H1 → SpL spArgs1 [v] H1 us) ∧ DzAll p H us (argsZ d) := by
  unfold shellZ at h
  split at h
  · rename_i w r
    cases hd with
    | tup ha hall =>
      rename_i a xs
      cases hall with
      | cons h0 hr =>
        rename_i v0 vr
        have hv0 : v0 = .str w := by cases h0; rfl
        subst hv0
        have hlen := hr.len
        split at h
        · rename_i hw
          split at h
          · rename_i d1
            obtain ⟨x1, rfl⟩ : ∃ x1, vr = [x1] := by
              match vr, hlen with
              | [x1], _ => exact ⟨x1, rfl⟩
            refine ⟨[], fun H1 e => spl_argsL (.inl hw) (e _ _ ha), ?_⟩
            simp only [argsZ, if_pos (Or.inl hw)]
            exact .nil
          · cases h
        · rename_i hw
          split at h
          · rename_i hw2
            split at h
            · rename_i d1
              obtain ⟨x1, rfl⟩ : ∃ x1, vr = [x1] := by
                match vr, hlen with
                | [x1], _ => exact ⟨x1, rfl⟩
              refine ⟨[], fun H1 e => spl_argsL (.inr hw2) (e _ _ ha), ?_⟩
              simp only [argsZ, if_pos (Or.inr hw2)]
              exact .nil
            · cases h
          · rename_i hw2
            have hno : ¬ (w = Str.ofString "is" ∨ w = Str.ofString "of") := fun z => z.elim hw hw2
            split at h
            · rename_i hw3
              have hc : argc w = some 1 := by rw [hw3]; decide +kernel
              split at h
              · rename_i d1 d2 d3
                obtain ⟨x1, x2, x3, rfl⟩ : ∃ x1 x2 x3, vr = [x1, x2, x3] := by
                  match vr, hlen with
                  | [x1, x2, x3], _ => exact ⟨x1, x2, x3, rfl⟩
                refine ⟨[x1], fun H1 e => spl_args1 (us := [x1]) (es := [x2, x3]) (e _ _ ha) (argc_le hc).2.2 (by simp), ?_⟩
                simp only [argsZ, if_neg hno, hc, Option.getD_some]
                exact hr.take 1
              · cases h
            · cases hc : argc w with
              | none => rw [hc] at h; cases h
              | some n =>
                rw [hc] at h
                have hl := of_decide_eq_true h
                obtain ⟨k1, k2, k3⟩ := argc_le hc
                refine ⟨vr, fun H1 e => spl_args1 (us := vr) (es := []) (by rw [List.append_nil]; exact e _ _ ha) (by rw [hlen, hl]; exact k3) (by simp; omega), ?_⟩
                simp only [argsZ, if_neg hno, hc, Option.getD_some]
                rw [← hl, List.take_length]
                exact hr
  · cases h
theorem kidsZ {p : Addr} {H : Hp} : ∀ {L : List PyData} {vs : List V}, DzAll p H vs L → (∀ d ∈ L, shellZ d = true) → ∃ F : Nat → List V, (∀ (j : Nat) (x : V), vs[j]? = some x → ∀ H1, Ex H H1 → SpL spArgs1 [x] H1 (F j)) ∧ DzAll p H ((List.range vs.length).flatMap F) (L.flatMap argsZ)
  | _, _, .nil, _ => ⟨fun _ => [], (fun j x hx => by cases hx), .nil⟩
  | _, _, .cons h1 h2, hs => by
    obtain ⟨F, f1, f2⟩ := kidsZ h2 fun c hc => hs c (List.mem_cons_of_mem _ hc)
    obtain ⟨us, u1, u2⟩ := shell_args h1 (hs _ (List.mem_cons_self ..))
    refine ⟨fun j => match j with | 0 => us | j + 1 => F j, fun j x hx H1 e => ?_, ?_⟩
    · cases j with
      | zero => cases hx; exact u1 H1 e
      | succ j => exact f1 j x hx H1 e
    · rw [List.flatMap_cons, List.length_cons, List.range_succ_eq_map, List.flatMap_cons, List.flatMap_map]
      exact u2.app f2
end Dw
namespace Dw
open PySem L2 Evl
theorem shell_short {ds : List PyData} (h : ds.length < 2) : shellZ (.tuple ds) = false := by
  match ds, h with
  | [], _ => rfl
  | [d], _ =>
    cases d with
    | str w =>
      unfold shellZ
      simp only
      split
      · rfl
      · split
        · rfl
        · split
          · rfl
          · split
            · rename_i n hc
              have := (argc_le hc).2.1
              exact decide_eq_false (by simp; omega)
            · rfl
    | _ => rfl
theorem shell_first {d0 : PyData} {r : List PyData} (h : isZ "str" d0 = false) : shellZ (.tuple (d0 :: r)) = false := by
  cases d0 with
  | str w => exact absurd h (by simp [isZ, isZs, tyZ])
  | _ => rfl
def span2 : List PyData → Bool
  | [h, l] => spanZ h l
  | _ => false
theorem shell_is {w : Str} {d1 : PyData} {r : List PyData} (h : w = Str.ofString "is") : shellZ (.tuple (.str w :: d1 :: r)) = (decide (r.length = 0) && putZ d1) := by
  unfold shellZ
  simp only [if_pos h]
  cases r <;> simp
theorem of_is : Str.ofString "of" ≠ Str.ofString "is" := by decide +kernel
theorem part_is : Str.ofString "part" ≠ Str.ofString "is" ∧ Str.ofString "part" ≠ Str.ofString "of" := by decide +kernel
theorem shell_of {w : Str} {d1 : PyData} {r : List PyData} (h : w = Str.ofString "of") : shellZ (.tuple (.str w :: d1 :: r)) = (decide (r.length = 0) && nameZ d1) := by
  subst h
  unfold shellZ
  simp only [if_neg of_is, if_pos trivial]
  cases r <;> simp
theorem shell_part {w : Str} {d1 : PyData} {r : List PyData} (h : w = Str.ofString "part") : shellZ (.tuple (.str w :: d1 :: r)) = (decide (r.length = 2) && span2 r) := by
  subst h
  unfold shellZ
  simp only [if_neg part_is.1, if_neg part_is.2, if_pos trivial]
  match r with
  | [] => rfl
  | [a] => rfl
  | [a, b] => simp [span2]
  | a :: b :: c :: r => simp [span2]
theorem shell_op {w : Str} {d1 : PyData} {r : List PyData} (n1 : w ≠ Str.ofString "is") (n2 : w ≠ Str.ofString "of") (n3 : w ≠ Str.ofString "part") : shellZ (.tuple (.str w :: d1 :: r)) = match argc w with | some n => decide (r.length + 1 = n) | none => false := by
  unfold shellZ
  simp only [if_neg n1, if_neg n2, if_neg n3]
  rfl
theorem len2_is {x0 x1 : V} {ys : List V} {r : List PyData} (h : ys.length = r.length) : decide (V.int ((x0 :: x1 :: ys).length : Int) = V.int 2) = decide (r.length = 0) := by
  refine decide_eq_decide.mpr ?_
  simp only [List.length_cons]
  constructor
  · intro z
    have := V.int.inj z
    omega
  · intro z
    congr 1
    omega
theorem len4_is {x0 x1 : V} {ys : List V} {r : List PyData} (h : ys.length = r.length) : decide (V.int ((x0 :: x1 :: ys).length : Int) = V.int 4) = decide (r.length = 2) := by
  refine decide_eq_decide.mpr ?_
  simp only [List.length_cons]
  constructor
  · intro z
    have := V.int.inj z
    omega
  · intro z
    congr 1
    omega
end Dw

set_option Elab.async false
set_option linter.all false
set_option maxRecDepth 100000
set_option maxHeartbeats 2000000
namespace Dw
open PySem L2 Evl
mutual
def okB : PyData → Bool
  | .none => true
  | .bool _ => true
  | .int i => decide (i.natAbs.log2 < 1920)
  | .str x => x.cps.toList.all fun c => decide (c < 16 ^ 8)
  | .list xs => okBs xs
  | .tuple xs => okBs xs
  | .dict kvs => kvs.isEmpty
def okBs : List PyData → Bool
  | [] => true
  | x :: xs => okB x && okBs xs
end
mutual
theorem okB_ok : ∀ d : PyData, okB d = true → okZ d
  | .none, _ => trivial
  | .bool _, _ => trivial
  | .int i, h => of_decide_eq_true (p := i.natAbs.log2 < 1920) h
  | .str x, h => fun c hc => of_decide_eq_true (List.all_eq_true.mp h c hc)
  | .list xs, h => okBs_ok xs h
  | .tuple xs, h => okBs_ok xs h
  | .dict kvs, h => List.isEmpty_iff.mp h
theorem okBs_ok : ∀ ds : List PyData, okBs ds = true → okZs ds
  | [], _ => trivial
  | d :: ds, h => by
    have h' : (okB d && okBs ds) = true := h
    rw [Bool.and_eq_true] at h'
    exact ⟨okB_ok d h'.1, okBs_ok ds h'.2⟩
end
structure Sz (m n : Nat) (d : PyData) : Prop where
  ok : okZ d
  m : mZ d ≤ m
  dep : d.depth ≤ n
theorem Sz.sm {m n : Nat} {d : PyData} (h : Sz m n d) (hm : m ≤ 5000) (hn : n ≤ 30) : SmZ d := ⟨h.ok, Nat.le_trans h.m hm, Nat.le_trans h.dep hn⟩
theorem Sz.more {m n m' n' : Nat} {d : PyData} (h : Sz m n d) (hm : m ≤ m') (hn : n ≤ n') : Sz m' n' d := ⟨h.ok, Nat.le_trans h.m hm, Nat.le_trans h.dep hn⟩
def sS (s : String) : PyData := .str (Str.ofString s)
def odd1 : List PyData := [.none, .bool true, .bool false, .int 0, .int (-1), .int 7, .int 8, sS "", sS "x", sS "01x", sS "0z", sS "a", sS "A", sS "is", sS "later"]
def odd2 : List PyData := [sS "ninesigns", sS "a_b", sS "plus", sS "filters", sS "filter", sS "at", .tuple [sS "of", sS "filters"]]
def odd3 : List PyData := [.tuple [], .list [], .dict [], .tuple [sS "is", sS "1"], .tuple [sS "is", sS "01x01x01x"], .tuple [sS "of", sS "a"], .list [sS "of", sS "a"]]
def odd4 : List PyData := [.tuple [sS "not"], .tuple [sS "of", sS "at"]]
def odd5 : List PyData := [.tuple [sS "part", .tuple [sS "of", sS "a"], .int 1, .int 2], .tuple [sS "part", .tuple [sS "of", sS "a"], .int 8, .int 0]]
def odd6 : List PyData := [.tuple [sS "part", .tuple [sS "of", sS "a"], .int 0, .bool true], sS "9a"]
def oddZ : List PyData := odd1 ++ odd2 ++ odd3 ++ odd4 ++ odd5 ++ odd6
theorem odd_len : oddZ.length = 35 := by decide +kernel
theorem odd_all : (oddZ.all fun d => okB d && decide (mZ d ≤ 60) && decide (d.depth ≤ 2)) = true := by decide +kernel
theorem odd_sz {d : PyData} (h : d ∈ oddZ) : Sz 60 2 d := by
  have := List.all_eq_true.mp odd_all d h
  rw [Bool.and_eq_true, Bool.and_eq_true] at this
  exact ⟨okB_ok d this.1.1, of_decide_eq_true this.1.2, of_decide_eq_true this.2⟩
/-! ### sizes of lists of data -/
theorem okZs_iff : ∀ {ds : List PyData}, okZs ds ↔ ∀ x ∈ ds, okZ x
  | [] => by simp [okZs]
  | d :: ds => by
    have ih := okZs_iff (ds := ds)
    simp only [okZs, ih, List.mem_cons, forall_eq_or_imp]
theorem mZs_app : ∀ (a b : List PyData), mZs (a ++ b) = mZs a + mZs b
  | [], b => by simp [mZs]
  | x :: a, b => by
    have := mZs_app a b
    simp only [List.cons_append, mZs, this]
    omega
theorem mZs_at : ∀ {ds : List PyData} {k : Nat} {d : PyData}, ds[k]? = some d → mZs (ds.take k) + mZ d + mZs (ds.drop (k + 1)) = mZs ds
  | [], _, _, h => by cases h
  | x :: ds, 0, d, h => by
    cases h
    simp [mZs]
  | x :: ds, k + 1, d, h => by
    have := mZs_at (ds := ds) (k := k) (d := d) (by simpa using h)
    simp only [List.take_succ_cons, List.drop_succ_cons, mZs]
    omega
theorem dep_mem : ∀ {ds : List PyData} {d : PyData}, d ∈ ds → d.depth ≤ PyData.depthAll ds
  | x :: ds, d, h => by
    simp only [PyData.depthAll]
    rcases List.mem_cons.mp h with rfl | h
    · omega
    · have := dep_mem h
      omega
theorem dep_all : ∀ {ds : List PyData} {n : Nat}, (∀ d ∈ ds, d.depth ≤ n) → PyData.depthAll ds ≤ n
  | [], _, _ => by simp [PyData.depthAll]
  | x :: ds, n, h => by
    have := dep_all fun d hd => h d (List.mem_cons_of_mem _ hd)
    have := h x (List.mem_cons_self ..)
    simp only [PyData.depthAll]
    omega
def withZ : PyData → List Nat → PyData → PyData
  | _, [], e => e
  | .tuple ds, k :: ks, e => .tuple (ds.take k ++ [withZ (ds.getD k .none) ks e] ++ ds.drop (k + 1))
  | d, _ :: _, _ => d
theorem part_step {d c : PyData} {k : Nat} {ks : List Nat} (h : partZ d (k :: ks) = some c) : ∃ ds d', d = .tuple ds ∧ ds[k]? = some d' ∧ partZ d' ks = some c := by
  cases d with
  | tuple ds =>
    simp only [partZ] at h
    cases hk : ds[k]? with
    | none => rw [hk] at h; cases h
    | some d' => rw [hk] at h; exact ⟨ds, d', rfl, hk, h⟩
  | _ => simp [partZ] at h
theorem part_sz : ∀ {ks : List Nat} {d c : PyData} {m n : Nat}, partZ d ks = some c → Sz m n d → ∃ j, j + ks.length = n ∧ Sz m j c ∧ mZ c ≤ mZ d
  | [], d, c, m, n, h, s => by
    rw [partZ_nil] at h
    cases h
    exact ⟨n, rfl, s, Nat.le_refl _⟩
  | k :: ks, d, c, m, n, h, s => by
    obtain ⟨ds, d', rfl, hk, h'⟩ := part_step h
    have hm := List.mem_of_getElem? hk
    have hd := s.dep
    have hmz := s.m
    simp only [PyData.depth] at hd
    simp only [mZ] at hmz
    have h1 := dep_mem hm
    have h2 := mZs_mem hm
    obtain ⟨j, hj, hs, hl⟩ := part_sz (m := m) (n := n - 1) h' ⟨okZs_iff.mp s.ok d' hm, by omega, by omega⟩
    exact ⟨j, by simp only [List.length_cons]; omega, hs, by simp only [mZ]; omega⟩
theorem with_sz : ∀ {ks : List Nat} {d c e : PyData} {m n m' n' : Nat}, partZ d ks = some c → Sz m n d → Sz m' n' e → Sz (m + m') (max n (ks.length + n')) (withZ d ks e)
  | [], d, c, e, m, n, m', n', h, s, s' => by
    have : withZ d [] e = e := by cases d <;> rfl
    rw [this]
    exact s'.more (by omega) (by simp; omega)
  | k :: ks, d, c, e, m, n, m', n', h, s, s' => by
    obtain ⟨ds, d', rfl, hk, h'⟩ := part_step h
    have hm := List.mem_of_getElem? hk
    have hd := s.dep
    have hmz := s.m
    simp only [PyData.depth] at hd
    simp only [mZ] at hmz
    have h1 := dep_mem hm
    have hg : ds.getD k .none = d' := by rw [List.getD_eq_getElem?_getD, hk]; rfl
    have hat := mZs_at hk
    have r := with_sz (m := mZ d') (n := n - 1) (e := e) h' ⟨okZs_iff.mp s.ok d' hm, Nat.le_refl _, by omega⟩ s'
    have rm := r.m
    have rd := r.dep
    simp only [withZ, hg]
    refine ⟨?_, ?_, ?_⟩
    · refine okZs_iff.mpr fun x hx => ?_
      have hok := okZs_iff.mp s.ok
      rcases List.mem_append.mp hx with hx | hx
      · rcases List.mem_append.mp hx with hx | hx
        · exact hok x (List.mem_of_mem_take hx)
        · rw [List.mem_singleton.mp hx]
          exact r.ok
      · exact hok x (List.mem_of_mem_drop hx)
    · simp only [mZ]
      rw [mZs_app, mZs_app]
      simp only [mZs]
      omega
    · simp only [PyData.depth]
      have : PyData.depthAll (ds.take k ++ [withZ d' ks e] ++ ds.drop (k + 1)) ≤ max n (ks.length + 1 + n') - 1 := dep_all fun x hx => by
        rcases List.mem_append.mp hx with hx | hx
        · rcases List.mem_append.mp hx with hx | hx
          · have := dep_mem (List.mem_of_mem_take hx)
            omega
          · rw [List.mem_singleton.mp hx]
            omega
        · have := dep_mem (List.mem_of_mem_drop hx)
          omega
      simp only [List.length_cons]
      omega
/-! ### terms as data -/
theorem Dz.str' {p : Addr} {H : Hp} (x : Str) : Dz p H (.str x) (.str x) := by
  have := Dz.str (p := p) (H := H) x.cps.toList
  rw [Tx_tl] at this
  exact this
theorem TmAt.dz {p : Addr} {H : Hp} : ∀ {t : Tm} {v : V}, TmAt H t v → Dz p H v (tmD t)
  | .is l, _, ⟨a, rfl, h2⟩ => .tup h2 (.cons (.str' _) (.cons (.str' _) .nil))
  | .of x, _, ⟨a, rfl, h2⟩ => .tup h2 (.cons (.str' _) (.cons (.str' _) .nil))
  | .un w s, _, ⟨a, u, rfl, h2, h3⟩ => .tup h2 (.cons (.str' _) (.cons (TmAt.dz h3) .nil))
  | .bi w s t, _, ⟨a, u, u2, rfl, h2, h3, h4⟩ => .tup h2 (.cons (.str' _) (.cons (TmAt.dz h3) (.cons (TmAt.dz h4) .nil)))
  | .pick c s t, _, ⟨a, u, u1, u2, rfl, h2, h3, h4, h5⟩ => .tup h2 (.cons (.str' _) (.cons (TmAt.dz h3) (.cons (TmAt.dz h4) (.cons (TmAt.dz h5) .nil))))
  | .part s hi lo, _, ⟨a, u, rfl, h2, h3⟩ => .tup h2 (.cons (.str' _) (.cons (TmAt.dz h3) (.cons (.int _) (.cons (.int _) .nil))))
theorem tm_sz : ∀ {t : Tm}, TmTx t → okZ (tmD t) ∧ mZ (tmD t) ≤ 13 * wt t ∧ (tmD t).depth ≤ dep t
  | .is l, h => by
    obtain ⟨a1, a2⟩ := low_io.1
    refine ⟨⟨a1, fun c hc => nsg_low c (sx_nsg h.1 c (by simpa [Tx] using hc)), trivial⟩, ?_, by simp [tmD, sD, PyData.depth, PyData.depthAll, dep]⟩
    have := h.2.2
    have e : (Tx l).length = l.length := Tx_len l
    have e2 : (Str.ofString "is").length = 2 := by decide +kernel
    simp only [tmD, sD, mZ, mZs, wt, e, e2]
    omega
  | .of x, h => by
    obtain ⟨a1, a2⟩ := low_io.2
    have hl : x.length ≤ 8 := by
      obtain ⟨c, l, rfl, _, _, h7, _⟩ := h
      rw [Tx_len, List.length_cons]
      omega
    have e2 : (Str.ofString "of").length = 2 := by decide +kernel
    refine ⟨⟨a1, fun c hc => nsg_low c (nm_nsg h c hc), trivial⟩, ?_, by simp [tmD, sD, PyData.depth, PyData.depthAll, dep]⟩
    simp only [tmD, sD, mZ, mZs, wt, e2]
    omega
  | .un w a, h => by
    obtain ⟨i1, i2, i3⟩ := tm_sz (t := a) h
    obtain ⟨a1, a2⟩ := low_words _ (kids_arg (t := .un w a) rfl)
    have a2' : w.s.length ≤ 4 := a2
    refine ⟨⟨a1, i1, trivial⟩, by simp only [tmD, sD, mZ, mZs, wt]; omega, by simp only [tmD, sD, PyData.depth, PyData.depthAll, dep]; omega⟩
  | .bi w a b, h => by
    obtain ⟨i1, i2, i3⟩ := tm_sz (t := a) h.1
    obtain ⟨j1, j2, j3⟩ := tm_sz (t := b) h.2
    obtain ⟨a1, a2⟩ := low_words _ (kids_arg (t := .bi w a b) rfl)
    have a2' : w.s.length ≤ 4 := a2
    refine ⟨⟨a1, i1, j1, trivial⟩, by simp only [tmD, sD, mZ, mZs, wt]; omega, by simp only [tmD, sD, PyData.depth, PyData.depthAll, dep]; omega⟩
  | .pick c a b, h => by
    obtain ⟨k1, k2, k3⟩ := tm_sz (t := c) h.1
    obtain ⟨i1, i2, i3⟩ := tm_sz (t := a) h.2.1
    obtain ⟨j1, j2, j3⟩ := tm_sz (t := b) h.2.2
    obtain ⟨a1, a2⟩ := low_words _ (kids_arg (t := .pick c a b) rfl)
    have a2' : (Str.ofString "pick").length ≤ 4 := a2
    refine ⟨⟨a1, k1, i1, j1, trivial⟩, by simp only [tmD, sD, mZ, mZs, wt]; omega, by simp only [tmD, sD, PyData.depth, PyData.depthAll, dep]; omega⟩
  | .part a hi lo, h => by
    obtain ⟨i1, i2, i3⟩ := tm_sz (t := a) h.1
    obtain ⟨a1, a2⟩ := low_words _ (kids_arg (t := .part a hi lo) rfl)
    have a2' : (Str.ofString "part").length ≤ 4 := a2
    have h1 := h.2.1
    have h2 := h.2.2
    refine ⟨⟨a1, i1, lg7 h2, lg7 (by omega), trivial⟩, by simp only [tmD, sD, mZ, mZs, wt]; omega, by simp only [tmD, sD, PyData.depth, PyData.depthAll, dep]; omega⟩
/-! ### made anew: data, lists of data; tuples -/
def EvY (p : Addr) (te : TE) (σ : L2.St) (H : Hp) (d : PyData) : Prop := ∀ H1, Ex H H1 → ∀ Q : VK, (∀ v H2, Ex H1 H2 → Dz p H2 v d → Q v H2) → te σ H1 Q
def EvYA (p : Addr) (ta : TA) (σ : L2.St) (H : Hp) (ds : List PyData) : Prop := ∀ H1, Ex H H1 → ∀ Q : List V → Hp → Prop, (∀ vs H2, Ex H1 H2 → DzAll p H2 vs ds → Q vs H2) → ta σ H1 Q
def EvYL (p : Addr) (te : TE) (σ : L2.St) (H : Hp) (ds : List PyData) : Prop := ∀ H1, Ex H H1 → ∀ Q : VK, (∀ g xs H2, H1 g = none → Ex H1 H2 → H2 g = some (.lst xs) → DzAll p H2 xs ds → Q (.ref g) H2) → te σ H1 Q
def EvZ (te : TE) (σ : L2.St) (H : Hp) (xs : List V) : Prop := ∀ H1, Ex H H1 → ∀ Q : VK, (∀ a H2, Ex H1 H2 → H2 a = some (.tup xs) → Q (.ref a) H2) → te σ H1 Q
section
variable {K : PySem.W.Frag} {p : Addr} {σ : L2.St} {H : Hp} {v : V} {d : PyData} {ds es : List PyData} {te ta tb : TE} {tA : TA} {tz : TS} {D : Ends}
theorem ey_v (h : Ev te σ H v) (hd : Dz p H v d) : EvY p te σ H d := fun H1 e Q q => h H1 e Q fun H2 e2 => q v H2 e2 (hd.ex (e.trans e2))
theorem ey_s (s : String) : EvY p (tC (.str (Str.ofString s))) σ H (sS s) := ey_v ev_c (.str' _)
theorem ey_neg : EvY p (tUn (rU fun i => .int (-i)) (tC (.int 1))) σ H (.int (-1)) := fun H1 e Q q => ⟨1, rfl, q _ H1 (Ex.refl _) (.int _)⟩
theorem ey_dct : EvY p tDNewK σ H (.dict []) := fun H1 e Q q g ng => q _ _ (Ex.new ng) (.dct upd_same)
theorem ya_nil : EvYA p tNil σ H [] := fun H1 e Q q => q [] H1 (Ex.refl _) .nil
theorem ya_cons (h : EvY p te σ H d) (hr : EvYA p tA σ H ds) : EvYA p (tCons te tA) σ H (d :: ds) := fun H1 e Q q => h H1 e _ fun v H2 e2 hv => hr H2 (e.trans e2) _ fun vs H3 e3 hvs => q (v :: vs) H3 (e2.trans e3) (.cons (hv.ex e3) hvs)
theorem ey_tup (h : EvYA p tA σ H ds) (hz : ds.length ≤ 1000) : EvY p (tTup tA) σ H (.tuple ds) := fun H1 e Q q => h H1 e _ fun vs H2 e2 hvs => ⟨sz_of (by rw [hvs.len]; omega), fun a na => q _ _ (e2.trans (Ex.new na)) (.tup upd_same (hvs.ex (Ex.new na)))⟩
theorem ey_lst (hP : PotAt H p) (h : EvYA p tA σ H ds) (hz : ds.length ≤ 1000) : EvY p (tLstN tA) σ H (.list ds) := fun H1 e Q q => h H1 e _ fun vs H2 e2 hvs => ⟨sz_of (by rw [hvs.len]; omega), fun a na ns => q _ _ (e2.trans (Ex.new na)) (.lst upd_same ((hP.ex (e.trans e2)).ne na) ns (hvs.ex (Ex.new na)))⟩
theorem yl_lst (h : EvYA p tA σ H ds) (hz : ds.length ≤ 1000) : EvYL p (tLst tA) σ H ds := fun H1 e Q q => h H1 e _ fun vs H2 e2 hvs => ⟨sz_of (by rw [hvs.len]; omega), fun a na => q a vs _ (fresh_back e2 na) (e2.trans (Ex.new na)) upd_same (hvs.ex (Ex.new na))⟩
theorem yl_cat {g : Addr} {xs : List V} (ha : Ev ta σ H (.ref g)) (hg : H g = some (.lst xs)) (hx : DzAll p H xs ds) (hb : EvYL p tb σ H es) (hz : ds.length + es.length ≤ 1000) : EvYL p (tOp rCat ta tb) σ H (ds ++ es) := fun H1 e Q q =>
  ha H1 e _ fun H2 e2 => hb H2 (e.trans e2) _ fun r ys H3 nr e3 h3 hy => ⟨g, r, xs, ys, rfl, rfl, e3 _ _ (e2 _ _ (e _ _ hg)), h3, sz_of (by rw [hx.len, hy.len]; omega), fun s ns => q s _ _ (fresh_back (e2.trans e3) ns) ((e2.trans e3).trans (Ex.new ns)) upd_same (((hx.ex (e.trans (e2.trans e3))).app hy).ex (Ex.new ns))⟩
theorem q_asgYL {i : Nat} (h : EvYL p te σ H ds) (k : ∀ g xs H1, H g = none → Ex H H1 → H1 g = some (.lst xs) → DzAll p H1 xs ds → tz D (σ.set i (some (.ref g))) H1) : tSeq (tAsg te (gName i)) tz D σ H := h H (Ex.refl _) _ fun g xs H1 n e hg hx => k g xs H1 n e hg hx
theorem ez_v {a : Addr} {xs : List V} (h : Ev te σ H (.ref a)) (ha : H a = some (.tup xs)) : EvZ te σ H xs := fun H1 e Q q => h H1 e Q fun H2 e2 => q a H2 e2 (e2 _ _ (e _ _ ha))
theorem ez_u {xs : List V} (h : EvU te σ H xs) : EvZ te σ H xs := fun H1 e Q q => h H1 e Q fun a H2 _ e2 h2 => q a H2 e2 h2
theorem ez_tup {xs : List V} (h : EvA tA σ H xs) (hz : xs.length ≤ 1000) : EvZ (tTup tA) σ H xs := fun H1 e Q q => h H1 e _ fun H2 e2 => ⟨sz_of (by omega), fun a na => q a _ (e2.trans (Ex.new na)) upd_same⟩
theorem ez_sl {a : Addr} {xs : List V} {lo hi : Option Int} {tlo thi : TO} (h : Ev te σ H (.ref a)) (h1 : EvO tlo σ H lo) (h2 : EvO thi σ H hi) (ha : H a = some (.tup xs)) : EvZ (tSl (rSlA K) te tlo thi) σ H (cutV xs lo hi) := fun H1 e Q q =>
  h H1 e _ fun H2 e2 => h1 H2 (e.trans e2) _ fun H3 e3 => h2 H3 ((e.trans e2).trans e3) _ fun H4 e4 => by
    have ha4 := e4 _ _ (e3 _ _ (e2 _ _ (e _ _ ha)))
    refine ⟨a, xs, rfl, st_of ha4, fun hw => ?_, fun _ l nl => q l _ (((e2.trans e3).trans e4).trans (Ex.new nl)) upd_same⟩
    have : cutV xs lo hi = xs := by
      unfold cutV
      rw [hw.1, hw.2]
      simp
    rw [this] at q
    exact q a H4 ((e2.trans e3).trans e4) ha4
theorem ez_cat {xs ys : List V} (ha : EvZ ta σ H xs) (hb : ∀ H1, Ex H H1 → EvZ tb σ H1 ys) (hz : xs.length + ys.length ≤ 10000) : EvZ (tOp (rCatA K) ta tb) σ H (xs ++ ys) := fun H1 e Q q =>
  ha H1 e _ fun a H2 e2 h2 => hb H2 (e.trans e2) H2 (Ex.refl _) _ fun b H3 e3 h3 => ⟨a, b, xs, ys, rfl, rfl, st_of (e3 _ _ h2), st_of h3, sz_of (by omega), fun h => by
    rw [h, List.nil_append] at q
    exact q b H3 (e2.trans e3) h3, fun _ h => by
    rw [h, List.append_nil] at q
    exact q a H3 (e2.trans e3) (e3 _ _ h2), fun _ _ l nl => q l _ ((e2.trans e3).trans (Ex.new nl)) upd_same⟩
theorem op_catAK {X : Cx} {K : PySem.W.Frag} (h : X.K = K) : OpR X (binaryOp .Add) (rCatA K) := h ▸ op_catA
theorem s_extXL {l : Addr} {xs : List V} {G : List V → Hp → Prop} (hl : H l = some (.lst xs)) (ha : Ev ta σ H (.ref l)) (h : EvXL te σ H G) (hz : ∀ ys H1, G ys H1 → xs.length + ys.length ≤ 100000) (k : ∀ ys H1, Ex H H1 → H1 l = some (.lst xs) → G ys H1 → D.nx σ (L2.upd H1 l (.lst (xs ++ ys)))) :
    tDrop (tBM K "list" rExtend ta (tCons te tNil)) D σ H := ha H (Ex.refl H) _ fun H1 e1 =>
  ⟨Or.inl ⟨rfl, xs, sq_of (e1 l _ hl)⟩, h H1 e1 _ fun r ys H2 _ e2 h2 g => ⟨l, r, xs, ys, rfl, rfl, e2 l _ (e1 l _ hl), h2, sz_of (hz ys H2 g), k ys H2 (e1.trans e2) (e2 l _ (e1 l _ hl)) g⟩⟩
theorem elx_lcX {tl : TE} {j : Nat} {vs : List Nat} {n : Nat} {G0 : List V → Hp → Prop} {G : Nat → V → Hp → Prop} (h : EvXL tl σ H G0) (hn : ∀ xs H1, G0 xs H1 → xs.length = n) (hz : n ≤ 40000) (hw : ∀ x, wipe ((wipe σ vs).set j (some x)) vs = wipe σ vs)
    (he : ∀ xs H1, Ex H H1 → G0 xs H1 → ∀ (k : Nat) x H2, Ex H1 H2 → xs[k]? = some x → EvX te ((wipe σ vs).set j (some x)) H2 (G k)) (hg : ∀ k v H1 H2, ExT H1 H2 → G k v H1 → G k v H2) :
    EvXL (tLc (iList K tl) (gName j) tYes te vs) σ H (fun ys H2 => ys.length = n ∧ ∀ k y, ys[k]? = some y → G k y H2) := fun H0 e0 Q q =>
  h H0 e0 _ fun a xs H1 na e1 hx g0 => ⟨a, rfl, ⟨xs, sq_of hx⟩, fun Dl hD => by
    have hxn := hn xs H1 g0
    refine lc_list (xs := xs) (fun i H4 => Ex H1 H4 ∧ ∃ ys : List V, H4 Dl = some (.lst ys) ∧ ys.length = i ∧ ∀ k v, ys[k]? = some v → G k v H4) ⟨Ex.new hD, [], upd_same, rfl, fun k v h => by cases h⟩ (fun i H' _ p => sq_of (p.1 a _ hx)) (fun i x H' hi p => ⟨hw x, ?_⟩) (fun H' p => ?_)
    · obtain ⟨e4, ys, h4, hn4, hs⟩ := p
      have hil := (List.getElem?_eq_some_iff.mp hi).1
      show te ((wipe σ vs).set j (some x)) H' _
      refine he xs H1 (e0.trans e1) g0 i x H' e4 hi H' (Ex.refl _) _ fun u H5 e5 g5 => ?_
      have h5 := e5 Dl _ h4
      have et : ExT H' (L2.upd H5 Dl (.lst (ys ++ [u]))) := (ExT.of e5).upd h5
      refine ⟨ys, h5, sz_lt (by omega), Ex.mut (e4.trans e5) hD, ys ++ [u], upd_same, by rw [List.length_append, hn4]; rfl, fun m w hm => ?_⟩
      by_cases hlt : m < ys.length
      · rw [List.getElem?_append_left hlt] at hm
        exact hg m w _ _ et (hs m w hm)
      · rw [List.getElem?_append_right (by omega)] at hm
        have : m - ys.length = 0 := by
          match hq : m - ys.length, hm with
          | 0, _ => rfl
        rw [this] at hm
        cases hm
        rw [show m = i by omega]
        exact hg i u _ _ ((ExT.refl H5).upd h5) g5
    · obtain ⟨e4, ys, h4, hn4, hs⟩ := p
      exact q Dl ys H' (fresh_back e1 hD) (e1.trans e4) h4 ⟨by omega, hs⟩⟩
end
theorem callR_or {X : Cx} {f : Value} {r1 r2 : List V → Hp → VK → Prop} (h1 : CallR X f r1) (h2 : CallR X f r2) : CallR X f (fun xs H Q => r1 xs H Q ∨ r2 xs H Q) := by
  intro pins s σ H xs us Q I rel h
  rcases h with h | h
  · exact h1 pins s σ H xs us Q I rel h
  · exact h2 pins s σ H xs us Q I rel h
/-! ### paths in the heap -/
def PthL (H : Hp) (pss : List (List Nat)) (xs : List V) : Prop := All2 (fun (ks : List Nat) v => ∃ a, v = .ref a ∧ H a = some (.tup (ks.map fun k : Nat => V.int (k : Int)))) pss xs
theorem PthL.mono {H H' : Hp} {pss : List (List Nat)} {xs : List V} (h : PthL H pss xs) (e : ExT H H') : PthL H' pss xs := h.map fun ks v ⟨a, h1, h2⟩ => ⟨a, h1, e _ _ h2⟩
def pathsTo (ds : List PyData) (k : Nat) : List (List Nat) := pathsZs 0 (ds.take k)
theorem pathss_app : ∀ (a b : List PyData) (k : Nat), pathsZs k (a ++ b) = pathsZs k a ++ pathsZs (k + a.length) b
  | [], b, k => by simp [pathsZs]
  | x :: a, b, k => by
    have := pathss_app a b (k + 1)
    simp only [List.cons_append, pathsZs, this, List.length_cons, List.append_assoc]
    rw [show k + 1 + a.length = k + (a.length + 1) by omega]
theorem pathsTo_succ {ds : List PyData} {k : Nat} {d : PyData} (h : ds[k]? = some d) : pathsTo ds (k + 1) = pathsTo ds k ++ (pathsZ d).map (k :: ·) := by
  unfold pathsTo
  have hl := (List.getElem?_eq_some_iff.mp h).1
  rw [List.take_add_one, h, pathss_app]
  simp only [Option.toList_some, pathsZs, List.append_nil, Nat.zero_add, List.length_take]
  rw [Nat.min_eq_left (by omega)]
mutual
theorem paths_len : ∀ d : PyData, (pathsZ d).length ≤ mZ d
  | .tuple ds => by
    have := pathss_len ds 0
    simp only [pathsZ, List.length_cons, mZ]
    omega
  | .none => by simp [pathsZ, mZ]
  | .bool _ => by simp [pathsZ, mZ]
  | .int _ => by simp [pathsZ, mZ]
  | .str _ => by simp [pathsZ, mZ]
  | .list _ => by simp [pathsZ, mZ]
  | .dict _ => by simp [pathsZ, mZ]
theorem pathss_len : ∀ (ds : List PyData) (k : Nat), (pathsZs k ds).length ≤ mZs ds
  | [], _ => by simp [pathsZs, mZs]
  | d :: ds, k => by
    have h1 := paths_len d
    have h2 := pathss_len ds (k + 1)
    simp only [pathsZs, List.length_append, List.length_map, mZs]
    omega
end
/-! ### promises -/
def DzS (p : Addr) (m n : Nat) (v : V) (H : Hp) : Prop := ∃ d, Dz p H v d ∧ Sz m n d
def spDzS (m n : Nat) : Sp := fun vs H Q _ => ∃ p : Addr, vs = [.ref p] ∧ PotAt H p ∧ ∀ (H' : Hp) (v : V), ExB p H H' → PotAt H' p → DzS p m n v H' → Q v H'
def TmW : V → Hp → Prop := fun v H => ∃ t, TmAt H t v ∧ TmTx t ∧ dep t ≤ 12 ∧ wt t ≤ 64
theorem TmW.dz {p : Addr} {v : V} {H : Hp} (h : TmW v H) : DzS p 900 13 v H := by
  obtain ⟨t, h1, h2, h3, h4⟩ := h
  obtain ⟨a, b, c⟩ := tm_sz h2
  exact ⟨tmD t, h1.dz, a, by omega, by omega⟩
theorem TmW.mono {v : V} {H H' : Hp} (h : TmW v H) (e : ExT H H') : TmW v H' := let ⟨t, a, b⟩ := h; ⟨t, TmAt.mono e a, b⟩
def spTmW : Sp := fun vs H Q _ => ∃ p : Addr, vs = [.ref p] ∧ PotAt H p ∧ ∀ (H' : Hp) (v : V), ExB p H H' → PotAt H' p → TmW v H' → Q v H'
def spPth (n : Nat) : Sp := fun vs H Q _ => ∃ (p : Addr) (v : V) (d : PyData), vs = [v] ∧ Dz p H v d ∧ d.depth ≤ n ∧ mZ d ≤ 5000 ∧ ∀ (g : Addr) (xs : List V) (H' : Hp), H g = none → Ex H H' → H' g = some (.lst xs) → PthL H' (pathsZ d) xs → Q (.ref g) H'
def spPartAt : Sp := fun vs H Q _ => ∃ (p : Addr) (v : V) (a : Addr) (d c : PyData) (ks : List Nat), vs = [v, .ref a] ∧ Dz p H v d ∧ H a = some (.tup (ks.map fun k : Nat => V.int (k : Int))) ∧ partZ d ks = some c ∧ ∀ (v' : V) (H' : Hp), Ex H H' → Dz p H' v' c → Q v' H'
def spWith (n : Nat) : Sp := fun vs H Q _ => ∃ (p : Addr) (v : V) (a : Addr) (u : V) (d c e : PyData) (ks : List Nat), vs = [v, .ref a, u] ∧ Dz p H v d ∧ H a = some (.tup (ks.map fun k : Nat => V.int (k : Int))) ∧ Dz p H u e ∧ partZ d ks = some c ∧ ks.length ≤ n ∧ n ≤ 100 ∧ mZ d ≤ 5000 ∧ ∀ (v' : V) (H' : Hp), Ex H H' → Dz p H' v' (withZ d ks e) → Q v' H'
def spOther : Sp := fun vs H Q _ => ∃ (p : Addr) (v : V) (c : PyData) (m n : Nat), vs = [.ref p, v] ∧ PotAt H p ∧ Dz p H v c ∧ Sz m n c ∧ m ≤ 4000 ∧ ∀ (v' : V) (e : PyData) (H' : Hp), ExB p H H' → PotAt H' p → Dz p H' v' e → Sz (m + 60) (n + 3) e → Q v' H'
def spSpoilt : Sp := fun vs H Q _ => ∃ (p : Addr) (v : V) (d : PyData) (m n : Nat), vs = [.ref p, v] ∧ PotAt H p ∧ Dz p H v d ∧ Sz m n d ∧ m ≤ 2000 ∧ n ≤ 20 ∧ ∀ (v' : V) (e : PyData) (H' : Hp), ExB p H H' → PotAt H' p → Dz p H' v' e → Sz (2 * m + 60) (n + 3) e → Q v' H'
def spWt (n : Nat) : Sp := fun vs H Q _ => ∃ (p : Addr) (v : V) (d : PyData), vs = [v, .int (11 - (n : Int))] ∧ n ≤ 10 ∧ Dz p H v d ∧ mZ d ≤ 39000 ∧ ∀ H', Ex H H' → Q (.int (wZ n d : Int)) H'
def numZ : PyData → Int → Bool
  | .int i, m => decide (0 ≤ i) && decide (i ≤ m)
  | _, _ => false
def spNum : Sp := fun vs H Q _ => ∃ (p : Addr) (v : V) (d : PyData) (m : Int), vs = [v, .int m] ∧ Dz p H v d ∧ ∀ H', Ex H H' → Q (.bl (numZ d m)) H'
def spLeafZ : Sp := fun vs H Q _ => ∃ (p a : Addr) (w : Str) (xs : List V) (r : List PyData), vs = [.ref a] ∧ H a = some (.tup (.str w :: xs)) ∧ DzAll p H xs r ∧ (w = Str.ofString "is" ∨ w = Str.ofString "of") ∧ mZs r ≤ 39000 ∧ ∀ H', Ex H H' → Q (.bl (shellZ (.tuple (.str w :: r)))) H'
def spRightZ : Sp := fun vs H Q _ => ∃ (p : Addr) (v : V) (d : PyData), vs = [v] ∧ Dz p H v d ∧ SmZ d ∧ ∀ H', Ex H H' → Q (.bl true) H'
end Dw
namespace Dw
open PySem L2 Evl
theorem mZ_pos : ∀ d : PyData, 1 ≤ mZ d := by intro d; cases d <;> simp [mZ]
theorem len_mZs : ∀ ds : List PyData, ds.length ≤ mZs ds
  | [] => by simp [mZs]
  | d :: ds => by
    have := len_mZs ds
    have := mZ_pos d
    simp only [mZs, List.length_cons]
    omega
theorem partZ_len : ∀ {ks : List Nat} {d c : PyData}, partZ d ks = some c → ks.length ≤ mZ d
  | [], d, c, h => by simp
  | k :: ks, d, c, h => by
    obtain ⟨ds, d', rfl, hk, h'⟩ := part_step h
    have h1 := partZ_len h'
    have h2 := mZs_mem (List.mem_of_getElem? hk)
    simp only [List.length_cons, mZ]
    omega
end Dw

set_option Elab.async false
set_option linter.all false
set_option maxRecDepth 100000
set_option maxHeartbeats 2000000
namespace Dw
open PySem L2 Evl
section
variable {K : PySem.W.Frag} {p : Addr} {σ : L2.St} {H : Hp} {v : V} {d : PyData} {te ta tb : TE} {tA : TA} {tz : TS} {D : Ends}
theorem ev_eq0 {a : Addr} {xs : List V} (h : Ev ta σ H (.ref a)) (ha : H a = some (.tup xs)) : Ev (tOp (rEq0 K) ta (tTup tNil)) σ H (.bl (decide (xs = []))) := fun H1 e Q q =>
  h H1 e _ fun H2 e2 => ⟨by show 0 ≤ sizeLine; decide, fun t nt => ⟨a, t, xs, rfl, rfl, st_of ((Ex.new nt) _ _ (e2 _ _ (e _ _ ha))), st_of upd_same, q _ (e2.trans (Ex.new nt))⟩⟩
theorem cut_take {xs : List V} {k : Nat} (h : k ≤ xs.length) : cutV xs none (some (k : Int)) = xs.take k := by
  unfold cutV
  rw [HT.sIx_none, HT.sIx_nat, Nat.min_eq_left h]
  simp
theorem cut_drop {xs : List V} {k : Nat} (h : k ≤ xs.length) : cutV xs (some (k : Int)) none = xs.drop k := by
  unfold cutV
  rw [HT.sIx_none, HT.sIx_nat, Nat.min_eq_left h]
  exact List.take_of_length_le (by rw [List.length_drop]; omega)
theorem q_asgZ {i : Nat} {xs : List V} (h : EvZ te σ H xs) (k : ∀ a H1, Ex H H1 → H1 a = some (.tup xs) → tz D (σ.set i (some (.ref a))) H1) : tSeq (tAsg te (gName i)) tz D σ H := h H (Ex.refl _) _ fun a H1 e ha => k a H1 e ha
theorem s_asgZ {i : Nat} {xs : List V} (h : EvZ te σ H xs) (k : ∀ a H1, Ex H H1 → H1 a = some (.tup xs) → D.nx (σ.set i (some (.ref a))) H1) : tAsg te (gName i) D σ H := h H (Ex.refl _) _ fun a H1 e ha => k a H1 e ha
theorem s_retZ {xs : List V} (h : EvZ te σ H xs) (k : ∀ a H1, Ex H H1 → H1 a = some (.tup xs) → D.rt (.ref a) H1) : tRet te D σ H := h H (Ex.refl _) _ fun a H1 e ha => k a H1 e ha
theorem s_retY (h : EvY p te σ H d) (k : ∀ v H1, Ex H H1 → Dz p H1 v d → D.rt v H1) : tRet te D σ H := h H (Ex.refl _) _ fun v H1 e hv => k v H1 e hv
theorem q_asgY {i : Nat} (h : EvY p te σ H d) (k : ∀ v H1, Ex H H1 → Dz p H1 v d → tz D (σ.set i (some v)) H1) : tSeq (tAsg te (gName i)) tz D σ H := h H (Ex.refl _) _ fun v H1 e hv => k v H1 e hv
theorem el_mapT {tl : TE} {a : Addr} {xs : List V} {j : Nat} {vs : List Nat} (g : Nat → V) (h : Ev tl σ H (.ref a)) (ha : H a = some (.tup xs)) (hz : xs.length ≤ 40000) (hw : ∀ x, wipe ((wipe σ vs).set j (some x)) vs = wipe σ vs)
    (he : ∀ (i : Nat) (x : V) H1, Ex H H1 → xs[i]? = some x → Ev te ((wipe σ vs).set j (some x)) H1 (g i)) : EvL (tLc (iTup K tl) (gName j) tYes te vs) σ H (given xs.length (fun _ => true) g) := fun H0 e Q q => h H0 e _ fun H1 e1 => ⟨a, rfl, ⟨xs, st_of (e1 _ _ (e _ _ ha))⟩, fun Dl hD =>
  lc_tup (xs := xs) (Cw H1 (fun _ => true) g Dl) ⟨hD, Ex.new hD, upd_same⟩ (fun i H' _ p => st_of (p.2.1 a _ (e1 _ _ (e _ _ ha)))) (fun i x H' hi p => ⟨hw x, cw_turn p (by have := (List.getElem?_eq_some_iff.mp hi).1; omega) et_yes (fun _ => he i x H1 (e.trans e1) hi)⟩)
    (fun H' p => q Dl H' (fresh_back e1 p.1) (e1.trans p.2.1) p.2.2)⟩
theorem ev_sumL {r : Addr} {ns : List Int} (h : Ev te σ H (.ref r)) (hr : H r = some (.lst (ns.map V.int))) : Ev (tCB (rSum K) (tCons te tNil)) σ H (.int ns.sum) := fun H1 e Q q => h H1 e _ fun H2 e2 => ⟨r, ns, rfl, sq_of (e2 _ _ (e _ _ hr)), q H2 e2⟩
/-- x in [texts], a new list -/
theorem ev_inZ {ws : List Str} (hx : Ev ta σ H v) (hd : Dz p H v d) (hb : EvL tb σ H (ws.map V.str)) : Ev (tOp (rInZ K) ta tb) σ H (.bl (inZ d ws)) := fun H1 e Q q =>
  hx H1 e _ fun H2 e2 => hb H2 (e.trans e2) _ fun g H3 ng e3 hg => ⟨p, g, d, ws, rfl, sq_of hg, hd.ex ((e.trans e2).trans e3), q H3 (e2.trans e3)⟩
end
theorem inV_ints (i : Int) : ∀ ns : List Int, inV (.int i) (ns.map V.int) = decide (i ∈ ns)
  | [] => by simp [inV]
  | n :: ns => by
    have ih := inV_ints i ns
    unfold inV at ih ⊢
    rw [List.map_cons, List.any_cons, ih, Bool.eq_iff_iff]
    simp [eqV]
    constructor
    · rintro (h | h)
      · exact .inl h.symm
      · exact .inr h
    · rintro (h | h)
      · exact .inl h.symm
      · exact .inr h
theorem flat_ints (ns : List Int) : (ns.map V.int).all flatV = true := by
  rw [List.all_eq_true]
  intro v hv
  obtain ⟨x, _, rfl⟩ := List.mem_map.mp hv
  rfl
def many5 : List (Key × V) := [(Sum.inr (Str.ofString "not"), .int 1), (Sum.inr (Str.ofString "any"), .int 1), (Sum.inr (Str.ofString "all"), .int 1), (Sum.inr (Str.ofString "part"), .int 1), (Sum.inr (Str.ofString "pick"), .int 3)]
theorem many_is : ∀ q ∈ argN, (valV (mergeK [] many5) (Sum.inr q.1)).getD (V.int 2) = V.int q.2 := by decide +kernel
theorem words12_arg : words12 = argN.map (·.1) := by decide +kernel
theorem words17_cut : cutV (words17.map V.str) none (some 12) = words12.map V.str := by
  rw [show (12 : Int) = ((12 : Nat) : Int) from rfl, cut_take (by decide)]
  rfl
theorem words17_split : words17 = words12 ++ words5 := rfl
theorem w_not {d : PyData} (h : shellZ d = false) (n : Nat) : wZ n d = 0 := by
  cases n with
  | zero => rfl
  | succ n => simp only [wZ]; rw [if_neg (by rw [h]; simp)]
theorem num_span (d e : PyData) : (wholeZ d && (numZ d 7 && (match d with | .int i => numZ e i | _ => false))) = spanZ d e := by
  cases d with
  | int h =>
    cases e with
    | int l =>
      show (true && ((decide (0 ≤ h) && decide (h ≤ 7)) && (decide (0 ≤ l) && decide (l ≤ h)))) = (decide (0 ≤ l) && decide (l ≤ h) && decide (h < 8))
      rw [Bool.eq_iff_iff]
      simp only [Bool.and_eq_true, decide_eq_true_eq, true_and]
      omega
    | _ => simp [numZ, spanZ, wholeZ]
  | _ => cases e <;> rfl
def spPrevW : Nat → Sp
  | 0 => fun _ _ _ _ => False
  | n + 1 => spWt n
theorem shell_any {w : Str} {r : List PyData} {m : Nat} (n1 : w ≠ Str.ofString "is") (n2 : w ≠ Str.ofString "of") (n3 : w ≠ Str.ofString "part") (hc : argc w = some m) : shellZ (.tuple (.str w :: r)) = decide (r.length = m) := by
  simp only [shellZ, if_neg n1, if_neg n2, if_neg n3, hc]
theorem args_any {w : Str} {r : List PyData} {m : Nat} (n1 : w ≠ Str.ofString "is") (n2 : w ≠ Str.ofString "of") (hc : argc w = some m) (h : r.length = m) : argsZ (.tuple (.str w :: r)) = r := by
  simp only [argsZ, if_neg (fun z : w = Str.ofString "is" ∨ w = Str.ofString "of" => z.elim n1 n2), hc, Option.getD_some]
  rw [← h, List.take_length]
theorem shell_none {w : Str} {r : List PyData} (n1 : w ≠ Str.ofString "is") (n2 : w ≠ Str.ofString "of") (hc : argc w = none) : shellZ (.tuple (.str w :: r)) = false := by
  have n3 : w ≠ Str.ofString "part" := fun z => by
    rw [z] at hc
    have : argc (Str.ofString "part") = some 1 := by decide +kernel
    rw [this] at hc
    cases hc
  simp only [shellZ, if_neg n1, if_neg n2, if_neg n3, hc]
theorem inZ_str (x : Str) (ws : List Str) : inZ (.str x) ws = decide (x ∈ ws) := by
  unfold inZ strZ
  rw [Bool.eq_iff_iff]
  simp
theorem inZ_no {d : PyData} (h : isZ "str" d = false) (ws : List Str) : inZ d ws = false := by
  unfold inZ
  rw [List.any_eq_false]
  intro z _
  cases d with
  | str x => exact absurd h (by simp [isZ, isZs, tyZ])
  | _ => simp [strZ]
end Dw

set_option Elab.async false
set_option linter.all false
set_option maxRecDepth 100000
set_option maxHeartbeats 2000000
namespace Dw
open PySem L2 Evl
section
variable {K : PySem.W.Frag} {p : Addr} {σ : L2.St} {H : Hp} {v : V} {d : PyData} {te ta tb : TE} {tA : TA} {tz : TS} {D : Ends}
theorem el_slN {tl th : TO} {xs : List V} {lo hi : Option Int} (h : EvL te σ H xs) (h1 : EvO tl σ H lo) (h2 : EvO th σ H hi) : EvL (tSl (rSlL K) te tl th) σ H (cutV xs lo hi) := fun H1 e _ q =>
  h H1 e _ fun a H2 na e2 ha => h1 H2 (e.trans e2) _ fun H3 e3 => h2 H3 ((e.trans e2).trans e3) _ fun H4 e4 =>
    ⟨a, xs, rfl, sq_of (e4 _ _ (e3 _ _ ha)), fun p hp => q p _ (fresh_back ((e2.trans e3).trans e4) hp) (((e2.trans e3).trans e4).trans (Ex.new hp)) upd_same⟩
theorem ev_niStrsN {x : Str} {xs : List Str} (ha : Ev ta σ H (.str x)) (hb : EvL tb σ H (xs.map V.str)) : Ev (tOp (rIn K true) ta tb) σ H (.bl (!decide (x ∈ xs))) := by
  rw [← inV_strs]
  exact ev_opL ha hb fun p H1 hp _ => rv_niL (sq_of hp) rfl (flat_strs xs)
theorem ev_isZts (h : Ev ta σ H v) (hd : Dz p H v d) : Ev (tCB (rIsiT K) (tCons ta (tCons (tTup (tCons (tC (.ty "tuple")) (tCons (tC (.ty "str")) tNil))) tNil))) σ H (.bl (isZ "tuple" d || isZ "str" d)) := fun H1 e Q q =>
  h H1 e _ fun H2 e2 => ⟨by show 2 ≤ sizeLine; decide, fun t nt => ⟨v, t, [.ty "tuple", .ty "str"], .type (tyZ d), [.type "tuple", .type "str"], _, rfl, upd_same, .cons (.ty _) (.cons (.ty _) .nil), (hd.ex ((e.trans e2).trans (Ex.new nt))).ty, by
    refine kitAny_cons (b := isZ "tuple" d) (kit_ty (kit_z d).2.2.2) (fun hb => ?_) (fun hb => by rw [hb]; rfl)
    refine kitAny_cons (b := isZ "str" d) (kit_ty (kit_z d).2.2.1) (fun hs => ?_) (fun hs => by rw [hs]; simp)
    rw [hb, hs]
    rfl, q _ (e2.trans (Ex.new nt))⟩⟩
end
theorem cut_dropA {xs : List V} (k : Nat) : cutV xs (some (k : Int)) none = xs.drop k := by
  by_cases h : k ≤ xs.length
  · exact cut_drop h
  · unfold cutV
    rw [HT.sIx_none, HT.sIx_nat, Nat.min_eq_right (by omega)]
    rw [List.drop_eq_nil_of_le (Nat.le_refl _), List.drop_eq_nil_of_le (by omega)]
    simp
theorem w_leaf {w : Str} {r : List PyData} (h : w = Str.ofString "is" ∨ w = Str.ofString "of") (n : Nat) : wZ (n + 1) (.tuple (.str w :: r)) = if shellZ (.tuple (.str w :: r)) = true then 1 else 0 := by
  simp only [wZ]
  have : argsZ (.tuple (.str w :: r)) = [] := by simp only [argsZ, if_pos h]
  rw [this]
  simp
theorem w_is {d : PyData} (h : shellZ d = true) (n : Nat) : wZ (n + 1) d = if 0 ∈ (argsZ d).map (wZ n) then 0 else 1 + ((argsZ d).map (wZ n)).sum := by
  simp only [wZ]
  rw [if_pos h]
theorem sum_int (ns : List Nat) : (ns.map fun n : Nat => (n : Int)).sum = ((ns.sum : Nat) : Int) := by
  induction ns with
  | nil => rfl
  | cons n ns ih => rw [List.map_cons, List.sum_cons, ih, List.sum_cons]; omega
theorem zero_int (ns : List Nat) : (0 : Int) ∈ (ns.map fun n : Nat => (n : Int)) ↔ 0 ∈ ns := by
  rw [List.mem_map]
  constructor
  · rintro ⟨n, h, e⟩
    have : n = 0 := by omega
    exact this ▸ h
  · intro h
    exact ⟨0, h, rfl⟩
def len32 : Nat → Nat
  | 0 => 32
  | 1 => 16
  | 2 => 8
  | 3 => 4
  | 4 => 2
  | _ => 1
theorem len32_step {j L : Nat} (hj : j ≤ 5) (h : L ≤ len32 j) (h1 : 1 < L) : j + 1 ≤ 5 ∧ L / 2 + L % 2 ≤ len32 (j + 1) := by
  match j, hj with
  | 0, _ => simp [len32] at h ⊢; omega
  | 1, _ => simp [len32] at h ⊢; omega
  | 2, _ => simp [len32] at h ⊢; omega
  | 3, _ => simp [len32] at h ⊢; omega
  | 4, _ => simp [len32] at h ⊢; omega
  | 5, _ => simp [len32] at h; omega
theorem len32_le (j : Nat) : len32 j ≤ 32 := by
  match j with
  | 0 => decide
  | 1 => decide
  | 2 => decide
  | 3 => decide
  | 4 => decide
  | n + 5 => show 1 ≤ 32; decide
theorem rg2b : ∀ L : Fin 40, 1 < L.val → RgC 0 ((L.val : Int) - 1) 2 (L.val / 2) := by
  unfold RgC
  decide +kernel
end Dw
namespace Dw
open PySem L2 Evl
def num3 : PyData → PyData → Bool
  | .int i, e => numZ e i
  | _, _ => false
theorem num_span3 (d e : PyData) : (wholeZ d && (numZ d 7 && num3 d e)) = spanZ d e := by
  rw [← num_span]
  cases d <;> rfl
end Dw

set_option Elab.async false
set_option linter.all false
set_option maxRecDepth 100000
set_option maxHeartbeats 2000000
namespace Dw
open PySem L2 Evl
section
variable {K : PySem.W.Frag} {p : Addr} {σ : L2.St} {H : Hp} {v : V} {d : PyData} {te ta tb : TE} {tA : TA} {tz tu : TS} {D : Ends}
theorem ev_cutBA {l : List Nat} {th : TO} {i : Nat} (ha : Ev te σ H (.str (Tx l))) (h2 : EvO th σ H (some (i : Int))) (hz : l.length ≤ 40000) : Ev (tSl rSlS te th tNoPart) σ H (.str (Tx (l.drop i))) := by
  by_cases hi : i ≤ l.length
  · exact ev_cutB ha h2 hi hz
  · rw [List.drop_eq_nil_of_le (by omega)]
    exact fun H1 e Q q => ha H1 e _ fun H2 e2 => h2 H2 (e.trans e2) _ fun H3 e3 => eo_none H3 (Ex.refl _) _ fun H4 e4 => ⟨Tx l, rfl, sz_of (by rw [Tx_len]; omega), by
      have : cutS (Tx l) (some (i : Int)) none = Tx [] := by
        unfold cutS
        rw [Tx_len, HT.sIx_none, HT.sIx_nat, Nat.min_eq_right (by omega)]
        show Tx ((l.drop l.length).take (l.length - l.length)) = Tx []
        simp
      rw [this]
      exact q H4 ((e2.trans e3).trans e4)⟩
theorem elx_sl {tlo thi : TO} {lo hi : Option Int} {G : List V → Hp → Prop} (h : EvXL te σ H G) (h1 : EvO tlo σ H lo) (h2 : EvO thi σ H hi) (hg : ∀ xs H1 H2, Ex H1 H2 → G xs H1 → G xs H2) : EvXL (tSl (rSlL K) te tlo thi) σ H (fun xs H2 => ∃ ys, xs = cutV ys lo hi ∧ G ys H2) := fun H0 e0 Q q =>
  h H0 e0 _ fun a ys H1 na e1 ha g1 => h1 H1 (e0.trans e1) _ fun H2 e2 => h2 H2 ((e0.trans e1).trans e2) _ fun H3 e3 => ⟨a, ys, rfl, sq_of (e3 _ _ (e2 _ _ ha)), fun r nr => q r _ _ (fresh_back ((e1.trans e2).trans e3) nr) (((e1.trans e2).trans e3).trans (Ex.new nr)) upd_same ⟨ys, rfl, hg _ _ _ ((e2.trans e3).trans (Ex.new nr)) g1⟩⟩
theorem elx_const {n : Nat} {c : V} (h : EvXL te σ H (fun ys _ => ys.length = n ∧ ∀ (k : Nat) y, ys[k]? = some y → y = c)) : EvL te σ H (List.replicate n c) := fun H1 e Q q => h H1 e Q fun g xs H2 ng e2 hg hx => q g H2 ng e2 (by
  rw [hg]
  congr 2
  refine List.ext_getElem? fun k => ?_
  cases hk : xs[k]? with
  | none =>
    have := List.getElem?_eq_none_iff.mp hk
    rw [List.getElem?_eq_none_iff.mpr (by rw [List.length_replicate]; omega)]
  | some y =>
    have hl := (List.getElem?_eq_some_iff.mp hk).1
    rw [hx.2 k y hk, List.getElem?_replicate, if_pos (by omega)])
theorem sp_forR1 {j : Nat} {m : Int} (h : EvP p te σ H fun v _ => ∃ d : Int, v = .int d ∧ 0 ≤ d ∧ d ≤ m) (hm : m ≤ 100000) (hP : PotAt H p) (Pv : Nat → L2.St → Hp → Prop) (h0 : ∀ H1, ExB p H H1 → PotAt H1 p → Pv 0 σ H1)
    (hs : ∀ (i : Nat) σ' H', (i : Int) < m → Pv i σ' H' → tu { D with nx := Pv (i + 1), ct := Pv (i + 1), bk := D.nx } (σ'.set j (some (.int (i : Int)))) H') (hd : ∀ (n : Nat) σ' H', (n : Int) ≤ m → Pv n σ' H' → D.nx σ' H') : tFor (iRng1 (tCons te tNil)) (gName j) tu D σ H :=
  h H (ExB.refl _ _) hP _ fun v H1 e hP1 ⟨d, hv, d0, d1⟩ => ⟨d, by rw [hv], by omega, by omega, for_range (D := D) (lo := 0) (n := d.toNat) Pv (h0 H1 e hP1) (fun i σ' H' hi q => by
    have e0 : (0 : Int) + (i : Int) = (i : Int) := Int.zero_add _
    show tu { D with nx := Pv (i + 1), ct := Pv (i + 1), bk := D.nx } (σ'.set j (some (.int ((0 : Int) + (i : Int))))) H'
    rw [e0]
    exact hs i σ' H' (by omega) q) (fun σ' H' q => hd d.toNat σ' H' (by omega) q)⟩
end
theorem paths_pos (d : PyData) : 1 ≤ (pathsZ d).length := by cases d <;> simp [pathsZ]
def sg12 : List Nat := [97, 98, 122, 48, 49, 57, 120, 95, 65, 32, 39, 40]
theorem s_sg12 : Str.ofString "abz019x_A '(" = Tx sg12 := by decide +kernel
theorem sg12_low : ∀ c ∈ sg12, c < 16 ^ 8 := by decide
theorem sz_ins {m n k : Nat} {ds : List PyData} {od : PyData} (h : Sz m n (.tuple ds)) (ho : Sz 60 2 od) : Sz (m + 60) (n + 3) (.tuple (ds.take k ++ [od] ++ ds.drop k)) := by
  have hm := h.m
  have hd := h.dep
  have om := ho.m
  have odp := ho.dep
  simp only [mZ] at hm
  simp only [PyData.depth] at hd
  have hok := okZs_iff.mp h.ok
  have e := mZs_app (ds.take k) (ds.drop k)
  rw [List.take_append_drop] at e
  refine ⟨okZs_iff.mpr fun x hx => ?_, ?_, ?_⟩
  · rcases List.mem_append.mp hx with hx | hx
    · rcases List.mem_append.mp hx with hx | hx
      · exact hok x (List.mem_of_mem_take hx)
      · rw [List.mem_singleton.mp hx]
        exact ho.ok
    · exact hok x (List.mem_of_mem_drop hx)
  · simp only [mZ]
    rw [mZs_app, mZs_app]
    simp only [mZs]
    omega
  · simp only [PyData.depth]
    have : PyData.depthAll (ds.take k ++ [od] ++ ds.drop k) ≤ n + 2 := dep_all fun x hx => by
      rcases List.mem_append.mp hx with hx | hx
      · rcases List.mem_append.mp hx with hx | hx
        · have := dep_mem (List.mem_of_mem_take hx)
          omega
        · rw [List.mem_singleton.mp hx]
          omega
      · have := dep_mem (List.mem_of_mem_drop hx)
        omega
    omega
theorem mZs_take (ds : List PyData) (k : Nat) : mZs (ds.take k) + mZs (ds.drop k) = mZs ds := by
  have e := mZs_app (ds.take k) (ds.drop k)
  rw [List.take_append_drop] at e
  omega
theorem sz_del {m n k : Nat} {ds : List PyData} (h : Sz m n (.tuple ds)) : Sz (m + 60) (n + 3) (.tuple (ds.take k ++ ds.drop (k + 1))) := by
  have hm := h.m
  have hd := h.dep
  simp only [mZ] at hm
  simp only [PyData.depth] at hd
  have hok := okZs_iff.mp h.ok
  have e1 := mZs_take ds k
  have e2 := mZs_take (ds.drop k) 1
  rw [List.drop_drop] at e2
  refine ⟨okZs_iff.mpr fun x hx => ?_, ?_, ?_⟩
  · rcases List.mem_append.mp hx with hx | hx
    · exact hok x (List.mem_of_mem_take hx)
    · exact hok x (List.mem_of_mem_drop hx)
  · simp only [mZ]
    rw [mZs_app]
    omega
  · simp only [PyData.depth]
    have : PyData.depthAll (ds.take k ++ ds.drop (k + 1)) ≤ n + 2 := dep_all fun x hx => by
      rcases List.mem_append.mp hx with hx | hx
      · have := dep_mem (List.mem_of_mem_take hx)
        omega
      · have := dep_mem (List.mem_of_mem_drop hx)
        omega
    omega
theorem sz_lst {m n : Nat} {ds : List PyData} (h : Sz m n (.tuple ds)) : Sz (m + 60) (n + 3) (.list ds) := by
  have hm := h.m
  have hd := h.dep
  refine ⟨h.ok, ?_, ?_⟩
  · simp only [mZ] at hm ⊢
    omega
  · simp only [PyData.depth] at hd ⊢
    omega
def mmZ : Nat → Nat
  | 0 => 900
  | n + 1 => 2 * mmZ n + 60
def spPthP : Nat → Sp
  | 0 => fun _ _ _ _ => False
  | n + 1 => spPth n
def spWithP : Nat → Sp
  | 0 => fun _ _ _ _ => False
  | n + 1 => spWith n
end Dw

set_option Elab.async false
set_option linter.all false
set_option maxRecDepth 100000
set_option maxHeartbeats 2000000
namespace Dw
open PySem L2 Evl
/-! ### terms as data, and back -/
theorem argc1 : ∀ q ∈ argN, q.2 = 1 → q.1 ≠ Str.ofString "part" → ∃ w : W1, q.1 = w.s := by
  intro q hq h1 h2
  simp only [argN, List.mem_cons, List.not_mem_nil, or_false] at hq
  rcases hq with rfl | rfl | rfl | rfl | rfl | rfl | rfl | rfl | rfl | rfl | rfl | rfl
  · exact ⟨.not, rfl⟩
  · exact absurd h1 (by decide)
  · exact absurd h1 (by decide)
  · exact absurd h1 (by decide)
  · exact absurd h1 (by decide)
  · exact absurd h1 (by decide)
  · exact absurd h1 (by decide)
  · exact ⟨.any, rfl⟩
  · exact ⟨.all, rfl⟩
  · exact absurd h1 (by decide)
  · exact absurd h1 (by decide)
  · exact absurd rfl h2
theorem argc2 : ∀ q ∈ argN, q.2 = 2 → ∃ w : W2, q.1 = w.s := by
  intro q hq h1
  simp only [argN, List.mem_cons, List.not_mem_nil, or_false] at hq
  rcases hq with rfl | rfl | rfl | rfl | rfl | rfl | rfl | rfl | rfl | rfl | rfl | rfl
  · exact absurd h1 (by decide)
  · exact ⟨.and, rfl⟩
  · exact ⟨.or, rfl⟩
  · exact ⟨.xor, rfl⟩
  · exact ⟨.plus, rfl⟩
  · exact ⟨.same, rfl⟩
  · exact ⟨.less, rfl⟩
  · exact absurd h1 (by decide)
  · exact absurd h1 (by decide)
  · exact absurd h1 (by decide)
  · exact ⟨.join, rfl⟩
  · exact absurd h1 (by decide)
theorem argc3 : ∀ q ∈ argN, q.2 = 3 → q.1 = Str.ofString "pick" := by
  intro q hq h1
  simp only [argN, List.mem_cons, List.not_mem_nil, or_false] at hq
  rcases hq with rfl | rfl | rfl | rfl | rfl | rfl | rfl | rfl | rfl | rfl | rfl | rfl
  all_goals first | rfl | exact absurd h1 (by decide)
theorem name_ok {l : List Nat} (h : nameL l = true) : NmOk (Tx l) := by
  unfold nameL at h
  simp only [Bool.and_eq_true, decide_eq_true_eq, Bool.not_eq_true', decide_eq_false_iff_not] at h
  obtain ⟨⟨⟨⟨⟨h1, h2⟩, h3⟩, h4⟩, h5⟩, h6⟩ := h
  cases l with
  | nil => simp at h1
  | cons c r =>
    refine ⟨c, r, rfl, by simpa using h5, fun d hd => ?_, by simp at h2; omega, fun z => ?_⟩
    · have := List.all_eq_true.mp h6 d (List.mem_cons_of_mem _ hd)
      exact of_decide_eq_true this
    · rw [words17_split] at z
      rcases List.mem_append.mp z with z | z
      · exact h3 z
      · exact h4 z
theorem put_ok {l : List Nat} (h : putL l = true) : Sx l ∧ 1 ≤ l.length ∧ l.length ≤ 8 := by
  unfold putL at h
  simp only [Bool.and_eq_true, decide_eq_true_eq] at h
  exact ⟨fun c hc => of_decide_eq_true (List.all_eq_true.mp h.2 c hc), h.1.1, h.1.2⟩
/-- what has a weight is a term -/
theorem term_tm : ∀ (n : Nat) {d : PyData}, wZ n d ≠ 0 → ∃ t, d = tmD t ∧ TmTx t ∧ dep t ≤ n ∧ wt t = wZ n d
  | 0, d, h => absurd rfl h
  | n + 1, d, h => by
    have hsh : shellZ d = true := by
      cases hs : shellZ d with
      | true => rfl
      | false => exact absurd (w_not hs _) h
    have hw := w_is hsh n
    have hz : 0 ∉ (argsZ d).map (wZ n) := fun z => h (by rw [hw, if_pos z])
    rw [if_neg hz] at hw
    have hk : ∀ c ∈ argsZ d, wZ n c ≠ 0 := fun c hc z => hz (List.mem_map.mpr ⟨c, hc, z⟩)
    have hsh' := hsh
    unfold shellZ at hsh
    split at hsh
    · rename_i w r
      split at hsh
      · rename_i e
        subst e
        split at hsh
        · rename_i d1
          cases d1 with
          | str x =>
            have hp := put_ok (l := x.cps.toList) hsh
            have ha : argsZ (.tuple [.str (Str.ofString "is"), .str x]) = [] := by simp only [argsZ, if_pos (Or.inl trivial)]
            rw [ha] at hw
            refine ⟨.is x.cps.toList, ?_, hp, by simp [dep], by rw [hw]; rfl⟩
            simp only [tmD, sD, Tx_tl]
          | _ => simp [putZ] at hsh
        · cases hsh
      · rename_i n1
        split at hsh
        · rename_i e
          subst e
          split at hsh
          · rename_i d1
            cases d1 with
            | str x =>
              have hp := name_ok (l := x.cps.toList) hsh
              rw [Tx_tl] at hp
              have ha : argsZ (.tuple [.str (Str.ofString "of"), .str x]) = [] := by simp only [argsZ, if_pos (Or.inr trivial)]
              rw [ha] at hw
              exact ⟨.of x, rfl, hp, by simp [dep], by rw [hw]; rfl⟩
            | _ => simp [nameZ] at hsh
          · cases hsh
        · rename_i n2
          split at hsh
          · rename_i e
            subst e
            split at hsh
            · rename_i d1 d2 d3
              have hc : argc (Str.ofString "part") = some 1 := by decide +kernel
              have ha : argsZ (.tuple [.str (Str.ofString "part"), d1, d2, d3]) = [d1] := by simp only [argsZ, if_neg (fun z : Str.ofString "part" = Str.ofString "is" ∨ Str.ofString "part" = Str.ofString "of" => z.elim part_is.1 part_is.2), hc]; rfl
              rw [ha] at hw hk
              obtain ⟨t, rfl, h2, h3, h4⟩ := term_tm n (hk d1 (by simp))
              cases d2 with
              | int hi =>
                cases d3 with
                | int lo =>
                  simp only [spanZ, Bool.and_eq_true, decide_eq_true_eq] at hsh
                  obtain ⟨⟨s1, s2⟩, s3⟩ := hsh
                  obtain ⟨lo, rfl⟩ := Int.eq_ofNat_of_zero_le s1
                  obtain ⟨hi, rfl⟩ := Int.eq_ofNat_of_zero_le (by omega : 0 ≤ hi)
                  refine ⟨.part t hi lo, rfl, ⟨h2, by omega, by omega⟩, by simp only [dep]; omega, ?_⟩
                  rw [hw]
                  simp only [wt, List.map_cons, List.map_nil, List.sum_cons, List.sum_nil, h4]
                  omega
                | _ => simp [spanZ] at hsh
              | _ => simp [spanZ] at hsh
            · cases hsh
          · rename_i n3
            cases hc : argc w with
            | none => rw [hc] at hsh; cases hsh
            | some m =>
              rw [hc] at hsh
              have hl := of_decide_eq_true hsh
              obtain ⟨m3, m1, hm⟩ := argc_le hc
              have ha := args_any n1 n2 hc hl
              rw [ha] at hw hk
              match r, hl with
              | [d1], hl =>
                have : m = 1 := by simpa using hl.symm
                subst this
                obtain ⟨w1, hw1⟩ := argc1 _ hm rfl n3
                obtain ⟨t, rfl, h2, h3, h4⟩ := term_tm n (hk d1 (by simp))
                refine ⟨.un w1 t, by simp only [tmD, sD]; rw [← hw1], h2, by simp only [dep]; omega, ?_⟩
                rw [hw]
                simp only [wt, List.map_cons, List.map_nil, List.sum_cons, List.sum_nil, h4]
                omega
              | [d1, d2], hl =>
                have : m = 2 := by simpa using hl.symm
                subst this
                obtain ⟨w2, hw2⟩ := argc2 _ hm rfl
                obtain ⟨t, rfl, h2, h3, h4⟩ := term_tm n (hk d1 (by simp))
                obtain ⟨u, rfl, k2, k3, k4⟩ := term_tm n (hk d2 (by simp))
                refine ⟨.bi w2 t u, by simp only [tmD, sD]; rw [← hw2], ⟨h2, k2⟩, by simp only [dep]; omega, ?_⟩
                rw [hw]
                simp only [wt, List.map_cons, List.map_nil, List.sum_cons, List.sum_nil, h4, k4]
                omega
              | [d1, d2, d3], hl =>
                have : m = 3 := by simpa using hl.symm
                subst this
                have hw3 : w = Str.ofString "pick" := argc3 _ hm rfl
                subst hw3
                obtain ⟨t, rfl, h2, h3, h4⟩ := term_tm n (hk d1 (by simp))
                obtain ⟨u, rfl, k2, k3, k4⟩ := term_tm n (hk d2 (by simp))
                obtain ⟨v, rfl, j2, j3, j4⟩ := term_tm n (hk d3 (by simp))
                refine ⟨.pick t u v, rfl, ⟨h2, k2, j2⟩, by simp only [dep]; omega, ?_⟩
                rw [hw]
                simp only [wt, List.map_cons, List.map_nil, List.sum_cons, List.sum_nil, h4, k4, j4]
                omega
              | [], hl => exact absurd hl (by simp; omega)
              | _ :: _ :: _ :: _ :: _, hl => exact absurd hl (by simp; omega)
    · cases hsh
theorem termZ_tm {d : PyData} (h : termZ d = true) : ∃ t, d = tmD t ∧ TmTx t ∧ dep t ≤ 10 ∧ wt t ≤ 60 := by
  unfold termZ at h
  simp only [Bool.and_eq_true, decide_eq_true_eq] at h
  obtain ⟨t, h1, h2, h3, h4⟩ := term_tm 10 (d := d) (by omega)
  exact ⟨t, h1, h2, h3, by omega⟩
end Dw

set_option Elab.async false
set_option linter.all false
set_option maxRecDepth 100000
set_option maxHeartbeats 2000000
namespace Dw
open PySem L2 Evl
/-! ### reading, as the program does it -/
def mk (f : Bool) : List Nat := if f then [40] else [44, 32]
def behindF (T : List Nat) (i : Nat) (m : List Nat) : Option Nat := if (T.drop i).take m.length = m then some (i + m.length) else none
def figF (T : List Nat) (i : Nat) : Option Nat := match T[i]? with
  | some c => if 48 ≤ c ∧ c ≤ 55 then some (c - 48) else none
  | none => none
def argsF (f : Nat → Option (PyData × Nat)) (T : List Nat) : Nat → Bool → Nat → Option (List PyData × Nat)
  | 0, _, i => some ([], i)
  | k + 1, fl, i => match behindF T i (mk fl) with
    | none => none
    | some a => match f a with
      | none => none
      | some (d, b) => match argsF f T k false b with
        | none => none
        | some (ds, c) => some (d :: ds, c)
def figsF (T : List Nat) : Nat → Nat → Option (List Nat × Nat)
  | 0, i => some ([], i)
  | k + 1, i => match behindF T i [44, 32] with
    | none => none
    | some a => match figF T a with
      | none => none
      | some x => match figsF T k (a + 1) with
        | none => none
        | some (xs, c) => some (x :: xs, c)
def opF (f : Nat → Option (PyData × Nat)) (T : List Nat) (w : Str) (i : Nat) : Option (PyData × Nat) :=
  match argsF f T ((argc w).getD 0) true i with
  | none => none
  | some (ds, a) => match figsF T (if w = Str.ofString "part" then 2 else 0) a with
    | none => none
    | some (xs, b) => match behindF T b [41] with
      | none => none
      | some c => some (.tuple (.str w :: (ds ++ xs.map fun x : Nat => PyData.int (x : Int))), c)
def termF : Nat → List Nat → Nat → Option (PyData × Nat)
  | 0, _, _ => none
  | n + 1, T, i => if (T.drop i).take 1 = [39] then some (.tuple [sS "is", .str (Tx (runT T (i + 1)))], i + 1 + (runT T (i + 1)).length)
    else match argc (Tx (runT T i)) with
      | some _ => opF (termF n T) T (Tx (runT T i)) (i + (runT T i).length)
      | none => some (.tuple [sS "of", .str (Tx (runT T i))], i + (runT T i).length)
/-! ### the text of data -/
def strOf : List PyData → List Nat
  | [.str x] => x.cps.toList
  | _ => []
mutual
def txZ : PyData → List Nat
  | .tuple (.str w :: r) => if w = Str.ofString "is" then 39 :: strOf r else if w = Str.ofString "of" then strOf r else w.cps.toList ++ bod true (txZs r) ++ [41]
  | .int i => [48 + i.toNat]
  | _ => []
def txZs : List PyData → List (List Nat)
  | [] => []
  | d :: ds => txZ d :: txZs ds
end
theorem txZs_map : ∀ ds : List PyData, txZs ds = ds.map txZ
  | [] => rfl
  | d :: ds => by rw [txZs, txZs_map ds]; rfl
theorem run_split (T : List Nat) (i : Nat) : T.drop i = runT T i ++ T.drop (i + (runT T i).length) := by
  unfold runT
  rw [← List.drop_drop]
  generalize T.drop i = L
  induction L with
  | nil => rfl
  | cons c L ih =>
    by_cases h : c ∈ nsg
    · rw [List.takeWhile_cons, if_pos (decide_eq_true h)]
      simp only [List.cons_append, List.length_cons, List.drop_succ_cons]
      rw [← ih]
    · rw [List.takeWhile_cons, if_neg (by simpa using h)]
      rfl
theorem behind_split {T m : List Nat} {i j : Nat} (h : behindF T i m = some j) : T.drop i = m ++ T.drop j ∧ j = i + m.length := by
  unfold behindF at h
  split at h
  · rename_i hm
    cases h
    refine ⟨?_, rfl⟩
    have := List.take_append_drop m.length (T.drop i)
    rw [hm, List.drop_drop] at this
    exact this.symm
  · cases h
theorem fig_split {T : List Nat} {i x : Nat} (h : figF T i = some x) : T.drop i = [48 + x] ++ T.drop (i + 1) ∧ x ≤ 7 := by
  unfold figF at h
  split at h
  · rename_i c hc
    split at h
    · rename_i h2
      cases h
      obtain ⟨hl, hg⟩ := List.getElem?_eq_some_iff.mp hc
      refine ⟨?_, by omega⟩
      rw [List.drop_eq_getElem_cons hl, hg, show 48 + (c - 48) = c by omega]
      rfl
    · cases h
  · cases h
theorem bod_app : ∀ (x : List Nat) (A B : List (List Nat)) (f : Bool), bod f ((x :: A) ++ B) = bod f (x :: A) ++ bod false B
  | x, [], B, f => by simp [bod]
  | x, y :: A, B, f => by
    have := bod_app y A B false
    rw [List.cons_append, bod, this]
    conv => rhs; rw [bod]
    simp [List.append_assoc]
theorem args_sound {f : Nat → Option (PyData × Nat)} {T : List Nat} (hf : ∀ a d b, f a = some (d, b) → T.drop a = txZ d ++ T.drop b) : ∀ {k : Nat} {fl : Bool} {i : Nat} {ds : List PyData} {c : Nat}, argsF f T k fl i = some (ds, c) → T.drop i = bod fl (ds.map txZ) ++ T.drop c ∧ ds.length = k
  | 0, fl, i, ds, c, h => by
    cases h
    exact ⟨rfl, rfl⟩
  | k + 1, fl, i, ds, c, h => by
    unfold argsF at h
    split at h
    · cases h
    · rename_i a ha
      split at h
      · cases h
      · rename_i d b hb
        split at h
        · cases h
        · rename_i es e he
          cases h
          obtain ⟨h1, _⟩ := behind_split ha
          have h2 := hf _ _ _ hb
          obtain ⟨h3, h4⟩ := args_sound hf he
          refine ⟨?_, by rw [List.length_cons, h4]⟩
          rw [h1, h2, h3, List.map_cons, bod]
          simp [mk, List.append_assoc]
theorem figs_sound {T : List Nat} : ∀ {k i : Nat} {xs : List Nat} {c : Nat}, figsF T k i = some (xs, c) → T.drop i = bod false (xs.map fun x => [48 + x]) ++ T.drop c ∧ xs.length = k ∧ ∀ x ∈ xs, x ≤ 7
  | 0, i, xs, c, h => by
    cases h
    exact ⟨rfl, rfl, fun x hx => by cases hx⟩
  | k + 1, i, xs, c, h => by
    unfold figsF at h
    split at h
    · cases h
    · rename_i a ha
      split at h
      · cases h
      · rename_i x hx
        split at h
        · cases h
        · rename_i ys e he
          cases h
          obtain ⟨h1, _⟩ := behind_split ha
          obtain ⟨h2, h5⟩ := fig_split hx
          obtain ⟨h3, h4, h6⟩ := figs_sound he
          refine ⟨?_, by rw [List.length_cons, h4], fun z hz => ?_⟩
          · rw [h1, h2, h3, List.map_cons, bod]
            simp [List.append_assoc]
          · rcases List.mem_cons.mp hz with rfl | hz
            · exact h5
            · exact h6 z hz
theorem txZ_op {w : Str} {r : List PyData} (n1 : w ≠ Str.ofString "is") (n2 : w ≠ Str.ofString "of") : txZ (.tuple (.str w :: r)) = w.cps.toList ++ bod true (r.map txZ) ++ [41] := by
  rw [txZ, if_neg n1, if_neg n2, txZs_map]
theorem term_sound : ∀ (n : Nat) {T : List Nat} {i : Nat} {d : PyData} {j : Nat}, termF n T i = some (d, j) → T.drop i = txZ d ++ T.drop j
  | 0, T, i, d, j, h => by cases h
  | n + 1, T, i, d, j, h => by
    unfold termF at h
    split at h
    · rename_i h1
      cases h
      have e1 : T.drop i = [39] ++ T.drop (i + 1) := by
        have := List.take_append_drop 1 (T.drop i)
        rw [h1, List.drop_drop] at this
        exact this.symm
      rw [e1, run_split T (i + 1)]
      simp [txZ, sS, strOf, Tx]
    · split at h
      · rename_i k hk
        unfold opF at h
        split at h
        · cases h
        · rename_i ds a ha
          split at h
          · cases h
          · rename_i xs b hb
            split at h
            · cases h
            · rename_i c hc
              cases h
              obtain ⟨k1, k2, k3⟩ := argc_le hk
              obtain ⟨n1, n2⟩ := argN_ok _ k3
              obtain ⟨h2, h3⟩ := args_sound (fun a d b h => term_sound n h) ha
              obtain ⟨h4, h5, h6⟩ := figs_sound hb
              obtain ⟨h7, _⟩ := behind_split hc
              rw [hk, Option.getD_some] at h3
              obtain ⟨d0, dr, rfl⟩ : ∃ d0 dr, ds = d0 :: dr := by
                cases ds with
                | nil => simp at h3; omega
                | cons d0 dr => exact ⟨d0, dr, rfl⟩
              have e : ((d0 :: dr) ++ xs.map fun x : Nat => PyData.int (x : Int)).map txZ = (txZ d0 :: dr.map txZ) ++ xs.map fun x => [48 + x] := by
                rw [List.map_append, List.map_cons, List.map_map]
                congr 1
              rw [txZ_op n1 n2, run_split T i, h2, h4, h7, e, bod_app, List.map_cons]
              simp [List.append_assoc, Tx]
      · cases h
        rw [run_split T i]
        have : (Str.ofString "of") ≠ Str.ofString "is" := of_is
        simp [txZ, sS, strOf, Tx, this]
theorem txZ_tm : ∀ {t : Tm}, TmTx t → txZ (tmD t) = txT t
  | .is l, h => by simp [tmD, sD, txZ, strOf, txT, Tx]
  | .of x, h => by
    have : (Str.ofString "of") ≠ Str.ofString "is" := of_is
    simp [tmD, sD, txZ, strOf, txT, this]
  | .un w a, h => by
    obtain ⟨n1, n2⟩ := argN_ok _ (kids_arg (t := .un w a) rfl)
    have i := txZ_tm (t := a) h
    rw [tmD, sD, txZ_op (w := w.s) n1 n2, List.map_cons, i]
    rfl
  | .bi w a b, h => by
    obtain ⟨n1, n2⟩ := argN_ok _ (kids_arg (t := .bi w a b) rfl)
    have i := txZ_tm (t := a) h.1
    have j := txZ_tm (t := b) h.2
    rw [tmD, sD, txZ_op (w := w.s) n1 n2, List.map_cons, List.map_cons, i, j]
    rfl
  | .pick c a b, h => by
    obtain ⟨n1, n2⟩ := argN_ok _ (kids_arg (t := .pick c a b) rfl)
    have k := txZ_tm (t := c) h.1
    have i := txZ_tm (t := a) h.2.1
    have j := txZ_tm (t := b) h.2.2
    rw [tmD, sD, txZ_op (w := Str.ofString "pick") n1 n2, List.map_cons, List.map_cons, List.map_cons, i, j, k]
    rfl
  | .part a hi lo, h => by
    obtain ⟨n1, n2⟩ := argN_ok _ (kids_arg (t := .part a hi lo) rfl)
    have i := txZ_tm (t := a) h.1
    rw [tmD, sD, txZ_op (w := Str.ofString "part") n1 n2, List.map_cons, i]
    rfl
/-! ### reading what is written -/
theorem behind_is {pre m post : List Nat} : behindF (pre ++ m ++ post) pre.length m = some (pre.length + m.length) := by
  unfold behindF
  rw [if_pos]
  rw [List.append_assoc, List.drop_left, List.take_left]
theorem args_is {f : Nat → Option (PyData × Nat)} {T : List Nat} : ∀ (ts : List Tm) (fl : Bool) (pre rest : List Nat), T = pre ++ bod fl (ts.map txT) ++ rest → Stop rest → (∀ t ∈ ts, ∀ p q, T = p ++ txT t ++ q → Stop q → f p.length = some (tmD t, p.length + (txT t).length)) → argsF f T ts.length fl pre.length = some (ts.map tmD, pre.length + (bod fl (ts.map txT)).length)
  | [], fl, pre, rest, h, hs, hf => by simp [argsF, bod]
  | t :: ts, fl, pre, rest, h, hs, hf => by
    have e1 : T = pre ++ mk fl ++ (txT t ++ bod false (ts.map txT) ++ rest) := by
      rw [h, List.map_cons, bod]
      simp [mk, List.append_assoc]
    have b1 : behindF T pre.length (mk fl) = some (pre.length + (mk fl).length) := by rw [e1]; exact behind_is
    have e2 : T = (pre ++ mk fl) ++ txT t ++ (bod false (ts.map txT) ++ rest) := by rw [e1]; simp [List.append_assoc]
    have hq : Stop (bod false (ts.map txT) ++ rest) := by
      cases ts with
      | nil => exact hs
      | cons u us => exact fun c hc => by cases hc; decide
    have f1 := hf t (List.mem_cons_self ..) _ _ e2 hq
    rw [List.length_append] at f1
    have e3 : T = (pre ++ mk fl ++ txT t) ++ bod false (ts.map txT) ++ rest := by rw [e2]; simp [List.append_assoc]
    have r1 := args_is ts false (pre ++ mk fl ++ txT t) rest e3 hs (fun u hu => hf u (List.mem_cons_of_mem _ hu))
    rw [List.length_append, List.length_append] at r1
    rw [List.length_cons]
    unfold argsF
    rw [b1]
    simp only [f1, r1]
    rw [List.map_cons, List.map_cons, bod, List.length_append, List.length_append]
    simp only [mk]
    congr 2
    omega
theorem figs_is {T : List Nat} : ∀ (xs : List Nat) (pre rest : List Nat), T = pre ++ bod false (xs.map fun x => [48 + x]) ++ rest → (∀ x ∈ xs, x ≤ 7) → figsF T xs.length pre.length = some (xs, pre.length + (bod false (xs.map fun x => [48 + x])).length)
  | [], pre, rest, h, hx => by simp [figsF, bod]
  | x :: xs, pre, rest, h, hx => by
    have e1 : T = pre ++ [44, 32] ++ ([48 + x] ++ bod false (xs.map fun x => [48 + x]) ++ rest) := by
      rw [h, List.map_cons, bod]
      simp [List.append_assoc]
    have b1 : behindF T pre.length [44, 32] = some (pre.length + 2) := by rw [e1]; exact behind_is
    have h7 := hx x (List.mem_cons_self ..)
    have f1 : figF T (pre.length + 2) = some x := by
      unfold figF
      have : T[pre.length + 2]? = some (48 + x) := by
        rw [e1, List.append_assoc, List.getElem?_append_right (by omega)]
        rw [show pre.length + 2 - pre.length = 2 by omega]
        rfl
      rw [this]
      simp only
      rw [if_pos (by omega), show 48 + x - 48 = x by omega]
    have e3 : T = (pre ++ [44, 32] ++ [48 + x]) ++ bod false (xs.map fun x => [48 + x]) ++ rest := by rw [e1]; simp [List.append_assoc]
    have r1 := figs_is xs (pre ++ [44, 32] ++ [48 + x]) rest e3 (fun y hy => hx y (List.mem_cons_of_mem _ hy))
    simp only [List.length_append, List.length_cons, List.length_nil] at r1
    rw [List.length_cons]
    unfold figsF
    rw [b1]
    simp only [f1]
    rw [show pre.length + 2 + 1 = pre.length + (0 + 1 + 1) + (0 + 1) by omega, r1]
    simp only [List.map_cons, bod, List.length_append, List.length_cons, List.length_nil]
    congr 2
    simp
    omega
def endN : Tm → List Nat
  | .part _ hi lo => [hi, lo]
  | _ => []
theorem endsT_N (t : Tm) : endsT t = (endN t).map fun x => [48 + x] := by cases t <;> rfl
theorem tmD_open : ∀ {t : Tm}, leafy t = false → tmD t = .tuple (.str (wordOf t) :: ((kids t).map tmD ++ (endN t).map fun x : Nat => PyData.int (x : Int)))
  | .un _ _, _ => rfl
  | .bi _ _ _, _ => rfl
  | .pick _ _ _, _ => rfl
  | .part _ _ _, _ => rfl
  | .is _, h => by cases h
  | .of _, h => by cases h
theorem endN_len {t : Tm} (h : leafy t = false) : (endN t).length = if wordOf t = Str.ofString "part" then 2 else 0 := by
  rcases part_word h with ⟨s, hi, lo, rfl⟩ | ⟨np, _, _⟩
  · rfl
  · rw [if_neg np]
    cases t with
    | part a hi lo => exact absurd rfl np
    | _ => rfl
theorem argc_of {w : Str} {n : Nat} (h : (w, (n : Int)) ∈ argN) : argc w = some n := by
  have key : ∀ q ∈ argN, argc q.1 = some q.2.toNat := by decide +kernel
  have := key _ h
  simpa using this
theorem word_first39 {t : Tm} (h : leafy t = false) : ∃ c l, (wordOf t).cps.toList = c :: l ∧ c ≠ 39 := word_first (kids_arg h)
theorem term_is : ∀ (n : Nat) (t : Tm) (pre post : List Nat), dep t ≤ n → TmTx t → Stop post → termF n (pre ++ txT t ++ post) pre.length = some (tmD t, pre.length + (txT t).length)
  | 0, t, pre, post, h, _, _ => absurd h (by have := dep_pos t; omega)
  | n + 1, t, pre, post, hd, hx, hp => by
    generalize hT : pre ++ txT t ++ post = T
    have hdr : T.drop pre.length = txT t ++ post := by rw [← hT, List.append_assoc, List.drop_left]
    cases hlf : leafy t with
    | true =>
      cases t with
      | is l =>
        have h1 : (T.drop pre.length).take 1 = [39] := by rw [hdr]; rfl
        have hr : runT T (pre.length + 1) = l := by
          have := run_is (pre := pre ++ [39]) (w := l) (post := post) (sx_nsg hx.1) hp
          rw [List.length_append] at this
          rw [← hT]
          simpa [txT, List.append_assoc] using this
        unfold termF
        rw [if_pos h1, hr]
        simp [tmD, sD, sS, txT]
        omega
      | of x =>
        obtain ⟨c, l, hxe, hc1, _, _, _⟩ := id hx
        have hcl : x.cps.toList = c :: l := by rw [hxe]
        have h1 : (T.drop pre.length).take 1 ≠ [39] := by
          rw [hdr]
          show (x.cps.toList ++ post).take 1 ≠ [39]
          rw [hcl]
          intro z
          have : c = 39 := by simpa using z
          rw [this] at hc1
          exact absurd hc1 (by decide)
        have hr : runT T pre.length = x.cps.toList := by
          rw [← hT]
          exact run_is (nm_nsg hx) hp
        unfold termF
        rw [if_neg h1, hr, Tx_tl]
        have hna : argc x = none := by
          cases hc : argc x with
          | none => rfl
          | some m => exact absurd (List.mem_map.mpr ⟨_, (argc_le hc).2.2, rfl⟩) (nm_notArg hx)
        rw [hna]
        simp [tmD, sD, sS, txT]
      | un w a => cases hlf
      | bi w a b => cases hlf
      | pick c a b => cases hlf
      | part a hi lo => cases hlf
    | false =>
      have harg := kids_arg hlf
      have htx := txT_open hlf
      rw [endsT_N] at htx
      obtain ⟨c, l, hcl, hc39⟩ := word_first39 hlf
      have h1 : (T.drop pre.length).take 1 ≠ [39] := by
        rw [hdr, htx, hcl]
        intro z
        exact hc39 (by simpa using z)
      have e0 : T = pre ++ (wordOf t).cps.toList ++ (bod true ((kids t).map txT ++ (endN t).map fun x => [48 + x]) ++ 41 :: post) := by
        rw [← hT, htx]
        simp [List.append_assoc]
      have hr : runT T pre.length = (wordOf t).cps.toList := by
        rw [e0]
        exact run_is (fun c hc => word_nsg _ harg c hc) stop_bod
      have hac := argc_of harg
      obtain ⟨k0, kr, hk⟩ : ∃ k0 kr, kids t = k0 :: kr := by
        cases t with
        | un w a => exact ⟨_, _, rfl⟩
        | bi w a b => exact ⟨_, _, rfl⟩
        | pick c a b => exact ⟨_, _, rfl⟩
        | part a hi lo => exact ⟨_, _, rfl⟩
        | is l => cases hlf
        | of x => cases hlf
      have ebod : bod true ((kids t).map txT ++ (endN t).map fun x => [48 + x]) = bod true ((kids t).map txT) ++ bod false ((endN t).map fun x => [48 + x]) := by
        rw [hk, List.map_cons]
        exact bod_app _ _ _ _
      rw [ebod] at e0
      have e1 : T = (pre ++ (wordOf t).cps.toList) ++ bod true ((kids t).map txT) ++ (bod false ((endN t).map fun x => [48 + x]) ++ 41 :: post) := by rw [e0]; simp [List.append_assoc]
      have a1 := args_is (f := termF n T) (T := T) (kids t) true (pre ++ (wordOf t).cps.toList) _ e1 stop_bod (fun s hs p q hT2 hq => by
        have := term_is n s p q (by have := dep_kids hs; omega) (hx.kids s hs) hq
        rw [← hT2] at this
        exact this)
      have e2 : T = (pre ++ (wordOf t).cps.toList ++ bod true ((kids t).map txT)) ++ bod false ((endN t).map fun x => [48 + x]) ++ (41 :: post) := by rw [e1]; simp [List.append_assoc]
      have a2 := figs_is (T := T) (endN t) _ _ e2 (fun x hx2 => by
        cases t with
        | part a hi lo =>
          simp only [endN, List.mem_cons, List.not_mem_nil, or_false] at hx2
          rcases hx2 with rfl | rfl
          · exact hx.2.2
          · have := hx.2.1
            have := hx.2.2
            omega
        | _ => cases hx2)
      have e3 : T = (pre ++ (wordOf t).cps.toList ++ bod true ((kids t).map txT) ++ bod false ((endN t).map fun x => [48 + x])) ++ [41] ++ post := by rw [e2]; simp [List.append_assoc]
      have a3 : behindF T (pre ++ (wordOf t).cps.toList ++ bod true ((kids t).map txT) ++ bod false ((endN t).map fun x => [48 + x])).length [41] = some ((pre ++ (wordOf t).cps.toList ++ bod true ((kids t).map txT) ++ bod false ((endN t).map fun x => [48 + x])).length + 1) := by
        have := behind_is (pre := pre ++ (wordOf t).cps.toList ++ bod true ((kids t).map txT) ++ bod false ((endN t).map fun x => [48 + x])) (m := [41]) (post := post)
        rw [← e3] at this
        exact this
      simp only [List.length_append] at a1 a2 a3
      unfold termF
      rw [if_neg h1, hr, Tx_tl, hac]
      simp only
      unfold opF
      rw [hac, Option.getD_some, a1]
      simp only
      rw [← endN_len hlf, a2]
      simp only
      rw [a3]
      simp only
      rw [tmD_open hlf, htx, ebod]
      simp only [List.length_append, List.length_singleton]
      congr 2
      omega
def readF (T : List Nat) : Option PyData := match termF 10 T 0 with
  | some (d, j) => if j = T.length ∧ termZ d = true then some d else none
  | none => none
theorem read_iff {T : List Nat} {d : PyData} : readF T = some d ↔ termZ d = true ∧ txZ d = T := by
  constructor
  · intro h
    unfold readF at h
    split at h
    · rename_i e j he
      split at h
      · rename_i hj
        cases h
        have := term_sound 10 he
        rw [hj.1, List.drop_length, List.append_nil, List.drop_zero] at this
        exact ⟨hj.2, this.symm⟩
      · cases h
    · cases h
  · rintro ⟨h1, h2⟩
    obtain ⟨t, rfl, hx, hd, hw⟩ := termZ_tm h1
    rw [txZ_tm hx] at h2
    have := term_is 10 t [] [] hd hx (fun c h => by cases h)
    simp only [List.nil_append, List.append_nil, List.length_nil, Nat.zero_add] at this
    unfold readF
    rw [← h2, this]
    simp only
    rw [if_pos ⟨trivial, h1⟩]
end Dw

set_option Elab.async false
set_option linter.all false
set_option maxRecDepth 100000
set_option maxHeartbeats 2000000
namespace Dw
open PySem L2 Evl
/-! ### brackets -/
def dl (c : Nat) : Int := (if c = 40 then 1 else 0) - (if c = 41 then 1 else 0)
def net : List Nat → Int
  | [] => 0
  | c :: r => dl c + net r
theorem net_app : ∀ a b : List Nat, net (a ++ b) = net a + net b
  | [], b => by simp [net]
  | c :: a, b => by
    have := net_app a b
    simp only [List.cons_append, net, this]
    omega
/-- never below nought, no comma at nought -/
def lo : Int → List Nat → Prop
  | _, [] => True
  | k, c :: r => (c = 44 → 1 ≤ k) ∧ 0 ≤ k + dl c ∧ lo (k + dl c) r
theorem lo_app : ∀ {a b : List Nat} {k : Int}, lo k (a ++ b) ↔ lo k a ∧ lo (k + net a) b
  | [], b, k => by simp [lo, net]
  | c :: a, b, k => by
    have := lo_app (a := a) (b := b) (k := k + dl c)
    simp only [List.cons_append, lo, this, net]
    rw [show k + dl c + net a = k + (dl c + net a) by omega]
    exact ⟨fun ⟨h1, h2, h3, h4⟩ => ⟨⟨h1, h2, h3⟩, h4⟩, fun ⟨⟨h1, h2, h3⟩, h4⟩ => ⟨h1, h2, h3, h4⟩⟩
theorem lo_up : ∀ {a : List Nat} {k m : Int}, lo k a → k ≤ m → lo m a
  | [], _, _, _, _ => trivial
  | c :: a, k, m, h, hm => ⟨fun e => by have := h.1 e; omega, by have := h.2.1; omega, lo_up h.2.2 (by omega)⟩
theorem lo_plain : ∀ {a : List Nat} {k : Int}, (∀ c ∈ a, c ≠ 40 ∧ c ≠ 41 ∧ c ≠ 44) → 0 ≤ k → lo k a ∧ net a = 0
  | [], k, _, _ => ⟨trivial, rfl⟩
  | c :: a, k, h, hk => by
    obtain ⟨h1, h2, h3⟩ := h c (List.mem_cons_self ..)
    have d0 : dl c = 0 := by simp [dl, h1, h2]
    obtain ⟨i1, i2⟩ := lo_plain (a := a) (k := k + dl c) (fun x hx => h x (List.mem_cons_of_mem _ hx)) (by omega)
    exact ⟨⟨fun e => absurd e h3, by omega, i1⟩, by simp only [net]; omega⟩
def Clo (x : List Nat) : Prop := lo 0 x ∧ net x = 0
theorem nsg_plain : ∀ c ∈ nsg, c ≠ 40 ∧ c ≠ 41 ∧ c ≠ 44 := by decide
theorem join_lo : ∀ {xs : List (List Nat)}, (∀ x ∈ xs, Clo x) → lo 1 (joinC xs) ∧ net (joinC xs) = 0
  | [], _ => ⟨trivial, rfl⟩
  | [x], h => by
    obtain ⟨h1, h2⟩ := h x (by simp)
    exact ⟨lo_up h1 (by decide), h2⟩
  | x :: y :: r, h => by
    obtain ⟨h1, h2⟩ := h x (by simp)
    obtain ⟨i1, i2⟩ := join_lo (xs := y :: r) fun z hz => h z (List.mem_cons_of_mem _ hz)
    rw [joinC]
    refine ⟨lo_app.mpr ⟨lo_app.mpr ⟨lo_up h1 (by decide), ?_⟩, ?_⟩, ?_⟩
    · rw [h2]
      simp [lo, dl]
    · rw [net_app, h2]
      simpa [net, dl] using i1
    · rw [net_app, net_app, h2, i2]
      simp [net, dl]
theorem word_plain {t : Tm} (h : leafy t = false) : ∀ c ∈ (wordOf t).cps.toList, c ≠ 40 ∧ c ≠ 41 ∧ c ≠ 44 := fun c hc => nsg_plain c (word_nsg _ (kids_arg h) c hc)
theorem clo_op {t : Tm} (h : leafy t = false) {xs : List (List Nat)} {x : List Nat} (hx : ∀ y ∈ x :: xs, Clo y) (e : (kids t).map txT ++ endsT t = x :: xs) : Clo (txT t) := by
  rw [txT_open h, e, bod_join]
  obtain ⟨j1, j2⟩ := join_lo hx
  obtain ⟨w1, w2⟩ := lo_plain (word_plain h) (Int.le_refl 0)
  simp only [if_true]
  refine ⟨lo_app.mpr ⟨lo_app.mpr ⟨w1, ?_⟩, ?_⟩, ?_⟩
  · rw [w2]
    simpa [lo, dl] using j1
  · rw [net_app, w2]
    simp only [List.singleton_append, net, j2]
    simp [lo, dl]
  · rw [net_app, net_app, w2]
    simp only [List.singleton_append, net, j2]
    simp [dl]
theorem fig_clo {k : Nat} (h : k ≤ 7) : Clo [48 + k] := lo_plain (fun c hc => by rw [List.mem_singleton.mp hc]; omega) (Int.le_refl 0)
theorem tx_clo : ∀ {t : Tm}, TmTx t → Clo (txT t)
  | .is l, h => lo_plain (fun c hc => by
      rcases List.mem_cons.mp hc with rfl | hc
      · decide
      · exact nsg_plain c (sx_nsg h.1 c hc)) (Int.le_refl 0)
  | .of x, h => lo_plain (fun c hc => nsg_plain c (nm_nsg h c hc)) (Int.le_refl 0)
  | .un w a, h => clo_op (t := .un w a) rfl (x := txT a) (xs := []) (fun y hy => by
      rw [List.mem_singleton.mp hy]
      exact tx_clo (t := a) h) rfl
  | .bi w a b, h => clo_op (t := .bi w a b) rfl (x := txT a) (xs := [txT b]) (fun y hy => by
      have i := tx_clo (t := a) h.1
      have j := tx_clo (t := b) h.2
      simp only [List.mem_cons, List.not_mem_nil, or_false] at hy
      rcases hy with rfl | rfl
      · exact i
      · exact j) rfl
  | .pick c a b, h => clo_op (t := .pick c a b) rfl (x := txT c) (xs := [txT a, txT b]) (fun y hy => by
      have k := tx_clo (t := c) h.1
      have i := tx_clo (t := a) h.2.1
      have j := tx_clo (t := b) h.2.2
      simp only [List.mem_cons, List.not_mem_nil, or_false] at hy
      rcases hy with rfl | rfl | rfl
      · exact k
      · exact i
      · exact j) rfl
  | .part a hi lo, h => clo_op (t := .part a hi lo) rfl (x := txT a) (xs := [[48 + hi], [48 + lo]]) (fun y hy => by
      have i := tx_clo (t := a) h.1
      have h1 := h.2.1
      have h2 := h.2.2
      simp only [List.mem_cons, List.not_mem_nil, or_false] at hy
      rcases hy with rfl | rfl | rfl
      · exact i
      · exact fig_clo h2
      · exact fig_clo (by omega)) rfl
/-! ### a text by its commas -/
def partsGo : Int → List Nat → List (List Nat) → List Nat → List (List Nat)
  | _, cur, done, [] => done ++ [cur]
  | k, cur, done, c :: r => if c = 44 ∧ k + dl c = 0 then partsGo (k + dl c) [] (done ++ [cur]) r else partsGo (k + dl c) (cur ++ [c]) done r
def behindAll : List (List Nat) → List (List Nat)
  | [] => []
  | x :: xs => x :: xs.map (·.drop 1)
def partsF (T : List Nat) : List (List Nat) := behindAll (partsGo 0 [] [] T)
theorem go_pass : ∀ {x : List Nat} {k : Int} {cur r : List Nat} {done : List (List Nat)}, lo k x → partsGo k cur done (x ++ r) = partsGo (k + net x) (cur ++ x) done r
  | [], k, cur, r, done, _ => by simp [net]
  | c :: x, k, cur, r, done, h => by
    have ih := go_pass (x := x) (k := k + dl c) (cur := cur ++ [c]) (r := r) (done := done) h.2.2
    rw [List.cons_append, partsGo, if_neg, ih]
    · simp only [net, List.append_assoc, List.singleton_append]
      rw [show k + dl c + net x = k + (dl c + net x) by omega]
    · rintro ⟨e, z⟩
      have := h.1 e
      subst e
      simp [dl] at z
      omega
theorem go_join : ∀ (xs : List (List Nat)) {x cur : List Nat} {done : List (List Nat)}, (∀ y ∈ x :: xs, Clo y) → partsGo 0 cur done (joinC (x :: xs)) = done ++ (cur ++ x) :: xs.map (32 :: ·)
  | [], x, cur, done, h => by
    obtain ⟨h1, h2⟩ := h x (by simp)
    have := go_pass (x := x) (k := 0) (cur := cur) (r := []) (done := done) h1
    rw [List.append_nil] at this
    rw [joinC, this]
    rfl
  | y :: xs, x, cur, done, h => by
    obtain ⟨h1, h2⟩ := h x (by simp)
    have ih := go_join xs (x := y) (cur := [32]) (done := done ++ [cur ++ x]) fun z hz => h z (List.mem_cons_of_mem _ hz)
    rw [joinC, List.append_assoc, go_pass h1, h2]
    show partsGo (0 + 0) (cur ++ x) done (44 :: 32 :: joinC (y :: xs)) = _
    rw [partsGo, if_pos (by simp [dl]), partsGo, if_neg (by simp)]
    simp only [dl]
    simp only [show ((0 : Int) + 0 + ((if (44 : Nat) = 40 then 1 else 0) - (if (44 : Nat) = 41 then 1 else 0)) + ((if (32 : Nat) = 40 then 1 else 0) - (if (32 : Nat) = 41 then 1 else 0))) = 0 by decide, List.nil_append]
    rw [ih]
    simp
theorem parts_join {x : List Nat} {xs : List (List Nat)} (h : ∀ y ∈ x :: xs, Clo y) : partsF (joinC (x :: xs)) = x :: xs := by
  unfold partsF
  rw [go_join xs h]
  simp [behindAll, Function.comp_def]
/-! ### the law's guess -/
def digN : List Nat → Option Nat
  | [c] => if 48 ≤ c ∧ c ≤ 55 then some (c - 48) else none
  | _ => none
def opG (g : List Nat → PyData) (w : List Nat) (ps : List (List Nat)) : PyData :=
  if Tx w = Str.ofString "part" ∧ ps.length = 3 ∧ (digN (ps.getD 1 [])).isSome ∧ (digN (ps.getD 2 [])).isSome then
    .tuple [.str (Tx w), g (ps.getD 0 []), .int (((digN (ps.getD 1 [])).getD 0 : Nat) : Int), .int (((digN (ps.getD 2 [])).getD 0 : Nat) : Int)]
  else .tuple (.str (Tx w) :: ps.map g)
def wordG (T : List Nat) : List Nat := T.takeWhile fun c => decide (c ≠ 40)
def guessF : Nat → List Nat → PyData
  | 0, T => if T.take 1 = [39] then .tuple [sS "is", .str (Tx (T.drop 1))] else .tuple [sS "of", .str (Tx T)]
  | n + 1, T => if T.take 1 = [39] then .tuple [sS "is", .str (Tx (T.drop 1))] else if T.getLast? ≠ some 41 ∨ 40 ∉ T then .tuple [sS "of", .str (Tx T)]
    else opG (guessF n) (wordG T) (partsF ((T.drop ((wordG T).length + 1)).dropLast))
theorem word_is : ∀ {w r : List Nat}, (∀ c ∈ w, c ≠ 40) → wordG (w ++ 40 :: r) = w
  | [], r, _ => by simp [wordG]
  | c :: w, r, h => by
    have := word_is (w := w) (r := r) fun x hx => h x (List.mem_cons_of_mem _ hx)
    have hc := h c (List.mem_cons_self ..)
    unfold wordG at this ⊢
    rw [List.cons_append, List.takeWhile_cons, if_pos (decide_eq_true hc), this]
theorem dig_is {k : Nat} (h : k ≤ 7) : digN [48 + k] = some k := by
  show (if 48 ≤ 48 + k ∧ 48 + k ≤ 55 then some (48 + k - 48) else none) = some k
  rw [if_pos (by omega), show 48 + k - 48 = k by omega]
theorem guess_leaf {n : Nat} {T : List Nat} (h1 : T.take 1 ≠ [39]) (h2 : T.getLast? ≠ some 41) : guessF n T = .tuple [sS "of", .str (Tx T)] := by
  cases n with
  | zero => rw [guessF, if_neg h1]
  | succ n => rw [guessF, if_neg h1, if_pos (.inl h2)]
theorem guess_is : ∀ (n : Nat) (t : Tm), dep t ≤ n + 1 → TmTx t → guessF n (txT t) = tmD t := by
  intro n
  induction n with
  | zero =>
    intro t hd hx
    cases t with
    | is l => rfl
    | of x =>
      obtain ⟨c, l, hxe, hc1, _, _, _⟩ := id hx
      have hcl : x.cps.toList = c :: l := by rw [hxe]
      show guessF 0 x.cps.toList = _
      rw [guessF, if_neg (by
        rw [hcl]
        intro z
        have : c = 39 := by simpa using z
        rw [this] at hc1
        exact absurd hc1 (by decide)), Tx_tl]
      rfl
    | un w a => have := dep_pos a; simp only [dep] at hd; omega
    | bi w a b => have := dep_pos a; simp only [dep] at hd; omega
    | pick c a b => have := dep_pos a; simp only [dep] at hd; omega
    | part a hi lo => have := dep_pos a; simp only [dep] at hd; omega
  | succ n ih =>
    intro t hd hx
    cases hlf : leafy t with
    | true =>
      cases t with
      | is l => rfl
      | of x =>
        obtain ⟨c, l, hxe, hc1, _, _, _⟩ := id hx
        have hcl : x.cps.toList = c :: l := by rw [hxe]
        show guessF (n + 1) x.cps.toList = _
        rw [guess_leaf (by
          rw [hcl]
          intro z
          have : c = 39 := by simpa using z
          rw [this] at hc1
          exact absurd hc1 (by decide)) (fun z => by
          have hm := List.mem_of_getLast? z
          exact (nsg_plain 41 (nm_nsg hx 41 hm)).2.1 rfl), Tx_tl]
        rfl
      | un w a => cases hlf
      | bi w a b => cases hlf
      | pick c a b => cases hlf
      | part a hi lo => cases hlf
    | false =>
      obtain ⟨x, xs, hxs⟩ : ∃ x xs, (kids t).map txT ++ endsT t = x :: xs := by
        cases t with
        | un w a => exact ⟨_, _, rfl⟩
        | bi w a b => exact ⟨_, _, rfl⟩
        | pick c a b => exact ⟨_, _, rfl⟩
        | part a hi lo => exact ⟨_, _, rfl⟩
        | is l => cases hlf
        | of x => cases hlf
      have htx : txT t = (wordOf t).cps.toList ++ 40 :: (joinC (x :: xs) ++ [41]) := by
        rw [txT_open hlf, hxs, bod_join]
        simp
      obtain ⟨c, l, hcl, hc39⟩ := word_first39 hlf
      have hw : wordG (txT t) = (wordOf t).cps.toList := by
        rw [htx]
        exact word_is fun c hc => (word_plain hlf c hc).1
      have hclo : ∀ y ∈ x :: xs, Clo y := by
        intro y hy
        rw [← hxs] at hy
        rcases List.mem_append.mp hy with h | h
        · obtain ⟨s, hs, rfl⟩ := List.mem_map.mp h
          exact tx_clo (hx.kids s hs)
        · obtain ⟨k, rfl, hk⟩ := hx.part y h
          exact fig_clo hk
      rw [guessF, if_neg (by
        rw [htx, hcl]
        intro z
        exact hc39 (by simpa using z)), if_neg (by
        rintro (z | z)
        · exact z (by
            rw [htx, show (wordOf t).cps.toList ++ 40 :: (joinC (x :: xs) ++ [41]) = ((wordOf t).cps.toList ++ 40 :: joinC (x :: xs)) ++ [41] by simp]
            exact List.getLast?_concat)
        · exact z (by rw [htx]; simp)), hw]
      have hin : ((txT t).drop ((wordOf t).cps.toList.length + 1)).dropLast = joinC (x :: xs) := by
        rw [htx, ← List.drop_drop, List.drop_left]
        simp
      rw [hin, parts_join hclo, ← hxs]
      have hk : ∀ s ∈ kids t, guessF n (txT s) = tmD s := fun s hs => ih s (by have := dep_kids hs; omega) (hx.kids s hs)
      unfold opG
      rw [Tx_tl]
      rcases part_word hlf with ⟨s, hi, lo, rfl⟩ | ⟨np, _, _⟩
      · have h1 := hx.2.1
        have h2 := hx.2.2
        have hks := hk s (by simp [kids])
        have d1 : digN [48 + hi] = some hi := dig_is h2
        have d2 : digN [48 + lo] = some lo := dig_is (by omega)
        simp only [kids, endsT, List.map_cons, List.map_nil, List.cons_append, List.nil_append, List.getD_cons_zero, List.getD_cons_succ, d1, d2, hks]
        rw [if_pos ⟨rfl, rfl, rfl, rfl⟩]
        rfl
      · rw [if_neg fun z => np z.1, tmD_open hlf]
        have he : endsT t = [] := no_ends np
        have hn : endN t = [] := by
          cases t with
          | part a hi lo => exact absurd rfl np
          | _ => rfl
        rw [he, hn, List.append_nil, List.map_nil, List.append_nil, List.map_map]
        congr 2
        exact List.map_congr_left fun s hs => hk s hs
def toldF (T : List Nat) : Option PyData := if termZ (guessF 10 T) = true ∧ txZ (guessF 10 T) = T then some (guessF 10 T) else none
theorem told_iff {T : List Nat} {d : PyData} : toldF T = some d ↔ termZ d = true ∧ txZ d = T := by
  unfold toldF
  constructor
  · intro h
    split at h
    · rename_i hc
      cases h
      exact hc
    · cases h
  · rintro ⟨h1, h2⟩
    obtain ⟨t, rfl, hx, hd, hw⟩ := termZ_tm h1
    have h3 := txZ_tm hx
    rw [h2] at h3
    have hg : guessF 10 T = tmD t := by rw [h3]; exact guess_is 10 t (by omega) hx
    rw [hg, if_pos ⟨h1, h2⟩]
theorem told_read (T : List Nat) : toldF T = readF T := by
  cases h : readF T with
  | some d => exact told_iff.mpr (read_iff.mp h)
  | none =>
    cases h2 : toldF T with
    | none => rfl
    | some d =>
      rw [read_iff.mpr (told_iff.mp h2)] at h
      cases h
end Dw

set_option Elab.async false
set_option linter.all false
set_option maxRecDepth 100000
set_option maxHeartbeats 2000000
namespace Dw
open PySem L2 Evl PyProof.Rows
/-! ### where reading ends -/
theorem run_le {T : List Nat} {i : Nat} (h : i ≤ T.length) : i + (runT T i).length ≤ T.length := by
  have := congrArg List.length (run_split T i)
  rw [List.length_append, List.length_drop, List.length_drop] at this
  have h2 : (runT T i).length ≤ (T.drop i).length := by
    rw [run_split T i, List.length_append]
    omega
  rw [List.length_drop] at h2
  omega
theorem behind_le {T m : List Nat} {i j : Nat} (h : behindF T i m = some j) (hm : 1 ≤ m.length) : j ≤ T.length := by
  unfold behindF at h
  split at h
  · rename_i e
    cases h
    have := congrArg List.length e
    rw [List.length_take, List.length_drop] at this
    omega
  · cases h
theorem args_le {f : Nat → Option (PyData × Nat)} {T : List Nat} (hf : ∀ a d b, a ≤ T.length → f a = some (d, b) → b ≤ T.length) : ∀ {k : Nat} {fl : Bool} {i : Nat} {ds : List PyData} {c : Nat}, i ≤ T.length → argsF f T k fl i = some (ds, c) → c ≤ T.length
  | 0, fl, i, ds, c, hi, h => by cases h; exact hi
  | k + 1, fl, i, ds, c, hi, h => by
    unfold argsF at h
    split at h
    · cases h
    · rename_i a ha
      have h1 := behind_le ha (by cases fl <;> decide)
      split at h
      · cases h
      · rename_i d b hb
        have h2 := hf _ _ _ h1 hb
        split at h
        · cases h
        · rename_i es e he
          cases h
          exact args_le hf h2 he
theorem figs_le {T : List Nat} : ∀ {k i : Nat} {xs : List Nat} {c : Nat}, i ≤ T.length → figsF T k i = some (xs, c) → c ≤ T.length
  | 0, i, xs, c, hi, h => by cases h; exact hi
  | k + 1, i, xs, c, hi, h => by
    unfold figsF at h
    split at h
    · cases h
    · rename_i a ha
      split at h
      · cases h
      · rename_i x hx
        have : a + 1 ≤ T.length := by
          unfold figF at hx
          split at hx
          · rename_i c0 hc
            exact (List.getElem?_eq_some_iff.mp hc).1
          · cases hx
        split at h
        · cases h
        · rename_i ys e he
          cases h
          exact figs_le this he
theorem term_le : ∀ (n : Nat) {T : List Nat} {i : Nat} {d : PyData} {j : Nat}, i ≤ T.length → termF n T i = some (d, j) → j ≤ T.length
  | 0, T, i, d, j, _, h => by cases h
  | n + 1, T, i, d, j, hi, h => by
    unfold termF at h
    split at h
    · rename_i h1
      cases h
      have : i + 1 ≤ T.length := by
        have := congrArg List.length h1
        rw [List.length_take, List.length_drop] at this
        simp at this
        omega
      exact run_le this
    · split at h
      · unfold opF at h
        split at h
        · cases h
        · rename_i ds a ha
          split at h
          · cases h
          · rename_i xs b hb
            split at h
            · cases h
            · rename_i c hc
              cases h
              exact behind_le hc (by decide)
      · cases h
        exact run_le hi
/-! ### what is a piece of a text, any ends -/
theorem ev_cutTA {σ : L2.St} {H : Hp} {te : TE} {tl th : TO} {l : List Nat} {i j : Nat} (ha : Ev te σ H (.str (Tx l))) (h1 : EvO tl σ H (some (i : Int))) (h2 : EvO th σ H (some (j : Int))) (hij : i ≤ j) (hz : l.length ≤ 40000) : Ev (tSl rSlS te tl th) σ H (.str (Tx ((l.drop i).take (j - i)))) := fun H1 e Q q =>
  ha H1 e _ fun H2 e2 => h1 H2 (e.trans e2) _ fun H3 e3 => h2 H3 ((e.trans e2).trans e3) _ fun H4 e4 => ⟨Tx l, rfl, sz_of (by rw [Tx_len]; omega), by
    have : cutS (Tx l) (some (i : Int)) (some (j : Int)) = Tx ((l.drop i).take (j - i)) := by
      unfold cutS
      rw [Tx_len, HT.sIx_nat, HT.sIx_nat]
      show Tx ((l.drop (min i l.length)).take (min j l.length - min i l.length)) = _
      by_cases hi : i ≤ l.length
      · rw [Nat.min_eq_left hi]
        by_cases hj : j ≤ l.length
        · rw [Nat.min_eq_left hj]
        · rw [Nat.min_eq_right (by omega), List.take_of_length_le (by rw [List.length_drop]; omega), List.take_of_length_le (by rw [List.length_drop]; omega)]
      · rw [Nat.min_eq_right (by omega : l.length ≤ i), Nat.min_eq_right (by omega : l.length ≤ j), List.drop_eq_nil_of_le (Nat.le_refl _), List.drop_eq_nil_of_le (by omega)]
        simp
    rw [this]
    exact q H4 ((e2.trans e3).trans e4)⟩
/-! ### data without lists and dicts -/
mutual
inductive Pz (H : Hp) : V → PyData → Prop
  | int (i : Int) : Pz H (.int i) (.int i)
  | str (x : Str) : Pz H (.str x) (.str x)
  | tup {a : Addr} {xs : List V} {ds : List PyData} : H a = some (.tup xs) → PzAll H xs ds → Pz H (.ref a) (.tuple ds)
inductive PzAll (H : Hp) : List V → List PyData → Prop
  | nil : PzAll H [] []
  | cons {v : V} {vs : List V} {d : PyData} {ds : List PyData} : Pz H v d → PzAll H vs ds → PzAll H (v :: vs) (d :: ds)
end
mutual
theorem Pz.mono {H H' : Hp} (e : ExT H H') : ∀ {v : V} {d : PyData}, Pz H v d → Pz H' v d
  | _, _, .int i => .int i
  | _, _, .str x => .str x
  | _, _, .tup h1 h2 => .tup (e _ _ h1) (h2.mono e)
theorem PzAll.mono {H H' : Hp} (e : ExT H H') : ∀ {vs : List V} {ds : List PyData}, PzAll H vs ds → PzAll H' vs ds
  | _, _, .nil => .nil
  | _, _, .cons h1 h2 => .cons (h1.mono e) (h2.mono e)
end
theorem Pz.ex {H H' : Hp} {v : V} {d : PyData} (h : Pz H v d) (e : Ex H H') : Pz H' v d := h.mono (ExT.of e)
theorem PzAll.ex {H H' : Hp} {vs : List V} {ds : List PyData} (h : PzAll H vs ds) (e : Ex H H') : PzAll H' vs ds := h.mono (ExT.of e)
mutual
theorem Pz.dz {p : Addr} {H : Hp} : ∀ {v : V} {d : PyData}, Pz H v d → Dz p H v d
  | _, _, .int i => .int i
  | _, _, .str x => .str' x
  | _, _, .tup h1 h2 => .tup h1 h2.dz
theorem PzAll.dz {p : Addr} {H : Hp} : ∀ {vs : List V} {ds : List PyData}, PzAll H vs ds → DzAll p H vs ds
  | _, _, .nil => .nil
  | _, _, .cons h1 h2 => .cons h1.dz h2.dz
end
theorem PzAll.len {H : Hp} : ∀ {vs : List V} {ds : List PyData}, PzAll H vs ds → vs.length = ds.length
  | _, _, .nil => rfl
  | _, _, .cons _ h2 => by rw [List.length_cons, List.length_cons, h2.len]
theorem PzAll.app {H : Hp} : ∀ {vs : List V} {ds : List PyData} {ws : List V} {es : List PyData}, PzAll H vs ds → PzAll H ws es → PzAll H (vs ++ ws) (ds ++ es)
  | _, _, _, _, .nil, h => h
  | _, _, _, _, .cons h1 h2, h => .cons h1 (h2.app h)
def argsPre (ds : List PyData) : Option (List PyData × Nat) → Option (List PyData × Nat)
  | none => none
  | some (es, c) => some (ds ++ es, c)
theorem argsPre_nil (r : Option (List PyData × Nat)) : argsPre [] r = r := by
  cases r with
  | none => rfl
  | some x => obtain ⟨a, b⟩ := x; rfl
theorem argsPre_step {f : Nat → Option (PyData × Nat)} {T : List Nat} {k a j b : Nat} {fl : Bool} {ds : List PyData} {d : PyData} (h1 : behindF T a (mk fl) = some j) (h2 : f j = some (d, b)) : argsPre ds (argsF f T (k + 1) fl a) = argsPre (ds ++ [d]) (argsF f T k false b) := by
  have e : argsF f T (k + 1) fl a = (match argsF f T k false b with | none => none | some (ds, c) => some (d :: ds, c)) := by
    rw [argsF, h1]
    simp only [h2]
    all_goals rfl
  rw [e]
  cases argsF f T k false b with
  | none => rfl
  | some x => obtain ⟨es, c⟩ := x; simp [argsPre]
theorem argsPre_no1 {f : Nat → Option (PyData × Nat)} {T : List Nat} {k a : Nat} {fl : Bool} {ds : List PyData} (h1 : behindF T a (mk fl) = none) : argsPre ds (argsF f T (k + 1) fl a) = none := by
  unfold argsF
  rw [h1]
  rfl
theorem argsPre_no2 {f : Nat → Option (PyData × Nat)} {T : List Nat} {k a j : Nat} {fl : Bool} {ds : List PyData} (h1 : behindF T a (mk fl) = some j) (h2 : f j = none) : argsPre ds (argsF f T (k + 1) fl a) = none := by
  unfold argsF
  rw [h1]
  simp only [h2]
  rfl
def figsPre (ds : List Nat) : Option (List Nat × Nat) → Option (List Nat × Nat)
  | none => none
  | some (es, c) => some (ds ++ es, c)
theorem figsPre_nil (r : Option (List Nat × Nat)) : figsPre [] r = r := by
  cases r with
  | none => rfl
  | some x => obtain ⟨a, b⟩ := x; rfl
theorem figsPre_step {T : List Nat} {k a j x : Nat} {ds : List Nat} (h1 : behindF T a [44, 32] = some j) (h2 : figF T j = some x) : figsPre ds (figsF T (k + 1) a) = figsPre (ds ++ [x]) (figsF T k (j + 1)) := by
  have e : figsF T (k + 1) a = (match figsF T k (j + 1) with | none => none | some (xs, c) => some (x :: xs, c)) := by
    rw [figsF, h1]
    simp only [h2]
    all_goals rfl
  rw [e]
  cases figsF T k (j + 1) with
  | none => rfl
  | some x => obtain ⟨es, c⟩ := x; simp [figsPre]
theorem figsPre_no1 {T : List Nat} {k a : Nat} {ds : List Nat} (h1 : behindF T a [44, 32] = none) : figsPre ds (figsF T (k + 1) a) = none := by
  unfold figsF
  rw [h1]
  rfl
theorem figsPre_no2 {T : List Nat} {k a j : Nat} {ds : List Nat} (h1 : behindF T a [44, 32] = some j) (h2 : figF T j = none) : figsPre ds (figsF T (k + 1) a) = none := by
  unfold figsF
  rw [h1]
  simp only [h2]
  rfl
def endR (w : Str) (ds : List PyData) (xs : List Nat) : Option Nat → Option (PyData × Nat)
  | none => none
  | some c => some (.tuple (.str w :: (ds ++ xs.map fun x : Nat => PyData.int (x : Int))), c)
def figR (T : List Nat) (w : Str) (ds : List PyData) : Option (List Nat × Nat) → Option (PyData × Nat)
  | none => none
  | some (xs, b) => endR w ds xs (behindF T b [41])
def opR (T : List Nat) (w : Str) : Option (List PyData × Nat) → Option (PyData × Nat)
  | none => none
  | some (ds, a) => figR T w ds (figsF T (if w = Str.ofString "part" then 2 else 0) a)
theorem opF_R {f : Nat → Option (PyData × Nat)} {T : List Nat} {w : Str} {i k : Nat} (hk : argc w = some k) : opF f T w i = opR T w (argsF f T k true i) := by
  unfold opF
  rw [hk, Option.getD_some]
  cases argsF f T k true i with
  | none => rfl
  | some x =>
    obtain ⟨ds, a⟩ := x
    simp only [opR]
    cases figsF T (if w = Str.ofString "part" then 2 else 0) a with
    | none => rfl
    | some y =>
      obtain ⟨xs, b⟩ := y
      simp only [figR]
      cases behindF T b [41] with
      | none => rfl
      | some c => rfl
/-! ### promises of defs that may refuse -/
def DzA (H : Hp) (v : V) (d : PyData) : Prop := ∀ p, Dz p H v d
theorem DzA.ex {H H' : Hp} {v : V} {d : PyData} (h : DzA H v d) (e : Ex H H') : DzA H' v d := fun p => (h p).ex e
def spBehX (C : Addr) : Sp := fun vs H Q E => ∃ (T m : List Nat) (i : Nat), vs = [.str (Tx T), .int (i : Int), .str (Tx m)] ∧ T.length ≤ 30000 ∧ m.length ≤ 100 ∧ (∀ j, behindF T i m = some j → ∀ H', Ex H H' → Q (.int (j : Int)) H') ∧ (behindF T i m = none → ∀ H', Ex H H' → E (.ref C) none H')
def spFigX (C : Addr) : Sp := fun vs H Q E => ∃ (T : List Nat) (i : Nat), vs = [.str (Tx T), .int (i : Int)] ∧ T.length ≤ 30000 ∧ (∀ x, figF T i = some x → ∀ H', Ex H H' → Q (.int (x : Int)) H') ∧ (figF T i = none → ∀ H', Ex H H' → E (.ref C) none H')
def Got (T : List Nat) (r : Option (PyData × Nat)) (C : Addr) (H : Hp) (Q : VK) (E : XK) : Prop := (∀ d j, r = some (d, j) → ∀ (a : Addr) (v : V) (H' : Hp), Ex H H' → H' a = some (.tup [v, .int (j : Int)]) → Pz H' v d → Q (.ref a) H') ∧ (r = none → ∀ H', Ex H H' → E (.ref C) none H')
def spTF (C : Addr) (n : Nat) : Sp := fun vs H Q E => ∃ (T : List Nat) (i : Nat), vs = [.str (Tx T), .int (i : Int), .int (11 - (n : Int))] ∧ n ≤ 10 ∧ i ≤ T.length ∧ T.length ≤ 30000 ∧ Got T (termF n T i) C H Q E
def spOF (C : Addr) (n : Nat) : Sp := fun vs H Q E => ∃ (T : List Nat) (i k : Nat) (w : Str), vs = [.str (Tx T), .int (i : Int), .str w, .int (10 - (n : Int))] ∧ n ≤ 10 ∧ i ≤ T.length ∧ T.length ≤ 30000 ∧ argc w = some k ∧ Got T (opF (termF n T) T w i) C H Q E
def spOFP (C : Addr) : Nat → Sp
  | 0 => fun _ _ _ _ => False
  | n + 1 => spOF C n
def spReadX (C : Addr) : Sp := fun vs H Q E => ∃ (p : Addr) (v : V) (d : PyData), vs = [v] ∧ Dz p H v d ∧ ((∃ T : List Nat, d = .str (Tx T) ∧ T.length ≤ 30000 ∧ (∀ e j, termF 10 T 0 = some (e, j) → mZ e ≤ 39000) ∧ (∀ e, readF T = some e → ∀ (u : V) (H' : Hp), Ex H H' → Pz H' u e → Q u H') ∧ (readF T = none → ∀ H', Ex H H' → E (.ref C) none H')) ∨ (isZ "str" d = false ∧ ∀ H', Ex H H' → E (.ref C) none H'))
section
variable {K : PySem.W.Frag} {σ : L2.St} {H : Hp} {ta tb te : TE}
theorem pss_if_fact {X : Cx} {p : Prop} {ss : List Stmt} {t : TS} (h : p → PSs X ss t) : PSs X ss (fun D σ H => p ∧ t D σ H) := ⟨fun pins s σ H D I q => (h q.1).run pins s σ H D I q.2⟩
theorem exm_by {K : PySem.W.Frag} {S C : Addr} (h1 : PySem.W.subIn K (.ref C) (.type "BaseException") = some true) (h2 : PySem.W.isClsIn K C = true) (h3 : PySem.W.typeIn K (.ref C) = some (.type "type")) (h4 : PySem.W.subIn K (.ref S) (.ref C) = some true) :
    PySem.W.exmOne K (.ref S) (.ref C) = some true := by
  have e1 : (PySem.W.subIn K (.ref C) (.type "BaseException") == some true) = true := by rw [h1] <;> rfl
  have e2 : ((PySem.W.clsIn K C).isSome && PySem.W.typeIn K (.ref C) == some (.type "type")) = true := by
    have h2' : (PySem.W.clsIn K C).isSome = true := h2
    rw [h2', h3] <;> rfl
  show (if _ then (if _ then _ else none) else none) = some true
  rw [if_pos e1, if_pos e2]
  exact h4
theorem kit_by {K : PySem.W.Frag} {S C : Addr} (h2 : PySem.W.isClsIn K C = true) (h3 : PySem.W.typeIn K (.ref C) = some (.type "type")) (h4 : PySem.W.subIn K (.ref S) (.ref C) = some true) : PySem.W.kitOne K (.ref S) (.ref C) = some true := by
  have e2 : ((PySem.W.clsIn K C).isSome && PySem.W.typeIn K (.ref C) == some (.type "type")) = true := by
    have h2' : (PySem.W.clsIn K C).isSome = true := h2
    rw [h2', h3] <;> rfl
  unfold PySem.W.kitOne
  split
  · rfl
  · show (if _ then _ else none) = some true
    rw [if_pos e2]
    exact h4
theorem kit_byT {K : PySem.W.Frag} {S : Addr} {T : String} {b : Bool} (hm : PySem.W.kitMeta T = true) (h : PySem.W.subIn K (.ref S) (.type T) = some b) : PySem.W.kitOne K (.ref S) (.type T) = some b := by
  unfold PySem.W.kitOne
  rw [if_neg (by intro z; cases z)]
  show (if _ then _ else none) = some b
  rw [if_pos hm]
  exact h
theorem ev_isE {D a : Addr} {c : V} {cv : Value} {b : Bool} (ha : Ev ta σ H (.ref a)) (hb : Ev tb σ H c) (hcv : ∀ u, RelV c u → u = cv) (hk : PySem.W.kitOne K (.ref D) cv = some b) : Ev (tCB (rIsE K D a) (tCons ta (tCons tb tNil))) σ H (.bl b) := fun H1 e Q q =>
  ha H1 e _ fun H2 e2 => hb H2 (e.trans e2) _ fun H3 e3 => ⟨c, cv, b, rfl, hcv, hk, q H3 (e2.trans e3)⟩
theorem ev_intS {a : Str} {n : Int} (h : Ev te σ H (.str a)) (hn : PySem.intText? a = some n) (hl : a.length ≤ 640) : Ev (tCB (fun xs H Q => ∃ a n, xs = [.str a] ∧ PySem.intText? a = some n ∧ a.length ≤ 640 ∧ Q (.int n) H) (tCons te tNil)) σ H (.int n) := fun H1 e Q q => h H1 e _ fun H2 e2 => ⟨a, n, rfl, hn, hl, q H2 e2⟩
end
theorem kit_no {K : PySem.W.Frag} {S C : Addr} (h2 : PySem.W.isClsIn K C = true) (h3 : PySem.W.typeIn K (.ref C) = some (.type "type")) (h4 : PySem.W.subIn K (.ref S) (.ref C) = some false) (h5 : PySem.W.subIn K (.ref S) (.ref S) = some true) : PySem.W.kitOne K (.ref S) (.ref C) = some false := by
  have e2 : ((PySem.W.clsIn K C).isSome && PySem.W.typeIn K (.ref C) == some (.type "type")) = true := by
    have h2' : (PySem.W.clsIn K C).isSome = true := h2
    rw [h2', h3] <;> rfl
  unfold PySem.W.kitOne
  split
  · rename_i same
    have : Value.ref S = Value.ref C := by simpa using same
    rw [← this] at h4
    rw [h4] at h5
    cases h5
  · show (if _ then _ else none) = some false
    rw [if_pos e2]
    exact h4
end Dw
namespace L2
open PySem PySem.Spec PyProof.Rows
theorem Fun.okN {P : Program} {w : World} {K : PySem.W.Frag} {mg : Str → Option Value} {base : Heap} {x qual : Str} {st : Stmt} {f : Addr} {fd : FuncData} {N ps : List Str} {k : Nat} {sp : Sp} (F : Fun K x qual st f fd) (S : FnScope N ps (defScope st)) (len : ∀ vs H Q E, sp vs H Q E → vs.length = ps.length)
    (inside : ∀ (cdv : Value) (A : Around) (outer : List Env) (s : Shared) (H : Hp) (vs : List V) (Q : VK) (E : XK), Room k (A.deeper (envOfC qual (defScope st) s.heap.objs.size f cdv)) → sp vs H Q E →
      ∃ t, PSs (cxOf (L2N.CX P w) P w K mg base N qual (defScope st) f cdv A outer s H E) (defBody st) t ∧ t { nx := fun _ H' => Q .non H', rt := Q } (start N vs) H) : FnOk P w K mg base (L2N.CX P w) (k + 1) f fd ps sp := by
  obtain ⟨_, _, _, _, _, _, cdv, _, _, rfl, look, code⟩ := F.ex
  exact fn_of look code S len (inside cdv)
end L2

set_option Elab.async false
set_option linter.all false
set_option maxRecDepth 100000
set_option maxHeartbeats 2000000
namespace Dw
open PySem L2 Evl
/-! ### sizes of what is read and guessed -/
theorem behind_pos {T m : List Nat} {i j : Nat} (h : behindF T i m = some j) : j = i + m.length := (behind_split h).2
theorem args_mZ {f : Nat → Option (PyData × Nat)} {T : List Nat} (hf : ∀ a d b, f a = some (d, b) → mZ d + 6 * a ≤ 6 * b + 6) : ∀ {k : Nat} {fl : Bool} {i : Nat} {ds : List PyData} {c : Nat}, argsF f T k fl i = some (ds, c) → mZs ds + 6 * i ≤ 6 * c
  | 0, fl, i, ds, c, h => by cases h; simp [mZs]
  | k + 1, fl, i, ds, c, h => by
    unfold argsF at h
    split at h
    · cases h
    · rename_i a ha
      have h1 := behind_pos ha
      have hm : 1 ≤ (mk fl).length := by cases fl <;> decide
      split at h
      · cases h
      · rename_i d b hb
        have h2 := hf _ _ _ hb
        split at h
        · cases h
        · rename_i es e he
          cases h
          have := args_mZ hf he
          simp only [mZs]
          omega
theorem figs_mZ {T : List Nat} : ∀ {k i : Nat} {xs : List Nat} {c : Nat}, figsF T k i = some (xs, c) → xs.length + i ≤ c
  | 0, i, xs, c, h => by cases h; simp
  | k + 1, i, xs, c, h => by
    unfold figsF at h
    split at h
    · cases h
    · rename_i a ha
      have h1 := behind_pos ha
      split at h
      · cases h
      · split at h
        · cases h
        · rename_i ys e he
          cases h
          have := figs_mZ he
          simp only [List.length_cons, List.length_nil] at h1 ⊢
          omega
theorem mZs_ints (xs : List Nat) : mZs (xs.map fun x : Nat => PyData.int (x : Int)) = xs.length := by
  induction xs with
  | nil => rfl
  | cons x xs ih => simp only [List.map_cons, mZs, mZ, ih, List.length_cons]; omega
theorem len_is : (Str.ofString "is").length = 2 ∧ (Str.ofString "of").length = 2 := by decide +kernel
theorem term_mZ : ∀ (n : Nat) {T : List Nat} {i : Nat} {d : PyData} {j : Nat}, termF n T i = some (d, j) → mZ d + 6 * i ≤ 6 * j + 6
  | 0, T, i, d, j, h => by cases h
  | n + 1, T, i, d, j, h => by
    unfold termF at h
    split at h
    · cases h
      simp only [mZ, mZs, sS, Tx_len, len_is.1]
      omega
    · split at h
      · rename_i k hk
        rw [opF_R hk] at h
        obtain ⟨k3, k1, harg⟩ := argc_le hk
        cases ha : argsF (termF n T) T k true (i + (runT T i).length) with
        | none => rw [ha] at h; cases h
        | some x =>
          obtain ⟨ds, a⟩ := x
          rw [ha] at h
          simp only [opR] at h
          cases hb : figsF T (if Tx (runT T i) = Str.ofString "part" then 2 else 0) a with
          | none => rw [hb] at h; cases h
          | some y =>
            obtain ⟨xs, b⟩ := y
            rw [hb] at h
            simp only [figR] at h
            cases hc : behindF T b [41] with
            | none => rw [hc] at h; cases h
            | some c =>
              rw [hc] at h
              cases h
              have h1 := args_mZ (fun a d b h => term_mZ n h) ha
              have h2 := figs_mZ hb
              have h3 := behind_pos hc
              simp only [mZ, mZs, mZs_app, mZs_ints, Tx_len, List.length_singleton] at h3 ⊢
              omega
      · cases h
        simp only [mZ, mZs, sS, Tx_len, len_is.2]
        omega
def tot (ps : List (List Nat)) : Nat := (ps.map fun x => x.length + 1).sum
theorem tot_app (a b : List (List Nat)) : tot (a ++ b) = tot a + tot b := by simp [tot]
theorem tot_go : ∀ (r : List Nat) {k : Int} {cur : List Nat} {done : List (List Nat)}, tot (partsGo k cur done r) = tot done + cur.length + 1 + r.length
  | [], k, cur, done => by
    rw [partsGo, tot_app]
    simp [tot]
    omega
  | c :: r, k, cur, done => by
    rw [partsGo]
    split
    · rw [tot_go r, tot_app]
      simp [tot]
      omega
    · rw [tot_go r]
      simp
      omega
theorem tot_behind : ∀ ps : List (List Nat), tot (behindAll ps) ≤ tot ps
  | [] => Nat.le_refl _
  | x :: xs => by
    have : ∀ ys : List (List Nat), tot (ys.map (·.drop 1)) ≤ tot ys := by
      intro ys
      induction ys with
      | nil => exact Nat.le_refl _
      | cons y ys ih =>
        simp only [tot, List.map_cons, List.sum_cons, List.length_drop] at ih ⊢
        omega
    have := this xs
    simp only [behindAll, tot, List.map_cons, List.sum_cons] at this ⊢
    omega
theorem tot_parts (T : List Nat) : tot (partsF T) ≤ T.length + 1 := by
  unfold partsF
  have h1 := tot_behind (partsGo 0 [] [] T)
  rw [tot_go] at h1
  simp [tot] at h1 ⊢
  omega
theorem mem_tot {ps : List (List Nat)} {x : List Nat} (h : x ∈ ps) : x.length + 1 ≤ tot ps := by
  induction ps with
  | nil => cases h
  | cons y ps ih =>
    simp only [tot, List.map_cons, List.sum_cons] at ih ⊢
    rcases List.mem_cons.mp h with rfl | h
    · omega
    · have := ih h
      omega
theorem mZs_map {g : List Nat → PyData} (hg : ∀ x, mZ (g x) ≤ 6 * x.length + 6) : ∀ ps : List (List Nat), mZs (ps.map g) ≤ 6 * tot ps
  | [] => by simp [mZs, tot]
  | x :: ps => by
    have := mZs_map hg ps
    have := hg x
    simp only [List.map_cons, mZs, tot, List.sum_cons] at *
    omega
theorem getD_tot {ps : List (List Nat)} {k : Nat} : (ps.getD k []).length ≤ tot ps := by
  rw [List.getD_eq_getElem?_getD]
  cases h : ps[k]? with
  | none => simp
  | some x => have := mem_tot (List.mem_of_getElem? h); simp only [Option.getD_some]; omega
theorem word_lt : ∀ {T : List Nat}, 40 ∈ T → (wordG T).length < T.length
  | c :: T, h => by
    unfold wordG
    by_cases hc : c = 40
    · rw [List.takeWhile_cons, if_neg (by simp [hc])]
      simp
    · have hm : 40 ∈ T := by
        rcases List.mem_cons.mp h with e | e
        · exact absurd e.symm hc
        · exact e
      have := word_lt hm
      unfold wordG at this
      rw [List.takeWhile_cons, if_pos (decide_eq_true hc), List.length_cons, List.length_cons]
      omega
theorem guess_mZ : ∀ (n : Nat) (T : List Nat), mZ (guessF n T) ≤ 6 * T.length + 6
  | 0, T => by
    rw [guessF]
    split
    · simp only [mZ, mZs, sS, Tx_len, len_is.1, List.length_drop]
      omega
    · simp only [mZ, mZs, sS, Tx_len, len_is.2]
      omega
  | n + 1, T => by
    rw [guessF]
    split
    · simp only [mZ, mZs, sS, Tx_len, len_is.1, List.length_drop]
      omega
    · split
      · simp only [mZ, mZs, sS, Tx_len, len_is.2]
        omega
      · rename_i h1 h2
        have h40 : 40 ∈ T := by
          by_cases h : 40 ∈ T
          · exact h
          · exact absurd (Or.inr h) h2
        have hw := word_lt h40
        have hi : ((T.drop ((wordG T).length + 1)).dropLast).length + 1 ≤ T.length - (wordG T).length := by
          rw [List.length_dropLast, List.length_drop]
          omega
        have ht := tot_parts ((T.drop ((wordG T).length + 1)).dropLast)
        have hg := mZs_map (guess_mZ n) (partsF ((T.drop ((wordG T).length + 1)).dropLast))
        unfold opG
        split
        · have h0 := guess_mZ n ((partsF ((T.drop ((wordG T).length + 1)).dropLast)).getD 0 [])
          have h3 := getD_tot (ps := partsF ((T.drop ((wordG T).length + 1)).dropLast)) (k := 0)
          rename_i hc
          have hne : 1 ≤ tot (partsF ((T.drop ((wordG T).length + 1)).dropLast)) := by
            have h3l := hc.2.1
            have : ((partsF ((T.drop ((wordG T).length + 1)).dropLast)).getD 0 []).length + 1 ≤ tot (partsF ((T.drop ((wordG T).length + 1)).dropLast)) := by
              rw [List.getD_eq_getElem?_getD]
              cases hp : (partsF ((T.drop ((wordG T).length + 1)).dropLast))[0]? with
              | none =>
                have := List.getElem?_eq_none_iff.mp hp
                omega
              | some x => exact mem_tot (List.mem_of_getElem? hp)
            omega
          have h4 : ((partsF ((T.drop ((wordG T).length + 1)).dropLast)).getD 0 []).length + 1 ≤ tot (partsF ((T.drop ((wordG T).length + 1)).dropLast)) := by
            rw [List.getD_eq_getElem?_getD]
            cases hp : (partsF ((T.drop ((wordG T).length + 1)).dropLast))[0]? with
            | none =>
              have := List.getElem?_eq_none_iff.mp hp
              have := hc.2.1
              omega
            | some x => exact mem_tot (List.mem_of_getElem? hp)
          simp only [mZ, mZs, Tx_len]
          omega
        · simp only [mZ, mZs, Tx_len]
          omega
/-! ### back to terms -/
theorem Pz.tm {H : Hp} : ∀ {t : Tm} {v : V}, Pz H v (tmD t) → TmAt H t v
  | .is l, _, .tup h (.cons (.str _) (.cons (.str _) .nil)) => ⟨_, rfl, h⟩
  | .of x, _, .tup h (.cons (.str _) (.cons (.str _) .nil)) => ⟨_, rfl, h⟩
  | .un w a, _, .tup h (.cons (.str _) (.cons h1 .nil)) => ⟨_, _, rfl, h, Pz.tm h1⟩
  | .bi w a b, _, .tup h (.cons (.str _) (.cons h1 (.cons h2 .nil))) => ⟨_, _, _, rfl, h, Pz.tm h1, Pz.tm h2⟩
  | .pick c a b, _, .tup h (.cons (.str _) (.cons h1 (.cons h2 (.cons h3 .nil)))) => ⟨_, _, _, _, rfl, h, Pz.tm h1, Pz.tm h2, Pz.tm h3⟩
  | .part a hi lo, _, .tup h (.cons (.str _) (.cons h1 (.cons (.int _) (.cons (.int _) .nil)))) => ⟨_, _, rfl, h, Pz.tm h1⟩
/-! ### promises of the law's own -/
def spParts : Sp := fun vs H Q _ => ∃ T : List Nat, vs = [.str (Tx T)] ∧ T.length ≤ 6400 ∧ ∀ (g : Addr) (H' : Hp), H g = none → Ex H H' → H' g = some (.lst ((partsF T).map fun x => V.str (Tx x))) → Q (.ref g) H'
def spGuess (n : Nat) : Sp := fun vs H Q _ => ∃ T : List Nat, vs = [.str (Tx T), .int (n : Int)] ∧ n ≤ 10 ∧ T.length ≤ 6400 ∧ ∀ (v : V) (H' : Hp), Ex H H' → Pz H' v (guessF n T) → Q v H'
def Tells (T : List Nat) (H : Hp) (u : V) : Prop := match toldF T with
  | some e => Pz H u e
  | none => u = .non
def spToldBy : Sp := fun vs H Q _ => ∃ (p : Addr) (v : V) (d : PyData), vs = [v] ∧ Dz p H v d ∧ ((∃ T : List Nat, d = .str (Tx T) ∧ T.length ≤ 6400 ∧ ∀ (u : V) (H' : Hp), Ex H H' → Tells T H' u → Q u H') ∨ (isZ "str" d = false ∧ ∀ H', Ex H H' → Q .non H'))
def spSpoiltT : Sp := fun vs H Q _ => ∃ (p : Addr) (T : List Nat), vs = [.ref p, .str (Tx T)] ∧ PotAt H p ∧ T.length ≤ 3000 ∧ ∀ (H' : Hp) (T' : List Nat), ExB p H H' → PotAt H' p → T'.length ≤ T.length + 20 → Q (.str (Tx T')) H'
def OkT (d : PyData) : Prop := ∀ T, d = .str (Tx T) → T.length ≤ 6400
def spOddT : Sp := fun vs H Q _ => ∃ p : Addr, vs = [.ref p] ∧ PotAt H p ∧ ∀ (H' : Hp) (v : V) (d : PyData), ExB p H H' → PotAt H' p → Dz p H' v d → OkT d → Q v H'
def spRightT : Sp := fun vs H Q _ => ∃ (p : Addr) (v : V) (d : PyData), vs = [v] ∧ Dz p H v d ∧ OkT d ∧ ∀ H', Ex H H' → Q (.bl true) H'
end Dw
namespace Dw
open PySem L2 Evl
def sg20 : List Nat := (Str.ofString "abnot019xz_'(), \n;-A").cps.toList
theorem s_sg20 : Str.ofString "abnot019xz_'(), \n;-A" = Tx sg20 := (Tx_tl _).symm
theorem sg20_len : sg20.length = 20 := by decide +kernel
theorem evp_catT {p : Addr} {ta tb : TE} {σ : L2.St} {H : Hp} {a : List Nat} {n : Nat} (ha : ∀ H1, Ev ta σ H1 (.str (Tx a))) (hb : EvP p tb σ H fun v _ => ∃ b : List Nat, v = .str (Tx b) ∧ b.length ≤ n) (hz : a.length + n ≤ 100000) :
    EvP p (tOp (fun x y H Q => ∃ i j, x = .str i ∧ y = .str j ∧ i.length + j.length ≤ sizeLine ∧ Q (.str (i ++ j)) H) ta tb) σ H fun v _ => ∃ b : List Nat, v = .str (Tx (a ++ b)) ∧ b.length ≤ n := fun H1 e hP Q q =>
  ha H1 H1 (Ex.refl _) _ fun H2 e2 => hb H2 (e.trans (ExB.of e2)) (hP.ex e2) _ fun v H3 e3 hP3 ⟨b, hv, hb⟩ => ⟨Tx a, Tx b, rfl, hv, sz_of (by rw [Tx_len, Tx_len]; omega), by rw [Tx_cat]; exact q _ H3 ((ExB.of e2).trans e3) hP3 ⟨b, rfl, hb⟩⟩
end Dw

set_option Elab.async false
set_option linter.all false
set_option maxRecDepth 100000
set_option maxHeartbeats 2000000
namespace Dw
open PySem L2 Evl PyProof.Rows
/-! ### the first bracket of a text -/
theorem first_len : ∀ {T : List Nat} {i : Nat}, T[i]? = some 40 → (∀ k, k < i → T[k]? ≠ some 40) → (wordG T).length = i
  | [], i, h, _ => by simp at h
  | c :: r, 0, h, _ => by
    have e : c = 40 := by simpa using h
    subst e
    rfl
  | c :: r, i + 1, h, hn => by
    have h1 : c ≠ 40 := fun e => hn 0 (by omega) (by simp [e])
    have := first_len (T := r) (i := i) (by simpa using h) fun j hj => by
      have := hn (j + 1) (by omega)
      simpa using this
    unfold wordG at this ⊢
    rw [List.takeWhile_cons, if_pos (decide_eq_true h1), List.length_cons, this]
theorem first_at {T : List Nat} (h : 40 ∈ T) : ∃ rest, Builtin.Str.occurrences (Tx T) (Tx [40]) 0 (Tx T).length 1 = (wordG T).length :: rest := by
  rcases StrLaws.occ_head (Tx T) ⟨#[40]⟩ 1 (Nat.le_refl 1) with ⟨_, hn⟩ | ⟨i, r, h0, hi, hn⟩
  · obtain ⟨j, hj⟩ := List.getElem?_of_mem h
    exact absurd ((StrLaws.subAt_one (Tx T) 40 j).mpr hj) (hn j)
  · have hm : T[i]? = some 40 := (StrLaws.subAt_one (Tx T) 40 i).mp hi
    have : (wordG T).length = i := first_len hm fun k hk e => hn k hk ((StrLaws.subAt_one (Tx T) 40 k).mpr e)
    exact ⟨r, by rw [this]; exact h0⟩
theorem word_take (T : List Nat) : T.take (wordG T).length = wordG T := by
  unfold wordG
  induction T with
  | nil => rfl
  | cons c T ih =>
    rw [List.takeWhile_cons]
    split
    · rw [List.length_cons, List.take_succ_cons, ih]
    · rfl
theorem word_room {T : List Nat} (h : 40 ∈ T) (hl : T.getLast? = some 41) : (wordG T).length + 2 ≤ T.length := by
  have h1 := word_lt h
  have hat : ∀ {T : List Nat}, 40 ∈ T → T[(wordG T).length]? = some 40 := by
    intro T
    induction T with
    | nil => intro h; cases h
    | cons c T ih =>
      intro h
      unfold wordG
      rw [List.takeWhile_cons]
      by_cases hc : c = 40
      · simp [hc]
      · rw [if_pos (decide_eq_true hc), List.length_cons, List.getElem?_cons_succ]
        rcases List.mem_cons.mp h with e | e
        · exact absurd e.symm hc
        · exact ih e
  have h2 := hat h
  by_cases hh : (wordG T).length + 2 ≤ T.length
  · exact hh
  · have he : (wordG T).length = T.length - 1 := by omega
    rw [List.getLast?_eq_getElem?, ← he, h2] at hl
    cases hl
theorem last_one (T : List Nat) : decide (T.drop (T.length - 1) = [41]) = decide (T.getLast? = some 41) := by
  rw [decide_eq_decide]
  cases hT : T with
  | nil => simp
  | cons c r =>
    rw [← hT]
    have hne : T ≠ [] := by rw [hT]; simp
    have hl : T.length - 1 < T.length := by
      have : 0 < T.length := List.length_pos_iff.mpr hne
      omega
    rw [List.getLast?_eq_getElem?, List.drop_eq_getElem_cons hl, List.getElem?_eq_getElem hl]
    have : T.drop (T.length - 1 + 1) = [] := List.drop_eq_nil_of_le (by omega)
    rw [this]
    simp
theorem behind_range : ∀ ps : List (List Nat), behindAll ps = (List.range ps.length).map fun i => if 0 < i then (ps.getD i []).drop 1 else ps.getD i []
  | [] => rfl
  | x :: xs => by
    rw [behindAll, List.length_cons, List.range_succ_eq_map, List.map_cons, List.map_map]
    congr 1
    have e := range_getD xs []
    calc xs.map (·.drop 1) = ((List.range xs.length).map fun i => xs.getD i []).map (·.drop 1) := by rw [e]
      _ = _ := by
        rw [List.map_map]
        apply List.map_congr_left
        intro i _
        simp
/-! ### digits -/
def figS : List Str := [48, 49, 50, 51, 52, 53, 54, 55].map fun c => Tx [c]
theorem dig_mem (l : List Nat) : decide (Tx l ∈ figS) = (digN l).isSome := by
  rw [Bool.eq_iff_iff, decide_eq_true_eq]
  constructor
  · intro h
    obtain ⟨c, hc, e⟩ := List.mem_map.mp h
    rw [← Tx_inj e]
    simp only [List.mem_cons, List.not_mem_nil, or_false] at hc
    rcases hc with rfl | rfl | rfl | rfl | rfl | rfl | rfl | rfl <;> rfl
  · intro h
    match l, h with
    | [], h => cases h
    | _ :: _ :: _, h => cases h
    | [c], h =>
      by_cases hc : 48 ≤ c ∧ c ≤ 55
      · refine List.mem_map.mpr ⟨c, ?_, rfl⟩
        have : c = 48 ∨ c = 49 ∨ c = 50 ∨ c = 51 ∨ c = 52 ∨ c = 53 ∨ c = 54 ∨ c = 55 := by omega
        rcases this with rfl | rfl | rfl | rfl | rfl | rfl | rfl | rfl <;> decide
      · simp [digN, hc] at h
theorem dig_int {l : List Nat} (h : (digN l).isSome = true) : PySem.intText? (Tx l) = some ((((digN l).getD 0 : Nat)) : Int) ∧ (Tx l).length ≤ 640 := by
  match l, h with
  | [], h => cases h
  | _ :: _ :: _, h => cases h
  | [c], h =>
    by_cases hc : 48 ≤ c ∧ c ≤ 55
    · have e : digN [c] = some (c - 48) := by simp [digN, hc]
      rw [e]
      have := int_fig ⟨c - 48, by omega⟩
      simp only at this
      rw [show 48 + (c - 48) = c by omega] at this
      exact ⟨this, by rw [Tx_len]; simp⟩
    · simp [digN, hc] at h
/-! ### rules -/
theorem s_figN : (Str.ofString "01234567").cps.toList = [48, 49, 50, 51, 52, 53, 54, 55] := by decide +kernel
theorem call_listS {X : Cx} (hc : X.calm = true) : CallR X (.type "list") (fun xs H Q => ∃ z, xs = [.str z] ∧ z.cps.size ≤ sizeLine ∧ ∀ l, H l = none → Q (.ref l) (L2.upd H l (.lst (z.cps.toList.map fun c => V.str ⟨#[c]⟩)))) := by
  intro pins s σ H xs us Q I r h
  obtain ⟨z, rfl, hz, q⟩ := h
  obtain ⟨u, rfl, t, rfl⟩ := vals1 r
  refine PySem.call_list_str (I.ok.hd hc) z t (fun h' tk acc' c' kp e hi => ?_) hz
  obtain ⟨hs, hat⟩ := hi
  have rel : Vals (z.cps.toList.map fun c => V.str ⟨#[c]⟩) acc'.toList := vals_of_idx _ _ (by simp [hs]) fun j u hu => by
    obtain ⟨c, u', hc', rfl⟩ := hat j u (by simpa using hu)
    have : z.cps.toList[j]? = some c := by simpa using hc'
    exact ⟨.str ⟨#[c]⟩, by rw [List.getElem?_map, this]; rfl, u', rfl⟩
  refine ⟨.ref s.heap.objs.size, _, I.laid (t' := tk) kp (Nat.le_refl _) (show ObjOk X.prog X.w _ h' _ (.lst (z.cps.toList.map fun c => V.str ⟨#[c]⟩)) from ⟨by simpa using hz, acc'.toList, c', rel, by simpa using e⟩), rfl, q _ (I.hok.fresh (Nat.le_refl _))⟩
section
variable {K : PySem.W.Frag} {σ : L2.St} {H : Hp} {ta tb te tl tx : TE} {tA : TA} {to th : TO} {D : Ends} {v x : V}
theorem el_listS {z : Str} (h : Ev te σ H (.str z)) (hz : z.cps.size ≤ 100000) : EvL (tCB (fun xs H Q => ∃ z, xs = [.str z] ∧ z.cps.size ≤ sizeLine ∧ ∀ l, H l = none → Q (.ref l) (L2.upd H l (.lst (z.cps.toList.map fun c => V.str ⟨#[c]⟩)))) (tCons te tNil)) σ H (z.cps.toList.map fun c => V.str ⟨#[c]⟩) := fun H1 e Q q =>
  h H1 e _ fun H2 e2 => ⟨z, rfl, sz_of hz, fun l nl => q l _ (fresh_back e2 nl) (e2.trans (Ex.new nl)) upd_same⟩
theorem el_figs (h : Ev te σ H (.str (Str.ofString "01234567"))) : EvL (tCB (fun xs H Q => ∃ z, xs = [.str z] ∧ z.cps.size ≤ sizeLine ∧ ∀ l, H l = none → Q (.ref l) (L2.upd H l (.lst (z.cps.toList.map fun c => V.str ⟨#[c]⟩)))) (tCons te tNil)) σ H (figS.map V.str) :=
  el_is (el_listS h (by decide +kernel)) (by rw [s_figN]; rfl)
theorem ev_index {T : List Nat} (ha : Ev ta σ H (.str (Tx T))) (hb : Ev tb σ H (.str (Tx [40]))) (h : 40 ∈ T) : Ev (tM1 (fun x xs H Q => ∃ a b i rest, x = .str a ∧ xs = [.str b] ∧ Builtin.Str.occurrences a b 0 a.length 1 = i :: rest ∧ Q (.int (i : Nat)) H) ta tb) σ H (.int ((wordG T).length : Nat)) := fun H1 e Q q => by
  obtain ⟨rest, hr⟩ := first_at h
  exact ha H1 e _ fun H2 e2 => ⟨⟨_, rfl⟩, hb H2 (e.trans e2) _ fun H3 e3 => ⟨Tx T, Tx [40], _, rest, rfl, rfl, hr, q H3 (e2.trans e3)⟩⟩
theorem ev_cutAA {l : List Nat} {j : Nat} (ha : Ev te σ H (.str (Tx l))) (h2 : EvO th σ H (some (j : Int))) (hz : l.length ≤ 40000) : Ev (tSl rSlS te tNoPart th) σ H (.str (Tx (l.take j))) := by
  by_cases hj : j ≤ l.length
  · exact ev_cutA ha h2 hj hz
  · rw [List.take_of_length_le (by omega)]
    exact fun H1 e Q q => ha H1 e _ fun H2 e2 => eo_none H2 (Ex.refl _) _ fun H3 e3 => h2 H3 ((e.trans e2).trans e3) _ fun H4 e4 => ⟨Tx l, rfl, sz_of (by rw [Tx_len]; omega), by
      have : cutS (Tx l) none (some (j : Int)) = Tx l := by
        unfold cutS
        rw [Tx_len, HT.sIx_none, HT.sIx_nat, Nat.min_eq_right (by omega)]
        show Tx ((l.drop 0).take (l.length - 0)) = Tx l
        simp
      rw [this]
      exact q H4 ((e2.trans e3).trans e4)⟩
theorem ev_cutNb {l : List Nat} {k : Nat} (ha : Ev te σ H (.str (Tx l))) (h2 : EvO to σ H (some (-(k : Int)))) (h1 : 1 ≤ k) (hk : k ≤ l.length) (hz : l.length ≤ 40000) : Ev (tSl rSlS te to tNoPart) σ H (.str (Tx (l.drop (l.length - k)))) := fun H1 e Q q =>
  ha H1 e _ fun H2 e2 => h2 H2 (e.trans e2) _ fun H3 e3 => eo_none H3 (Ex.refl _) _ fun H4 e4 => ⟨Tx l, rfl, sz_of (by rw [Tx_len]; omega), by
    have : cutS (Tx l) (some (-(k : Int))) none = Tx (l.drop (l.length - k)) := by
      unfold cutS
      have hs : HT.sIx l.length 0 (some (-(k : Int))) = l.length - k := by
        show (if -(k : Int) < 0 then (-(k : Int) + (l.length : Int)).toNat else _) = _
        rw [if_pos (by omega)]
        omega
      rw [Tx_len, HT.sIx_none, hs]
      show Tx ((l.drop (l.length - k)).take (l.length - (l.length - k))) = Tx (l.drop (l.length - k))
      rw [List.take_of_length_le (by rw [List.length_drop]; omega)]
    rw [this]
    exact q H4 ((e2.trans e3).trans e4)⟩
theorem ev_cutL1 {l : List Nat} (ha : Ev te σ H (.str (Tx l))) (h2 : EvO to σ H (some (-1))) (hz : l.length ≤ 40000) : Ev (tSl rSlS te to tNoPart) σ H (.str (Tx (l.drop (l.length - 1)))) := by
  by_cases h : 1 ≤ l.length
  · exact ev_cutNb (k := 1) ha h2 (Nat.le_refl 1) h hz
  · have : l = [] := List.eq_nil_of_length_eq_zero (by omega)
    subst this
    exact fun H1 e Q q => ha H1 e _ fun H2 e2 => h2 H2 (e.trans e2) _ fun H3 e3 => eo_none H3 (Ex.refl _) _ fun H4 e4 => ⟨Tx [], rfl, sz_of (by decide), by
      have : cutS (Tx []) (some (-1)) none = Tx [] := by decide +kernel
      rw [this]
      exact q H4 ((e2.trans e3).trans e4)⟩
theorem ev_cutTN {l : List Nat} {i : Nat} (ha : Ev te σ H (.str (Tx l))) (h1 : EvO to σ H (some (i : Int))) (h2 : EvO th σ H (some (-1))) (hi : i + 1 ≤ l.length) (hz : l.length ≤ 40000) : Ev (tSl rSlS te to th) σ H (.str (Tx ((l.drop i).dropLast))) := fun H1 e Q q =>
  ha H1 e _ fun H2 e2 => h1 H2 (e.trans e2) _ fun H3 e3 => h2 H3 ((e.trans e2).trans e3) _ fun H4 e4 => ⟨Tx l, rfl, sz_of (by rw [Tx_len]; omega), by
    have : cutS (Tx l) (some (i : Int)) (some (-1)) = Tx ((l.drop i).dropLast) := by
      unfold cutS
      have hs : HT.sIx l.length l.length (some (-1)) = l.length - 1 := by
        show (if (-1 : Int) < 0 then ((-1 : Int) + (l.length : Int)).toNat else min (-1 : Int).toNat l.length) = _
        rw [if_pos (by omega)]
        omega
      rw [Tx_len, HT.sIx_nat, hs, Nat.min_eq_left (by omega), List.dropLast_eq_take, List.length_drop]
      show Tx ((l.drop i).take (l.length - 1 - i)) = _
      congr 2
      omega
    rw [this]
    exact q H4 ((e2.trans e3).trans e4)⟩
theorem s_setLast {l : Addr} {xs : List V} (hl : H l = some (.lst (xs ++ [x]))) (h : Ev te σ H v) (ho : Ev ta σ H (.ref l)) (hi : Ev tb σ H (.int (-1))) (k : ∀ H1, Ex H H1 → D.nx σ (L2.upd H1 l (.lst (xs ++ [v])))) :
    tAsg te (gSub ta tb rSetL) D σ H := h H (Ex.refl H) _ fun H1 e1 => ho H1 e1 _ fun H2 e2 => hi H2 (e1.trans e2) _ fun H3 e3 =>
  ⟨l, xs ++ [x], -1, xs.length, rfl, rfl, ((e1.trans e2).trans e3) l _ hl, by
    unfold ixN
    rw [if_neg (by decide), if_pos (by simp; omega)]
    congr 1
    simp
    omega, by
    have := k H3 ((e1.trans e2).trans e3)
    rw [show (xs ++ [x]).set xs.length v = xs ++ [v] by simp]
    exact this⟩
theorem el_lcEn {a : Addr} {xs : List V} {j1 j2 : Nat} {vs : List Nat} (g : Nat → V) (h : EvA tA σ H [.ref a]) (hx : SqL K H a xs) (hz : xs.length ≤ 40000) (hw : ∀ x y, wipe (((wipe σ vs).set j1 (some x)).set j2 (some y)) vs = wipe σ vs)
    (he : ∀ (i : Nat) x H1, Ex H H1 → xs[i]? = some x → Ev te (((wipe σ vs).set j1 (some (.int (i : Nat)))).set j2 (some x)) H1 (g i)) :
    EvL (tLc (iEnum K tA) (gTup K 2 (gCons (gName j1) (gCons (gName j2) gNil))) tYes te vs) σ H ((List.range xs.length).map g) := fun H0 e Q q => h H0 e _ fun H1 e1 => ⟨a, xs, rfl, ex_l (e.trans e1) hx, fun Dl hD => by
  refine lc_it (walk_enum (K := K) (a := a) (xs := xs)) (fun i H2 => Ex H1 H2 ∧ H2 Dl = some (.lst ((List.range i).map g))) ⟨Ex.new hD, upd_same⟩ (fun i H2 _ p => ex_l ((e.trans e1).trans p.1) hx) (fun i x' H2 H3 hi p yy => ?_) (fun H2 p => q Dl H2 (fresh_back e1 hD) (e1.trans p.1) p.2)
  obtain ⟨T, v1, v2, rfl, nT, rfl, hv1, hv2⟩ := yy
  cases hv1
  refine ⟨T, _, rfl, st_of upd_same, rfl, _, _, rfl, _, _, rfl, rfl, hw _ _, ?_⟩
  refine he i v2 _ (((e.trans e1).trans p.1).trans (Ex.new nT)) hv2 _ (Ex.refl _) _ fun H4 e4 => ⟨_, e4 Dl _ ((Ex.new nT) Dl _ p.2), sz_lt (by simp; omega), ?_, ?_⟩
  · exact Ex.mut ((p.1.trans (Ex.new nT)).trans e4) hD
  · rw [upd_same, List.range_succ, List.map_append]
    rfl⟩
/-- a comprehension over a list that stands, each item made anew -/
theorem elx_lcS {a : Addr} {xs : List V} {j : Nat} {vs : List Nat} {G : Nat → V → Hp → Prop} (h : Ev tl σ H (.ref a)) (hx : H a = some (.lst xs)) (hz : xs.length ≤ 40000) (hw : ∀ x, wipe ((wipe σ vs).set j (some x)) vs = wipe σ vs)
    (he : ∀ (k : Nat) x H2, Ex H H2 → xs[k]? = some x → EvX te ((wipe σ vs).set j (some x)) H2 (G k)) (hg : ∀ k v H1 H2, ExT H1 H2 → G k v H1 → G k v H2) :
    EvXL (tLc (iList K tl) (gName j) tYes te vs) σ H (fun ys H2 => ys.length = xs.length ∧ ∀ k y, ys[k]? = some y → G k y H2) := fun H0 e0 Q q =>
  h H0 e0 _ fun H1 e1 => ⟨a, rfl, ⟨xs, sq_of (e1 _ _ (e0 _ _ hx))⟩, fun Dl hD => by
    have hx1 := e1 _ _ (e0 _ _ hx)
    refine lc_list (xs := xs) (fun i H4 => Ex H1 H4 ∧ ∃ ys : List V, H4 Dl = some (.lst ys) ∧ ys.length = i ∧ ∀ k v, ys[k]? = some v → G k v H4) ⟨Ex.new hD, [], upd_same, rfl, fun k v h => by cases h⟩ (fun i H' _ p => sq_of (p.1 a _ hx1)) (fun i x H' hi p => ⟨hw x, ?_⟩) (fun H' p => ?_)
    · obtain ⟨e4, ys, h4, hn4, hs⟩ := p
      have hil := (List.getElem?_eq_some_iff.mp hi).1
      show te ((wipe σ vs).set j (some x)) H' _
      refine he i x H' ((e0.trans e1).trans e4) hi H' (Ex.refl _) _ fun u H5 e5 g5 => ?_
      have h5 := e5 Dl _ h4
      have et : ExT H' (L2.upd H5 Dl (.lst (ys ++ [u]))) := (ExT.of e5).upd h5
      refine ⟨ys, h5, sz_lt (by omega), Ex.mut (e4.trans e5) hD, ys ++ [u], upd_same, by rw [List.length_append, hn4]; rfl, fun m w hm => ?_⟩
      by_cases hlt : m < ys.length
      · rw [List.getElem?_append_left hlt] at hm
        exact hg m w _ _ et (hs m w hm)
      · rw [List.getElem?_append_right (by omega)] at hm
        have : m - ys.length = 0 := by
          match hq : m - ys.length, hm with
          | 0, _ => rfl
        rw [this] at hm
        cases hm
        rw [show m = i by omega]
        exact hg i u _ _ ((ExT.refl H5).upd h5) g5
    · obtain ⟨e4, ys, h4, hn4, hs⟩ := p
      exact q Dl ys H' (fresh_back e1 hD) (e1.trans e4) h4 ⟨by omega, hs⟩⟩
/-- (x,) + tuple([..]) -/
theorem evx_catTup {n : Nat} {G : Nat → V → Hp → Prop} (hx : Ev tx σ H x) (h : ∀ H1, Ex H H1 → EvXL te σ H1 (fun ys H2 => ys.length = n ∧ ∀ k y, ys[k]? = some y → G k y H2)) (hn : n ≤ 10000) (hg : ∀ k v H1 H2, ExT H1 H2 → G k v H1 → G k v H2) :
    EvX (tOp (rCatA K) (tTup (tCons tx tNil)) (tCB (fun xs H Q => ∃ p ys, xs = [.ref p] ∧ ((SqL K H p ys ∧ ∀ l, H l = none → Q (.ref l) (L2.upd H l (.tup ys))) ∨ (SqT K H p ys ∧ Q (.ref p) H))) (tCons te tNil))) σ H (fun v H2 => ∃ r ys, v = .ref r ∧ H2 r = some (.tup (x :: ys)) ∧ ys.length = n ∧ ∀ k y, ys[k]? = some y → G k y H2) := fun H0 e0 Q q =>
  hx H0 e0 _ fun H1 e1 => ⟨by show 1 ≤ sizeLine; decide, fun a na => h _ ((e0.trans e1).trans (Ex.new na)) _ (Ex.refl _) _ fun g ys H2 ng e2 hg2 ⟨hl, hG⟩ => ⟨g, ys, rfl, .inl ⟨sq_of hg2, fun l nl => by
    have ha2 := e2 _ _ (upd_same (H := H1) (a := a) (o := .tup [x]))
    have f3 := Ex.new (o := .tup ys) nl
    refine ⟨a, l, [x], ys, rfl, rfl, st_of (f3 _ _ ha2), st_of upd_same, sz_of (by simp; omega), fun h => (by cases h), fun _ h => ?_, fun _ _ r nr => ?_⟩
    · subst h
      refine q (.ref a) _ (e1.trans ((Ex.new na).trans (e2.trans f3))) ⟨a, [], rfl, f3 _ _ ha2, hl, fun k y hk => (by simp at hk)⟩
    · have f4 := Ex.new (o := .tup ([x] ++ ys)) nr
      exact q (.ref r) _ (e1.trans ((Ex.new na).trans (e2.trans (f3.trans f4)))) ⟨r, ys, rfl, upd_same, hl, fun k y hk => hg k y _ _ (ExT.of (f3.trans f4)) (hG k y hk)⟩⟩⟩⟩
end
theorem PzAll.of_at {H : Hp} {g : List Nat → PyData} : ∀ {ps : List (List Nat)} {ys : List V}, ys.length = ps.length → (∀ k y, ys[k]? = some y → Pz H y (g (ps.getD k []))) → PzAll H ys (ps.map g)
  | [], [], _, _ => .nil
  | [], _ :: _, h, _ => by simp at h
  | _ :: _, [], h, _ => by simp at h
  | p :: ps, y :: ys, h, k => .cons (k 0 y rfl) (PzAll.of_at (by simpa using h) fun i z hz => by simpa using k (i + 1) z (by simpa using hz))
/-! ### odd things -/
def tn (s : String) (n : Int) : Str := Txt.mul (Str.ofString s) n
theorem tn_len {s : String} {n : Int} {L N : Nat} (hx : (Str.ofString s).length ≤ L) (hn : n ≤ (N : Int)) : (tn s n).length ≤ L * N := PyProof.Rows.len_mul_leN hx hn
def okB5 : PyData → Bool
  | .str x => decide (x.length ≤ 6400)
  | _ => true
theorem okB5_ok {d : PyData} (h : okB5 d = true) : OkT d := fun T e => by
  subst e
  have := of_decide_eq_true h
  rwa [Tx_len] at this
def odA : List PyData := [sS "", sS "'", sS "'z", sS "'012", sS "''0", sS "is", sS "not", sS "not()", sS "not(a", sS "not a", sS "not(a,b)", sS "and(a,b)", sS "and(a , b)"]
def odB : List PyData := [sS "part(a, 3)", sS "part(a, 3, 4)", sS "part(a, 8, 0)", sS "part(a, 03, 0)", sS "part(a, b, 0)", sS "join(a, b, c)"]
def odC : List PyData := [sS "filters", sS "filter", sS "of(a)", sS "9a", sS "A", sS "ninesigns", .none, .int 1, .bool true, .list [], .tuple [sS "of", sS "a"], .list [sS "a"], .dict []]
def odD : List PyData := [.str (tn "not(" 1100 ++ Str.ofString "a" ++ tn ")" 1100), .str (tn "and(" 800), .str (tn "part(" 600 ++ Str.ofString "a" ++ tn ", 0, 0)" 400)]
def odE : List PyData := [.str (tn "any(" 11 ++ Str.ofString "a" ++ tn ")" 11), .str (tn "(" 6000), .str (tn "a" 6000)]
theorem l1s : (Str.ofString "a").length = 1 ∧ (Str.ofString ")").length = 1 ∧ (Str.ofString "(").length = 1 ∧ (Str.ofString "not(").length = 4 ∧ (Str.ofString "and(").length = 4 ∧ (Str.ofString "any(").length = 4 ∧ (Str.ofString "part(").length = 5 ∧ (Str.ofString ", 0, 0)").length = 7 := by decide +kernel
theorem okB5_str {x : Str} (h : x.length ≤ 6400) : okB5 (.str x) = true := decide_eq_true h
theorem od_ok : ∀ d ∈ ((odA ++ odB) ++ odC) ++ (odD ++ odE), OkT d := by
  intro d hd
  obtain ⟨a1, a2, a3, a4, a5, a6, a7, a8⟩ := l1s
  have c : ∀ d ∈ (odA ++ odB) ++ odC, okB5 d = true := by decide +kernel
  rcases List.mem_append.mp hd with h | h
  · exact okB5_ok (c d h)
  · refine okB5_ok ?_
    have n1 := tn_len (s := "not(") (n := 1100) (L := 4) (N := 1100) (by omega) (by decide)
    have n2 := tn_len (s := ")") (n := 1100) (L := 1) (N := 1100) (by omega) (by decide)
    have n3 := tn_len (s := "and(") (n := 800) (L := 4) (N := 800) (by omega) (by decide)
    have n4 := tn_len (s := "part(") (n := 600) (L := 5) (N := 600) (by omega) (by decide)
    have n5 := tn_len (s := ", 0, 0)") (n := 400) (L := 7) (N := 400) (by omega) (by decide)
    have n6 := tn_len (s := "any(") (n := 11) (L := 4) (N := 11) (by omega) (by decide)
    have n7 := tn_len (s := ")") (n := 11) (L := 1) (N := 11) (by omega) (by decide)
    have n8 := tn_len (s := "(") (n := 6000) (L := 1) (N := 6000) (by omega) (by decide)
    have n9 := tn_len (s := "a") (n := 6000) (L := 1) (N := 6000) (by omega) (by decide)
    simp only [odD, odE, List.cons_append, List.nil_append, List.mem_cons, List.not_mem_nil, or_false] at h
    rcases h with rfl | rfl | rfl | rfl | rfl | rfl
    · exact okB5_str (by rw [Str.length_append, Str.length_append]; omega)
    · exact okB5_str (by omega)
    · exact okB5_str (by rw [Str.length_append, Str.length_append]; omega)
    · exact okB5_str (by rw [Str.length_append, Str.length_append]; omega)
    · exact okB5_str (by omega)
    · exact okB5_str (by omega)
section
variable {σ : L2.St} {H : Hp} {ta tb : TE} {p : Addr}
theorem ev_mulX {s : String} {n : Int} {L N : Nat} (ha : Ev ta σ H (.str (Str.ofString s))) (hb : Ev tb σ H (.int n)) (hs : (Str.ofString s).length ≤ L) (hn : n ≤ (N : Int)) (h0 : -(2 ^ 63 : Int) ≤ n) (hN : N ≤ 16777216) (hLN : L * N ≤ 16777216) : Ev (tOp (fun x y H Q => ∃ a i, x = .str a ∧ y = .int i ∧ MulOk a i ∧ Q (.str (Txt.mul a i)) H) ta tb) σ H (.str (tn s n)) :=
  ev_op ha hb fun H1 _ _ q => ⟨_, _, rfl, rfl, PyProof.Rows.mulOk_of L N hs hn h0 hN hLN, q H1 (Ex.refl _)⟩
theorem ev_addX {a b : Str} (ha : Ev ta σ H (.str a)) (hb : Ev tb σ H (.str b)) (hz : a.length + b.length ≤ 100000) : Ev (tOp (fun x y H Q => ∃ i j, x = .str i ∧ y = .str j ∧ i.length + j.length ≤ sizeLine ∧ Q (.str (i ++ j)) H) ta tb) σ H (.str (a ++ b)) :=
  ev_op ha hb fun H1 _ _ q => ⟨_, _, rfl, rfl, sz_of hz, q H1 (Ex.refl _)⟩
/-- s * n + 'a' + t * m -/
theorem ev_three {s t : String} {n m : Int} {L N L' M : Nat} (hs : (Str.ofString s).length ≤ L) (hn : n ≤ (N : Int)) (ht : (Str.ofString t).length ≤ L') (hm : m ≤ (M : Int)) (h0 : 0 ≤ n) (h1 : 0 ≤ m) (hN : N ≤ 10000) (hM : M ≤ 10000) (hLN : L * N ≤ 40000) (hLM : L' * M ≤ 40000) :
    Ev (tOp (fun x y H Q => ∃ i j, x = .str i ∧ y = .str j ∧ i.length + j.length ≤ sizeLine ∧ Q (.str (i ++ j)) H) (tOp (fun x y H Q => ∃ i j, x = .str i ∧ y = .str j ∧ i.length + j.length ≤ sizeLine ∧ Q (.str (i ++ j)) H) (tOp (fun x y H Q => ∃ a i, x = .str a ∧ y = .int i ∧ MulOk a i ∧ Q (.str (Txt.mul a i)) H) (tC (.str (Str.ofString s))) (tC (.int n))) (tC (.str (Str.ofString "a")))) (tOp (fun x y H Q => ∃ a i, x = .str a ∧ y = .int i ∧ MulOk a i ∧ Q (.str (Txt.mul a i)) H) (tC (.str (Str.ofString t))) (tC (.int m)))) σ H (.str (tn s n ++ Str.ofString "a" ++ tn t m)) := by
  have l1 := tn_len hs hn
  have l2 := tn_len ht hm
  have l3 := l1s.1
  exact ev_addX (ev_addX (ev_mulX ev_c ev_c hs hn (by omega) (by omega) (by omega)) ev_c (by omega)) (ev_mulX ev_c ev_c ht hm (by omega) (by omega) (by omega)) (by rw [Str.length_append]; omega)
end
def spGuessP : Nat → Sp
  | 0 => fun _ _ _ _ => False
  | n + 1 => spGuess n
end Dw

set_option Elab.async false
set_option linter.all false
set_option maxRecDepth 100000
namespace Dw
open PySem L2 Evl
set_option maxHeartbeats 4000000
/-! ### the text by places -/
def top (i : Nat) : Stmt := PySem.Challenge.pw_deltawires_k27_texts_spoilt.main.body.getD i (.Pass ⟨0, 0, 0, 0⟩)
abbrev s_is_whole : Stmt := top 10
abbrev N_is_whole : List Str := ["thing"]
theorem sc_is_whole : FnScope N_is_whole ["thing"] (defScope s_is_whole) := ⟨rfl, rfl, rfl, by decide +kernel, rfl, by decide +kernel, by decide +kernel⟩
abbrev s_is_value : Stmt := top 11
abbrev N_is_value : List Str := ["thing", "width", "sign"]
theorem sc_is_value : FnScope N_is_value ["thing", "width"] (defScope s_is_value) := ⟨rfl, rfl, rfl, by decide +kernel, rfl, by decide +kernel, by decide +kernel⟩
abbrev s_is_put_value : Stmt := top 12
abbrev N_is_put_value : List Str := ["thing", "width"]
theorem sc_is_put_value : FnScope N_is_put_value ["thing", "width"] (defScope s_is_put_value) := ⟨rfl, rfl, rfl, by decide +kernel, rfl, by decide +kernel, by decide +kernel⟩
abbrev s_is_name : Stmt := top 22
abbrev N_is_name : List Str := ["thing", "sign"]
theorem sc_is_name : FnScope N_is_name ["thing"] (defScope s_is_name) := ⟨rfl, rfl, rfl, by decide +kernel, rfl, by decide +kernel, by decide +kernel⟩
abbrev s_is_span : Stmt := top 23
abbrev N_is_span : List Str := ["high", "low"]
theorem sc_is_span : FnScope N_is_span ["high", "low"] (defScope s_is_span) := ⟨rfl, rfl, rfl, by decide +kernel, rfl, by decide +kernel, by decide +kernel⟩
abbrev s_is_shell : Stmt := top 24
abbrev N_is_shell : List Str := ["thing", "word"]
theorem sc_is_shell : FnScope N_is_shell ["thing"] (defScope s_is_shell) := ⟨rfl, rfl, rfl, by decide +kernel, rfl, by decide +kernel, by decide +kernel⟩
abbrev s_arguments_of : Stmt := top 25
abbrev N_arguments_of : List Str := ["term"]
theorem sc_arguments_of : FnScope N_arguments_of ["term"] (defScope s_arguments_of) := ⟨rfl, rfl, rfl, by decide +kernel, rfl, by decide +kernel, by decide +kernel⟩
abbrev s_is_term : Stmt := top 26
abbrev N_is_term : List Str := ["thing", "level", "many", "turn", "inner", "argument"]
theorem sc_is_term : FnScope N_is_term ["thing"] (defScope s_is_term) := ⟨rfl, rfl, rfl, by decide +kernel, rfl, by decide +kernel, by decide +kernel⟩
abbrev s_run_at : Stmt := top 29
abbrev N_run_at : List Str := ["text", "at", "end"]
theorem sc_run_at : FnScope N_run_at ["text", "at"] (defScope s_run_at) := ⟨rfl, rfl, rfl, by decide +kernel, rfl, by decide +kernel, by decide +kernel⟩
abbrev s_behind : Stmt := top 30
abbrev N_behind : List Str := ["text", "at", "mark"]
theorem sc_behind : FnScope N_behind ["text", "at", "mark"] (defScope s_behind) := ⟨rfl, rfl, rfl, by decide +kernel, rfl, by decide +kernel, by decide +kernel⟩
abbrev s_figure_at : Stmt := top 31
abbrev N_figure_at : List Str := ["text", "at", "sign"]
theorem sc_figure_at : FnScope N_figure_at ["text", "at"] (defScope s_figure_at) := ⟨rfl, rfl, rfl, by decide +kernel, rfl, by decide +kernel, by decide +kernel⟩
abbrev s_operator_at : Stmt := top 32
abbrev N_operator_at : List Str := ["text", "at", "word", "deep", "parts", "mark", "turn", "argument"]
theorem sc_operator_at : FnScope N_operator_at ["text", "at", "word", "deep"] (defScope s_operator_at) := ⟨rfl, rfl, rfl, by decide +kernel, rfl, by decide +kernel, by decide +kernel⟩
abbrev s_term_at : Stmt := top 33
abbrev N_term_at : List Str := ["text", "at", "deep", "word", "value"]
theorem sc_term_at : FnScope N_term_at ["text", "at", "deep"] (defScope s_term_at) := ⟨rfl, rfl, rfl, by decide +kernel, rfl, by decide +kernel, by decide +kernel⟩
abbrev s_read_term : Stmt := top 34
abbrev N_read_term : List Str := ["text", "term", "end"]
theorem sc_read_term : FnScope N_read_term ["text"] (defScope s_read_term) := ⟨rfl, rfl, rfl, by decide +kernel, rfl, by decide +kernel, by decide +kernel⟩
abbrev s__law_pot : Stmt := top 36
abbrev N__law_pot : List Str := ["_law_script", "_law_k", "_law_cell"]
theorem sc__law_pot : FnScope N__law_pot ["_law_script", "_law_k"] (defScope s__law_pot) := ⟨rfl, rfl, rfl, by decide +kernel, rfl, by decide +kernel, by decide +kernel⟩
abbrev s__law_take : Stmt := top 37
abbrev N__law_take : List Str := ["_law_pot_here", "_law_many", "_law_digit"]
theorem sc__law_take : FnScope N__law_take ["_law_pot_here", "_law_many"] (defScope s__law_take) := ⟨rfl, rfl, rfl, by decide +kernel, rfl, by decide +kernel, by decide +kernel⟩
abbrev s__law_words : Stmt := top 38
abbrev N__law_words : List Str := ["_law_words_here"]
theorem sc__law_words : FnScope N__law_words [] (defScope s__law_words) := ⟨rfl, rfl, rfl, by decide +kernel, rfl, by decide +kernel, by decide +kernel⟩
abbrev s__law_name : Stmt := top 39
abbrev N__law_name : List Str := ["_law_pot_here", "_law_taken", "_law_letters", "_law_found", "_law_k", "_law_letter"]
theorem sc__law_name : FnScope N__law_name ["_law_pot_here", "_law_taken"] (defScope s__law_name) := ⟨rfl, rfl, rfl, by decide +kernel, rfl, by decide +kernel, by decide +kernel⟩
abbrev s__law_names : Stmt := top 40
abbrev N__law_names : List Str := ["_law_pot_here", "_law_many", "_law_found", "_law_k"]
theorem sc__law_names : FnScope N__law_names ["_law_pot_here", "_law_many"] (defScope s__law_names) := ⟨rfl, rfl, rfl, by decide +kernel, rfl, by decide +kernel, by decide +kernel⟩
abbrev s__law_bits : Stmt := top 41
abbrev N__law_bits : List Str := ["_law_pot_here", "_law_width", "_law_signs", "_law_k"]
theorem sc__law_bits : FnScope N__law_bits ["_law_pot_here", "_law_width", "_law_signs"] (defScope s__law_bits) := ⟨rfl, rfl, rfl, by decide +kernel, rfl, by decide +kernel, by decide +kernel⟩
abbrev s__law_leaf : Stmt := top 42
abbrev N__law_leaf : List Str := ["_law_pot_here", "_law_widths", "_law_width", "_law_same", "_law_wider", "_law_way", "_law_name_here", "_law_low"]
theorem sc__law_leaf : FnScope N__law_leaf ["_law_pot_here", "_law_widths", "_law_width"] (defScope s__law_leaf) := ⟨rfl, rfl, rfl, by decide +kernel, rfl, by decide +kernel, by decide +kernel⟩
abbrev s__law_bit_term : Stmt := top 43
abbrev N__law_bit_term : List Str := ["_law_pot_here", "_law_widths", "_law_deep", "_law_room", "_law_way", "_law_width", "_law_first"]
theorem sc__law_bit_term : FnScope N__law_bit_term ["_law_pot_here", "_law_widths", "_law_deep", "_law_room"] (defScope s__law_bit_term) := ⟨rfl, rfl, rfl, by decide +kernel, rfl, by decide +kernel, by decide +kernel⟩
abbrev s__law_term : Stmt := top 44
abbrev N__law_term : List Str := ["_law_pot_here", "_law_widths", "_law_width", "_law_deep", "_law_room", "_law_way", "_law_first", "_law_word", "_law_bit", "_law_left", "_law_whole", "_law_low"]
theorem sc__law_term : FnScope N__law_term ["_law_pot_here", "_law_widths", "_law_width", "_law_deep", "_law_room"] (defScope s__law_term) := ⟨rfl, rfl, rfl, by decide +kernel, rfl, by decide +kernel, by decide +kernel⟩
abbrev s__law_is_name : Stmt := top 48
abbrev N__law_is_name : List Str := ["_law_thing", "_law_letters", "_law_sign"]
theorem sc__law_is_name : FnScope N__law_is_name ["_law_thing"] (defScope s__law_is_name) := ⟨rfl, rfl, rfl, by decide +kernel, rfl, by decide +kernel, by decide +kernel⟩
abbrev s__law_is_number : Stmt := top 49
abbrev N__law_is_number : List Str := ["_law_thing", "_law_most"]
theorem sc__law_is_number : FnScope N__law_is_number ["_law_thing", "_law_most"] (defScope s__law_is_number) := ⟨rfl, rfl, rfl, by decide +kernel, rfl, by decide +kernel, by decide +kernel⟩
abbrev s__law_is_leaf : Stmt := top 50
abbrev N__law_is_leaf : List Str := ["_law_thing", "_law_sign"]
theorem sc__law_is_leaf : FnScope N__law_is_leaf ["_law_thing"] (defScope s__law_is_leaf) := ⟨rfl, rfl, rfl, by decide +kernel, rfl, by decide +kernel, by decide +kernel⟩
abbrev s__law_weight : Stmt := top 51
abbrev N__law_weight : List Str := ["_law_thing", "_law_deep", "_law_many", "_law_terms", "_law_weights", "_law_term_here"]
theorem sc__law_weight : FnScope N__law_weight ["_law_thing", "_law_deep"] (defScope s__law_weight) := ⟨rfl, rfl, rfl, by decide +kernel, rfl, by decide +kernel, by decide +kernel⟩
abbrev s__law_is_term : Stmt := top 52
abbrev N__law_is_term : List Str := ["_law_thing"]
theorem sc__law_is_term : FnScope N__law_is_term ["_law_thing"] (defScope s__law_is_term) := ⟨rfl, rfl, rfl, by decide +kernel, rfl, by decide +kernel, by decide +kernel⟩
abbrev s__law_text : Stmt := top 53
abbrev N__law_text : List Str := ["_law_term_here", "_law_word", "_law_things", "_law_one"]
theorem sc__law_text : FnScope N__law_text ["_law_term_here"] (defScope s__law_text) := ⟨rfl, rfl, rfl, by decide +kernel, rfl, by decide +kernel, by decide +kernel⟩
abbrev s__law_tall : Stmt := top 45
abbrev N__law_tall : List Str := ["_law_pot_here", "_law_thing", "_law_k"]
theorem sc__law_tall : FnScope N__law_tall ["_law_pot_here"] (defScope s__law_tall) := ⟨rfl, rfl, rfl, by decide +kernel, rfl, by decide +kernel, by decide +kernel⟩
abbrev s__law_wide : Stmt := top 46
abbrev N__law_wide : List Str := ["_law_pot_here", "_law_row", "_law_k"]
theorem sc__law_wide : FnScope N__law_wide ["_law_pot_here"] (defScope s__law_wide) := ⟨rfl, rfl, rfl, by decide +kernel, rfl, by decide +kernel, by decide +kernel⟩
abbrev s__law_drawn : Stmt := top 47
abbrev N__law_drawn : List Str := ["_law_pot_here", "_law_names_here", "_law_widths", "_law_way", "_law_name_here"]
theorem sc__law_drawn : FnScope N__law_drawn ["_law_pot_here"] (defScope s__law_drawn) := ⟨rfl, rfl, rfl, by decide +kernel, rfl, by decide +kernel, by decide +kernel⟩
abbrev s__law_parts : Stmt := top 54
abbrev N__law_parts : List Str := ["_law_text_here", "_law_found", "_law_deep", "_law_sign", "_law_k", "_law_part"]
theorem sc__law_parts : FnScope N__law_parts ["_law_text_here"] (defScope s__law_parts) := ⟨rfl, rfl, rfl, by decide +kernel, rfl, by decide +kernel, by decide +kernel⟩
abbrev s__law_guess : Stmt := top 55
abbrev N__law_guess : List Str := ["_law_text_here", "_law_deep", "_law_word", "_law_parts_here", "_law_part"]
theorem sc__law_guess : FnScope N__law_guess ["_law_text_here", "_law_deep"] (defScope s__law_guess) := ⟨rfl, rfl, rfl, by decide +kernel, rfl, by decide +kernel, by decide +kernel⟩
abbrev s__law_told_by : Stmt := top 56
abbrev N__law_told_by : List Str := ["_law_text_here", "_law_found"]
theorem sc__law_told_by : FnScope N__law_told_by ["_law_text_here"] (defScope s__law_told_by) := ⟨rfl, rfl, rfl, by decide +kernel, rfl, by decide +kernel, by decide +kernel⟩
abbrev s__law_spoilt : Stmt := top 57
abbrev N__law_spoilt : List Str := ["_law_pot_here", "_law_text_here", "_law_way", "_law_here", "_law_sign", "_law_long", "_law_begin"]
theorem sc__law_spoilt : FnScope N__law_spoilt ["_law_pot_here", "_law_text_here"] (defScope s__law_spoilt) := ⟨rfl, rfl, rfl, by decide +kernel, rfl, by decide +kernel, by decide +kernel⟩
abbrev s__law_right : Stmt := top 59
abbrev N__law_right : List Str := ["_law_text_here", "_law_due", "_law_found", "e", "_law_others", "_law_refused"]
theorem sc__law_right : FnScope N__law_right ["_law_text_here"] (defScope s__law_right) := ⟨rfl, rfl, rfl, by decide +kernel, rfl, by decide +kernel, by decide +kernel⟩
abbrev s__law_odd : Stmt := top 58
abbrev N__law_odd : List Str := ["_law_pot_here", "_law_some", "_law_deep"]
theorem sc__law_odd : FnScope N__law_odd ["_law_pot_here"] (defScope s__law_odd) := ⟨rfl, rfl, rfl, by decide +kernel, rfl, by decide +kernel, by decide +kernel⟩
abbrev s_law : Stmt := top 60
abbrev N_law : List Str := ["_law_script", "_law_k", "_law_pot_here", "_law_text_here", "_law_spoilt_here", "_law_turn"]
theorem sc_law : FnScope N_law ["_law_script"] (defScope s_law) := ⟨rfl, rfl, rfl, by decide +kernel, rfl, by decide +kernel, by decide +kernel⟩

structure Bi (K : PySem.W.Frag) (w : World) (mg : Str → Option Value) (dG dW dK a_NoValue a_NoNumber a_NoTerm a_NoText a_NoRow a_WireError : Addr) : Prop where
  ValueError : mg "ValueError" = none
  all : mg "all" = none
  bool : mg "bool" = none
  dict : mg "dict" = none
  divmod : mg "divmod" = none
  enumerate : mg "enumerate" = none
  int : mg "int" = none
  isinstance : mg "isinstance" = none
  len : mg "len" = none
  list : mg "list" = none
  max : mg "max" = none
  min : mg "min" = none
  range : mg "range" = none
  repr : mg "repr" = none
  str : mg "str" = none
  sum : mg "sum" = none
  tuple : mg "tuple" = none
  c_BIT_FIGURES : GlV mg "BIT_FIGURES" (.str "01234567")
  c_DEEPEST_TERM : GlV mg "DEEPEST_TERM" (.int 10)
  c_LETTERS : GlV mg "LETTERS" (.str "abcdefghijklmnopqrstuvwxyz")
  c_LONGEST_NAME : GlV mg "LONGEST_NAME" (.int 8)
  c_MOST_TUPLES : GlV mg "MOST_TUPLES" (.int 60)
  c_NAME_SIGNS : GlV mg "NAME_SIGNS" (.str "abcdefghijklmnopqrstuvwxyz0123456789")
  c_SIGNS : GlV mg "SIGNS" (.str "01xz")
  c_WIDEST : GlV mg "WIDEST" (.int 8)
  c_ARGUMENTS : GlV mg "ARGUMENTS" (.ref dG)
  x_args : ∀ p ∈ argN, KDct K w dG p.1 (.int p.2)
  x_kd : ∃ es n, KDict K w dG es n
  x_no : NoArg K dG
  c_WORDS : GlV mg "WORDS" (.ref dW)
  c_KEPT_WORDS : GlV mg "KEPT_WORDS" (.ref dK)
  x_W : ∀ H : Hp, SqT K H dW (words12.map V.str)
  x_K : ∀ H : Hp, SqT K H dK (words5.map V.str)
  c_NoValue : GlV mg "NoValue" (.ref a_NoValue)
  c_NoNumber : GlV mg "NoNumber" (.ref a_NoNumber)
  c_NoTerm : GlV mg "NoTerm" (.ref a_NoTerm)
  c_NoText : GlV mg "NoText" (.ref a_NoText)
  c_NoRow : GlV mg "NoRow" (.ref a_NoRow)
  c_WireError : GlV mg "WireError" (.ref a_WireError)
  x_xNoText : PySem.W.excIn K a_NoText [.type "ValueError", .type "Exception", .type "BaseException", .type "object"] "ValueError.__new__" = true
  x_gNoText : mg "NoText" = some (.ref a_NoText)
  x_kNoText : PySem.W.keepIn K (.ref a_NoText) = true
  x_bNoText : PySem.W.subIn K (.ref a_NoText) (.type "BaseException") = some true
  x_tNoText : PySem.W.typeIn K (.ref a_NoText) = some (.type "type")
  x_iNoValue : PySem.W.kitOne K (.ref a_NoText) (.ref a_NoValue) = some false
  x_iNoNumber : PySem.W.kitOne K (.ref a_NoText) (.ref a_NoNumber) = some false
  x_iNoTerm : PySem.W.kitOne K (.ref a_NoText) (.ref a_NoTerm) = some false
  x_iNoText : PySem.W.kitOne K (.ref a_NoText) (.ref a_NoText) = some true
  x_iNoRow : PySem.W.kitOne K (.ref a_NoText) (.ref a_NoRow) = some false
  x_iWireError : PySem.W.kitOne K (.ref a_NoText) (.ref a_WireError) = some true
  x_iV : PySem.W.kitOne K (.ref a_NoText) (.type "ValueError") = some true
  x_gE : mg "WireError" = some (.ref a_WireError)
  x_m : PySem.W.exmOne K (.ref a_NoText) (.ref a_WireError) = some true
  x_cN : ExcC K a_NoText

section
variable {P : Program} {w : World} {K : PySem.W.Frag} {mg : Str → Option Value} {base : Heap} {dG dW dK a_NoValue a_NoNumber a_NoTerm a_NoText a_NoRow a_WireError : Addr}
theorem ok_is_whole {f  : Addr} {fd  : FuncData} (F : Fun K "is_whole" "is_whole" s_is_whole f fd) (B : Bi K w mg dG dW dK a_NoValue a_NoNumber a_NoTerm a_NoText a_NoRow a_WireError)   : FnOk P w K mg base CX0 (1) f fd ["thing"] (spWholeZ) := by
  refine F.ok sc_is_whole (fun vs H Q E h => ?_) (fun cdv A outer s H vs Q E hr h => ?_)
  · obtain ⟨p, v, d, rfl, _⟩ := h
    all_goals rfl
  · obtain ⟨p, v, d, rfl, hd, q⟩ := h
    refine ⟨_, (pss_one (ps_ret (pe_and (pe_callB call_isi (by rfl) B.isinstance (by decide +kernel) (pa_cons (pv 0) (pa_cons (pe_bltn (v := .ty "int") (by rfl) B.int (by decide +kernel) rfl) pa_nil))) (pe_one (pe_not (pe_callB call_isi (by rfl) B.isinstance (by decide +kernel) (pa_cons (pv 0) (pa_cons (pe_bltn (v := .ty "bool") (by rfl) B.bool (by decide +kernel) rfl) pa_nil)))))))), ?_⟩
    refine s_ret (v := .bl (isZ "int" d && !isZ "bool" d)) (ev_andV (ev_isi (ev_var rfl) ev_c fun H1 e => ⟨_, (hd.ex e).ty, (kit_z d).1⟩) fun _ => ev_notV (ev_isi (ev_var rfl) ev_c fun H1 e => ⟨_, (hd.ex e).ty, (kit_z d).2.1⟩)) fun H1 e1 => ?_
    have : (isZ "int" d && !isZ "bool" d) = wholeZ d := by cases d <;> rfl
    rw [this]
    exact q H1 e1
theorem ok_is_value {f  : Addr} {fd  : FuncData} (F : FunD K "is_value" "is_value" (defArgs s_is_value) (defBody s_is_value) (defScope s_is_value) [] [("width", .int 0)] f fd) (B : Bi K w mg dG dW dK a_NoValue a_NoNumber a_NoTerm a_NoText a_NoRow a_WireError)   : FnOk P w K mg base CX0 (1) f fd ["thing", "width"] (spValueZ) := by
  refine F.ok sc_is_value (fun vs H Q E h => ?_) (fun cdv A outer s H vs Q E hr h => ?_)
  · obtain ⟨p, v, d, rfl, _⟩ := h
    all_goals rfl
  · obtain ⟨p, v, d, rfl, hd, hz, q⟩ := h
    refine ⟨_, (pss_cons (ps_if (PW.pt (pw_or (pt_not (pt_val (pe_callB call_isi (by rfl) B.isinstance (by decide +kernel) (pa_cons (pv 0) (pa_cons (pe_bltn (v := .ty "str") (by rfl) B.str (by decide +kernel) rfl) pa_nil))))) (pw_or1 (pt_not (pt_chain op_le op_le pe_int (pe_callB call_len_str (by rfl) B.len PySem.boot_len (pa_cons (pv 0) pa_nil)) (pgl (by rfl) B.c_WIDEST)))))) (pss_one (ps_ret pe_bl)) pss_nil)
      (pss_cons (ps_if (PW.pt (pw_and (pt_cmpR op_ne (pv 1) pe_int (nomark _)) (pw_and1 (pt_cmpR op_ne (pe_callB call_len_str (by rfl) B.len PySem.boot_len (pa_cons (pv 0) pa_nil)) (pv 1) (nomark _))))) (pss_one (ps_ret pe_bl)) pss_nil)
      (pss_one (ps_ret (pe_callB (cr_all rfl) (by rfl) B.all (by decide +kernel) (pa_cons (pe_lc (own := [("sign", 2)]) (g := gName 2) (tt := tYes) (by rfl) sc_is_value.nd (pi_str (pv 0)) (blkOk_by (own := [("sign", 2)]) (N := N_is_value) (sc := defScope s_is_value) (by decide +kernel)) (fun _ _ _ _ _ => pg_name (i := 2) sc_is_value.nd rfl (Or.inl rfl)) (fun _ _ _ _ _ => pts_nil) (fun _ _ _ _ _ => (pe_cmpR op_inS (pv 2) (pgl (by rfl) B.c_SIGNS) rfl))) pa_nil)))))), ?_⟩
    have isi : ∀ H1, Ex H H1 → Ev (tCB (rIsi K) (tCons (tVar 0) (tCons (tC (.ty "str")) tNil))) (start N_is_value [v, .int 0]) H1 (.bl (isZ "str" d)) := fun H1 e => ev_isi (ev_var rfl) ev_c fun H2 e2 => ⟨_, (hd.ex (e.trans e2)).ty, (kit_z d).2.2.1⟩
    by_cases hs : isZ "str" d = true
    · obtain ⟨l, rfl, rfl⟩ : ∃ l, d = .str (Tx l) ∧ v = .str (Tx l) := by
        cases hd with
        | str l => exact ⟨l, rfl, rfl⟩
        | non => exact absurd hs (by decide)
        | bl b => exact absurd hs (by simp [isZ, isZs, tyZ])
        | int b => exact absurd hs (by simp [isZ, isZs, tyZ])
        | lst _ _ _ _ => exact absurd hs (by simp [isZ, isZs, tyZ])
        | tup _ _ => exact absurd hs (by simp [isZ, isZs, tyZ])
        | dct _ => exact absurd hs (by simp [isZ, isZs, tyZ])
      have hl : l.length ≤ 39000 := by
        have : 1 + (Tx l).length ≤ 39000 := hz
        rw [Tx_len] at this
        omega
      have hv : valueZ (.str (Tx l)) = vL l := by simp [valueZ, Tx]
      rw [hv] at q
      have hlen : ∀ H1, Ev (tCB rLenT (tCons (tVar 0) tNil)) (start N_is_value [.str (Tx l), .int 0]) H1 (.int (l.length : Int)) := fun H1 => ev_lenT (ev_var rfl) (by omega)
      refine q_when (b := !(isZ "str" (.str (Tx l))) || !(decide ((1 : Int) ≤ (l.length : Int)) && decide ((l.length : Int) ≤ 8))) ?_ (fun hb H1 e1 => ?_) (fun hb H1 e1 => ?_)
      · exact et_or (et_not (et_B (isi H (Ex.refl _)))) fun _ => et_not (et_test (ev_chain ev_c (hlen _) rv_I0 fun _ => ⟨ev_c, rv_I0⟩))
      · refine s_ret ev_c fun H2 e2 => ?_
        have e0 : vL l = false := by
          unfold vL
          rw [hs] at hb
          simp at hb
          rw [Bool.and_eq_false_iff, Bool.and_eq_false_iff]
          refine .inl ?_
          by_cases h1 : 1 ≤ l.length
          · exact .inr (decide_eq_false (by omega))
          · exact .inl (decide_eq_false h1)
        have q2 := q H2 (e1.trans e2)
        rw [e0] at q2
        exact q2
      · rw [hs] at hb
        simp at hb
        have hb2 : decide (1 ≤ l.length) = true ∧ decide (l.length ≤ 8) = true := ⟨decide_eq_true (by omega), decide_eq_true (by omega)⟩
        refine q_when (b := (!decide (V.int 0 = V.int 0)) && (!decide (V.int (l.length : Int) = V.int 0))) (et_and (et_test (ev_op (ev_var rfl) ev_c (rv_ne rfl))) fun _ => et_test (ev_op (hlen _) (ev_var rfl) (rv_ne rfl))) (fun hc H2 e2 => ?_) (fun hc H2 e2 => ?_)
        · simp at hc
        · have hL : EvL (tLc (iStr (tVar 0)) (gName 2) tYes (tOp rInS (tVar 2) (tC (.str (Str.ofString "01xz")))) [2]) (start N_is_value [.str (Tx l), .int 0]) H2 ((l.map fun c => decide (c ∈ sgn)).map V.bl) := by
            rw [List.map_map]
            refine el_lcT1 _ (ev_var rfl) (by omega) (fun x => rfl) (fun c H3 _ _ => ?_)
            have g := ev_inS (σ := (wipe (start N_is_value [V.str (Tx l), V.int 0]) [2]).set 2 (some (V.str (Tx [c])))) (H := H3) (ta := tVar 2) (tb := tC (.str (Str.ofString "01xz"))) (c := c) (ev_var rfl) ev_c
            rw [e_sgn] at g
            exact g
          refine s_ret (ev_all hL) fun H3 e3 => ?_
          have q2 := q H3 ((e1.trans e2).trans e3)
          unfold vL at q2
          rw [hb2.1, hb2.2, Bool.true_and, Bool.true_and] at q2
          rw [List.all_map]
          exact q2
    · have hs2 : isZ "str" d = false := by simpa using hs
      have hv : valueZ d = false := by
        cases d with
        | str x => exact absurd hs2 (by simp [isZ, isZs, tyZ])
        | _ => rfl
      rw [hv] at q
      refine q_when (b := true) ?_ (fun _ H1 e1 => s_ret ev_c fun H2 e2 => q H2 (e1.trans e2)) (fun hb => by cases hb)
      exact et_is (et_or (b := true) (et_not (et_B (isi H (Ex.refl _)))) fun hb => by rw [hs2] at hb; cases hb) (by rw [hs2]; rfl)
theorem ok_is_put_value {f f1 : Addr} {fd fd1 : FuncData} (F : FunD K "is_put_value" "is_put_value" (defArgs s_is_put_value) (defBody s_is_put_value) (defScope s_is_put_value) [] [("width", .int 0)] f fd) (B : Bi K w mg dG dW dK a_NoValue a_NoNumber a_NoTerm a_NoText a_NoRow a_WireError)  (D_is_value : DfD P w K mg base CX0 "is_value" 1 f1 fd1 ["thing", "width"] (spValueZ)) {gk_is_value_width : List Value → List Value → List Value} (kb_is_value_width : KBn K fd1 ["thing", "width"] 1 ["width"] gk_is_value_width (fun vs zs => vs ++ zs)) : FnOk P w K mg base CX0 (2) f fd ["thing", "width"] (spPutZ) := by
  refine F.ok sc_is_put_value (fun vs H Q E h => ?_) (fun cdv A outer s H vs Q E hr h => ?_)
  · obtain ⟨p, v, d, rfl, _⟩ := h
    all_goals rfl
  · obtain ⟨p, v, d, rfl, hd, hz, q⟩ := h
    refine ⟨_, (pss_one (ps_ret (pe_and (pe_callN D_is_value.ok (hr.mono (by decide)) (by rfl) D_is_value.g D_is_value.kp kb_is_value_width pass0 (pa_cons (pv 0) pa_nil) (pk_cons (pv 1) pk_nil)) (pe_one (pe_cmpR op_notInS pe_str (pv 0) rfl))))), ?_⟩
    refine s_ret (v := .bl (putZ d)) (ev_is (ev_andV (a := valueZ d) (b := nozZ d) (ev_callN (zs := [.int 0]) (ea_cons (ev_var rfl) ea_nil) (ea_cons (ev_var rfl) ea_nil) rfl rfl (fun H1 e1 Q1 q1 E1 => ⟨p, v, d, rfl, hd.ex e1, hz, q1⟩)) fun ha => ?_) (by rw [put_is])) q
    obtain ⟨l, rfl, rfl⟩ : ∃ l, d = .str (Tx l) ∧ v = .str (Tx l) := by
      cases hd with
      | str l => exact ⟨l, rfl, rfl⟩
      | _ => exact absurd ha (by simp [valueZ])
    exact ev_op (x := .str (Tx [122])) (ev_is ev_c (by rw [s_z])) (ev_var rfl) fun H1 e1 Q1 q1 => ⟨122, Tx l, rfl, rfl, q1 H1 (Ex.refl _)⟩
theorem ok_is_name {f  : Addr} {fd  : FuncData} (F : Fun K "is_name" "is_name" s_is_name f fd) (B : Bi K w mg dG dW dK a_NoValue a_NoNumber a_NoTerm a_NoText a_NoRow a_WireError)   : FnOk P w K mg base CX0 (1) f fd ["thing"] (spNameZ) := by
  refine F.ok sc_is_name (fun vs H Q E h => ?_) (fun cdv A outer s H vs Q E hr h => ?_)
  · obtain ⟨p, v, d, rfl, _⟩ := h
    all_goals rfl
  · obtain ⟨p, v, d, rfl, hd, hz, q⟩ := h
    refine ⟨_, (pss_cons (ps_if (PW.pt (pw_or (pt_not (pt_val (pe_callB call_isi (by rfl) B.isinstance (by decide +kernel) (pa_cons (pv 0) (pa_cons (pe_bltn (v := .ty "str") (by rfl) B.str (by decide +kernel) rfl) pa_nil))))) (pw_or1 (pt_not (pt_chain op_le op_le pe_int (pe_callB call_len_str (by rfl) B.len PySem.boot_len (pa_cons (pv 0) pa_nil)) (pgl (by rfl) B.c_LONGEST_NAME)))))) (pss_one (ps_ret pe_bl)) pss_nil)
      (pss_cons (ps_if (PW.pt (pw_or (pt_cmpR op_in_seq (pv 0) (pgl (by rfl) B.c_WORDS) rfl) (pw_or1 (pt_cmpR op_in_seq (pv 0) (pgl (by rfl) B.c_KEPT_WORDS) rfl)))) (pss_one (ps_ret pe_bl)) pss_nil)
      (pss_one (ps_ret (pe_and (pe_cmpR op_inS (pe_ix ix_str (pv 0) pe_int (fun _ _ => rfl)) (pgl (by rfl) B.c_LETTERS) rfl) (pe_one (pe_callB (cr_all rfl) (by rfl) B.all (by decide +kernel) (pa_cons (pe_lc (own := [("sign", 1)]) (g := gName 1) (tt := tYes) (by rfl) sc_is_name.nd (pi_str (pv 0)) (blkOk_by (own := [("sign", 1)]) (N := N_is_name) (sc := defScope s_is_name) (by decide +kernel)) (fun _ _ _ _ _ => pg_name (i := 1) sc_is_name.nd rfl (Or.inl rfl)) (fun _ _ _ _ _ => pts_nil) (fun _ _ _ _ _ => (pe_cmpR op_inS (pv 1) (pgl (by rfl) B.c_NAME_SIGNS) rfl))) pa_nil)))))))), ?_⟩
    by_cases hs : isZ "str" d = true
    · obtain ⟨l, rfl, rfl⟩ := hd.isStr hs
      have hl : l.length ≤ 39000 := by
        have : 1 + (Tx l).length ≤ 39000 := hz
        rw [Tx_len] at this
        omega
      have hnm : nameZ (.str (Tx l)) = nameL l := rfl
      rw [hnm] at q
      have hlen : ∀ H1, Ev (tCB rLenT (tCons (tVar 0) tNil)) (start N_is_name [.str (Tx l)]) H1 (.int (l.length : Int)) := fun H1 => ev_lenT (ev_var rfl) (by omega)
      refine q_when (b := !(isZ "str" (.str (Tx l))) || !(decide ((1 : Int) ≤ (l.length : Int)) && decide ((l.length : Int) ≤ 8))) (et_or (et_not (et_B (ev_isZs (ev_var rfl) hd))) fun _ => et_not (et_test (ev_chain ev_c (hlen _) rv_I0 fun _ => ⟨ev_c, rv_I0⟩))) (fun hb H1 e1 => ?_) (fun hb H1 e1 => ?_)
      · have e0 : nameL l = false := by
          unfold nameL
          rw [hs] at hb
          simp at hb
          by_cases h1 : 1 ≤ l.length
          · rw [decide_eq_false (by omega : ¬ l.length ≤ 8)]
            simp
          · rw [decide_eq_false h1]
            simp
        exact s_ret ev_c fun H2 e2 => by
          have q2 := q H2 (e1.trans e2)
          rw [e0] at q2
          exact q2
      · rw [hs] at hb
        simp at hb
        obtain ⟨c, r, rfl⟩ : ∃ c r, l = c :: r := by
          cases l with
          | nil => simp at hb
          | cons c r => exact ⟨c, r, rfl⟩
        have hb2 : decide (1 ≤ (c :: r).length) = true ∧ decide ((c :: r).length ≤ 8) = true := ⟨decide_eq_true (by omega), decide_eq_true (by omega)⟩
        refine q_when (b := decide (Tx (c :: r) ∈ words12) || decide (Tx (c :: r) ∈ words5)) (et_or (et_test (ev_inStrsT (ev_var rfl) ev_c (B.x_W H1))) fun _ => et_test (ev_inStrsT (ev_var rfl) ev_c (B.x_K H1))) (fun hc H2 e2 => ?_) (fun hc H2 e2 => ?_)
        · have e0 : nameL (c :: r) = false := by
            unfold nameL
            rw [hb2.1, hb2.2]
            rw [Bool.or_eq_true] at hc
            rcases hc with h | h <;> rw [h] <;> simp
          exact s_ret ev_c fun H3 e3 => by
            have q2 := q H3 (e1.trans (e2.trans e3))
            rw [e0] at q2
            exact q2
        · have hL : EvL (tLc (iStr (tVar 0)) (gName 1) tYes (tOp rInS (tVar 1) (tC (.str (Str.ofString "abcdefghijklmnopqrstuvwxyz0123456789")))) [1]) (start N_is_name [.str (Tx (c :: r))]) H2 (((c :: r).map fun d => decide (d ∈ nsg)).map V.bl) := by
            rw [List.map_map]
            refine el_lcT1 _ (ev_var rfl) (by omega) (fun x => rfl) (fun d H3 _ _ => ?_)
            have g := ev_inS (σ := (wipe (start N_is_name [V.str (Tx (c :: r))]) [1]).set 1 (some (V.str (Tx [d])))) (H := H3) (ta := tVar 1) (tb := tC (.str (Str.ofString "abcdefghijklmnopqrstuvwxyz0123456789"))) (c := d) (ev_var rfl) ev_c
            rw [e_nsg] at g
            exact g
          rw [Bool.or_eq_false_iff] at hc
          refine s_ret (v := .bl (nameL (c :: r))) (ev_is (ev_andV (a := decide (c ∈ lets)) (b := ((c :: r).map fun d => decide (d ∈ nsg)).all id) (ev_is (ev_inS (c := c) (ev_ixT (ev_var rfl) ev_c (by omega) (atI_nat (j := 0) rfl)) ev_c) (by rw [e_lets])) fun _ => ev_all hL) ?_) fun H3 e3 => q H3 (e1.trans (e2.trans e3))
          unfold nameL
          rw [hb2.1, hb2.2, hc.1, hc.2, List.all_map]
          simp
    · have hs2 : isZ "str" d = false := by simpa using hs
      rw [(not_str hs2).1] at q
      refine q_when (b := true) (et_is (et_or (b := true) (et_not (et_B (ev_isZs (ev_var rfl) hd))) fun hb => by rw [hs2] at hb; cases hb) (by rw [hs2]; rfl)) (fun _ H1 e1 => s_ret ev_c fun H2 e2 => q H2 (e1.trans e2)) (fun hb => by cases hb)
theorem ok_is_span {f f1 : Addr} {fd fd1 : FuncData} (F : Fun K "is_span" "is_span" s_is_span f fd) (B : Bi K w mg dG dW dK a_NoValue a_NoNumber a_NoTerm a_NoText a_NoRow a_WireError)  (D_is_whole : Df P w K mg base CX0 "is_whole" 1 f1 fd1 ["thing"] (spWholeZ)) : FnOk P w K mg base CX0 (2) f fd ["high", "low"] (spSpanZ) := by
  refine F.ok sc_is_span (fun vs H Q E h => ?_) (fun cdv A outer s H vs Q E hr h => ?_)
  · obtain ⟨p, v, u, d, e, rfl, _⟩ := h
    all_goals rfl
  · obtain ⟨p, v, u, d, e, rfl, hd, he, q⟩ := h
    refine ⟨_, (pss_one (ps_ret (pe_and (pe_call D_is_whole.ok (hr.mono (by decide)) (by rfl) D_is_whole.g D_is_whole.kp D_is_whole.b .nil pass0 (pa_cons (pv 0) pa_nil)) (pe_and (pe_call D_is_whole.ok (hr.mono (by decide)) (by rfl) D_is_whole.g D_is_whole.kp D_is_whole.b .nil pass0 (pa_cons (pv 1) pa_nil)) (pe_one (pe_chain3 op_le op_le op_lt pe_int (pv 1) (pv 0) (pgl (by rfl) B.c_WIDEST))))))), ?_⟩
    refine s_ret (v := .bl (spanZ d e)) (ev_is (ev_andV (a := wholeZ d) (b := wholeZ e && spanZ d e) (ev_call (ea_cons (ev_var rfl) ea_nil) (fun H1 e1 Q1 q1 E1 => ⟨p, v, d, rfl, hd.ex e1, q1⟩)) fun h1 => ev_andV (a := wholeZ e) (b := spanZ d e) (ev_call (ea_cons (ev_var rfl) ea_nil) (fun H1 e1 Q1 q1 E1 => ⟨p, u, e, rfl, he.ex e1, q1⟩)) fun h2 => ?_) (by cases d <;> cases e <;> rfl)) q
    obtain ⟨i, rfl, rfl⟩ := hd.isInt h1
    obtain ⟨j, rfl, rfl⟩ := he.isInt h2
    refine ev_is (ev_chain3B (b1 := decide (0 ≤ j)) (b2 := decide (j ≤ i)) (b3 := decide (i < 8)) ev_c (ev_var rfl) (ev_var rfl) ev_c rv_I0 rv_I0 rv_I0) ?_
    show V.bl (decide (0 ≤ j) && (decide (j ≤ i) && decide (i < 8))) = .bl (decide (0 ≤ j) && decide (j ≤ i) && decide (i < 8))
    rw [Bool.and_assoc]
theorem ok_is_shell {f f1 f2 f3 : Addr} {fd fd1 fd2 fd3 : FuncData} (F : Fun K "is_shell" "is_shell" s_is_shell f fd) (B : Bi K w mg dG dW dK a_NoValue a_NoNumber a_NoTerm a_NoText a_NoRow a_WireError)  (D_is_put_value : DfD P w K mg base CX0 "is_put_value" 2 f1 fd1 ["thing", "width"] (spPutZ)) {ds_is_put_value : List Value} (b0_is_put_value : Binds K fd1 ["thing", "width"] ds_is_put_value) (v0_is_put_value : Vals [.int 0] ds_is_put_value) (D_is_name : Df P w K mg base CX0 "is_name" 1 f2 fd2 ["thing"] (spNameZ)) (D_is_span : Df P w K mg base CX0 "is_span" 2 f3 fd3 ["high", "low"] (spSpanZ)) : FnOk P w K mg base CX0 (3) f fd ["thing"] (spShellZ) := by
  refine F.ok sc_is_shell (fun vs H Q E h => ?_) (fun cdv A outer s H vs Q E hr h => ?_)
  · obtain ⟨p, v, d, rfl, _⟩ := h
    all_goals rfl
  · obtain ⟨p, v, d, rfl, hd, hz, q⟩ := h
    refine ⟨_, (pss_cons (ps_if (PW.pt (pw_or (pt_not (pt_val (pe_callB call_isi (by rfl) B.isinstance (by decide +kernel) (pa_cons (pv 0) (pa_cons (pe_bltn (v := .ty "tuple") (by rfl) B.tuple (by decide +kernel) rfl) pa_nil))))) (pw_or (pt_cmpR op_lt (pe_callB call_len_seq (by rfl) B.len PySem.boot_len (pa_cons (pv 0) pa_nil)) pe_int (nomark _)) (pw_or1 (pt_not (pt_val (pe_callB call_isi (by rfl) B.isinstance (by decide +kernel) (pa_cons (pe_ix ix_tup (pv 0) pe_int (fun _ _ => rfl)) (pa_cons (pe_bltn (v := .ty "str") (by rfl) B.str (by decide +kernel) rfl) pa_nil))))))))) (pss_one (ps_ret pe_bl)) pss_nil)
      (pss_cons (ps_set (i := 1) sc_is_shell.nd rfl (Or.inl rfl) (pe_ix ix_tup (pv 0) pe_int (fun _ _ => rfl)))
      (pss_cons (ps_if (pt_cmpR op_eq (pv 1) pe_str (nomark _)) (pss_one (ps_ret (pe_and (pe_cmpR op_eq (pe_callB call_len_seq (by rfl) B.len PySem.boot_len (pa_cons (pv 0) pa_nil)) pe_int (nomark _)) (pe_one (pe_call D_is_put_value.ok (hr.mono (by decide)) (by rfl) D_is_put_value.g D_is_put_value.kp b0_is_put_value v0_is_put_value pass0 (pa_cons (pe_ix ix_tup (pv 0) pe_int (fun _ _ => rfl)) pa_nil)))))) pss_nil)
      (pss_cons (ps_if (pt_cmpR op_eq (pv 1) pe_str (nomark _)) (pss_one (ps_ret (pe_and (pe_cmpR op_eq (pe_callB call_len_seq (by rfl) B.len PySem.boot_len (pa_cons (pv 0) pa_nil)) pe_int (nomark _)) (pe_one (pe_call D_is_name.ok (hr.mono (by decide)) (by rfl) D_is_name.g D_is_name.kp D_is_name.b .nil pass0 (pa_cons (pe_ix ix_tup (pv 0) pe_int (fun _ _ => rfl)) pa_nil)))))) pss_nil)
      (pss_cons (ps_if (pt_cmpR op_eq (pv 1) pe_str (nomark _)) (pss_one (ps_ret (pe_and (pe_cmpR op_eq (pe_callB call_len_seq (by rfl) B.len PySem.boot_len (pa_cons (pv 0) pa_nil)) pe_int (nomark _)) (pe_one (pe_call D_is_span.ok (hr.mono (by decide)) (by rfl) D_is_span.g D_is_span.kp D_is_span.b .nil pass0 (pa_cons (pe_ix ix_tup (pv 0) pe_int (fun _ _ => rfl)) (pa_cons (pe_ix ix_tup (pv 0) pe_int (fun _ _ => rfl)) pa_nil))))))) pss_nil)
      (pss_one (ps_ret (pe_and (pe_cmpR (op_inKD B.x_kd) (pv 1) (pgl (by rfl) B.c_ARGUMENTS) rfl) (pe_one (pe_cmpR op_eq (pe_callB call_len_seq (by rfl) B.len PySem.boot_len (pa_cons (pv 0) pa_nil)) (pe_op op_add pe_int (pe_ix ix_kdict (pgl (by rfl) B.c_ARGUMENTS) (pv 1) (fun _ _ => rfl))) (nomark _))))))))))), ?_⟩
    by_cases ht : isZ "tuple" d = true
    · obtain ⟨a, xs, ds, rfl, rfl, ha, hall⟩ := hd.isTup ht
      have hlen := hall.len
      by_cases hl : ds.length < 2
      · rw [shell_short hl] at q
        refine q_when (b := true) (et_is (et_or (a := !isZ "tuple" (.tuple ds)) (b := true) (et_not (et_B (ev_isZt (ev_var rfl) hd))) fun _ => et_is (et_or (a := decide ((xs.length : Int) < 2)) (b := true) (et_test (ev_op (ev_lenU1 (ev_var rfl) ha) ev_c rv_I0)) fun hb => absurd (of_decide_eq_false hb) (by omega)) (by simp)) (by simp)) (fun _ H1 e1 => s_ret ev_c fun H2 e2 => q H2 (e1.trans e2)) (fun hb => by cases hb)
      · obtain ⟨d0, d1, r, rfl⟩ : ∃ d0 d1 r, ds = d0 :: d1 :: r := by
          match ds, hl with
          | d0 :: d1 :: r, _ => exact ⟨d0, d1, r, rfl⟩
          | [], hl => exact absurd hl (by simp)
          | [_], hl => exact absurd hl (by simp)
        obtain ⟨x0, x1, ys, rfl, h0, h1, hr⟩ : ∃ x0 x1 ys, xs = x0 :: x1 :: ys ∧ Dz p H x0 d0 ∧ Dz p H x1 d1 ∧ DzAll p H ys r := by
          cases hall with
          | cons a1 a2 =>
            cases a2 with
            | cons a3 a4 => exact ⟨_, _, _, rfl, a1, a3, a4⟩
        have hyl := hr.len
        have hz1 : mZ d1 ≤ 39000 := by
          have : 1 + (mZ d0 + (mZ d1 + mZs r)) ≤ 39000 := hz
          omega
        have ix0 : ∀ {σ' : L2.St} {H1 : Hp}, σ'[0]? = some (some (.ref a)) → Ex H H1 → Ev (tOp (rIxT K) (tVar 0) (tC (.int 0))) σ' H1 x0 := fun h e => ev_op (ev_var h) ev_c (rv_ixT (st_of (e _ _ ha)) (atI_nat (j := 0) rfl))
        have ix1 : ∀ {σ' : L2.St} {H1 : Hp}, σ'[0]? = some (some (.ref a)) → Ex H H1 → Ev (tOp (rIxT K) (tVar 0) (tC (.int 1))) σ' H1 x1 := fun h e => ev_op (ev_var h) ev_c (rv_ixT (st_of (e _ _ ha)) (atI_nat (j := 1) rfl))
        by_cases hs : isZ "str" d0 = true
        · obtain ⟨w, rfl, rfl⟩ := h0.isStr hs
          refine q_when (b := false) (et_is (et_or (a := !isZ "tuple" (.tuple (.str (Tx w) :: d1 :: r))) (b := false) (et_not (et_B (ev_isZt (ev_var rfl) hd))) fun _ => et_is (et_or (a := decide (((V.str (Tx w) :: x1 :: ys).length : Int) < 2)) (b := !isZ "str" (.str (Tx w))) (et_test (ev_op (ev_lenU1 (ev_var rfl) ha) ev_c rv_I0)) fun _ => et_not (et_B (ev_isZs (ix0 rfl (Ex.refl _)) h0))) (by rw [hs, decide_eq_false (by simp; omega)]; rfl)) (by rw [ht]; rfl)) (fun hb => by cases hb) (fun _ H1 e1 => ?_)
          refine q_asg (v := .str (Tx w)) (ix0 rfl e1) fun H2 e2 => ?_
          refine q_when (b := decide (V.str (Tx w) = V.str (Str.ofString "is"))) (et_test (ev_op (ev_var rfl) ev_c (rv_eq rfl))) (fun hb H3 e3 => ?_) (fun hb H3 e3 => ?_)
          · have hw := V.str.inj (of_decide_eq_true hb)
            have x3 := e1.trans (e2.trans e3)
            rw [shell_is hw] at q
            refine s_ret (ev_is (ev_andV (a := decide (V.int ((V.str (Tx w) :: x1 :: ys).length : Int) = V.int 2)) (b := putZ d1) (ev_op (ev_lenU1 (ev_var rfl) (x3 _ _ ha)) ev_c (rv_eq rfl)) fun _ => ev_call (vs := [x1]) (dvs := [.int 0]) (ea_cons (ix1 rfl x3) ea_nil) (fun H4 e4 Q4 q4 E4 => ⟨p, x1, d1, rfl, h1.ex (x3.trans e4), hz1, q4⟩)) (by rw [len2_is hyl])) fun H4 e4 => q H4 (x3.trans e4)
          have n1 : Tx w ≠ Str.ofString "is" := fun z => of_decide_eq_false hb (by rw [z])
          refine q_when (b := decide (V.str (Tx w) = V.str (Str.ofString "of"))) (et_test (ev_op (ev_var rfl) ev_c (rv_eq rfl))) (fun hb H4 e4 => ?_) (fun hb H4 e4 => ?_)
          · have hw := V.str.inj (of_decide_eq_true hb)
            have x4 := e1.trans (e2.trans (e3.trans e4))
            rw [shell_of hw] at q
            refine s_ret (ev_is (ev_andV (a := decide (V.int ((V.str (Tx w) :: x1 :: ys).length : Int) = V.int 2)) (b := nameZ d1) (ev_op (ev_lenU1 (ev_var rfl) (x4 _ _ ha)) ev_c (rv_eq rfl)) fun _ => ev_call (vs := [x1]) (ea_cons (ix1 rfl x4) ea_nil) (fun H5 e5 Q5 q5 E5 => ⟨p, x1, d1, rfl, h1.ex (x4.trans e5), hz1, q5⟩)) (by rw [len2_is hyl])) fun H5 e5 => q H5 (x4.trans e5)
          have n2 : Tx w ≠ Str.ofString "of" := fun z => of_decide_eq_false hb (by rw [z])
          refine q_when (b := decide (V.str (Tx w) = V.str (Str.ofString "part"))) (et_test (ev_op (ev_var rfl) ev_c (rv_eq rfl))) (fun hb H5 e5 => ?_) (fun hb H5 e5 => ?_)
          · have hw := V.str.inj (of_decide_eq_true hb)
            have x5 := e1.trans (e2.trans (e3.trans (e4.trans e5)))
            rw [shell_part hw] at q
            refine s_ret (ev_is (ev_andV (a := decide (V.int ((V.str (Tx w) :: x1 :: ys).length : Int) = V.int 4)) (b := span2 r) (ev_op (ev_lenU1 (ev_var rfl) (x5 _ _ ha)) ev_c (rv_eq rfl)) fun hc => ?_) (by rw [len4_is hyl])) fun H6 e6 => q H6 (x5.trans e6)
            have hc := V.int.inj (of_decide_eq_true hc)
            simp only [List.length_cons] at hc
            obtain ⟨d2, d3, rfl⟩ : ∃ d2 d3, r = [d2, d3] := by
              match r, (by omega : r.length = 2) with
              | [d2, d3], _ => exact ⟨d2, d3, rfl⟩
            obtain ⟨x2, x3, rfl, h2, h3⟩ : ∃ x2 x3, ys = [x2, x3] ∧ Dz p H x2 d2 ∧ Dz p H x3 d3 := by
              cases hr with
              | cons a1 a2 =>
                cases a2 with
                | cons a3 a4 =>
                  cases a4
                  exact ⟨_, _, rfl, a1, a3⟩
            exact ev_call (vs := [x2, x3]) (ea_cons (ev_op (ev_var rfl) ev_c (rv_ixT (st_of (x5 _ _ ha)) (atI_nat (j := 2) rfl))) (ea_cons (ev_op (ev_var rfl) ev_c (rv_ixT (st_of (x5 _ _ ha)) (atI_nat (j := 3) rfl))) ea_nil)) (fun H6 e6 Q6 q6 E6 => ⟨p, x2, x3, d2, d3, rfl, h2.ex (x5.trans e6), h3.ex (x5.trans e6), q6⟩)
          have n3 : Tx w ≠ Str.ofString "part" := fun z => of_decide_eq_false hb (by rw [z])
          have x5 := e1.trans (e2.trans (e3.trans (e4.trans e5)))
          rw [shell_op n1 n2 n3] at q
          cases hc : argc (Tx w) with
          | none =>
            rw [hc] at q
            exact s_ret (ev_is (ev_andV (a := false) (b := false) (ev_op (ev_var rfl) ev_c (rv_notKD B.x_no (argc_none hc))) fun h => by cases h) rfl) fun H6 e6 => q H6 (x5.trans e6)
          | some n =>
            rw [hc] at q
            obtain ⟨_, _, harg⟩ := argc_le hc
            refine s_ret (ev_is (ev_andV (a := true) (ev_op (ev_var rfl) ev_c (rv_inKD (B.x_args _ harg))) fun _ => ev_op (ev_lenU1 (ev_var rfl) (x5 _ _ ha)) (ev_op ev_c (ev_kd ev_c (ev_var rfl) (B.x_args _ harg)) rv_I0) (rv_eq rfl)) ?_) fun H6 e6 => q H6 (x5.trans e6)
            rw [Bool.true_and]
            congr 1
            refine decide_eq_decide.mpr ?_
            simp only [List.length_cons]
            constructor
            · intro h
              have := V.int.inj h
              omega
            · intro h
              congr 1
              omega
        · have hs2 : isZ "str" d0 = false := by simpa using hs
          rw [shell_first hs2] at q
          refine q_when (b := true) (et_is (et_or (a := !isZ "tuple" (.tuple (d0 :: d1 :: r))) (b := true) (et_not (et_B (ev_isZt (ev_var rfl) hd))) fun _ => et_is (et_or (a := decide (((x0 :: x1 :: ys).length : Int) < 2)) (b := !isZ "str" d0) (et_test (ev_op (ev_lenU1 (ev_var rfl) ha) ev_c rv_I0)) fun _ => et_not (et_B (ev_isZs (ix0 rfl (Ex.refl _)) h0))) (by rw [hs2]; simp)) (by simp)) (fun _ H1 e1 => s_ret ev_c fun H2 e2 => q H2 (e1.trans e2)) (fun hb => by cases hb)
    · have ht2 : isZ "tuple" d = false := by simpa using ht
      rw [not_tup ht2] at q
      refine q_when (b := true) (et_is (et_or (b := true) (et_not (et_B (ev_isZt (ev_var rfl) hd))) fun hb => by rw [ht2] at hb; cases hb) (by rw [ht2]; rfl)) (fun _ H1 e1 => s_ret ev_c fun H2 e2 => q H2 (e1.trans e2)) (fun hb => by cases hb)
theorem ok_arguments_of {f  : Addr} {fd  : FuncData} (F : Fun K "arguments_of" "arguments_of" s_arguments_of f fd) (B : Bi K w mg dG dW dK a_NoValue a_NoNumber a_NoTerm a_NoText a_NoRow a_WireError)   : FnOk P w K mg base CX0 (1) f fd ["term"] (spArgs1) := by
  refine F.ok sc_arguments_of (fun vs H Q E h => ?_) (fun cdv A outer s H vs Q E hr h => ?_)
  · obtain ⟨a, wd, us, es, rfl, _⟩ | ⟨a, wd, l, rfl, _⟩ := h
    all_goals rfl
  · obtain h := h
    refine ⟨_, (pss_cons (ps_if (PW.pt (pw_or (pt_cmpR op_eq (pe_ix ix_tup (pv 0) pe_int (fun _ _ => rfl)) pe_str (nomark _)) (pw_or1 (pt_cmpR op_eq (pe_ix ix_tup (pv 0) pe_int (fun _ _ => rfl)) pe_str (nomark _))))) (pss_one (ps_ret (pe_lst pa_nil))) pss_nil)
      (pss_one (ps_ret (pe_callTy call_list_of (by rfl) B.list (by decide +kernel) (pa_cons (pe_slice sl_tup (pv 0) (po_some pe_int) (po_some (pe_op op_add pe_int (pe_ix ix_kdict (pgl (by rfl) B.c_ARGUMENTS) (pe_ix ix_tup (pv 0) pe_int (fun _ _ => rfl)) (fun _ _ => rfl))))) pa_nil))))), ?_⟩
    rcases h with ⟨a, wd, us, es, rfl, hA, hw, hz, q⟩ | ⟨a, wd, l, rfl, hwd, hA, q⟩
    · skip
      obtain ⟨n1, n2⟩ := argN_ok _ hw
      have h0 : ∀ H1, Ex H H1 → SqT K H1 a (V.str wd :: (us ++ es)) := fun H1 e => st_of (e _ _ hA)
      have ev0 : ∀ {σ' : L2.St} {H1 : Hp}, σ'[0]? = some (some (.ref a)) → Ex H H1 → Ev (tOp (rIxT K) (tVar 0) (tC (.int 0))) σ' H1 (.str wd) := fun h e => ev_op (ev_var h) ev_c (rv_ixT (h0 _ e) (atI_nat (j := 0) rfl))
      refine q_when (b := false) (et_is (et_or (et_test (ev_op (ev0 rfl (Ex.refl _)) ev_c (rv_eq rfl))) fun _ => et_test (ev_op (ev0 rfl (Ex.refl _)) ev_c (rv_eq rfl))) ?_) (fun hb => by cases hb) (fun _ H1 e1 => ?_)
      · rw [decide_eq_false fun z => n1 (V.str.inj z), decide_eq_false fun z => n2 (V.str.inj z)]
        rfl
      · refine s_retL (xs := us) (fun H2 e2 Q2 q2 => ?_) fun g H2 ng e2 h2 => q g H2 (fresh_back e1 ng) (e1.trans e2) h2
        have hk : Ev (tOp (rI0 fun i j => .int (i + j)) (tC (.int 1)) (tOp (rIxD K w) (tC (.ref dG)) (tOp (rIxT K) (tVar 0) (tC (.int 0))))) [some (.ref a)] H2 (.int (1 + (us.length : Int))) := ev_op ev_c (ev_kd ev_c (ev0 rfl (e1.trans e2)) (B.x_args _ hw)) rv_I0
        refine ⟨_, rfl, _, rfl, ?_⟩
        refine hk H2 (Ex.refl _) _ fun H3 e3 => ?_
        refine ⟨_, rfl, a, _, rfl, h0 H3 ((e1.trans e2).trans e3), ?_, fun t ht => ?_⟩
        · intro z
          have := z.1
          unfold HT.sIx at this
          simp at this
        · rw [cut_args]
          refine ⟨t, us, rfl, .inr (st_of upd_same), fun l hl => ?_⟩
          exact q2 l _ (fresh_back (e3.trans (Ex.new ht)) hl) ((e3.trans (Ex.new ht)).trans (Ex.new hl)) upd_same
    · refine q_when (b := true) (et_is (et_or (a := decide (V.str wd = V.str (Str.ofString "is"))) (b := decide (V.str wd = V.str (Str.ofString "of"))) (et_test (ev_op (ev_op (ev_var rfl) ev_c (rv_ixT (st_of hA) (atI_nat (j := 0) rfl))) ev_c (rv_eq rfl))) fun _ => et_test (ev_op (ev_op (ev_var rfl) ev_c (rv_ixT (st_of hA) (atI_nat (j := 0) rfl))) ev_c (rv_eq rfl))) (by rcases hwd with rfl | rfl <;> simp)) (fun _ H1 e1 => ?_) (fun hb => by cases hb)
      exact s_retL (el_lst ea_nil (by decide)) fun g H2 ng e2 h2 => q g H2 (fresh_back e1 ng) (e1.trans e2) h2
theorem ok_is_term {f f1 f2 : Addr} {fd fd1 fd2 : FuncData} (F : Fun K "is_term" "is_term" s_is_term f fd) (B : Bi K w mg dG dW dK a_NoValue a_NoNumber a_NoTerm a_NoText a_NoRow a_WireError)  (D_is_shell : Df P w K mg base CX0 "is_shell" 3 f1 fd1 ["thing"] (spShellZ)) (D_arguments_of : Df P w K mg base CX0 "arguments_of" 1 f2 fd2 ["term"] (spArgs1)) : FnOk P w K mg base CX0 (4) f fd ["thing"] (spTermZ) := by
  refine F.ok sc_is_term (fun vs H Q E h => ?_) (fun cdv A outer s H vs Q E hr h => ?_)
  · obtain ⟨p, v, d, rfl, _⟩ := h
    all_goals rfl
  · obtain ⟨p, v, d, rfl, hd, hz, q⟩ := h
    refine ⟨_, (pss_cons (ps_set (i := 1) sc_is_term.nd rfl (Or.inl rfl) (pe_lst (pa_cons (pv 0) pa_nil)))
      (pss_cons (ps_set (i := 2) sc_is_term.nd rfl (Or.inl rfl) pe_int)
      (pss_cons (ps_for PassesOwn.never rfl (pi_range1 (by rfl) B.range (pa_cons (pgl (by rfl) B.c_DEEPEST_TERM) pa_nil)) (pg_name (i := 3) sc_is_term.nd rfl (Or.inl rfl)) (pss_cons (ps_aug (i := 2) sc_is_term.nd rfl (Or.inl rfl) (pe_callB call_len_seq (by rfl) B.len PySem.boot_len (pa_cons (pv 1) pa_nil)) ip_add)
      (pss_cons (ps_if (PW.pt (pw_or (pt_cmpR op_gt (pv 2) (pgl (by rfl) B.c_MOST_TUPLES) (nomark _)) (pw_or1 (pt_not (pt_val (pe_callB (cr_all rfl) (by rfl) B.all (by decide +kernel) (pa_cons (pe_lc (own := [("inner", 4)]) (g := gName 4) (tt := tYes) (by rfl) sc_is_term.nd (pi_list (pv 1)) (blkOk_by (own := [("inner", 4)]) (N := N_is_term) (sc := defScope s_is_term) (by decide +kernel)) (fun _ _ _ _ _ => pg_name (i := 4) sc_is_term.nd rfl (Or.inl rfl)) (fun _ _ _ _ _ => pts_nil) (fun _ _ _ _ _ => (pe_call D_is_shell.ok (hr.mono (by decide)) (by rfl) D_is_shell.g D_is_shell.kp D_is_shell.b .nil pass0 (pa_cons (pv 4) pa_nil)))) pa_nil))))))) (pss_one (ps_ret pe_bl)) pss_nil)
      (pss_cons (ps_setLc2 (i := 1) (wi1 := iList K (tCall spArgs1 [] E0 (tCons (tVar 4) tNil))) (own := [("inner", 4), ("argument", 5)]) (vs1 := [5]) (g := gName 4) (g1 := gName 5) (tt := tYes) (tt1 := tYes) (by rfl) sc_is_term.nd rfl rfl (sw_true rfl rfl rfl (by decide +kernel)) (pi_list (pv 1)) (blkOk_by (own := [("inner", 4), ("argument", 5)]) (N := N_is_term) (sc := defScope s_is_term) (by decide +kernel)) (by decide) (fun _ _ _ _ _ => pg_name (i := 4) sc_is_term.nd rfl (Or.inl rfl)) (fun _ _ _ _ _ => pts_nil) (fun _ _ _ _ _ => by exact (pi_list (pe_call D_arguments_of.ok (hr.mono (by decide)) (by rfl) D_arguments_of.g D_arguments_of.kp D_arguments_of.b .nil pass0 (pa_cons (pv 4) pa_nil)))) (fun _ _ _ _ _ => pg_name (i := 5) sc_is_term.nd rfl (Or.inl rfl)) (fun _ _ _ _ _ => pts_nil) (fun _ _ _ _ _ => (pv 5)))
      (pss_one (ps_if (pt_not (pt_truth (pv 1) (by intro _; rfl))) (pss_one (ps_ret pe_bl)) pss_nil))))))
      (pss_one (ps_ret pe_bl))))), ?_⟩
    refine q_asgL (xs := [v]) (el_lst (ea_cons (ev_var rfl) ea_nil) (by simp)) fun g0 H1 ng0 e1 hg0 => ?_
    refine q_asg ev_c fun H2 e2 => ?_
    refine q_forR1 (n := 10) (ea_cons ev_c ea_nil) ⟨by decide, by decide⟩ (fun i σ' H' => ∃ (g : Addr) (vs : List V) (L : List PyData) (m : Nat) (a3 a4 a5 : Option V), σ' = [some v, some (.ref g), some (.int (m : Int)), a3, a4, a5] ∧ H' g = some (.lst vs) ∧ DzAll p H' vs L ∧ runZ (10 - i) L m = termZ d ∧ L ≠ [] ∧ L.length ≤ 180 ∧ (∀ c ∈ L, mZ c ≤ 39000) ∧ Ex H H')
      (fun H3 e3 => ⟨g0, [v], [d], 0, none, none, none, rfl, e3 _ _ (e2 _ _ hg0), .cons (hd.ex (e1.trans (e2.trans e3))) .nil, term_run d, by simp, by simp, fun c hc => by rw [List.mem_singleton.mp hc]; exact hz, e1.trans (e2.trans e3)⟩) (fun i σ' H3 hi hv => ?_) (fun σ' H3 hv => ?_)
    · obtain ⟨g, vs, L, m, a3, a4, a5, rfl, hg, hall, hrun, hne, h180, hmz, x3⟩ := hv
      have hlen := hall.len
      obtain ⟨k, hk1, hk2⟩ : ∃ k, 10 - i = k + 1 ∧ 10 - (i + 1) = k := ⟨9 - i, by omega, by omega⟩
      rw [hk1] at hrun
      simp only [runZ] at hrun
      refine q_aug (f := fun i j => i + j) (b := (vs.length : Int)) rfl (ev_len (ev_var rfl) (sq_of hg)) fun H4 e4 => ?_
      have hg4 := e4 _ _ hg
      have hL : EvL (tLc (iList K (tVar 1)) (gName 4) tYes (tCall spShellZ [] E0 (tCons (tVar 4) tNil)) [4]) [some v, some (.ref g), some (.int ((m : Int) + (vs.length : Int))), some (.int (i : Int)), a4, a5] H4 ((L.map shellZ).map V.bl) := by
        have e0 : (L.map shellZ).map V.bl = given vs.length (fun _ => true) (fun i => V.bl (shellZ (L.getD i .none))) := by
          rw [hlen, List.map_map]
          exact (given_all L .none (V.bl ∘ shellZ)).symm
        rw [e0]
        refine el_lcL (fun _ => true) (fun i => V.bl (shellZ (L.getD i .none))) (ev_var rfl) (sq_of hg4) (by omega) (fun x => rfl) (fun j x H5 e5 hj => et_yes) (fun j x H5 e5 hj _ => ?_)
        obtain ⟨c, hc, hcd⟩ := hall.at hj
        rw [show L.getD j .none = c by rw [List.getD_eq_getElem?_getD, hc]; rfl]
        exact ev_call (ea_cons (ev_var rfl) ea_nil) (fun H6 e6 Q6 q6 E6 => ⟨p, x, c, rfl, hcd.ex (e4.trans (e5.trans e6)), hmz c (List.mem_of_getElem? hc), q6⟩)
      refine q_when (b := decide ((m : Int) + (vs.length : Int) > 60) || !(L.map shellZ).all id) (et_or (et_test (ev_op (ev_var rfl) ev_c rv_I0)) fun _ => et_not (et_B (ev_all hL))) (fun hb H5 e5 => ?_) (fun hb H5 e5 => ?_)
      · rw [if_pos (by
          rw [Bool.or_eq_true] at hb
          rcases hb with h | h
          · exact .inl (by have := of_decide_eq_true h; omega)
          · refine .inr ?_
            rw [List.all_map] at h
            simpa using h)] at hrun
        refine s_ret ev_c fun H6 e6 => ?_
        have q6 := q H6 (x3.trans (e4.trans (e5.trans e6)))
        rw [← hrun] at q6
        exact q6
      rw [Bool.or_eq_false_iff] at hb
      have hb1 := of_decide_eq_false hb.1
      have hb2 : L.all shellZ = true := by
        have h := hb.2
        rw [List.all_map] at h
        simpa using h
      rw [if_neg (by
        rintro (h | h)
        · omega
        · rw [hb2] at h
          cases h)] at hrun
      have hg5 := e5 _ _ hg4
      have x35 := e4.trans e5
      obtain ⟨F, hF, hFl⟩ := kidsZ (hall.ex x35) (List.all_eq_true.mp hb2)
      have hfl : (L.flatMap argsZ).length ≤ 3 * L.length := by
        have hsh := List.all_eq_true.mp hb2
        clear hrun hmz hall hL hFl hF hb1 hb hlen hne h180 hb2
        induction L with
        | nil => simp
        | cons c L ih =>
          have := args_len (hsh c (List.mem_cons_self ..))
          have := ih fun e he => hsh e (List.mem_cons_of_mem _ he)
          rw [List.flatMap_cons, List.length_append, List.length_cons]
          omega
      have hFll := hFl.len
      refine q_asgL (xs := (List.range vs.length).flatMap F) (el_lc22V (K := K) F (ev_var rfl) hg5 (by rw [hFll]; omega) (fun x => rfl) (fun x y => rfl) (fun x y => rfl) (fun j x H6 e6 hj => ?_)) fun g2 H6 ng2 e6 hg6 => ?_
      · exact el_call (ea_cons (ev_var rfl) ea_nil) (hF j x hj H6 e6)
      have hall6 := hFl.ex e6
      refine s_when (b := decide (L.flatMap argsZ = [])) (et_is (et_not (et_list (K := K) (ev_var rfl) (sq_of hg6))) ?_) (fun hb H7 e7 => ?_) (fun hb H7 e7 => ?_)
      · cases h1 : L.flatMap argsZ with
        | nil =>
          rw [h1] at hFll
          rw [List.eq_nil_of_length_eq_zero hFll]
          rfl
        | cons s l =>
          rw [h1] at hFll
          cases h2 : (List.range vs.length).flatMap F with
          | nil =>
            rw [h2] at hFll
            cases hFll
          | cons a b => simp
      · rw [if_pos (of_decide_eq_true hb)] at hrun
        refine s_ret ev_c fun H8 e8 => ?_
        have q8 := q H8 (x3.trans (x35.trans (e6.trans (e7.trans e8))))
        rw [← hrun] at q8
        exact q8
      · rw [if_neg (of_decide_eq_false hb)] at hrun
        refine ⟨g2, _, L.flatMap argsZ, m + vs.length, _, _, _, rfl, e7 _ _ hg6, hall6.ex e7, by rw [hk2, hlen]; exact hrun, of_decide_eq_false hb, by omega, fun c hc => ?_, x3.trans (x35.trans (e6.trans e7))⟩
        obtain ⟨e, he, hce⟩ := List.mem_flatMap.mp hc
        exact Nat.le_trans (args_sub hce) (hmz e he)
    · obtain ⟨g, vs, L, m, a3, a4, a5, rfl, hg, hall, hrun, hne, h180, hmz, x3⟩ := hv
      refine s_ret ev_c fun H4 e4 => ?_
      have q4 := q H4 (x3.trans e4)
      have h0 : runZ 0 L m = termZ d := hrun
      rw [← h0] at q4
      exact q4
theorem ok_run_at {f  : Addr} {fd  : FuncData} (F : Fun K "run_at" "run_at" s_run_at f fd) (B : Bi K w mg dG dW dK a_NoValue a_NoNumber a_NoTerm a_NoText a_NoRow a_WireError)   : FnOk P w K mg base CX0 (1) f fd ["text", "at"] (spRun) := by
  refine F.ok sc_run_at (fun vs H Q E h => ?_) (fun cdv A outer s H vs Q E hr h => ?_)
  · obtain ⟨T, i, rfl, _⟩ := h
    all_goals rfl
  · obtain ⟨T, i, rfl, hi, hz, q⟩ := h
    refine ⟨_, (pss_cons (ps_set (i := 2) sc_run_at.nd rfl (Or.inl rfl) (pv 1))
      (pss_cons (ps_while PassesOwn.never (PW.pt (pw_and (pt_cmpR op_lt (pv 2) (pe_callB call_len_str (by rfl) B.len PySem.boot_len (pa_cons (pv 0) pa_nil)) (nomark _)) (pw_and1 (pt_cmpR op_inS (pe_ix ix_str (pv 0) (pv 2) (fun _ _ => rfl)) (pgl (by rfl) B.c_NAME_SIGNS) rfl)))) (pss_one (ps_aug (i := 2) sc_run_at.nd rfl (Or.inl rfl) pe_int ip_add)))
      (pss_one (ps_ret (pe_slice sl_str (pv 0) (po_some (pv 1)) (po_some (pv 2))))))), ?_⟩
    refine q_asg (ev_var rfl) fun H0 e0 => ?_
    refine q_while (fun m σ' H' => ∃ e : Nat, σ' = [some (.str (Tx T)), some (.int (i : Int)), some (.int (e : Int))] ∧ i ≤ e ∧ e ≤ T.length ∧ (∀ c ∈ (T.drop i).take (e - i), c ∈ nsg) ∧ m = T.length - e ∧ Ex H H') (T.length - i) ⟨i, rfl, Nat.le_refl _, hi, (fun c hc => by rw [Nat.sub_self] at hc; cases hc), rfl, e0⟩ (fun m σ' H' hv => ?_)
    obtain ⟨e, rfl, h1, h2, h3, rfl, x1⟩ := hv
    have hlen : Ev (tCB rLenT (tCons (tVar 0) tNil)) [some (.str (Tx T)), some (.int (i : Int)), some (.int (e : Int))] H' (.int (T.length : Int)) := ev_lenT (ev_var rfl) (by omega)
    by_cases he : e < T.length
    · have hc : T[e]? = some T[e] := List.getElem?_eq_getElem he
      refine ⟨decide (T[e] ∈ nsg), et_is (et_and (a := decide ((e : Int) < (T.length : Int))) (b := decide (T[e] ∈ nsg)) (et_test (ev_op (ev_var rfl) hlen rv_I0)) (fun _ => et_test (ev_is (ev_inS (c := T[e]) (ev_ixT (ev_var rfl) (ev_var rfl) (by omega) (atI_nat (j := e) hc)) ev_c) (by rw [s_nsg])))) (by rw [decide_eq_true (by omega), Bool.true_and]), fun hb H1 e1 => ?_, fun hb H1 e1 => ?_⟩
      · refine ⟨fun σ2 H2 => σ2 = [some (.str (Tx T)), some (.int (i : Int)), some (.int ((e : Int) + 1))] ∧ Ex H H2, fun σ2 H2 hn => ?_, ?_⟩
        · obtain ⟨rfl, x2⟩ := hn
          refine ⟨T.length - (e + 1), by omega, e + 1, by rw [show ((e : Int) + 1) = ((e + 1 : Nat) : Int) by omega], by omega, by omega, fun c hc2 => ?_, rfl, x2⟩
          rw [show e + 1 - i = (e - i) + 1 by omega, List.take_add_one] at hc2
          rcases List.mem_append.mp hc2 with h | h
          · exact h3 c h
          · rw [List.getElem?_drop, show i + (e - i) = e by omega, hc] at h
            simp at h
            rw [h]
            exact of_decide_eq_true hb
        · exact s_aug (b := 1) rfl ev_c fun H2 e2 => ⟨rfl, x1.trans (e1.trans e2)⟩
      · refine s_ret (ev_is (ev_cutT (ev_var rfl) (eo_some (ev_var rfl)) (eo_some (ev_var rfl)) h1 h2 (by omega)) ?_) fun H2 e2 => q H2 (x1.trans (e1.trans e2))
        rw [take_run h1 h2 h3 (fun c hc2 => by rw [hc] at hc2; cases hc2; exact of_decide_eq_false hb)]
    · refine ⟨false, et_is (et_and (a := decide ((e : Int) < (T.length : Int))) (b := true) (et_test (ev_op (ev_var rfl) hlen rv_I0)) (fun hb => by have := of_decide_eq_true hb; omega)) (by rw [decide_eq_false (by omega)]; rfl), (fun hb => by cases hb), fun hb H1 e1 => ?_⟩
      refine s_ret (ev_is (ev_cutT (ev_var rfl) (eo_some (ev_var rfl)) (eo_some (ev_var rfl)) h1 h2 (by omega)) ?_) fun H2 e2 => q H2 (x1.trans (e1.trans e2))
      rw [take_run h1 h2 h3 (fun c hc2 => by rw [List.getElem?_eq_none (by omega)] at hc2; cases hc2)]
theorem ok_behind {f  : Addr} {fd  : FuncData} (F : Fun K "behind" "behind" s_behind f fd) (B : Bi K w mg dG dW dK a_NoValue a_NoNumber a_NoTerm a_NoText a_NoRow a_WireError)   : FnOk P w K mg base (L2N.CX P w) (2) f fd ["text", "at", "mark"] (spBehX a_NoText) := by
  refine F.okN sc_behind (fun vs H Q E h => ?_) (fun cdv A outer s H vs Q E hr h => ?_)
  · obtain ⟨T, m, i, rfl, _⟩ := h
    all_goals rfl
  · obtain ⟨T, m, i, rfl, hz, hm, q, qe⟩ := h
    refine ⟨_, (pss_cons (ps_if (pt_cmpR op_ne (pe_slice sl_str (pv 0) (po_some (pv 1)) (po_some (pe_op op_add (pv 1) (pe_callB call_len_str (by rfl) B.len PySem.boot_len (pa_cons (pv 2) pa_nil))))) (pv 2) (nomark _)) (pss_one (L2N.ps_raise rfl (L2N.takes_of rfl rfl rfl rfl) (L2N.pmk_own PySem.F.excBase_ValueError B.x_xNoText B.x_gNoText B.x_kNoText (raises_own B.x_bNoText B.x_tNoText) (by exact rfl)))) pss_nil)
      (pss_one (ps_ret (pe_op op_add (pv 1) (pe_callB call_len_str (by rfl) B.len PySem.boot_len (pa_cons (pv 2) pa_nil)))))), ?_⟩
    have hcut : ∀ {H1 : Hp}, Ev (tSl rSlS (tVar 0) (tPart (tVar 1)) (tPart (tOp (rI0 fun i j => .int (i + j)) (tVar 1) (tCB rLenT (tCons (tVar 2) tNil))))) (start N_behind [.str (Tx T), .int (i : Int), .str (Tx m)]) H1 (.str (Tx ((T.drop i).take m.length))) := fun {H1} => by
      have := ev_cutTA (σ := start N_behind [.str (Tx T), .int (i : Int), .str (Tx m)]) (H := H1) (te := tVar 0) (tl := tPart (tVar 1)) (th := tPart (tOp (rI0 fun i j => .int (i + j)) (tVar 1) (tCB rLenT (tCons (tVar 2) tNil)))) (l := T) (i := i) (j := i + m.length) (ev_var rfl) (eo_some (ev_var rfl)) (eo_some (ev_is (ev_op (ev_var rfl) (ev_lenT (ev_var rfl) (by omega)) rv_I0) (by congr 1))) (by omega) (by omega)
      rw [show i + m.length - i = m.length by omega] at this
      exact this
    refine q_when (b := !decide ((T.drop i).take m.length = m)) (et_test (ev_neT hcut (ev_var rfl))) (fun hb H1 e1 => ?_) (fun hb H1 e1 => ?_)
    · refine qe ?_ H1 e1
      unfold behindF
      rw [if_neg (fun z => by rw [decide_eq_true z] at hb; cases hb)]
    · have hb' : (T.drop i).take m.length = m := by
        by_cases h : (T.drop i).take m.length = m
        · exact h
        · rw [decide_eq_false h] at hb; cases hb
      refine s_ret (v := .int ((i + m.length : Nat) : Int)) (ev_is (ev_op (ev_var rfl) (ev_lenT (ev_var rfl) (by omega)) rv_I0) (by congr 1)) fun H2 e2 => q (i + m.length) ?_ H2 (e1.trans e2)
      unfold behindF
      rw [if_pos hb']
theorem ok_figure_at {f  : Addr} {fd  : FuncData} (F : Fun K "figure_at" "figure_at" s_figure_at f fd) (B : Bi K w mg dG dW dK a_NoValue a_NoNumber a_NoTerm a_NoText a_NoRow a_WireError)   : FnOk P w K mg base (L2N.CX P w) (2) f fd ["text", "at"] (spFigX a_NoText) := by
  refine F.okN sc_figure_at (fun vs H Q E h => ?_) (fun cdv A outer s H vs Q E hr h => ?_)
  · obtain ⟨T, i, rfl, _⟩ := h
    all_goals rfl
  · obtain ⟨T, i, rfl, hz, q, qe⟩ := h
    refine ⟨_, (pss_cons (ps_set (i := 2) sc_figure_at.nd rfl (Or.inl rfl) (pe_slice sl_str (pv 0) (po_some (pv 1)) (po_some (pe_op op_add (pv 1) pe_int))))
      (pss_cons (ps_if (PW.pt (pw_or (pt_cmpR op_eq (pv 2) pe_str (nomark _)) (pw_or1 (pt_cmpR op_notInS (pv 2) (pgl (by rfl) B.c_BIT_FIGURES) rfl)))) (pss_one (L2N.ps_raise rfl (L2N.takes_of rfl rfl rfl rfl) (L2N.pmk_own PySem.F.excBase_ValueError B.x_xNoText B.x_gNoText B.x_kNoText (raises_own B.x_bNoText B.x_tNoText) (by exact rfl)))) pss_nil)
      (pss_one (ps_ret (pe_callTy call_int_str (by rfl) B.int (by decide +kernel) (pa_cons (pv 2) pa_nil)))))), ?_⟩
    have hcut : ∀ {H1 : Hp}, Ev (tSl rSlS (tVar 0) (tPart (tVar 1)) (tPart (tOp (rI0 fun i j => .int (i + j)) (tVar 1) (tC (.int 1))))) (start N_figure_at [.str (Tx T), .int (i : Int)]) H1 (.str (Tx ((T.drop i).take 1))) := fun {H1} => by
      have := ev_cutTA (σ := start N_figure_at [.str (Tx T), .int (i : Int)]) (H := H1) (te := tVar 0) (tl := tPart (tVar 1)) (th := tPart (tOp (rI0 fun i j => .int (i + j)) (tVar 1) (tC (.int 1)))) (l := T) (i := i) (j := i + 1) (ev_var rfl) (eo_some (ev_var rfl)) (eo_some (ev_is (ev_op (ev_var rfl) ev_c rv_I0) (by congr 1))) (by omega) (by omega)
      rw [show i + 1 - i = 1 by omega] at this
      exact this
    refine q_asg hcut fun H1 e1 => ?_
    cases hc : T[i]? with
    | none =>
      have h0 : (T.drop i).take 1 = [] := by
        rw [List.drop_eq_nil_of_le (List.getElem?_eq_none_iff.mp hc)]
        rfl
      rw [h0]
      refine q_when (b := true) (et_is (et_or (a := decide (V.str (Tx []) = V.str (Str.ofString ""))) (b := true) (et_test (ev_op (ev_var rfl) ev_c (rv_eq rfl))) fun hb => absurd hb (by rw [s_e]; simp)) (by simp)) (fun _ H2 e2 => qe (by unfold figF; rw [hc]) H2 (e1.trans e2)) (fun hb => by cases hb)
    | some c =>
      obtain ⟨hl, hg⟩ := List.getElem?_eq_some_iff.mp hc
      have h1 : (T.drop i).take 1 = [c] := by
        rw [List.drop_eq_getElem_cons hl, hg]
        rfl
      rw [h1]
      have hmem : decide (c ∈ (Str.ofString "01234567").cps.toList) = decide (48 ≤ c ∧ c ≤ 55) := by
        have e0 : (Str.ofString "01234567").cps.toList = [48, 49, 50, 51, 52, 53, 54, 55] := by decide +kernel
        rw [e0]
        refine decide_eq_decide.mpr ?_
        simp only [List.mem_cons, List.not_mem_nil, or_false]
        omega
      refine q_when (b := !decide (48 ≤ c ∧ c ≤ 55)) (et_is (et_or (a := decide (V.str (Tx [c]) = V.str (Str.ofString ""))) (b := !decide (c ∈ (Str.ofString "01234567").cps.toList)) (et_test (ev_op (ev_var rfl) ev_c (rv_eq rfl))) fun _ => et_test (ev_notInS (ev_var rfl) ev_c)) (by rw [hmem, decide_eq_false (fun z => by rw [s_e] at z; have := Tx_inj (V.str.inj z); cases this)]; rfl)) (fun hb H2 e2 => ?_) (fun hb H2 e2 => ?_)
      · refine qe ?_ H2 (e1.trans e2)
        unfold figF
        rw [hc]
        simp only
        rw [if_neg (fun z => by rw [decide_eq_true z] at hb; cases hb)]
      · have hb' : 48 ≤ c ∧ c ≤ 55 := by
          by_cases h : 48 ≤ c ∧ c ≤ 55
          · exact h
          · rw [decide_eq_false h] at hb; cases hb
        have hi := int_fig ⟨c - 48, by omega⟩
        simp only [show 48 + (c - 48) = c by omega] at hi
        refine s_ret (v := .int ((c - 48 : Nat) : Int)) (ev_intS (ev_var rfl) hi (by rw [Tx_len]; simp)) fun H3 e3 => q (c - 48) ?_ H3 (e1.trans (e2.trans e3))
        unfold figF
        rw [hc]
        simp only
        rw [if_pos hb']
theorem ok_operator_at {f f1 f2 f3 : Addr} {fd fd1 fd2 fd3 : FuncData} (F : Fun K "operator_at" "operator_at" s_operator_at f fd) (B : Bi K w mg dG dW dK a_NoValue a_NoNumber a_NoTerm a_NoText a_NoRow a_WireError) {n k : Nat} (hk : 2 ≤ k) (D_behind : Df P w K mg base (L2N.CX P w) "behind" 2 f1 fd1 ["text", "at", "mark"] (spBehX a_NoText)) (D_figure_at : Df P w K mg base (L2N.CX P w) "figure_at" 2 f2 fd2 ["text", "at"] (spFigX a_NoText)) (D_term_at : Df P w K mg base (L2N.CX P w) "term_at" (k) f3 fd3 ["text", "at", "deep"] (spTF a_NoText n)) : FnOk P w K mg base (L2N.CX P w) (k + 1) f fd ["text", "at", "word", "deep"] (spOF a_NoText n) := by
  refine F.okN sc_operator_at (fun vs H Q E h => ?_) (fun cdv A outer s H vs Q E hr h => ?_)
  · obtain ⟨T, i, k, w, rfl, _⟩ := h
    all_goals rfl
  · obtain ⟨T, i, k, w', rfl, hn, hi, hz, hk, q, qe⟩ := h
    refine ⟨_, (pss_cons (ps_set (i := 4) sc_operator_at.nd rfl (Or.inl rfl) (pe_lst (pa_cons (pv 2) pa_nil)))
      (pss_cons (ps_set (i := 5) sc_operator_at.nd rfl (Or.inl rfl) pe_str)
      (pss_cons (ps_for (passes_of rfl) rfl (pi_range1 (by rfl) B.range (pa_cons (pe_ix ix_kdict (pgl (by rfl) B.c_ARGUMENTS) (pv 2) (fun _ _ => rfl)) pa_nil)) (pg_name (i := 6) sc_operator_at.nd rfl (Or.inl rfl)) (pss_cons (ps_asg (pe_call D_term_at.ok (hr.mono (by omega)) (by rfl) D_term_at.g D_term_at.kp D_term_at.b .nil (L2N.passes_call (L2N.takes_of rfl rfl rfl rfl) (fun _ _ _ _ h => h)) (pa_cons (pv 0) (pa_cons (pe_call D_behind.ok (hr.mono (by omega)) (by rfl) D_behind.g D_behind.kp D_behind.b .nil (L2N.passes_call (L2N.takes_of rfl rfl rfl rfl) (fun _ _ _ _ h => h)) (pa_cons (pv 0) (pa_cons (pv 1) (pa_cons (pv 5) pa_nil)))) (pa_cons (pe_op op_add (pv 3) pe_int) pa_nil)))) (pg_tup rfl (pgs_cons (pg_name (i := 7) sc_operator_at.nd rfl (Or.inl rfl)) (pgs_cons (pg_name (i := 1) sc_operator_at.nd rfl (Or.inl rfl)) pgs_nil))))
      (pss_cons (ps_expr (pe_bm PySem.F.plainAttrs_list PySem.F.slot_list_append PySem.F.type_list_append mt_append (pv 4) (pa_cons (pv 7) pa_nil)))
      (pss_one (ps_set (i := 5) sc_operator_at.nd rfl (Or.inl rfl) pe_str)))))
      (pss_cons (ps_if (pt_cmpR op_eq (pv 2) pe_str (nomark _)) (pss_one (ps_for (passes_of rfl) rfl (pi_range1 (by rfl) B.range (pa_cons pe_int pa_nil)) (pg_name (i := 6) sc_operator_at.nd rfl (Or.inl rfl)) (pss_cons (ps_set (i := 1) sc_operator_at.nd rfl (Or.inl rfl) (pe_call D_behind.ok (hr.mono (by omega)) (by rfl) D_behind.g D_behind.kp D_behind.b .nil (L2N.passes_call (L2N.takes_of rfl rfl rfl rfl) (fun _ _ _ _ h => h)) (pa_cons (pv 0) (pa_cons (pv 1) (pa_cons pe_str pa_nil)))))
      (pss_cons (ps_expr (pe_bm PySem.F.plainAttrs_list PySem.F.slot_list_append PySem.F.type_list_append mt_append (pv 4) (pa_cons (pe_call D_figure_at.ok (hr.mono (by omega)) (by rfl) D_figure_at.g D_figure_at.kp D_figure_at.b .nil (L2N.passes_call (L2N.takes_of rfl rfl rfl rfl) (fun _ _ _ _ h => h)) (pa_cons (pv 0) (pa_cons (pv 1) pa_nil))) pa_nil)))
      (pss_one (ps_aug (i := 1) sc_operator_at.nd rfl (Or.inl rfl) pe_int ip_add)))))) pss_nil)
      (pss_one (ps_ret (pe_tup (pa_cons (pe_callTy call_tuple_of (by rfl) B.tuple (by decide +kernel) (pa_cons (pv 4) pa_nil)) (pa_cons (pe_call D_behind.ok (hr.mono (by omega)) (by rfl) D_behind.g D_behind.kp D_behind.b .nil (L2N.passes_call (L2N.takes_of rfl rfl rfl rfl) (fun _ _ _ _ h => h)) (pa_cons (pv 0) (pa_cons (pv 1) (pa_cons pe_str pa_nil)))) pa_nil))))))))), ?_⟩
    obtain ⟨k3, k1, harg⟩ := argc_le hk
    refine q_asgL (xs := [.str w']) (el_lst (ea_cons (ev_var rfl) ea_nil) (by simp)) fun gp H1 ngp e1 hgp => ?_
    refine q_asg (v := .str (Tx (mk true))) (by show Ev _ _ _ (.str (Tx [40])); rw [← s_cb2]; exact ev_c) fun H2 e2 => ?_
    have hop := opF_R (f := termF n T) (T := T) (i := i) hk
    refine q_forR1 (n := (k : Int)) (ea_cons (ev_kd ev_c (ev_var rfl) (B.x_args _ harg)) ea_nil) ⟨by omega, by omega⟩ (fun t σ' H' => ∃ (a : Nat) (us : List V) (ds : List PyData) (a6 a7 : Option V), σ' = [some (.str (Tx T)), some (.int (a : Int)), some (.str w'), some (.int (10 - (n : Int))), some (.ref gp), some (.str (Tx (mk (decide (t = 0))))), a6, a7] ∧ a ≤ T.length ∧ H' gp = some (.lst (.str w' :: us)) ∧ PzAll H' us ds ∧ ds.length = t ∧ t ≤ k ∧ argsF (termF n T) T k true i = argsPre ds (argsF (termF n T) T (k - t) (decide (t = 0)) a) ∧ Ex H H')
      (fun H3 e3 => ⟨i, [], [], none, none, rfl, hi, e3 _ _ (e2 _ _ hgp), .nil, rfl, by omega, by rw [argsPre_nil]; rfl, e1.trans (e2.trans e3)⟩) (fun t σ' H3 ht hv => ?_) (fun σ' H3 hv => ?_)
    · obtain ⟨a, us, ds, a6, a7, rfl, hal, hg3, hus, hdl, htk, hinv, x3⟩ := hv
      have htk' : t < k := by omega
      obtain ⟨m, hm1, hm2⟩ : ∃ m, k - t = m + 1 ∧ k - (t + 1) = m := ⟨k - t - 1, by omega, by omega⟩
      rw [hm1] at hinv
      have hul := hus.len
      refine ⟨_, rfl, _, rfl, _, rfl, _, rfl, T, mk (decide (t = 0)), a, rfl, hz, by unfold mk; split <;> decide, fun j hj H4 e4 => ?_, fun hnone H4 e4 => ?_⟩
      · have hj2 := behind_le hj (by unfold mk; split <;> decide)
        refine ⟨_, rfl, _, _, rfl, rfl, T, j, by rw [show (11 - (n : Int)) = 10 - (n : Int) + 1 by omega]; rfl, hn, hj2, hz, fun d b hb r v H5 e5 hr hv => ?_, fun hnone H5 e5 => ?_⟩
        · have hb2 := term_le n hj2 hb
          refine ⟨r, _, rfl, st_of hr, rfl, _, _, rfl, _, _, rfl, rfl, ?_⟩
          have hg5 := e5 _ _ (e4 _ _ hg3)
          refine q_app (l := gp) hg5 (ev_var rfl) (v := v) (ev_var rfl) (by simp; omega) fun H6 e6 => ?_
          have f6 : ExT H5 (L2.upd H6 gp (.lst (.str w' :: us ++ [v]))) := (ExT.of e6).upd (e6 _ _ hg5)
          refine s_asg (v := .str (Tx (mk false))) (by show Ev _ _ _ (.str (Tx [44, 32])); rw [← s_cb]; exact ev_c) fun H7 e7 => ?_
          refine ⟨b, us ++ [v], ds ++ [d], _, _, by rw [decide_eq_false (by omega : ¬ t + 1 = 0)]; rfl, hb2, e7 _ _ (by rw [upd_same]; simp), ?_, by rw [List.length_append, hdl]; rfl, by omega, ?_, ?_⟩
          · exact ((((hus.ex (e4.trans e5)).mono f6).ex e7).app (.cons ((hv.mono f6).ex e7) .nil))
          · rw [hm2, hinv, argsPre_step hj hb, decide_eq_false (by omega : ¬ t + 1 = 0)]
          · exact (Ex.mut (x3.trans (e4.trans (e5.trans e6))) ngp).trans e7
        · exact qe (by rw [hop, hinv, argsPre_no2 hj hnone]; rfl) H5 (x3.trans (e4.trans e5))
      · exact qe (by rw [hop, hinv, argsPre_no1 hnone]; rfl) H4 (x3.trans e4)
    · obtain ⟨a, us, ds, a6, a7, rfl, hal, hg3, hus, hdl, htk, hinv, x3⟩ := hv
      have hkk : ((k : Int)).toNat = k := Int.toNat_natCast _
      rw [hkk, Nat.sub_self] at hinv
      have hinv2 : argsF (termF n T) T k true i = some (ds, a) := by rw [hinv]; simp [argsF, argsPre]
      have hul := hus.len
      have hop2 : opF (termF n T) T w' i = figR T w' ds (figsF T (if w' = Str.ofString "part" then 2 else 0) a) := by rw [hop, hinv2]; rfl
      generalize hmk0 : Tx (mk (decide (((k : Int)).toNat = 0))) = mk0
      refine q_ifN2 (b := decide (V.str w' = V.str (Str.ofString "part"))) (et_test (ev_op (ev_var rfl) ev_c (rv_eq rfl))) (fun σ' H' => ∃ (b : Nat) (us : List V) (xs : List Nat) (a6 a7 : Option V), σ' = [some (.str (Tx T)), some (.int (b : Int)), some (.str w'), some (.int (10 - (n : Int))), some (.ref gp), some (.str mk0), a6, a7] ∧ b ≤ T.length ∧ H' gp = some (.lst (.str w' :: us)) ∧ PzAll H' us (ds ++ xs.map fun x : Nat => PyData.int (x : Int)) ∧ figsF T (if w' = Str.ofString "part" then 2 else 0) a = some (xs, b) ∧ Ex H H' ∧ xs.length ≤ 2)
        (fun hp H4 e4 N hN => ?_) (fun hp H4 e4 => ?_) (fun σ' H4 hv => ?_)
      · have hwp := V.str.inj (of_decide_eq_true hp)
        rw [if_pos hwp] at hN hop2
        have hx0 := x3.trans e4
        refine s_forR1 (n := 2) (ea_cons ev_c ea_nil) ⟨by decide, by decide⟩ (fun t σ' H' => ∃ (b : Nat) (us : List V) (xs : List Nat) (a6 a7 : Option V), σ' = [some (.str (Tx T)), some (.int (b : Int)), some (.str w'), some (.int (10 - (n : Int))), some (.ref gp), some (.str mk0), a6, a7] ∧ b ≤ T.length ∧ H' gp = some (.lst (.str w' :: us)) ∧ PzAll H' us (ds ++ xs.map fun x : Nat => PyData.int (x : Int)) ∧ xs.length = t ∧ t ≤ 2 ∧ figsF T 2 a = figsPre xs (figsF T (2 - t) b) ∧ Ex H H')
          (fun H5 e5 => ⟨a, us, [], a6, a7, rfl, hal, e5 _ _ (e4 _ _ hg3), by simpa using hus.ex (e4.trans e5), rfl, by omega, by rw [figsPre_nil], hx0.trans e5⟩) (fun t σ' H5 ht hv => ?_) (fun σ' H5 hv => ?_)
        · obtain ⟨b, us5, xs, c6, c7, rfl, hbl, hg5, hus5, hxl, ht2, hinf, x5⟩ := hv
          obtain ⟨m, hm1, hm2⟩ : ∃ m, 2 - t = m + 1 ∧ 2 - (t + 1) = m := ⟨2 - t - 1, by omega, by omega⟩
          rw [hm1] at hinf
          have hul5 := hus5.len
          rw [List.length_append, List.length_map] at hul5
          refine ⟨_, rfl, _, rfl, T, [44, 32], b, by rw [← s_cb]; rfl, hz, by decide, fun j hj H6 e6 => ?_, fun hnone H6 e6 => ?_⟩
          · refine g_name ?_
            dsimp only
            refine ⟨_, rfl, .inl ⟨rfl, _, sq_of (e6 _ _ hg5)⟩, ?_⟩
            refine ⟨_, rfl, _, rfl, T, j, rfl, hz, fun x hx H7 e7 => ?_, fun hnone H7 e7 => ?_⟩
            · have hg7 := e7 _ _ (e6 _ _ hg5)
              refine ⟨gp, .str w' :: us5, .int (x : Int), rfl, rfl, hg7, sz_lt (by simp; omega), ?_⟩
              have hj1 : j + 1 ≤ T.length := by
                have hx' := hx
                unfold figF at hx'
                split at hx'
                · rename_i c0 hc
                  exact (List.getElem?_eq_some_iff.mp hc).1
                · cases hx'
              have f7 : ExT H7 (L2.upd H7 gp (.lst (.str w' :: us5 ++ [.int (x : Int)]))) := (ExT.refl H7).upd hg7
              refine s_aug (f := fun i j => i + j) (b := 1) rfl ev_c fun H8 e8 => ?_
              refine ⟨j + 1, us5 ++ [.int (x : Int)], xs ++ [x], _, _, rfl, hj1, e8 _ _ (by rw [upd_same]; simp), ?_, by rw [List.length_append, hxl]; rfl, by omega, ?_, ?_⟩
              · rw [List.map_append, ← List.append_assoc]
                exact (((hus5.ex (e6.trans e7)).mono f7).ex e8).app (.cons (.int _) .nil)
              · rw [hm2, hinf, figsPre_step hj hx]
              · exact (Ex.mut (x5.trans (e6.trans e7)) ngp).trans e8
            · exact qe (by rw [hop2, hinf, figsPre_no2 hj hnone]; rfl) H7 (x5.trans (e6.trans e7))
          · exact qe (by rw [hop2, hinf, figsPre_no1 hnone]; rfl) H6 (x5.trans e6)
        · obtain ⟨b, us5, xs, c6, c7, rfl, hbl, hg5, hus5, hxl, ht2, hinf, x5⟩ := hv
          have h22 : ((2 : Int)).toNat = 2 := rfl
          rw [h22, Nat.sub_self] at hinf
          exact hN _ _ ⟨b, us5, xs, c6, c7, rfl, hbl, hg5, hus5, by rw [hinf]; simp [figsF, figsPre], x5, by omega⟩
      · have hnp : w' ≠ Str.ofString "part" := fun z => of_decide_eq_false hp (by rw [z])
        exact ⟨a, us, [], a6, a7, rfl, hal, e4 _ _ hg3, by simpa using hus.ex e4, by rw [if_neg hnp]; rfl, x3.trans e4, by simp⟩
      · obtain ⟨b, us5, xs, c6, c7, rfl, hbl, hg5, hus5, hfg, x5, hx2⟩ := hv
        rw [hfg] at hop2
        have hop3 : opF (termF n T) T w' i = endR w' ds xs (behindF T b [41]) := hop2
        have hul5 := hus5.len
        rw [List.length_append, List.length_map] at hul5
        refine ⟨_, rfl, gp, _, rfl, .inl ⟨sq_of hg5, fun tp ntp => ?_⟩⟩
        have f6 := Ex.new (o := .tup (.str w' :: us5)) ntp
        refine ⟨_, rfl, _, rfl, T, [41], b, by rw [← s_cb3]; rfl, hz, by decide, fun c hc H7 e7 => ?_, fun hnone H7 e7 => ?_⟩
        · refine ⟨by show 2 ≤ sizeLine; decide, fun r nr => ?_⟩
          have f8 := Ex.new (o := .tup [.ref tp, .int (c : Int)]) nr
          have x8 := f6.trans (e7.trans f8)
          exact q _ c (by rw [hop3, hc]; rfl) r (.ref tp) _ (x5.trans x8) upd_same (.tup ((e7.trans f8) _ _ upd_same) (.cons (.str _) (hus5.ex x8)))
        · exact qe (by rw [hop3, hnone]; rfl) H7 (x5.trans (f6.trans e7))
theorem ok_term_at {f f1 f2 : Addr} {fd fd1 fd2 : FuncData} (F : Fun K "term_at" "term_at" s_term_at f fd) (B : Bi K w mg dG dW dK a_NoValue a_NoNumber a_NoTerm a_NoText a_NoRow a_WireError) {n k : Nat} (hk : 2 ≤ k) (D_run_at : Df P w K mg base CX0 "run_at" 1 f1 fd1 ["text", "at"] (spRun)) (D_operator_at : Df P w K mg base (L2N.CX P w) "operator_at" (k) f2 fd2 ["text", "at", "word", "deep"] (spOFP a_NoText n)) : FnOk P w K mg base (L2N.CX P w) (k + 1) f fd ["text", "at", "deep"] (spTF a_NoText n) := by
  refine F.okN sc_term_at (fun vs H Q E h => ?_) (fun cdv A outer s H vs Q E hr h => ?_)
  · obtain ⟨T, i, rfl, _⟩ := h
    all_goals rfl
  · obtain ⟨T, i, rfl, hn, hi, hz, q, qe⟩ := h
    refine ⟨_, (pss_cons (ps_if (pt_cmpR op_gt (pv 2) (pgl (by rfl) B.c_DEEPEST_TERM) (nomark _)) (pss_one (L2N.ps_raise rfl (L2N.takes_of rfl rfl rfl rfl) (L2N.pmk_own PySem.F.excBase_ValueError B.x_xNoText B.x_gNoText B.x_kNoText (raises_own B.x_bNoText B.x_tNoText) (by exact rfl)))) pss_nil)
      (pss_cons (ps_if (pt_cmpR op_eq (pe_slice sl_str (pv 0) (po_some (pv 1)) (po_some (pe_op op_add (pv 1) pe_int))) pe_str (nomark _)) (pss_cons (ps_set (i := 4) sc_term_at.nd rfl (Or.inl rfl) (pe_call D_run_at.ok (hr.mono (by omega)) (by rfl) D_run_at.g D_run_at.kp D_run_at.b .nil pass0 (pa_cons (pv 0) (pa_cons (pe_op op_add (pv 1) pe_int) pa_nil))))
      (pss_one (ps_ret (pe_tup (pa_cons (pe_tup (pa_cons pe_str (pa_cons (pv 4) pa_nil))) (pa_cons (pe_op op_add (pe_op op_add (pv 1) pe_int) (pe_callB call_len_str (by rfl) B.len PySem.boot_len (pa_cons (pv 4) pa_nil))) pa_nil)))))) pss_nil)
      (pss_cons (ps_set (i := 3) sc_term_at.nd rfl (Or.inl rfl) (pe_call D_run_at.ok (hr.mono (by omega)) (by rfl) D_run_at.g D_run_at.kp D_run_at.b .nil pass0 (pa_cons (pv 0) (pa_cons (pv 1) pa_nil))))
      (pss_cons (ps_if (pt_cmpR (op_inKD B.x_kd) (pv 3) (pgl (by rfl) B.c_ARGUMENTS) rfl) (pss_one (ps_ret (pe_call D_operator_at.ok (hr.mono (by omega)) (by rfl) D_operator_at.g D_operator_at.kp D_operator_at.b .nil (L2N.passes_call (L2N.takes_of rfl rfl rfl rfl) (fun _ _ _ _ h => h)) (pa_cons (pv 0) (pa_cons (pe_op op_add (pv 1) (pe_callB call_len_str (by rfl) B.len PySem.boot_len (pa_cons (pv 3) pa_nil))) (pa_cons (pv 3) (pa_cons (pv 2) pa_nil))))))) pss_nil)
      (pss_one (ps_ret (pe_tup (pa_cons (pe_tup (pa_cons pe_str (pa_cons (pv 3) pa_nil))) (pa_cons (pe_op op_add (pv 1) (pe_callB call_len_str (by rfl) B.len PySem.boot_len (pa_cons (pv 3) pa_nil))) pa_nil))))))))), ?_⟩
    cases n with
    | zero =>
      exact q_when (b := true) (et_is (et_test (ev_op (ev_var rfl) ev_c rv_I0)) (by decide)) (fun _ H1 e1 => qe rfl H1 e1) (fun hb => by cases hb)
    | succ n =>
      refine q_when (b := false) (et_is (et_test (ev_op (ev_var rfl) ev_c rv_I0)) (decide_eq_false (by omega))) (fun hb => by cases hb) (fun _ H1 e1 => ?_)
      have hcut : ∀ {H1 : Hp}, Ev (tSl rSlS (tVar 0) (tPart (tVar 1)) (tPart (tOp (rI0 fun i j => .int (i + j)) (tVar 1) (tC (.int 1))))) (start N_term_at [.str (Tx T), .int (i : Int), .int (11 - ((n + 1 : Nat) : Int))]) H1 (.str (Tx ((T.drop i).take 1))) := fun {H1} => by
        have := ev_cutTA (σ := start N_term_at [.str (Tx T), .int (i : Int), .int (11 - ((n + 1 : Nat) : Int))]) (H := H1) (te := tVar 0) (tl := tPart (tVar 1)) (th := tPart (tOp (rI0 fun i j => .int (i + j)) (tVar 1) (tC (.int 1)))) (l := T) (i := i) (j := i + 1) (ev_var rfl) (eo_some (ev_var rfl)) (eo_some (ev_is (ev_op (ev_var rfl) ev_c rv_I0) (by congr 1))) (by omega) (by omega)
        rw [show i + 1 - i = 1 by omega] at this
        exact this
      refine q_when (b := decide ((T.drop i).take 1 = [39])) (et_test (ev_eqT hcut (by rw [← s_cb4]; exact ev_c))) (fun hb H2 e2 => ?_) (fun hb H2 e2 => ?_)
      · have hb := of_decide_eq_true hb
        have hi1 : i + 1 ≤ T.length := by
          have := congrArg List.length hb
          rw [List.length_take, List.length_drop] at this
          simp at this
          omega
        have hrl := run_le hi1
        refine q_asg (v := .str (Tx (runT T (i + 1)))) (ev_call (vs := [.str (Tx T), .int ((i + 1 : Nat) : Int)]) (ea_cons (ev_var rfl) (ea_cons (ev_is (ev_op (ev_var rfl) ev_c rv_I0) (by congr 1)) ea_nil)) (fun H3 e3 Q3 q3 E3 => ⟨T, i + 1, rfl, hi1, hz, q3⟩)) fun H3 e3 => ?_
        refine ⟨_, rfl, by show 2 ≤ sizeLine; decide, fun t1 nt1 => ?_⟩
        have f1 := Ex.new (o := .tup [.str (Str.ofString "is"), .str (Tx (runT T (i + 1)))]) nt1
        refine ⟨_, rfl, _, _, rfl, rfl, _, rfl, Tx (runT T (i + 1)), rfl, sz_of (by rw [Tx_len]; omega), _, _, rfl, rfl, by show 2 ≤ sizeLine; decide, fun r nr => ?_⟩
        have f2 := Ex.new (o := .tup [.ref t1, .int ((i : Int) + 1 + ((Tx (runT T (i + 1))).length : Int))]) nr
        have x5 := e1.trans (e2.trans (e3.trans (f1.trans f2)))
        refine q (.tuple [sS "is", .str (Tx (runT T (i + 1)))]) (i + 1 + (runT T (i + 1)).length) (by unfold termF; rw [if_pos hb]) r (.ref t1) _ x5 ?_ (.tup (f2 _ _ upd_same) (.cons (.str _) (.cons (.str _) .nil)))
        rw [upd_same, Tx_len]
        congr 4
      · have hb := of_decide_eq_false hb
        have hrl := run_le hi
        refine q_asg (v := .str (Tx (runT T i))) (ev_call (vs := [.str (Tx T), .int (i : Int)]) (ea_cons (ev_var rfl) (ea_cons (ev_var rfl) ea_nil)) (fun H3 e3 Q3 q3 E3 => ⟨T, i, rfl, hi, hz, q3⟩)) fun H3 e3 => ?_
        cases hac : argc (Tx (runT T i)) with
        | some k =>
          obtain ⟨_, _, harg⟩ := argc_le hac
          have hte : termF (n + 1) T i = opF (termF n T) T (Tx (runT T i)) (i + (runT T i).length) := by
            rw [termF, if_neg hb, hac]
          rw [hte] at q qe
          refine q_when (b := true) (et_test (ev_op (ev_var rfl) ev_c (rv_inKD (B.x_args _ harg)))) (fun _ H4 e4 => ?_) (fun hb => by cases hb)
          have x4 := e1.trans (e2.trans (e3.trans e4))
          refine ⟨_, rfl, _, rfl, _, rfl, Tx (runT T i), rfl, sz_of (by rw [Tx_len]; omega), _, _, rfl, rfl, _, rfl, _, rfl, T, i + (runT T i).length, k, Tx (runT T i), by rw [Tx_len, show ((i + (runT T i).length : Nat) : Int) = (i : Int) + ((runT T i).length : Int) by omega, show (10 - (n : Int)) = 11 - ((n + 1 : Nat) : Int) by omega]; rfl, by omega, hrl, hz, hac, fun d j hd r v H5 e5 hr hv => q d j hd r v H5 (x4.trans e5) hr hv, fun hnone H5 e5 => qe hnone H5 (x4.trans e5)⟩
        | none =>
          have hte : termF (n + 1) T i = some (.tuple [sS "of", .str (Tx (runT T i))], i + (runT T i).length) := by
            rw [termF, if_neg hb, hac]
          refine q_when (b := false) (et_test (ev_op (ev_var rfl) ev_c (rv_notKD B.x_no (argc_none hac)))) (fun hb => by cases hb) (fun _ H4 e4 => ?_)
          refine ⟨_, rfl, by show 2 ≤ sizeLine; decide, fun t1 nt1 => ?_⟩
          have f1 := Ex.new (o := .tup [.str (Str.ofString "of"), .str (Tx (runT T i))]) nt1
          refine ⟨_, rfl, _, rfl, Tx (runT T i), rfl, sz_of (by rw [Tx_len]; omega), _, _, rfl, rfl, by show 2 ≤ sizeLine; decide, fun r nr => ?_⟩
          have f2 := Ex.new (o := .tup [.ref t1, .int ((i : Int) + ((Tx (runT T i)).length : Int))]) nr
          have x5 := e1.trans (e2.trans (e3.trans (e4.trans (f1.trans f2))))
          refine q _ _ hte r (.ref t1) _ x5 ?_ (.tup (f2 _ _ upd_same) (.cons (.str _) (.cons (.str _) .nil)))
          rw [upd_same, Tx_len]
          congr 4
theorem ok_read_term {f f1 f2 : Addr} {fd fd1 fd2 : FuncData} (F : Fun K "read_term" "read_term" s_read_term f fd) (B : Bi K w mg dG dW dK a_NoValue a_NoNumber a_NoTerm a_NoText a_NoRow a_WireError)  (D_term_at : Df P w K mg base (L2N.CX P w) "term_at" 23 f1 fd1 ["text", "at", "deep"] (spTF a_NoText 10)) (D_is_term : Df P w K mg base CX0 "is_term" 4 f2 fd2 ["thing"] (spTermZ)) : FnOk P w K mg base (L2N.CX P w) (25) f fd ["text"] (spReadX a_NoText) := by
  refine F.okN sc_read_term (fun vs H Q E h => ?_) (fun cdv A outer s H vs Q E hr h => ?_)
  · obtain ⟨p, v, d, rfl, _⟩ := h
    all_goals rfl
  · obtain ⟨p, v, d, rfl, hd, h⟩ := h
    refine ⟨_, (pss_cons (ps_if (pt_not (pt_val (pe_callB call_isi (by rfl) B.isinstance (by decide +kernel) (pa_cons (pv 0) (pa_cons (pe_bltn (v := .ty "str") (by rfl) B.str (by decide +kernel) rfl) pa_nil))))) (pss_one (L2N.ps_raise rfl (L2N.takes_of rfl rfl rfl rfl) (L2N.pmk_own PySem.F.excBase_ValueError B.x_xNoText B.x_gNoText B.x_kNoText (raises_own B.x_bNoText B.x_tNoText) (by exact rfl)))) pss_nil)
      (pss_cons (ps_asg (pe_call D_term_at.ok (hr.mono (by decide)) (by rfl) D_term_at.g D_term_at.kp D_term_at.b .nil (L2N.passes_call (L2N.takes_of rfl rfl rfl rfl) (fun _ _ _ _ h => h)) (pa_cons (pv 0) (pa_cons pe_int (pa_cons pe_int pa_nil)))) (pg_tup rfl (pgs_cons (pg_name (i := 1) sc_read_term.nd rfl (Or.inl rfl)) (pgs_cons (pg_name (i := 2) sc_read_term.nd rfl (Or.inl rfl)) pgs_nil))))
      (pss_cons (ps_if (PW.pt (pw_or (pt_cmpR op_ne (pv 2) (pe_callB call_len_str (by rfl) B.len PySem.boot_len (pa_cons (pv 0) pa_nil)) (nomark _)) (pw_or1 (pt_not (pt_val (pe_call D_is_term.ok (hr.mono (by decide)) (by rfl) D_is_term.g D_is_term.kp D_is_term.b .nil pass0 (pa_cons (pv 1) pa_nil))))))) (pss_one (L2N.ps_raise rfl (L2N.takes_of rfl rfl rfl rfl) (L2N.pmk_own PySem.F.excBase_ValueError B.x_xNoText B.x_gNoText B.x_kNoText (raises_own B.x_bNoText B.x_tNoText) (by exact rfl)))) pss_nil)
      (pss_one (ps_ret (pv 1)))))), ?_⟩
    rcases h with ⟨T, rfl, hz, hB, q, qe⟩ | ⟨hs, qe⟩
    · cases hd
      refine q_when (b := false) (et_is (et_not (et_B (ev_isZs (p := p) (d := .str (Tx T)) (ev_var rfl) (.str T)))) rfl) (fun hb => by cases hb) (fun _ H1 e1 => ?_)
      refine ⟨_, rfl, T, 0, rfl, by decide, by omega, hz, fun e j hj r u H2 e2 hr hu => ?_, fun hnone H2 e2 => ?_⟩
      · refine ⟨r, _, rfl, st_of hr, rfl, _, _, rfl, _, _, rfl, rfl, ?_⟩
        dsimp only
        have hre : readF T = if j = T.length ∧ termZ e = true then some e else none := by unfold readF; rw [hj]
        refine q_when (b := !decide (V.int (j : Int) = V.int (T.length : Int)) || !termZ e) ?_ (fun hb H3 e3 => ?_) (fun hb H3 e3 => ?_)
        · have hlen : ∀ {σ' : L2.St}, σ'[0]? = some (some (.str (Tx T))) → Ev (tCB rLenT (tCons (tVar 0) tNil)) σ' H2 (.int (T.length : Int)) := fun h => ev_lenT (ev_var h) (by omega)
          refine et_or (et_test (ev_op (x := .int (j : Int)) (ev_var rfl) (hlen rfl) (rv_ne rfl))) fun _ => et_not (et_B (b := termZ e) ?_)
          exact ev_call (vs := [u]) (ea_cons (ev_var rfl) ea_nil) (fun H3 e3 Q3 q3 E3 => ⟨p, u, e, rfl, (hu.ex e3).dz, hB e j hj, q3⟩)
        · refine qe ?_ H3 (e1.trans (e2.trans e3))
          rw [hre, if_neg]
          rintro ⟨h1, h2⟩
          rw [h1, h2] at hb
          simp at hb
        · rw [Bool.or_eq_false_iff] at hb
          have h1 : j = T.length := by
            by_cases h : (V.int (j : Int) = V.int (T.length : Int))
            · have := V.int.inj h
              omega
            · have := hb.1
              rw [decide_eq_false h] at this
              cases this
          have h2 : termZ e = true := by
            cases ht : termZ e with
            | true => rfl
            | false => have := hb.2; rw [ht] at this; cases this
          exact s_ret (ev_var rfl) fun H4 e4 => q e (by rw [hre, if_pos ⟨h1, h2⟩]) u H4 (e1.trans (e2.trans (e3.trans e4))) (hu.ex (e3.trans e4))
      · exact qe (by unfold readF; rw [hnone]) H2 (e1.trans e2)
    · exact q_when (b := true) (et_is (et_not (et_B (ev_isZs (ev_var rfl) hd))) (by rw [hs]; rfl)) (fun _ H1 e1 => qe H1 e1) (fun hb => by cases hb)
theorem ok__law_pot {f  : Addr} {fd  : FuncData} (F : Fun K "_law_pot" "_law_pot" s__law_pot f fd) (B : Bi K w mg dG dW dK a_NoValue a_NoNumber a_NoTerm a_NoText a_NoRow a_WireError)   : FnOk P w K mg base CX0 (1) f fd ["_law_script", "_law_k"] (spPot K) := by
  refine F.ok sc__law_pot (fun vs H Q E h => ?_) (fun cdv A outer s H vs Q E hr h => ?_)
  · obtain ⟨a, ns, k, rfl, _⟩ := h
    all_goals rfl
  · obtain ⟨a, ns, k, rfl, hS, h0, h1, q⟩ := h
    refine ⟨_, (pss_cons (ps_set (i := 2) sc__law_pot.nd rfl (Or.inl rfl) (pe_ifExp (pt_cmpR op_lt (pv 1) (pe_callB call_len_seq (by rfl) B.len PySem.boot_len (pa_cons (pv 0) pa_nil)) (nomark _)) (pe_ix ix_list (pv 0) (pv 1) (fun _ _ => rfl)) pe_int))
      (pss_one (ps_ret (pe_lst (pa_cons (pe_callB (call_max2 rfl) (by rfl) B.max (by decide +kernel) (pa_cons pe_int (pa_cons (pe_op op_sub (pv 2) (pe_op op_pow pe_int pe_int)) pa_nil))) (pa_cons (pe_op op_mod (pe_op op_add (pe_op op_add (pe_op op_mul (pe_op op_mod (pv 2) pe_int) pe_int) (pe_op op_mul pe_int (pv 1))) pe_int) pe_int) pa_nil)))))), ?_⟩
    refine q_asg (v := .int (cellOf ns k)) (ev_if (b := decide (k < ((ns.map V.int).length : Int))) (et_test (ev_op (ev_var rfl) (ev_len (ev_var rfl) hS) rv_I0)) (fun hb => ev_op (ev_var rfl) (ev_var rfl) (rv_ixL hS (cell_at h0 (by have := of_decide_eq_true hb; rw [List.length_map] at this; exact this)))) (fun hb => ev_is ev_c (by
      have := of_decide_eq_false hb
      rw [List.length_map] at this
      unfold cellOf
      rw [if_neg this]))) fun H1 e1 => ?_
    generalize cellOf ns k = c
    refine ⟨_, rfl, _, _, rfl, rfl, ⟨by decide, by decide, by decide⟩, _, _, rfl, rfl, _, _, rfl, ?_⟩
    refine ⟨_, rfl, _, _, rfl, rfl, (by show (0 : Int) < 2147483629; decide), _, _, rfl, rfl, .inr ⟨by decide, by decide⟩, _, rfl, _, _, rfl, rfl, .inl ⟨by decide, by decide⟩, _, _, rfl, rfl, _, _, rfl, rfl, _, _, rfl, rfl, (by show (0 : Int) < 2147483647; decide), ?_⟩
    refine ⟨by show 2 ≤ sizeLine; decide, fun p hp => ?_⟩
    refine q p _ (fresh_back e1 hp) (e1.trans (Ex.new hp)) ⟨_, _, upd_same, ?_, ?_, ?_⟩
    · split <;> omega
    · omega
    · omega
theorem ok__law_take {f  : Addr} {fd  : FuncData} (F : Fun K "_law_take" "_law_take" s__law_take f fd) (B : Bi K w mg dG dW dK a_NoValue a_NoNumber a_NoTerm a_NoText a_NoRow a_WireError)   : FnOk P w K mg base CX0 (1) f fd ["_law_pot_here", "_law_many"] (spTake) := by
  refine F.ok sc__law_take (fun vs H Q E h => ?_) (fun cdv A outer s H vs Q E hr h => ?_)
  · obtain ⟨a, m, rfl, _⟩ := h
    all_goals rfl
  · obtain ⟨p, m, rfl, ⟨x, y, hp, hx, hy, hy2⟩, h0, h1, q⟩ := h
    refine ⟨_, (pss_cons (ps_if (pt_cmpR op_gt (pe_ix ix_list (pv 0) pe_int (fun _ _ => rfl)) pe_int (nomark _)) (pss_cons (ps_asg (pe_callB call_divmod (by rfl) B.divmod (by decide +kernel) (pa_cons (pe_ix ix_list (pv 0) pe_int (fun _ _ => rfl)) (pa_cons (pv 1) pa_nil))) (pg_tup rfl (pgs_cons (pg_sub (pv 0) pe_int set_list) (pgs_cons (pg_name (i := 2) sc__law_take.nd rfl (Or.inl rfl)) pgs_nil))))
      (pss_one (ps_ret (pv 2)))) pss_nil)
      (pss_cons (ps_asg (pe_op op_mod (pe_op op_add (pe_op op_mul (pe_ix ix_list (pv 0) pe_int (fun _ _ => rfl)) pe_int) pe_int) pe_int) (pg_sub (pv 0) pe_int set_list))
      (pss_one (ps_ret (pe_op op_mod (pe_op op_fdiv (pe_op op_mod (pe_op op_mul (pe_ix ix_list (pv 0) pe_int (fun _ _ => rfl)) (pe_ix ix_list (pv 0) pe_int (fun _ _ => rfl))) pe_int) pe_int) (pv 1)))))), ?_⟩
    refine ⟨_, rfl, p, _, _, _, rfl, rfl, SqL.of hp, rfl, _, _, rfl, rfl, _, rfl, ?_⟩
    refine ite2 (fun e => ?_) (fun e => ?_)
    · refine ⟨_, rfl, p, _, _, _, rfl, rfl, SqL.of hp, rfl, _, rfl, _, _, rfl, ⟨h0, h1⟩, fun t ht => ?_⟩
      have npt : p ≠ t := ne_of_none hp ht
      refine ⟨t, _, rfl, SqT.of upd_same, rfl, _, _, rfl, _, rfl, p, _, _, 0, rfl, rfl, (upd_ne npt).trans hp, rfl, _, _, rfl, rfl, _, rfl, ?_⟩
      refine q _ _ (fun b o n hb => ?_) ⟨_, _, upd_same, Int.ediv_nonneg hx (by omega), hy, hy2⟩ (Int.emod_nonneg _ (by omega)) (Int.emod_lt_of_pos _ h0)
      rw [upd_ne n, upd_ne (ne_of_none hb ht)]
      exact hb
    · refine ⟨_, rfl, p, _, _, _, rfl, rfl, SqL.of hp, rfl, _, _, rfl, rfl, .inr ⟨by decide, by decide⟩, _, _, rfl, rfl, _, _, rfl, rfl, (by show (0 : Int) < 2147483629; decide), _, rfl, p, _, _, 1, rfl, rfl, hp, rfl, ?_⟩
      have hz0 : 0 ≤ (y * 39373 + 20011) % 2147483629 := by omega
      have hz1 : (y * 39373 + 20011) % 2147483629 < 2147483629 := by omega
      refine ⟨_, rfl, p, _, _, _, rfl, rfl, SqL.of upd_same, rfl, _, rfl, p, _, _, _, rfl, rfl, SqL.of upd_same, rfl, _, _, rfl, rfl, .inl ⟨?_, ?_⟩, _, _, rfl, rfl, (by show (0 : Int) < 2147483563; decide), _, _, rfl, rfl, ⟨by decide, by decide⟩, _, rfl, _, _, rfl, rfl, h0, ?_⟩
      · omega
      · omega
      · exact q _ _ (ExB.refl _ _).upd ⟨_, _, upd_same, hx, hz0, by omega⟩ (Int.emod_nonneg _ (by omega)) (Int.emod_lt_of_pos _ h0)
theorem ok__law_words {f  : Addr} {fd  : FuncData} (F : Fun K "_law_words" "_law_words" s__law_words f fd) (B : Bi K w mg dG dW dK a_NoValue a_NoNumber a_NoTerm a_NoText a_NoRow a_WireError)   : FnOk P w K mg base CX0 (1) f fd [] (spWords) := by
  refine F.ok sc__law_words (fun vs H Q E h => ?_) (fun cdv A outer s H vs Q E hr h => ?_)
  · obtain ⟨rfl, _⟩ := h
    all_goals rfl
  · obtain ⟨rfl, q⟩ := h
    refine ⟨_, (pss_cons (ps_set (i := 0) sc__law_words.nd rfl (Or.inl rfl) (pe_lst (pa_cons pe_str (pa_cons pe_str (pa_cons pe_str (pa_cons pe_str (pa_cons pe_str (pa_cons pe_str (pa_cons pe_str (pa_cons pe_str (pa_cons pe_str (pa_cons pe_str (pa_cons pe_str (pa_cons pe_str pa_nil))))))))))))))
      (pss_one (ps_ret (pe_op op_cat (pv 0) (pe_lst (pa_cons pe_str (pa_cons pe_str (pa_cons pe_str (pa_cons pe_str (pa_cons pe_str pa_nil)))))))))), ?_⟩
    refine q_asgL (xs := [.str "not", .str "and", .str "or", .str "xor", .str "plus", .str "same", .str "less", .str "any", .str "all", .str "pick", .str "join", .str "part"]) (el_lst (ea_cons ev_c (ea_cons ev_c (ea_cons ev_c (ea_cons ev_c (ea_cons ev_c (ea_cons ev_c (ea_cons ev_c (ea_cons ev_c (ea_cons ev_c (ea_cons ev_c (ea_cons ev_c (ea_cons ev_c ea_nil)))))))))))) (by simp)) fun g H1 ng e1 hg => ?_
    refine s_retL (xs := words17.map V.str) (fun H2 e2 Q2 q2 => ?_) fun g2 H2 n2 e2 h2 => q g2 H2 (fresh_back e1 n2) (e1.trans e2) h2
    refine ⟨_, rfl, (by show 5 ≤ sizeLine; decide), fun g3 n3 => ?_⟩
    refine ⟨g, g3, _, _, rfl, rfl, Ex.new n3 _ _ (e2 _ _ hg), upd_same, by show 17 ≤ sizeLine; decide, fun g4 n4 => ?_⟩
    exact q2 g4 _ (fresh_back (Ex.new n3) n4) ((Ex.new n3).trans (Ex.new n4)) upd_same
theorem ok__law_name {f f1 f2 : Addr} {fd fd1 fd2 : FuncData} (F : Fun K "_law_name" "_law_name" s__law_name f fd) (B : Bi K w mg dG dW dK a_NoValue a_NoNumber a_NoTerm a_NoText a_NoRow a_WireError)  (D__law_take : Df P w K mg base CX0 "_law_take" 1 f1 fd1 ["_law_pot_here", "_law_many"] (spTake)) (D__law_words : Df P w K mg base CX0 "_law_words" 1 f2 fd2 [] (spWords)) : FnOk P w K mg base CX0 (2) f fd ["_law_pot_here", "_law_taken"] (spName) := by
  refine F.ok sc__law_name (fun vs H Q E h => ?_) (fun cdv A outer s H vs Q E hr h => ?_)
  · obtain ⟨p, g, taken, rfl, _⟩ := h
    all_goals rfl
  · obtain ⟨p, g, taken, rfl, hP, hG, hz, q⟩ := h
    refine ⟨_, (pss_cons (ps_set (i := 2) sc__law_name.nd rfl (Or.inl rfl) pe_str)
      (pss_cons (ps_set (i := 3) sc__law_name.nd rfl (Or.inl rfl) (pe_ix ix_str (pv 2) (pe_call D__law_take.ok (hr.mono (by decide)) (by rfl) D__law_take.g D__law_take.kp D__law_take.b .nil pass0 (pa_cons (pv 0) (pa_cons pe_int pa_nil))) (fun _ _ => rfl)))
      (pss_cons (ps_for PassesOwn.never rfl (pi_range1 (by rfl) B.range (pa_cons (pe_call D__law_take.ok (hr.mono (by decide)) (by rfl) D__law_take.g D__law_take.kp D__law_take.b .nil pass0 (pa_cons (pv 0) (pa_cons (pe_ix ix_list (pe_lst (pa_cons pe_int (pa_cons pe_int (pa_cons pe_int pa_nil)))) (pe_call D__law_take.ok (hr.mono (by decide)) (by rfl) D__law_take.g D__law_take.kp D__law_take.b .nil pass0 (pa_cons (pv 0) (pa_cons pe_int pa_nil))) (fun _ _ => rfl)) pa_nil))) pa_nil)) (pg_name (i := 4) sc__law_name.nd rfl (Or.inl rfl)) (pss_one (ps_set (i := 3) sc__law_name.nd rfl (Or.inl rfl) (pe_op op_add_str (pv 3) (pe_ix ix_str (pe_op op_add_str (pv 2) pe_str) (pe_call D__law_take.ok (hr.mono (by decide)) (by rfl) D__law_take.g D__law_take.kp D__law_take.b .nil pass0 (pa_cons (pv 0) (pa_cons pe_int pa_nil))) (fun _ _ => rfl))))))
      (pss_cons (ps_if (PW.pt (pw_or (pt_cmpR op_in_seq (pv 3) (pv 1) rfl) (pw_or1 (pt_cmpR op_in_seq (pv 3) (pe_call0 D__law_words.ok (hr.mono (by decide)) (by rfl) D__law_words.g D__law_words.kp D__law_words.b .nil pass0) rfl)))) (pss_one (ps_set (i := 3) sc__law_name.nd rfl (Or.inl rfl) (pe_ix ix_list (pe_lc (own := [("_law_letter", 5)]) (g := gName 5) (by rfl) sc__law_name.nd (pi_str (pv 2)) (blkOk_by (own := [("_law_letter", 5)]) (N := N__law_name) (sc := defScope s__law_name) (by decide +kernel)) (fun _ _ _ _ _ => pg_name (i := 5) sc__law_name.nd rfl (Or.inl rfl)) (fun _ _ _ _ _ => pts_one (pt_cmpR (op_niK (K := K) rfl) (pe_op op_add_str (pv 5) pe_str) (pv 1) rfl)) (fun _ _ _ _ _ => (pe_op op_add_str (pv 5) pe_str))) pe_int (fun _ _ => rfl)))) pss_nil)
      (pss_one (ps_ret (pv 3))))))), ?_⟩
    have ng : g ≠ p := fun z => by
      obtain ⟨x, y, h1, _⟩ := hP
      rw [z, h1] at hG
      have := congrArg (fun o : Option HO => match o with | some (.lst xs) => xs | _ => []) hG
      cases taken with
      | nil => simp at this
      | cons a b => simp at this
    refine q_asg (v := .str (Tx lets)) (ev_is ev_c (by rw [s_lets])) fun H1 e1 => ?_
    refine p_asg (evp_sign (l := lets) (fun _ => ev_var rfl) (by decide) (evp_take rfl (by decide) (by decide))) (hP.ex e1) fun v H2 e2 hP2 hv => ?_
    obtain ⟨c, hc, rfl⟩ := hv
    refine p_forR1 (m := 7) ((evp_takeE (lim := fun _ _ => True) (m := 8) rfl ((evp_lit (K := K) (vs := [.int 1, .int 2, .int 8]) (fun _ => ea_cons ev_c (ea_cons ev_c (ea_cons ev_c ea_nil))) (by decide) (evp_take rfl (by decide) (by decide))).mono fun v _ h => ?_) (by decide)).mono fun v _ h => ?_) (by decide) hP2
      (fun i σ' H' => (∃ l a4, σ' = [some (.ref p), some (.ref g), some (.str (Tx lets)), some (.str (Tx (c :: l))), a4, none] ∧ l.length = i ∧ ∀ d ∈ l, d ∈ lets ++ figs) ∧ ExB p H H' ∧ PotAt H' p)
      (fun H3 e3 hP3 => ⟨⟨[], none, rfl, rfl, fun d hd => by cases hd⟩, ((ExB.of e1).trans e2).trans e3, hP3⟩) (fun i σ' H3 hi hv => ?_) (fun n σ' H3 hn hv => ?_)
    · simp only [List.mem_cons, List.not_mem_nil, or_false] at h
      rcases h with rfl | rfl | rfl
      · exact ⟨1, rfl, by decide, by decide⟩
      · exact ⟨2, rfl, by decide, by decide⟩
      · exact ⟨8, rfl, by decide, by decide⟩
    · obtain ⟨d, rfl, d0, d1⟩ := h
      exact ⟨d, rfl, d0, by omega⟩
    · obtain ⟨⟨l, a4, rfl, hl, hs⟩, x3, hP3⟩ := hv
      refine p_asg1 (G := fun v _ => ∃ d ∈ lets ++ figs, v = .str (Tx ((c :: l) ++ [d]))) (fun H4 e4 hP4 Q4 q4 => ?_) hP3 fun v H4 e4 hP4 hv => ?_
      · refine ⟨_, rfl, ?_⟩
        refine evp_sign (p := p) (H := H4) (l := lets ++ figs) (fun H5 => ev_addT (ev_var rfl) (ev_is ev_c (by rw [s_figs])) (by decide)) (by decide) (evp_take rfl (by decide) (by decide)) H4 (ExB.refl _ _) hP4 _ fun v H5 e5 hP5 hv => ?_
        obtain ⟨d, hd, rfl⟩ := hv
        refine ⟨_, _, rfl, rfl, sz_of (by rw [Tx_len, Tx_len]; simp; omega), ?_⟩
        rw [Tx_cat]
        exact q4 _ H5 e5 hP5 ⟨d, hd, rfl⟩
      · obtain ⟨d, hd, rfl⟩ := hv
        exact ⟨⟨l ++ [d], _, rfl, by simp [hl], fun y hy => by
          rcases List.mem_append.mp hy with h | h
          · exact hs y h
          · rw [List.mem_singleton.mp h]
            exact hd⟩, x3.trans e4, hP4⟩
    · obtain ⟨⟨l, a4, rfl, hl, hs⟩, x3, hP3⟩ := hv
      have hG3 := x3 _ _ ng hG
      refine q_when (b := decide (Tx (c :: l) ∈ taken) || decide (Tx (c :: l) ∈ words17)) (et_or (et_test (ev_inStrs (ev_var rfl) (ev_var rfl) (sq_of hG3))) fun _ => et_test (ev_inStrsN (ev_var rfl) (el_call ea_nil fun H4 e4 Q4 q4 E4 => ⟨rfl, q4⟩))) (fun hb H4 e4 => ?_) (fun hb H4 e4 => ?_)
      · obtain ⟨x, hx1, hx2⟩ := pig taken (lets.map fun c => Tx [c, 48]) lets_nd (by rw [List.length_map]; show taken.length < 26; omega)
        obtain ⟨c0, hc0, hf⟩ : ∃ c0 ∈ lets, ∃ r, lets.filter (fun c => !decide (Tx [c, 48] ∈ taken)) = c0 :: r ∧ Tx [c0, 48] ∉ taken := by
          obtain ⟨y, hy, rfl⟩ := List.mem_map.mp hx1
          have hm : y ∈ lets.filter (fun c => !decide (Tx [c, 48] ∈ taken)) := List.mem_filter.mpr ⟨hy, by simp [hx2]⟩
          cases hfl : lets.filter (fun c => !decide (Tx [c, 48] ∈ taken)) with
          | nil =>
            rw [hfl] at hm
            cases hm
          | cons c0 r =>
            have h0 : c0 ∈ lets.filter (fun c => !decide (Tx [c, 48] ∈ taken)) := by rw [hfl]; exact List.mem_cons_self ..
            have h1 := List.mem_filter.mp h0
            exact ⟨c0, h1.1, r, rfl, by simpa using h1.2⟩
        obtain ⟨r, hf, hnt⟩ := hf
        refine s_asg (v := .str (Tx [c0, 48])) ?_ fun H5 e5 => ?_
        · refine ev_opL1 (xs := (lets.filter fun c => !decide (Tx [c, 48] ∈ taken)).map fun c => V.str (Tx [c, 48])) (el_lcT _ _ (ev_var rfl) (by decide) (fun x => rfl) (fun d H5 e5 hd => et_test (ev_niStrs (ev_is (ev_addT (ev_var rfl) ec_0 (by simp)) rfl) (ev_var rfl) (sq_of ((e4.trans e5) _ _ hG3)))) (fun d H5 e5 hd _ => ev_is (ev_addT (ev_var rfl) ec_0 (by simp)) rfl)) (fun H5 _ => ev_c) fun g2 H5 h5 e5 => ?_
          rw [hf] at h5
          exact rv_ixL (sq_of h5) (atI_nat (j := 0) rfl)
        · exact s_ret (ev_var rfl) fun H6 e6 => q H6 _ (x3.trans (ExB.of ((e4.trans e5).trans e6))) (hP3.ex ((e4.trans e5).trans e6)) (NmOk.zero hc0) hnt
      · rw [Bool.or_eq_false_iff] at hb
        exact s_ret (ev_var rfl) fun H5 e5 => q H5 _ (x3.trans (ExB.of (e4.trans e5))) (hP3.ex (e4.trans e5)) ⟨c, l, rfl, hc, hs, by omega, of_decide_eq_false hb.2⟩ (of_decide_eq_false hb.1)
theorem ok__law_names {f f1 : Addr} {fd fd1 : FuncData} (F : Fun K "_law_names" "_law_names" s__law_names f fd) (B : Bi K w mg dG dW dK a_NoValue a_NoNumber a_NoTerm a_NoText a_NoRow a_WireError)  (D__law_name : Df P w K mg base CX0 "_law_name" 2 f1 fd1 ["_law_pot_here", "_law_taken"] (spName)) : FnOk P w K mg base CX0 (3) f fd ["_law_pot_here", "_law_many"] (spNames) := by
  refine F.ok sc__law_names (fun vs H Q E h => ?_) (fun cdv A outer s H vs Q E hr h => ?_)
  · obtain ⟨p, m, rfl, _⟩ := h
    all_goals rfl
  · obtain ⟨p, m, rfl, hP, hm, q⟩ := h
    refine ⟨_, (pss_cons (ps_set (i := 2) sc__law_names.nd rfl (Or.inl rfl) (pe_lst pa_nil))
      (pss_cons (ps_for PassesOwn.never rfl (pi_range1 (by rfl) B.range (pa_cons (pv 1) pa_nil)) (pg_name (i := 3) sc__law_names.nd rfl (Or.inl rfl)) (pss_one (ps_expr (pe_bm PySem.F.plainAttrs_list PySem.F.slot_list_append PySem.F.type_list_append mt_append (pv 2) (pa_cons (pe_call D__law_name.ok (hr.mono (by decide)) (by rfl) D__law_name.g D__law_name.kp D__law_name.b .nil pass0 (pa_cons (pv 0) (pa_cons (pv 2) pa_nil))) pa_nil)))))
      (pss_one (ps_ret (pv 2))))), ?_⟩
    refine q_asgL (xs := []) (el_lst ea_nil (by decide)) fun g H1 ng e1 hg => ?_
    have n1 : g ≠ p := hP.ne ng
    refine q_forR1 (n := (m : Int)) (ea_cons (ev_var rfl) ea_nil) ⟨by omega, by omega⟩ (fun i σ' H' => (∃ a3, σ' = [some (.ref p), some (.int (m : Int)), some (.ref g), a3]) ∧ ExB p H H' ∧ PotAt H' p ∧ ∃ xs : List Str, H' g = some (.lst (xs.map V.str)) ∧ xs.length = i ∧ xs.Nodup ∧ ∀ x ∈ xs, NmOk x)
      (fun H2 e2 => ⟨⟨none, rfl⟩, ExB.of (e1.trans e2), hP.ex (e1.trans e2), [], e2 _ _ hg, rfl, List.nodup_nil, fun x hx => by cases hx⟩) (fun i σ' H2 hi hv => ?_) (fun σ' H2 hv => ?_)
    · obtain ⟨⟨a3, rfl⟩, x2, hP2, xs, hg2, hl, hnd, hok⟩ := hv
      refine ⟨_, rfl, .inl ⟨rfl, _, sq_of hg2⟩, _, rfl, _, rfl, p, g, xs, rfl, hP2, hg2, by omega, fun H3 x e3 hP3 hx hn => ?_⟩
      have hg3 := e3 _ _ n1 hg2
      refine ⟨g, _, _, rfl, rfl, hg3, sz_lt (by rw [List.length_map]; omega), ⟨_, rfl⟩, ?_, ?_, xs ++ [x], ?_, by simp [hl], ?_, fun y hy => ?_⟩
      · exact (x2.trans e3).mut ng
      · exact hP3.upd n1
      · rw [upd_same, List.map_append]
        rfl
      · rw [List.nodup_append]
        exact ⟨hnd, List.nodup_cons.mpr ⟨by simp, List.nodup_nil⟩, fun a ha b hb z => by
          rw [List.mem_singleton.mp hb] at z
          exact hn (z ▸ ha)⟩
      · rcases List.mem_append.mp hy with h | h
        · exact hok y h
        · rw [List.mem_singleton.mp h]
          exact hx
    · obtain ⟨⟨a3, rfl⟩, x2, hP2, xs, hg2, hl, hnd, hok⟩ := hv
      exact s_ret (ev_var rfl) fun H3 e3 => q H3 g xs (x2.trans (ExB.of e3)) (hP2.ex e3) ng (e3 _ _ hg2) (by omega) hnd hok
theorem ok__law_bits {f f1 : Addr} {fd fd1 : FuncData} (F : Fun K "_law_bits" "_law_bits" s__law_bits f fd) (B : Bi K w mg dG dW dK a_NoValue a_NoNumber a_NoTerm a_NoText a_NoRow a_WireError)  (D__law_take : Df P w K mg base CX0 "_law_take" 1 f1 fd1 ["_law_pot_here", "_law_many"] (spTake)) : FnOk P w K mg base CX0 (2) f fd ["_law_pot_here", "_law_width", "_law_signs"] (spBitsD) := by
  refine F.ok sc__law_bits (fun vs H Q E h => ?_) (fun cdv A outer s H vs Q E hr h => ?_)
  · obtain ⟨p, m, ss, rfl, _⟩ := h
    all_goals rfl
  · obtain ⟨p, m, ss, rfl, hP, h8, s0, s1, q⟩ := h
    refine ⟨_, (pss_one (ps_ret (pe_join pe_str (pe_lc (own := [("_law_k", 3)]) (g := gName 3) (tt := tYes) (by rfl) sc__law_bits.nd (pi_range1 (by rfl) B.range (pa_cons (pv 1) pa_nil)) (blkOk_by (own := [("_law_k", 3)]) (N := N__law_bits) (sc := defScope s__law_bits) (by decide +kernel)) (fun _ _ _ _ _ => pg_name (i := 3) sc__law_bits.nd rfl (Or.inl rfl)) (fun _ _ _ _ _ => pts_nil) (fun _ _ _ _ _ => (pe_ix ix_str (pv 2) (pe_call D__law_take.ok (hr.mono (by decide)) (by rfl) D__law_take.g D__law_take.kp D__law_take.b .nil pass0 (pa_cons (pv 0) (pa_cons (pe_callB call_len_str (by rfl) B.len PySem.boot_len (pa_cons (pv 2) pa_nil)) pa_nil))) (fun _ _ => rfl))))))), ?_⟩
    refine ⟨⟨_, rfl⟩, ?_⟩
    refine evp_lcR (p := p) (H := H) (lo := (m : Int)) (m := (m : Int)) (G := fun v _ => ∃ c ∈ ss, v = .str (Tx [c])) ((evp_var rfl).mono fun v _ h => ⟨_, h, by omega, by omega⟩) (by omega) (by omega) (fun x => rfl) (fun i H1 e1 hi => evp_sign (fun _ => ev_var rfl) (by omega) (evp_takeV rfl (evp_of fun H2 e2 => ev_lenT (ev_var rfl) (by omega)) (by omega) (by omega))) (fun v H1 H2 _ h => h) H (ExB.refl _ _) hP _ fun Dl xs H2 nD e2 hP2 hD hx => ?_
    obtain ⟨h1, h2, h3⟩ := hx
    obtain ⟨l, hl1, hl2⟩ : ∃ l : List Nat, xs = l.map (fun c => V.str (Tx [c])) ∧ ∀ c ∈ l, c ∈ ss := by
      clear h1 h2 hD
      induction xs with
      | nil => exact ⟨[], rfl, fun c hc => by cases hc⟩
      | cons x xs ih =>
        obtain ⟨l, e1, e2⟩ := ih fun y hy => h3 y (List.mem_cons_of_mem _ hy)
        obtain ⟨c, hc, rfl⟩ := h3 x (List.mem_cons_self ..)
        exact ⟨c :: l, by rw [e1]; rfl, fun d hd => by
          rcases List.mem_cons.mp hd with rfl | h
          · exact hc
          · exact e2 d h⟩
    subst hl1
    rw [List.length_map] at h1 h2
    refine ⟨Str.ofString "", Dl, l.map fun c => Tx [c], rfl, rfl, .inl (sq_of (by rw [map_strs]; exact hD)), by rw [ones_len]; omega, ?_⟩
    rw [join_ones]
    exact q H2 l e2 hP2 (by omega) hl2
theorem ok__law_leaf {f f1 f2 : Addr} {fd fd1 fd2 : FuncData} (F : Fun K "_law_leaf" "_law_leaf" s__law_leaf f fd) (B : Bi K w mg dG dW dK a_NoValue a_NoNumber a_NoTerm a_NoText a_NoRow a_WireError)  (D__law_take : Df P w K mg base CX0 "_law_take" 1 f1 fd1 ["_law_pot_here", "_law_many"] (spTake)) (D__law_bits : Df P w K mg base CX0 "_law_bits" 2 f2 fd2 ["_law_pot_here", "_law_width", "_law_signs"] (spBitsD)) : FnOk P w K mg base CX0 (3) f fd ["_law_pot_here", "_law_widths", "_law_width"] (spLeaf) := by
  refine F.ok sc__law_leaf (fun vs H Q E h => ?_) (fun cdv A outer s H vs Q E hr h => ?_)
  · obtain ⟨p, qd, m, ws, rfl, _⟩ := h
    all_goals rfl
  · obtain ⟨p, qd, m, ws, rfl, hP, hW, hok, hz, h1, h8, q⟩ := h
    refine ⟨_, (pss_cons (ps_lock (ps_setLc (i := 3) (own := [("_law_name_here", 6)]) (g := gName 6) (by rfl) sc__law_leaf.nd rfl rfl (sw_true rfl rfl rfl (by decide +kernel)) (pi_keys (pv 1)) (blkOk_by (own := [("_law_name_here", 6)]) (N := N__law_leaf) (sc := defScope s__law_leaf) (by decide +kernel)) (fun _ _ _ _ _ => pg_name (i := 6) sc__law_leaf.nd rfl (Or.inl rfl)) (fun _ _ _ _ _ => pts_one (pt_cmpR op_eq (pe_dget (hu_of hr) (pv 1) (pv 6) (fun _ _ => rfl)) (pv 2) (nomark _))) (fun _ _ _ _ _ => (pv 6))))
      (pss_cons (ps_lock (ps_setLc (i := 4) (own := [("_law_name_here", 6)]) (g := gName 6) (by rfl) sc__law_leaf.nd rfl rfl (sw_true rfl rfl rfl (by decide +kernel)) (pi_keys (pv 1)) (blkOk_by (own := [("_law_name_here", 6)]) (N := N__law_leaf) (sc := defScope s__law_leaf) (by decide +kernel)) (fun _ _ _ _ _ => pg_name (i := 6) sc__law_leaf.nd rfl (Or.inl rfl)) (fun _ _ _ _ _ => pts_one (pt_cmpR op_gt (pe_dget (hu_of hr) (pv 1) (pv 6) (fun _ _ => rfl)) (pv 2) (nomark _))) (fun _ _ _ _ _ => (pv 6))))
      (pss_cons (ps_set (i := 5) sc__law_leaf.nd rfl (Or.inl rfl) (pe_call D__law_take.ok (hr.mono (by decide)) (by rfl) D__law_take.g D__law_take.kp D__law_take.b .nil pass0 (pa_cons (pv 0) (pa_cons pe_int pa_nil))))
      (pss_cons (ps_if (PW.pt (pw_and (pt_cmpR op_gt (pv 5) pe_int (nomark _)) (pw_and1 (pt_cmpR (op_neD hr.units) (pv 3) (pe_lst pa_nil) (nomark _))))) (pss_one (ps_ret (pe_tup (pa_cons pe_str (pa_cons (pe_ix ix_list (pv 3) (pe_call D__law_take.ok (hr.mono (by decide)) (by rfl) D__law_take.g D__law_take.kp D__law_take.b .nil pass0 (pa_cons (pv 0) (pa_cons (pe_callB call_len_seq (by rfl) B.len PySem.boot_len (pa_cons (pv 3) pa_nil)) pa_nil))) (fun _ _ => rfl)) pa_nil))))) pss_nil)
      (pss_cons (ps_if (PW.pt (pw_and (pt_cmpR op_gt (pv 5) pe_int (nomark _)) (pw_and1 (pt_cmpR (op_neD hr.units) (pv 4) (pe_lst pa_nil) (nomark _))))) (pss_cons (ps_set (i := 6) sc__law_leaf.nd rfl (Or.inl rfl) (pe_ix ix_list (pv 4) (pe_call D__law_take.ok (hr.mono (by decide)) (by rfl) D__law_take.g D__law_take.kp D__law_take.b .nil pass0 (pa_cons (pv 0) (pa_cons (pe_callB call_len_seq (by rfl) B.len PySem.boot_len (pa_cons (pv 4) pa_nil)) pa_nil))) (fun _ _ => rfl)))
      (pss_cons (ps_set (i := 7) sc__law_leaf.nd rfl (Or.inl rfl) (pe_call D__law_take.ok (hr.mono (by decide)) (by rfl) D__law_take.g D__law_take.kp D__law_take.b .nil pass0 (pa_cons (pv 0) (pa_cons (pe_op op_add (pe_op op_sub (pe_dget (hu_of hr) (pv 1) (pv 6) (fun _ _ => rfl)) (pv 2)) pe_int) pa_nil))))
      (pss_one (ps_ret (pe_tup (pa_cons pe_str (pa_cons (pe_tup (pa_cons pe_str (pa_cons (pv 6) pa_nil))) (pa_cons (pe_op op_sub (pe_op op_add (pv 7) (pv 2)) pe_int) (pa_cons (pv 7) pa_nil))))))))) pss_nil)
      (pss_one (ps_ret (pe_tup (pa_cons pe_str (pa_cons (pe_call D__law_bits.ok (hr.mono (by decide)) (by rfl) D__law_bits.g D__law_bits.kp D__law_bits.b .nil pass0 (pa_cons (pv 0) (pa_cons (pv 2) (pa_cons pe_str pa_nil)))) pa_nil)))))))))), ?_⟩
    have hlen : (wsK ws).length = ws.length := List.length_map _
    have lows : ∀ f : Str × Nat → Bool, ∀ x ∈ (ws.filter f).map (·.1), LowS x := fun f x hx => by
      obtain ⟨a, ha, rfl⟩ := List.mem_map.mp hx
      exact (hok.2 a (List.mem_filter.mp ha).1).2.2
    refine q_lockLc (fun n => (fun a : Str × Nat => decide (a.2 = m)) (ws.getD n default)) (fun n => (fun a : Str × Nat => V.str a.1) (ws.getD n default)) hW (fun H1 => ev_var rfl) (by omega) (fun x => rfl) (fun n k x H1 hrd hk => ?_) (fun n k x H1 hrd hk hf => ?_) fun g3 H3 n3 e3 h3 => ?_
    · obtain ⟨a, _, ha, hm, rfl, rfl⟩ := ws_key hk
      rw [ha]
      exact et_is (et_test (ev_op (ev_dget (ev_var rfl) (ev_var rfl) hrd (valV_ws hok.1 hm)) (ev_var rfl) (rv_eq rfl))) (by
        rw [Bool.eq_iff_iff]
        simp
        omega)
    · obtain ⟨a, _, ha, hm, rfl, rfl⟩ := ws_key hk
      rw [ha]
      exact ev_var rfl
    rw [given_kvs ws (fun a => decide (a.2 = m)) (fun a => V.str a.1) hlen] at h3
    rw [show ((ws.filter fun a => decide (a.2 = m)).map fun a => V.str a.1) = ((ws.filter fun a => decide (a.2 = m)).map (·.1)).map V.str by rw [List.map_map]; rfl] at h3
    refine q_lockLc (fun n => (fun a : Str × Nat => decide (m < a.2)) (ws.getD n default)) (fun n => (fun a : Str × Nat => V.str a.1) (ws.getD n default)) (hW.ex e3) (fun H1 => ev_var rfl) (by omega) (fun x => rfl) (fun n k x H1 hrd hk => ?_) (fun n k x H1 hrd hk hf => ?_) fun g4 H4 n4 e4 h4 => ?_
    · obtain ⟨a, _, ha, hm, rfl, rfl⟩ := ws_key hk
      rw [ha]
      exact et_is (et_test (ev_op (ev_dget (ev_var rfl) (ev_var rfl) hrd (valV_ws hok.1 hm)) (ev_var rfl) rv_I0)) (by simp)
    · obtain ⟨a, _, ha, hm, rfl, rfl⟩ := ws_key hk
      rw [ha]
      exact ev_var rfl
    rw [given_kvs ws (fun a => decide (m < a.2)) (fun a => V.str a.1) hlen] at h4
    rw [show ((ws.filter fun a => decide (m < a.2)).map fun a => V.str a.1) = ((ws.filter fun a => decide (m < a.2)).map (·.1)).map V.str by rw [List.map_map]; rfl] at h4
    have lz : ∀ f : Str × Nat → Bool, (ws.filter f).length ≤ 1000 := fun f => Nat.le_trans (List.length_filter_le _ _) hz
    have hP4 := hP.ex (e3.trans e4)
    have g3p : g3 ≠ p := (hP.ne n3)
    have g4p : g4 ≠ p := ((hP.ex e3).ne n4)
    refine p_asg (evp_take rfl (by decide) (by decide)) hP4 fun v H5 e5 hP5 hv => ?_
    obtain ⟨way, rfl, w0, w1⟩ := hv
    have x5 : ExB p H H5 := (ExB.of (e3.trans e4)).trans e5
    have h35 := e5 _ _ g3p (e4 _ _ h3)
    have h45 := e5 _ _ g4p h4
    refine q_when (b := decide (way > 0) && !decide (((ws.filter fun a => decide (a.2 = m)).map (·.1)) = [])) (et_and (et_test (ev_op (ev_var rfl) ev_c rv_I0)) fun _ => et_test (ev_neNil (ev_var rfl) (sq_of h35) (lows _))) (fun hb H6 e6 => ?_) (fun hb H6 e6 => ?_)
    · rw [Bool.and_eq_true] at hb
      have hne : ((ws.filter fun a => decide (a.2 = m)).map (·.1)) ≠ [] := by simpa using hb.2
      have hpos : 0 < (((ws.filter fun a => decide (a.2 = m)).map (·.1)).map V.str).length := by
        rw [List.length_map]
        exact List.length_pos_iff.mpr hne
      refine evp_pickL (p := p) (K := K) (H := H6) (g := g3) (ta := tVar 3) (tb := tVar 3) (i := 0) (E := E0) rfl (fun _ => ev_var rfl) (fun _ => ev_var rfl) (e6 _ _ h35) g3p hpos (by rw [List.length_map, List.length_map]; have := lz (fun a => decide (a.2 = m)); omega) H6 (ExB.refl _ _) (hP5.ex e6) _ fun v H7 e7 hP7 hv => ?_
      obtain ⟨x, hx, rfl⟩ := List.mem_map.mp hv
      obtain ⟨a, ha, rfl⟩ := List.mem_map.mp hx
      obtain ⟨ha1, ha2⟩ := List.mem_filter.mp ha
      refine ⟨by show 2 ≤ sizeLine; decide, fun b nb => ?_⟩
      refine q _ _ (.of a.1) ((x5.trans (ExB.of e6)).trans (e7.trans (ExB.of (Ex.new nb)))) (hP7.ex (Ex.new nb)) ⟨b, rfl, upd_same⟩ ?_ (by simp [dep]) (by simp [wt])
      show (a.1, m) ∈ ws
      rw [← of_decide_eq_true ha2]
      exact ha1
    · refine q_when (b := decide (way > 0) && !decide (((ws.filter fun a => decide (m < a.2)).map (·.1)) = [])) (et_and (et_test (ev_op (ev_var rfl) ev_c rv_I0)) fun _ => et_test (ev_neNil (ev_var rfl) (sq_of (e6 _ _ h45)) (lows _))) (fun hb H7 e7 => ?_) (fun hb H7 e7 => ?_)
      · rw [Bool.and_eq_true] at hb
        have hne : ((ws.filter fun a => decide (m < a.2)).map (·.1)) ≠ [] := by simpa using hb.2
        have hpos : 0 < (((ws.filter fun a => decide (m < a.2)).map (·.1)).map V.str).length := by
          rw [List.length_map]
          exact List.length_pos_iff.mpr hne
        refine p_asg (evp_pickL (K := K) (g := g4) rfl (fun _ => ev_var rfl) (fun _ => ev_var rfl) (e7 _ _ (e6 _ _ h45)) g4p hpos (by rw [List.length_map, List.length_map]; have := lz (fun a => decide (m < a.2)); omega)) (hP5.ex (e6.trans e7)) fun v H8 e8 hP8 hv => ?_
        obtain ⟨x, hx, rfl⟩ := List.mem_map.mp hv
        obtain ⟨a, ha, rfl⟩ := List.mem_map.mp hx
        obtain ⟨ha1, ha2⟩ := List.mem_filter.mp ha
        have ha3 : m < a.2 := of_decide_eq_true ha2
        have ha4 := hok.2 a ha1
        have x8 : ExB p H H8 := (x5.trans (ExB.of (e6.trans e7))).trans e8
        have hW8 : WsAt H8 qd ws := hW.exB hP x8
        refine p_asg (evp_takeV (m := (a.2 : Int) - (m : Int) + 1) rfl (evp_of fun H9 e9 => ev_op (ev_op (ev_dget (ev_var rfl) (ev_var rfl) (.inl (hW8.exB hP8 e9)) (valV_ws hok.1 ha1)) (ev_var rfl) rv_I0) ev_c rv_I0) (by omega) (by omega)) hP8 fun v H9 e9 hP9 hv => ?_
        obtain ⟨lo, rfl, l0, l1⟩ := hv
        obtain ⟨lo, rfl⟩ := Int.eq_ofNat_of_zero_le l0
        refine ⟨_, rfl, by show 2 ≤ sizeLine; decide, fun b1 nb1 => ?_⟩
        refine ⟨_, rfl, _, rfl, _, _, rfl, rfl, _, _, rfl, rfl, _, rfl, by show 4 ≤ sizeLine; decide, fun b nb => ?_⟩
        have eT := (Ex.new (o := .tup [.str (Str.ofString "of"), .str a.1]) nb1)
        refine q _ _ (.part (.of a.1) (lo + m - 1) lo) (x8.trans (e9.trans (ExB.of (eT.trans (Ex.new nb))))) (hP9.ex (eT.trans (Ex.new nb))) ⟨b, .ref b1, rfl, ?_, b1, rfl, ?_⟩ ⟨a.2, ha1, by omega, by omega, by omega⟩ (by simp [dep]) (by simp [wt])
        · rw [show ((lo + m - 1 : Nat) : Int) = (lo : Int) + (m : Int) - 1 by omega]
          exact upd_same
        · rw [upd_ne (ne_of_none upd_same nb)]
          exact upd_same
      · refine ⟨_, rfl, _, rfl, p, m, [48, 49, 120], ?_, hP5.ex (e6.trans e7), h8, by decide, by decide, fun H8 l e8 hP8 hl hs => ?_⟩
        · rw [show Str.ofString "01x" = Tx [48, 49, 120] by decide +kernel]
          rfl
        refine ⟨by show 2 ≤ sizeLine; decide, fun b nb => ?_⟩
        exact q _ _ (.is l) ((x5.trans (ExB.of (e6.trans e7))).trans (e8.trans (ExB.of (Ex.new nb)))) (hP8.ex (Ex.new nb)) ⟨b, rfl, upd_same⟩ ⟨hs, hl, h1, h8⟩ (by simp [dep]) (by simp [wt])
theorem ok__law_bit_term {f f1 f2 : Addr} {fd fd1 fd2 : FuncData} (F : Fun K "_law_bit_term" "_law_bit_term" s__law_bit_term f fd) (B : Bi K w mg dG dW dK a_NoValue a_NoNumber a_NoTerm a_NoText a_NoRow a_WireError) {n k : Nat} (hk : 1 ≤ k) (D__law_take : Df P w K mg base CX0 "_law_take" 1 f1 fd1 ["_law_pot_here", "_law_many"] (spTake)) (D__law_term : Df P w K mg base CX0 "_law_term" (k) f2 fd2 ["_law_pot_here", "_law_widths", "_law_width", "_law_deep", "_law_room"] (spPrev n)) : FnOk P w K mg base CX0 (k + 1) f fd ["_law_pot_here", "_law_widths", "_law_deep", "_law_room"] (spBitT n) := by
  refine F.ok sc__law_bit_term (fun vs H Q E h => ?_) (fun cdv A outer s H vs Q E hr h => ?_)
  · obtain ⟨p, qd, r, R, ws, rfl, _⟩ := h
    all_goals rfl
  · obtain ⟨p, qd, r, R, ws, rfl, hn, hP, hW, hR, hR0, hok, hz, q⟩ := h
    obtain ⟨n', hn'⟩ : ∃ n', n = n' + 1 := ⟨n - 1, by omega⟩
    have hn1 : (n : Int) - 1 = (n' : Int) := by omega
    refine ⟨_, (pss_cons (ps_set (i := 4) sc__law_bit_term.nd rfl (Or.inl rfl) (pe_call D__law_take.ok (hr.mono (by omega)) (by rfl) D__law_take.g D__law_take.kp D__law_take.b .nil pass0 (pa_cons (pv 0) (pa_cons pe_int pa_nil))))
      (pss_cons (ps_set (i := 5) sc__law_bit_term.nd rfl (Or.inl rfl) (pe_op op_add pe_int (pe_call D__law_take.ok (hr.mono (by omega)) (by rfl) D__law_take.g D__law_take.kp D__law_take.b .nil pass0 (pa_cons (pv 0) (pa_cons pe_int pa_nil)))))
      (pss_cons (ps_if (pt_cmpR op_lt (pv 4) pe_int (nomark _)) (pss_cons (ps_set (i := 6) sc__law_bit_term.nd rfl (Or.inl rfl) (pe_call D__law_term.ok (hr.mono (by omega)) (by rfl) D__law_term.g D__law_term.kp D__law_term.b .nil pass0 (pa_cons (pv 0) (pa_cons (pv 1) (pa_cons (pv 5) (pa_cons (pe_op op_sub (pv 2) pe_int) (pa_cons (pv 3) pa_nil)))))))
      (pss_one (ps_ret (pe_tup (pa_cons (pe_ix ix_list (pe_lst (pa_cons pe_str (pa_cons pe_str pa_nil))) (pv 4) (fun _ _ => rfl)) (pa_cons (pv 6) pa_nil)))))) pss_nil)
      (pss_cons (ps_set (i := 6) sc__law_bit_term.nd rfl (Or.inl rfl) (pe_call D__law_term.ok (hr.mono (by omega)) (by rfl) D__law_term.g D__law_term.kp D__law_term.b .nil pass0 (pa_cons (pv 0) (pa_cons (pv 1) (pa_cons (pv 5) (pa_cons (pe_op op_sub (pv 2) pe_int) (pa_cons (pv 3) pa_nil)))))))
      (pss_one (ps_ret (pe_tup (pa_cons (pe_ix ix_list (pe_lst (pa_cons pe_str (pa_cons pe_str pa_nil))) (pe_op op_sub (pv 4) pe_int) (fun _ _ => rfl)) (pa_cons (pv 6) (pa_cons (pe_call D__law_term.ok (hr.mono (by omega)) (by rfl) D__law_term.g D__law_term.kp D__law_term.b .nil pass0 (pa_cons (pv 0) (pa_cons (pv 1) (pa_cons (pv 5) (pa_cons (pe_op op_sub (pv 2) pe_int) (pa_cons (pv 3) pa_nil)))))) pa_nil)))))))))), ?_⟩
    refine p_asg (evp_take rfl (by decide) (by decide)) hP fun v H1 e1 hP1 hv => ?_
    obtain ⟨way, rfl, w0, w1⟩ := hv
    refine p_asg (evp_add (evp_take rfl (by decide) (by decide))) hP1 fun v H2 e2 hP2 hv => ?_
    obtain ⟨m, rfl, m1, m8⟩ := hv
    obtain ⟨m, rfl⟩ := Int.eq_ofNat_of_zero_le (by omega : 0 ≤ m)
    have x2 : ExB p H H2 := e1.trans e2
    have hW2 : WsAt H2 qd ws := hW.exB hP x2
    have nr : r ≠ p := pot_room hP (RoomAt.is hR)
    have hR2 := x2 _ _ nr hR
    refine q_when (et_test (ev_op (ev_var rfl) ev_c rv_I0)) (fun hb H3 e3 => ?_) (fun hb H3 e3 => ?_)
    · have hb := of_decide_eq_true hb
      refine ⟨_, rfl, _, rfl, _, rfl, _, rfl, _, _, rfl, rfl, _, rfl, prev_of ⟨n', hn', p, qd, r, m, R, ws, by rw [← hn1]; rfl, hP2.ex e3, hW2.ex e3, e3 _ _ hR2, hok, hz, by omega, by omega, fun H4 v4 t4 c4 o => ?_⟩⟩
      have eC : ExC p r H H4 := ((ExC.ofB x2).trans (ExC.of e3)).trans o.ex
      have a1 := o.c0
      have a2 := o.cR
      have a3 := o.dp
      have a4 := o.wt
      refine ⟨by show 2 ≤ sizeLine; decide, fun l nl => ?_⟩
      have f1 := Ex.new (o := .lst [V.str "any", .str "all"]) nl
      have g1 := upd_same (H := H4) (a := l) (o := .lst [V.str "any", .str "all"])
      generalize L2.upd H4 l (.lst [V.str "any", .str "all"]) = H5 at f1 g1 ⊢
      obtain ⟨w, hw⟩ := Int.eq_ofNat_of_zero_le w0
      have hw2 : w = 0 ∨ w = 1 := by omega
      rcases hw2 with rfl | rfl
      · refine ⟨_, rfl, l, _, _, _, rfl, rfl, sq_of g1, (by rw [hw]; exact atI_nat (j := 0) rfl), _, rfl, by show 2 ≤ sizeLine; decide, fun b nb => ?_⟩
        have f2 := f1.trans (Ex.new (o := .tup [V.str "any", v4]) nb)
        exact q _ _ (.un .any t4) c4 ⟨eC.trans (ExC.of f2), o.pot.ex f2, f2 _ _ o.room, by omega, ⟨b, v4, rfl, upd_same, o.tm.ex f2⟩, ⟨rfl, m, o.wd⟩, by simp only [dep]; omega, by simp only [wt]; omega⟩
      · refine ⟨_, rfl, l, _, _, _, rfl, rfl, sq_of g1, (by rw [hw]; exact atI_nat (j := 1) rfl), _, rfl, by show 2 ≤ sizeLine; decide, fun b nb => ?_⟩
        have f2 := f1.trans (Ex.new (o := .tup [V.str "all", v4]) nb)
        exact q _ _ (.un .all t4) c4 ⟨eC.trans (ExC.of f2), o.pot.ex f2, f2 _ _ o.room, by omega, ⟨b, v4, rfl, upd_same, o.tm.ex f2⟩, ⟨rfl, m, o.wd⟩, by simp only [dep]; omega, by simp only [wt]; omega⟩
    · have hb := of_decide_eq_false hb
      refine ⟨_, rfl, _, rfl, _, rfl, _, rfl, _, _, rfl, rfl, _, rfl, prev_of ⟨n', hn', p, qd, r, m, R, ws, by rw [← hn1]; rfl, hP2.ex e3, hW2.ex e3, e3 _ _ hR2, hok, hz, by omega, by omega, fun H4 v4 t4 c4 o => ?_⟩⟩
      have eC : ExC p r H H4 := ((ExC.ofB x2).trans (ExC.of e3)).trans o.ex
      have hW4 : WsAt H4 qd ws := hW.exC hP (RoomAt.is hR) eC
      refine ⟨by show 2 ≤ sizeLine; decide, fun l nl => ?_⟩
      have f1 := Ex.new (o := .lst [V.str "same", .str "less"]) nl
      have g1 := upd_same (H := H4) (a := l) (o := .lst [V.str "same", .str "less"])
      generalize L2.upd H4 l (.lst [V.str "same", .str "less"]) = H5 at f1 g1 ⊢
      obtain ⟨w, hw⟩ := Int.eq_ofNat_of_zero_le (by omega : 0 ≤ way - 2)
      have hw2 : w = 0 ∨ w = 1 := by omega
      rcases hw2 with rfl | rfl
      · refine ⟨_, rfl, _, _, rfl, rfl, l, _, _, _, rfl, rfl, sq_of g1, (by rw [hw]; exact atI_nat (j := 0) rfl), _, rfl, ?_⟩
        refine ⟨_, rfl, _, rfl, _, rfl, _, rfl, _, _, rfl, rfl, _, rfl, prev_of ⟨n', hn', p, qd, r, m, R - (c4 : Int), ws, by rw [← hn1]; rfl, o.pot.ex f1, hW4.ex f1, f1 _ _ o.room, hok, hz, by omega, by omega, fun H6 v6 t6 c6 o2 => ?_⟩⟩
        have a1 := o.c0
        have a2 := o.cR
        have a3 := o.dp
        have a4 := o.wt
        have b1 := o2.c0
        have b2 := o2.cR
        have b3 := o2.dp
        have b4 := o2.wt
        have eT := ExT.ofC (o.pot.ex f1) (RoomAt.is (f1 _ _ o.room)) o2.ex
        refine ⟨by show 3 ≤ sizeLine; decide, fun b nb => ?_⟩
        have f2 := (Ex.new (o := .tup [V.str "same", v4, v6]) nb)
        refine q _ _ (.bi .same t4 t6) (c4 + c6) ⟨((eC.trans (ExC.of f1)).trans o2.ex).trans (ExC.of f2), o2.pot.ex f2, ?_, by omega, ⟨b, v4, v6, rfl, upd_same, TmAt.mono ((ExT.of f1).trans (eT.trans (ExT.of f2))) o.tm, o2.tm.ex f2⟩, ⟨rfl, m, o.wd, o2.wd⟩, by simp only [dep]; omega, by simp only [wt]; omega⟩
        rw [show R - ((c4 + c6 : Nat) : Int) = R - (c4 : Int) - (c6 : Int) by omega]
        exact f2 _ _ o2.room
      · refine ⟨_, rfl, _, _, rfl, rfl, l, _, _, _, rfl, rfl, sq_of g1, (by rw [hw]; exact atI_nat (j := 1) rfl), _, rfl, ?_⟩
        refine ⟨_, rfl, _, rfl, _, rfl, _, rfl, _, _, rfl, rfl, _, rfl, prev_of ⟨n', hn', p, qd, r, m, R - (c4 : Int), ws, by rw [← hn1]; rfl, o.pot.ex f1, hW4.ex f1, f1 _ _ o.room, hok, hz, by omega, by omega, fun H6 v6 t6 c6 o2 => ?_⟩⟩
        have a1 := o.c0
        have a2 := o.cR
        have a3 := o.dp
        have a4 := o.wt
        have b1 := o2.c0
        have b2 := o2.cR
        have b3 := o2.dp
        have b4 := o2.wt
        have eT := ExT.ofC (o.pot.ex f1) (RoomAt.is (f1 _ _ o.room)) o2.ex
        refine ⟨by show 3 ≤ sizeLine; decide, fun b nb => ?_⟩
        have f2 := (Ex.new (o := .tup [V.str "less", v4, v6]) nb)
        refine q _ _ (.bi .less t4 t6) (c4 + c6) ⟨((eC.trans (ExC.of f1)).trans o2.ex).trans (ExC.of f2), o2.pot.ex f2, ?_, by omega, ⟨b, v4, v6, rfl, upd_same, TmAt.mono ((ExT.of f1).trans (eT.trans (ExT.of f2))) o.tm, o2.tm.ex f2⟩, ⟨rfl, m, o.wd, o2.wd⟩, by simp only [dep]; omega, by simp only [wt]; omega⟩
        rw [show R - ((c4 + c6 : Nat) : Int) = R - (c4 : Int) - (c6 : Int) by omega]
        exact f2 _ _ o2.room
theorem ok__law_term {f f1 f2 f3 f4 : Addr} {fd fd1 fd2 fd3 fd4 : FuncData} (F : Fun K "_law_term" "_law_term" s__law_term f fd) (B : Bi K w mg dG dW dK a_NoValue a_NoNumber a_NoTerm a_NoText a_NoRow a_WireError) {n k : Nat} (hk : 3 ≤ k) (D__law_take : Df P w K mg base CX0 "_law_take" 1 f1 fd1 ["_law_pot_here", "_law_many"] (spTake)) (D__law_leaf : Df P w K mg base CX0 "_law_leaf" 3 f2 fd2 ["_law_pot_here", "_law_widths", "_law_width"] (spLeaf)) (D__law_bit_term : Df P w K mg base CX0 "_law_bit_term" (k + 1) f3 fd3 ["_law_pot_here", "_law_widths", "_law_deep", "_law_room"] (spBitT n)) (D__law_term : Df P w K mg base CX0 "_law_term" (k) f4 fd4 ["_law_pot_here", "_law_widths", "_law_width", "_law_deep", "_law_room"] (spPrev n)) : FnOk P w K mg base CX0 (k + 2) f fd ["_law_pot_here", "_law_widths", "_law_width", "_law_deep", "_law_room"] (spTerm n) := by
  refine F.ok sc__law_term (fun vs H Q E h => ?_) (fun cdv A outer s H vs Q E hr h => ?_)
  · obtain ⟨p, qd, r, m, R, ws, rfl, _⟩ := h
    all_goals rfl
  · obtain ⟨p, qd, r, m, R, ws, rfl, hP, hW, hR, hok, hz, m1, m8, q⟩ := h
    refine ⟨_, (pss_cons (ps_asg (pe_op op_sub (pe_ix ix_list (pv 4) pe_int (fun _ _ => rfl)) pe_int) (pg_sub (pv 4) pe_int set_list))
      (pss_cons (ps_if (PW.pt (pw_or (pt_cmpR op_eq (pv 3) pe_int (nomark _)) (pw_or (pt_cmpR op_lt (pe_ix ix_list (pv 4) pe_int (fun _ _ => rfl)) pe_int (nomark _)) (pw_or1 (pt_cmpR op_eq (pe_call D__law_take.ok (hr.mono (by omega)) (by rfl) D__law_take.g D__law_take.kp D__law_take.b .nil pass0 (pa_cons (pv 0) (pa_cons pe_int pa_nil))) pe_int (nomark _)))))) (pss_one (ps_ret (pe_call D__law_leaf.ok (hr.mono (by omega)) (by rfl) D__law_leaf.g D__law_leaf.kp D__law_leaf.b .nil pass0 (pa_cons (pv 0) (pa_cons (pv 1) (pa_cons (pv 2) pa_nil)))))) pss_nil)
      (pss_cons (ps_set (i := 5) sc__law_term.nd rfl (Or.inl rfl) (pe_call D__law_take.ok (hr.mono (by omega)) (by rfl) D__law_take.g D__law_take.kp D__law_take.b .nil pass0 (pa_cons (pv 0) (pa_cons pe_int pa_nil))))
      (pss_cons (ps_if (PW.pt (pw_and (pt_cmpR op_eq (pv 2) pe_int (nomark _)) (pw_and1 (pt_cmpR op_lt (pv 5) pe_int (nomark _))))) (pss_one (ps_ret (pe_call D__law_bit_term.ok (hr.mono (by omega)) (by rfl) D__law_bit_term.g D__law_bit_term.kp D__law_bit_term.b .nil pass0 (pa_cons (pv 0) (pa_cons (pv 1) (pa_cons (pv 3) (pa_cons (pv 4) pa_nil))))))) pss_nil)
      (pss_cons (ps_if (pt_cmpR op_eq (pv 5) pe_int (nomark _)) (pss_one (ps_ret (pe_tup (pa_cons pe_str (pa_cons (pe_call D__law_term.ok (hr.mono (by omega)) (by rfl) D__law_term.g D__law_term.kp D__law_term.b .nil pass0 (pa_cons (pv 0) (pa_cons (pv 1) (pa_cons (pv 2) (pa_cons (pe_op op_sub (pv 3) pe_int) (pa_cons (pv 4) pa_nil)))))) pa_nil))))) pss_nil)
      (pss_cons (ps_if (pt_cmpR op_eq (pv 5) pe_int (nomark _)) (pss_cons (ps_set (i := 8) sc__law_term.nd rfl (Or.inl rfl) (pe_call D__law_term.ok (hr.mono (by omega)) (by rfl) D__law_term.g D__law_term.kp D__law_term.b .nil pass0 (pa_cons (pv 0) (pa_cons (pv 1) (pa_cons pe_int (pa_cons (pe_op op_sub (pv 3) pe_int) (pa_cons (pv 4) pa_nil)))))))
      (pss_cons (ps_set (i := 6) sc__law_term.nd rfl (Or.inl rfl) (pe_call D__law_term.ok (hr.mono (by omega)) (by rfl) D__law_term.g D__law_term.kp D__law_term.b .nil pass0 (pa_cons (pv 0) (pa_cons (pv 1) (pa_cons (pv 2) (pa_cons (pe_op op_sub (pv 3) pe_int) (pa_cons (pv 4) pa_nil)))))))
      (pss_one (ps_ret (pe_tup (pa_cons pe_str (pa_cons (pv 8) (pa_cons (pv 6) (pa_cons (pe_call D__law_term.ok (hr.mono (by omega)) (by rfl) D__law_term.g D__law_term.kp D__law_term.b .nil pass0 (pa_cons (pv 0) (pa_cons (pv 1) (pa_cons (pv 2) (pa_cons (pe_op op_sub (pv 3) pe_int) (pa_cons (pv 4) pa_nil)))))) pa_nil))))))))) pss_nil)
      (pss_cons (ps_if (PW.pt (pw_and (pt_cmpR op_eq (pv 5) pe_int (nomark _)) (pw_and1 (pt_cmpR op_gt (pv 2) pe_int (nomark _))))) (pss_cons (ps_set (i := 9) sc__law_term.nd rfl (Or.inl rfl) (pe_op op_add pe_int (pe_call D__law_take.ok (hr.mono (by omega)) (by rfl) D__law_take.g D__law_take.kp D__law_take.b .nil pass0 (pa_cons (pv 0) (pa_cons (pe_op op_sub (pv 2) pe_int) pa_nil)))))
      (pss_cons (ps_set (i := 6) sc__law_term.nd rfl (Or.inl rfl) (pe_call D__law_term.ok (hr.mono (by omega)) (by rfl) D__law_term.g D__law_term.kp D__law_term.b .nil pass0 (pa_cons (pv 0) (pa_cons (pv 1) (pa_cons (pv 9) (pa_cons (pe_op op_sub (pv 3) pe_int) (pa_cons (pv 4) pa_nil)))))))
      (pss_one (ps_ret (pe_tup (pa_cons pe_str (pa_cons (pv 6) (pa_cons (pe_call D__law_term.ok (hr.mono (by omega)) (by rfl) D__law_term.g D__law_term.kp D__law_term.b .nil pass0 (pa_cons (pv 0) (pa_cons (pv 1) (pa_cons (pe_op op_sub (pv 2) (pv 9)) (pa_cons (pe_op op_sub (pv 3) pe_int) (pa_cons (pv 4) pa_nil)))))) pa_nil)))))))) pss_nil)
      (pss_cons (ps_if (pt_cmpR op_eq (pv 5) pe_int (nomark _)) (pss_cons (ps_set (i := 10) sc__law_term.nd rfl (Or.inl rfl) (pe_op op_add (pv 2) (pe_call D__law_take.ok (hr.mono (by omega)) (by rfl) D__law_take.g D__law_take.kp D__law_take.b .nil pass0 (pa_cons (pv 0) (pa_cons (pe_op op_sub pe_int (pv 2)) pa_nil)))))
      (pss_cons (ps_set (i := 11) sc__law_term.nd rfl (Or.inl rfl) (pe_call D__law_take.ok (hr.mono (by omega)) (by rfl) D__law_take.g D__law_take.kp D__law_take.b .nil pass0 (pa_cons (pv 0) (pa_cons (pe_op op_add (pe_op op_sub (pv 10) (pv 2)) pe_int) pa_nil))))
      (pss_one (ps_ret (pe_tup (pa_cons pe_str (pa_cons (pe_call D__law_term.ok (hr.mono (by omega)) (by rfl) D__law_term.g D__law_term.kp D__law_term.b .nil pass0 (pa_cons (pv 0) (pa_cons (pv 1) (pa_cons (pv 10) (pa_cons (pe_op op_sub (pv 3) pe_int) (pa_cons (pv 4) pa_nil)))))) (pa_cons (pe_op op_sub (pe_op op_add (pv 11) (pv 2)) pe_int) (pa_cons (pv 11) pa_nil))))))))) pss_nil)
      (pss_cons (ps_set (i := 6) sc__law_term.nd rfl (Or.inl rfl) (pe_call D__law_term.ok (hr.mono (by omega)) (by rfl) D__law_term.g D__law_term.kp D__law_term.b .nil pass0 (pa_cons (pv 0) (pa_cons (pv 1) (pa_cons (pv 2) (pa_cons (pe_op op_sub (pv 3) pe_int) (pa_cons (pv 4) pa_nil)))))))
      (pss_cons (ps_set (i := 7) sc__law_term.nd rfl (Or.inl rfl) (pe_ix ix_list (pe_lst (pa_cons pe_str (pa_cons pe_str (pa_cons pe_str (pa_cons pe_str pa_nil))))) (pe_call D__law_take.ok (hr.mono (by omega)) (by rfl) D__law_take.g D__law_take.kp D__law_take.b .nil pass0 (pa_cons (pv 0) (pa_cons pe_int pa_nil))) (fun _ _ => rfl)))
      (pss_one (ps_ret (pe_tup (pa_cons (pv 7) (pa_cons (pv 6) (pa_cons (pe_call D__law_term.ok (hr.mono (by omega)) (by rfl) D__law_term.g D__law_term.kp D__law_term.b .nil pass0 (pa_cons (pv 0) (pa_cons (pv 1) (pa_cons (pv 2) (pa_cons (pe_op op_sub (pv 3) pe_int) (pa_cons (pv 4) pa_nil)))))) pa_nil)))))))))))))))), ?_⟩
    have nr : r ≠ p := pot_room hP (RoomAt.is hR)
    refine q_setL (j := 0) hR (ev_op (ev_op (ev_var rfl) ev_c (rv_ixL (sq_of hR) (atI_nat (j := 0) rfl))) ev_c rv_I0) (ev_var rfl) ev_c (by simp) fun H1 e1 => ?_
    have eA : ExC p r H (L2.upd H1 r (.lst [.int (R - 1)])) := (ExC.of e1).upd
    have hPA : PotAt (L2.upd H1 r (.lst [.int (R - 1)])) p := (hP.ex e1).upd nr
    have hRA : (L2.upd H1 r (.lst [.int (R - 1)])) r = some (.lst [.int (R - 1)]) := upd_same
    have hWA : WsAt (L2.upd H1 r (.lst [.int (R - 1)])) qd ws := hW.exC hP (RoomAt.is hR) eA
    show tSeq _ _ _ _ (L2.upd H1 r (.lst [.int (R - 1)]))
    generalize L2.upd H1 r (.lst [.int (R - 1)]) = HA at eA hPA hRA hWA ⊢
    refine p_when3 (b1 := decide (V.int (n : Int) = V.int 0)) (b2 := decide (R - 1 < 0)) (et_test (ev_op (ev_var rfl) ev_c (rv_eq rfl))) (et_test (ev_op (ev_op (ev_var rfl) ev_c (rv_ixL (sq_of hRA) (atI_nat (j := 0) rfl))) ev_c rv_I0)) (evp_take rfl (by decide) (by decide)) hPA (fun H2 e2 hP2 => ?_) (fun hb1 hb2 H2 e2 hP2 => ?_)
    · refine ⟨_, rfl, _, rfl, _, rfl, p, qd, m, ws, rfl, hP2, hWA.exB hPA e2, hok, hz, m1, m8, fun H3 v t e3 hP3 ht hwd hdp hwt => ?_⟩
      have hR3 : H3 r = some (.lst [.int (R - 1)]) := e3 _ _ nr (e2 _ _ nr hRA)
      exact q H3 v t 1 ⟨eA.trans (ExC.ofB (e2.trans e3)), hP3, hR3, by omega, fun _ => rfl, fun _ => by omega, ht, hwd, by omega, by omega⟩
    · have hb1 := of_decide_eq_false hb1
      have hb2 := of_decide_eq_false hb2
      obtain ⟨n', hn'⟩ : ∃ n', n = n' + 1 := ⟨n - 1, by
        have : n ≠ 0 := fun z => hb1 (by rw [z]; rfl)
        omega⟩
      have hn1 : (n : Int) - 1 = (n' : Int) := by omega
      refine p_asg (evp_take rfl (by decide) (by decide)) hP2 fun v H3 e3 hP3 hv => ?_
      obtain ⟨way, rfl, w0, w1⟩ := hv
      have eB : ExC p r H H3 := eA.trans (ExC.ofB (e2.trans e3))
      have hR3 : H3 r = some (.lst [.int (R - 1)]) := e3 _ _ nr (e2 _ _ nr hRA)
      have hW3 : WsAt H3 qd ws := hWA.exB hPA (e2.trans e3)
      clear eA hPA hRA hWA e2 hP2 e3
      refine q_when (et_and (et_test (ev_op (ev_var rfl) ev_c (rv_eq rfl))) fun _ => et_test (ev_op (ev_var rfl) ev_c rv_I0)) (fun hb H4 e4 => ?_) (fun _ H4 e4 => ?_)
      · rw [Bool.and_eq_true] at hb
        have hm : m = 1 := by
          have := V.int.inj (of_decide_eq_true hb.1)
          omega
        subst hm
        refine ⟨_, rfl, _, rfl, _, rfl, _, rfl, p, qd, r, R - 1, ws, rfl, by omega, hP3.ex e4, hW3.ex e4, e4 _ _ hR3, by omega, hok, hz, fun H5 v t c o => ?_⟩
        have o1 := o.cR
        have o2 := o.dp
        have o3 := o.wt
        refine q H5 v t (c + 1) ⟨(eB.trans (ExC.of e4)).trans o.ex, o.pot, ?_, by omega, fun _ => by omega, fun _ => by omega, o.tm, o.wd, o2, by omega⟩
        rw [show R - ((c + 1 : Nat) : Int) = R - 1 - (c : Int) by omega]
        exact o.room
      have eB := eB.trans (ExC.of e4)
      have hR3 := e4 _ _ hR3
      have hW3 := hW3.ex e4
      have hP3 := hP3.ex e4
      clear e4
      refine q_when (et_test (ev_op (ev_var rfl) ev_c (rv_eq rfl))) (fun hb H5 e5 => ?_) (fun _ H5 e5 => ?_)
      · refine ⟨_, rfl, _, rfl, _, rfl, _, rfl, _, _, rfl, rfl, _, rfl, prev_of ⟨n', hn', p, qd, r, m, R - 1, ws, by rw [← hn1]; rfl, hP3.ex e5, hW3.ex e5, e5 _ _ hR3, hok, hz, m1, m8, fun H6 v6 t6 c6 o => ?_⟩⟩
        have o0 := o.c0
        have oR := o.cR
        have od := o.dp
        have ow := o.wt
        have o1 := o.c1
        refine ⟨by show 2 ≤ sizeLine; decide, fun b nb => ?_⟩
        have f2 := (Ex.new (o := .tup [V.str "not", v6]) nb)
        refine q _ _ (.un .not t6) (c6 + 1) ⟨((eB.trans (ExC.of e5)).trans o.ex).trans (ExC.of f2), o.pot.ex f2, ?_, by omega, fun _ => by omega, fun _ => by omega, ⟨b, v6, rfl, upd_same, o.tm.ex f2⟩, o.wd, by simp only [dep]; omega, by simp only [wt]; omega⟩
        rw [show R - ((c6 + 1 : Nat) : Int) = R - 1 - (c6 : Int) by omega]
        exact f2 _ _ o.room
      have eB := eB.trans (ExC.of e5)
      have hR3 := e5 _ _ hR3
      have hW3 := hW3.ex e5
      have hP3 := hP3.ex e5
      clear e5
      refine q_when (et_test (ev_op (ev_var rfl) ev_c (rv_eq rfl))) (fun hb H6 e6 => ?_) (fun _ H6 e6 => ?_)
      · refine ⟨_, rfl, _, rfl, _, rfl, _, _, rfl, rfl, _, rfl, prev_of ⟨n', hn', p, qd, r, 1, R - 1, ws, by rw [← hn1]; rfl, hP3.ex e6, hW3.ex e6, e6 _ _ hR3, hok, hz, by omega, by omega, fun H7 v7 t7 c7 oa => ?_⟩⟩
        refine ⟨_, rfl, _, rfl, _, rfl, _, rfl, _, _, rfl, rfl, _, rfl, prev_of ⟨n', hn', p, qd, r, m, R - 1 - (c7 : Int), ws, by rw [← hn1]; rfl, oa.pot, (hW3.ex e6).exC (hP3.ex e6) (RoomAt.is (e6 _ _ hR3)) oa.ex, oa.room, hok, hz, m1, m8, fun H8 v8 t8 c8 ob => ?_⟩⟩
        refine ⟨_, rfl, _, rfl, ?_⟩
        refine ⟨_, rfl, _, rfl, _, rfl, _, rfl, _, _, rfl, rfl, _, rfl, prev_of ⟨n', hn', p, qd, r, m, R - 1 - (c7 : Int) - (c8 : Int), ws, by rw [← hn1]; rfl, ob.pot, ((hW3.ex e6).exC (hP3.ex e6) (RoomAt.is (e6 _ _ hR3)) oa.ex).exC oa.pot (RoomAt.is oa.room) ob.ex, ob.room, hok, hz, m1, m8, fun H9 v9 t9 c9 oc => ?_⟩⟩
        have oa0 := oa.c0
        have oaR := oa.cR
        have oad := oa.dp
        have oaw := oa.wt
        have oa1 := oa.c1
        have ob0 := ob.c0
        have obR := ob.cR
        have obd := ob.dp
        have obw := ob.wt
        have ob1 := ob.c1
        have oc0 := oc.c0
        have ocR := oc.cR
        have ocd := oc.dp
        have ocw := oc.wt
        have oc1 := oc.c1
        have eT2 := ExT.ofC oa.pot (RoomAt.is oa.room) ob.ex
        have eT3 := ExT.ofC ob.pot (RoomAt.is ob.room) oc.ex
        refine ⟨by show 4 ≤ sizeLine; decide, fun b nb => ?_⟩
        have f2 := (Ex.new (o := .tup [V.str "pick", v7, v8, v9]) nb)
        refine q _ _ (.pick t7 t8 t9) (c7 + c8 + c9 + 1) ⟨((((eB.trans (ExC.of e6)).trans oa.ex).trans ob.ex).trans oc.ex).trans (ExC.of f2), oc.pot.ex f2, ?_, by omega, fun _ => by omega, fun _ => by omega, ⟨b, v7, v8, v9, rfl, upd_same, TmAt.mono (eT2.trans (eT3.trans (ExT.of f2))) oa.tm, TmAt.mono (eT3.trans (ExT.of f2)) ob.tm, oc.tm.ex f2⟩, ⟨oa.wd, ob.wd, oc.wd⟩, by simp only [dep]; omega, by simp only [wt]; omega⟩
        rw [show R - ((c7 + c8 + c9 + 1 : Nat) : Int) = R - 1 - (c7 : Int) - (c8 : Int) - (c9 : Int) by omega]
        exact f2 _ _ oc.room
      have eB := eB.trans (ExC.of e6)
      have hR3 := e6 _ _ hR3
      have hW3 := hW3.ex e6
      have hP3 := hP3.ex e6
      clear e6
      refine q_when (et_and (et_test (ev_op (ev_var rfl) ev_c (rv_eq rfl))) fun _ => et_test (ev_op (ev_var rfl) ev_c rv_I0)) (fun hb H7 e7 => ?_) (fun _ H7 e7 => ?_)
      · rw [Bool.and_eq_true] at hb
        have hm := of_decide_eq_true hb.2
        refine p_asg (evp_add (evp_takeV (m := (m : Int) - 1) rfl (evp_of fun H8 _ => ev_op (ev_var rfl) ev_c rv_I0) (by omega) (by omega))) (hP3.ex e7) fun v H8 e8 hP8 hv => ?_
        obtain ⟨left, rfl, l0, l1⟩ := hv
        obtain ⟨left, rfl⟩ := Int.eq_ofNat_of_zero_le (by omega : 0 ≤ left)
        have eC := (eB.trans (ExC.of e7)).trans (ExC.ofB e8)
        have hR8 := e8 _ _ nr (e7 _ _ hR3)
        have hW8 := (hW3.ex e7).exB (hP3.ex e7) e8
        refine ⟨_, rfl, _, rfl, _, rfl, _, rfl, _, _, rfl, rfl, _, rfl, prev_of ⟨n', hn', p, qd, r, left, R - 1, ws, by rw [← hn1]; rfl, hP8, hW8, hR8, hok, hz, by omega, by omega, fun H9 va ta ca oa => ?_⟩⟩
        refine ⟨_, rfl, ?_⟩
        refine ⟨_, rfl, _, rfl, _, rfl, _, rfl, _, _, rfl, rfl, _, rfl, _, _, rfl, rfl, _, rfl, prev_of ⟨n', hn', p, qd, r, (m - left), R - 1 - (ca : Int), ws, by rw [← hn1, show ((m - left : Nat) : Int) = (m : Int) - (left : Int) by omega]; rfl, oa.pot, hW8.exC hP8 (RoomAt.is hR8) oa.ex, oa.room, hok, hz, by omega, by omega, fun H10 vb tb cb ob => ?_⟩⟩
        have oa0 := oa.c0
        have oaR := oa.cR
        have oad := oa.dp
        have oaw := oa.wt
        have oa1 := oa.c1
        have ob0 := ob.c0
        have obR := ob.cR
        have obd := ob.dp
        have obw := ob.wt
        have ob1 := ob.c1
        have eT2 := ExT.ofC oa.pot (RoomAt.is oa.room) ob.ex
        refine ⟨by show 3 ≤ sizeLine; decide, fun b nb => ?_⟩
        have f2 := (Ex.new (o := .tup [V.str "join", va, vb]) nb)
        refine q _ _ (.bi .join ta tb) (ca + cb + 1) ⟨(((eC.trans oa.ex).trans ob.ex)).trans (ExC.of f2), ob.pot.ex f2, ?_, by omega, fun _ => by omega, fun _ => by omega, ⟨b, va, vb, rfl, upd_same, TmAt.mono (eT2.trans (ExT.of f2)) oa.tm, ob.tm.ex f2⟩, ⟨m8, left, m - left, oa.wd, ob.wd, by omega⟩, by simp only [dep]; omega, by simp only [wt]; omega⟩
        rw [show R - ((ca + cb + 1 : Nat) : Int) = R - 1 - (ca : Int) - (cb : Int) by omega]
        exact f2 _ _ ob.room
      have eB := eB.trans (ExC.of e7)
      have hR3 := e7 _ _ hR3
      have hW3 := hW3.ex e7
      have hP3 := hP3.ex e7
      clear e7
      refine q_when (et_test (ev_op (ev_var rfl) ev_c (rv_eq rfl))) (fun hb H8 e8 => ?_) (fun _ H8 e8 => ?_)
      · refine p_asg (evp_addV (a := (m : Int)) (evp_var rfl) (evp_takeV (m := 9 - (m : Int)) rfl (evp_of fun H8 _ => ev_op ev_c (ev_var rfl) rv_I0) (by omega) (by omega))) (hP3.ex e8) fun v H9 e9 hP9 hv => ?_
        obtain ⟨whole, rfl, l0, l1⟩ := hv
        obtain ⟨whole, rfl⟩ := Int.eq_ofNat_of_zero_le (by omega : 0 ≤ whole)
        refine p_asg (evp_takeV (m := (whole : Int) - (m : Int) + 1) rfl (evp_of fun H8 _ => ev_op (ev_op (ev_var rfl) (ev_var rfl) rv_I0) ev_c rv_I0) (by omega) (by omega)) hP9 fun v H10 e10 hP10 hv => ?_
        obtain ⟨low, rfl, l2, l3⟩ := hv
        obtain ⟨low, rfl⟩ := Int.eq_ofNat_of_zero_le l2
        have eC := (eB.trans (ExC.of e8)).trans (ExC.ofB (e9.trans e10))
        have hR10 := e10 _ _ nr (e9 _ _ nr (e8 _ _ hR3))
        have hW10 := ((hW3.ex e8).exB (hP3.ex e8) e9).exB hP9 e10
        refine ⟨_, rfl, _, rfl, _, rfl, _, rfl, _, _, rfl, rfl, _, rfl, prev_of ⟨n', hn', p, qd, r, whole, R - 1, ws, by rw [← hn1]; rfl, hP10, hW10, hR10, hok, hz, by omega, by omega, fun H11 v6 t6 c6 o => ?_⟩⟩
        have o0 := o.c0
        have oR := o.cR
        have od := o.dp
        have ow := o.wt
        have o1 := o.c1
        refine ⟨_, rfl, _, rfl, _, _, rfl, rfl, _, _, rfl, rfl, _, rfl, by show 4 ≤ sizeLine; decide, fun b nb => ?_⟩
        have f2 := (Ex.new (o := .tup [V.str "part", v6, .int ((low : Int) + (m : Int) - 1), .int (low : Int)]) nb)
        refine q _ _ (.part t6 (low + m - 1) low) (c6 + 1) ⟨(eC.trans o.ex).trans (ExC.of f2), o.pot.ex f2, ?_, by omega, fun _ => by omega, fun _ => by omega, ⟨b, v6, rfl, ?_, o.tm.ex f2⟩, ⟨whole, o.wd, by omega, by omega, by omega⟩, by simp only [dep]; omega, by simp only [wt]; omega⟩
        · rw [show R - ((c6 + 1 : Nat) : Int) = R - 1 - (c6 : Int) by omega]
          exact f2 _ _ o.room
        · rw [show ((low + m - 1 : Nat) : Int) = (low : Int) + (m : Int) - 1 by omega]
          exact upd_same
      have eB := eB.trans (ExC.of e8)
      have hR3 := e8 _ _ hR3
      have hW3 := hW3.ex e8
      have hP3 := hP3.ex e8
      clear e8
      refine ⟨_, rfl, _, rfl, _, rfl, _, rfl, _, _, rfl, rfl, _, rfl, prev_of ⟨n', hn', p, qd, r, m, R - 1, ws, by rw [← hn1]; rfl, hP3, hW3, hR3, hok, hz, m1, m8, fun H9 va ta ca oa => ?_⟩⟩
      refine p_asg (evp_lit (K := K) (vs := [.str "and", .str "or", .str "xor", .str "plus"]) (fun _ => ea_cons ev_c (ea_cons ev_c (ea_cons ev_c (ea_cons ev_c ea_nil)))) (by decide) (evp_take rfl (by decide) (by decide))) oa.pot fun v HB eBB hPB hv => ?_
      have hRB := eBB _ _ nr oa.room
      have hWB := (hW3.exC hP3 (RoomAt.is hR3) oa.ex).exB oa.pot eBB
      refine ⟨_, rfl, _, rfl, ?_⟩
      refine ⟨_, rfl, _, rfl, _, rfl, _, rfl, _, _, rfl, rfl, _, rfl, prev_of ⟨n', hn', p, qd, r, m, R - 1 - (ca : Int), ws, by rw [← hn1]; rfl, hPB, hWB, hRB, hok, hz, m1, m8, fun HC vb tb cb ob => ?_⟩⟩
      have eT2 := (ExT.ofB oa.pot eBB).trans (ExT.ofC hPB (RoomAt.is hRB) ob.ex)
      have oa0 := oa.c0
      have oaR := oa.cR
      have oad := oa.dp
      have oaw := oa.wt
      have oa1 := oa.c1
      have ob0 := ob.c0
      have obR := ob.cR
      have obd := ob.dp
      have obw := ob.wt
      have ob1 := ob.c1
      refine ⟨by show 3 ≤ sizeLine; decide, fun b nb => ?_⟩
      have f2 := (Ex.new (o := .tup [v, va, vb]) nb)
      have hroom : (L2.upd HC b (.tup [v, va, vb])) r = some (.lst [.int (R - ((ca + cb + 1 : Nat) : Int))]) := by
        rw [show R - ((ca + cb + 1 : Nat) : Int) = R - 1 - (ca : Int) - (cb : Int) by omega]
        exact f2 _ _ ob.room
      have eF := ((eB.trans oa.ex).trans ((ExC.ofB eBB).trans ob.ex)).trans (ExC.of f2)
      have hw : ∃ w : W2, v = .str w.s ∧ (∀ t u k, Wd ws t k → Wd ws u k → Wd ws (.bi w t u) k) := by
        simp only [List.mem_cons, List.not_mem_nil, or_false] at hv
        rcases hv with rfl | rfl | rfl | rfl
        · exact ⟨.and, rfl, fun _ _ _ a b => ⟨a, b⟩⟩
        · exact ⟨.or, rfl, fun _ _ _ a b => ⟨a, b⟩⟩
        · exact ⟨.xor, rfl, fun _ _ _ a b => ⟨a, b⟩⟩
        · exact ⟨.plus, rfl, fun _ _ _ a b => ⟨a, b⟩⟩
      obtain ⟨w2, rfl, hw2⟩ := hw
      exact q _ _ (.bi w2 ta tb) (ca + cb + 1) ⟨eF, ob.pot.ex f2, hroom, by omega, fun _ => by omega, fun _ => by omega, ⟨b, va, vb, rfl, upd_same, TmAt.mono (eT2.trans (ExT.of f2)) oa.tm, ob.tm.ex f2⟩, hw2 _ _ _ oa.wd ob.wd, by simp only [dep]; omega, by simp only [wt]; omega⟩
theorem ok__law_is_name {f f1 : Addr} {fd fd1 : FuncData} (F : Fun K "_law_is_name" "_law_is_name" s__law_is_name f fd) (B : Bi K w mg dG dW dK a_NoValue a_NoNumber a_NoTerm a_NoText a_NoRow a_WireError)  (D__law_words : Df P w K mg base CX0 "_law_words" 1 f1 fd1 [] (spWords)) : FnOk P w K mg base CX0 (2) f fd ["_law_thing"] (spNameZ) := by
  refine F.ok sc__law_is_name (fun vs H Q E h => ?_) (fun cdv A outer s H vs Q E hr h => ?_)
  · obtain ⟨p, v, d, rfl, _⟩ := h
    all_goals rfl
  · obtain ⟨p, v, d, rfl, hd, hz, q⟩ := h
    refine ⟨_, (pss_cons (ps_set (i := 1) sc__law_is_name.nd rfl (Or.inr rfl) pe_str)
      (pss_cons (ps_if (PW.pt (pw_or (pt_not (pt_val (pe_callB call_isi (by rfl) B.isinstance (by decide +kernel) (pa_cons (pv 0) (pa_cons (pe_bltn (v := .ty "str") (by rfl) B.str (by decide +kernel) rfl) pa_nil))))) (pw_or (pt_cmpR op_in_seq (pv 0) (pe_call0 D__law_words.ok (hr.mono (by decide)) (by rfl) D__law_words.g D__law_words.kp D__law_words.b .nil pass0) rfl) (pw_or1 (pt_not (pt_chain op_le op_le pe_int (pe_callB call_len_str (by rfl) B.len PySem.boot_len (pa_cons (pv 0) pa_nil)) pe_int)))))) (pss_one (ps_ret pe_bl)) pss_nil)
      (pss_one (ps_ret (pe_and (pe_cmpR op_inS (pe_ix ix_str (pv 0) pe_int (fun _ _ => rfl)) (pv 1) rfl) (pe_one (pe_callB (cr_all rfl) (by rfl) B.all (by decide +kernel) (pa_cons (pe_lc (own := [("_law_sign", 2)]) (g := gName 2) (tt := tYes) (by rfl) sc__law_is_name.nd (pi_str (pv 0)) (blkOk_by (own := [("_law_sign", 2)]) (N := N__law_is_name) (sc := defScope s__law_is_name) (by decide +kernel)) (fun _ _ _ _ _ => pg_name (i := 2) sc__law_is_name.nd rfl (Or.inl rfl)) (fun _ _ _ _ _ => pts_nil) (fun _ _ _ _ _ => (pe_cmpR op_inS (pv 2) (pe_op op_add_str (pv 1) pe_str) rfl))) pa_nil)))))))), ?_⟩
    refine q_asg (v := .str (Tx lets)) (by rw [← s_lets]; exact ev_c) fun H0 e0 => ?_
    have hd0 := hd.ex e0
    by_cases hs : isZ "str" d = true
    · obtain ⟨l, rfl, rfl⟩ := hd.isStr hs
      have hl : l.length ≤ 39000 := by
        have : 1 + (Tx l).length ≤ 39000 := hz
        rw [Tx_len] at this
        omega
      have hnm : nameZ (.str (Tx l)) = nameL l := rfl
      rw [hnm] at q
      have hlen : ∀ {σ' : L2.St} {H1 : Hp}, σ'[0]? = some (some (.str (Tx l))) → Ev (tCB rLenT (tCons (tVar 0) tNil)) σ' H1 (.int (l.length : Int)) := fun h => ev_lenT (ev_var h) (by omega)
      refine q_when (b := !(isZ "str" (.str (Tx l))) || (decide (Tx l ∈ words17) || !(decide ((1 : Int) ≤ (l.length : Int)) && decide ((l.length : Int) ≤ 8)))) (et_or (et_not (et_B (ev_isZs (ev_var rfl) hd0))) fun _ => et_or (et_test (ev_inStrsN (ev_var rfl) (el_call ea_nil (fun H1 e1 Q1 q1 E1 => ⟨rfl, q1⟩)))) fun _ => et_not (et_test (ev_chain ev_c (hlen rfl) rv_I0 fun _ => ⟨ev_c, rv_I0⟩))) (fun hb H1 e1 => ?_) (fun hb H1 e1 => ?_)
      · have e0' : nameL l = false := by
          unfold nameL
          rw [hs] at hb
          simp only [Bool.not_true, Bool.false_or, Bool.or_eq_true] at hb
          rcases hb with hb | hb
          · have hm := of_decide_eq_true hb
            rw [words17_split] at hm
            rcases List.mem_append.mp hm with h | h
            · rw [decide_eq_true h]
              simp
            · rw [decide_eq_true h]
              simp
          · simp at hb
            by_cases h1 : 1 ≤ l.length
            · rw [decide_eq_false (by omega : ¬ l.length ≤ 8)]
              simp
            · rw [decide_eq_false h1]
              simp
        exact s_ret ev_c fun H2 e2 => by
          have q2 := q H2 (e0.trans (e1.trans e2))
          rw [e0'] at q2
          exact q2
      · rw [hs] at hb
        simp only [Bool.not_true, Bool.false_or, Bool.or_eq_false_iff] at hb
        obtain ⟨hb1, hb2⟩ := hb
        simp at hb2
        obtain ⟨c, r, rfl⟩ : ∃ c r, l = c :: r := by
          cases l with
          | nil => simp at hb2
          | cons c r => exact ⟨c, r, rfl⟩
        have hm := of_decide_eq_false hb1
        rw [words17_split] at hm
        have k1 : Tx (c :: r) ∉ words12 := fun z => hm (List.mem_append_left _ z)
        have k2 : Tx (c :: r) ∉ words5 := fun z => hm (List.mem_append_right _ z)
        have hL : EvL (tLc (iStr (tVar 0)) (gName 2) tYes (tOp rInS (tVar 2) (tOp (fun x y H Q => ∃ i j, x = .str i ∧ y = .str j ∧ i.length + j.length ≤ sizeLine ∧ Q (.str (i ++ j)) H) (tVar 1) (tC (.str (Str.ofString "0123456789"))))) [2]) [some (.str (Tx (c :: r))), some (.str (Tx lets)), none] H1 (((c :: r).map fun d => decide (d ∈ nsg)).map V.bl) := by
          rw [List.map_map]
          refine el_lcT1 _ (ev_var rfl) (by omega) (fun x => rfl) (fun d H3 _ _ => ?_)
          have g := ev_inS (σ := (wipe [some (.str (Tx (c :: r))), some (.str (Tx lets)), none] [2]).set 2 (some (V.str (Tx [d])))) (H := H3) (ta := tVar 2) (tb := tOp (fun x y H Q => ∃ i j, x = .str i ∧ y = .str j ∧ i.length + j.length ≤ sizeLine ∧ Q (.str (i ++ j)) H) (tVar 1) (tC (.str (Str.ofString "0123456789")))) (c := d) (w := Tx (lets ++ figs)) (ev_var rfl) (ev_addT (ev_var rfl) (by rw [← s_figs]; exact ev_c) (by decide))
          exact g
        refine s_ret (v := .bl (nameL (c :: r))) (ev_is (ev_andV (a := decide (c ∈ lets)) (b := ((c :: r).map fun d => decide (d ∈ nsg)).all id) (ev_is (ev_inS (c := c) (w := Tx lets) (ev_ixT (ev_var rfl) ev_c (by omega) (atI_nat (j := 0) rfl)) (ev_var rfl)) (by simp [Tx])) fun _ => ev_all hL) ?_) fun H3 e3 => q H3 (e0.trans (e1.trans e3))
        unfold nameL
        rw [decide_eq_true (by omega : 1 ≤ (c :: r).length), decide_eq_true (by omega : (c :: r).length ≤ 8), decide_eq_false k1, decide_eq_false k2, List.all_map]
        simp
    · have hs2 : isZ "str" d = false := by simpa using hs
      rw [(not_str hs2).1] at q
      refine q_when (b := true) (et_is (et_or (b := true) (et_not (et_B (ev_isZs (ev_var rfl) hd0))) fun hb => by rw [hs2] at hb; cases hb) (by rw [hs2]; rfl)) (fun _ H1 e1 => s_ret ev_c fun H2 e2 => q H2 (e0.trans (e1.trans e2))) (fun hb => by cases hb)
theorem ok__law_is_number {f  : Addr} {fd  : FuncData} (F : Fun K "_law_is_number" "_law_is_number" s__law_is_number f fd) (B : Bi K w mg dG dW dK a_NoValue a_NoNumber a_NoTerm a_NoText a_NoRow a_WireError)   : FnOk P w K mg base CX0 (1) f fd ["_law_thing", "_law_most"] (spNum) := by
  refine F.ok sc__law_is_number (fun vs H Q E h => ?_) (fun cdv A outer s H vs Q E hr h => ?_)
  · obtain ⟨p, v, d, m, rfl, _⟩ := h
    all_goals rfl
  · obtain ⟨p, v, d, m, rfl, hd, q⟩ := h
    refine ⟨_, (pss_one (ps_ret (pe_and (pe_callB call_isi (by rfl) B.isinstance (by decide +kernel) (pa_cons (pv 0) (pa_cons (pe_bltn (v := .ty "int") (by rfl) B.int (by decide +kernel) rfl) pa_nil))) (pe_and (pe_not (pe_callB call_isi (by rfl) B.isinstance (by decide +kernel) (pa_cons (pv 0) (pa_cons (pe_bltn (v := .ty "bool") (by rfl) B.bool (by decide +kernel) rfl) pa_nil)))) (pe_one (pe_chain op_le op_le pe_int (pv 0) (pv 1))))))), ?_⟩
    refine s_ret (v := .bl (numZ d m)) (ev_is (ev_andV (a := isZ "int" d) (b := !isZ "bool" d && numZ d m) (ev_isZi (ev_var rfl) hd) fun h1 => ev_andV (a := !isZ "bool" d) (b := numZ d m) (ev_notV (ev_isZb (ev_var rfl) hd)) fun h2 => ?_) (by cases d <;> rfl)) q
    obtain ⟨i, rfl, rfl⟩ := hd.isInt (by rw [← isZ_int, h1, h2]; rfl)
    exact ev_chain (k := decide (0 ≤ i)) (k2 := decide (i ≤ m)) ev_c (ev_var rfl) rv_I0 fun _ => ⟨ev_var rfl, rv_I0⟩
theorem ok__law_is_leaf {f f1 : Addr} {fd fd1 : FuncData} (F : Fun K "_law_is_leaf" "_law_is_leaf" s__law_is_leaf f fd) (B : Bi K w mg dG dW dK a_NoValue a_NoNumber a_NoTerm a_NoText a_NoRow a_WireError)  (D__law_is_name : Df P w K mg base CX0 "_law_is_name" 2 f1 fd1 ["_law_thing"] (spNameZ)) : FnOk P w K mg base CX0 (3) f fd ["_law_thing"] (spLeafZ) := by
  refine F.ok sc__law_is_leaf (fun vs H Q E h => ?_) (fun cdv A outer s H vs Q E hr h => ?_)
  · obtain ⟨p, a, w, xs, r, rfl, _⟩ := h
    all_goals rfl
  · obtain ⟨p, a, w, xs, r, rfl, ha, hall, hw, hz, q⟩ := h
    refine ⟨_, (pss_cons (ps_if (PW.pt (pw_or (pt_cmpR op_ne (pe_callB call_len_seq (by rfl) B.len PySem.boot_len (pa_cons (pv 0) pa_nil)) pe_int (nomark _)) (pw_or1 (pt_not (pt_val (pe_callB call_isi (by rfl) B.isinstance (by decide +kernel) (pa_cons (pe_ix ix_tup (pv 0) pe_int (fun _ _ => rfl)) (pa_cons (pe_bltn (v := .ty "str") (by rfl) B.str (by decide +kernel) rfl) pa_nil)))))))) (pss_one (ps_ret pe_bl)) pss_nil)
      (pss_cons (ps_if (pt_cmpR op_eq (pe_ix ix_tup (pv 0) pe_int (fun _ _ => rfl)) pe_str (nomark _)) (pss_one (ps_ret (pe_call D__law_is_name.ok (hr.mono (by decide)) (by rfl) D__law_is_name.g D__law_is_name.kp D__law_is_name.b .nil pass0 (pa_cons (pe_ix ix_tup (pv 0) pe_int (fun _ _ => rfl)) pa_nil)))) pss_nil)
      (pss_one (ps_ret (pe_and (pe_chain op_le op_le pe_int (pe_callB call_len_str (by rfl) B.len PySem.boot_len (pa_cons (pe_ix ix_tup (pv 0) pe_int (fun _ _ => rfl)) pa_nil)) pe_int) (pe_one (pe_callB (cr_all rfl) (by rfl) B.all (by decide +kernel) (pa_cons (pe_lc (own := [("_law_sign", 1)]) (g := gName 1) (tt := tYes) (by rfl) sc__law_is_leaf.nd (pi_str (pe_ix ix_tup (pv 0) pe_int (fun _ _ => rfl))) (blkOk_by (own := [("_law_sign", 1)]) (N := N__law_is_leaf) (sc := defScope s__law_is_leaf) (by decide +kernel)) (fun _ _ _ _ _ => pg_name (i := 1) sc__law_is_leaf.nd rfl (Or.inl rfl)) (fun _ _ _ _ _ => pts_nil) (fun _ _ _ _ _ => (pe_cmpR op_inS (pv 1) pe_str rfl))) pa_nil)))))))), ?_⟩
    have hlen := hall.len
    by_cases hl : r.length = 1
    · obtain ⟨d1, rfl⟩ : ∃ d1, r = [d1] := by
        match r, hl with
        | [d1], _ => exact ⟨d1, rfl⟩
      obtain ⟨x1, rfl, h1⟩ : ∃ x1, xs = [x1] ∧ Dz p H x1 d1 := by
        cases hall with
        | cons a1 a2 =>
          cases a2
          exact ⟨_, rfl, a1⟩
      have hz1 : mZ d1 ≤ 39000 := by simp only [mZs] at hz; omega
      have ix1 : ∀ {σ' : L2.St} {H1 : Hp}, σ'[0]? = some (some (.ref a)) → Ex H H1 → Ev (tOp (rIxT K) (tVar 0) (tC (.int 1))) σ' H1 x1 := fun h e => ev_op (ev_var h) ev_c (rv_ixT (st_of (e _ _ ha)) (atI_nat (j := 1) rfl))
      have hsh : shellZ (.tuple [.str w, d1]) = (if w = Str.ofString "of" then nameZ d1 else putZ d1) := by
        rcases hw with rfl | rfl
        · rw [shell_is rfl, if_neg (fun z => of_is z.symm)]
          rfl
        · rw [shell_of rfl, if_pos rfl]
          rfl
      rw [hsh] at q
      by_cases hs : isZ "str" d1 = true
      · obtain ⟨l, rfl, rfl⟩ := h1.isStr hs
        have hl2 : l.length ≤ 39000 := by
          have : 1 + (Tx l).length ≤ 39000 := hz1
          rw [Tx_len] at this
          omega
        refine q_when (b := false) (et_is (et_or (a := !decide (V.int ([V.str w, .str (Tx l)].length : Int) = V.int 2)) (b := !isZ "str" (.str (Tx l))) (et_test (ev_op (ev_lenU1 (ev_var rfl) ha) ev_c (rv_ne rfl))) fun _ => et_not (et_B (ev_isZs (ix1 rfl (Ex.refl _)) h1))) (by rw [hs]; rfl)) (fun hb => by cases hb) (fun _ H1 e1 => ?_)
        refine q_when (b := decide (V.str w = V.str (Str.ofString "of"))) (et_test (ev_op (ev_op (ev_var rfl) ev_c (rv_ixT (st_of (e1 _ _ ha)) (atI_nat (j := 0) rfl))) ev_c (rv_eq rfl))) (fun hb H2 e2 => ?_) (fun hb H2 e2 => ?_)
        · have hwo := V.str.inj (of_decide_eq_true hb)
          rw [if_pos hwo] at q
          exact s_ret (ev_call (vs := [.str (Tx l)]) (ea_cons (ix1 rfl (e1.trans e2)) ea_nil) (fun H3 e3 Q3 q3 E3 => ⟨p, .str (Tx l), .str (Tx l), rfl, h1.ex ((e1.trans e2).trans e3), hz1, q3⟩)) fun H3 e3 => q H3 ((e1.trans e2).trans e3)
        · rw [if_neg (fun z => of_decide_eq_false hb (by rw [z]))] at q
          have x2 := e1.trans e2
          have hL : EvL (tLc (iStr (tOp (rIxT K) (tVar 0) (tC (.int 1)))) (gName 1) tYes (tOp rInS (tVar 1) (tC (.str (Str.ofString "01x")))) [1]) (start N__law_is_leaf [.ref a]) H2 ((l.map fun c => decide (c ∈ [48, 49, 120])).map V.bl) := by
            rw [List.map_map]
            refine el_lcT1 _ (ix1 rfl x2) (by omega) (fun x => rfl) (fun c H3 _ _ => ?_)
            have g := ev_inS (σ := (wipe (start N__law_is_leaf [V.ref a]) [1]).set 1 (some (V.str (Tx [c])))) (H := H3) (ta := tVar 1) (tb := tC (.str (Str.ofString "01x"))) (c := c) (ev_var rfl) ev_c
            rw [s_01x] at g
            exact g
          refine s_ret (v := .bl (putL l)) (ev_is (ev_andV (a := decide ((1 : Int) ≤ (l.length : Int)) && decide ((l.length : Int) ≤ 8)) (b := (l.map fun c => decide (c ∈ [48, 49, 120])).all id) (ev_chain ev_c (ev_lenT (ix1 rfl x2) (by omega)) rv_I0 fun _ => ⟨ev_c, rv_I0⟩) fun _ => ev_all hL) ?_) fun H3 e3 => q H3 (x2.trans e3)
          unfold putL
          rw [List.all_map, decide_eq_decide.mpr (show (1 : Int) ≤ (l.length : Int) ↔ 1 ≤ l.length by omega), decide_eq_decide.mpr (show (l.length : Int) ≤ 8 ↔ l.length ≤ 8 by omega)]
          rfl
      · have hs2 : isZ "str" d1 = false := by simpa using hs
        have h0 : (if w = Str.ofString "of" then nameZ d1 else putZ d1) = false := by
          rw [(not_str hs2).1, (not_str hs2).2]
          split <;> rfl
        rw [h0] at q
        exact q_when (b := true) (et_is (et_or (a := !decide (V.int ([V.str w, x1].length : Int) = V.int 2)) (b := !isZ "str" d1) (et_test (ev_op (ev_lenU1 (ev_var rfl) ha) ev_c (rv_ne rfl))) fun _ => et_not (et_B (ev_isZs (ix1 rfl (Ex.refl _)) h1))) (by rw [hs2]; simp)) (fun _ H1 e1 => s_ret ev_c fun H2 e2 => q H2 (e1.trans e2)) (fun hb => by cases hb)
    · have h0 : shellZ (.tuple (.str w :: r)) = false := by
        match r, hl with
        | [], _ => exact shell_short (by simp)
        | [_], hl => exact absurd rfl hl
        | d1 :: d2 :: r', _ =>
          rcases hw with rfl | rfl
          · rw [shell_is rfl]
            simp
          · rw [shell_of rfl]
            simp
      rw [h0] at q
      have hb : (!decide (V.int ((V.str w :: xs).length : Int) = V.int 2)) = true := by
        rw [decide_eq_false]
        · rfl
        · intro z
          have := V.int.inj z
          simp only [List.length_cons] at this
          omega
      refine q_when (b := true) (et_is (et_or (a := !decide (V.int ((V.str w :: xs).length : Int) = V.int 2)) (b := true) (et_test (ev_op (ev_lenU1 (ev_var rfl) ha) ev_c (rv_ne rfl))) fun h => by rw [hb] at h; cases h) (by rw [hb]; rfl)) (fun _ H1 e1 => s_ret ev_c fun H2 e2 => q H2 (e1.trans e2)) (fun hb => by cases hb)
theorem ok__law_weight {f f1 f2 f3 f4 : Addr} {fd fd1 fd2 fd3 fd4 : FuncData} (F : Fun K "_law_weight" "_law_weight" s__law_weight f fd) (B : Bi K w mg dG dW dK a_NoValue a_NoNumber a_NoTerm a_NoText a_NoRow a_WireError) {n k : Nat} (hk : 3 ≤ k) (D__law_words : Df P w K mg base CX0 "_law_words" 1 f1 fd1 [] (spWords)) (D__law_is_number : Df P w K mg base CX0 "_law_is_number" 1 f2 fd2 ["_law_thing", "_law_most"] (spNum)) (D__law_is_leaf : Df P w K mg base CX0 "_law_is_leaf" 3 f3 fd3 ["_law_thing"] (spLeafZ)) (D__law_weight : Df P w K mg base CX0 "_law_weight" (k) f4 fd4 ["_law_thing", "_law_deep"] (spPrevW n)) : FnOk P w K mg base CX0 (k + 1) f fd ["_law_thing", "_law_deep"] (spWt n) := by
  refine F.ok sc__law_weight (fun vs H Q E h => ?_) (fun cdv A outer s H vs Q E hr h => ?_)
  · obtain ⟨p, v, d, rfl, _⟩ := h
    all_goals rfl
  · obtain ⟨p, v, d, rfl, hn, hd, hmz, q⟩ := h
    refine ⟨_, (pss_cons (ps_if (PW.pt (pw_or (pt_not (pt_val (pe_callB call_isi (by rfl) B.isinstance (by decide +kernel) (pa_cons (pv 0) (pa_cons (pe_bltn (v := .ty "tuple") (by rfl) B.tuple (by decide +kernel) rfl) pa_nil))))) (pw_or (pt_cmpR (op_eq0 hr.units) (pv 0) (pe_tup pa_nil) (nomark _)) (pw_or1 (pt_cmpR op_gt (pv 1) pe_int (nomark _)))))) (pss_one (ps_ret pe_int)) pss_nil)
      (pss_cons (ps_if (pt_cmpR (op_inZ hr.units) (pe_ix ix_tup (pv 0) pe_int (fun _ _ => rfl)) (pe_lst (pa_cons pe_str (pa_cons pe_str pa_nil))) rfl) (pss_one (ps_ret (pe_callTy call_int1 (by rfl) B.int (by decide +kernel) (pa_cons (pe_call D__law_is_leaf.ok (hr.mono (by omega)) (by rfl) D__law_is_leaf.g D__law_is_leaf.kp D__law_is_leaf.b .nil pass0 (pa_cons (pv 0) pa_nil)) pa_nil)))) pss_nil)
      (pss_cons (ps_set (i := 2) sc__law_weight.nd rfl (Or.inl rfl) (pe_disp (pps_cons pe_str pe_int (pps_cons pe_str pe_int (pps_cons pe_str pe_int (pps_cons pe_str pe_int (pps_cons pe_str pe_int pps_nil))))) (by rfl) (by rfl) (fun z => by cases z) (by decide)))
      (pss_cons (ps_if (PW.pt (pw_or (pt_not (pt_val (pe_callB call_isi (by rfl) B.isinstance (by decide +kernel) (pa_cons (pe_ix ix_tup (pv 0) pe_int (fun _ _ => rfl)) (pa_cons (pe_bltn (v := .ty "str") (by rfl) B.str (by decide +kernel) rfl) pa_nil))))) (pw_or1 (pt_cmpR op_notIn_seq (pe_ix ix_tup (pv 0) pe_int (fun _ _ => rfl)) (pe_slice sl_list (pe_call0 D__law_words.ok (hr.mono (by omega)) (by rfl) D__law_words.g D__law_words.kp D__law_words.b .nil pass0) po_none (po_some pe_int)) rfl)))) (pss_one (ps_ret pe_int)) pss_nil)
      (pss_cons (ps_set (i := 3) sc__law_weight.nd rfl (Or.inl rfl) (pe_slice sl_tupA (pv 0) (po_some pe_int) po_none))
      (pss_cons (ps_if (pt_cmpR op_eq (pe_ix ix_tup (pv 0) pe_int (fun _ _ => rfl)) pe_str (nomark _)) (pss_cons (ps_if (PW.pt (pw_or (pt_cmpR op_ne (pe_callB call_len_seq (by rfl) B.len PySem.boot_len (pa_cons (pv 0) pa_nil)) pe_int (nomark _)) (pw_or (pt_not (pt_val (pe_call D__law_is_number.ok (hr.mono (by omega)) (by rfl) D__law_is_number.g D__law_is_number.kp D__law_is_number.b .nil pass0 (pa_cons (pe_ix ix_tup (pv 0) pe_int (fun _ _ => rfl)) (pa_cons pe_int pa_nil))))) (pw_or1 (pt_not (pt_val (pe_call D__law_is_number.ok (hr.mono (by omega)) (by rfl) D__law_is_number.g D__law_is_number.kp D__law_is_number.b .nil pass0 (pa_cons (pe_ix ix_tup (pv 0) pe_int (fun _ _ => rfl)) (pa_cons (pe_ix ix_tup (pv 0) pe_int (fun _ _ => rfl)) pa_nil))))))))) (pss_one (ps_ret pe_int)) pss_nil)
      (pss_one (ps_set (i := 3) sc__law_weight.nd rfl (Or.inl rfl) (pe_slice sl_tupA (pv 0) (po_some pe_int) (po_some pe_int))))) pss_nil)
      (pss_cons (ps_if (pt_cmpR op_ne (pe_callB call_len_seq (by rfl) B.len PySem.boot_len (pa_cons (pv 3) pa_nil)) (pe_dget2 (hu_of hr) (pv 2) (pe_ix ix_tup (pv 0) pe_int (fun _ _ => rfl)) pe_int ⟨rfl, rfl, rfl, rfl⟩) (nomark _)) (pss_one (ps_ret pe_int)) pss_nil)
      (pss_cons (ps_setLc (i := 4) (own := [("_law_term_here", 5)]) (g := gName 5) (tt := tYes) (by rfl) sc__law_weight.nd rfl rfl (sw_true rfl rfl rfl (by decide +kernel)) (pi_tup (pv 3)) (blkOk_by (own := [("_law_term_here", 5)]) (N := N__law_weight) (sc := defScope s__law_weight) (by decide +kernel)) (fun _ _ _ _ _ => pg_name (i := 5) sc__law_weight.nd rfl (Or.inl rfl)) (fun _ _ _ _ _ => pts_nil) (fun _ _ _ _ _ => (pe_call D__law_weight.ok (hr.mono (by omega)) (by rfl) D__law_weight.g D__law_weight.kp D__law_weight.b .nil pass0 (pa_cons (pv 5) (pa_cons (pe_op op_add (pv 1) pe_int) pa_nil)))))
      (pss_one (ps_ret (pe_ifExp (pt_cmpR op_in_seq pe_int (pv 4) rfl) pe_int (pe_op op_add pe_int (pe_callB (cr_sum rfl) (by rfl) B.sum (by decide +kernel) (pa_cons (pv 4) pa_nil)))))))))))))), ?_⟩
    by_cases ht : isZ "tuple" d = true
    · obtain ⟨a, xs, ds, rfl, rfl, ha, hall⟩ := hd.isTup ht
      have hlen := hall.len
      have hmz' : 1 + mZs ds ≤ 39000 := hmz
      have hln := len_mZs ds
      by_cases hb0 : ds = [] ∨ n = 0
      · have h0 : wZ n (.tuple ds) = 0 := by
          rcases hb0 with h | h
          · rw [h]
            exact w_not (shell_short (by simp)) n
          · rw [h]
            rfl
        rw [h0] at q
        refine q_when (b := true) (et_is (et_or (a := !isZ "tuple" (.tuple ds)) (b := decide (xs = []) || decide ((11 - (n : Int)) > 10)) (et_not (et_B (ev_isZt (ev_var rfl) hd))) fun _ => et_or (et_test (ev_eq0 (ev_var rfl) ha)) fun _ => et_test (ev_op (ev_var rfl) ev_c rv_I0)) ?_) (fun _ H1 e1 => s_ret ev_c fun H2 e2 => q H2 (e1.trans e2)) (fun hb => by cases hb)
        rcases hb0 with h | h
        · have hx : xs = [] := List.eq_nil_of_length_eq_zero (by rw [hlen, h]; rfl)
          rw [decide_eq_true hx]
          simp
        · rw [h]
          simp
      · obtain ⟨d0, r, rfl⟩ : ∃ d0 r, ds = d0 :: r := by
          cases ds with
          | nil => exact absurd (Or.inl rfl) hb0
          | cons d0 r => exact ⟨d0, r, rfl⟩
        cases n with
        | zero => exact absurd (Or.inr rfl) hb0
        | succ n =>
        obtain ⟨x0, ys, rfl, h0, hr⟩ : ∃ x0 ys, xs = x0 :: ys ∧ Dz p H x0 d0 ∧ DzAll p H ys r := by
          cases hall with
          | cons a1 a2 => exact ⟨_, _, rfl, a1, a2⟩
        have hrl := hr.len
        have hmr : mZs r ≤ 39000 := by simp only [mZs] at hmz'; omega
        have hrn := len_mZs r
        have ix0 : ∀ {σ' : L2.St} {H1 : Hp}, σ'[0]? = some (some (.ref a)) → Ex H H1 → Ev (tOp (rIxT K) (tVar 0) (tC (.int 0))) σ' H1 x0 := fun h e => ev_op (ev_var h) ev_c (rv_ixT (st_of (e _ _ ha)) (atI_nat (j := 0) rfl))
        refine q_when (b := false) (et_is (et_or (a := !isZ "tuple" (.tuple (d0 :: r))) (b := decide (x0 :: ys = []) || decide ((11 - ((n + 1 : Nat) : Int)) > 10)) (et_not (et_B (ev_isZt (ev_var rfl) hd))) fun _ => et_or (et_test (ev_eq0 (ev_var rfl) ha)) fun _ => et_test (ev_op (ev_var rfl) ev_c rv_I0)) (by rw [ht, decide_eq_false (by simp), decide_eq_false (by omega)]; rfl)) (fun hb => by cases hb) (fun _ H1 e1 => ?_)
        refine q_when (b := inZ d0 [Str.ofString "is", Str.ofString "of"]) (et_test (ev_inZ (p := p) (d := d0) (ws := [Str.ofString "is", Str.ofString "of"]) (ix0 rfl e1) (h0.ex e1) (el_lst (ea_cons ev_c (ea_cons ev_c ea_nil)) (by simp)))) (fun hb H2 e2 => ?_) (fun hb H2 e2 => ?_)
        · have hs : isZ "str" d0 = true := by
            cases hs : isZ "str" d0 with
            | true => rfl
            | false => rw [inZ_no hs] at hb; cases hb
          obtain ⟨w, rfl, rfl⟩ := h0.isStr hs
          rw [inZ_str] at hb
          have hw : Tx w = Str.ofString "is" ∨ Tx w = Str.ofString "of" := by
            have := of_decide_eq_true hb
            simpa using this
          rw [w_leaf hw] at q
          have x2 := e1.trans e2
          refine s_ret (ev_int1 (b := shellZ (.tuple (.str (Tx w) :: r))) (ev_call (ea_cons (ev_var rfl) ea_nil) (fun H3 e3 Q3 q3 E3 => ⟨p, a, Tx w, ys, r, rfl, (x2.trans e3) _ _ ha, hr.ex (x2.trans e3), hw, hmr, q3⟩))) fun H3 e3 => ?_
          have q3 := q H3 (x2.trans e3)
          cases hsh : shellZ (.tuple (.str (Tx w) :: r)) with
          | true => rw [hsh] at q3; exact q3
          | false => rw [hsh] at q3; exact q3
        · refine fun dd ndd => ⟨upd_same, many5, rfl, by decide, ?_⟩
          refine g_name ?_
          have hdd : (L2.upd (L2.upd H2 dd (.dK [])) dd (.dK (mergeK [] many5))) dd = some (.dK (mergeK [] many5)) := upd_same
          have e3 : Ex H2 (L2.upd (L2.upd H2 dd (.dK [])) dd (.dK (mergeK [] many5))) := Ex.mut (Ex.new ndd) ndd
          generalize L2.upd (L2.upd H2 dd (.dK [])) dd (.dK (mergeK [] many5)) = H3 at hdd e3 ⊢
          dsimp only
          have x3 := e1.trans (e2.trans e3)
          by_cases hs : isZ "str" d0 = true
          · obtain ⟨w, rfl, rfl⟩ := h0.isStr hs
            rw [inZ_str] at hb
            have hwn := of_decide_eq_false hb
            have n1 : Tx w ≠ Str.ofString "is" := fun z => hwn (by rw [z]; simp)
            have n2 : Tx w ≠ Str.ofString "of" := fun z => hwn (by rw [z]; simp)
            refine q_when (b := !isZ "str" (.str (Tx w)) || !decide (Tx w ∈ words12)) (et_or (et_not (et_B (ev_isZs (ix0 rfl x3) (h0.ex x3)))) fun _ => et_test (ev_niStrsN (ix0 rfl x3) (by rw [← words17_cut]; exact el_slN (el_call ea_nil (fun H4 e4 Q4 q4 E4 => ⟨rfl, q4⟩)) eo_none (eo_some ev_c)))) (fun hc H4 e4 => ?_) (fun hc H4 e4 => ?_)
            · rw [hs] at hc
              have hni : Tx w ∉ words12 := by simpa using hc
              have hcn : argc (Tx w) = none := by
                cases hcc : argc (Tx w) with
                | none => rfl
                | some m =>
                  obtain ⟨_, _, hm⟩ := argc_le hcc
                  exact absurd (by rw [words12_arg]; exact List.mem_map.mpr ⟨_, hm, rfl⟩) hni
              rw [w_not (shell_none n1 n2 hcn)] at q
              exact s_ret ev_c fun H5 e5 => q H5 (x3.trans (e4.trans e5))
            · rw [hs] at hc
              have hmem : Tx w ∈ words12 := by simpa using hc
              obtain ⟨m, hcm⟩ : ∃ m, argc (Tx w) = some m := by
                cases hcc : argc (Tx w) with
                | none =>
                  have := argc_none hcc
                  rw [← words12_arg] at this
                  exact absurd hmem this
                | some m => exact ⟨m, rfl⟩
              obtain ⟨hm3, hm1, harg⟩ := argc_le hcm
              have x4 := x3.trans e4
              refine q_asgZ (xs := ys) (by
                have z := ez_sl (K := K) (σ := [some (.ref a), some (.int (11 - ((n + 1 : Nat) : Int))), some (.ref dd), none, none, none]) (te := tVar 0) (tlo := tPart (tC (.int 1))) (thi := tNoPart) (ev_var rfl) (eo_some ev_c) eo_none (x4 _ _ ha)
                rw [cut_behind] at z
                exact z) fun bT H5 e5 h5 => ?_
              have x5 := x4.trans e5
              have hdd5 := e5 _ _ (e4 _ _ hdd)
              refine q_ifN2 (b := decide (V.str (Tx w) = V.str (Str.ofString "part"))) (et_test (ev_op (ix0 rfl x5) ev_c (rv_eq rfl))) (fun σ' H' => Ex H H' ∧ H' dd = some (.dK (mergeK [] many5)) ∧ ∃ bT zs tsd, σ' = [some (.ref a), some (.int (11 - ((n + 1 : Nat) : Int))), some (.ref dd), some (.ref bT), none, none] ∧ H' bT = some (.tup zs) ∧ DzAll p H' zs tsd ∧ mZs tsd ≤ 39000 ∧ shellZ (.tuple (.str (Tx w) :: r)) = decide (tsd.length = m) ∧ (tsd.length = m → argsZ (.tuple (.str (Tx w) :: r)) = tsd))
                (fun hp H6 e6 N hN => ?_) (fun hp H6 e6 => ?_) (fun σ' H6 hv => ?_)
              · have hwp := V.str.inj (of_decide_eq_true hp)
                have x6 := x5.trans e6
                have hm11 : m = 1 := by
                  rw [hwp] at hcm
                  have : argc (Str.ofString "part") = some 1 := by decide +kernel
                  rw [this] at hcm
                  exact (Option.some.inj hcm).symm
                by_cases hl3 : r.length = 3
                · obtain ⟨d1, d2, d3, rfl⟩ : ∃ d1 d2 d3, r = [d1, d2, d3] := by
                    match r, hl3 with
                    | [d1, d2, d3], _ => exact ⟨d1, d2, d3, rfl⟩
                  obtain ⟨x1, y2, y3, rfl, h1, h2, h3⟩ : ∃ x1 y2 y3, ys = [x1, y2, y3] ∧ Dz p H x1 d1 ∧ Dz p H y2 d2 ∧ Dz p H y3 d3 := by
                    cases hr with
                    | cons a1 a2 =>
                      cases a2 with
                      | cons a3 a4 =>
                        cases a4 with
                        | cons a5 a6 =>
                          cases a6
                          exact ⟨_, _, _, rfl, a1, a3, a5⟩
                  have hsp : shellZ (.tuple [.str (Tx w), d1, d2, d3]) = spanZ d2 d3 := by
                    rw [shell_part hwp]
                    simp [span2]
                  have ix2 : ∀ {σ' : L2.St}, σ'[0]? = some (some (.ref a)) → Ev (tOp (rIxT K) (tVar 0) (tC (.int 2))) σ' H6 y2 := fun h => ev_op (ev_var h) ev_c (rv_ixT (st_of (x6 _ _ ha)) (atI_nat (j := 2) rfl))
                  have ix3 : ∀ {σ' : L2.St}, σ'[0]? = some (some (.ref a)) → Ev (tOp (rIxT K) (tVar 0) (tC (.int 3))) σ' H6 y3 := fun h => ev_op (ev_var h) ev_c (rv_ixT (st_of (x6 _ _ ha)) (atI_nat (j := 3) rfl))
                  refine q_when (b := !(numZ d2 7 && num3 d2 d3)) (et_is (et_or (a := !decide (V.int ([V.str (Tx w), x1, y2, y3].length : Int) = V.int 4)) (b := !(numZ d2 7 && num3 d2 d3)) (et_test (ev_op (ev_lenU1 (ev_var rfl) (x6 _ _ ha)) ev_c (rv_ne rfl))) fun _ => et_is (et_or (a := !numZ d2 7) (b := !num3 d2 d3) (et_not (et_B (ev_call (vs := [y2, .int 7]) (ea_cons (ix2 rfl) (ea_cons ev_c ea_nil)) (fun H7 e7 Q7 q7 E7 => ⟨p, y2, d2, 7, rfl, h2.ex (x6.trans e7), q7⟩)))) fun hnz => ?_) (by rw [Bool.not_and])) (by
                    have h4t : V.int ([V.str (Tx w), x1, y2, y3].length : Int) = V.int 4 := rfl
                    rw [decide_eq_true h4t]
                    rfl)) (fun hc H7 e7 => ?_) (fun hc H7 e7 => ?_)
                  · obtain ⟨i2, rfl, rfl⟩ : ∃ i, d2 = .int i ∧ y2 = .int i := by
                      cases h2 with
                      | int i => exact ⟨i, rfl, rfl⟩
                      | _ => exact absurd hnz (by simp [numZ])
                    exact et_not (et_B (ev_call (vs := [y3, .int i2]) (ea_cons (ix3 rfl) (ea_cons (ix2 rfl) ea_nil)) (fun H7 e7 Q7 q7 E7 => ⟨p, y3, d3, i2, rfl, h3.ex (x6.trans e7), q7⟩)))
                  · have hns := num_span3 d2 d3
                    have hsh0 : shellZ (.tuple [.str (Tx w), d1, d2, d3]) = false := by
                      rw [hsp, ← hns]
                      have : (numZ d2 7 && num3 d2 d3) = false := (Bool.not_eq_true' _).mp hc
                      rw [this, Bool.and_false]
                    rw [w_not hsh0] at q
                    exact s_ret ev_c fun H8 e8 => q H8 (x6.trans (e7.trans e8))
                  · have hns := num_span3 d2 d3
                    have hok : (numZ d2 7 && num3 d2 d3) = true := by
                      cases hq : (numZ d2 7 && num3 d2 d3) with
                      | true => rfl
                      | false => rw [hq] at hc; cases hc
                    have hwh : wholeZ d2 = true := by
                      cases d2 with
                      | int i => rfl
                      | _ => simp [numZ] at hok
                    have hsh1 : shellZ (.tuple [.str (Tx w), d1, d2, d3]) = true := by rw [hsp, ← hns, hok, hwh]; rfl
                    have x7 := x6.trans e7
                    refine s_asgZ (xs := [x1]) (by
                      have z := ez_sl (K := K) (σ := [some (.ref a), some (.int (11 - ((n + 1 : Nat) : Int))), some (.ref dd), some (.ref bT), none, none]) (te := tVar 0) (tlo := tPart (tC (.int 1))) (thi := tPart (tC (.int 2))) (ev_var rfl) (eo_some ev_c) (eo_some ev_c) (x7 _ _ ha)
                      have c : cutV [V.str (Tx w), x1, y2, y3] (some 1) (some 2) = [x1] := rfl
                      rw [c] at z
                      exact z) fun bU H8 e8 h8 => hN _ _ ⟨x7.trans e8, e8 _ _ (e7 _ _ (e6 _ _ hdd5)), bU, [x1], [d1], rfl, h8, .cons (h1.ex (x7.trans e8)) .nil, by simp only [mZs] at hmr ⊢; omega, ?_, fun _ => ?_⟩
                    · rw [hsh1, hm11]
                      rfl
                    · simp only [argsZ, if_neg (fun z : Tx w = Str.ofString "is" ∨ Tx w = Str.ofString "of" => z.elim n1 n2), hcm, Option.getD_some, hm11]
                      rfl
                · have hsh0 : shellZ (.tuple (.str (Tx w) :: r)) = false := by
                    cases r with
                    | nil => exact shell_short (by simp)
                    | cons d1 r' =>
                      rw [shell_part hwp, decide_eq_false (by simp only [List.length_cons] at hl3; omega)]
                      rfl
                  rw [w_not hsh0] at q
                  have hbt : (!decide (V.int ((V.str (Tx w) :: ys).length : Int) = V.int 4)) = true := by
                    rw [decide_eq_false]
                    · rfl
                    · intro z
                      have := V.int.inj z
                      simp only [List.length_cons] at this
                      omega
                  exact q_when (b := true) (et_is (et_or (a := !decide (V.int ((V.str (Tx w) :: ys).length : Int) = V.int 4)) (b := true) (et_test (ev_op (ev_lenU1 (ev_var rfl) (x6 _ _ ha)) ev_c (rv_ne rfl))) fun h => by rw [hbt] at h; cases h) (by rw [hbt]; rfl)) (fun _ H7 e7 => s_ret ev_c fun H8 e8 => q H8 (x6.trans (e7.trans e8))) (fun hb => by cases hb)
              · have n3 : Tx w ≠ Str.ofString "part" := fun z => of_decide_eq_false hp (by rw [z])
                exact ⟨x5.trans e6, e6 _ _ hdd5, bT, ys, r, rfl, e6 _ _ h5, hr.ex (x5.trans e6), hmr, shell_any n1 n2 n3 hcm, fun h => args_any n1 n2 hcm h⟩
              · obtain ⟨x6, hdd6, bT, zs, tsd, rfl, hbT, hz6, hmt, hshl, hargs⟩ := hv
                have hzl := hz6.len
                have htl := len_mZs tsd
                have hget : Ev (tDGet2 (tVar 2) (tOp (rIxT K) (tVar 0) (tC (.int 0))) (tC (.int 2))) [some (.ref a), some (.int (11 - ((n + 1 : Nat) : Int))), some (.ref dd), some (.ref bT), none, none] H6 (.int (m : Int)) := fun H7 e7 Q7 q7 => by
                  refine ⟨_, rfl, dd, rfl, .inl ⟨_, .inl (e7 _ _ hdd6)⟩, ?_⟩
                  refine (ix0 (σ' := [some (.ref a), some (.int (11 - ((n + 1 : Nat) : Int))), some (.ref dd), some (.ref bT), none, none]) rfl (x6.trans e7)) H7 (Ex.refl _) _ fun H8 e8 => ?_
                  refine ⟨_, DGet.k (k := Sum.inr (Tx w)) (e8 _ _ (e7 _ _ hdd6)), ?_⟩
                  rw [many_is _ harg]
                  exact q7 H8 e8
                refine q_when (b := !decide (V.int (zs.length : Int) = V.int (m : Int))) (et_test (ev_op (ev_lenU1 (ev_var rfl) hbT) hget (rv_ne rfl))) (fun hc H7 e7 => ?_) (fun hc H7 e7 => ?_)
                · have hne : tsd.length ≠ m := fun z => by
                    rw [decide_eq_true (by rw [hzl, z])] at hc
                    cases hc
                  rw [w_not (by rw [hshl, decide_eq_false hne])] at q
                  exact s_ret ev_c fun H8 e8 => q H8 (x6.trans (e7.trans e8))
                · have heq : tsd.length = m := by
                    have : decide (V.int (zs.length : Int) = V.int (m : Int)) = true := by simpa using hc
                    have := V.int.inj (of_decide_eq_true this)
                    omega
                  rw [w_is (by rw [hshl, decide_eq_true heq]), hargs heq] at q
                  have x7 := x6.trans e7
                  have hbT7 := e7 _ _ hbT
                  have hz7 := hz6.ex e7
                  have hwl : given zs.length (fun _ => true) (fun i => V.int ((wZ n (tsd.getD i .none) : Nat) : Int)) = ((tsd.map (wZ n)).map fun n : Nat => (n : Int)).map V.int := by
                    rw [hzl, List.map_map, List.map_map]
                    exact given_all tsd .none (V.int ∘ (fun n : Nat => (n : Int)) ∘ wZ n)
                  refine q_asgL (xs := ((tsd.map (wZ n)).map fun n : Nat => (n : Int)).map V.int) (by
                    rw [← hwl]
                    refine el_mapT _ (ev_var rfl) hbT7 (by omega) (fun x => rfl) (fun i x H8 e8 hi => ?_)
                    obtain ⟨c, hc, hcd⟩ := hz7.at hi
                    rw [show tsd.getD i .none = c by rw [List.getD_eq_getElem?_getD, hc]; rfl]
                    have hcm2 := mZs_mem (List.mem_of_getElem? hc)
                    refine ev_call (vs := [x, .int (11 - ((n + 1 : Nat) : Int) + 1)]) (ea_cons (ev_var rfl) (ea_cons (ev_op (ev_var rfl) ev_c rv_I0) ea_nil)) (fun H9 e9 Q9 q9 E9 => ?_)
                    exact ⟨p, x, c, by rw [show (11 - ((n + 1 : Nat) : Int) + 1) = 11 - (n : Int) by omega]; rfl, by omega, hcd.ex (e8.trans e9), by omega, q9⟩) fun gW H8 ng8 e8 h8 => ?_
                  have hin : EvT (tTest (tOp (rIn K false) (tC (.int 0)) (tVar 4))) [some (.ref a), some (.int (11 - ((n + 1 : Nat) : Int))), some (.ref dd), some (.ref bT), some (.ref gW), none] H8 (decide ((0 : Int) ∈ (tsd.map (wZ n)).map fun n : Nat => (n : Int))) := by
                    rw [← inV_ints]
                    exact et_test (ev_op ev_c (ev_var rfl) (rv_isL (sq_of h8) rfl (flat_ints _)))
                  refine s_ret (v := .int ((if 0 ∈ tsd.map (wZ n) then 0 else 1 + (tsd.map (wZ n)).sum : Nat) : Int)) (ev_if hin (fun hz => ?_) (fun hz => ?_)) fun H9 e9 => q H9 (x7.trans (e8.trans e9))
                  · rw [if_pos ((zero_int _).mp (of_decide_eq_true hz))]
                    exact ev_c
                  · rw [if_neg (fun z => of_decide_eq_false hz ((zero_int _).mpr z))]
                    refine ev_is (ev_op ev_c (ev_sumL (ev_var rfl) h8) rv_I0) ?_
                    rw [sum_int]
                    congr 1
          · have hs2 : isZ "str" d0 = false := by simpa using hs
            rw [w_not (shell_first hs2)] at q
            exact q_when (b := true) (et_is (et_or (b := true) (et_not (et_B (ev_isZs (ix0 rfl x3) (h0.ex x3)))) fun hb => by rw [hs2] at hb; cases hb) (by rw [hs2]; rfl)) (fun _ H4 e4 => s_ret ev_c fun H5 e5 => q H5 (x3.trans (e4.trans e5))) (fun hb => by cases hb)
    · have ht2 : isZ "tuple" d = false := by simpa using ht
      rw [w_not (not_tup ht2)] at q
      exact q_when (b := true) (et_is (et_or (b := true) (et_not (et_B (ev_isZt (ev_var rfl) hd))) fun hb => by rw [ht2] at hb; cases hb) (by rw [ht2]; rfl)) (fun _ H1 e1 => s_ret ev_c fun H2 e2 => q H2 (e1.trans e2)) (fun hb => by cases hb)
theorem ok__law_is_term {f f1 : Addr} {fd fd1 : FuncData} (F : Fun K "_law_is_term" "_law_is_term" s__law_is_term f fd) (B : Bi K w mg dG dW dK a_NoValue a_NoNumber a_NoTerm a_NoText a_NoRow a_WireError)  (D__law_weight : Df P w K mg base CX0 "_law_weight" 14 f1 fd1 ["_law_thing", "_law_deep"] (spWt 10)) : FnOk P w K mg base CX0 (15) f fd ["_law_thing"] (spTermZ) := by
  refine F.ok sc__law_is_term (fun vs H Q E h => ?_) (fun cdv A outer s H vs Q E hr h => ?_)
  · obtain ⟨p, v, d, rfl, _⟩ := h
    all_goals rfl
  · obtain ⟨p, v, d, rfl, hd, hz, q⟩ := h
    refine ⟨_, (pss_one (ps_ret (pe_chain op_le op_le pe_int (pe_call D__law_weight.ok (hr.mono (by decide)) (by rfl) D__law_weight.g D__law_weight.kp D__law_weight.b .nil pass0 (pa_cons (pv 0) (pa_cons pe_int pa_nil))) pe_int))), ?_⟩
    refine s_ret (v := .bl (termZ d)) (ev_is (ev_chain (k := decide ((1 : Int) ≤ (wZ 10 d : Int))) (k2 := decide ((wZ 10 d : Int) ≤ 60)) ev_c (ev_call (vs := [v, .int 1]) (ea_cons (ev_var rfl) (ea_cons ev_c ea_nil)) (fun H1 e1 Q1 q1 E1 => ⟨p, v, d, rfl, by decide, hd.ex e1, hz, q1⟩)) rv_I0 fun _ => ⟨ev_c, rv_I0⟩) ?_) q
    unfold termZ
    rw [decide_eq_decide.mpr (show (1 : Int) ≤ (wZ 10 d : Int) ↔ 1 ≤ wZ 10 d by omega), decide_eq_decide.mpr (show (wZ 10 d : Int) ≤ 60 ↔ wZ 10 d ≤ 60 by omega)]
theorem ok__law_text {f f1 : Addr} {fd fd1 : FuncData} (F : Fun K "_law_text" "_law_text" s__law_text f fd) (B : Bi K w mg dG dW dK a_NoValue a_NoNumber a_NoTerm a_NoText a_NoRow a_WireError) {n k : Nat} (hn : n ≤ 10) (hk : 1 ≤ k) (D__law_text : Df P w K mg base CX0 "_law_text" (k) f1 fd1 ["_law_term_here"] (spTT n)) : FnOk P w K mg base CX0 (k + 1) f fd ["_law_term_here"] (spTT (n + 1)) := by
  refine F.ok sc__law_text (fun vs H Q E h => ?_) (fun cdv A outer s H vs Q E hr h => ?_)
  · obtain ⟨v, t, rfl, _⟩ := h
    all_goals rfl
  · obtain ⟨v, t, rfl, hT, hd, hwt, hx, q⟩ := h
    refine ⟨_, (pss_cons (ps_set (i := 1) sc__law_text.nd rfl (Or.inl rfl) (pe_ix ix_tup (pv 0) pe_int (fun _ _ => rfl)))
      (pss_cons (ps_if (pt_cmpR op_eq (pv 1) pe_str (nomark _)) (pss_one (ps_ret (pe_op op_add_str pe_str (pe_ix ix_tup (pv 0) pe_int (fun _ _ => rfl))))) pss_nil)
      (pss_cons (ps_if (pt_cmpR op_eq (pv 1) pe_str (nomark _)) (pss_one (ps_ret (pe_ix ix_tup (pv 0) pe_int (fun _ _ => rfl)))) pss_nil)
      (pss_cons (ps_setLc (i := 2) (own := [("_law_one", 3)]) (g := gName 3) (tt := tYes) (by rfl) sc__law_text.nd rfl rfl (sw_true rfl rfl rfl (by decide +kernel)) (pi_tup (pe_slice sl_tup (pv 0) (po_some pe_int) po_none)) (blkOk_by (own := [("_law_one", 3)]) (N := N__law_text) (sc := defScope s__law_text) (by decide +kernel)) (fun _ _ _ _ _ => pg_name (i := 3) sc__law_text.nd rfl (Or.inl rfl)) (fun _ _ _ _ _ => pts_nil) (fun _ _ _ _ _ => by exact (pe_ifExp (pt_val (pe_callB (call_isiK (K := K) rfl) (by rfl) B.isinstance (by decide +kernel) (pa_cons (pv 3) (pa_cons (pe_bltn (v := .ty "tuple") (by rfl) B.tuple (by decide +kernel) rfl) pa_nil)))) (pe_call D__law_text.ok (hr.mono (by omega)) (by rfl) D__law_text.g D__law_text.kp D__law_text.b .nil pass0 (pa_cons (pv 3) pa_nil)) (pe_callTy call_str_int (by rfl) B.str (by decide +kernel) (pa_cons (pv 3) pa_nil)))))
      (pss_one (ps_ret (pe_op op_add_str (pe_op op_add_str (pe_op op_add_str (pv 1) pe_str) (pe_join pe_str (pv 2))) pe_str))))))), ?_⟩
    have tl := tx_len hx
    cases hlf : leafy t with
    | true =>
      cases t with
      | of x =>
        obtain ⟨a, rfl, ha⟩ := hT
        have hxx : Tx x.cps.toList = x := Tx_tl x
        refine q_asg (v := .str (Str.ofString "of")) (ev_op (ev_var rfl) ev_c (rv_ixT (st_of ha) (atI_nat (j := 0) rfl))) fun H1 e1 => ?_
        refine q_when (b := false) (et_is (et_test (ev_op (ev_var rfl) ev_c (rv_eq rfl))) (by decide +kernel)) (fun hb => by cases hb) (fun _ H2 e2 => ?_)
        refine q_when (b := true) (et_is (et_test (ev_op (ev_var rfl) ev_c (rv_eq rfl))) (by decide +kernel)) (fun _ H3 e3 => ?_) (fun hb => by cases hb)
        refine s_ret (v := .str x) (ev_op (ev_var rfl) ev_c (rv_ixT (st_of (e3 _ _ (e2 _ _ (e1 _ _ ha)))) (atI_nat (j := 1) rfl))) fun H4 e4 => ?_
        have q4 := q H4 (e1.trans (e2.trans (e3.trans e4)))
        rw [show txT (.of x) = x.cps.toList from rfl, hxx] at q4
        exact q4
      | is l =>
        obtain ⟨a, rfl, ha⟩ := hT
        refine q_asg (v := .str (Str.ofString "is")) (ev_op (ev_var rfl) ev_c (rv_ixT (st_of ha) (atI_nat (j := 0) rfl))) fun H1 e1 => ?_
        refine q_when (b := true) (et_is (et_test (ev_op (ev_var rfl) ev_c (rv_eq rfl))) (by decide +kernel)) (fun _ H2 e2 => ?_) (fun hb => by cases hb)
        have hl8 := hx.2.2
        refine s_ret (v := .str (Tx ([39] ++ l))) (ev_addT (a := [39]) (b := l) (by rw [s_cb4]; exact ev_c) (ev_op (ev_var rfl) ev_c (rv_ixT (st_of (e2 _ _ (e1 _ _ ha))) (atI_nat (j := 1) rfl))) (by simp; omega)) fun H3 e3 => q H3 (e1.trans (e2.trans e3))
      | un w a => cases hlf
      | bi w a b => cases hlf
      | pick c a b => cases hlf
      | part a hi lo => cases hlf
    | false =>
      obtain ⟨a, us, rfl, ha, hk⟩ := hT.open hlf
      have harg := kids_arg hlf
      have hlen := hk.len
      rw [hlen] at harg
      obtain ⟨n1, n2⟩ := argN_ok _ harg
      have k3l := kids_len t
      have e2l := ends_len t
      have wl := word_len _ harg
      have wl' : (wordOf t).cps.toList.length ≤ 4 := wl
      refine q_asg (v := .str (wordOf t)) (ev_op (ev_var rfl) ev_c (rv_ixT (st_of ha) (atI_nat (j := 0) rfl))) fun H1 e1 => ?_
      refine q_when (b := false) (et_is (et_test (ev_op (ev_var rfl) ev_c (rv_eq rfl))) (decide_eq_false fun z => n1 (V.str.inj z))) (fun hb => by cases hb) (fun _ H2 e2 => ?_)
      refine q_when (b := false) (et_is (et_test (ev_op (ev_var rfl) ev_c (rv_eq rfl))) (decide_eq_false fun z => n2 (V.str.inj z))) (fun hb => by cases hb) (fun _ H3 e3 => ?_)
      have x3 := e1.trans (e2.trans e3)
      have hel : (endsT t).length = (ends t).length := by cases t <;> rfl
      have hpl : ((kids t).map txT ++ endsT t).length = (us ++ ends t).length := by
        rw [List.length_append, List.length_append, List.length_map, hlen, hel]
      refine q_asgL (xs := (((kids t).map txT ++ endsT t).map Tx).map V.str) ?_ fun g H4 ng e4 hg => ?_
      · rw [List.map_map, ← given_all ((kids t).map txT ++ endsT t) [] (V.str ∘ Tx), hpl]
        refine el_lcNT (fun _ => true) (fun i => (V.str ∘ Tx) (((kids t).map txT ++ endsT t).getD i [])) (by
          have := eu_slT (K := K) (te := tVar 0) (σ := [some (.ref a), some (.str (wordOf t)), none, none]) (H := H3) (tlo := tPart (tC (.int 1))) (thi := tNoPart) (ev_var rfl) (eo_some ev_c) eo_none (st_of (x3 _ _ ha)) cut_not
          rw [cut_behind] at this
          exact this) (by rw [List.length_append]; omega) (fun x => rfl) (fun i x H4 e4 hi => et_yes) (fun i x H4 e4 hi _ => ?_)
        by_cases hiu : i < us.length
        · rw [List.getElem?_append_left hiu] at hi
          obtain ⟨s, hs, hst⟩ := hk.at hi
          have hsm := List.mem_of_getElem? hs
          have hds := dep_kids hsm
          have hws := wt_kids hsm
          have hgd : ((kids t).map txT ++ endsT t).getD i [] = txT s := by
            rw [List.getD_eq_getElem?_getD, List.getElem?_append_left (by rw [List.length_map]; omega), List.getElem?_map, hs]
            rfl
          rw [hgd]
          refine ev_if (b := true) (et_B (ev_isi (b := true) (ev_var rfl) ev_c fun H5 e5 => ?_)) (fun _ => ev_call (ea_cons (ev_var rfl) ea_nil) (spv_tt (hst.ex (x3.trans e4)) (by omega) (by omega) (hx.kids s hsm))) (fun hb => by cases hb)
          obtain ⟨a2, xs2, rfl, ha2⟩ := (hst.ex ((x3.trans e4).trans e5)).tup
          exact ⟨_, .base (.tup ha2), by decide +kernel⟩
        · rw [List.getElem?_append_right (by omega)] at hi
          obtain ⟨kk, rfl, hk7, hgd⟩ : ∃ kk : Nat, x = .int (kk : Int) ∧ kk ≤ 7 ∧ ((kids t).map txT ++ endsT t).getD i [] = [48 + kk] := by
            rw [List.getD_eq_getElem?_getD, List.getElem?_append_right (by rw [List.length_map]; omega), List.length_map, hlen]
            exact end_at hx hi
          rw [hgd]
          exact ev_if (b := false) (et_B (ev_isi (b := false) (ev_var rfl) ev_c fun H5 e5 => ⟨_, .base (.int _), by decide +kernel⟩)) (fun hb => by cases hb) (fun _ => ev_strF (ev_var rfl) hk7)
      · have x4 := x3.trans e4
        have hbl : (txT t).length = (wordOf t).cps.toList.length + (bod true ((kids t).map txT ++ endsT t)).length + 1 := by
          rw [txT_open hlf, List.length_append, List.length_append]
          rfl
        have fin : ∀ {g2 : Addr} {H5 : Hp} {a3 : Option V}, Ex H H5 → H5 g2 = some (.lst ((((kids t).map txT ++ endsT t).map Tx).map V.str)) → tRet (tOp (fun x y H Q => ∃ i j, x = .str i ∧ y = .str j ∧ i.length + j.length ≤ sizeLine ∧ Q (.str (i ++ j)) H) (tOp (fun x y H Q => ∃ i j, x = .str i ∧ y = .str j ∧ i.length + j.length ≤ sizeLine ∧ Q (.str (i ++ j)) H) (tOp (fun x y H Q => ∃ i j, x = .str i ∧ y = .str j ∧ i.length + j.length ≤ sizeLine ∧ Q (.str (i ++ j)) H) (tVar 1) (tC (.str (Str.ofString "(")))) (tM1 (rJoinS K) (tC (.str (Str.ofString ", "))) (tVar 2))) (tC (.str (Str.ofString ")")))) { nx := fun x H' => Q V.non H', rt := Q } [some (.ref a), some (.str (wordOf t)), some (.ref g2), a3] H5 := fun {g2 H5 a3} x5 h5 => by
          have hne : ∃ y ys, (kids t).map txT ++ endsT t = y :: ys := by
            cases t with
            | un w a => exact ⟨_, _, rfl⟩
            | bi w a b => exact ⟨_, _, rfl⟩
            | pick c a b => exact ⟨_, _, rfl⟩
            | part a hi lo => exact ⟨_, _, rfl⟩
            | is l => cases hlf
            | of x => cases hlf
          obtain ⟨y, ys, hys⟩ := hne
          have hjl := bod_join y ys true
          have hb2 : (bod true (y :: ys)).length = 1 + (joinC (y :: ys)).length := by
            rw [hjl, List.length_append]
            rfl
          rw [hys] at hbl h5
          have hsum : ((y :: ys).map fun x => x.length + 2).sum ≤ 40000 := by
            rw [← hys]
            exact parts_sum hx hlf hwt
          have hwt2 : Tx (wordOf t).cps.toList = wordOf t := Tx_tl _
          refine s_ret (v := .str (Tx ((((wordOf t).cps.toList ++ [40]) ++ joinC (y :: ys)) ++ [41]))) (ev_addT (ev_addT (ev_addT (a := (wordOf t).cps.toList) (b := [40]) (by rw [hwt2]; exact ev_var rfl) (by rw [s_cb2]; exact ev_c) (by simp only [List.length_append, List.length_singleton]; omega)) (ev_joinC (ev_var rfl) (sq_of h5) hsum) (by simp only [List.length_append, List.length_singleton]; omega)) (by rw [s_cb3]; exact ev_c) (by simp only [List.length_append, List.length_singleton]; omega)) fun H6 e6 => ?_
          have q6 := q H6 (x5.trans e6)
          rw [txT_open hlf, hys, hjl] at q6
          simp only [if_true] at q6
          rw [← List.append_assoc] at q6
          exact q6
        exact fin x4 hg
theorem ok__law_tall {f f1 f2 : Addr} {fd fd1 fd2 : FuncData} (F : Fun K "_law_tall" "_law_tall" s__law_tall f fd) (B : Bi K w mg dG dW dK a_NoValue a_NoNumber a_NoTerm a_NoText a_NoRow a_WireError)  (D__law_take : Df P w K mg base CX0 "_law_take" 1 f1 fd1 ["_law_pot_here", "_law_many"] (spTake)) (D__law_name : Df P w K mg base CX0 "_law_name" 2 f2 fd2 ["_law_pot_here", "_law_taken"] (spName)) : FnOk P w K mg base CX0 (3) f fd ["_law_pot_here"] (spTmR) := by
  refine F.ok sc__law_tall (fun vs H Q E h => ?_) (fun cdv A outer s H vs Q E hr h => ?_)
  · obtain ⟨p, rfl, _⟩ := h
    all_goals rfl
  · obtain ⟨p, rfl, hP, q⟩ := h
    refine ⟨_, (pss_cons (ps_set (i := 1) sc__law_tall.nd rfl (Or.inl rfl) (pe_tup (pa_cons pe_str (pa_cons (pe_call D__law_name.ok (hr.mono (by decide)) (by rfl) D__law_name.g D__law_name.kp D__law_name.b .nil pass0 (pa_cons (pv 0) (pa_cons (pe_lst pa_nil) pa_nil))) pa_nil))))
      (pss_cons (ps_for PassesOwn.never rfl (pi_range1 (by rfl) B.range (pa_cons (pe_op op_add pe_int (pe_call D__law_take.ok (hr.mono (by decide)) (by rfl) D__law_take.g D__law_take.kp D__law_take.b .nil pass0 (pa_cons (pv 0) (pa_cons pe_int pa_nil)))) pa_nil)) (pg_name (i := 2) sc__law_tall.nd rfl (Or.inl rfl)) (pss_one (ps_set (i := 1) sc__law_tall.nd rfl (Or.inl rfl) (pe_tup (pa_cons (pe_ix ix_list (pe_lst (pa_cons pe_str (pa_cons pe_str (pa_cons pe_str pa_nil)))) (pe_call D__law_take.ok (hr.mono (by decide)) (by rfl) D__law_take.g D__law_take.kp D__law_take.b .nil pass0 (pa_cons (pv 0) (pa_cons pe_int pa_nil))) (fun _ _ => rfl)) (pa_cons (pv 1) pa_nil))))))
      (pss_one (ps_ret (pv 1))))), ?_⟩
    refine ⟨_, rfl, by show 0 ≤ sizeLine; decide, fun g ng => ?_⟩
    have f0 := Ex.new (o := .lst []) ng
    refine ⟨p, g, [], rfl, hP.ex f0, upd_same, by decide, fun H1 x e1 hP1 hx _ => ?_⟩
    refine ⟨by show 2 ≤ sizeLine; decide, fun b nb => ?_⟩
    have x1 := (ExB.of (p := p) f0).trans e1
    clear e1 f0
    have f2 := Ex.new (o := .tup [.str (Str.ofString "of"), .str x]) nb
    have g2 := upd_same (H := H1) (a := b) (o := .tup [.str (Str.ofString "of"), .str x])
    generalize L2.upd H1 b (.tup [.str (Str.ofString "of"), .str x]) = H2 at f2 g2 ⊢
    refine g_name ?_
    dsimp only
    have hP2 := hP1.ex f2
    refine p_forR1 (m := 9) ((evp_add (evp_take rfl (by decide) (by decide))).mono fun v _ h => ?_) (by decide) hP2 (fun i σ' H' => (∃ v a2, σ' = [some (.ref p), some v, a2] ∧ TmU (i + 1) v H') ∧ ExB p H H' ∧ PotAt H' p)
      (fun H5 e5 hP5 => ⟨⟨.ref b, none, rfl, .of x, ⟨b, rfl, e5 _ _ (hP2.ne' g2) g2⟩, hx, by simp [dep], by simp [wt]⟩, (x1.trans (ExB.of f2)).trans e5, hP5⟩) (fun i σ' H5 hi hv => ?_) (fun n σ' H5 hn hv => ?_)
    · obtain ⟨d, rfl, d0, d1⟩ := h
      exact ⟨d, rfl, by omega, by omega⟩
    · obtain ⟨⟨v, a5, rfl, hv⟩, x5, hP5⟩ := hv
      refine (evp_lit (p := p) (K := K) (H := H5) (vs := [.str "not", .str "any", .str "all"]) (fun _ => ea_cons ev_c (ea_cons ev_c (ea_cons ev_c ea_nil))) (by decide) (evp_take rfl (by decide) (by decide))) H5 (ExB.refl _ _) hP5 _ fun u H6 e6 hP6 hu => ?_
      refine ⟨_, rfl, by show 2 ≤ sizeLine; decide, fun b2 nb2 => ?_⟩
      have f3 := Ex.new (o := .tup [u, v]) nb2
      obtain ⟨t, ht, htx, hdp, hwt⟩ := hv.mono ((ExT.ofB hP5 e6).trans (ExT.of f3))
      obtain ⟨w1, rfl⟩ : ∃ w1 : W1, u = .str w1.s := by
        simp only [List.mem_cons, List.not_mem_nil, or_false] at hu
        rcases hu with rfl | rfl | rfl
        · exact ⟨.not, rfl⟩
        · exact ⟨.any, rfl⟩
        · exact ⟨.all, rfl⟩
      refine ⟨⟨.ref b2, _, rfl, .un w1 t, ⟨b2, v, rfl, upd_same, ht⟩, htx, ?_, ?_⟩, x5.trans (e6.trans (ExB.of f3)), hP6.ex f3⟩
      · simp only [dep]
        omega
      · simp only [wt]
        omega
    · obtain ⟨⟨v, a5, rfl, t, ht, htx, hdp, hwt⟩, x5, hP5⟩ := hv
      exact s_ret (ev_var rfl) fun H6 e6 => q H6 v (x5.trans (ExB.of e6)) (hP5.ex e6) ⟨t, ht.ex e6, htx, by omega, by omega⟩
theorem ok__law_wide {f f1 : Addr} {fd fd1 : FuncData} (F : Fun K "_law_wide" "_law_wide" s__law_wide f fd) (B : Bi K w mg dG dW dK a_NoValue a_NoNumber a_NoTerm a_NoText a_NoRow a_WireError)  (D__law_take : Df P w K mg base CX0 "_law_take" 1 f1 fd1 ["_law_pot_here", "_law_many"] (spTake)) : FnOk P w K mg base CX0 (2) f fd ["_law_pot_here"] (spTmR) := by
  refine F.ok sc__law_wide (fun vs H Q E h => ?_) (fun cdv A outer s H vs Q E hr h => ?_)
  · obtain ⟨p, rfl, _⟩ := h
    all_goals rfl
  · obtain ⟨p, rfl, hP, q⟩ := h
    refine ⟨_, (pss_cons (ps_set (i := 1) sc__law_wide.nd rfl (Or.inr rfl) (pe_lc (own := [("_law_k", 2)]) (g := gName 2) (tt := tYes) (by rfl) sc__law_wide.nd (pi_range1 (by rfl) B.range (pa_cons (pe_op op_add pe_int (pe_call D__law_take.ok (hr.mono (by decide)) (by rfl) D__law_take.g D__law_take.kp D__law_take.b .nil pass0 (pa_cons (pv 0) (pa_cons pe_int pa_nil)))) pa_nil)) (blkOk_by (own := [("_law_k", 2)]) (N := N__law_wide) (sc := defScope s__law_wide) (by decide +kernel)) (fun _ _ _ _ _ => pg_name (i := 2) sc__law_wide.nd rfl (Or.inl rfl)) (fun _ _ _ _ _ => pts_nil) (fun _ _ _ _ _ => (pe_tup (pa_cons pe_str (pa_cons (pe_ix ix_str pe_str (pe_call D__law_take.ok (hr.mono (by decide)) (by rfl) D__law_take.g D__law_take.kp D__law_take.b .nil pass0 (pa_cons (pv 0) (pa_cons pe_int pa_nil))) (fun _ _ => rfl)) pa_nil))))))
      (pss_cons (ps_while PassesOwn.never (pt_cmpR op_gt (pe_callB call_len_seq (by rfl) B.len PySem.boot_len (pa_cons (pv 1) pa_nil)) pe_int (nomark _)) (pss_one (ps_set (i := 1) sc__law_wide.nd rfl (Or.inr rfl) (pe_op op_cat (pe_lc (own := [("_law_k", 2)]) (g := gName 2) (tt := tYes) (by rfl) sc__law_wide.nd (pi_range3 (by rfl) B.range (pa_cons pe_int (pa_cons (pe_op op_sub (pe_callB call_len_seq (by rfl) B.len PySem.boot_len (pa_cons (pv 1) pa_nil)) pe_int) (pa_cons pe_int pa_nil)))) (blkOk_by (own := [("_law_k", 2)]) (N := N__law_wide) (sc := defScope s__law_wide) (by decide +kernel)) (fun _ _ _ _ _ => pg_name (i := 2) sc__law_wide.nd rfl (Or.inl rfl)) (fun _ _ _ _ _ => pts_nil) (fun _ _ _ _ _ => (pe_tup (pa_cons pe_str (pa_cons (pe_ix (ix_listK (K := K) rfl) (pv 1) (pv 2) (fun _ _ => rfl)) (pa_cons (pe_ix (ix_listK (K := K) rfl) (pv 1) (pe_op op_add (pv 2) pe_int) (fun _ _ => rfl)) pa_nil)))))) (pe_slice sl_list (pv 1) (po_some (pe_op op_sub (pe_callB call_len_seq (by rfl) B.len PySem.boot_len (pa_cons (pv 1) pa_nil)) (pe_op op_mod (pe_callB call_len_seq (by rfl) B.len PySem.boot_len (pa_cons (pv 1) pa_nil)) pe_int))) po_none)))))
      (pss_one (ps_ret (pe_ix ix_list (pv 1) pe_int (fun _ _ => rfl)))))), ?_⟩
    refine p_asgL (evp_lcR (lo := 28) (m := 30) (G := fun v H => ∃ t, (TmAt H t v ∧ TmTx t ∧ dep t ≤ 1) ∧ wt t = 1) ((evp_add (evp_take rfl (by decide) (by decide))).mono fun v _ h => ?_) (by decide) (by decide) (fun x => rfl) (fun i H4 e4 hi H5 e5 hP5 Q5 q5 => ?_) (fun v A B e h => ?_)) hP fun D xs H1 nD e1 hP1 hD hxs => ?_
    · obtain ⟨d, rfl, d0, d1⟩ := h
      exact ⟨d, rfl, by omega, by omega⟩
    · refine evp_sign (p := p) (l := [48, 49, 120]) (H := H5) (fun _ => by rw [← s_01x]; exact ev_c) (by decide) (evp_take rfl (by decide) (by decide)) H5 (ExB.refl _ _) hP5 _ fun u H6 e6 hP6 hu => ?_
      obtain ⟨c, hc, rfl⟩ := hu
      refine ⟨by show 2 ≤ sizeLine; decide, fun b2 nb2 => ?_⟩
      have f3 := Ex.new (o := .tup [.str (Str.ofString "is"), .str (Tx [c])]) nb2
      exact q5 _ _ (e6.trans (ExB.of f3)) (hP6.ex f3) ⟨.is [c], ⟨⟨b2, rfl, upd_same⟩, ⟨sx_one hc, by simp, by simp⟩, by simp [dep]⟩, rfl⟩
    · obtain ⟨t, ⟨h1, h2⟩, h3⟩ := h
      exact ⟨t, ⟨TmAt.mono e h1, h2⟩, h3⟩
    obtain ⟨hl1, hl2, hxs⟩ := hxs
    obtain ⟨ts, hts⟩ := all2_ex hxs
    have hw0 : wts ts = ts.length := by
      clear hl1 hl2 hxs hD
      induction hts with
      | nil => rfl
      | cons r _ ih =>
        unfold wts at ih ⊢
        rw [List.map_cons, List.sum_cons, ih, r.2, List.length_cons]
        omega
    have hR0 : RowAt 1 H1 ts xs := hts.map fun t v r => r.1
    have hln := hR0.len
    refine q_while (fun μ σ' H' => ∃ g xs ts j a2, μ = xs.length ∧ σ' = [some (.ref p), some (.ref g), a2] ∧ H' g = some (.lst xs) ∧ 0 < xs.length ∧ j ≤ 5 ∧ xs.length ≤ len30 j ∧ RowAt (1 + j) H' ts xs ∧ wts ts + ts.length ≤ 60 ∧ ExB p H H' ∧ PotAt H' p) xs.length ⟨D, xs, ts, 0, none, rfl, rfl, hD, by omega, by omega, by show xs.length ≤ 30; omega, hR0, by omega, e1, hP1⟩ (fun μ σ' H' hw => ?_)
    clear hR0 hw0 hts hxs hln hl1 hl2 hD e1 hP1
    obtain ⟨g, xs, ts, j, a2, rfl, rfl, hg, h0, hj, hlj, hts, hwt, x5, hP5⟩ := hw
    have hln := hts.len
    have h30 := len30_le j
    refine ⟨decide (1 < (xs.length : Int)), et_test (ev_op (ev_len (ev_var rfl) (sq_of hg)) ev_c rv_I0), fun hb H6 e6 => ?_, fun hb H6 e6 => ?_⟩
    · have hb := of_decide_eq_true hb
      have hL : 1 < xs.length := by omega
      obtain ⟨hj2, hl2⟩ := len30_step hj hlj hL
      have hg6 := e6 _ _ hg
      have hts6 := hts.mono (ExT.of e6)
      refine ⟨fun σ2 H2 => ∃ g2 xs2 ts2 a2, xs2.length < xs.length ∧ σ2 = [some (.ref p), some (.ref g2), a2] ∧ H2 g2 = some (.lst xs2) ∧ 0 < xs2.length ∧ xs2.length ≤ len30 (j + 1) ∧ RowAt (1 + (j + 1)) H2 ts2 xs2 ∧ wts ts2 + ts2.length ≤ 60 ∧ ExB p H H2 ∧ PotAt H2 p, fun σ2 H2 hn => ?_, ?_⟩
      · obtain ⟨g2, xs2, ts2, a2, k1, k2, k3, k4, k5, k6, k7, k8⟩ := hn
        exact ⟨xs2.length, k1, g2, xs2, ts2, j + 1, a2, rfl, k2, k3, k4, hj2, k5, k6, k7, k8⟩
      · have hrg := rg2 ⟨xs.length, by omega⟩ hL
        simp only at hrg
        have hlen6 : ∀ {σ' : L2.St} {Hx : Hp}, σ'[1]? = some (some (.ref g)) → Ex H6 Hx → Ev (tCB (rLenS K) (tCons (tVar 1) tNil)) σ' Hx (.int (xs.length : Int)) := fun h e => ev_len (ev_var h) (sq_of (e _ _ hg6))
        refine s_asgXL (elx_cat (elx_lcR3 (n := xs.length / 2) (G := fun k v H2 => TmAt H2 (.bi .or (ts.getD (2 * k) default) (ts.getD (2 * k + 1) default)) v) (ea_cons ev_c (ea_cons (ev_op (hlen6 rfl (Ex.refl _)) ev_c rv_I0) (ea_cons ev_c ea_nil))) hrg (by omega) (fun x => rfl) (fun k H7 e7 hk => ?_) (fun k v A B e h => TmAt.mono e h)) (fun H7 e7 => elx_of (el_sl (ev_var rfl) (eo_some (ev_op (hlen6 rfl e7) (ev_op (hlen6 rfl e7) ev_c (rv_I (by show (0 : Int) < 2; decide))) rv_I0)) eo_none (sq_of (e7 _ _ hg6)))) (fun xs A B e h => ⟨h.1, fun k v hk => (h.2 k v hk).ex e⟩) (fun xs A B e h => h) (fun xs A h => ?_) (fun ys A h => ?_)) fun g2 xs2 H7 ng2 e7 hg2 hx2 => ?_
        · rw [show (0 : Int) + (k : Int) * 2 = ((2 * k : Nat) : Int) by omega]
          have i1 : 2 * k < xs.length := by omega
          have i2 : 2 * k + 1 < xs.length := by omega
          refine fun H8 e8 Q8 q8 => ?_
          have hg8 := (e7.trans e8) _ _ hg6
          refine ⟨_, rfl, _, rfl, g, xs, _, xs[2 * k], rfl, rfl, sq_of hg8, atI_nat (by rw [List.getElem?_eq_getElem i1]), ?_⟩
          refine ⟨_, rfl, _, rfl, _, _, rfl, rfl, g, xs, ((2 * k + 1 : Nat) : Int), xs[2 * k + 1], rfl, by congr 1, sq_of hg8, atI_nat (by rw [List.getElem?_eq_getElem i2]), ?_⟩
          refine ⟨by show 3 ≤ sizeLine; decide, fun T nT => ?_⟩
          have f1 := Ex.new (o := .tup [.str (Str.ofString "or"), xs[2 * k], xs[2 * k + 1]]) nT
          obtain ⟨t1, ht1, r1⟩ := (hts6.mono (ExT.of ((e7.trans e8).trans f1))).at (i := 2 * k) (List.getElem?_eq_getElem i1)
          obtain ⟨t2, ht2, r2⟩ := (hts6.mono (ExT.of ((e7.trans e8).trans f1))).at (i := 2 * k + 1) (List.getElem?_eq_getElem i2)
          refine q8 _ _ f1 ?_
          rw [show ts.getD (2 * k) default = t1 by rw [List.getD_eq_getElem?_getD, ht1]; rfl, show ts.getD (2 * k + 1) default = t2 by rw [List.getD_eq_getElem?_getD, ht2]; rfl]
          exact ⟨T, _, _, rfl, upd_same, r1.1, r2.1⟩
        · rw [h.1]
          omega
        · rw [h]
          have := cut_len (xs := xs) (lo := some ((xs.length : Int) - (xs.length : Int) % 2)) (hi := none)
          omega
        · obtain ⟨ys, zs, rfl, ⟨hy1, hy2⟩, rfl⟩ := hx2
          have hcut : cutV xs (some ((xs.length : Int) - (xs.length : Int) % 2)) none = xs.drop (xs.length - xs.length % 2) := by
            unfold cutV
            rw [show (xs.length : Int) - (xs.length : Int) % 2 = ((xs.length - xs.length % 2 : Nat) : Int) by omega, HT.sIx_nat, HT.sIx_none]
            rw [show min (xs.length - xs.length % 2) xs.length = xs.length - xs.length % 2 by omega]
            exact List.take_of_length_le (by rw [List.length_drop]; omega)
          rw [hcut] at hg2
          have y7 := e6.trans e7
          have hts7 := hts.mono (ExT.of y7)
          have hl9 : (ys ++ xs.drop (xs.length - xs.length % 2)).length = xs.length / 2 + xs.length % 2 := by
            rw [List.length_append, hy1, List.length_drop]
            omega
          have hpw := pair_wts ts (xs.length / 2) (by omega)
          have hcw := wts_cut ts (2 * (xs.length / 2))
          have hd2 : xs.length - xs.length % 2 = 2 * (xs.length / 2) := by omega
          refine ⟨g2, _, pairT ts (xs.length / 2) ++ ts.drop (xs.length - xs.length % 2), _, ?_, rfl, hg2, ?_, ?_, ?_, ?_, x5.trans (ExB.of y7), hP5.ex y7⟩
          · rw [hl9]
            omega
          · rw [hl9]
            omega
          · rw [hl9]
            exact hl2
          · refine All2.app2 (All2.of_at (by rw [pair_len, hy1]) fun k t v hk hv => ?_) ((hts7.more (by omega)).drop _)
            have hkl : k < xs.length / 2 := by
              have := (List.getElem?_eq_some_iff.mp hv).1
              omega
            have i1 : 2 * k < ts.length := by omega
            have i2 : 2 * k + 1 < ts.length := by omega
            have ht : t = .bi .or (ts.getD (2 * k) default) (ts.getD (2 * k + 1) default) := by
              unfold pairT at hk
              rw [List.getElem?_map, List.getElem?_range hkl] at hk
              cases hk
              rfl
            obtain ⟨v1, hv1, r1⟩ := hts7.at2 (i := 2 * k) (List.getElem?_eq_getElem i1)
            obtain ⟨v2, hv2, r2⟩ := hts7.at2 (i := 2 * k + 1) (List.getElem?_eq_getElem i2)
            rw [ht]
            refine ⟨hy2 k v hv, ?_⟩
            rw [show ts.getD (2 * k) default = ts[2 * k] by rw [List.getD_eq_getElem?_getD, List.getElem?_eq_getElem i1]; rfl, show ts.getD (2 * k + 1) default = ts[2 * k + 1] by rw [List.getD_eq_getElem?_getD, List.getElem?_eq_getElem i2]; rfl]
            refine ⟨⟨r1.2.1, r2.2.1⟩, ?_⟩
            have := r1.2.2
            have := r2.2.2
            simp only [dep]
            omega
          · rw [wts_app, List.length_append, pair_len, List.length_drop, hpw, hd2]
            omega
    · have hL : xs.length = 1 := by
        have := of_decide_eq_false hb
        omega
      obtain ⟨v, rfl⟩ : ∃ v, xs = [v] := by
        match xs, hL with
        | [v], _ => exact ⟨v, rfl⟩
      obtain ⟨t, ht, r1⟩ := hts.at (i := 0) rfl
      have hts1 : ts = [t] := by
        match ts, hln, ht with
        | [u], _, ht => cases ht; rfl
      have hw1 : wt t + 1 ≤ 60 := by
        rw [hts1] at hwt
        simpa [wts] using hwt
      exact s_ret (ev_op (ev_var rfl) ev_c (rv_ixL (sq_of (e6 _ _ hg)) (atI_nat (j := 0) rfl))) fun H7 e7 => q H7 v (x5.trans (ExB.of (e6.trans e7))) (hP5.ex (e6.trans e7)) ⟨t, r1.1.ex (e6.trans e7), r1.2.1, by have := r1.2.2; omega, by omega⟩
theorem ok__law_drawn {f f1 f2 f3 f4 f5 : Addr} {fd fd1 fd2 fd3 fd4 fd5 : FuncData} (F : Fun K "_law_drawn" "_law_drawn" s__law_drawn f fd) (B : Bi K w mg dG dW dK a_NoValue a_NoNumber a_NoTerm a_NoText a_NoRow a_WireError)  (D__law_take : Df P w K mg base CX0 "_law_take" 1 f1 fd1 ["_law_pot_here", "_law_many"] (spTake)) (D__law_names : Df P w K mg base CX0 "_law_names" 3 f2 fd2 ["_law_pot_here", "_law_many"] (spNames)) (D__law_tall : Df P w K mg base CX0 "_law_tall" 3 f3 fd3 ["_law_pot_here"] (spTmR)) (D__law_wide : Df P w K mg base CX0 "_law_wide" 2 f4 fd4 ["_law_pot_here"] (spTmR)) (D__law_term : Df P w K mg base CX0 "_law_term" 13 f5 fd5 ["_law_pot_here", "_law_widths", "_law_width", "_law_deep", "_law_room"] (spTerm 4)) : FnOk P w K mg base CX0 (14) f fd ["_law_pot_here"] (spTmR) := by
  refine F.ok sc__law_drawn (fun vs H Q E h => ?_) (fun cdv A outer s H vs Q E hr h => ?_)
  · obtain ⟨p, rfl, _⟩ := h
    all_goals rfl
  · obtain ⟨p, rfl, hP, q⟩ := h
    refine ⟨_, (pss_cons (ps_set (i := 1) sc__law_drawn.nd rfl (Or.inl rfl) (pe_call D__law_names.ok (hr.mono (by decide)) (by rfl) D__law_names.g D__law_names.kp D__law_names.b .nil pass0 (pa_cons (pv 0) (pa_cons (pe_call D__law_take.ok (hr.mono (by decide)) (by rfl) D__law_take.g D__law_take.kp D__law_take.b .nil pass0 (pa_cons (pv 0) (pa_cons pe_int pa_nil))) pa_nil))))
      (pss_cons (ps_set (i := 2) sc__law_drawn.nd rfl (Or.inl rfl) (pe_callTy (call_dictP rfl) (by rfl) B.dict (by decide +kernel) (pa_cons (pe_lc (own := [("_law_name_here", 4)]) (g := gName 4) (tt := tYes) (by rfl) sc__law_drawn.nd (pi_list (pv 1)) (blkOk_by (own := [("_law_name_here", 4)]) (N := N__law_drawn) (sc := defScope s__law_drawn) (by decide +kernel)) (fun _ _ _ _ _ => pg_name (i := 4) sc__law_drawn.nd rfl (Or.inl rfl)) (fun _ _ _ _ _ => pts_nil) (fun _ _ _ _ _ => (pe_tup (pa_cons (pv 4) (pa_cons (pe_op op_add pe_int (pe_call D__law_take.ok (hr.mono (by decide)) (by rfl) D__law_take.g D__law_take.kp D__law_take.b .nil pass0 (pa_cons (pv 0) (pa_cons pe_int pa_nil)))) pa_nil))))) pa_nil)))
      (pss_cons (ps_set (i := 3) sc__law_drawn.nd rfl (Or.inl rfl) (pe_call D__law_take.ok (hr.mono (by decide)) (by rfl) D__law_take.g D__law_take.kp D__law_take.b .nil pass0 (pa_cons (pv 0) (pa_cons pe_int pa_nil))))
      (pss_cons (ps_if (pt_cmpR op_eq (pv 3) pe_int (nomark _)) (pss_one (ps_ret (pe_call D__law_tall.ok (hr.mono (by decide)) (by rfl) D__law_tall.g D__law_tall.kp D__law_tall.b .nil pass0 (pa_cons (pv 0) pa_nil)))) pss_nil)
      (pss_cons (ps_if (pt_cmpR op_eq (pv 3) pe_int (nomark _)) (pss_one (ps_ret (pe_call D__law_wide.ok (hr.mono (by decide)) (by rfl) D__law_wide.g D__law_wide.kp D__law_wide.b .nil pass0 (pa_cons (pv 0) pa_nil)))) pss_nil)
      (pss_one (ps_ret (pe_call D__law_term.ok (hr.mono (by decide)) (by rfl) D__law_term.g D__law_term.kp D__law_term.b .nil pass0 (pa_cons (pv 0) (pa_cons (pv 2) (pa_cons (pe_op op_add pe_int (pe_call D__law_take.ok (hr.mono (by decide)) (by rfl) D__law_take.g D__law_take.kp D__law_take.b .nil pass0 (pa_cons (pv 0) (pa_cons pe_int pa_nil)))) (pa_cons pe_int (pa_cons (pe_lst (pa_cons pe_int pa_nil)) pa_nil))))))))))))), ?_⟩
    refine ⟨_, rfl, _, rfl, p, 5, rfl, hP, by decide, by decide, fun H3 d e3 hP3 d0 d1 => ?_⟩
    obtain ⟨d, rfl⟩ := Int.eq_ofNat_of_zero_le d0
    refine ⟨p, d, rfl, hP3, by omega, fun H4 g xs e4 hP4 ng hg hlx hnd hnm => ?_⟩
    refine g_name ?_
    dsimp only
    have ngp : g ≠ p := hP3.ne ng
    have x4 := e3.trans e4
    refine ⟨_, rfl, g, rfl, ⟨_, sq_of hg⟩, fun D hD => ?_⟩
    have nD := hP4.ne hD
    refine lc_list (K := K) (a := g) (xs := xs.map V.str) (fun i H5 => ExB p H4 H5 ∧ PotAt H5 p ∧ ∃ (rs : List Addr) (ws : List (Str × Nat)), H5 D = some (.lst (rs.map V.ref)) ∧ rs.length = i ∧ PySem.Paired (wdRow H5) rs ws ∧ ws.map (·.1) = xs.take i ∧ ∀ b ∈ ws, 1 ≤ b.2 ∧ b.2 ≤ 8)
      ⟨ExB.of (Ex.new hD), hP4.ex (Ex.new hD), [], [], upd_same, rfl, .nil, rfl, fun b hb => by cases hb⟩ (fun i H5 _ hv => sq_of (hv.1 _ _ ngp hg)) (fun i y H5 hy hv => ?_) (fun H5 hv => ?_)
    · obtain ⟨e5, hP5, rs, ws, h5, hl5, hr5, hn5, hw5⟩ := hv
      rw [List.getElem?_map] at hy
      cases hx : xs[i]? with
      | none =>
        rw [hx] at hy
        cases hy
      | some x =>
        rw [hx] at hy
        cases hy
        have hil := (List.getElem?_eq_some_iff.mp hx).1
        refine ⟨rfl, ?_⟩
        refine ⟨_, rfl, _, rfl, p, 8, rfl, hP5, by decide, by decide, fun H6 d2 e6 hP6 b0 b1 => ?_⟩
        obtain ⟨d2, rfl⟩ := Int.eq_ofNat_of_zero_le b0
        refine ⟨_, _, rfl, rfl, by show 2 ≤ sizeLine; decide, fun T nT => ?_⟩
        have h6 := e6 _ _ nD h5
        have f1 := Ex.new (o := .tup [.str x, .int (1 + (d2 : Int))]) nT
        have h7 := f1 _ _ h6
        refine ⟨rs.map V.ref, h7, sz_lt (by rw [List.length_map, hl5]; omega), ((e5.trans e6).trans (ExB.of f1)).mut hD, (hP6.ex f1).upd nD, rs ++ [T], ws ++ [(x, 1 + d2)], ?_, by rw [List.length_append, hl5]; rfl, ?_, ?_, fun b hb => ?_⟩
        · rw [upd_same, List.map_append]
          rfl
        · have et : ExT H5 (L2.upd (L2.upd H6 T (.tup [.str x, .int (1 + (d2 : Int))])) D (.lst (rs.map V.ref ++ [.ref T]))) := ((ExT.ofB hP5 e6).trans (ExT.of f1)).upd h7
          refine paired_snoc (R := wdRow _) ?_ (paired_imp (fun r y h => et _ _ h) hr5)
          show _ = some (HO.tup [V.str x, V.int ((1 + d2 : Nat) : Int)])
          rw [show ((1 + d2 : Nat) : Int) = 1 + (d2 : Int) by omega, upd_ne (fun z => by
            rw [← z, upd_same] at h7
            cases h7)]
          exact upd_same
        · rw [List.map_append, hn5, List.take_add_one, hx]
          rfl
        · rcases List.mem_append.mp hb with h | h
          · exact hw5 b h
          · rw [List.mem_singleton.mp h]
            exact ⟨by show 1 ≤ 1 + d2; omega, by show 1 + d2 ≤ 8; omega⟩
    obtain ⟨e5, hP5, rs, ws, h5, hl5, hr5, hn5, hw5⟩ := hv
    rw [List.length_map, List.take_length] at hn5
    have hok : WsOk ws := ⟨by rw [hn5]; exact hnd, fun b hb => ⟨(hw5 b hb).1, (hw5 b hb).2, low_nm (hnm _ (by rw [← hn5]; exact List.mem_map.mpr ⟨b, hb, rfl⟩))⟩⟩
    have hnw : ∀ b ∈ ws, NmOk b.1 := fun b hb => hnm _ (by rw [← hn5]; exact List.mem_map.mpr ⟨b, hb, rfl⟩)
    have hwl : ws.length = d := by
      have := congrArg List.length hn5
      rw [List.length_map] at this
      omega
    refine ⟨D, rs, wsK ws, rfl, sq_of h5, paired_rmap _ (paired_imp (fun r y h => st_of h) hr5), fun qd nq => ?_⟩
    have hm := merge_of (k := fun b : Str × Nat => b.1) (g := fun b => V.int (b.2 : Int)) ws [] hok.1 (fun _ _ _ h => by cases h)
    rw [List.nil_append] at hm
    rw [hm]
    have f6 := Ex.new (o := .dK (wsK ws)) nq
    have hW : WsAt (L2.upd H5 qd (.dK (wsK ws))) qd ws := upd_same
    have hP6 := hP5.ex f6
    have x6 : ExB p H (L2.upd H5 qd (.dK (wsK ws))) := (x4.trans e5).trans (ExB.of f6)
    refine g_name ?_
    generalize L2.upd H5 qd (.dK (wsK ws)) = H6 at f6 hW hP6 x6 ⊢
    clear f6 hm nq h5 hr5
    dsimp only
    refine p_asg (evp_take rfl (by decide) (by decide)) hP6 fun v H7 e7 hP7 hv => ?_
    obtain ⟨way, rfl, w0, w1⟩ := hv
    have hW7 := hW.exB hP6 e7
    have x7 := x6.trans e7
    refine q_when (et_test (ev_op (ev_var rfl) ev_c (rv_eq rfl))) (fun _ H8 e8 => ?_) (fun _ H8 e8 => ?_)
    · exact ⟨_, rfl, p, rfl, hP7.ex e8, fun H9 v e9 hP9 hv => q H9 v ((x7.trans (ExB.of e8)).trans e9) hP9 hv⟩
    refine q_when (et_test (ev_op (ev_var rfl) ev_c (rv_eq rfl))) (fun _ H9 e9 => ?_) (fun _ H9 e9 => ?_)
    · exact ⟨_, rfl, p, rfl, hP7.ex (e8.trans e9), fun HA v eA hPA hv => q HA v ((x7.trans (ExB.of (e8.trans e9))).trans eA) hPA hv⟩
    have hP9 := hP7.ex (e8.trans e9)
    have hW9 := hW7.ex (e8.trans e9)
    refine ⟨_, rfl, _, rfl, _, rfl, p, 8, rfl, hP9, by decide, by decide, fun HA m eA hPA m0 m1 => ?_⟩
    obtain ⟨m, rfl⟩ := Int.eq_ofNat_of_zero_le m0
    refine ⟨_, _, rfl, rfl, by show 1 ≤ sizeLine; decide, fun r nr => ?_⟩
    have fB := Ex.new (o := .lst [V.int 20]) nr
    refine ⟨p, qd, r, 1 + m, 20, ws, by rw [show ((1 + m : Nat) : Int) = 1 + (m : Int) by omega]; rfl, hPA.ex fB, (hW9.exB hP9 eA).ex fB, upd_same, hok, by omega, by omega, by omega, fun HC v t c o => ?_⟩
    exact q HC v (((x7.trans (ExB.of (e8.trans e9))).trans eA).trans (exB_of_C fB nr o.ex)) o.pot ⟨t, o.tm, wd_tx hok hnw o.wd, by have := o.dp; omega, by have := o.wt; have := o.cR (by decide); omega⟩
theorem ok__law_parts {f  : Addr} {fd  : FuncData} (F : Fun K "_law_parts" "_law_parts" s__law_parts f fd) (B : Bi K w mg dG dW dK a_NoValue a_NoNumber a_NoTerm a_NoText a_NoRow a_WireError)   : FnOk P w K mg base CX0 (1) f fd ["_law_text_here"] (spParts) := by
  refine F.ok sc__law_parts (fun vs H Q E h => ?_) (fun cdv A outer s H vs Q E hr h => ?_)
  · obtain ⟨T, rfl, _⟩ := h
    all_goals rfl
  · obtain ⟨T, rfl, hz, q⟩ := h
    refine ⟨_, (pss_cons (ps_set (i := 1) sc__law_parts.nd rfl (Or.inl rfl) (pe_lst (pa_cons pe_str pa_nil)))
      (pss_cons (ps_set (i := 2) sc__law_parts.nd rfl (Or.inl rfl) pe_int)
      (pss_cons (ps_for PassesOwn.never rfl (pi_str (pv 0)) (pg_name (i := 3) sc__law_parts.nd rfl (Or.inl rfl)) (pss_cons (ps_set (i := 2) sc__law_parts.nd rfl (Or.inl rfl) (pe_op op_sub (pe_op op_add (pv 2) (pe_callTy call_int1 (by rfl) B.int (by decide +kernel) (pa_cons (pe_cmpR op_eq (pv 3) pe_str (nomark _)) pa_nil))) (pe_callTy call_int1 (by rfl) B.int (by decide +kernel) (pa_cons (pe_cmpR op_eq (pv 3) pe_str (nomark _)) pa_nil))))
      (pss_one (ps_if (PW.pt (pw_and (pt_cmpR op_eq (pv 3) pe_str (nomark _)) (pw_and1 (pt_cmpR op_eq (pv 2) pe_int (nomark _))))) (pss_one (ps_expr (pe_bm PySem.F.plainAttrs_list PySem.F.slot_list_append PySem.F.type_list_append mt_append (pv 1) (pa_cons pe_str pa_nil)))) (pss_one (ps_asg (pe_op op_add_str (pe_ix ix_list (pv 1) (pe_un un_neg pe_int) (fun _ _ => rfl)) (pv 3)) (pg_sub (pv 1) (pe_un un_neg pe_int) set_list)))))))
      (pss_one (ps_ret (pe_lc (own := [("_law_k", 4), ("_law_part", 5)]) (g := gTup K 2 (gCons (gName 4) (gCons (gName 5) gNil))) (tt := tYes) (by rfl) sc__law_parts.nd (pi_enum (by rfl) B.enumerate (pa_cons (pv 1) pa_nil)) (blkOk_by (own := [("_law_k", 4), ("_law_part", 5)]) (N := N__law_parts) (sc := defScope s__law_parts) (by decide +kernel)) (fun _ _ _ _ _ => (pg_tup rfl (pgs_cons (pg_name (i := 4) sc__law_parts.nd rfl (Or.inl rfl) (Or.inr rfl)) (pgs_cons (pg_name (i := 5) sc__law_parts.nd rfl (Or.inl rfl) (Or.inr rfl)) pgs_nil)))) (fun _ _ _ _ _ => pts_nil) (fun _ _ _ _ _ => (pe_ifExp (pt_cmpR op_gt (pv 4) pe_int (nomark _)) (pe_slice sl_str (pv 5) (po_some pe_int) po_none) (pv 5))))))))), ?_⟩
    refine q_asgL (xs := [V.str (Tx [])]) (el_lst (ea_cons (by rw [← s_e]; exact ev_c) ea_nil) (by simp)) fun g H1 ng e1 hg => ?_
    refine q_asg (v := .int 0) ev_c fun H2 e2 => ?_
    have htot := tot_go T (k := 0) (cur := []) (done := [])
    refine ⟨_, rfl, Tx T, rfl, for_it walk_str (fun i σ' H' => ∃ (k : Int) (cur : List Nat) (done : List (List Nat)) (v3 : Option V), σ' = [some (.str (Tx T)), some (.ref g), some (.int k), v3, none, none] ∧ H' g = some (.lst ((done ++ [cur]).map fun x => V.str (Tx x))) ∧ partsGo k cur done (T.drop i) = partsGo 0 [] [] T ∧ Ex H H' ∧ done.length ≤ i ∧ cur.length ≤ i)
      ⟨0, [], [], none, rfl, e2 _ _ hg, rfl, e1.trans e2, by simp, by simp⟩ (fun _ _ _ _ _ => True.intro) (fun i x σ' H3 H4 hi hv y => ?_) (fun σ' H3 hv => ?_)⟩
    · obtain ⟨k, cur, done, v3, rfl, hg3, hgo, x3, hdl, hcl⟩ := hv
      obtain ⟨rfl, c, hc, rfl⟩ := y
      have hc2 := code_of hc
      have hil : i < T.length := (List.getElem?_eq_some_iff.mp hc2).1
      rw [drop_at hc2, partsGo] at hgo
      refine g_name ?_
      dsimp only
      refine q_asg (v := .int (k + dl c)) (ev_is (ev_op (ev_op (ev_var rfl) (ev_int1 (ev_eqT (ev_var rfl) (by rw [← s_cb2]; exact ev_c))) rv_I0) (ev_int1 (ev_eqT (ev_var rfl) (by rw [← s_cb3]; exact ev_c))) rv_I0) ?_) fun H5 e5 => ?_
      · by_cases h1 : c = 40
        · subst h1
          simp [dl] <;> omega
        · by_cases h2 : c = 41
          · subst h2
            simp [dl] <;> omega
          · simp [dl, h1, h2]
      have hg5 := e5 _ _ hg3
      refine s_if (b := decide ([c] = [44]) && decide (V.int (k + dl c) = V.int 0)) (et_and (et_test (ev_eqT (ev_var rfl) (by rw [show Tx [44] = Str.ofString "," by decide +kernel]; exact ev_c))) fun _ => et_test (ev_op (ev_var rfl) ev_c (rv_eq rfl))) (fun hb H6 e6 => ?_) (fun hb H6 e6 => ?_)
      · rw [Bool.and_eq_true] at hb
        have h1 : c = 44 := by simpa using of_decide_eq_true hb.1
        have h2 := V.int.inj (of_decide_eq_true hb.2)
        rw [if_pos ⟨h1, h2⟩] at hgo
        refine s_app (v := .str (Tx [])) (e6 _ _ hg5) (ev_var rfl) (by rw [← s_e]; exact ev_c) (by simp; omega) fun H7 e7 => ?_
        refine ⟨k + dl c, [], done ++ [cur], _, rfl, by rw [upd_same, List.map_append (l₁ := done ++ [cur])]; rfl, hgo, Ex.mut (x3.trans (e5.trans (e6.trans e7))) ng, by rw [List.length_append]; simp; omega, by simp⟩
      · have hn : ¬ (c = 44 ∧ k + dl c = 0) := fun ⟨h1, h2⟩ => by
          subst h1
          rw [h2] at hb
          exact absurd hb (by decide)
        rw [if_neg hn] at hgo
        have hg6 := e6 _ _ hg5
        rw [List.map_append] at hg6
        have hla : atI (done.map (fun x => V.str (Tx x)) ++ [V.str (Tx cur)]) (-1) = some (.str (Tx cur)) := atI_last _ _
        refine s_setLast (xs := done.map fun x => V.str (Tx x)) (x := .str (Tx cur)) (v := .str (Tx (cur ++ [c]))) hg6 (ev_addT (ev_op (ev_var rfl) (ev_un ev_c ru_neg) (rv_ixL (sq_of hg6) hla)) (ev_var rfl) (by simp; omega)) (ev_var rfl) (ev_un ev_c ru_neg) fun H7 e7 => ?_
        refine ⟨k + dl c, cur ++ [c], done, _, rfl, by rw [upd_same, List.map_append]; rfl, hgo, Ex.mut (x3.trans (e5.trans (e6.trans e7))) ng, by omega, by simp; omega⟩
    · obtain ⟨k, cur, done, v3, rfl, hg3, hgo, x3, hdl, hcl⟩ := hv
      have hsz : (Tx T).cps.size = T.length := Tx_len T
      rw [hsz] at hdl hcl
      rw [hsz, List.drop_length] at hgo
      have hgo2 : done ++ [cur] = partsGo 0 [] [] T := hgo
      have hlen : ((done ++ [cur]).map fun x => V.str (Tx x)).length = (done ++ [cur]).length := by rw [List.length_map]
      refine s_retL (el_is (el_lcEn (xs := (done ++ [cur]).map fun x => V.str (Tx x)) (fun i => V.str (Tx (if 0 < i then ((done ++ [cur]).getD i []).drop 1 else (done ++ [cur]).getD i []))) (ea_cons (ev_var rfl) ea_nil) (sq_of hg3) (by simp; omega) (fun _ _ => rfl) (fun i x H4 e4 hx => ?_)) ?_) fun p H4 np e4 hp => q p H4 (fresh_back x3 np) (x3.trans e4) hp
      · rw [List.getElem?_map] at hx
        cases hl : (done ++ [cur])[i]? with
        | none => rw [hl] at hx; cases hx
        | some l =>
          rw [hl] at hx
          cases hx
          have hd : (done ++ [cur]).getD i [] = l := by rw [List.getD_eq_getElem?_getD, hl]; rfl
          have hlt := mem_tot (List.mem_of_getElem? hl)
          rw [hgo2, htot] at hlt
          have hlt2 : l.length ≤ 40000 := by simp [tot] at hlt; omega
          rw [hd]
          refine ev_is (ev_ifS (b := decide ((i : Int) > 0)) (et_test (ev_op (ev_var rfl) ev_c rv_I0)) (ev_cutBA (i := 1) (ev_var rfl) (eo_some ev_c) hlt2) (ev_var rfl)) ?_
          by_cases h0 : 0 < i
          · rw [if_pos h0, decide_eq_true (show (i : Int) > 0 by omega)]
            rfl
          · rw [if_neg h0, decide_eq_false (show ¬ (i : Int) > 0 by omega)]
            rfl
      · rw [hlen]
        unfold partsF
        rw [← hgo2, behind_range, List.map_map]
        rfl
theorem ok__law_guess {f f1 f2 : Addr} {fd fd1 fd2 : FuncData} (F : Fun K "_law_guess" "_law_guess" s__law_guess f fd) (B : Bi K w mg dG dW dK a_NoValue a_NoNumber a_NoTerm a_NoText a_NoRow a_WireError) {n k : Nat} (hk : 1 ≤ k) (D__law_parts : Df P w K mg base CX0 "_law_parts" 1 f1 fd1 ["_law_text_here"] (spParts)) (D__law_guess : Df P w K mg base CX0 "_law_guess" (k) f2 fd2 ["_law_text_here", "_law_deep"] (spGuessP n)) : FnOk P w K mg base CX0 (k + 1) f fd ["_law_text_here", "_law_deep"] (spGuess n) := by
  refine F.ok sc__law_guess (fun vs H Q E h => ?_) (fun cdv A outer s H vs Q E hr h => ?_)
  · obtain ⟨T, rfl, _⟩ := h
    all_goals rfl
  · obtain ⟨T, rfl, hn, hz, q⟩ := h
    refine ⟨_, (pss_cons (ps_if (pt_cmpR op_eq (pe_slice sl_str (pv 0) po_none (po_some pe_int)) pe_str (nomark _)) (pss_one (ps_ret (pe_tup (pa_cons pe_str (pa_cons (pe_slice sl_str (pv 0) (po_some pe_int) po_none) pa_nil))))) pss_nil)
      (pss_cons (ps_if (PW.pt (pw_or (pt_cmpR op_ne (pe_slice sl_str (pv 0) (po_some (pe_un un_neg pe_int)) po_none) pe_str (nomark _)) (pw_or (pt_cmpR op_notInS pe_str (pv 0) rfl) (pw_or1 (pt_cmpR op_eq (pv 1) pe_int (nomark _)))))) (pss_one (ps_ret (pe_tup (pa_cons pe_str (pa_cons (pv 0) pa_nil))))) pss_nil)
      (pss_cons (ps_set (i := 2) sc__law_guess.nd rfl (Or.inl rfl) (pe_slice sl_str (pv 0) po_none (po_some (pe_m1 PySem.F.slot_str_index PySem.F.type_str_index mt_sindex (pv 0) pe_str))))
      (pss_cons (ps_set (i := 3) sc__law_guess.nd rfl (Or.inl rfl) (pe_call D__law_parts.ok (hr.mono (by omega)) (by rfl) D__law_parts.g D__law_parts.kp D__law_parts.b .nil pass0 (pa_cons (pe_slice sl_str (pv 0) (po_some (pe_op op_add (pe_callB call_len_str (by rfl) B.len PySem.boot_len (pa_cons (pv 2) pa_nil)) pe_int)) (po_some (pe_un un_neg pe_int))) pa_nil)))
      (pss_cons (ps_if (PW.pt (pw_and (pt_cmpR op_eq (pv 2) pe_str (nomark _)) (pw_and (pt_cmpR op_eq (pe_callB call_len_seq (by rfl) B.len PySem.boot_len (pa_cons (pv 3) pa_nil)) pe_int (nomark _)) (pw_and (pt_cmpR (op_inK (K := K) rfl) (pe_ix ix_list (pv 3) pe_int (fun _ _ => rfl)) (pe_callTy (call_listS rfl) (by rfl) B.list (by decide +kernel) (pa_cons pe_str pa_nil)) rfl) (pw_and1 (pt_cmpR (op_inK (K := K) rfl) (pe_ix ix_list (pv 3) pe_int (fun _ _ => rfl)) (pe_callTy (call_listS rfl) (by rfl) B.list (by decide +kernel) (pa_cons pe_str pa_nil)) rfl)))))) (pss_one (ps_ret (pe_tup (pa_cons (pv 2) (pa_cons (pe_call D__law_guess.ok (hr.mono (by omega)) (by rfl) D__law_guess.g D__law_guess.kp D__law_guess.b .nil pass0 (pa_cons (pe_ix ix_list (pv 3) pe_int (fun _ _ => rfl)) (pa_cons (pe_op op_sub (pv 1) pe_int) pa_nil))) (pa_cons (pe_callTy call_int_str (by rfl) B.int (by decide +kernel) (pa_cons (pe_ix ix_list (pv 3) pe_int (fun _ _ => rfl)) pa_nil)) (pa_cons (pe_callTy call_int_str (by rfl) B.int (by decide +kernel) (pa_cons (pe_ix ix_list (pv 3) pe_int (fun _ _ => rfl)) pa_nil)) pa_nil))))))) pss_nil)
      (pss_one (ps_ret (pe_op (op_catAK (K := K) rfl) (pe_tup (pa_cons (pv 2) pa_nil)) (pe_callTy call_tuple_of (by rfl) B.tuple (by decide +kernel) (pa_cons (pe_lc (own := [("_law_part", 4)]) (g := gName 4) (tt := tYes) (by rfl) sc__law_guess.nd (pi_list (pv 3)) (blkOk_by (own := [("_law_part", 4)]) (N := N__law_guess) (sc := defScope s__law_guess) (by decide +kernel)) (fun _ _ _ _ _ => pg_name (i := 4) sc__law_guess.nd rfl (Or.inl rfl)) (fun _ _ _ _ _ => pts_nil) (fun _ _ _ _ _ => (pe_call D__law_guess.ok (hr.mono (by omega)) (by rfl) D__law_guess.g D__law_guess.kp D__law_guess.b .nil pass0 (pa_cons (pv 4) (pa_cons (pe_op op_sub (pv 1) pe_int) pa_nil))))) pa_nil)))))))))), ?_⟩
    refine q_when (b := decide (T.take 1 = [39])) (et_test (ev_eqT (ev_cutAA (j := 1) (ev_var rfl) (eo_some ev_c) (by omega)) (by rw [← s_cb4]; exact ev_c))) (fun hb H1 e1 => ?_) (fun hb H1 e1 => ?_)
    · have hb := of_decide_eq_true hb
      refine s_retU (xs := [.str (Str.ofString "is"), .str (Tx (T.drop 1))]) (eu_tup (ea_cons ev_c (ea_cons (ev_cutBA (i := 1) (ev_var rfl) (eo_some ev_c) (by omega)) ea_nil)) (by simp)) fun r H2 nr e2 hr => q (.ref r) H2 (e1.trans e2) ?_
      have hg : guessF n T = .tuple [sS "is", .str (Tx (T.drop 1))] := by cases n <;> rw [guessF, if_pos hb]
      rw [hg]
      exact .tup hr (.cons (.str _) (.cons (.str _) .nil))
    have hb := of_decide_eq_false hb
    refine q_when (b := !decide (T.drop (T.length - 1) = [41]) || (!decide (40 ∈ T) || decide (V.int (n : Int) = V.int 0))) (et_or (et_test (ev_neT (ev_cutL1 (ev_var rfl) (eo_some (ev_un ev_c ru_neg)) (by omega)) (by rw [← s_cb3]; exact ev_c))) fun _ => et_or (et_test (ev_niT (c := 40) (by rw [← s_cb2]; exact ev_c) (ev_var rfl))) fun _ => et_test (ev_op (ev_var rfl) ev_c (rv_eq rfl))) (fun hc H2 e2 => ?_) (fun hc H2 e2 => ?_)
    · refine s_retU (xs := [.str (Str.ofString "of"), .str (Tx T)]) (eu_tup (ea_cons ev_c (ea_cons (ev_var rfl) ea_nil)) (by simp)) fun r H3 nr e3 hr => q (.ref r) H3 (e1.trans (e2.trans e3)) ?_
      have hg : guessF n T = .tuple [sS "of", .str (Tx T)] := by
        cases n with
        | zero => rw [guessF, if_neg hb]
        | succ m =>
          rw [guessF, if_neg hb, if_pos]
          rw [last_one] at hc
          by_cases h1 : T.getLast? = some 41
          · refine .inr fun h2 => ?_
            rw [decide_eq_true h1, decide_eq_true h2] at hc
            have := V.int.inj (of_decide_eq_true (by simpa using hc) : V.int ((m + 1 : Nat) : Int) = V.int 0)
            omega
          · exact .inl h1
      rw [hg]
      exact .tup hr (.cons (.str _) (.cons (.str _) .nil))
    rw [Bool.or_eq_false_iff, Bool.or_eq_false_iff, last_one] at hc
    obtain ⟨hc1, hc2, hc3⟩ := hc
    have h41 : T.getLast? = some 41 := by simpa using hc1
    have h40 : 40 ∈ T := by simpa using hc2
    obtain ⟨m, rfl⟩ : ∃ m, n = m + 1 := by
      cases n with
      | zero => exact absurd rfl (of_decide_eq_false hc3)
      | succ m => exact ⟨m, rfl⟩
    have hwr := word_room h40 h41
    have hI : ((T.drop ((wordG T).length + 1)).dropLast).length ≤ T.length := by
      rw [List.length_dropLast, List.length_drop]
      omega
    have hg : guessF (m + 1) T = opG (guessF m) (wordG T) (partsF ((T.drop ((wordG T).length + 1)).dropLast)) := by
      rw [guessF, if_neg hb, if_neg]
      rintro (z | z)
      · exact z h41
      · exact z h40
    rw [hg] at q
    have htp := tot_parts ((T.drop ((wordG T).length + 1)).dropLast)
    generalize hpsd : partsF ((T.drop ((wordG T).length + 1)).dropLast) = ps at q htp
    refine q_asg (v := .str (Tx (wordG T))) (ev_is (ev_cutA (j := (wordG T).length) (ev_var rfl) (eo_some (ev_index (ev_var rfl) (by rw [← s_cb2]; exact ev_c) h40)) (by omega) (by omega)) (by rw [word_take])) fun H3 e3 => ?_
    refine q_asgL (xs := ps.map fun x => V.str (Tx x)) (el_call (vs := [.str (Tx ((T.drop ((wordG T).length + 1)).dropLast))]) (ea_cons (ev_cutTN (i := (wordG T).length + 1) (ev_var rfl) (eo_some (ev_is (ev_op (x := .int ((wordG T).length : Int)) (ev_lenT (ev_var rfl) (by omega)) ev_c rv_I0) (by congr 1))) (eo_some (ev_un ev_c ru_neg)) (by omega) (by omega)) ea_nil) (fun H4 e4 Q4 q4 E4 => ⟨_, rfl, by omega, fun g H5 ng e5 hg5 => q4 g H5 ng e5 (by rw [← hpsd]; exact hg5)⟩)) fun pg H4 npg e4 hpg => ?_
    have x4 := e1.trans (e2.trans (e3.trans e4))
    have hpl : ps.length ≤ T.length + 1 := by
      have : ps.length ≤ tot ps := by
        unfold tot
        clear htp q hpsd hpg
        induction ps with
        | nil => simp
        | cons x xs ih =>
          rw [List.map_cons, List.sum_cons, List.length_cons]
          omega
      omega
    have hat : ∀ {i : Nat} {H' : Hp}, Ex H4 H' → i < ps.length → RV (rIxL K) (.ref pg) (.int (i : Int)) H' (.str (Tx (ps.getD i []))) := fun {i H'} e' hi => rv_ixL (sq_of (e' _ _ hpg)) (atI_nat (by rw [List.getElem?_map, List.getElem?_eq_getElem hi, List.getD_eq_getElem?_getD, List.getElem?_eq_getElem hi]; rfl))
    have hgl : ∀ k, (ps.getD k []).length ≤ 6400 := fun k => by
      rw [List.getD_eq_getElem?_getD]
      cases h : ps[k]? with
      | none => simp
      | some x =>
        have := mem_tot (List.mem_of_getElem? h)
        simp only [Option.getD_some]
        omega
    refine q_when (b := decide (V.str (Tx (wordG T)) = V.str (Str.ofString "part")) && (decide (V.int (((ps.map fun x => V.str (Tx x)).length : Nat) : Int) = V.int 3) && ((digN (ps.getD 1 [])).isSome && (digN (ps.getD 2 [])).isSome)))
      (et_and (et_test (ev_op (ev_var rfl) ev_c (rv_eq rfl))) fun _ => et_and (et_test (ev_op (ev_len (ev_var rfl) (sq_of hpg)) ev_c (rv_eq rfl))) fun h3 => ?_) (fun hc H5 e5 => ?_) (fun hc H5 e5 => ?_)
    · have h3 : ps.length = 3 := by
        have := V.int.inj (of_decide_eq_true h3)
        rw [List.length_map] at this
        omega
      have one : ∀ k : Nat, k < 3 → Ev (tOp (rIn K false) (tOp (rIxL K) (tVar 3) (tC (.int (k : Int)))) (tCB (fun xs H Q => ∃ z, xs = [.str z] ∧ z.cps.size ≤ sizeLine ∧ ∀ l, H l = none → Q (.ref l) (L2.upd H l (.lst (z.cps.toList.map fun c => V.str ⟨#[c]⟩)))) (tCons (tC (.str (Str.ofString "01234567"))) tNil))) [some (.str (Tx T)), some (.int ((m + 1 : Nat) : Int)), some (.str (Tx (wordG T))), some (.ref pg), none] H4 (.bl (digN (ps.getD k [])).isSome) := fun k hk => by
        rw [← dig_mem]
        exact ev_inStrsN (ev_op (ev_var rfl) ev_c (hat (Ex.refl _) (by omega))) (el_figs ev_c)
      exact et_and (et_test (one 1 (by decide))) fun _ => et_test (one 2 (by decide))
    · rw [Bool.and_eq_true, Bool.and_eq_true, Bool.and_eq_true] at hc
      obtain ⟨hc1, hc2, hc3, hc4⟩ := hc
      have hw := V.str.inj (of_decide_eq_true hc1)
      have h3 : ps.length = 3 := by
        have := V.int.inj (of_decide_eq_true hc2)
        rw [List.length_map] at this
        omega
      have ho : opG (guessF m) (wordG T) ps = .tuple [.str (Tx (wordG T)), guessF m (ps.getD 0 []), .int (((digN (ps.getD 1 [])).getD 0 : Nat) : Int), .int (((digN (ps.getD 2 [])).getD 0 : Nat) : Int)] := by
        unfold opG
        rw [if_pos ⟨hw, h3, hc3, hc4⟩]
      rw [ho] at q
      refine ⟨_, rfl, (ev_op (ev_var rfl) ev_c (hat (i := 0) (Ex.refl _) (by omega))) H5 e5 _ fun H6 e6 => ⟨_, rfl, _, _, rfl, rfl, ps.getD 0 [], (by show [V.str (Tx (ps.getD 0 [])), V.int (((m + 1 : Nat) : Int) - 1)] = _; rw [show ((m + 1 : Nat) : Int) - 1 = (m : Int) by omega]), by omega, hgl 0, fun u H7 e7 hu => ?_⟩⟩
      obtain ⟨i1, l1⟩ := dig_int hc3
      obtain ⟨i2, l2⟩ := dig_int hc4
      refine (ev_intS (ev_op (ev_var rfl) ev_c (hat (i := 1) (e5.trans (e6.trans e7)) (by omega))) i1 l1) H7 (Ex.refl _) _ fun H8 e8 => ?_
      refine (ev_intS (ev_op (ev_var rfl) ev_c (hat (i := 2) (e5.trans (e6.trans (e7.trans e8))) (by omega))) i2 l2) H8 (Ex.refl _) _ fun H9 e9 => ?_
      refine ⟨by show 4 ≤ sizeLine; decide, fun r nr => ?_⟩
      have f9 := Ex.new (o := .tup [.str (Tx (wordG T)), u, .int (((digN (ps.getD 1 [])).getD 0 : Nat) : Int), .int (((digN (ps.getD 2 [])).getD 0 : Nat) : Int)]) nr
      exact q (.ref r) _ (x4.trans (e5.trans (e6.trans (e7.trans (e8.trans (e9.trans f9)))))) (.tup upd_same (.cons (.str _) (.cons (hu.ex (e8.trans (e9.trans f9))) (.cons (.int _) (.cons (.int _) .nil)))))
    · have ho : opG (guessF m) (wordG T) ps = .tuple (.str (Tx (wordG T)) :: ps.map (guessF m)) := by
        unfold opG
        rw [if_neg]
        rintro ⟨h1, h2, h3, h4⟩
        rw [decide_eq_true (show V.str (Tx (wordG T)) = V.str (Str.ofString "part") by rw [h1]), decide_eq_true (show V.int (((ps.map fun x => V.str (Tx x)).length : Nat) : Int) = V.int 3 by rw [List.length_map, h2]; rfl), h3, h4] at hc
        cases hc
      rw [ho] at q
      refine (evx_catTup (n := ps.length) (G := fun k y H2 => Pz H2 y (guessF m (ps.getD k []))) (ev_var rfl) (fun H6 e6 => ?_) (by omega) (fun k v H1 H2 e h => h.mono e)) H5 (Ex.refl _) _ fun v H6 e6 ⟨r, ys, hv, hr, hl, hG⟩ => ?_
      · have hx6 := e6 _ _ (e5 _ _ hpg)
        have key := elx_lcS (K := K) (G := fun k y H2 => Pz H2 y (guessF m (ps.getD k []))) (tl := tVar 3) (te := tCall (spGuessP (m + 1)) [] E0 (tCons (tVar 4) (tCons (tOp (rI0 fun i j => .int (i - j)) (tVar 1) (tC (.int 1))) tNil))) (j := 4) (vs := [4]) (σ := [some (.str (Tx T)), some (.int ((m + 1 : Nat) : Int)), some (.str (Tx (wordG T))), some (.ref pg), none]) (ev_var rfl) hx6 (by rw [List.length_map]; omega) (fun _ => rfl) (fun k x H7 e7 hx => ?_) (fun k v H1 H2 e h => h.mono e)
        · rw [List.length_map] at key
          exact key
        · rw [List.getElem?_map] at hx
          cases hl : ps[k]? with
          | none => rw [hl] at hx; cases hx
          | some l =>
            rw [hl] at hx
            cases hx
            have hd : ps.getD k [] = l := by rw [List.getD_eq_getElem?_getD, hl]; rfl
            have hl6 := hgl k
            rw [hd] at hl6 ⊢
            intro H8 e8 Q8 q8
            exact ⟨_, rfl, _, rfl, _, _, rfl, rfl, l, (by show [V.str (Tx l), V.int (((m + 1 : Nat) : Int) - 1)] = _; rw [show ((m + 1 : Nat) : Int) - 1 = (m : Int) by omega]), by omega, hl6, fun u H9 e9 hu => q8 u H9 e9 hu⟩
      · subst hv
        exact q (.ref r) H6 (x4.trans (e5.trans e6)) (.tup hr (.cons (.str _) (PzAll.of_at hl hG)))
theorem ok__law_told_by {f f1 f2 f3 : Addr} {fd fd1 fd2 fd3 : FuncData} (F : Fun K "_law_told_by" "_law_told_by" s__law_told_by f fd) (B : Bi K w mg dG dW dK a_NoValue a_NoNumber a_NoTerm a_NoText a_NoRow a_WireError)  (D__law_guess : Df P w K mg base CX0 "_law_guess" 16 f1 fd1 ["_law_text_here", "_law_deep"] (spGuess 10)) (D__law_is_term : Df P w K mg base CX0 "_law_is_term" 15 f2 fd2 ["_law_thing"] (spTermZ)) (D__law_text : Df P w K mg base CX0 "_law_text" 13 f3 fd3 ["_law_term_here"] (spTT 11)) : FnOk P w K mg base CX0 (17) f fd ["_law_text_here"] (spToldBy) := by
  refine F.ok sc__law_told_by (fun vs H Q E h => ?_) (fun cdv A outer s H vs Q E hr h => ?_)
  · obtain ⟨p, v, d, rfl, _⟩ := h
    all_goals rfl
  · obtain ⟨p, v, d, rfl, hd, h⟩ := h
    refine ⟨_, (pss_cons (ps_if (pt_not (pt_val (pe_callB call_isi (by rfl) B.isinstance (by decide +kernel) (pa_cons (pv 0) (pa_cons (pe_bltn (v := .ty "str") (by rfl) B.str (by decide +kernel) rfl) pa_nil))))) (pss_one (ps_ret pe_non)) pss_nil)
      (pss_cons (ps_set (i := 1) sc__law_told_by.nd rfl (Or.inl rfl) (pe_call D__law_guess.ok (hr.mono (by decide)) (by rfl) D__law_guess.g D__law_guess.kp D__law_guess.b .nil pass0 (pa_cons (pv 0) (pa_cons pe_int pa_nil))))
      (pss_cons (ps_if (PW.pt (pw_and (pt_val (pe_call D__law_is_term.ok (hr.mono (by decide)) (by rfl) D__law_is_term.g D__law_is_term.kp D__law_is_term.b .nil pass0 (pa_cons (pv 1) pa_nil))) (pw_and1 (pt_cmpR op_eq (pe_call D__law_text.ok (hr.mono (by decide)) (by rfl) D__law_text.g D__law_text.kp D__law_text.b .nil pass0 (pa_cons (pv 1) pa_nil)) (pv 0) (nomark _))))) (pss_one (ps_ret (pv 1))) pss_nil)
      (pss_one (ps_ret pe_non))))), ?_⟩
    rcases h with ⟨T, rfl, hz, q⟩ | ⟨hs, q⟩
    · cases hd
      refine q_when (b := false) (et_is (et_not (et_B (ev_isZs (p := p) (d := .str (Tx T)) (ev_var rfl) (.str T)))) rfl) (fun hb => by cases hb) (fun _ H1 e1 => ?_)
      refine ⟨_, rfl, T, rfl, by decide, hz, fun u H2 e2 hu => ?_⟩
      refine g_name ?_
      dsimp only
      have hmz := guess_mZ 10 T
      have hit : ∀ {σ' : L2.St}, σ'[1]? = some (some u) → Ev (tCall spTermZ [] E0 (tCons (tVar 1) tNil)) σ' H2 (.bl (termZ (guessF 10 T))) := fun h => ev_call (vs := [u]) (ea_cons (ev_var h) ea_nil) (fun H3 e3 Q3 q3 E3 => ⟨p, u, guessF 10 T, rfl, (hu.ex e3).dz, by omega, q3⟩)
      by_cases hT : termZ (guessF 10 T) = true
      · obtain ⟨t, ht, hx, hdp, hwt⟩ := termZ_tm hT
        have hu2 := hu
        rw [ht] at hu2
        have htx := txZ_tm hx
        rw [← ht] at htx
        refine q_when (b := termZ (guessF 10 T) && decide (txT t = T)) (et_and (et_B (hit rfl)) fun _ => et_test (ev_eqT (ev_call (vs := [u]) (ea_cons (ev_var rfl) ea_nil) (spv_tt hu2.tm (by omega) (by omega) hx)) (ev_var rfl))) (fun hb H3 e3 => ?_) (fun hb H3 e3 => ?_)
        · rw [Bool.and_eq_true] at hb
          have he := of_decide_eq_true hb.2
          refine s_ret (ev_var rfl) fun H4 e4 => q u H4 (e1.trans (e2.trans (e3.trans e4))) ?_
          unfold Tells toldF
          rw [if_pos ⟨hT, by rw [htx, he]⟩]
          exact hu.ex (e3.trans e4)
        · refine s_ret ev_c fun H4 e4 => q .non H4 (e1.trans (e2.trans (e3.trans e4))) ?_
          unfold Tells toldF
          rw [if_neg]
          rintro ⟨_, h2⟩
          rw [htx] at h2
          rw [hT, decide_eq_true h2] at hb
          cases hb
      · have hT' : termZ (guessF 10 T) = false := by simpa using hT
        refine q_when (b := false) (et_is (et_and (b := false) (et_B (hit rfl)) fun hb => by rw [hT'] at hb; cases hb) (by rw [hT']; rfl)) (fun hb => by cases hb) (fun _ H3 e3 => ?_)
        refine s_ret ev_c fun H4 e4 => q .non H4 (e1.trans (e2.trans (e3.trans e4))) ?_
        unfold Tells toldF
        rw [if_neg (fun z => hT z.1)]
    · exact q_when (b := true) (et_is (et_not (et_B (ev_isZs (ev_var rfl) hd))) (by rw [hs]; rfl)) (fun _ H1 e1 => s_ret ev_c fun H2 e2 => q H2 (e1.trans e2)) (fun hb => by cases hb)
theorem ok__law_spoilt {f f1 : Addr} {fd fd1 : FuncData} (F : Fun K "_law_spoilt" "_law_spoilt" s__law_spoilt f fd) (B : Bi K w mg dG dW dK a_NoValue a_NoNumber a_NoTerm a_NoText a_NoRow a_WireError)  (D__law_take : Df P w K mg base CX0 "_law_take" 1 f1 fd1 ["_law_pot_here", "_law_many"] (spTake)) : FnOk P w K mg base CX0 (2) f fd ["_law_pot_here", "_law_text_here"] (spSpoiltT) := by
  refine F.ok sc__law_spoilt (fun vs H Q E h => ?_) (fun cdv A outer s H vs Q E hr h => ?_)
  · obtain ⟨p, T, rfl, _⟩ := h
    all_goals rfl
  · obtain ⟨p, T, rfl, hP, hz, q⟩ := h
    refine ⟨_, (pss_cons (ps_set (i := 2) sc__law_spoilt.nd rfl (Or.inl rfl) (pe_call D__law_take.ok (hr.mono (by decide)) (by rfl) D__law_take.g D__law_take.kp D__law_take.b .nil pass0 (pa_cons (pv 0) (pa_cons pe_int pa_nil))))
      (pss_cons (ps_set (i := 3) sc__law_spoilt.nd rfl (Or.inl rfl) (pe_call D__law_take.ok (hr.mono (by decide)) (by rfl) D__law_take.g D__law_take.kp D__law_take.b .nil pass0 (pa_cons (pv 0) (pa_cons (pe_op op_add (pe_callB call_len_str (by rfl) B.len PySem.boot_len (pa_cons (pv 1) pa_nil)) pe_int) pa_nil))))
      (pss_cons (ps_set (i := 4) sc__law_spoilt.nd rfl (Or.inl rfl) (pe_ix ix_str pe_str (pe_call D__law_take.ok (hr.mono (by decide)) (by rfl) D__law_take.g D__law_take.kp D__law_take.b .nil pass0 (pa_cons (pv 0) (pa_cons pe_int pa_nil))) (fun _ _ => rfl)))
      (pss_cons (ps_if (pt_cmpR op_lt (pv 2) pe_int (nomark _)) (pss_one (ps_ret (pe_op op_add_str (pe_op op_add_str (pe_slice sl_str (pv 1) po_none (po_some (pv 3))) (pe_ix ix_list (pe_lst (pa_cons pe_str (pa_cons (pv 4) (pa_cons (pv 4) pa_nil)))) (pv 2) (fun _ _ => rfl))) (pe_slice sl_str (pv 1) (po_some (pe_op op_add (pv 3) (pe_ix ix_list (pe_lst (pa_cons pe_int (pa_cons pe_int (pa_cons pe_int pa_nil)))) (pv 2) (fun _ _ => rfl)))) po_none)))) pss_nil)
      (pss_cons (ps_set (i := 5) sc__law_spoilt.nd rfl (Or.inl rfl) (pe_op op_add pe_int (pe_call D__law_take.ok (hr.mono (by decide)) (by rfl) D__law_take.g D__law_take.kp D__law_take.b .nil pass0 (pa_cons (pv 0) (pa_cons pe_int pa_nil)))))
      (pss_cons (ps_if (pt_cmpR op_eq (pv 2) pe_int (nomark _)) (pss_one (ps_ret (pe_op op_add_str (pe_op op_add_str (pe_slice sl_str (pv 1) po_none (po_some (pv 3))) (pe_slice sl_str (pv 1) (po_some (pv 3)) (po_some (pe_op op_add (pv 3) (pv 5))))) (pe_slice sl_str (pv 1) (po_some (pv 3)) po_none)))) pss_nil)
      (pss_cons (ps_if (pt_cmpR op_eq (pv 2) pe_int (nomark _)) (pss_one (ps_ret (pe_op op_add_str (pe_slice sl_str (pv 1) po_none (po_some (pv 3))) (pe_slice sl_str (pv 1) (po_some (pe_op op_add (pv 3) (pv 5))) po_none)))) pss_nil)
      (pss_cons (ps_if (pt_cmpR op_eq (pv 2) pe_int (nomark _)) (pss_cons (ps_set (i := 6) sc__law_spoilt.nd rfl (Or.inl rfl) (pe_ix ix_list (pe_lst (pa_cons pe_str (pa_cons pe_str (pa_cons pe_str (pa_cons pe_str (pa_cons pe_str pa_nil)))))) (pe_call D__law_take.ok (hr.mono (by decide)) (by rfl) D__law_take.g D__law_take.kp D__law_take.b .nil pass0 (pa_cons (pv 0) (pa_cons pe_int pa_nil))) (fun _ _ => rfl)))
      (pss_one (ps_ret (pe_op op_add_str (pe_op op_add_str (pv 6) (pv 1)) (pe_ix ix_list (pe_lst (pa_cons pe_str (pa_cons pe_str (pa_cons pe_str pa_nil)))) (pe_call D__law_take.ok (hr.mono (by decide)) (by rfl) D__law_take.g D__law_take.kp D__law_take.b .nil pass0 (pa_cons (pv 0) (pa_cons pe_int pa_nil))) (fun _ _ => rfl)))))) pss_nil)
      (pss_one (ps_ret (pe_ix ix_list (pe_lst (pa_cons (pe_op op_add_str pe_str (pv 1)) (pa_cons (pe_op op_add_str (pv 1) pe_str) (pa_cons (pe_op op_add_str (pv 1) pe_str) pa_nil)))) (pe_call D__law_take.ok (hr.mono (by decide)) (by rfl) D__law_take.g D__law_take.kp D__law_take.b .nil pass0 (pa_cons (pv 0) (pa_cons pe_int pa_nil))) (fun _ _ => rfl)))))))))))), ?_⟩
    refine p_asg (evp_take rfl (by decide) (by decide)) hP fun u H1 e1 hP1 hu => ?_
    obtain ⟨way, rfl, w0, w1⟩ := hu
    obtain ⟨way, rfl⟩ := Int.eq_ofNat_of_zero_le w0
    refine p_asg (evp_takeV (m := (T.length : Int) + 1) rfl (evp_of fun H4 _ => ev_op (x := .int (T.length : Int)) (ev_lenT (ev_var rfl) (by omega)) ev_c rv_I0) (by omega) (by omega)) hP1 fun u H2 e2 hP2 hu => ?_
    obtain ⟨here, rfl, h0, h1⟩ := hu
    obtain ⟨here, rfl⟩ := Int.eq_ofNat_of_zero_le h0
    refine p_asg (evp_sign (l := sg20) (fun _ => by rw [← s_sg20]; exact ev_c) (by rw [sg20_len]; decide) (by rw [sg20_len]; exact evp_take rfl (by decide) (by decide))) hP2 fun u H3 e3 hP3 hu => ?_
    obtain ⟨c0, hc0, rfl⟩ := hu
    have x3 := e1.trans (e2.trans e3)
    have hlo : ∀ {σ' : L2.St} {H' : Hp}, σ'[1]? = some (some (.str (Tx T))) → σ'[3]? = some (some (.int (here : Int))) → Ev (tSl rSlS (tVar 1) tNoPart (tPart (tVar 3))) σ' H' (.str (Tx (T.take here))) := fun h1 h3 => ev_cutA (ev_var h1) (eo_some (ev_var h3)) (by omega) (by omega)
    have tl : (T.take here).length ≤ T.length := by rw [List.length_take]; omega
    have dl2 : ∀ k, (T.drop k).length ≤ T.length := fun k => by rw [List.length_drop]; omega
    refine q_when (et_test (ev_op (ev_var rfl) ev_c rv_I0)) (fun hb H4 e4 => ?_) (fun _ H4 e4 => ?_)
    · have hb := of_decide_eq_true hb
      obtain ⟨sx, hsx, hsl⟩ : ∃ sx : List Nat, atI [V.str (Str.ofString ""), .str (Tx [c0]), .str (Tx [c0])] (way : Int) = some (.str (Tx sx)) ∧ sx.length ≤ 1 := by
        have h3 : way = 0 ∨ way = 1 ∨ way = 2 := by omega
        rcases h3 with rfl | rfl | rfl
        · exact ⟨[], by rw [← s_e]; rfl, by simp⟩
        · exact ⟨[c0], rfl, by simp⟩
        · exact ⟨[c0], rfl, by simp⟩
      obtain ⟨kk, hkk⟩ : ∃ kk : Nat, atI [V.int 1, .int 0, .int 1] (way : Int) = some (.int (kk : Int)) := by
        have h3 : way = 0 ∨ way = 1 ∨ way = 2 := by omega
        rcases h3 with rfl | rfl | rfl
        · exact ⟨1, rfl⟩
        · exact ⟨0, rfl⟩
        · exact ⟨1, rfl⟩
      have := dl2 (here + kk)
      refine s_ret (v := .str (Tx ((T.take here ++ sx) ++ T.drop (here + kk)))) (ev_addT (ev_addT (hlo rfl rfl) (ev_ixN (el_lst (vs := [V.str (Str.ofString ""), .str (Tx [c0]), .str (Tx [c0])]) (ea_cons ev_c (ea_cons (ev_var rfl) (ea_cons (ev_var rfl) ea_nil))) (by simp)) (fun H8 _ => ev_var rfl) hsx) (by omega)) (ev_cutBA (ev_var rfl) (eo_some (ev_is (ev_op (ev_var rfl) (ev_ixN (el_lst (vs := [V.int 1, .int 0, .int 1]) (ea_cons ev_c (ea_cons ev_c (ea_cons ev_c ea_nil))) (by simp)) (fun H7 _ => ev_var rfl) hkk) rv_I0) (by rw [show ((here + kk : Nat) : Int) = (here : Int) + (kk : Int) by omega]))) (by omega)) (by rw [List.length_append]; omega)) fun H5 e5 => q H5 _ (x3.trans (ExB.of (e4.trans e5))) (hP3.ex (e4.trans e5)) ?_
      rw [List.length_append, List.length_append, List.length_take, List.length_drop]
      omega
    refine p_asg (evp_add (evp_take rfl (by decide) (by decide))) (hP3.ex e4) fun u H5 e5 hP5 hu => ?_
    obtain ⟨long, rfl, l0, l1⟩ := hu
    obtain ⟨long, rfl⟩ := Int.eq_ofNat_of_zero_le (by omega : 0 ≤ long)
    have x5 := (x3.trans (ExB.of e4)).trans e5
    have hlg : ∀ {σ' : L2.St} {H' : Hp}, σ'[3]? = some (some (.int (here : Int))) → σ'[5]? = some (some (.int (long : Int))) → Ev (tOp (rI0 fun i j => .int (i + j)) (tVar 3) (tVar 5)) σ' H' (.int ((here + long : Nat) : Int)) := fun h3 h5 => ev_is (ev_op (ev_var h3) (ev_var h5) rv_I0) (by congr 1)
    refine q_when (et_test (ev_op (ev_var rfl) ev_c (rv_eq rfl))) (fun _ H6 e6 => ?_) (fun _ H6 e6 => ?_)
    · have d1 := dl2 here
      have t1 : ((T.drop here).take (here + long - here)).length ≤ long := by rw [List.length_take]; omega
      refine s_ret (v := .str (Tx ((T.take here ++ (T.drop here).take (here + long - here)) ++ T.drop here))) (ev_addT (ev_addT (hlo rfl rfl) (ev_cutTA (ev_var rfl) (eo_some (ev_var rfl)) (eo_some (hlg rfl rfl)) (by omega) (by omega)) (by omega)) (ev_cutBA (ev_var rfl) (eo_some (ev_var rfl)) (by omega)) (by rw [List.length_append]; omega)) fun H7 e7 => q H7 _ (x5.trans (ExB.of (e6.trans e7))) (hP5.ex (e6.trans e7)) ?_
      rw [List.length_append, List.length_append, List.length_take (i := here), List.length_drop]
      omega
    refine q_when (et_test (ev_op (ev_var rfl) ev_c (rv_eq rfl))) (fun _ H7 e7 => ?_) (fun _ H7 e7 => ?_)
    · have d1 := dl2 (here + long)
      refine s_ret (v := .str (Tx (T.take here ++ T.drop (here + long)))) (ev_addT (hlo rfl rfl) (ev_cutBA (ev_var rfl) (eo_some (hlg rfl rfl)) (by omega)) (by omega)) fun H8 e8 => q H8 _ (x5.trans (ExB.of (e6.trans (e7.trans e8)))) (hP5.ex (e6.trans (e7.trans e8))) ?_
      rw [List.length_append, List.length_take, List.length_drop]
      omega
    have x7 := x5.trans (ExB.of (e6.trans e7))
    have hP7 := hP5.ex (e6.trans e7)
    refine q_when (et_test (ev_op (ev_var rfl) ev_c (rv_eq rfl))) (fun _ H8 e8 => ?_) (fun _ H8 e8 => ?_)
    · refine p_asg (evp_lit (K := K) (vs := [.str (Str.ofString "not("), .str (Str.ofString "plus("), .str (Str.ofString "part("), .str (Str.ofString "is("), .str (Str.ofString "pick(")]) (fun _ => ea_cons ev_c (ea_cons ev_c (ea_cons ev_c (ea_cons ev_c (ea_cons ev_c ea_nil))))) (by decide) (evp_take rfl (by decide) (by decide))) (hP7.ex e8) fun u H9 e9 hP9 hu => ?_
      obtain ⟨B0, rfl, hB⟩ : ∃ B0 : List Nat, u = .str (Tx B0) ∧ B0.length ≤ 5 := by
        simp only [List.mem_cons, List.not_mem_nil, or_false] at hu
        rcases hu with rfl | rfl | rfl | rfl | rfl
        · exact ⟨_, by rw [Tx_tl], by decide⟩
        · exact ⟨_, by rw [Tx_tl], by decide⟩
        · exact ⟨_, by rw [Tx_tl], by decide⟩
        · exact ⟨_, by rw [Tx_tl], by decide⟩
        · exact ⟨_, by rw [Tx_tl], by decide⟩
      refine p_ret (evp_catT (a := B0 ++ T) (n := 7) (fun _ => ev_addT (ev_var rfl) (ev_var rfl) (by omega)) ((evp_lit (K := K) (vs := [.str (Str.ofString ")"), .str (Str.ofString ", a)"), .str (Str.ofString ", 1, 0)")]) (fun _ => ea_cons ev_c (ea_cons ev_c (ea_cons ev_c ea_nil))) (by decide) (evp_take rfl (by decide) (by decide))).mono fun u _ hu => ?_) (by rw [List.length_append]; omega)) hP9 fun u HB eB hPB hu => ?_
      · simp only [List.mem_cons, List.not_mem_nil, or_false] at hu
        rcases hu with rfl | rfl | rfl
        · exact ⟨_, by rw [Tx_tl], by decide⟩
        · exact ⟨_, by rw [Tx_tl], by decide⟩
        · exact ⟨_, by rw [Tx_tl], by decide⟩
      · obtain ⟨B1, rfl, hB1⟩ := hu
        exact q HB _ (((x7.trans (ExB.of e8)).trans e9).trans eB) hPB (by rw [List.length_append, List.length_append]; omega)
    · have hsp : ∀ (s : String), ∃ l : List Nat, Str.ofString s = Tx l := fun s => ⟨_, (Tx_tl _).symm⟩
      obtain ⟨b1, hb1, hl1⟩ : ∃ l : List Nat, Str.ofString " " = Tx l ∧ l.length ≤ 1 := ⟨_, (Tx_tl _).symm, by decide⟩
      obtain ⟨b2, hb2, hl2⟩ : ∃ l : List Nat, Str.ofString "\n" = Tx l ∧ l.length ≤ 1 := ⟨_, (Tx_tl _).symm, by decide⟩
      refine p_ret (evp_lit (K := K) (vs := [.str (Tx (b1 ++ T)), .str (Tx (T ++ b1)), .str (Tx (T ++ b2))]) (fun _ => ea_cons (ev_addT (by rw [← hb1]; exact ev_c) (ev_var rfl) (by omega)) (ea_cons (ev_addT (ev_var rfl) (by rw [← hb1]; exact ev_c) (by omega)) (ea_cons (ev_addT (ev_var rfl) (by rw [← hb2]; exact ev_c) (by omega)) ea_nil))) (by simp) (evp_take rfl (by decide) (by decide))) (hP7.ex e8) fun u H9 e9 hP9 hu => ?_
      simp only [List.mem_cons, List.not_mem_nil, or_false] at hu
      rcases hu with rfl | rfl | rfl
      · exact q H9 _ ((x7.trans (ExB.of e8)).trans e9) hP9 (by rw [List.length_append]; omega)
      · exact q H9 _ ((x7.trans (ExB.of e8)).trans e9) hP9 (by rw [List.length_append]; omega)
      · exact q H9 _ ((x7.trans (ExB.of e8)).trans e9) hP9 (by rw [List.length_append]; omega)
theorem ok__law_right {f f1 f2 : Addr} {fd fd1 fd2 : FuncData} (F : Fun K "_law_right" "_law_right" s__law_right f fd) (B : Bi K w mg dG dW dK a_NoValue a_NoNumber a_NoTerm a_NoText a_NoRow a_WireError)  (D__law_told_by : Df P w K mg base CX0 "_law_told_by" 17 f1 fd1 ["_law_text_here"] (spToldBy)) (D_read_term : Df P w K mg base (L2N.CX P w) "read_term" 25 f2 fd2 ["text"] (spReadX a_NoText)) : FnG P w K mg base CX0 (26) f fd ["_law_text_here"] (spRightT) := by
  refine F.okG sc__law_right (fun vs H Q E h => ?_) (fun cdv A outer s H vs Q E hG hr h => ?_)
  · obtain ⟨p, v, d, rfl, _⟩ := h
    all_goals rfl
  · obtain ⟨p, v, d, rfl, hd, hO, q⟩ := h
    refine ⟨_, (pss_cons (ps_set (i := 1) sc__law_right.nd rfl (Or.inl rfl) (pe_call D__law_told_by.ok (hr.mono (by decide)) (by rfl) D__law_told_by.g D__law_told_by.kp D__law_told_by.b .nil pass0 (pa_cons (pv 0) pa_nil)))
      (pss_cons (ps_set (i := 2) sc__law_right.nd rfl (Or.inl rfl) pe_non)
      (pss_cons (L2N.ps_try_as (i := 3) (tb := fun W => tAsg (tCallS (spReadX a_NoText) (WE W) (tCons (tVar 0) tNil)) (gName 2)) (ts := (fun (a : Addr) (cls : Value) (d : Option Addr) => fun D σ H => (cls = .ref a_NoText ∧ d = none) ∧ tSeq (tAsg (tLst (tCons (tCB (rIsE K a_NoText a) (tCons (tVar 3) (tCons (tC (.ref a_NoTerm)) tNil))) (tCons (tCB (rIsE K a_NoText a) (tCons (tVar 3) (tCons (tC (.ref a_NoValue)) tNil))) (tCons (tCB (rIsE K a_NoText a) (tCons (tVar 3) (tCons (tC (.ref a_NoNumber)) tNil))) (tCons (tCB (rIsE K a_NoText a) (tCons (tVar 3) (tCons (tC (.ref a_NoRow)) tNil))) tNil))))) (gName 4)) (tSeq (tAsg (tAndV (tCB (rIsE K a_NoText a) (tCons (tVar 3) (tCons (tC (.ref a_NoText)) tNil))) (tAndV (tCB (rIsE K a_NoText a) (tCons (tVar 3) (tCons (tC (.ty "ValueError")) tNil))) (tOp (rIn K true) (tC (.bl true)) (tVar 4)))) (gName 5)) (tRet (tAndV (tOp (fun x y H Q => y = .non ∧ Q (.bl (decide (x = .non))) H) (tVar 1) (tC .non)) (tVar 5)))) D σ H)) (Wout := fun _ _ _ _ => False) rfl rfl sc__law_right.nd rfl rfl ⟨rfl, by decide, Or.inl B.x_gE⟩ (fun _ _ x => by obtain ⟨_, _, _, _, _, _, _, _, _, _, _, _, _, _, _, _, z⟩ := x; exact z.elim)
      (fun W pn xe tk _ => pss_one (ps_set (i := 2) sc__law_right.nd rfl (Or.inl rfl) (by exact (pe_callS D_read_term.ok (hr.mono (by decide)) rfl D_read_term.g D_read_term.kp D_read_term.b (fun σ => L2N.passAt tk σ) (by exact (pa_cons (pv 0) pa_nil))))))
      (fun a oe cls d pn hz hf => pss_if_fact fun hcd => pss_cons (ps_set (i := 4) sc__law_right.nd rfl (Or.inl rfl) (by exact (pe_lst (pa_cons (pe_callB (call_isE (D := a_NoText) B.x_cN (by rw [← hcd.1, ← hcd.2]; exact hz.zc) hf) (by rfl) B.isinstance (by decide +kernel) (pa_cons (pv 3) (pa_cons (pgl (by rfl) B.c_NoTerm) pa_nil))) (pa_cons (pe_callB (call_isE (D := a_NoText) B.x_cN (by rw [← hcd.1, ← hcd.2]; exact hz.zc) hf) (by rfl) B.isinstance (by decide +kernel) (pa_cons (pv 3) (pa_cons (pgl (by rfl) B.c_NoValue) pa_nil))) (pa_cons (pe_callB (call_isE (D := a_NoText) B.x_cN (by rw [← hcd.1, ← hcd.2]; exact hz.zc) hf) (by rfl) B.isinstance (by decide +kernel) (pa_cons (pv 3) (pa_cons (pgl (by rfl) B.c_NoNumber) pa_nil))) (pa_cons (pe_callB (call_isE (D := a_NoText) B.x_cN (by rw [← hcd.1, ← hcd.2]; exact hz.zc) hf) (by rfl) B.isinstance (by decide +kernel) (pa_cons (pv 3) (pa_cons (pgl (by rfl) B.c_NoRow) pa_nil))) pa_nil))))))) (pss_cons (ps_set (i := 5) sc__law_right.nd rfl (Or.inl rfl) (by exact (pe_and (pe_callB (call_isE (D := a_NoText) B.x_cN (by rw [← hcd.1, ← hcd.2]; exact hz.zc) hf) (by rfl) B.isinstance (by decide +kernel) (pa_cons (pv 3) (pa_cons (pgl (by rfl) B.c_NoText) pa_nil))) (pe_and (pe_callB (call_isE (D := a_NoText) B.x_cN (by rw [← hcd.1, ← hcd.2]; exact hz.zc) hf) (by rfl) B.isinstance (by decide +kernel) (pa_cons (pv 3) (pa_cons (pe_bltn (v := .ty "ValueError") (by rfl) B.ValueError (by decide +kernel) rfl) pa_nil))) (pe_one (pe_cmpR op_notIn_seq pe_bl (pv 4) rfl)))))) (pss_one (ps_ret (by exact (pe_and (pe_cmpR op_isN (pv 1) pe_non (nomark _)) (pe_one (pv 5)))))))))
      (pss_one (ps_ret (pe_and (pe_cmpR op_notN (pv 1) pe_non (nomark _)) (pe_one (pe_cmpR op_eq (pe_callB (call_reprZ hG (u101 hr)) (by rfl) B.repr (by decide +kernel) (pa_cons (pv 2) pa_nil)) (pe_callB (call_reprZ hG (u101 hr)) (by rfl) B.repr (by decide +kernel) (pa_cons (pv 1) pa_nil)) (nomark _))))))))), ?_⟩
    have refuse : ∀ {u : V} {w : Option V} {H1 : Hp} {x4 x5 : Option V}, u = .non → Ex H H1 → ∀ a : Addr, (tSeq (tAsg (tLst (tCons (tCB (rIsE K a_NoText a) (tCons (tVar 3) (tCons (tC (.ref a_NoTerm)) tNil))) (tCons (tCB (rIsE K a_NoText a) (tCons (tVar 3) (tCons (tC (.ref a_NoValue)) tNil))) (tCons (tCB (rIsE K a_NoText a) (tCons (tVar 3) (tCons (tC (.ref a_NoNumber)) tNil))) (tCons (tCB (rIsE K a_NoText a) (tCons (tVar 3) (tCons (tC (.ref a_NoRow)) tNil))) tNil))))) (gName 4)) (tSeq (tAsg (tAndV (tCB (rIsE K a_NoText a) (tCons (tVar 3) (tCons (tC (.ref a_NoText)) tNil))) (tAndV (tCB (rIsE K a_NoText a) (tCons (tVar 3) (tCons (tC (.ty "ValueError")) tNil))) (tOp (rIn K true) (tC (.bl true)) (tVar 4)))) (gName 5)) (tRet (tAndV (tOp (fun x y H Q => y = .non ∧ Q (.bl (decide (x = .non))) H) (tVar 1) (tC .non)) (tVar 5))))) { nx := fun _ H' => Q .non H', rt := Q } [some v, some u, w, some (.ref a), x4, x5] H1 := fun {u w H1 x4 x5} hu e1 a => by
      subst hu
      refine q_asgL (xs := [false, false, false, false].map V.bl) (el_lst (ea_cons (ev_isE (ev_var rfl) ev_c (fun u r => r) B.x_iNoTerm) (ea_cons (ev_isE (ev_var rfl) ev_c (fun u r => r) B.x_iNoValue) (ea_cons (ev_isE (ev_var rfl) ev_c (fun u r => r) B.x_iNoNumber) (ea_cons (ev_isE (ev_var rfl) ev_c (fun u r => r) B.x_iNoRow) ea_nil)))) (by simp)) fun g H2 ng e2 hg => ?_
      refine q_asg (v := .bl true) (ev_is (ev_andV (a := true) (b := true && true) (ev_isE (ev_var rfl) ev_c (fun u r => r) B.x_iNoText) fun _ => ev_andV (a := true) (b := true) (ev_isE (ev_var rfl) ev_c (fun u r => r) B.x_iV) fun _ => ev_is (ev_op ev_c (ev_var rfl) (rv_niL (sq_of hg) rfl (by decide))) (by decide)) rfl) fun H3 e3 => ?_
      refine s_ret (v := .bl true) (ev_is (ev_andV (a := true) (b := true) (fun H4 e4 Q4 q4 => ⟨_, rfl, rfl, q4 H4 (Ex.refl _)⟩) fun _ => ev_var rfl) rfl) fun H4 e4 => q H4 (e1.trans (e2.trans (e3.trans e4)))
    by_cases hs : isZ "str" d = true
    · obtain ⟨T, rfl, rfl⟩ := hd.isStr hs
      have hz := hO T rfl
      refine ⟨_, rfl, p, .str (Tx T), .str (Tx T), rfl, .str T, .inl ⟨T, rfl, hz, fun u H1 e1 hu => ?_⟩⟩
      refine g_name ?_
      dsimp only
      refine q_asg ev_c fun H2 e2 => ?_
      have hu2 : Tells T H2 u := by
        unfold Tells at hu ⊢
        cases ht : toldF T with
        | none => rw [ht] at hu; exact hu
        | some e => rw [ht] at hu; exact hu.ex e2
      refine ⟨_, rfl, p, .str (Tx T), .str (Tx T), rfl, .str T, .inl ⟨T, rfl, by omega, fun e j hj => ?_, fun e he w H3 e3 hw => ?_, fun hnone H3 e3 => ?_⟩⟩
      · have := term_mZ 10 hj
        have := term_le 10 (Nat.zero_le _) hj
        omega
      · refine g_name ?_
        dsimp only
        rw [← told_read] at he
        unfold Tells at hu2
        rw [he] at hu2
        have hu3 := hu2.ex e3
        obtain ⟨hT, _⟩ := told_iff.mp he
        obtain ⟨t, rfl, hx, hdp, hwt⟩ := termZ_tm hT
        obtain ⟨o1, o2, o3⟩ := tm_sz hx
        have sm : SmZ (tmD t) := ⟨o1, by omega, by omega⟩
        have hne : u ≠ .non := fun z => by rw [z] at hu3; cases hu3
        refine s_ret (v := .bl true) (ev_is (ev_andV (a := !decide (u = .non)) (b := decide (V.str (tmD t).shown = V.str (tmD t).shown)) (fun H4 e4 Q4 q4 => ⟨_, rfl, rfl, q4 H4 (Ex.refl _)⟩) fun _ => ev_op (fun H4 e4 Q4 q4 => ⟨_, rfl, p, w, tmD t, rfl, (hw.ex e4).dz, sm, q4 H4 (Ex.refl _)⟩) (fun H4 e4 Q4 q4 => ⟨_, rfl, p, u, tmD t, rfl, (hu3.ex e4).dz, sm, q4 H4 (Ex.refl _)⟩) (rv_eq rfl)) (by rw [decide_eq_false hne]; simp)) fun H4 e4 => q H4 (e1.trans (e2.trans (e3.trans e4)))
      · rw [← told_read] at hnone
        unfold Tells at hu2
        rw [hnone] at hu2
        refine ⟨true, B.x_m, fun _ a ha => ⟨⟨rfl, rfl⟩, refuse hu2 (e1.trans (e2.trans e3)) a⟩, fun z => by cases z⟩
    · have hs2 : isZ "str" d = false := by simpa using hs
      refine ⟨_, rfl, p, v, d, rfl, hd, .inr ⟨hs2, fun H1 e1 => ?_⟩⟩
      refine g_name ?_
      dsimp only
      refine q_asg ev_c fun H2 e2 => ?_
      refine ⟨_, rfl, p, v, d, rfl, hd.ex (e1.trans e2), .inr ⟨hs2, fun H3 e3 => ?_⟩⟩
      exact ⟨true, B.x_m, fun _ a ha => ⟨⟨rfl, rfl⟩, refuse rfl (e1.trans (e2.trans e3)) a⟩, fun z => by cases z⟩
theorem ok__law_odd {f f1 : Addr} {fd fd1 : FuncData} (F : Fun K "_law_odd" "_law_odd" s__law_odd f fd) (B : Bi K w mg dG dW dK a_NoValue a_NoNumber a_NoTerm a_NoText a_NoRow a_WireError)  (D__law_take : Df P w K mg base CX0 "_law_take" 1 f1 fd1 ["_law_pot_here", "_law_many"] (spTake)) : FnOk P w K mg base CX0 (2) f fd ["_law_pot_here"] (spOddT) := by
  refine F.ok sc__law_odd (fun vs H Q E h => ?_) (fun cdv A outer s H vs Q E hr h => ?_)
  · obtain ⟨p, rfl, _⟩ := h
    all_goals rfl
  · obtain ⟨p, rfl, hP, q⟩ := h
    refine ⟨_, (pss_cons (ps_set (i := 1) sc__law_odd.nd rfl (Or.inl rfl) (pe_lst (pa_cons pe_str (pa_cons pe_str (pa_cons pe_str (pa_cons pe_str (pa_cons pe_str (pa_cons pe_str (pa_cons pe_str (pa_cons pe_str (pa_cons pe_str (pa_cons pe_str (pa_cons pe_str (pa_cons pe_str (pa_cons pe_str pa_nil)))))))))))))))
      (pss_cons (ps_set (i := 1) sc__law_odd.nd rfl (Or.inl rfl) (pe_op op_cat (pv 1) (pe_lst (pa_cons pe_str (pa_cons pe_str (pa_cons pe_str (pa_cons pe_str (pa_cons pe_str (pa_cons pe_str pa_nil)))))))))
      (pss_cons (ps_set (i := 1) sc__law_odd.nd rfl (Or.inl rfl) (pe_op op_cat (pv 1) (pe_lst (pa_cons pe_str (pa_cons pe_str (pa_cons pe_str (pa_cons pe_str (pa_cons pe_str (pa_cons pe_str (pa_cons pe_non (pa_cons pe_int (pa_cons pe_bl (pa_cons (pe_lstN pa_nil) (pa_cons (pe_tup (pa_cons pe_str (pa_cons pe_str pa_nil))) (pa_cons (pe_lstN (pa_cons pe_str pa_nil)) (pa_cons pe_dnewK pa_nil))))))))))))))))
      (pss_cons (ps_set (i := 2) sc__law_odd.nd rfl (Or.inl rfl) (pe_lst (pa_cons (pe_op op_add_str (pe_op op_add_str (pe_op op_mulS pe_str pe_int) pe_str) (pe_op op_mulS pe_str pe_int)) (pa_cons (pe_op op_mulS pe_str pe_int) (pa_cons (pe_op op_add_str (pe_op op_add_str (pe_op op_mulS pe_str pe_int) pe_str) (pe_op op_mulS pe_str pe_int)) pa_nil)))))
      (pss_cons (ps_set (i := 2) sc__law_odd.nd rfl (Or.inl rfl) (pe_op op_cat (pv 2) (pe_lst (pa_cons (pe_op op_add_str (pe_op op_add_str (pe_op op_mulS pe_str pe_int) pe_str) (pe_op op_mulS pe_str pe_int)) (pa_cons (pe_op op_mulS pe_str pe_int) (pa_cons (pe_op op_mulS pe_str pe_int) pa_nil))))))
      (pss_one (ps_ret (pe_ix ix_list (pe_op op_cat (pv 1) (pv 2)) (pe_call D__law_take.ok (hr.mono (by decide)) (by rfl) D__law_take.g D__law_take.kp D__law_take.b .nil pass0 (pa_cons (pv 0) (pa_cons pe_int pa_nil))) (fun _ _ => rfl))))))))), ?_⟩
    refine q_asgYL (p := p) (ds := odA) (yl_lst (ya_cons (ey_s "") (ya_cons (ey_s "'") (ya_cons (ey_s "'z") (ya_cons (ey_s "'012") (ya_cons (ey_s "''0") (ya_cons (ey_s "is") (ya_cons (ey_s "not") (ya_cons (ey_s "not()") (ya_cons (ey_s "not(a") (ya_cons (ey_s "not a") (ya_cons (ey_s "not(a,b)") (ya_cons (ey_s "and(a,b)") (ya_cons (ey_s "and(a , b)") ya_nil))))))))))))) (by decide)) fun g1 xs1 H1 n1 e1 h1 d1 => ?_
    refine q_asgYL (p := p) (yl_cat (es := odB) (ev_var rfl) h1 d1 (yl_lst (ya_cons (ey_s "part(a, 3)") (ya_cons (ey_s "part(a, 3, 4)") (ya_cons (ey_s "part(a, 8, 0)") (ya_cons (ey_s "part(a, 03, 0)") (ya_cons (ey_s "part(a, b, 0)") (ya_cons (ey_s "join(a, b, c)") ya_nil)))))) (by decide)) (by decide)) fun g2 xs2 H2 n2 e2 h2 d2 => ?_
    have hP2 := hP.ex (e1.trans e2)
    refine q_asgYL (p := p) (yl_cat (es := odC) (ev_var rfl) h2 d2 (yl_lst (ya_cons (ey_s "filters") (ya_cons (ey_s "filter") (ya_cons (ey_s "of(a)") (ya_cons (ey_s "9a") (ya_cons (ey_s "A") (ya_cons (ey_s "ninesigns") (ya_cons (ey_v ev_c .non) (ya_cons (ey_v ev_c (.int _)) (ya_cons (ey_v ev_c (.bl _)) (ya_cons (ey_lst hP2 ya_nil (by decide)) (ya_cons (ey_tup (ya_cons (ey_s "of") (ya_cons (ey_s "a") ya_nil)) (by decide)) (ya_cons (ey_lst hP2 (ya_cons (ey_s "a") ya_nil) (by decide)) (ya_cons ey_dct ya_nil))))))))))))) (by decide)) (by decide)) fun g3 xs3 H3 n3 e3 h3 d3 => ?_
    refine q_asgYL (p := p) (ds := odD) (yl_lst (ya_cons (ey_v (ev_three (L := 4) (N := 1100) (L' := 1) (M := 1100) (by decide +kernel) (by decide) (by decide +kernel) (by decide) (by decide) (by decide) (by decide) (by decide) (by decide) (by decide)) (.str' _)) (ya_cons (ey_v (ev_mulX (L := 4) (N := 800) ev_c ev_c (by decide +kernel) (by decide) (by decide) (by decide) (by decide)) (.str' _)) (ya_cons (ey_v (ev_three (L := 5) (N := 600) (L' := 7) (M := 400) (by decide +kernel) (by decide) (by decide +kernel) (by decide) (by decide) (by decide) (by decide) (by decide) (by decide) (by decide)) (.str' _)) ya_nil))) (by decide)) fun g4 xs4 H4 n4 e4 h4 d4 => ?_
    refine q_asgYL (p := p) (yl_cat (es := odE) (ev_var rfl) h4 d4 (yl_lst (ya_cons (ey_v (ev_three (L := 4) (N := 11) (L' := 1) (M := 11) (by decide +kernel) (by decide) (by decide +kernel) (by decide) (by decide) (by decide) (by decide) (by decide) (by decide) (by decide)) (.str' _)) (ya_cons (ey_v (ev_mulX (L := 1) (N := 6000) ev_c ev_c (by decide +kernel) (by decide) (by decide) (by decide) (by decide)) (.str' _)) (ya_cons (ey_v (ev_mulX (L := 1) (N := 6000) ev_c ev_c (by decide +kernel) (by decide) (by decide) (by decide) (by decide)) (.str' _)) ya_nil))) (by decide)) (by decide)) fun g5 xs5 H5 n5 e5 h5 d5 => ?_
    have x5 := e1.trans (e2.trans (e3.trans (e4.trans e5)))
    have hP5 := hP.ex x5
    have h35 := e5 _ _ (e4 _ _ h3)
    have d35 := d3.ex (e4.trans e5)
    have hl3 := d3.len
    have hl5 := d5.len
    have hl : (xs3 ++ xs5).length = 38 := by
      rw [List.length_append, hl3, hl5]
      decide
    refine ⟨_, rfl, _, rfl, g3, g5, xs3, xs5, rfl, rfl, h35, h5, sz_of (by rw [List.length_append] at hl; omega), fun l nl => ⟨_, rfl, p, 38, rfl, hP5.ex (Ex.new nl), by decide, by decide, fun H7 k e7 hP7 k0 k1 => ?_⟩⟩
    have f6 := Ex.new (o := .lst (xs3 ++ xs5)) nl
    obtain ⟨k, rfl⟩ := Int.eq_ofNat_of_zero_le k0
    have hk : k < (xs3 ++ xs5).length := by omega
    have dall := (d35.app d5).ex f6
    obtain ⟨d, hd, hdz⟩ := dall.at (List.getElem?_eq_getElem hk)
    exact ⟨l, xs3 ++ xs5, (k : Int), (xs3 ++ xs5)[k], rfl, rfl, sq_of (e7 _ _ (hP5.ne nl) upd_same), atI_nat (by rw [List.getElem?_eq_getElem hk]), q H7 _ d ((ExB.of (x5.trans f6)).trans e7) hP7 (hdz.exB (hP5.ex f6) e7) (od_ok d (List.mem_of_getElem? hd))⟩
theorem ok_law {f f1 f2 f3 f4 f5 f6 f7 : Addr} {fd fd1 fd2 fd3 fd4 fd5 fd6 fd7 : FuncData} (F : Fun K "law" "law" s_law f fd) (B : Bi K w mg dG dW dK a_NoValue a_NoNumber a_NoTerm a_NoText a_NoRow a_WireError)  (D__law_pot : Df P w K mg base CX0 "_law_pot" 1 f1 fd1 ["_law_script", "_law_k"] (spPot K)) (D__law_take : Df P w K mg base CX0 "_law_take" 1 f2 fd2 ["_law_pot_here", "_law_many"] (spTake)) (D__law_drawn : Df P w K mg base CX0 "_law_drawn" 14 f3 fd3 ["_law_pot_here"] (spTmR)) (D__law_text : Df P w K mg base CX0 "_law_text" 13 f4 fd4 ["_law_term_here"] (spTT 11)) (D__law_spoilt : Df P w K mg base CX0 "_law_spoilt" 2 f5 fd5 ["_law_pot_here", "_law_text_here"] (spSpoiltT)) (D__law_right : DfG P w K mg base CX0 "_law_right" 26 f6 fd6 ["_law_text_here"] (spRightT)) (D__law_odd : Df P w K mg base CX0 "_law_odd" 2 f7 fd7 ["_law_pot_here"] (spOddT)) : FnG P w K mg base CX0 (27) f fd ["_law_script"] (spLaw K) := by
  refine F.okG sc_law (fun vs H Q E h => ?_) (fun cdv A outer s H vs Q E hG hr h => ?_)
  · obtain ⟨a, ns, rfl, _⟩ := h
    all_goals rfl
  · obtain ⟨a, ns, rfl, hS, hl, q⟩ := h
    refine ⟨_, (pss_cons (ps_for PassesOwn.never rfl (pi_range1 (by rfl) B.range (pa_cons (pe_callB (call_max2 rfl) (by rfl) B.max (by decide +kernel) (pa_cons pe_int (pa_cons (pe_callB (call_min2 rfl) (by rfl) B.min (by decide +kernel) (pa_cons pe_int (pa_cons (pe_callB call_len_seq (by rfl) B.len PySem.boot_len (pa_cons (pv 0) pa_nil)) pa_nil))) pa_nil))) pa_nil)) (pg_name (i := 1) sc_law.nd rfl (Or.inl rfl)) (pss_cons (ps_set (i := 2) sc_law.nd rfl (Or.inl rfl) (pe_call D__law_pot.ok (hr.mono (by decide)) (by rfl) D__law_pot.g D__law_pot.kp D__law_pot.b .nil pass0 (pa_cons (pv 0) (pa_cons (pv 1) pa_nil))))
      (pss_cons (ps_set (i := 3) sc_law.nd rfl (Or.inl rfl) (pe_call D__law_text.ok (hr.mono (by decide)) (by rfl) D__law_text.g D__law_text.kp D__law_text.b .nil pass0 (pa_cons (pe_call D__law_drawn.ok (hr.mono (by decide)) (by rfl) D__law_drawn.g D__law_drawn.kp D__law_drawn.b .nil pass0 (pa_cons (pv 2) pa_nil)) pa_nil)))
      (pss_cons (ps_set (i := 4) sc_law.nd rfl (Or.inl rfl) (pv 3))
      (pss_cons (ps_for PassesOwn.never rfl (pi_range1 (by rfl) B.range (pa_cons (pe_op op_add pe_int (pe_call D__law_take.ok (hr.mono (by decide)) (by rfl) D__law_take.g D__law_take.kp D__law_take.b .nil pass0 (pa_cons (pv 2) (pa_cons pe_int pa_nil)))) pa_nil)) (pg_name (i := 5) sc_law.nd rfl (Or.inl rfl)) (pss_cons (ps_set (i := 4) sc_law.nd rfl (Or.inl rfl) (pe_call D__law_spoilt.ok (hr.mono (by decide)) (by rfl) D__law_spoilt.g D__law_spoilt.kp D__law_spoilt.b .nil pass0 (pa_cons (pv 2) (pa_cons (pv 4) pa_nil))))
      (pss_one (ps_if (pt_not (pt_val (pe_callG D__law_right.ok hG (hr.mono (by decide)) (by rfl) D__law_right.g D__law_right.kp D__law_right.b .nil pass0 (pa_cons (pv 4) pa_nil)))) (pss_one (ps_ret pe_bl)) pss_nil))))
      (pss_one (ps_if (PW.pt (pw_or (pt_not (pt_val (pe_callG D__law_right.ok hG (hr.mono (by decide)) (by rfl) D__law_right.g D__law_right.kp D__law_right.b .nil pass0 (pa_cons (pe_call D__law_odd.ok (hr.mono (by decide)) (by rfl) D__law_odd.g D__law_odd.kp D__law_odd.b .nil pass0 (pa_cons (pv 2) pa_nil)) pa_nil)))) (pw_or1 (pt_not (pt_val (pe_callG D__law_right.ok hG (hr.mono (by decide)) (by rfl) D__law_right.g D__law_right.kp D__law_right.b .nil pass0 (pa_cons (pv 3) pa_nil))))))) (pss_one (ps_ret pe_bl)) pss_nil)))))))
      (pss_one (ps_ret pe_bl))), ?_⟩
    refine q_forR1 (n := if (if (ns.length : Int) < 8 then (ns.length : Int) else 8) > 1 then (if (ns.length : Int) < 8 then (ns.length : Int) else 8) else 1) ?_ ⟨by split <;> omega, by split <;> (try split) <;> omega⟩ (fun i σ' H' => (∃ a1 a2 a3 a4 a5, σ' = [some (.ref a), a1, a2, a3, a4, a5]) ∧ SqL K H' a (ns.map V.int))
      (fun H2 e2 => ⟨⟨none, none, none, none, none, rfl⟩, ex_l e2 hS⟩) (fun i σ' H0 hi hv => ?_) (fun σ' H' hv => ?_)
    · refine fun H2 e2 Q2 q2 => ?_
      refine ⟨_, rfl, a, _, rfl, .inl (ex_l e2 hS), _, _, rfl, _, _, rfl, ?_⟩
      rw [List.length_map]
      exact q2 _ (Ex.refl _)
    · obtain ⟨⟨a1, a2, a3, a4, a5, rfl⟩, hS2⟩ := hv
      have hi2 : (i : Int) ≤ 1000 := by
        revert hi
        split <;> (try split) <;> omega
      refine ⟨_, rfl, _, rfl, a, ns, _, rfl, hS2, by omega, hi2, fun p H2 np x2 hP => ?_⟩
      refine g_name ?_
      dsimp only
      refine ⟨_, rfl, p, rfl, hP, fun H3 v e3 hP3 hv => ?_⟩
      obtain ⟨t, ht, hx, hdp, hwt⟩ := hv
      refine ⟨v, t, rfl, ht, by omega, by omega, hx, fun H4 e4 => ?_⟩
      refine g_name ?_
      dsimp only
      have tl := tx_len hx
      refine q_asg (ev_var rfl) fun H5 e5 => ?_
      have hP5 := hP3.ex (e4.trans e5)
      have x5 := e3.trans (ExB.of (e4.trans e5))
      refine p_forR1 (m := 3) ((evp_add (evp_take rfl (by decide) (by decide))).mono fun u _ h => ?_) (by decide) hP5 (fun k σ' H' => (∃ (T : List Nat) (b5 : Option V), σ' = [some (.ref a), some (.int (i : Int)), some (.ref p), some (.str (Tx (txT t))), some (.str (Tx T)), b5] ∧ T.length ≤ 1200 + 20 * k) ∧ ExB p H2 H' ∧ PotAt H' p)
        (fun H6 e6 hP6 => ⟨⟨_, a5, rfl, by omega⟩, x5.trans e6, hP6⟩) (fun k σ' H6 hk hv => ?_) (fun n σ' H6 hn hv => ?_)
      · obtain ⟨dd, rfl, d0, d1⟩ := h
        exact ⟨dd, rfl, by omega, by omega⟩
      · obtain ⟨⟨T, b5, rfl, hT⟩, x6, hP6⟩ := hv
        refine ⟨_, rfl, _, rfl, p, T, rfl, hP6, by omega, fun H7 T' e7 hP7 hT' => ?_⟩
        refine g_name ?_
        exact s_when (b := false) (et_is (et_not (et_B (ev_call (vs := [.str (Tx T')]) (ea_cons (ev_var rfl) ea_nil) (fun H8 e8 Q8 q8 E8 => ⟨p, _, .str (Tx T'), rfl, .str _, fun S e => by
          have := Tx_inj (PyData.str.inj e)
          rw [← this]
          omega, q8⟩)))) rfl) (fun hb => by cases hb) (fun _ H8 e8 => ⟨⟨T', _, rfl, by omega⟩, (x6.trans e7).trans (ExB.of e8), hP7.ex e8⟩)
      · obtain ⟨⟨T, b5, rfl, hT⟩, x6, hP6⟩ := hv
        refine ⟨_, rfl, p, rfl, hP6, fun H7 u d e7 hP7 hu hok => ?_⟩
        refine ⟨p, u, d, rfl, hu, hok, fun H8 e8 => ⟨true, rfl, ?_⟩⟩
        refine iteF ?_
        refine (et_not (et_B (ev_call (vs := [.str (Tx (txT t))]) (ea_cons (ev_var rfl) ea_nil) (fun H9 e9 Q9 q9 E9 => ⟨p, _, .str (Tx (txT t)), rfl, .str _, fun S e => by
          have := Tx_inj (PyData.str.inj e)
          rw [← this]
          omega, q9⟩)))) H8 (Ex.refl _) _ fun H9 e9 => ?_
        refine iteF ?_
        exact ⟨⟨_, _, _, _, _, rfl⟩, ex_l (((x6.trans e7).trans (ExB.of (e8.trans e9))).back x2 np) hS2⟩
    · obtain ⟨⟨a1, a2, a3, a4, a5, rfl⟩, hS2⟩ := hv
      exact s_ret ev_c fun H3 e3 => q H3
end
theorem all_mk {l : PySem.W.OpenLaw} {w : World} {K : PySem.W.Frag} {h : Heap} {mg : Str → Option Value} {fa g0 g1 g2 g3 g4 g5 g6 g7 g8 g9 g10 g11 g12 g13 g14 g15 g16 g17 g18 g19 g20 g21 g22 g23 g24 g25 g26 g27 g28 g29 g30 g31 g32 g33 g34 g35 g36 g37 g38 Dk1 Dk2 : Addr} {od0 an0 od1 an1 od2 an2 od3 an3 od4 an4 od5 an5 od6 an6 od7 an7 od8 an8 od9 an9 od10 an10 od11 an11 od12 an12 od13 an13 od14 an14 od15 an15 od16 an16 od17 an17 od18 an18 od19 an19 od20 an20 od21 an21 od22 an22 od23 an23 od24 an24 od25 an25 od26 an26 od27 an27 od28 an28 od29 an29 od30 an30 od31 an31 od32 an32 od33 an33 od34 an34 od35 an35 od36 an36 od37 an37 od38 an38 : Option Addr} {sl0 sl1 sl2 sl3 sl4 sl5 sl6 sl7 sl8 sl9 sl10 sl11 sl12 sl13 sl14 sl15 sl16 sl17 sl18 sl19 sl20 sl21 sl22 sl23 sl24 sl25 sl26 sl27 sl28 sl29 sl30 sl31 sl32 sl33 sl34 sl35 sl36 sl37 sl38 : Array (Option Value)} {oc0 kV0 dc0 pm0 cd0 ct0 oc1 dc1 pm1 cd1 ct1 oc2 dc2 pm2 cd2 ct2 oc3 kV3 dc3 pm3 cd3 ct3 oc4 kV4 dc4 pm4 cd4 ct4 oc5 kV5 dc5 pm5 cd5 ct5 oc6 kV6 dc6 pm6 cd6 ct6 oc7 kV7 dc7 pm7 cd7 ct7 oc8 kV8 dc8 pm8 cd8 ct8 oc9 kV9 dc9 pm9 cd9 ct9 oc10 kV10 dc10 pm10 cd10 ct10 oc11 kV11 dc11 pm11 cd11 ct11 oc12 kV12 dc12 pm12 cd12 ct12 oc13 kV13 dc13 pm13 cd13 ct13 oc14 kV14 dc14 pm14 cd14 ct14 oc15 kV15 dc15 pm15 cd15 ct15 oc16 kV16 dc16 pm16 cd16 ct16 oc17 kV17 dc17 pm17 cd17 ct17 oc18 kV18 dc18 pm18 cd18 ct18 oc19 kV19 dc19 pm19 cd19 ct19 oc20 kV20 dc20 pm20 cd20 ct20 oc21 kV21 dc21 pm21 cd21 ct21 oc22 kV22 dc22 pm22 cd22 ct22 oc23 kV23 dc23 pm23 cd23 ct23 oc24 kV24 dc24 pm24 cd24 ct24 oc25 kV25 dc25 pm25 cd25 ct25 oc26 kV26 dc26 pm26 cd26 ct26 oc27 kV27 dc27 pm27 cd27 ct27 oc28 kV28 dc28 pm28 cd28 ct28 oc29 kV29 dc29 pm29 cd29 ct29 oc30 kV30 dc30 pm30 cd30 ct30 oc31 kV31 dc31 pm31 cd31 ct31 oc32 kV32 dc32 pm32 cd32 ct32 oc33 kV33 dc33 pm33 cd33 ct33 oc34 kV34 dc34 pm34 cd34 ct34 oc35 kV35 dc35 pm35 cd35 ct35 oc36 kV36 dc36 pm36 cd36 ct36 oc37 kV37 dc37 pm37 cd37 ct37 oc38 kV38 dc38 pm38 cd38 ct38 : Value} {ty0 ty1 ty2 ty3 ty4 ty5 ty6 ty7 td1_0 td2_0 : Tok} {dG : Addr} {esG : Array DictEntry} {nG : Nat} {tg_not tg_and tg_or tg_xor tg_plus tg_same tg_less tg_any tg_all tg_pick tg_join tg_part : Tok} {dW dK : Addr} {od_W od_K : Option Addr} {n_W n_K : Nat} {sl_W sl_K : Array (Option Value)} {tW0 tW1 tW2 tW3 tW4 tW5 tW6 tW7 tW8 tW9 tW10 tW11 tK0 tK1 tK2 tK3 tK4 : Tok} {a_NoValue a_NoNumber a_NoTerm a_NoText a_NoRow a_WireError : Addr} (X : K.In h) (G : h.Ns mainGlobals mg) (hfa : mg "law" = some (.ref fa))
    (a0 : PySem.W.nsIn K mainGlobals "is_whole" = some (some (.ref g0)))
    (l0 : K.lookup g0 = some ⟨oc0, od0, .func (PySem.W.fnOf "is_whole" "is_whole" (defArgs s_is_whole) (defBody s_is_whole) (defScope s_is_whole) .none (kV0) dc0 pm0 an0 cd0 ct0), sl0⟩)
    (c0 : PySem.W.codeIn K cd0 "is_whole" = true)
    (k0 : PySem.W.keepIn K (.ref g0) = true)
    (a1 : PySem.W.nsIn K mainGlobals "is_value" = some (some (.ref g1)))
    (l1 : K.lookup g1 = some ⟨oc1, od1, .func (PySem.W.fnOf "is_value" "is_value" (defArgs s_is_value) (defBody s_is_value) (defScope s_is_value) .none (.ref Dk1) dc1 pm1 an1 cd1 ct1), sl1⟩)
    (c1 : PySem.W.codeIn K cd1 "is_value" = true)
    (k1 : PySem.W.keepIn K (.ref g1) = true)
    (d1_0 : PySem.W.nsIn K Dk1 "width" = some (some (.int 0 td1_0)))
    (a2 : PySem.W.nsIn K mainGlobals "is_put_value" = some (some (.ref g2)))
    (l2 : K.lookup g2 = some ⟨oc2, od2, .func (PySem.W.fnOf "is_put_value" "is_put_value" (defArgs s_is_put_value) (defBody s_is_put_value) (defScope s_is_put_value) .none (.ref Dk2) dc2 pm2 an2 cd2 ct2), sl2⟩)
    (c2 : PySem.W.codeIn K cd2 "is_put_value" = true)
    (k2 : PySem.W.keepIn K (.ref g2) = true)
    (d2_0 : PySem.W.nsIn K Dk2 "width" = some (some (.int 0 td2_0)))
    (a3 : PySem.W.nsIn K mainGlobals "is_name" = some (some (.ref g3)))
    (l3 : K.lookup g3 = some ⟨oc3, od3, .func (PySem.W.fnOf "is_name" "is_name" (defArgs s_is_name) (defBody s_is_name) (defScope s_is_name) .none (kV3) dc3 pm3 an3 cd3 ct3), sl3⟩)
    (c3 : PySem.W.codeIn K cd3 "is_name" = true)
    (k3 : PySem.W.keepIn K (.ref g3) = true)
    (a4 : PySem.W.nsIn K mainGlobals "is_span" = some (some (.ref g4)))
    (l4 : K.lookup g4 = some ⟨oc4, od4, .func (PySem.W.fnOf "is_span" "is_span" (defArgs s_is_span) (defBody s_is_span) (defScope s_is_span) .none (kV4) dc4 pm4 an4 cd4 ct4), sl4⟩)
    (c4 : PySem.W.codeIn K cd4 "is_span" = true)
    (k4 : PySem.W.keepIn K (.ref g4) = true)
    (a5 : PySem.W.nsIn K mainGlobals "is_shell" = some (some (.ref g5)))
    (l5 : K.lookup g5 = some ⟨oc5, od5, .func (PySem.W.fnOf "is_shell" "is_shell" (defArgs s_is_shell) (defBody s_is_shell) (defScope s_is_shell) .none (kV5) dc5 pm5 an5 cd5 ct5), sl5⟩)
    (c5 : PySem.W.codeIn K cd5 "is_shell" = true)
    (k5 : PySem.W.keepIn K (.ref g5) = true)
    (a6 : PySem.W.nsIn K mainGlobals "arguments_of" = some (some (.ref g6)))
    (l6 : K.lookup g6 = some ⟨oc6, od6, .func (PySem.W.fnOf "arguments_of" "arguments_of" (defArgs s_arguments_of) (defBody s_arguments_of) (defScope s_arguments_of) .none (kV6) dc6 pm6 an6 cd6 ct6), sl6⟩)
    (c6 : PySem.W.codeIn K cd6 "arguments_of" = true)
    (k6 : PySem.W.keepIn K (.ref g6) = true)
    (a7 : PySem.W.nsIn K mainGlobals "is_term" = some (some (.ref g7)))
    (l7 : K.lookup g7 = some ⟨oc7, od7, .func (PySem.W.fnOf "is_term" "is_term" (defArgs s_is_term) (defBody s_is_term) (defScope s_is_term) .none (kV7) dc7 pm7 an7 cd7 ct7), sl7⟩)
    (c7 : PySem.W.codeIn K cd7 "is_term" = true)
    (k7 : PySem.W.keepIn K (.ref g7) = true)
    (a8 : PySem.W.nsIn K mainGlobals "run_at" = some (some (.ref g8)))
    (l8 : K.lookup g8 = some ⟨oc8, od8, .func (PySem.W.fnOf "run_at" "run_at" (defArgs s_run_at) (defBody s_run_at) (defScope s_run_at) .none (kV8) dc8 pm8 an8 cd8 ct8), sl8⟩)
    (c8 : PySem.W.codeIn K cd8 "run_at" = true)
    (k8 : PySem.W.keepIn K (.ref g8) = true)
    (a9 : PySem.W.nsIn K mainGlobals "behind" = some (some (.ref g9)))
    (l9 : K.lookup g9 = some ⟨oc9, od9, .func (PySem.W.fnOf "behind" "behind" (defArgs s_behind) (defBody s_behind) (defScope s_behind) .none (kV9) dc9 pm9 an9 cd9 ct9), sl9⟩)
    (c9 : PySem.W.codeIn K cd9 "behind" = true)
    (k9 : PySem.W.keepIn K (.ref g9) = true)
    (a10 : PySem.W.nsIn K mainGlobals "figure_at" = some (some (.ref g10)))
    (l10 : K.lookup g10 = some ⟨oc10, od10, .func (PySem.W.fnOf "figure_at" "figure_at" (defArgs s_figure_at) (defBody s_figure_at) (defScope s_figure_at) .none (kV10) dc10 pm10 an10 cd10 ct10), sl10⟩)
    (c10 : PySem.W.codeIn K cd10 "figure_at" = true)
    (k10 : PySem.W.keepIn K (.ref g10) = true)
    (a11 : PySem.W.nsIn K mainGlobals "operator_at" = some (some (.ref g11)))
    (l11 : K.lookup g11 = some ⟨oc11, od11, .func (PySem.W.fnOf "operator_at" "operator_at" (defArgs s_operator_at) (defBody s_operator_at) (defScope s_operator_at) .none (kV11) dc11 pm11 an11 cd11 ct11), sl11⟩)
    (c11 : PySem.W.codeIn K cd11 "operator_at" = true)
    (k11 : PySem.W.keepIn K (.ref g11) = true)
    (a12 : PySem.W.nsIn K mainGlobals "term_at" = some (some (.ref g12)))
    (l12 : K.lookup g12 = some ⟨oc12, od12, .func (PySem.W.fnOf "term_at" "term_at" (defArgs s_term_at) (defBody s_term_at) (defScope s_term_at) .none (kV12) dc12 pm12 an12 cd12 ct12), sl12⟩)
    (c12 : PySem.W.codeIn K cd12 "term_at" = true)
    (k12 : PySem.W.keepIn K (.ref g12) = true)
    (a13 : PySem.W.nsIn K mainGlobals "read_term" = some (some (.ref g13)))
    (l13 : K.lookup g13 = some ⟨oc13, od13, .func (PySem.W.fnOf "read_term" "read_term" (defArgs s_read_term) (defBody s_read_term) (defScope s_read_term) .none (kV13) dc13 pm13 an13 cd13 ct13), sl13⟩)
    (c13 : PySem.W.codeIn K cd13 "read_term" = true)
    (k13 : PySem.W.keepIn K (.ref g13) = true)
    (a14 : PySem.W.nsIn K mainGlobals "_law_pot" = some (some (.ref g14)))
    (l14 : K.lookup g14 = some ⟨oc14, od14, .func (PySem.W.fnOf "_law_pot" "_law_pot" (defArgs s__law_pot) (defBody s__law_pot) (defScope s__law_pot) .none (kV14) dc14 pm14 an14 cd14 ct14), sl14⟩)
    (c14 : PySem.W.codeIn K cd14 "_law_pot" = true)
    (k14 : PySem.W.keepIn K (.ref g14) = true)
    (a15 : PySem.W.nsIn K mainGlobals "_law_take" = some (some (.ref g15)))
    (l15 : K.lookup g15 = some ⟨oc15, od15, .func (PySem.W.fnOf "_law_take" "_law_take" (defArgs s__law_take) (defBody s__law_take) (defScope s__law_take) .none (kV15) dc15 pm15 an15 cd15 ct15), sl15⟩)
    (c15 : PySem.W.codeIn K cd15 "_law_take" = true)
    (k15 : PySem.W.keepIn K (.ref g15) = true)
    (a16 : PySem.W.nsIn K mainGlobals "_law_words" = some (some (.ref g16)))
    (l16 : K.lookup g16 = some ⟨oc16, od16, .func (PySem.W.fnOf "_law_words" "_law_words" (defArgs s__law_words) (defBody s__law_words) (defScope s__law_words) .none (kV16) dc16 pm16 an16 cd16 ct16), sl16⟩)
    (c16 : PySem.W.codeIn K cd16 "_law_words" = true)
    (k16 : PySem.W.keepIn K (.ref g16) = true)
    (a17 : PySem.W.nsIn K mainGlobals "_law_name" = some (some (.ref g17)))
    (l17 : K.lookup g17 = some ⟨oc17, od17, .func (PySem.W.fnOf "_law_name" "_law_name" (defArgs s__law_name) (defBody s__law_name) (defScope s__law_name) .none (kV17) dc17 pm17 an17 cd17 ct17), sl17⟩)
    (c17 : PySem.W.codeIn K cd17 "_law_name" = true)
    (k17 : PySem.W.keepIn K (.ref g17) = true)
    (a18 : PySem.W.nsIn K mainGlobals "_law_names" = some (some (.ref g18)))
    (l18 : K.lookup g18 = some ⟨oc18, od18, .func (PySem.W.fnOf "_law_names" "_law_names" (defArgs s__law_names) (defBody s__law_names) (defScope s__law_names) .none (kV18) dc18 pm18 an18 cd18 ct18), sl18⟩)
    (c18 : PySem.W.codeIn K cd18 "_law_names" = true)
    (k18 : PySem.W.keepIn K (.ref g18) = true)
    (a19 : PySem.W.nsIn K mainGlobals "_law_bits" = some (some (.ref g19)))
    (l19 : K.lookup g19 = some ⟨oc19, od19, .func (PySem.W.fnOf "_law_bits" "_law_bits" (defArgs s__law_bits) (defBody s__law_bits) (defScope s__law_bits) .none (kV19) dc19 pm19 an19 cd19 ct19), sl19⟩)
    (c19 : PySem.W.codeIn K cd19 "_law_bits" = true)
    (k19 : PySem.W.keepIn K (.ref g19) = true)
    (a20 : PySem.W.nsIn K mainGlobals "_law_leaf" = some (some (.ref g20)))
    (l20 : K.lookup g20 = some ⟨oc20, od20, .func (PySem.W.fnOf "_law_leaf" "_law_leaf" (defArgs s__law_leaf) (defBody s__law_leaf) (defScope s__law_leaf) .none (kV20) dc20 pm20 an20 cd20 ct20), sl20⟩)
    (c20 : PySem.W.codeIn K cd20 "_law_leaf" = true)
    (k20 : PySem.W.keepIn K (.ref g20) = true)
    (a21 : PySem.W.nsIn K mainGlobals "_law_bit_term" = some (some (.ref g21)))
    (l21 : K.lookup g21 = some ⟨oc21, od21, .func (PySem.W.fnOf "_law_bit_term" "_law_bit_term" (defArgs s__law_bit_term) (defBody s__law_bit_term) (defScope s__law_bit_term) .none (kV21) dc21 pm21 an21 cd21 ct21), sl21⟩)
    (c21 : PySem.W.codeIn K cd21 "_law_bit_term" = true)
    (k21 : PySem.W.keepIn K (.ref g21) = true)
    (a22 : PySem.W.nsIn K mainGlobals "_law_term" = some (some (.ref g22)))
    (l22 : K.lookup g22 = some ⟨oc22, od22, .func (PySem.W.fnOf "_law_term" "_law_term" (defArgs s__law_term) (defBody s__law_term) (defScope s__law_term) .none (kV22) dc22 pm22 an22 cd22 ct22), sl22⟩)
    (c22 : PySem.W.codeIn K cd22 "_law_term" = true)
    (k22 : PySem.W.keepIn K (.ref g22) = true)
    (a23 : PySem.W.nsIn K mainGlobals "_law_is_name" = some (some (.ref g23)))
    (l23 : K.lookup g23 = some ⟨oc23, od23, .func (PySem.W.fnOf "_law_is_name" "_law_is_name" (defArgs s__law_is_name) (defBody s__law_is_name) (defScope s__law_is_name) .none (kV23) dc23 pm23 an23 cd23 ct23), sl23⟩)
    (c23 : PySem.W.codeIn K cd23 "_law_is_name" = true)
    (k23 : PySem.W.keepIn K (.ref g23) = true)
    (a24 : PySem.W.nsIn K mainGlobals "_law_is_number" = some (some (.ref g24)))
    (l24 : K.lookup g24 = some ⟨oc24, od24, .func (PySem.W.fnOf "_law_is_number" "_law_is_number" (defArgs s__law_is_number) (defBody s__law_is_number) (defScope s__law_is_number) .none (kV24) dc24 pm24 an24 cd24 ct24), sl24⟩)
    (c24 : PySem.W.codeIn K cd24 "_law_is_number" = true)
    (k24 : PySem.W.keepIn K (.ref g24) = true)
    (a25 : PySem.W.nsIn K mainGlobals "_law_is_leaf" = some (some (.ref g25)))
    (l25 : K.lookup g25 = some ⟨oc25, od25, .func (PySem.W.fnOf "_law_is_leaf" "_law_is_leaf" (defArgs s__law_is_leaf) (defBody s__law_is_leaf) (defScope s__law_is_leaf) .none (kV25) dc25 pm25 an25 cd25 ct25), sl25⟩)
    (c25 : PySem.W.codeIn K cd25 "_law_is_leaf" = true)
    (k25 : PySem.W.keepIn K (.ref g25) = true)
    (a26 : PySem.W.nsIn K mainGlobals "_law_weight" = some (some (.ref g26)))
    (l26 : K.lookup g26 = some ⟨oc26, od26, .func (PySem.W.fnOf "_law_weight" "_law_weight" (defArgs s__law_weight) (defBody s__law_weight) (defScope s__law_weight) .none (kV26) dc26 pm26 an26 cd26 ct26), sl26⟩)
    (c26 : PySem.W.codeIn K cd26 "_law_weight" = true)
    (k26 : PySem.W.keepIn K (.ref g26) = true)
    (a27 : PySem.W.nsIn K mainGlobals "_law_is_term" = some (some (.ref g27)))
    (l27 : K.lookup g27 = some ⟨oc27, od27, .func (PySem.W.fnOf "_law_is_term" "_law_is_term" (defArgs s__law_is_term) (defBody s__law_is_term) (defScope s__law_is_term) .none (kV27) dc27 pm27 an27 cd27 ct27), sl27⟩)
    (c27 : PySem.W.codeIn K cd27 "_law_is_term" = true)
    (k27 : PySem.W.keepIn K (.ref g27) = true)
    (a28 : PySem.W.nsIn K mainGlobals "_law_text" = some (some (.ref g28)))
    (l28 : K.lookup g28 = some ⟨oc28, od28, .func (PySem.W.fnOf "_law_text" "_law_text" (defArgs s__law_text) (defBody s__law_text) (defScope s__law_text) .none (kV28) dc28 pm28 an28 cd28 ct28), sl28⟩)
    (c28 : PySem.W.codeIn K cd28 "_law_text" = true)
    (k28 : PySem.W.keepIn K (.ref g28) = true)
    (a29 : PySem.W.nsIn K mainGlobals "_law_tall" = some (some (.ref g29)))
    (l29 : K.lookup g29 = some ⟨oc29, od29, .func (PySem.W.fnOf "_law_tall" "_law_tall" (defArgs s__law_tall) (defBody s__law_tall) (defScope s__law_tall) .none (kV29) dc29 pm29 an29 cd29 ct29), sl29⟩)
    (c29 : PySem.W.codeIn K cd29 "_law_tall" = true)
    (k29 : PySem.W.keepIn K (.ref g29) = true)
    (a30 : PySem.W.nsIn K mainGlobals "_law_wide" = some (some (.ref g30)))
    (l30 : K.lookup g30 = some ⟨oc30, od30, .func (PySem.W.fnOf "_law_wide" "_law_wide" (defArgs s__law_wide) (defBody s__law_wide) (defScope s__law_wide) .none (kV30) dc30 pm30 an30 cd30 ct30), sl30⟩)
    (c30 : PySem.W.codeIn K cd30 "_law_wide" = true)
    (k30 : PySem.W.keepIn K (.ref g30) = true)
    (a31 : PySem.W.nsIn K mainGlobals "_law_drawn" = some (some (.ref g31)))
    (l31 : K.lookup g31 = some ⟨oc31, od31, .func (PySem.W.fnOf "_law_drawn" "_law_drawn" (defArgs s__law_drawn) (defBody s__law_drawn) (defScope s__law_drawn) .none (kV31) dc31 pm31 an31 cd31 ct31), sl31⟩)
    (c31 : PySem.W.codeIn K cd31 "_law_drawn" = true)
    (k31 : PySem.W.keepIn K (.ref g31) = true)
    (a32 : PySem.W.nsIn K mainGlobals "_law_parts" = some (some (.ref g32)))
    (l32 : K.lookup g32 = some ⟨oc32, od32, .func (PySem.W.fnOf "_law_parts" "_law_parts" (defArgs s__law_parts) (defBody s__law_parts) (defScope s__law_parts) .none (kV32) dc32 pm32 an32 cd32 ct32), sl32⟩)
    (c32 : PySem.W.codeIn K cd32 "_law_parts" = true)
    (k32 : PySem.W.keepIn K (.ref g32) = true)
    (a33 : PySem.W.nsIn K mainGlobals "_law_guess" = some (some (.ref g33)))
    (l33 : K.lookup g33 = some ⟨oc33, od33, .func (PySem.W.fnOf "_law_guess" "_law_guess" (defArgs s__law_guess) (defBody s__law_guess) (defScope s__law_guess) .none (kV33) dc33 pm33 an33 cd33 ct33), sl33⟩)
    (c33 : PySem.W.codeIn K cd33 "_law_guess" = true)
    (k33 : PySem.W.keepIn K (.ref g33) = true)
    (a34 : PySem.W.nsIn K mainGlobals "_law_told_by" = some (some (.ref g34)))
    (l34 : K.lookup g34 = some ⟨oc34, od34, .func (PySem.W.fnOf "_law_told_by" "_law_told_by" (defArgs s__law_told_by) (defBody s__law_told_by) (defScope s__law_told_by) .none (kV34) dc34 pm34 an34 cd34 ct34), sl34⟩)
    (c34 : PySem.W.codeIn K cd34 "_law_told_by" = true)
    (k34 : PySem.W.keepIn K (.ref g34) = true)
    (a35 : PySem.W.nsIn K mainGlobals "_law_spoilt" = some (some (.ref g35)))
    (l35 : K.lookup g35 = some ⟨oc35, od35, .func (PySem.W.fnOf "_law_spoilt" "_law_spoilt" (defArgs s__law_spoilt) (defBody s__law_spoilt) (defScope s__law_spoilt) .none (kV35) dc35 pm35 an35 cd35 ct35), sl35⟩)
    (c35 : PySem.W.codeIn K cd35 "_law_spoilt" = true)
    (k35 : PySem.W.keepIn K (.ref g35) = true)
    (a36 : PySem.W.nsIn K mainGlobals "_law_right" = some (some (.ref g36)))
    (l36 : K.lookup g36 = some ⟨oc36, od36, .func (PySem.W.fnOf "_law_right" "_law_right" (defArgs s__law_right) (defBody s__law_right) (defScope s__law_right) .none (kV36) dc36 pm36 an36 cd36 ct36), sl36⟩)
    (c36 : PySem.W.codeIn K cd36 "_law_right" = true)
    (k36 : PySem.W.keepIn K (.ref g36) = true)
    (a37 : PySem.W.nsIn K mainGlobals "_law_odd" = some (some (.ref g37)))
    (l37 : K.lookup g37 = some ⟨oc37, od37, .func (PySem.W.fnOf "_law_odd" "_law_odd" (defArgs s__law_odd) (defBody s__law_odd) (defScope s__law_odd) .none (kV37) dc37 pm37 an37 cd37 ct37), sl37⟩)
    (c37 : PySem.W.codeIn K cd37 "_law_odd" = true)
    (k37 : PySem.W.keepIn K (.ref g37) = true)
    (a38 : PySem.W.nsIn K mainGlobals "law" = some (some (.ref g38)))
    (l38 : K.lookup g38 = some ⟨oc38, od38, .func (PySem.W.fnOf "law" "law" (defArgs s_law) (defBody s_law) (defScope s_law) .none (kV38) dc38 pm38 an38 cd38 ct38), sl38⟩)
    (c38 : PySem.W.codeIn K cd38 "law" = true)
    (k38 : PySem.W.keepIn K (.ref g38) = true)
    (z0 : PySem.W.nsIn K mainGlobals "ValueError" = some none)
    (z1 : PySem.W.nsIn K mainGlobals "all" = some none)
    (z2 : PySem.W.nsIn K mainGlobals "bool" = some none)
    (z3 : PySem.W.nsIn K mainGlobals "dict" = some none)
    (z4 : PySem.W.nsIn K mainGlobals "divmod" = some none)
    (z5 : PySem.W.nsIn K mainGlobals "enumerate" = some none)
    (z6 : PySem.W.nsIn K mainGlobals "int" = some none)
    (z7 : PySem.W.nsIn K mainGlobals "isinstance" = some none)
    (z8 : PySem.W.nsIn K mainGlobals "len" = some none)
    (z9 : PySem.W.nsIn K mainGlobals "list" = some none)
    (z10 : PySem.W.nsIn K mainGlobals "max" = some none)
    (z11 : PySem.W.nsIn K mainGlobals "min" = some none)
    (z12 : PySem.W.nsIn K mainGlobals "range" = some none)
    (z13 : PySem.W.nsIn K mainGlobals "repr" = some none)
    (z14 : PySem.W.nsIn K mainGlobals "str" = some none)
    (z15 : PySem.W.nsIn K mainGlobals "sum" = some none)
    (z16 : PySem.W.nsIn K mainGlobals "tuple" = some none)
    (y0 : PySem.W.nsIn K mainGlobals "BIT_FIGURES" = some (some (.str (Str.ofString "01234567") ty0)))
    (y1 : PySem.W.nsIn K mainGlobals "DEEPEST_TERM" = some (some (.int 10 ty1)))
    (y2 : PySem.W.nsIn K mainGlobals "LETTERS" = some (some (.str (Str.ofString "abcdefghijklmnopqrstuvwxyz") ty2)))
    (y3 : PySem.W.nsIn K mainGlobals "LONGEST_NAME" = some (some (.int 8 ty3)))
    (y4 : PySem.W.nsIn K mainGlobals "MOST_TUPLES" = some (some (.int 60 ty4)))
    (y5 : PySem.W.nsIn K mainGlobals "NAME_SIGNS" = some (some (.str (Str.ofString "abcdefghijklmnopqrstuvwxyz0123456789") ty5)))
    (y6 : PySem.W.nsIn K mainGlobals "SIGNS" = some (some (.str (Str.ofString "01xz") ty6)))
    (y7 : PySem.W.nsIn K mainGlobals "WIDEST" = some (some (.int 8 ty7)))
    (y_G : PySem.W.nsIn K mainGlobals "ARGUMENTS" = some (some (.ref dG)))
    (yl_G : K.lookup dG = some ⟨.type "dict", none, .dict esG nG, #[]⟩)
    (yk_G : PySem.W.KeysLit w.params esG.toList)
    (ye_G_not : PySem.W.nsIn K dG "not" = some (some (.int 1 tg_not)))
    (ye_G_and : PySem.W.nsIn K dG "and" = some (some (.int 2 tg_and)))
    (ye_G_or : PySem.W.nsIn K dG "or" = some (some (.int 2 tg_or)))
    (ye_G_xor : PySem.W.nsIn K dG "xor" = some (some (.int 2 tg_xor)))
    (ye_G_plus : PySem.W.nsIn K dG "plus" = some (some (.int 2 tg_plus)))
    (ye_G_same : PySem.W.nsIn K dG "same" = some (some (.int 2 tg_same)))
    (ye_G_less : PySem.W.nsIn K dG "less" = some (some (.int 2 tg_less)))
    (ye_G_any : PySem.W.nsIn K dG "any" = some (some (.int 1 tg_any)))
    (ye_G_all : PySem.W.nsIn K dG "all" = some (some (.int 1 tg_all)))
    (ye_G_pick : PySem.W.nsIn K dG "pick" = some (some (.int 3 tg_pick)))
    (ye_G_join : PySem.W.nsIn K dG "join" = some (some (.int 2 tg_join)))
    (ye_G_part : PySem.W.nsIn K dG "part" = some (some (.int 1 tg_part)))
    (y_W : PySem.W.nsIn K mainGlobals "WORDS" = some (some (.ref dW)))
    (yl_W : K.lookup dW = some ⟨.type "tuple", od_W, .seq #[.str (Str.ofString "not") tW0, .str (Str.ofString "and") tW1, .str (Str.ofString "or") tW2, .str (Str.ofString "xor") tW3, .str (Str.ofString "plus") tW4, .str (Str.ofString "same") tW5, .str (Str.ofString "less") tW6, .str (Str.ofString "any") tW7, .str (Str.ofString "all") tW8, .str (Str.ofString "pick") tW9, .str (Str.ofString "join") tW10, .str (Str.ofString "part") tW11] n_W, sl_W⟩)
    (y_K : PySem.W.nsIn K mainGlobals "KEPT_WORDS" = some (some (.ref dK)))
    (yl_K : K.lookup dK = some ⟨.type "tuple", od_K, .seq #[.str (Str.ofString "is") tK0, .str (Str.ofString "of") tK1, .str (Str.ofString "at") tK2, .str (Str.ofString "filters") tK3, .str (Str.ofString "later") tK4] n_K, sl_K⟩)
    (yw_G : (dG == sysModules) = false)
    (yx_G : (esG.toList.all fun e => !e.refKey && (argN.map (·.1)).any fun x => e.key.isStr x) = true)
    (y_NoValue : PySem.W.nsIn K mainGlobals "NoValue" = some (some (.ref a_NoValue)))
    (y_NoNumber : PySem.W.nsIn K mainGlobals "NoNumber" = some (some (.ref a_NoNumber)))
    (y_NoTerm : PySem.W.nsIn K mainGlobals "NoTerm" = some (some (.ref a_NoTerm)))
    (y_NoText : PySem.W.nsIn K mainGlobals "NoText" = some (some (.ref a_NoText)))
    (y_NoRow : PySem.W.nsIn K mainGlobals "NoRow" = some (some (.ref a_NoRow)))
    (y_WireError : PySem.W.nsIn K mainGlobals "WireError" = some (some (.ref a_WireError)))
    (i_NoValue : PySem.W.isClsIn K a_NoValue = true)
    (i_NoNumber : PySem.W.isClsIn K a_NoNumber = true)
    (i_NoTerm : PySem.W.isClsIn K a_NoTerm = true)
    (i_NoText : PySem.W.isClsIn K a_NoText = true)
    (i_NoRow : PySem.W.isClsIn K a_NoRow = true)
    (i_WireError : PySem.W.isClsIn K a_WireError = true)
    (t_NoValue : PySem.W.typeIn K (.ref a_NoValue) = some (.type "type"))
    (t_NoNumber : PySem.W.typeIn K (.ref a_NoNumber) = some (.type "type"))
    (t_NoTerm : PySem.W.typeIn K (.ref a_NoTerm) = some (.type "type"))
    (t_NoText : PySem.W.typeIn K (.ref a_NoText) = some (.type "type"))
    (t_NoRow : PySem.W.typeIn K (.ref a_NoRow) = some (.type "type"))
    (t_WireError : PySem.W.typeIn K (.ref a_WireError) = some (.type "type"))
    (b_NoText : PySem.W.subIn K (.ref a_NoText) (.type "BaseException") = some true)
    (b_WireError : PySem.W.subIn K (.ref a_WireError) (.type "BaseException") = some true)
    (s_NoText_NoValue : PySem.W.subIn K (.ref a_NoText) (.ref a_NoValue) = some false)
    (s_NoText_NoNumber : PySem.W.subIn K (.ref a_NoText) (.ref a_NoNumber) = some false)
    (s_NoText_NoTerm : PySem.W.subIn K (.ref a_NoText) (.ref a_NoTerm) = some false)
    (s_NoText_NoText : PySem.W.subIn K (.ref a_NoText) (.ref a_NoText) = some true)
    (s_NoText_NoRow : PySem.W.subIn K (.ref a_NoText) (.ref a_NoRow) = some false)
    (s_NoText_WireError : PySem.W.subIn K (.ref a_NoText) (.ref a_WireError) = some true)
    (v_NoText : PySem.W.subIn K (.ref a_NoText) (.type "ValueError") = some true)
    (x_NoText : PySem.W.excIn K a_NoText [.type "ValueError", .type "Exception", .type "BaseException", .type "object"] "ValueError.__new__" = true)
    (k_NoText : PySem.W.keepIn K (.ref a_NoText) = true)
    (e1_NoText : PySem.W.findIn K (.ref a_NoText) "__getattribute__" = some (some (.builtin "BaseException.__getattribute__")))
    (e2_NoText : PySem.W.findIn K (.ref a_NoText) "__getattr__" = some none)
    (e3_NoText : PySem.W.hasDictIn K a_NoText = true)
    (e4_NoText : PySem.W.findIn K (.ref a_NoText) "__class__" = some (some (.builtin "object.__class__")))
    (e7_NoText : PySem.W.mroIn K a_NoText (.type "object") = some true)
    (e5 : PySem.W.specialIn K (.builtin "object.__class__") "__get__" = some (some (.builtin "getset_descriptor.__get__")))
    (e6 : PySem.W.takesIn K (.builtin "object.__class__") = some true)
    : ∃ fd : FuncData, (∀ (s : Shared) (v : Value), BindsTo s fd ⟨[v], []⟩ [("_law_script", v)]) ∧ ∀ base : Heap, K.In base → base.Ns mainGlobals mg → FnG l.prog w K mg base CX0 27 fa fd ["_law_script"] (spLaw K) := by
  have e := hfa.symm.trans (PySem.W.mg_of X G a38)
  cases e
  have B : Bi K w mg dG dW dK a_NoValue a_NoNumber a_NoTerm a_NoText a_NoRow a_WireError := ⟨PySem.W.mg_none_of X G z0, PySem.W.mg_none_of X G z1, PySem.W.mg_none_of X G z2, PySem.W.mg_none_of X G z3, PySem.W.mg_none_of X G z4, PySem.W.mg_none_of X G z5, PySem.W.mg_none_of X G z6, PySem.W.mg_none_of X G z7, PySem.W.mg_none_of X G z8, PySem.W.mg_none_of X G z9, PySem.W.mg_none_of X G z10, PySem.W.mg_none_of X G z11, PySem.W.mg_none_of X G z12, PySem.W.mg_none_of X G z13, PySem.W.mg_none_of X G z14, PySem.W.mg_none_of X G z15, PySem.W.mg_none_of X G z16, ⟨_, PySem.W.mg_of X G y0, _, rfl⟩, ⟨_, PySem.W.mg_of X G y1, _, rfl⟩, ⟨_, PySem.W.mg_of X G y2, _, rfl⟩, ⟨_, PySem.W.mg_of X G y3, _, rfl⟩, ⟨_, PySem.W.mg_of X G y4, _, rfl⟩, ⟨_, PySem.W.mg_of X G y5, _, rfl⟩, ⟨_, PySem.W.mg_of X G y6, _, rfl⟩, ⟨_, PySem.W.mg_of X G y7, _, rfl⟩, ⟨_, PySem.W.mg_of X G y_G, rfl⟩, fun p hp => by
    simp only [argN, List.mem_cons, List.not_mem_nil, or_false] at hp
    rcases hp with rfl | rfl | rfl | rfl | rfl | rfl | rfl | rfl | rfl | rfl | rfl | rfl
    · exact ⟨_, _, _, yl_G, yk_G, ye_G_not, _, rfl⟩
    · exact ⟨_, _, _, yl_G, yk_G, ye_G_and, _, rfl⟩
    · exact ⟨_, _, _, yl_G, yk_G, ye_G_or, _, rfl⟩
    · exact ⟨_, _, _, yl_G, yk_G, ye_G_xor, _, rfl⟩
    · exact ⟨_, _, _, yl_G, yk_G, ye_G_plus, _, rfl⟩
    · exact ⟨_, _, _, yl_G, yk_G, ye_G_same, _, rfl⟩
    · exact ⟨_, _, _, yl_G, yk_G, ye_G_less, _, rfl⟩
    · exact ⟨_, _, _, yl_G, yk_G, ye_G_any, _, rfl⟩
    · exact ⟨_, _, _, yl_G, yk_G, ye_G_all, _, rfl⟩
    · exact ⟨_, _, _, yl_G, yk_G, ye_G_pick, _, rfl⟩
    · exact ⟨_, _, _, yl_G, yk_G, ye_G_join, _, rfl⟩
    · exact ⟨_, _, _, yl_G, yk_G, ye_G_part, _, rfl⟩, ⟨_, _, yl_G, yk_G, yw_G⟩, noArg_of yl_G yx_G, ⟨_, PySem.W.mg_of X G y_W, rfl⟩, ⟨_, PySem.W.mg_of X G y_K, rfl⟩, fun H => .inr ⟨_, _, _, yl_W, rfl, rfl, by show 12 ≤ sizeLine; decide, (.cons ⟨_, rfl⟩ (.cons ⟨_, rfl⟩ (.cons ⟨_, rfl⟩ (.cons ⟨_, rfl⟩ (.cons ⟨_, rfl⟩ (.cons ⟨_, rfl⟩ (.cons ⟨_, rfl⟩ (.cons ⟨_, rfl⟩ (.cons ⟨_, rfl⟩ (.cons ⟨_, rfl⟩ (.cons ⟨_, rfl⟩ (.cons ⟨_, rfl⟩ .nil))))))))))))⟩, fun H => .inr ⟨_, _, _, yl_K, rfl, rfl, by show 5 ≤ sizeLine; decide, (.cons ⟨_, rfl⟩ (.cons ⟨_, rfl⟩ (.cons ⟨_, rfl⟩ (.cons ⟨_, rfl⟩ (.cons ⟨_, rfl⟩ .nil)))))⟩, ⟨_, PySem.W.mg_of X G y_NoValue, rfl⟩, ⟨_, PySem.W.mg_of X G y_NoNumber, rfl⟩, ⟨_, PySem.W.mg_of X G y_NoTerm, rfl⟩, ⟨_, PySem.W.mg_of X G y_NoText, rfl⟩, ⟨_, PySem.W.mg_of X G y_NoRow, rfl⟩, ⟨_, PySem.W.mg_of X G y_WireError, rfl⟩, x_NoText, PySem.W.mg_of X G y_NoText, k_NoText, b_NoText, t_NoText, kit_no i_NoValue t_NoValue s_NoText_NoValue s_NoText_NoText, kit_no i_NoNumber t_NoNumber s_NoText_NoNumber s_NoText_NoText, kit_no i_NoTerm t_NoTerm s_NoText_NoTerm s_NoText_NoText, kit_by i_NoText t_NoText s_NoText_NoText, kit_no i_NoRow t_NoRow s_NoText_NoRow s_NoText_NoText, kit_by i_WireError t_WireError s_NoText_WireError, kit_byT (by decide +kernel) v_NoText, PySem.W.mg_of X G y_WireError, exm_by b_WireError i_WireError t_WireError s_NoText_WireError, ⟨e1_NoText, e2_NoText, b_NoText, e3_NoText, e4_NoText, e5, e6, e7_NoText⟩⟩
  have F0 := fun_mk (st := s_is_whole) l0 c0 k0
  have b0 := F0.binds (ps := ["thing"]) fun _ _ _ _ _ _ us hl => match us, hl with | [_], _ => rfl
  have F1 : FunD K "is_value" "is_value" (defArgs s_is_value) (defBody s_is_value) (defScope s_is_value) [] [("width", .int 0)] g1 (PySem.W.fnOf "is_value" "is_value" (defArgs s_is_value) (defBody s_is_value) (defScope s_is_value) .none (.ref Dk1) dc1 pm1 an1 cd1 ct1) := ⟨⟨_, _, _, _, _, _, _, _, _, _, rfl, l1, c1, .inl ⟨rfl, rfl⟩, .inr ⟨Dk1, rfl, fun q hq => by
    simp only [List.mem_cons, List.not_mem_nil, or_false] at hq
    rcases hq with rfl
    · exact ⟨_, d1_0, _, rfl⟩
    ⟩⟩, k1⟩
  have kb_is_value_width : KBn K (PySem.W.fnOf "is_value" "is_value" (defArgs s_is_value) (defBody s_is_value) (defScope s_is_value) .none (.ref Dk1) dc1 pm1 an1 cd1 ct1) ["thing", "width"] 1 ["width"] (fun us ws => us ++ ws) (fun vs zs => vs ++ zs) := ⟨fun s us ws _ hu hw => match us, ws, hu, hw with | [_], [_], _, _ => .of_eq rfl, fun r1 r2 => r1.append r2⟩
  have F2 : FunD K "is_put_value" "is_put_value" (defArgs s_is_put_value) (defBody s_is_put_value) (defScope s_is_put_value) [] [("width", .int 0)] g2 (PySem.W.fnOf "is_put_value" "is_put_value" (defArgs s_is_put_value) (defBody s_is_put_value) (defScope s_is_put_value) .none (.ref Dk2) dc2 pm2 an2 cd2 ct2) := ⟨⟨_, _, _, _, _, _, _, _, _, _, rfl, l2, c2, .inl ⟨rfl, rfl⟩, .inr ⟨Dk2, rfl, fun q hq => by
    simp only [List.mem_cons, List.not_mem_nil, or_false] at hq
    rcases hq with rfl
    · exact ⟨_, d2_0, _, rfl⟩
    ⟩⟩, k2⟩
  obtain ⟨ds2, v2_0, b2_0⟩ := F2.binds0 (ps := ["thing", "width"]) 1 (by decide) rfl fun D doc pm an cdv ct us ks hu hk => match us, ks, hu, hk with | [_], [_], _, _ => ⟨_, _, _, _, _, _, rfl, rfl, rfl⟩
  have F3 := fun_mk (st := s_is_name) l3 c3 k3
  have b3 := F3.binds (ps := ["thing"]) fun _ _ _ _ _ _ us hl => match us, hl with | [_], _ => rfl
  have F4 := fun_mk (st := s_is_span) l4 c4 k4
  have b4 := F4.binds (ps := ["high", "low"]) fun _ _ _ _ _ _ us hl => match us, hl with | [_, _], _ => rfl
  have F5 := fun_mk (st := s_is_shell) l5 c5 k5
  have b5 := F5.binds (ps := ["thing"]) fun _ _ _ _ _ _ us hl => match us, hl with | [_], _ => rfl
  have F6 := fun_mk (st := s_arguments_of) l6 c6 k6
  have b6 := F6.binds (ps := ["term"]) fun _ _ _ _ _ _ us hl => match us, hl with | [_], _ => rfl
  have F7 := fun_mk (st := s_is_term) l7 c7 k7
  have b7 := F7.binds (ps := ["thing"]) fun _ _ _ _ _ _ us hl => match us, hl with | [_], _ => rfl
  have F8 := fun_mk (st := s_run_at) l8 c8 k8
  have b8 := F8.binds (ps := ["text", "at"]) fun _ _ _ _ _ _ us hl => match us, hl with | [_, _], _ => rfl
  have F9 := fun_mk (st := s_behind) l9 c9 k9
  have b9 := F9.binds (ps := ["text", "at", "mark"]) fun _ _ _ _ _ _ us hl => match us, hl with | [_, _, _], _ => rfl
  have F10 := fun_mk (st := s_figure_at) l10 c10 k10
  have b10 := F10.binds (ps := ["text", "at"]) fun _ _ _ _ _ _ us hl => match us, hl with | [_, _], _ => rfl
  have F11 := fun_mk (st := s_operator_at) l11 c11 k11
  have b11 := F11.binds (ps := ["text", "at", "word", "deep"]) fun _ _ _ _ _ _ us hl => match us, hl with | [_, _, _, _], _ => rfl
  have F12 := fun_mk (st := s_term_at) l12 c12 k12
  have b12 := F12.binds (ps := ["text", "at", "deep"]) fun _ _ _ _ _ _ us hl => match us, hl with | [_, _, _], _ => rfl
  have F13 := fun_mk (st := s_read_term) l13 c13 k13
  have b13 := F13.binds (ps := ["text"]) fun _ _ _ _ _ _ us hl => match us, hl with | [_], _ => rfl
  have F14 := fun_mk (st := s__law_pot) l14 c14 k14
  have b14 := F14.binds (ps := ["_law_script", "_law_k"]) fun _ _ _ _ _ _ us hl => match us, hl with | [_, _], _ => rfl
  have F15 := fun_mk (st := s__law_take) l15 c15 k15
  have b15 := F15.binds (ps := ["_law_pot_here", "_law_many"]) fun _ _ _ _ _ _ us hl => match us, hl with | [_, _], _ => rfl
  have F16 := fun_mk (st := s__law_words) l16 c16 k16
  have b16 := F16.binds (ps := []) fun _ _ _ _ _ _ us hl => match us, hl with | [], _ => rfl
  have F17 := fun_mk (st := s__law_name) l17 c17 k17
  have b17 := F17.binds (ps := ["_law_pot_here", "_law_taken"]) fun _ _ _ _ _ _ us hl => match us, hl with | [_, _], _ => rfl
  have F18 := fun_mk (st := s__law_names) l18 c18 k18
  have b18 := F18.binds (ps := ["_law_pot_here", "_law_many"]) fun _ _ _ _ _ _ us hl => match us, hl with | [_, _], _ => rfl
  have F19 := fun_mk (st := s__law_bits) l19 c19 k19
  have b19 := F19.binds (ps := ["_law_pot_here", "_law_width", "_law_signs"]) fun _ _ _ _ _ _ us hl => match us, hl with | [_, _, _], _ => rfl
  have F20 := fun_mk (st := s__law_leaf) l20 c20 k20
  have b20 := F20.binds (ps := ["_law_pot_here", "_law_widths", "_law_width"]) fun _ _ _ _ _ _ us hl => match us, hl with | [_, _, _], _ => rfl
  have F21 := fun_mk (st := s__law_bit_term) l21 c21 k21
  have b21 := F21.binds (ps := ["_law_pot_here", "_law_widths", "_law_deep", "_law_room"]) fun _ _ _ _ _ _ us hl => match us, hl with | [_, _, _, _], _ => rfl
  have F22 := fun_mk (st := s__law_term) l22 c22 k22
  have b22 := F22.binds (ps := ["_law_pot_here", "_law_widths", "_law_width", "_law_deep", "_law_room"]) fun _ _ _ _ _ _ us hl => match us, hl with | [_, _, _, _, _], _ => rfl
  have F23 := fun_mk (st := s__law_is_name) l23 c23 k23
  have b23 := F23.binds (ps := ["_law_thing"]) fun _ _ _ _ _ _ us hl => match us, hl with | [_], _ => rfl
  have F24 := fun_mk (st := s__law_is_number) l24 c24 k24
  have b24 := F24.binds (ps := ["_law_thing", "_law_most"]) fun _ _ _ _ _ _ us hl => match us, hl with | [_, _], _ => rfl
  have F25 := fun_mk (st := s__law_is_leaf) l25 c25 k25
  have b25 := F25.binds (ps := ["_law_thing"]) fun _ _ _ _ _ _ us hl => match us, hl with | [_], _ => rfl
  have F26 := fun_mk (st := s__law_weight) l26 c26 k26
  have b26 := F26.binds (ps := ["_law_thing", "_law_deep"]) fun _ _ _ _ _ _ us hl => match us, hl with | [_, _], _ => rfl
  have F27 := fun_mk (st := s__law_is_term) l27 c27 k27
  have b27 := F27.binds (ps := ["_law_thing"]) fun _ _ _ _ _ _ us hl => match us, hl with | [_], _ => rfl
  have F28 := fun_mk (st := s__law_text) l28 c28 k28
  have b28 := F28.binds (ps := ["_law_term_here"]) fun _ _ _ _ _ _ us hl => match us, hl with | [_], _ => rfl
  have F29 := fun_mk (st := s__law_tall) l29 c29 k29
  have b29 := F29.binds (ps := ["_law_pot_here"]) fun _ _ _ _ _ _ us hl => match us, hl with | [_], _ => rfl
  have F30 := fun_mk (st := s__law_wide) l30 c30 k30
  have b30 := F30.binds (ps := ["_law_pot_here"]) fun _ _ _ _ _ _ us hl => match us, hl with | [_], _ => rfl
  have F31 := fun_mk (st := s__law_drawn) l31 c31 k31
  have b31 := F31.binds (ps := ["_law_pot_here"]) fun _ _ _ _ _ _ us hl => match us, hl with | [_], _ => rfl
  have F32 := fun_mk (st := s__law_parts) l32 c32 k32
  have b32 := F32.binds (ps := ["_law_text_here"]) fun _ _ _ _ _ _ us hl => match us, hl with | [_], _ => rfl
  have F33 := fun_mk (st := s__law_guess) l33 c33 k33
  have b33 := F33.binds (ps := ["_law_text_here", "_law_deep"]) fun _ _ _ _ _ _ us hl => match us, hl with | [_, _], _ => rfl
  have F34 := fun_mk (st := s__law_told_by) l34 c34 k34
  have b34 := F34.binds (ps := ["_law_text_here"]) fun _ _ _ _ _ _ us hl => match us, hl with | [_], _ => rfl
  have F35 := fun_mk (st := s__law_spoilt) l35 c35 k35
  have b35 := F35.binds (ps := ["_law_pot_here", "_law_text_here"]) fun _ _ _ _ _ _ us hl => match us, hl with | [_, _], _ => rfl
  have F36 := fun_mk (st := s__law_right) l36 c36 k36
  have b36 := F36.binds (ps := ["_law_text_here"]) fun _ _ _ _ _ _ us hl => match us, hl with | [_], _ => rfl
  have F37 := fun_mk (st := s__law_odd) l37 c37 k37
  have b37 := F37.binds (ps := ["_law_pot_here"]) fun _ _ _ _ _ _ us hl => match us, hl with | [_], _ => rfl
  have F38 := fun_mk (st := s_law) l38 c38 k38
  refine ⟨PySem.W.fnOf "law" "law" (defArgs s_law) (defBody s_law) (defScope s_law) .none kV38 dc38 pm38 an38 cd38 ct38, fun s v => .of_eq rfl, fun base _ _ => ?_⟩
  have E0 : Df l.prog w K mg base CX0 "is_whole" 1 g0 _ ["thing"] (spWholeZ) := ⟨ok_is_whole F0 B  , PySem.W.mg_of X G a0, k0, b0⟩
  have E1 : DfD l.prog w K mg base CX0 "is_value" 1 g1 _ ["thing", "width"] (spValueZ) := ⟨ok_is_value F1 B  , PySem.W.mg_of X G a1, k1⟩
  have E2 : DfD l.prog w K mg base CX0 "is_put_value" 2 g2 _ ["thing", "width"] (spPutZ) := ⟨ok_is_put_value F2 B  E1 kb_is_value_width, PySem.W.mg_of X G a2, k2⟩
  have E3 : Df l.prog w K mg base CX0 "is_name" 1 g3 _ ["thing"] (spNameZ) := ⟨ok_is_name F3 B  , PySem.W.mg_of X G a3, k3, b3⟩
  have E4 : Df l.prog w K mg base CX0 "is_span" 2 g4 _ ["high", "low"] (spSpanZ) := ⟨ok_is_span F4 B  E0, PySem.W.mg_of X G a4, k4, b4⟩
  have E5 : Df l.prog w K mg base CX0 "is_shell" 3 g5 _ ["thing"] (spShellZ) := ⟨ok_is_shell F5 B  E2 b2_0 v2_0 E3 E4, PySem.W.mg_of X G a5, k5, b5⟩
  have E6 : Df l.prog w K mg base CX0 "arguments_of" 1 g6 _ ["term"] (spArgs1) := ⟨ok_arguments_of F6 B  , PySem.W.mg_of X G a6, k6, b6⟩
  have E7 : Df l.prog w K mg base CX0 "is_term" 4 g7 _ ["thing"] (spTermZ) := ⟨ok_is_term F7 B  E5 E6, PySem.W.mg_of X G a7, k7, b7⟩
  have E8 : Df l.prog w K mg base CX0 "run_at" 1 g8 _ ["text", "at"] (spRun) := ⟨ok_run_at F8 B  , PySem.W.mg_of X G a8, k8, b8⟩
  have E9 : Df l.prog w K mg base (L2N.CX l.prog w) "behind" 2 g9 _ ["text", "at", "mark"] (spBehX a_NoText) := ⟨ok_behind F9 B  , PySem.W.mg_of X G a9, k9, b9⟩
  have E10 : Df l.prog w K mg base (L2N.CX l.prog w) "figure_at" 2 g10 _ ["text", "at"] (spFigX a_NoText) := ⟨ok_figure_at F10 B  , PySem.W.mg_of X G a10, k10, b10⟩
  have operator_at_0 : Df l.prog w K mg base (L2N.CX l.prog w) "operator_at" 2 g11 _ ["text", "at", "word", "deep"] (spOFP a_NoText 0) := ⟨F11.okN sc_operator_at (fun vs H Q E h => h.elim) (fun cdv A outer s H vs Q E hr h => h.elim), PySem.W.mg_of X G a11, k11, b11⟩
  have term_at_0 : Df l.prog w K mg base (L2N.CX l.prog w) "term_at" 3 g12 _ ["text", "at", "deep"] (spTF a_NoText 0) := ⟨ok_term_at (n := 0) (k := 2) F12 B (by decide) E8 operator_at_0, PySem.W.mg_of X G a12, k12, b12⟩
  have operator_at_1 : Df l.prog w K mg base (L2N.CX l.prog w) "operator_at" 4 g11 _ ["text", "at", "word", "deep"] (spOFP a_NoText 1) := ⟨ok_operator_at (n := 0) (k := 3) F11 B (by decide) E9 E10 term_at_0, PySem.W.mg_of X G a11, k11, b11⟩
  have term_at_1 : Df l.prog w K mg base (L2N.CX l.prog w) "term_at" 5 g12 _ ["text", "at", "deep"] (spTF a_NoText 1) := ⟨ok_term_at (n := 1) (k := 4) F12 B (by decide) E8 operator_at_1, PySem.W.mg_of X G a12, k12, b12⟩
  have operator_at_2 : Df l.prog w K mg base (L2N.CX l.prog w) "operator_at" 6 g11 _ ["text", "at", "word", "deep"] (spOFP a_NoText 2) := ⟨ok_operator_at (n := 1) (k := 5) F11 B (by decide) E9 E10 term_at_1, PySem.W.mg_of X G a11, k11, b11⟩
  have term_at_2 : Df l.prog w K mg base (L2N.CX l.prog w) "term_at" 7 g12 _ ["text", "at", "deep"] (spTF a_NoText 2) := ⟨ok_term_at (n := 2) (k := 6) F12 B (by decide) E8 operator_at_2, PySem.W.mg_of X G a12, k12, b12⟩
  have operator_at_3 : Df l.prog w K mg base (L2N.CX l.prog w) "operator_at" 8 g11 _ ["text", "at", "word", "deep"] (spOFP a_NoText 3) := ⟨ok_operator_at (n := 2) (k := 7) F11 B (by decide) E9 E10 term_at_2, PySem.W.mg_of X G a11, k11, b11⟩
  have term_at_3 : Df l.prog w K mg base (L2N.CX l.prog w) "term_at" 9 g12 _ ["text", "at", "deep"] (spTF a_NoText 3) := ⟨ok_term_at (n := 3) (k := 8) F12 B (by decide) E8 operator_at_3, PySem.W.mg_of X G a12, k12, b12⟩
  have operator_at_4 : Df l.prog w K mg base (L2N.CX l.prog w) "operator_at" 10 g11 _ ["text", "at", "word", "deep"] (spOFP a_NoText 4) := ⟨ok_operator_at (n := 3) (k := 9) F11 B (by decide) E9 E10 term_at_3, PySem.W.mg_of X G a11, k11, b11⟩
  have term_at_4 : Df l.prog w K mg base (L2N.CX l.prog w) "term_at" 11 g12 _ ["text", "at", "deep"] (spTF a_NoText 4) := ⟨ok_term_at (n := 4) (k := 10) F12 B (by decide) E8 operator_at_4, PySem.W.mg_of X G a12, k12, b12⟩
  have operator_at_5 : Df l.prog w K mg base (L2N.CX l.prog w) "operator_at" 12 g11 _ ["text", "at", "word", "deep"] (spOFP a_NoText 5) := ⟨ok_operator_at (n := 4) (k := 11) F11 B (by decide) E9 E10 term_at_4, PySem.W.mg_of X G a11, k11, b11⟩
  have term_at_5 : Df l.prog w K mg base (L2N.CX l.prog w) "term_at" 13 g12 _ ["text", "at", "deep"] (spTF a_NoText 5) := ⟨ok_term_at (n := 5) (k := 12) F12 B (by decide) E8 operator_at_5, PySem.W.mg_of X G a12, k12, b12⟩
  have operator_at_6 : Df l.prog w K mg base (L2N.CX l.prog w) "operator_at" 14 g11 _ ["text", "at", "word", "deep"] (spOFP a_NoText 6) := ⟨ok_operator_at (n := 5) (k := 13) F11 B (by decide) E9 E10 term_at_5, PySem.W.mg_of X G a11, k11, b11⟩
  have term_at_6 : Df l.prog w K mg base (L2N.CX l.prog w) "term_at" 15 g12 _ ["text", "at", "deep"] (spTF a_NoText 6) := ⟨ok_term_at (n := 6) (k := 14) F12 B (by decide) E8 operator_at_6, PySem.W.mg_of X G a12, k12, b12⟩
  have operator_at_7 : Df l.prog w K mg base (L2N.CX l.prog w) "operator_at" 16 g11 _ ["text", "at", "word", "deep"] (spOFP a_NoText 7) := ⟨ok_operator_at (n := 6) (k := 15) F11 B (by decide) E9 E10 term_at_6, PySem.W.mg_of X G a11, k11, b11⟩
  have term_at_7 : Df l.prog w K mg base (L2N.CX l.prog w) "term_at" 17 g12 _ ["text", "at", "deep"] (spTF a_NoText 7) := ⟨ok_term_at (n := 7) (k := 16) F12 B (by decide) E8 operator_at_7, PySem.W.mg_of X G a12, k12, b12⟩
  have operator_at_8 : Df l.prog w K mg base (L2N.CX l.prog w) "operator_at" 18 g11 _ ["text", "at", "word", "deep"] (spOFP a_NoText 8) := ⟨ok_operator_at (n := 7) (k := 17) F11 B (by decide) E9 E10 term_at_7, PySem.W.mg_of X G a11, k11, b11⟩
  have term_at_8 : Df l.prog w K mg base (L2N.CX l.prog w) "term_at" 19 g12 _ ["text", "at", "deep"] (spTF a_NoText 8) := ⟨ok_term_at (n := 8) (k := 18) F12 B (by decide) E8 operator_at_8, PySem.W.mg_of X G a12, k12, b12⟩
  have operator_at_9 : Df l.prog w K mg base (L2N.CX l.prog w) "operator_at" 20 g11 _ ["text", "at", "word", "deep"] (spOFP a_NoText 9) := ⟨ok_operator_at (n := 8) (k := 19) F11 B (by decide) E9 E10 term_at_8, PySem.W.mg_of X G a11, k11, b11⟩
  have term_at_9 : Df l.prog w K mg base (L2N.CX l.prog w) "term_at" 21 g12 _ ["text", "at", "deep"] (spTF a_NoText 9) := ⟨ok_term_at (n := 9) (k := 20) F12 B (by decide) E8 operator_at_9, PySem.W.mg_of X G a12, k12, b12⟩
  have operator_at_10 : Df l.prog w K mg base (L2N.CX l.prog w) "operator_at" 22 g11 _ ["text", "at", "word", "deep"] (spOFP a_NoText 10) := ⟨ok_operator_at (n := 9) (k := 21) F11 B (by decide) E9 E10 term_at_9, PySem.W.mg_of X G a11, k11, b11⟩
  have E12 : Df l.prog w K mg base (L2N.CX l.prog w) "term_at" 23 g12 _ ["text", "at", "deep"] (spTF a_NoText 10) := ⟨ok_term_at (n := 10) (k := 22) F12 B (by decide) E8 operator_at_10, PySem.W.mg_of X G a12, k12, b12⟩
  have E11 : Df l.prog w K mg base (L2N.CX l.prog w) "operator_at" 24 g11 _ ["text", "at", "word", "deep"] (spOF a_NoText 10) := ⟨ok_operator_at (n := 10) (k := 23) F11 B (by decide) E9 E10 E12, PySem.W.mg_of X G a11, k11, b11⟩
  have E13 : Df l.prog w K mg base (L2N.CX l.prog w) "read_term" 25 g13 _ ["text"] (spReadX a_NoText) := ⟨ok_read_term F13 B  E12 E7, PySem.W.mg_of X G a13, k13, b13⟩
  have E14 : Df l.prog w K mg base CX0 "_law_pot" 1 g14 _ ["_law_script", "_law_k"] (spPot K) := ⟨ok__law_pot F14 B  , PySem.W.mg_of X G a14, k14, b14⟩
  have E15 : Df l.prog w K mg base CX0 "_law_take" 1 g15 _ ["_law_pot_here", "_law_many"] (spTake) := ⟨ok__law_take F15 B  , PySem.W.mg_of X G a15, k15, b15⟩
  have E16 : Df l.prog w K mg base CX0 "_law_words" 1 g16 _ [] (spWords) := ⟨ok__law_words F16 B  , PySem.W.mg_of X G a16, k16, b16⟩
  have E17 : Df l.prog w K mg base CX0 "_law_name" 2 g17 _ ["_law_pot_here", "_law_taken"] (spName) := ⟨ok__law_name F17 B  E15 E16, PySem.W.mg_of X G a17, k17, b17⟩
  have E18 : Df l.prog w K mg base CX0 "_law_names" 3 g18 _ ["_law_pot_here", "_law_many"] (spNames) := ⟨ok__law_names F18 B  E17, PySem.W.mg_of X G a18, k18, b18⟩
  have E19 : Df l.prog w K mg base CX0 "_law_bits" 2 g19 _ ["_law_pot_here", "_law_width", "_law_signs"] (spBitsD) := ⟨ok__law_bits F19 B  E15, PySem.W.mg_of X G a19, k19, b19⟩
  have E20 : Df l.prog w K mg base CX0 "_law_leaf" 3 g20 _ ["_law_pot_here", "_law_widths", "_law_width"] (spLeaf) := ⟨ok__law_leaf F20 B  E15 E19, PySem.W.mg_of X G a20, k20, b20⟩
  have N0 : Df l.prog w K mg base CX0 "_law_term" 3 g22 _ ["_law_pot_here", "_law_widths", "_law_width", "_law_deep", "_law_room"] (spPrev 0) := ⟨F22.ok sc__law_term (fun vs H Q E h => h.elim) (fun cdv A outer s H vs Q E hr h => h.elim), PySem.W.mg_of X G a22, k22, b22⟩
  have B0 : Df l.prog w K mg base CX0 "_law_bit_term" 4 g21 _ ["_law_pot_here", "_law_widths", "_law_deep", "_law_room"] (spBitT 0) := ⟨ok__law_bit_term (n := 0) (k := 3) F21 B (by decide) E15 N0, PySem.W.mg_of X G a21, k21, b21⟩
  have N1 : Df l.prog w K mg base CX0 "_law_term" 5 g22 _ ["_law_pot_here", "_law_widths", "_law_width", "_law_deep", "_law_room"] (spPrev 1) := ⟨ok__law_term (n := 0) (k := 3) F22 B (by decide) E15 E20 B0 N0, PySem.W.mg_of X G a22, k22, b22⟩
  have B1 : Df l.prog w K mg base CX0 "_law_bit_term" 6 g21 _ ["_law_pot_here", "_law_widths", "_law_deep", "_law_room"] (spBitT 1) := ⟨ok__law_bit_term (n := 1) (k := 5) F21 B (by decide) E15 N1, PySem.W.mg_of X G a21, k21, b21⟩
  have N2 : Df l.prog w K mg base CX0 "_law_term" 7 g22 _ ["_law_pot_here", "_law_widths", "_law_width", "_law_deep", "_law_room"] (spPrev 2) := ⟨ok__law_term (n := 1) (k := 5) F22 B (by decide) E15 E20 B1 N1, PySem.W.mg_of X G a22, k22, b22⟩
  have B2 : Df l.prog w K mg base CX0 "_law_bit_term" 8 g21 _ ["_law_pot_here", "_law_widths", "_law_deep", "_law_room"] (spBitT 2) := ⟨ok__law_bit_term (n := 2) (k := 7) F21 B (by decide) E15 N2, PySem.W.mg_of X G a21, k21, b21⟩
  have N3 : Df l.prog w K mg base CX0 "_law_term" 9 g22 _ ["_law_pot_here", "_law_widths", "_law_width", "_law_deep", "_law_room"] (spPrev 3) := ⟨ok__law_term (n := 2) (k := 7) F22 B (by decide) E15 E20 B2 N2, PySem.W.mg_of X G a22, k22, b22⟩
  have B3 : Df l.prog w K mg base CX0 "_law_bit_term" 10 g21 _ ["_law_pot_here", "_law_widths", "_law_deep", "_law_room"] (spBitT 3) := ⟨ok__law_bit_term (n := 3) (k := 9) F21 B (by decide) E15 N3, PySem.W.mg_of X G a21, k21, b21⟩
  have N4 : Df l.prog w K mg base CX0 "_law_term" 11 g22 _ ["_law_pot_here", "_law_widths", "_law_width", "_law_deep", "_law_room"] (spPrev 4) := ⟨ok__law_term (n := 3) (k := 9) F22 B (by decide) E15 E20 B3 N3, PySem.W.mg_of X G a22, k22, b22⟩
  have B4 : Df l.prog w K mg base CX0 "_law_bit_term" 12 g21 _ ["_law_pot_here", "_law_widths", "_law_deep", "_law_room"] (spBitT 4) := ⟨ok__law_bit_term (n := 4) (k := 11) F21 B (by decide) E15 N4, PySem.W.mg_of X G a21, k21, b21⟩
  have E22 : Df l.prog w K mg base CX0 "_law_term" 13 g22 _ ["_law_pot_here", "_law_widths", "_law_width", "_law_deep", "_law_room"] (spTerm 4) := ⟨ok__law_term (n := 4) (k := 11) F22 B (by decide) E15 E20 B4 N4, PySem.W.mg_of X G a22, k22, b22⟩
  have E23 : Df l.prog w K mg base CX0 "_law_is_name" 2 g23 _ ["_law_thing"] (spNameZ) := ⟨ok__law_is_name F23 B  E16, PySem.W.mg_of X G a23, k23, b23⟩
  have E24 : Df l.prog w K mg base CX0 "_law_is_number" 1 g24 _ ["_law_thing", "_law_most"] (spNum) := ⟨ok__law_is_number F24 B  , PySem.W.mg_of X G a24, k24, b24⟩
  have E25 : Df l.prog w K mg base CX0 "_law_is_leaf" 3 g25 _ ["_law_thing"] (spLeafZ) := ⟨ok__law_is_leaf F25 B  E23, PySem.W.mg_of X G a25, k25, b25⟩
  have _law_weight_0 : Df l.prog w K mg base CX0 "_law_weight" 3 g26 _ ["_law_thing", "_law_deep"] (spPrevW 0) := ⟨F26.ok sc__law_weight (fun vs H Q E h => h.elim) (fun cdv A outer s H vs Q E hr h => h.elim), PySem.W.mg_of X G a26, k26, b26⟩
  have _law_weight_1 : Df l.prog w K mg base CX0 "_law_weight" 4 g26 _ ["_law_thing", "_law_deep"] (spPrevW 1) := ⟨ok__law_weight (n := 0) (k := 3) F26 B (by decide) E16 E24 E25 _law_weight_0, PySem.W.mg_of X G a26, k26, b26⟩
  have _law_weight_2 : Df l.prog w K mg base CX0 "_law_weight" 5 g26 _ ["_law_thing", "_law_deep"] (spPrevW 2) := ⟨ok__law_weight (n := 1) (k := 4) F26 B (by decide) E16 E24 E25 _law_weight_1, PySem.W.mg_of X G a26, k26, b26⟩
  have _law_weight_3 : Df l.prog w K mg base CX0 "_law_weight" 6 g26 _ ["_law_thing", "_law_deep"] (spPrevW 3) := ⟨ok__law_weight (n := 2) (k := 5) F26 B (by decide) E16 E24 E25 _law_weight_2, PySem.W.mg_of X G a26, k26, b26⟩
  have _law_weight_4 : Df l.prog w K mg base CX0 "_law_weight" 7 g26 _ ["_law_thing", "_law_deep"] (spPrevW 4) := ⟨ok__law_weight (n := 3) (k := 6) F26 B (by decide) E16 E24 E25 _law_weight_3, PySem.W.mg_of X G a26, k26, b26⟩
  have _law_weight_5 : Df l.prog w K mg base CX0 "_law_weight" 8 g26 _ ["_law_thing", "_law_deep"] (spPrevW 5) := ⟨ok__law_weight (n := 4) (k := 7) F26 B (by decide) E16 E24 E25 _law_weight_4, PySem.W.mg_of X G a26, k26, b26⟩
  have _law_weight_6 : Df l.prog w K mg base CX0 "_law_weight" 9 g26 _ ["_law_thing", "_law_deep"] (spPrevW 6) := ⟨ok__law_weight (n := 5) (k := 8) F26 B (by decide) E16 E24 E25 _law_weight_5, PySem.W.mg_of X G a26, k26, b26⟩
  have _law_weight_7 : Df l.prog w K mg base CX0 "_law_weight" 10 g26 _ ["_law_thing", "_law_deep"] (spPrevW 7) := ⟨ok__law_weight (n := 6) (k := 9) F26 B (by decide) E16 E24 E25 _law_weight_6, PySem.W.mg_of X G a26, k26, b26⟩
  have _law_weight_8 : Df l.prog w K mg base CX0 "_law_weight" 11 g26 _ ["_law_thing", "_law_deep"] (spPrevW 8) := ⟨ok__law_weight (n := 7) (k := 10) F26 B (by decide) E16 E24 E25 _law_weight_7, PySem.W.mg_of X G a26, k26, b26⟩
  have _law_weight_9 : Df l.prog w K mg base CX0 "_law_weight" 12 g26 _ ["_law_thing", "_law_deep"] (spPrevW 9) := ⟨ok__law_weight (n := 8) (k := 11) F26 B (by decide) E16 E24 E25 _law_weight_8, PySem.W.mg_of X G a26, k26, b26⟩
  have _law_weight_10 : Df l.prog w K mg base CX0 "_law_weight" 13 g26 _ ["_law_thing", "_law_deep"] (spPrevW 10) := ⟨ok__law_weight (n := 9) (k := 12) F26 B (by decide) E16 E24 E25 _law_weight_9, PySem.W.mg_of X G a26, k26, b26⟩
  have E26 : Df l.prog w K mg base CX0 "_law_weight" 14 g26 _ ["_law_thing", "_law_deep"] (spWt 10) := ⟨ok__law_weight (n := 10) (k := 13) F26 B (by decide) E16 E24 E25 _law_weight_10, PySem.W.mg_of X G a26, k26, b26⟩
  have E27 : Df l.prog w K mg base CX0 "_law_is_term" 15 g27 _ ["_law_thing"] (spTermZ) := ⟨ok__law_is_term F27 B  E26, PySem.W.mg_of X G a27, k27, b27⟩
  have _law_text_0 : Df l.prog w K mg base CX0 "_law_text" 2 g28 _ ["_law_term_here"] (spTT 0) := ⟨F28.ok sc__law_text (fun vs H Q E h => by obtain ⟨v, t, rfl, _⟩ := h; rfl) (fun cdv A outer s H vs Q E hr h => by obtain ⟨v, t, _, _, hd, _⟩ := h; exact absurd hd (by have := dep_pos t; omega)), PySem.W.mg_of X G a28, k28, b28⟩
  have _law_text_1 : Df l.prog w K mg base CX0 "_law_text" 3 g28 _ ["_law_term_here"] (spTT 1) := ⟨ok__law_text (n := 0) (k := 2) F28 B (by decide) (by decide)  _law_text_0, PySem.W.mg_of X G a28, k28, b28⟩
  have _law_text_2 : Df l.prog w K mg base CX0 "_law_text" 4 g28 _ ["_law_term_here"] (spTT 2) := ⟨ok__law_text (n := 1) (k := 3) F28 B (by decide) (by decide)  _law_text_1, PySem.W.mg_of X G a28, k28, b28⟩
  have _law_text_3 : Df l.prog w K mg base CX0 "_law_text" 5 g28 _ ["_law_term_here"] (spTT 3) := ⟨ok__law_text (n := 2) (k := 4) F28 B (by decide) (by decide)  _law_text_2, PySem.W.mg_of X G a28, k28, b28⟩
  have _law_text_4 : Df l.prog w K mg base CX0 "_law_text" 6 g28 _ ["_law_term_here"] (spTT 4) := ⟨ok__law_text (n := 3) (k := 5) F28 B (by decide) (by decide)  _law_text_3, PySem.W.mg_of X G a28, k28, b28⟩
  have _law_text_5 : Df l.prog w K mg base CX0 "_law_text" 7 g28 _ ["_law_term_here"] (spTT 5) := ⟨ok__law_text (n := 4) (k := 6) F28 B (by decide) (by decide)  _law_text_4, PySem.W.mg_of X G a28, k28, b28⟩
  have _law_text_6 : Df l.prog w K mg base CX0 "_law_text" 8 g28 _ ["_law_term_here"] (spTT 6) := ⟨ok__law_text (n := 5) (k := 7) F28 B (by decide) (by decide)  _law_text_5, PySem.W.mg_of X G a28, k28, b28⟩
  have _law_text_7 : Df l.prog w K mg base CX0 "_law_text" 9 g28 _ ["_law_term_here"] (spTT 7) := ⟨ok__law_text (n := 6) (k := 8) F28 B (by decide) (by decide)  _law_text_6, PySem.W.mg_of X G a28, k28, b28⟩
  have _law_text_8 : Df l.prog w K mg base CX0 "_law_text" 10 g28 _ ["_law_term_here"] (spTT 8) := ⟨ok__law_text (n := 7) (k := 9) F28 B (by decide) (by decide)  _law_text_7, PySem.W.mg_of X G a28, k28, b28⟩
  have _law_text_9 : Df l.prog w K mg base CX0 "_law_text" 11 g28 _ ["_law_term_here"] (spTT 9) := ⟨ok__law_text (n := 8) (k := 10) F28 B (by decide) (by decide)  _law_text_8, PySem.W.mg_of X G a28, k28, b28⟩
  have _law_text_10 : Df l.prog w K mg base CX0 "_law_text" 12 g28 _ ["_law_term_here"] (spTT 10) := ⟨ok__law_text (n := 9) (k := 11) F28 B (by decide) (by decide)  _law_text_9, PySem.W.mg_of X G a28, k28, b28⟩
  have E28 : Df l.prog w K mg base CX0 "_law_text" 13 g28 _ ["_law_term_here"] (spTT 11) := ⟨ok__law_text (n := 10) (k := 12) F28 B (by decide) (by decide)  _law_text_10, PySem.W.mg_of X G a28, k28, b28⟩
  have E29 : Df l.prog w K mg base CX0 "_law_tall" 3 g29 _ ["_law_pot_here"] (spTmR) := ⟨ok__law_tall F29 B  E15 E17, PySem.W.mg_of X G a29, k29, b29⟩
  have E30 : Df l.prog w K mg base CX0 "_law_wide" 2 g30 _ ["_law_pot_here"] (spTmR) := ⟨ok__law_wide F30 B  E15, PySem.W.mg_of X G a30, k30, b30⟩
  have E31 : Df l.prog w K mg base CX0 "_law_drawn" 14 g31 _ ["_law_pot_here"] (spTmR) := ⟨ok__law_drawn F31 B  E15 E18 E29 E30 E22, PySem.W.mg_of X G a31, k31, b31⟩
  have E32 : Df l.prog w K mg base CX0 "_law_parts" 1 g32 _ ["_law_text_here"] (spParts) := ⟨ok__law_parts F32 B  , PySem.W.mg_of X G a32, k32, b32⟩
  have _law_guess_0 : Df l.prog w K mg base CX0 "_law_guess" 5 g33 _ ["_law_text_here", "_law_deep"] (spGuessP 0) := ⟨F33.ok sc__law_guess (fun vs H Q E h => h.elim) (fun cdv A outer s H vs Q E hr h => h.elim), PySem.W.mg_of X G a33, k33, b33⟩
  have _law_guess_1 : Df l.prog w K mg base CX0 "_law_guess" 6 g33 _ ["_law_text_here", "_law_deep"] (spGuessP 1) := ⟨ok__law_guess (n := 0) (k := 5) F33 B (by decide) E32 _law_guess_0, PySem.W.mg_of X G a33, k33, b33⟩
  have _law_guess_2 : Df l.prog w K mg base CX0 "_law_guess" 7 g33 _ ["_law_text_here", "_law_deep"] (spGuessP 2) := ⟨ok__law_guess (n := 1) (k := 6) F33 B (by decide) E32 _law_guess_1, PySem.W.mg_of X G a33, k33, b33⟩
  have _law_guess_3 : Df l.prog w K mg base CX0 "_law_guess" 8 g33 _ ["_law_text_here", "_law_deep"] (spGuessP 3) := ⟨ok__law_guess (n := 2) (k := 7) F33 B (by decide) E32 _law_guess_2, PySem.W.mg_of X G a33, k33, b33⟩
  have _law_guess_4 : Df l.prog w K mg base CX0 "_law_guess" 9 g33 _ ["_law_text_here", "_law_deep"] (spGuessP 4) := ⟨ok__law_guess (n := 3) (k := 8) F33 B (by decide) E32 _law_guess_3, PySem.W.mg_of X G a33, k33, b33⟩
  have _law_guess_5 : Df l.prog w K mg base CX0 "_law_guess" 10 g33 _ ["_law_text_here", "_law_deep"] (spGuessP 5) := ⟨ok__law_guess (n := 4) (k := 9) F33 B (by decide) E32 _law_guess_4, PySem.W.mg_of X G a33, k33, b33⟩
  have _law_guess_6 : Df l.prog w K mg base CX0 "_law_guess" 11 g33 _ ["_law_text_here", "_law_deep"] (spGuessP 6) := ⟨ok__law_guess (n := 5) (k := 10) F33 B (by decide) E32 _law_guess_5, PySem.W.mg_of X G a33, k33, b33⟩
  have _law_guess_7 : Df l.prog w K mg base CX0 "_law_guess" 12 g33 _ ["_law_text_here", "_law_deep"] (spGuessP 7) := ⟨ok__law_guess (n := 6) (k := 11) F33 B (by decide) E32 _law_guess_6, PySem.W.mg_of X G a33, k33, b33⟩
  have _law_guess_8 : Df l.prog w K mg base CX0 "_law_guess" 13 g33 _ ["_law_text_here", "_law_deep"] (spGuessP 8) := ⟨ok__law_guess (n := 7) (k := 12) F33 B (by decide) E32 _law_guess_7, PySem.W.mg_of X G a33, k33, b33⟩
  have _law_guess_9 : Df l.prog w K mg base CX0 "_law_guess" 14 g33 _ ["_law_text_here", "_law_deep"] (spGuessP 9) := ⟨ok__law_guess (n := 8) (k := 13) F33 B (by decide) E32 _law_guess_8, PySem.W.mg_of X G a33, k33, b33⟩
  have _law_guess_10 : Df l.prog w K mg base CX0 "_law_guess" 15 g33 _ ["_law_text_here", "_law_deep"] (spGuessP 10) := ⟨ok__law_guess (n := 9) (k := 14) F33 B (by decide) E32 _law_guess_9, PySem.W.mg_of X G a33, k33, b33⟩
  have E33 : Df l.prog w K mg base CX0 "_law_guess" 16 g33 _ ["_law_text_here", "_law_deep"] (spGuess 10) := ⟨ok__law_guess (n := 10) (k := 15) F33 B (by decide) E32 _law_guess_10, PySem.W.mg_of X G a33, k33, b33⟩
  have E34 : Df l.prog w K mg base CX0 "_law_told_by" 17 g34 _ ["_law_text_here"] (spToldBy) := ⟨ok__law_told_by F34 B  E33 E27 E28, PySem.W.mg_of X G a34, k34, b34⟩
  have E35 : Df l.prog w K mg base CX0 "_law_spoilt" 2 g35 _ ["_law_pot_here", "_law_text_here"] (spSpoiltT) := ⟨ok__law_spoilt F35 B  E15, PySem.W.mg_of X G a35, k35, b35⟩
  have E36 : DfG l.prog w K mg base CX0 "_law_right" 26 g36 _ ["_law_text_here"] (spRightT) := ⟨ok__law_right F36 B  E34 E13, PySem.W.mg_of X G a36, k36, b36⟩
  have E37 : Df l.prog w K mg base CX0 "_law_odd" 2 g37 _ ["_law_pot_here"] (spOddT) := ⟨ok__law_odd F37 B  E15, PySem.W.mg_of X G a37, k37, b37⟩
  exact ok_law F38 B  E14 E15 E31 E28 E35 E36 E37
end Dw
open PySem PySem.W PyProof.Rows
set_option maxHeartbeats 0 in
theorem PySem.Challenge.cw_deltawires_k27_texts_spoilt_holds : PySem.Challenge.rw_deltawires_k27_texts_spoilt.Holds := by
  w_on; o_law; k_head; (case hw => w_witness2)
  k_fill
  refine L2.walkg_of (l := PySem.Challenge.rw_deltawires_k27_texts_spoilt) (n := 63) (k := 27) (x := "_law_script") (CX := fun _ => L2.CX0) (sp := fun w => Dw.spLaw _) rfl (by decide) rfl ⟨rfl, by decide, by decide⟩ (fun w h Y => PySem.W.kIn_of Y) ?F (fun _ _ a ns hl hS => ⟨a, ns, rfl, hS, hl, fun _ => rfl⟩) (fun _ _ _ _ _ h => h)
  case F =>
    intro w mg fa h KX G hmg
    refine' Dw.all_mk KX G hmg ?a0 ?l0 ?c0 ?k0 ?a1 ?l1 ?c1 ?k1 ?d1_0 ?a2 ?l2 ?c2 ?k2 ?d2_0 ?a3 ?l3 ?c3 ?k3 ?a4 ?l4 ?c4 ?k4 ?a5 ?l5 ?c5 ?k5 ?a6 ?l6 ?c6 ?k6 ?a7 ?l7 ?c7 ?k7 ?a8 ?l8 ?c8 ?k8 ?a9 ?l9 ?c9 ?k9 ?a10 ?l10 ?c10 ?k10 ?a11 ?l11 ?c11 ?k11 ?a12 ?l12 ?c12 ?k12 ?a13 ?l13 ?c13 ?k13 ?a14 ?l14 ?c14 ?k14 ?a15 ?l15 ?c15 ?k15 ?a16 ?l16 ?c16 ?k16 ?a17 ?l17 ?c17 ?k17 ?a18 ?l18 ?c18 ?k18 ?a19 ?l19 ?c19 ?k19 ?a20 ?l20 ?c20 ?k20 ?a21 ?l21 ?c21 ?k21 ?a22 ?l22 ?c22 ?k22 ?a23 ?l23 ?c23 ?k23 ?a24 ?l24 ?c24 ?k24 ?a25 ?l25 ?c25 ?k25 ?a26 ?l26 ?c26 ?k26 ?a27 ?l27 ?c27 ?k27 ?a28 ?l28 ?c28 ?k28 ?a29 ?l29 ?c29 ?k29 ?a30 ?l30 ?c30 ?k30 ?a31 ?l31 ?c31 ?k31 ?a32 ?l32 ?c32 ?k32 ?a33 ?l33 ?c33 ?k33 ?a34 ?l34 ?c34 ?k34 ?a35 ?l35 ?c35 ?k35 ?a36 ?l36 ?c36 ?k36 ?a37 ?l37 ?c37 ?k37 ?a38 ?l38 ?c38 ?k38 ?z0 ?z1 ?z2 ?z3 ?z4 ?z5 ?z6 ?z7 ?z8 ?z9 ?z10 ?z11 ?z12 ?z13 ?z14 ?z15 ?z16 ?y0 ?y1 ?y2 ?y3 ?y4 ?y5 ?y6 ?y7 ?y_G ?yl_G ?yk_G ?ye_G_not ?ye_G_and ?ye_G_or ?ye_G_xor ?ye_G_plus ?ye_G_same ?ye_G_less ?ye_G_any ?ye_G_all ?ye_G_pick ?ye_G_join ?ye_G_part ?y_W ?yl_W ?y_K ?yl_K ?yw_G ?yx_G ?y_NoValue ?y_NoNumber ?y_NoTerm ?y_NoText ?y_NoRow ?y_WireError ?i_NoValue ?i_NoNumber ?i_NoTerm ?i_NoText ?i_NoRow ?i_WireError ?t_NoValue ?t_NoNumber ?t_NoTerm ?t_NoText ?t_NoRow ?t_WireError ?b_NoText ?b_WireError ?s_NoText_NoValue ?s_NoText_NoNumber ?s_NoText_NoTerm ?s_NoText_NoText ?s_NoText_NoRow ?s_NoText_WireError ?v_NoText ?x_NoText ?k_NoText ?e1_NoText ?e2_NoText ?e3_NoText ?e4_NoText ?e7_NoText ?e5 ?e6
    (case a0 => k_is)
    (case l0 => k_is)
    (case c0 => k_is)
    (case k0 => k_is)
    (case a1 => k_is)
    (case l1 => k_is)
    (case c1 => k_is)
    (case k1 => k_is)
    (case d1_0 => k_is)
    (case a2 => k_is)
    (case l2 => k_is)
    (case c2 => k_is)
    (case k2 => k_is)
    (case d2_0 => k_is)
    (case a3 => k_is)
    (case l3 => k_is)
    (case c3 => k_is)
    (case k3 => k_is)
    (case a4 => k_is)
    (case l4 => k_is)
    (case c4 => k_is)
    (case k4 => k_is)
    (case a5 => k_is)
    (case l5 => k_is)
    (case c5 => k_is)
    (case k5 => k_is)
    (case a6 => k_is)
    (case l6 => k_is)
    (case c6 => k_is)
    (case k6 => k_is)
    (case a7 => k_is)
    (case l7 => k_is)
    (case c7 => k_is)
    (case k7 => k_is)
    (case a8 => k_is)
    (case l8 => k_is)
    (case c8 => k_is)
    (case k8 => k_is)
    (case a9 => k_is)
    (case l9 => k_is)
    (case c9 => k_is)
    (case k9 => k_is)
    (case a10 => k_is)
    (case l10 => k_is)
    (case c10 => k_is)
    (case k10 => k_is)
    (case a11 => k_is)
    (case l11 => k_is)
    (case c11 => k_is)
    (case k11 => k_is)
    (case a12 => k_is)
    (case l12 => k_is)
    (case c12 => k_is)
    (case k12 => k_is)
    (case a13 => k_is)
    (case l13 => k_is)
    (case c13 => k_is)
    (case k13 => k_is)
    (case a14 => k_is)
    (case l14 => k_is)
    (case c14 => k_is)
    (case k14 => k_is)
    (case a15 => k_is)
    (case l15 => k_is)
    (case c15 => k_is)
    (case k15 => k_is)
    (case a16 => k_is)
    (case l16 => k_is)
    (case c16 => k_is)
    (case k16 => k_is)
    (case a17 => k_is)
    (case l17 => k_is)
    (case c17 => k_is)
    (case k17 => k_is)
    (case a18 => k_is)
    (case l18 => k_is)
    (case c18 => k_is)
    (case k18 => k_is)
    (case a19 => k_is)
    (case l19 => k_is)
    (case c19 => k_is)
    (case k19 => k_is)
    (case a20 => k_is)
    (case l20 => k_is)
    (case c20 => k_is)
    (case k20 => k_is)
    (case a21 => k_is)
    (case l21 => k_is)
    (case c21 => k_is)
    (case k21 => k_is)
    (case a22 => k_is)
    (case l22 => k_is)
    (case c22 => k_is)
    (case k22 => k_is)
    (case a23 => k_is)
    (case l23 => k_is)
    (case c23 => k_is)
    (case k23 => k_is)
    (case a24 => k_is)
    (case l24 => k_is)
    (case c24 => k_is)
    (case k24 => k_is)
    (case a25 => k_is)
    (case l25 => k_is)
    (case c25 => k_is)
    (case k25 => k_is)
    (case a26 => k_is)
    (case l26 => k_is)
    (case c26 => k_is)
    (case k26 => k_is)
    (case a27 => k_is)
    (case l27 => k_is)
    (case c27 => k_is)
    (case k27 => k_is)
    (case a28 => k_is)
    (case l28 => k_is)
    (case c28 => k_is)
    (case k28 => k_is)
    (case a29 => k_is)
    (case l29 => k_is)
    (case c29 => k_is)
    (case k29 => k_is)
    (case a30 => k_is)
    (case l30 => k_is)
    (case c30 => k_is)
    (case k30 => k_is)
    (case a31 => k_is)
    (case l31 => k_is)
    (case c31 => k_is)
    (case k31 => k_is)
    (case a32 => k_is)
    (case l32 => k_is)
    (case c32 => k_is)
    (case k32 => k_is)
    (case a33 => k_is)
    (case l33 => k_is)
    (case c33 => k_is)
    (case k33 => k_is)
    (case a34 => k_is)
    (case l34 => k_is)
    (case c34 => k_is)
    (case k34 => k_is)
    (case a35 => k_is)
    (case l35 => k_is)
    (case c35 => k_is)
    (case k35 => k_is)
    (case a36 => k_is)
    (case l36 => k_is)
    (case c36 => k_is)
    (case k36 => k_is)
    (case a37 => k_is)
    (case l37 => k_is)
    (case c37 => k_is)
    (case k37 => k_is)
    (case a38 => k_is)
    (case l38 => k_is)
    (case c38 => k_is)
    (case k38 => k_is)
    (case z0 => k_is)
    (case z1 => k_is)
    (case z2 => k_is)
    (case z3 => k_is)
    (case z4 => k_is)
    (case z5 => k_is)
    (case z6 => k_is)
    (case z7 => k_is)
    (case z8 => k_is)
    (case z9 => k_is)
    (case z10 => k_is)
    (case z11 => k_is)
    (case z12 => k_is)
    (case z13 => k_is)
    (case z14 => k_is)
    (case z15 => k_is)
    (case z16 => k_is)
    (case y0 => k_is)
    (case y1 => k_is)
    (case y2 => k_is)
    (case y3 => k_is)
    (case y4 => k_is)
    (case y5 => k_is)
    (case y6 => k_is)
    (case y7 => k_is)
    (case y_G => k_is)
    (case yl_G => k_is)
    (case yk_G => k_keys)
    (case ye_G_not => k_is)
    (case ye_G_and => k_is)
    (case ye_G_or => k_is)
    (case ye_G_xor => k_is)
    (case ye_G_plus => k_is)
    (case ye_G_same => k_is)
    (case ye_G_less => k_is)
    (case ye_G_any => k_is)
    (case ye_G_all => k_is)
    (case ye_G_pick => k_is)
    (case ye_G_join => k_is)
    (case ye_G_part => k_is)
    (case y_W => k_is)
    (case yl_W => k_is)
    (case y_K => k_is)
    (case yl_K => k_is)
    (case yw_G => kernel_rfl)
    (case yx_G => kernel_rfl)
    (case y_NoValue => k_is)
    (case y_NoNumber => k_is)
    (case y_NoTerm => k_is)
    (case y_NoText => k_is)
    (case y_NoRow => k_is)
    (case y_WireError => k_is)
    (case i_NoValue => k_is)
    (case i_NoNumber => k_is)
    (case i_NoTerm => k_is)
    (case i_NoText => k_is)
    (case i_NoRow => k_is)
    (case i_WireError => k_is)
    (case t_NoValue => k_is)
    (case t_NoNumber => k_is)
    (case t_NoTerm => k_is)
    (case t_NoText => k_is)
    (case t_NoRow => k_is)
    (case t_WireError => k_is)
    (case b_NoText => k_is)
    (case b_WireError => k_is)
    (case s_NoText_NoValue => k_is)
    (case s_NoText_NoNumber => k_is)
    (case s_NoText_NoTerm => k_is)
    (case s_NoText_NoText => first | rfl | k_is)
    (case s_NoText_NoRow => k_is)
    (case s_NoText_WireError => k_is)
    (case v_NoText => k_is)
    (case x_NoText => k_exc)
    (case k_NoText => k_is)
    (case e1_NoText => k_is)
    (case e2_NoText => k_is)
    (case e3_NoText => k_is)
    (case e4_NoText => k_is)
    (case e7_NoText => k_is)
    (case e5 => k_is)
    (case e6 => k_is)
