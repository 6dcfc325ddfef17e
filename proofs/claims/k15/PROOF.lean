import PyProof.Rows.All
import Wide.All
import OpenK.AllK
import Wide.FinOn
import HandS.ForMost
import HandS.Evl
import HandS.Walk
import HandS.Steps
import HandS.IsInst
import HandS.Defaults
import HandS.More
import HandS.ReplaceLit
import HandS.ReplaceDef
import HandS.ReplaceList
import HandS.Star
import HandS.CallLocal
import HandS.Style
import KE.GoesNew
import PyProof.Rows.SortShellAny
import HandS.Strs
import HandS.SetFor
import PySem.Challenge.RW_deltawires_k15_whole_bits_by_all_filling
set_option Elab.async false
set_option linter.all false
set_option maxRecDepth 100000
namespace Dw
open PySem L2 Evl
/-! ### general words -/
def GlV (mg : Str → Option Value) (x : Str) (v : V) : Prop := ∃ u, mg x = some u ∧ RelV v u
theorem pgl {X : Cx} {x : Str} {v : V} {pos : Pos} (hg : Gl X x) (h : GlV X.mg x v) (hd : (x == ("__debug__" : Str)) = false := by decide) : PE X (.Name x pos) (tC v) :=
  let ⟨_, a, b⟩ := h
  pe_glob hg a b hd
/-- a def as callers know it -/
structure Df (P : Program) (w : World) (K : PySem.W.Frag) (mg : Str → Option Value) (base : Heap) (CX : CXT) (x : Str) (k : Nat) (f : Addr) (fd : FuncData) (ps : List Str) (sp : Sp) : Prop where
  ok : FnOk P w K mg base CX k f fd ps sp
  g : mg x = some (.ref f)
  kp : PySem.W.keepIn K (.ref f) = true
  b : Binds K fd ps []
/-- all but what stands at p is as it was -/
def ExB (p : Addr) (H H' : Hp) : Prop := ∀ b o, b ≠ p → H b = some o → H' b = some o
theorem ExB.refl (p : Addr) (H : Hp) : ExB p H H := fun _ _ _ h => h
theorem ExB.trans {p : Addr} {H H1 H2 : Hp} (a : ExB p H H1) (b : ExB p H1 H2) : ExB p H H2 := fun c o n h => b c o n (a c o n h)
theorem ExB.of {p : Addr} {H H' : Hp} (e : Ex H H') : ExB p H H' := fun b o _ h => e b o h
theorem ExB.upd {p : Addr} {H H' : Hp} {o : HO} (e : ExB p H H') : ExB p H (upd H' p o) := fun b u n h => by
  rw [upd_ne n]
  exact e b u n h
theorem ExB.back {p : Addr} {H0 H H' : Hp} (e0 : Ex H0 H) (hp : H0 p = none) (e : ExB p H H') : Ex H0 H' := fun b o h => e b o (ne_of_none h hp) (e0 b o h)
theorem ExB.rd {p a : Addr} {H H' : Hp} {u : HO} (e : ExB p H H') (n : a ≠ p) (h : Rd H a u) : Rd H' a u := by
  rcases h with h | ⟨o, h⟩
  · exact Or.inl (e a _ n h)
  · exact Or.inr ⟨o, e a _ n h⟩
theorem ExB.sq {K : PySem.W.Frag} {p a : Addr} {xs : List V} {H H' : Hp} (e : ExB p H H') (n : a ≠ p) (h : SqL K H a xs) : SqL K H' a xs := by
  rcases h with h | h
  · exact Or.inl (e.rd n h)
  · exact Or.inr h
/-- the pot: two numbers, of which take draws -/
def PotAt (H : Hp) (p : Addr) : Prop := ∃ x y : Int, H p = some (.lst [.int x, .int y]) ∧ 0 ≤ x ∧ 0 ≤ y ∧ y < 2147483647
theorem PotAt.ex {H H' : Hp} {p : Addr} (h : PotAt H p) (e : Ex H H') : PotAt H' p := by
  obtain ⟨x, y, h1, h2⟩ := h
  exact ⟨x, y, e _ _ h1, h2⟩
def spAt (K : PySem.W.Frag) : Sp := fun vs H Q _ => ∃ (a : Addr) (ns : List Int) (k : Int), vs = [.ref a, .int k] ∧ SqL K H a (ns.map V.int) ∧ 0 ≤ k ∧ ∀ c : Int, Q (.int c) H
def spPot (K : PySem.W.Frag) : Sp := fun vs H Q _ => ∃ (a : Addr) (ns : List Int) (k : Int), vs = [.ref a, .int k] ∧ SqL K H a (ns.map V.int) ∧ 0 ≤ k ∧ k ≤ 1000 ∧ ∀ (p : Addr) (H' : Hp), H p = none → Ex H H' → PotAt H' p → Q (.ref p) H'
def spTake : Sp := fun vs H Q _ => ∃ (p : Addr) (m : Int), vs = [.ref p, .int m] ∧ PotAt H p ∧ 0 < m ∧ m < 1073741824 ∧ ∀ (H' : Hp) (d : Int), ExB p H H' → PotAt H' p → 0 ≤ d → d < m → Q (.int d) H'
theorem at_map {ns : List Int} {k : Int} (h0 : 0 ≤ k) (h1 : k < ((ns.map V.int).length : Int)) : ∃ c : Int, atI (ns.map V.int) k = some (.int c) := by
  obtain ⟨j, rfl⟩ := Int.eq_ofNat_of_zero_le h0
  have h2 : j < ns.length := by
    rw [List.length_map] at h1
    omega
  refine ⟨ns[j], atI_nat ?_⟩
  rw [List.getElem?_map, List.getElem?_eq_getElem h2]
  rfl
/-! ### texts by their codes -/
abbrev Tx (l : List Nat) : Str := ⟨l.toArray⟩
theorem Tx_len (l : List Nat) : (Tx l).length = l.length := by simp [Tx, Str.length]
theorem Tx_tl (x : Str) : Tx x.cps.toList = x := TL.mk_tl x
theorem Tx_inj {a b : List Nat} (h : Tx a = Tx b) : a = b := congrArg (fun x : Str => x.cps.toList) h
theorem Tx_cat (a b : List Nat) : Tx a ++ Tx b = Tx (a ++ b) := TL.ext_tl (TL.tl_append (Tx a) (Tx b))
theorem joinL_ones : ∀ l : List Nat, TL.joinL [] (l.map fun c => [c]) = l
  | [] => rfl
  | [_] => rfl
  | c :: d :: r => by
    show [c] ++ ([] ++ TL.joinL [] ((d :: r).map fun c => [c])) = c :: d :: r
    rw [joinL_ones (d :: r)]
    rfl
theorem tl_empty : TL.tl (Str.ofString "") = [] := by decide +kernel
theorem join_ones (l : List Nat) : Txt.join (Str.ofString "") (l.map fun c => Tx [c]) = Tx l := by
  refine TL.ext_tl ?_
  rw [TL.join_eq, TL.tl_join, tl_empty, List.map_map]
  show TL.joinL [] (l.map fun c => [c]) = l
  exact joinL_ones l
theorem ones_len (l : List Nat) : ((l.map fun c => Tx [c]).map (·.length)).sum + (l.map fun c => Tx [c]).length * (Str.ofString "").length = l.length := by
  have e : (Str.ofString "").length = 0 := by decide +kernel
  rw [e, Nat.mul_zero, Nat.add_zero]
  induction l with
  | nil => rfl
  | cons c l ih =>
    rw [List.map_cons, List.map_cons, List.sum_cons, ih, Tx_len]
    simp
    omega
theorem map_strs (l : List Nat) : (l.map fun c => Tx [c]).map V.str = l.map fun c => V.str (Tx [c]) := by
  rw [List.map_map]
  rfl
/-! ### comprehensions by lists -/
theorem range_getD {α : Type} (l : List α) (d : α) : (List.range l.length).map (fun i => l.getD i d) = l := by
  apply List.ext_getElem
  · simp
  · intro i h1 h2
    simp at h1
    simp [h1]
theorem given_list {α : Type} (l : List α) (d : α) (p : α → Bool) (g : α → V) : given l.length (fun i => p (l.getD i d)) (fun i => g (l.getD i d)) = (l.filter p).map g := by
  unfold given
  have e : l.filter p = ((List.range l.length).map (fun i => l.getD i d)).filter p := by rw [range_getD]
  rw [e, List.filter_map, List.map_map]
  rfl
theorem given_all {α : Type} (l : List α) (d : α) (g : α → V) : given l.length (fun _ => true) (fun i => g (l.getD i d)) = l.map g := by
  have e := given_list l d (fun _ => true) g
  rw [List.filter_eq_self.mpr (fun _ _ => rfl)] at e
  exact e
section
variable {K : PySem.W.Frag} {σ : L2.St} {H H' : Hp} {ta tb te tx tl : TE} {t u : TT} {x y z v : V}
theorem el_lcS {z : Str} {j : Nat} {vs : List Nat} (f : Nat → Bool) (v : Nat → V) (h : Ev tl σ H (.str z)) (hz : z.cps.size ≤ 40000) (hw : ∀ x, wipe ((wipe σ vs).set j (some x)) vs = wipe σ vs)
    (ht : ∀ (i : Nat) (c : Nat) H1, Ex H H1 → z.cps[i]? = some c → EvT t ((wipe σ vs).set j (some (.str ⟨#[c]⟩))) H1 (f i)) (he : ∀ (i : Nat) (c : Nat) H1, Ex H H1 → z.cps[i]? = some c → f i = true → Ev te ((wipe σ vs).set j (some (.str ⟨#[c]⟩))) H1 (v i)) :
    EvL (tLc (iStr tl) (gName j) t te vs) σ H (given z.cps.size f v) := fun H0 e Q q => h H0 e _ fun H1 e1 => ⟨z, rfl, fun Dl hD =>
  lc_it walk_str (Cw H1 f v Dl) ⟨hD, Ex.new hD, upd_same⟩ (fun _ _ _ _ => True.intro) (fun i x H2 H3 hi p y => by
    obtain ⟨rfl, c, hc, rfl⟩ := y
    exact ⟨hw _, cw_turn p (by omega) (ht i c H1 (e.trans e1) hc) (fun hf => he i c H1 (e.trans e1) hc hf)⟩)
    (fun H' p => q Dl H' (fresh_back e1 p.1) (e1.trans p.2.1) p.2.2)⟩
/-- over a text: p tells which codes, g what of each -/
theorem el_lcT {l : List Nat} {j : Nat} {vs : List Nat} (p : Nat → Bool) (g : Nat → V) (h : Ev tl σ H (.str (Tx l))) (hz : l.length ≤ 40000) (hw : ∀ x, wipe ((wipe σ vs).set j (some x)) vs = wipe σ vs)
    (ht : ∀ (c : Nat) H1, Ex H H1 → c ∈ l → EvT t ((wipe σ vs).set j (some (.str (Tx [c])))) H1 (p c)) (he : ∀ (c : Nat) H1, Ex H H1 → c ∈ l → p c = true → Ev te ((wipe σ vs).set j (some (.str (Tx [c])))) H1 (g c)) :
    EvL (tLc (iStr tl) (gName j) t te vs) σ H ((l.filter p).map g) := by
  have hs : (Tx l).cps.size = l.length := Tx_len l
  have key : ∀ (i c : Nat), (Tx l).cps[i]? = some c → l.getD i 0 = c ∧ c ∈ l := fun i c hc => by
    have h1 : l[i]? = some c := by
      rw [← hc]
      simp [Tx]
    exact ⟨by rw [List.getD_eq_getElem?_getD, h1]; rfl, List.mem_of_getElem? h1⟩
  rw [← given_list l 0 p g, ← hs]
  refine el_lcS (fun i => p (l.getD i 0)) (fun i => g (l.getD i 0)) h (by omega) hw (fun i c H1 e hc => ?_) (fun i c H1 e hc hf => ?_)
  · obtain ⟨e1, e2⟩ := key i c hc
    simp only [e1]
    exact ht c H1 e e2
  · obtain ⟨e1, e2⟩ := key i c hc
    simp only [e1] at hf ⊢
    exact he c H1 e e2 hf
theorem et_yes : EvT tYes σ H true := fun H1 _ _ q => q H1 (Ex.refl H1)
theorem ev_cbL {r : List V → Hp → VK → Prop} {xs : List V} (h : EvL te σ H xs) (hr : ∀ p H1, H1 p = some (.lst xs) → Ex H H1 → RC r [.ref p] H1 z) : Ev (tCB r (tCons te tNil)) σ H z := fun H1 e Q q =>
  h H1 e _ fun p H2 _ e2 h2 => hr p H2 h2 (e.trans e2) H2 (Ex.refl _) Q fun H3 e3 => q H3 (e2.trans e3)
theorem ev_all {bs : List Bool} (h : EvL te σ H (bs.map V.bl)) : Ev (tCB (rAll K) (tCons te tNil)) σ H (.bl (bs.all id)) :=
  ev_cbL h fun p _ hp _ H2 e2 _ q => ⟨p, bs, rfl, sq_of (e2 p _ hp), q H2 (Ex.refl _)⟩
def rJoinS (K : PySem.W.Frag) : V → List V → Hp → VK → Prop := fun x xs H Q => ∃ a p, ∃ ys : List Str, x = .str a ∧ xs = [.ref p] ∧ (SqL K H p (ys.map V.str) ∨ SqT K H p (ys.map V.str)) ∧
      (ys.map (·.length)).sum + ys.length * a.length ≤ 16777216 ∧ Q (.str (Txt.join a ys)) H
/-- ''.join of a new list of signs -/
theorem ev_join1 {l : List Nat} (h : EvL te σ H (l.map fun c => V.str (Tx [c]))) (hz : l.length ≤ 40000) : Ev (tM1 (rJoinS K) (tC (.str (Str.ofString ""))) te) σ H (.str (Tx l)) := fun H1 e Q q =>
  ⟨⟨_, rfl⟩, h H1 e _ fun p H2 _ e2 h2 => ⟨Str.ofString "", p, l.map fun c => Tx [c], rfl, rfl, Or.inl (sq_of (by rw [map_strs]; exact h2)), by rw [ones_len]; omega, by rw [join_ones]; exact q H2 e2⟩⟩
theorem ev_inS {c : Nat} {w : Str} (ha : Ev ta σ H (.str (Tx [c]))) (hb : Ev tb σ H (.str w)) : Ev (tOp rInS ta tb) σ H (.bl (decide (c ∈ w.cps.toList))) :=
  ev_op ha hb fun H1 _ _ q => ⟨c, w, rfl, rfl, q H1 (Ex.refl _)⟩
theorem ev_notInS {c : Nat} {w : Str} (ha : Ev ta σ H (.str (Tx [c]))) (hb : Ev tb σ H (.str w)) : Ev (tOp rNotInS ta tb) σ H (.bl (!decide (c ∈ w.cps.toList))) :=
  ev_op ha hb fun H1 _ _ q => ⟨c, w, rfl, rfl, q H1 (Ex.refl _)⟩
def rLenT : List V → Hp → VK → Prop := fun xs H Q => ∃ z, xs = [.str z] ∧ z.length ≤ sizeLine ∧ Q (.int z.length) H
theorem ev_lenT {l : List Nat} (ha : Ev ta σ H (.str (Tx l))) (hz : l.length ≤ 40000) : Ev (tCB rLenT (tCons ta tNil)) σ H (.int (l.length : Int)) := fun H1 e Q q =>
  ha H1 e _ fun H2 e2 => ⟨Tx l, rfl, sz_of (by rw [Tx_len]; omega), by rw [Tx_len]; exact q H2 e2⟩
end
/-! ### lists of texts and of numbers compared -/
theorem dpAll_strs {K : PySem.W.Frag} {H : Hp} : ∀ xs : List Str, DpAll K H (xs.map V.str) (xs.map PyData.str)
  | [] => .nil
  | x :: xs => .cons (.str x) (dpAll_strs xs)
theorem dpAll_ints {K : PySem.W.Frag} {H : Hp} : ∀ xs : List Int, DpAll K H (xs.map V.int) (xs.map PyData.int)
  | [] => .nil
  | x :: xs => .cons (.int x) (dpAll_ints xs)
theorem dpAll_bls {K : PySem.W.Frag} {H : Hp} : ∀ xs : List Bool, DpAll K H (xs.map V.bl) (xs.map PyData.bool)
  | [] => .nil
  | x :: xs => .cons (.bl x) (dpAll_bls xs)
theorem eqvAll_strs : ∀ xs ys : List Str, PyData.eqvAll (xs.map PyData.str) (ys.map PyData.str) = decide (xs = ys)
  | [], [] => by simp [PyData.eqvAll]
  | [], y :: ys => by simp [PyData.eqvAll]
  | x :: xs, [] => by simp [PyData.eqvAll]
  | x :: xs, y :: ys => by
    have ih := eqvAll_strs xs ys
    simp only [List.map_cons, PyData.eqvAll, PyData.eqv, ih]
    rw [Bool.eq_iff_iff]
    simp
theorem eqvAll_ints : ∀ xs ys : List Int, PyData.eqvAll (xs.map PyData.int) (ys.map PyData.int) = decide (xs = ys)
  | [], [] => by simp [PyData.eqvAll]
  | [], y :: ys => by simp [PyData.eqvAll]
  | x :: xs, [] => by simp [PyData.eqvAll]
  | x :: xs, y :: ys => by
    have ih := eqvAll_ints xs ys
    simp only [List.map_cons, PyData.eqvAll, PyData.eqv, ih]
    rw [Bool.eq_iff_iff]
    simp
theorem eqvAll_bls : ∀ xs ys : List Bool, PyData.eqvAll (xs.map PyData.bool) (ys.map PyData.bool) = decide (xs = ys)
  | [], [] => by simp [PyData.eqvAll]
  | [], y :: ys => by simp [PyData.eqvAll]
  | x :: xs, [] => by simp [PyData.eqvAll]
  | x :: xs, y :: ys => by
    have ih := eqvAll_bls xs ys
    simp only [List.map_cons, PyData.eqvAll, PyData.eqv, ih]
    rw [Bool.eq_iff_iff]
    simp
def LowS (x : Str) : Prop := PyData.canLay0 (.str x) = true
theorem lay_strs : ∀ {xs : List Str}, (∀ x ∈ xs, LowS x) → PyData.canLayAll0 (xs.map PyData.str) = true
  | [], _ => by simp [PyData.canLayAll0]
  | x :: xs, h => by
    rw [List.map_cons, PyData.canLayAll0, h x (List.mem_cons_self ..), lay_strs fun y hy => h y (List.mem_cons_of_mem _ hy)]
    rfl
theorem lay_ints : ∀ xs : List Int, PyData.canLayAll0 (xs.map PyData.int) = true
  | [] => by simp [PyData.canLayAll0]
  | x :: xs => by
    rw [List.map_cons, PyData.canLayAll0, lay_ints xs]
    simp [PyData.canLay0]
theorem lay_bls : ∀ xs : List Bool, PyData.canLayAll0 (xs.map PyData.bool) = true
  | [] => by simp [PyData.canLayAll0]
  | x :: xs => by
    rw [List.map_cons, PyData.canLayAll0, lay_bls xs]
    simp [PyData.canLay0]
theorem deep_strs : ∀ xs : List Str, PyData.depthAll (xs.map PyData.str) = 0
  | [] => by simp [PyData.depthAll]
  | x :: xs => by
    rw [List.map_cons, PyData.depthAll, deep_strs xs]
    simp [PyData.depth]
theorem deep_ints : ∀ xs : List Int, PyData.depthAll (xs.map PyData.int) = 0
  | [] => by simp [PyData.depthAll]
  | x :: xs => by
    rw [List.map_cons, PyData.depthAll, deep_ints xs]
    simp [PyData.depth]
theorem deep_bls : ∀ xs : List Bool, PyData.depthAll (xs.map PyData.bool) = 0
  | [] => by simp [PyData.depthAll]
  | x :: xs => by
    rw [List.map_cons, PyData.depthAll, deep_bls xs]
    simp [PyData.depth]
theorem shaped_strs {xs : List Str} (h : ∀ x ∈ xs, LowS x) : SeqAt.shaped (.list (xs.map PyData.str)) = true := by
  unfold SeqAt.shaped
  rw [PyData.canLay0, lay_strs h, PyData.depth, deep_strs]
  rfl
theorem shaped_ints (xs : List Int) : SeqAt.shaped (.list (xs.map PyData.int)) = true := by
  unfold SeqAt.shaped
  rw [PyData.canLay0, lay_ints, PyData.depth, deep_ints]
  rfl
theorem shaped_bls (xs : List Bool) : SeqAt.shaped (.list (xs.map PyData.bool)) = true := by
  unfold SeqAt.shaped
  rw [PyData.canLay0, lay_bls, PyData.depth, deep_bls]
  rfl
theorem low_Tx {l : List Nat} (h : ∀ c ∈ l, c < 128) : LowS (Tx l) := by
  unfold LowS
  rw [PyData.canLay0]
  unfold PyData.strOk
  first
    | (simp only [Tx, List.all_toArray, List.all_eq_true]; intro c hc; have := h c hc; simp; omega)
    | (simp [Tx]; intro c hc; have := h c hc; omega)
section
variable {K : PySem.W.Frag} {H : Hp}
theorem rv_eqStrs {p q : Addr} {xs ys : List Str} (h1 : SqL K H p (xs.map V.str)) (h2 : SqL K H q (ys.map V.str)) (l1 : ∀ x ∈ xs, LowS x) (l2 : ∀ x ∈ ys, LowS x) : RV (rEqD K) (.ref p) (.ref q) H (.bl (decide (xs = ys))) := fun H1 e Q k =>
  ⟨_, _, .lst (ex_l e h1) (dpAll_strs xs), .lst (ex_l e h2) (dpAll_strs ys), shaped_strs l1, shaped_strs l2, by rw [PyData.eqv, eqvAll_strs]; exact k H1 (Ex.refl _)⟩
theorem rv_neStrs {p q : Addr} {xs ys : List Str} (h1 : SqL K H p (xs.map V.str)) (h2 : SqL K H q (ys.map V.str)) (l1 : ∀ x ∈ xs, LowS x) (l2 : ∀ x ∈ ys, LowS x) : RV (rNeD K) (.ref p) (.ref q) H (.bl (!decide (xs = ys))) := fun H1 e Q k =>
  ⟨_, _, .lst (ex_l e h1) (dpAll_strs xs), .lst (ex_l e h2) (dpAll_strs ys), shaped_strs l1, shaped_strs l2, by rw [PyData.eqv, eqvAll_strs]; exact k H1 (Ex.refl _)⟩
theorem rv_eqInts {p q : Addr} {xs ys : List Int} (h1 : SqL K H p (xs.map V.int)) (h2 : SqL K H q (ys.map V.int)) : RV (rEqD K) (.ref p) (.ref q) H (.bl (decide (xs = ys))) := fun H1 e Q k =>
  ⟨_, _, .lst (ex_l e h1) (dpAll_ints xs), .lst (ex_l e h2) (dpAll_ints ys), shaped_ints xs, shaped_ints ys, by rw [PyData.eqv, eqvAll_ints]; exact k H1 (Ex.refl _)⟩
theorem rv_neBls {p q : Addr} {xs ys : List Bool} (h1 : SqL K H p (xs.map V.bl)) (h2 : SqL K H q (ys.map V.bl)) : RV (rNeD K) (.ref p) (.ref q) H (.bl (!decide (xs = ys))) := fun H1 e Q k =>
  ⟨_, _, .lst (ex_l e h1) (dpAll_bls xs), .lst (ex_l e h2) (dpAll_bls ys), shaped_bls xs, shaped_bls ys, by rw [PyData.eqv, eqvAll_bls]; exact k H1 (Ex.refl _)⟩
theorem rv_eqBls {p q : Addr} {xs ys : List Bool} (h1 : SqL K H p (xs.map V.bl)) (h2 : SqL K H q (ys.map V.bl)) : RV (rEqD K) (.ref p) (.ref q) H (.bl (decide (xs = ys))) := fun H1 e Q k =>
  ⟨_, _, .lst (ex_l e h1) (dpAll_bls xs), .lst (ex_l e h2) (dpAll_bls ys), shaped_bls xs, shaped_bls ys, by rw [PyData.eqv, eqvAll_bls]; exact k H1 (Ex.refl _)⟩
end
section
variable {K : PySem.W.Frag} {σ : L2.St} {H H' : Hp} {ta tb tc te tx tl : TE} {t u : TT} {x y z v : V}
theorem ev_chain {r r' : R2} {w' : V} {k k2 : Bool} (ha : Ev ta σ H x) (hb : Ev tb σ H y) (h1 : RV r x y H (.bl k)) (h2 : k = true → Ev tc σ H w' ∧ RV r' y w' H (.bl k2)) : Ev (tChain r r' ta tb tc) σ H (.bl (k && k2)) := fun H1 e Q q =>
  ha H1 e _ fun H2 e2 => hb H2 (e.trans e2) _ fun H3 e3 => h1 H3 ((e.trans e2).trans e3) _ fun H4 e4 => ⟨k, rfl, by
    cases k with
    | true =>
      obtain ⟨hc, h3⟩ := h2 rfl
      show tc σ H4 fun w' H4 => r' y w' H4 Q
      exact hc H4 (((e.trans e2).trans e3).trans e4) _ fun H5 e5 => h3 H5 ((((e.trans e2).trans e3).trans e4).trans e5) Q fun H6 e6 => q H6 ((((e2.trans e3).trans e4).trans e5).trans e6)
    | false =>
      show Q (.bl false) H4
      exact q H4 ((e2.trans e3).trans e4)⟩
theorem ev_isi {T : String} {b : Bool} (ha : Ev ta σ H v) (hb : Ev tb σ H (.ty T)) (ty : ∀ H1, Ex H H1 → ∃ t, TyX K H1 v (.type t) ∧ kitB t T = some b) : Ev (tCB (rIsi K) (tCons ta (tCons tb tNil))) σ H (.bl b) := fun H1 e Q q =>
  ha H1 e _ fun H2 e2 => hb H2 (e.trans e2) _ fun H3 e3 => by
    obtain ⟨t, h1, h2⟩ := ty H3 ((e.trans e2).trans e3)
    exact ⟨v, .ty T, .type t, .type T, b, rfl, .ty T, h1, kit_ty h2, q H3 (e2.trans e3)⟩
theorem ev_eqS {r : R2} (ha : Ev ta σ H x) (hb : Ev tb σ H y) (h : RV r x y H z) : Ev (tOp r ta tb) σ H z := ev_op ha hb h
end
theorem op_mulS {X : Cx} : OpR X (binaryOp .Mult) (fun x y H Q => ∃ a i, x = .str a ∧ y = .int i ∧ MulOk a i ∧ Q (.str (Txt.mul a i)) H) := by
  intro pins s σ H x y v u Q I rx ry h
  obtain ⟨a, i, rfl, rfl, hm, q⟩ := h
  obtain ⟨t, rfl⟩ := rx
  obtain ⟨t', rfl⟩ := ry
  exact SB.mul hm fun t' k => ⟨.str (Txt.mul a i), H, I.tok _, ⟨_, rfl⟩, q⟩
structure DfD (P : Program) (w : World) (K : PySem.W.Frag) (mg : Str → Option Value) (base : Heap) (CX : CXT) (x : Str) (k : Nat) (f : Addr) (fd : FuncData) (ps : List Str) (sp : Sp) : Prop where
  ok : FnOk P w K mg base CX k f fd ps sp
  g : mg x = some (.ref f)
  kp : PySem.W.keepIn K (.ref f) = true
section
variable {K : PySem.W.Frag} {σ : L2.St} {H H' : Hp} {ta tb tc te tx tl : TE} {t u : TT} {x y z v : V}
theorem el_lcT1 {l : List Nat} {j : Nat} {vs : List Nat} (g : Nat → V) (h : Ev tl σ H (.str (Tx l))) (hz : l.length ≤ 40000) (hw : ∀ x, wipe ((wipe σ vs).set j (some x)) vs = wipe σ vs)
    (he : ∀ (c : Nat) H1, Ex H H1 → c ∈ l → Ev te ((wipe σ vs).set j (some (.str (Tx [c])))) H1 (g c)) :
    EvL (tLc (iStr tl) (gName j) tYes te vs) σ H (l.map g) := by
  have e := el_lcT (fun _ => true) g h hz hw (fun c H1 _ _ => et_yes) (fun c H1 e hc _ => he c H1 e hc)
  rw [List.filter_eq_self.mpr (fun _ _ => rfl)] at e
  exact e
theorem ev_callN {sp : Sp} {n m : Nat} {gV : List V → List V → List V} {E : XK} {tA tK : TA} {vs zs : List V} (h : EvA tA σ H vs) (hk : EvA tK σ H zs) (l1 : vs.length = n) (l2 : zs.length = m) (hs : SpV sp (gV vs zs) H z) : Ev (tCallN n m sp gV E tA tK) σ H z := fun H1 e Q q =>
  h H1 e _ fun H2 e2 => hk H2 (e.trans e2) _ fun H3 e3 => ⟨l1, l2, hs H3 ((e.trans e2).trans e3) Q (fun H4 e4 => q H4 ((e2.trans e3).trans e4)) E⟩
end
theorem ExB.mut {p D : Addr} {H H' : Hp} {o : HO} (e : ExB p H H') (h : H D = none) : ExB p H (L2.upd H' D o) := fun b u n hb => by
  rw [upd_ne (ne_of_none hb h)]
  exact e b u n hb
theorem PotAt.upd {H : Hp} {p D : Addr} {o : HO} (h : PotAt H p) (n : D ≠ p) : PotAt (L2.upd H D o) p := by
  obtain ⟨x, y, h1, h2⟩ := h
  exact ⟨x, y, (upd_ne n.symm).trans h1, h2⟩
theorem PotAt.ne {H : Hp} {p D : Addr} (h : PotAt H p) (n : H D = none) : D ≠ p := fun z => by
  obtain ⟨x, y, h1, _⟩ := h
  rw [z, h1] at n
  cases n
theorem at_sign {l : List Nat} {d : Int} (h0 : 0 ≤ d) (h1 : d < (l.length : Int)) : ∃ c, atI (Tx l).cps.toList d = some c ∧ c ∈ l := by
  obtain ⟨j, rfl⟩ := Int.eq_ofNat_of_zero_le h0
  have h2 : j < l.length := by omega
  refine ⟨l[j], atI_nat ?_, List.getElem_mem h2⟩
  show l[j]? = some l[j]
  exact List.getElem?_eq_getElem h2
def sgn : List Nat := [48, 49, 120, 122]
theorem e_sgn : (Str.ofString "01xz").cps.toList = sgn := by decide +kernel
/-! ### zip of two texts -/
def Itzs (x y : Str) : It := ⟨fun i _ => i < min x.cps.size y.cps.size,
  fun i H v H' => ∃ T c d, v = .ref T ∧ H T = none ∧ H' = upd H T (.tup [.str ⟨#[c]⟩, .str ⟨#[d]⟩]) ∧ x.cps[i]? = some c ∧ y.cps[i]? = some d,
  fun i _ => i = min x.cps.size y.cps.size⟩
theorem turn_zipS {P : Program} {w : World} {K : PySem.W.Frag} {elts : List Expr} {kk : Nat} {tpos : Pos} {z TI TO j1 j2 : Addr} {x y : Str} {t u : Tok} (D : ZipSep2 z TI TO j1 j2 [j1] [j2]) :
    Turn P w K (.Tuple elts kk tpos) (Itzs x y) [z, TI, TO, j1, j2] z (fun i h => IsZip h z TI TO .none ∧ IsTupOf2 h TI (.ref j1) (.ref j2) ∧ (∃ a1 a2, IsTupOf2 h TO a1 a2) ∧ h.IsStrIter j1 (strIterType x) x t i ∧ h.IsStrIter j2 (strIterType y) y u i) where
  mem := by simp
  obj := fun i h st c hc => by
    obtain ⟨hz, h1, ⟨a1, a2, h2⟩, ⟨o1, e1, _, d1⟩, ⟨o2, e2, _, d2⟩⟩ := st
    simp only [List.mem_cons, List.not_mem_nil, or_false] at hc
    rcases hc with rfl | rfl | rfl | rfl | rfl
    · exact ⟨_, hz, fun v q => nomatch q⟩
    · exact ⟨_, h1, fun v q => nomatch q⟩
    · exact ⟨_, h2, fun v q => nomatch q⟩
    · exact ⟨o1, e1, fun v q => by rw [d1] at q; cases q⟩
    · exact ⟨o2, e2, fun v q => by rw [d2] at q; cases q⟩
  keep := fun i h h' st k => by
    obtain ⟨hz, h1, ⟨a1, a2, h2⟩, ⟨o1, e1, r1⟩, ⟨o2, e2, r2⟩⟩ := st
    exact ⟨k z (by simp) _ hz, k TI (by simp) _ h1, ⟨a1, a2, k TO (by simp) _ h2⟩, ⟨o1, k j1 (by simp) _ e1, r1⟩, ⟨o2, k j2 (by simp) _ e2, r2⟩⟩
  item := by
    intro X hP hw hK hc i pins s σ H E I hf st hg
    subst hP hw hK
    have hh : X.A.handled = none := I.ok.hd hc
    have W := GoesN.zip2 (elts := elts) (x1 := kk) (pos := tpos) (A := X.A) D (Draws.text (prog := X.prog) (w := X.w) (A := X.A.in1) hh j1 x t) (Draws.text (prog := X.prog) (w := X.w) (A := X.A.in1) hh j2 y u)
    refine wpAny_mono (W.goes i s (fun v s2 => ∃ x' H', Inv X pins σ H' s2 ∧ RelV x' v ∧ (Itzs x y).yld i H x' H' ∧ (IsZip s2.heap z TI TO .none ∧ IsTupOf2 s2.heap TI (.ref j1) (.ref j2) ∧ (∃ a1 a2, IsTupOf2 s2.heap TO a1 a2) ∧ s2.heap.IsStrIter j1 (strIterType x) x t (i + 1) ∧ s2.heap.IsStrIter j2 (strIterType y) y u (i + 1)) ∧ ∀ b ∈ [z, TI, TO, j1, j2], H' b = none) E hg st fun v h' tk hY st' hk _ => ?_) (fun r s1 q => q) fun _ _ e => e
    obtain ⟨T, xv, yv, rfl, hn, ⟨c, u1, hc1, rfl⟩, ⟨d, u2, hc2, rfl⟩, hT⟩ := hY
    obtain ⟨o, ho, hcl, n, hd⟩ := hT
    have new : ObjOk X.prog X.w (upd H T (.tup [.str ⟨#[c]⟩, .str ⟨#[d]⟩])) h' T (.tup [.str ⟨#[c]⟩, .str ⟨#[d]⟩]) :=
      ⟨by show 2 ≤ sizeLine; decide, [.str ⟨#[c]⟩ u1, .str ⟨#[d]⟩ u2], .cons ⟨u1, rfl⟩ (.cons ⟨u2, rfl⟩ .nil), ⟨o, ho, hcl, n, hd⟩⟩
    have I1 : Inv X pins σ (upd H T (.tup [.str ⟨#[c]⟩, .str ⟨#[d]⟩])) { s with heap := h', toks := tk } :=
      I.turnedNew (t' := tk) (ch := [z, TI, TO, j1, j2]) (fun b o hb q => hk b o (fun q' => hb (by simp only [List.mem_cons, List.not_mem_nil, or_false] at q' ⊢; rcases q' with q' | q' | q' | q' <;> simp [q'])) q) hf hn new
    refine ⟨.ref T, _, I1, rfl, ⟨T, c, d, rfl, I.hok.fresh hn, rfl, hc1, hc2⟩, st', fun b hb => ?_⟩
    have hlt : b < s.heap.objs.size := by
      obtain ⟨hz, h1, ⟨a1, a2, h2⟩, ⟨o1, e1, _⟩, ⟨o2, e2, _⟩⟩ := st
      simp only [List.mem_cons, List.not_mem_nil, or_false] at hb
      rcases hb with rfl | rfl | rfl | rfl | rfl
      · exact Heap.lt_size hz
      · exact Heap.lt_size h1
      · exact Heap.lt_size h2
      · exact Heap.lt_size e1
      · exact Heap.lt_size e2
    rw [upd_ne (Nat.ne_of_lt (Nat.lt_of_lt_of_le hlt hn))]
    exact (hf b hb).1
  done := by
    intro X hP hw hK hc i pins s σ H E I hf st hg
    subst hP hw hK
    have hh : X.A.handled = none := I.ok.hd hc
    have W := GoesN.zip2 (elts := elts) (x1 := kk) (pos := tpos) (A := X.A) D (Draws.text (prog := X.prog) (w := X.w) (A := X.A.in1) hh j1 x t) (Draws.text (prog := X.prog) (w := X.w) (A := X.A.in1) hh j2 y u)
    have e : i = min x.cps.size y.cps.size := hg
    subst e
    exact W.stops s (fun s1 => Inv X pins σ H s1) E st fun h' tk hk _ => I.turnedL (t' := tk) (ch := [z, TI, TO, j1, j2]) (fun b o hb q => hk b o (fun q' => hb (by simp only [List.mem_cons, List.not_mem_nil, or_false] at q' ⊢; rcases q' with q' | q' | q' | q' <;> simp [q'])) q) hf
  self := fun A i s Q E st h => wpAny_pyIter_zip st.1 h
def iZipS (ta : TA) : TI := fun σ H R => ta σ H fun vs H1 => ∃ x y, vs = [.str x, .str y] ∧ R (Itzs x y) H1
theorem pi_zipS {X : Cx} {e e2 : Expr} {ta : TA} {p pos tpos : Pos} {elts : List Expr} {kk : Nat} (hg : Gl X "zip") (hm : X.mg "zip" = none) (ha : PA X [e, e2] ta)
    (hs : starEach [e, e2] X.env = (false, eval e X.env) :: starEach [e2] X.env := by rfl) (hpl : (backTo pos (starEach [e2] X.env)).any (·.1) = false := by rfl) :
    PI X (.Tuple elts kk tpos) (.Call (.Name "zip" p) [e, e2] [] pos) (iZipS ta) := by
  refine ⟨fun pins s σ H R I h => ?_⟩
  refine PyProof.Rows.Call_ (ld_blt I hg hm PyProof.Rows.boot_zip (PyProof.Rows.callWith_type1 (thn (ha.run pos pins s σ H _ I h) fun us s1 ⟨vs, H1, I1, r1, q1⟩ => ?_) hs hpl))
  obtain ⟨x, y, ex, q⟩ := q1
  subst ex
  cases r1 with
  | cons r rr =>
    cases rr with
    | cons r' rr =>
      cases rr
      obtain ⟨t, rfl⟩ := r
      obtain ⟨u, rfl⟩ := r'
      refine zip_begins2 (begins_text x t) (begins_text y u) True.intro True.intro fun h' hz h1 h2 g1 g2 hsz hk => wpAny_pyIter_zip hz ?_
      have I2 : Inv X pins σ H1 { s1 with heap := h' } := I1.kept (t' := s1.toks) hk
      refine ⟨s1.heap.objs.size + 4, [s1.heap.objs.size + 4, s1.heap.objs.size + 2, s1.heap.objs.size + 3, s1.heap.objs.size, s1.heap.objs.size + 1], _, _, H1, rfl, I2, turn_zipS (zip_sep2 (fun _ hb => by cases hb) (fun _ hb => by cases hb)), ⟨hz, h1, ⟨_, _, h2⟩, ⟨_, g1, rfl, rfl⟩, ⟨_, g2, rfl, rfl⟩⟩, fun c hcm => ?_, q⟩
      have hle : s1.heap.objs.size ≤ c := by
        simp only [List.mem_cons, List.not_mem_nil, or_false] at hcm
        rcases hcm with q' | q' | q' | q' | q' <;> rw [q'] <;> first | exact Nat.le_refl _ | exact Nat.le_add_right _ _
      exact I1.fpOk hle (I1.hok.fresh hle)
theorem walk_zipS {x y : Str} : Walk (Itzs x y) (min x.cps.size y.cps.size) (fun _ => True) (fun i H v H' => ∃ T c d, v = .ref T ∧ H T = none ∧ H' = upd H T (.tup [.str ⟨#[c]⟩, .str ⟨#[d]⟩]) ∧ x.cps[i]? = some c ∧ y.cps[i]? = some d) :=
  ⟨fun _ _ hi _ => hi, fun _ _ => rfl, fun _ _ _ _ _ _ q => q⟩
end Dw

set_option Elab.async false
set_option linter.all false
set_option maxRecDepth 100000
namespace Dw
open PySem L2 Evl
section
variable {K : PySem.W.Frag} {σ : L2.St} {H H' : Hp} {ta : TA} {tb tc te tx tl : TE} {t u : TT} {x y z v : V}
/-- [e for a, b in zip(x, y)], two texts of one length -/
theorem el_lcZ {la lb : List Nat} {j1 j2 : Nat} {vs : List Nat} (g : Nat → Nat → V) (h : EvA ta σ H [.str (Tx la), .str (Tx lb)]) (hl : la.length = lb.length) (hz : la.length ≤ 40000)
    (hw : ∀ x y, wipe (((wipe σ vs).set j1 (some x)).set j2 (some y)) vs = wipe σ vs)
    (he : ∀ (c d : Nat) H1, Ex H H1 → c ∈ la → d ∈ lb → Ev te (((wipe σ vs).set j1 (some (.str (Tx [c])))).set j2 (some (.str (Tx [d])))) H1 (g c d)) :
    EvL (tLc (iZipS ta) (gTup K 2 (gCons (gName j1) (gCons (gName j2) gNil))) tYes te vs) σ H (List.zipWith g la lb) := fun H0 e Q q => h H0 e _ fun H1 e1 => ⟨Tx la, Tx lb, rfl, fun Dl hD => by
  have hs : min (Tx la).cps.size (Tx lb).cps.size = la.length := by
    have h1 : (Tx la).cps.size = la.length := Tx_len la
    have h2 : (Tx lb).cps.size = lb.length := Tx_len lb
    omega
  refine lc_it walk_zipS (fun i H2 => Ex H1 H2 ∧ H2 Dl = some (.lst ((List.zipWith g la lb).take i))) ⟨Ex.new hD, upd_same⟩ (fun _ _ _ _ => True.intro) (fun i x' H2 H3 hi p yy => ?_) (fun H2 p => ?_)
  · obtain ⟨T, c, d, rfl, nT, rfl, hc, hd⟩ := yy
    have hc' : la[i]? = some c := by
      rw [← hc]
      simp [Tx]
    have hd' : lb[i]? = some d := by
      rw [← hd]
      simp [Tx]
    have hg : (List.zipWith g la lb)[i]? = some (g c d) := by
      rw [List.getElem?_zipWith, hc', hd']
    refine ⟨T, _, rfl, st_of upd_same, rfl, _, _, rfl, _, _, rfl, rfl, hw _ _, ?_⟩
    refine he c d _ (((e.trans e1).trans p.1).trans (Ex.new nT)) (List.mem_of_getElem? hc') (List.mem_of_getElem? hd') _ (Ex.refl _) _ fun H4 e4 => ⟨_, e4 Dl _ ((Ex.new nT) Dl _ p.2), sz_lt ?_, ?_, ?_⟩
    · have := List.length_take_le i (List.zipWith g la lb)
      omega
    · exact Ex.mut ((p.1.trans (Ex.new nT)).trans e4) hD
    · rw [upd_same, List.take_add_one, hg]
      rfl
  · obtain ⟨p1, p2⟩ := p
    rw [hs, List.take_of_length_le (by rw [List.length_zipWith]; omega)] at p2
    exact q Dl H2 (fresh_back e1 hD) (e1.trans p1) p2⟩
theorem ev_kd {w : World} {p : Addr} {s : Str} {ta tb : TE} (ha : Ev ta σ H (.ref p)) (hb : Ev tb σ H (.str s)) (hk : KDct K w p s v) : Ev (tOp (rIxD K w) ta tb) σ H v :=
  ev_op ha hb fun H1 _ _ q => ⟨p, s, v, rfl, rfl, hk, q H1 (Ex.refl _)⟩
end
/-! ### f(*xs), f a local that holds one of several defs -/
def tCallLS (K : PySem.W.Frag) (i : Nat) (S : Addr → Option Sp) (te : TE) : TE := fun σ H Q => ∃ f sp, σ[i]? = some (some (.ref f)) ∧ S f = some sp ∧ te σ H fun y H1 => ∃ a xs, y = V.ref a ∧ (SqT K H1 a xs ∨ SqL K H1 a xs) ∧ sp xs H1 Q (fun _ _ _ => False)
theorem pe_callLS {X : Cx} {k i : Nat} {x : Str} {p q pos : Pos} {e : Expr} {te : TE} {S : Addr → Option Sp} (A : ∀ f sp, S f = some sp → Held X.prog X.w X.K X.mg X.base k f sp) (hr : Room k X.A) (hN : X.N[i]? = some x) (hv : Vis X.env.scope x) (he : PE X e te)
    (hdb : (x == ("__debug__" : Str)) = false := by decide) (hcd : (x == ("__classdict__" : Str)) = false := by decide)
    (hst : starEach [.Starred e q] X.env = [(true, eval e X.env)] := by rfl) : PE X (.Call (.Name x p) [.Starred e q] [] pos) (tCallLS X.K i S te) := by
  refine ⟨fun pins s σ H Q I h => ?_⟩
  obtain ⟨f, sp, hs, hS, ht⟩ := h
  obtain ⟨fd, ps, F, hk, hb⟩ := (A f sp hS).ex
  refine wpAny_Call_Name_kw (thn ((pe_var (pos := p) hN hv hdb hcd).run pins s σ H (fun v H1 => v = .ref f ∧ H1 = H) I ⟨.ref f, hs, rfl, rfl⟩) fun u s1 ⟨v, H1, I1, r1, q1⟩ => ?_)
  obtain ⟨rfl, rfl⟩ := q1
  cases r1
  refine PySem.W.callWith_S (h₀ := X.base) I1.ok.mod.kin hk (thn (he.run pins s1 σ H1 _ I1 ht) fun v s2 ⟨y, H2, I2, ry, a, xs, ey, hxs, q2⟩ => ?_) hst
  subst ey
  obtain rfl : v = Value.ref a := ry
  refine StX.star_any I2 hxs fun us s3 I3 rv => ⟨I3.kIn, run_fn (dvs := []) (ds := []) (E := fun _ _ _ => False) F hr hb .nil (fun _ _ _ _ _ _ _ z => z.elim) I3 rv ?_⟩
  rw [List.append_nil]
  exact q2
/-! ### replace of one sign by another -/
theorem replL_map {a b : Nat} : ∀ l : List Nat, StrLaws.replL [a] [b] l = l.map fun c => if c = a then b else c
  | [] => StrLaws.replL_nil
  | c :: l => by
    by_cases h : c = a
    · rw [StrLaws.replL_hit (by simp) (by simp [h])]
      simp [h, replL_map l]
    · rw [StrLaws.replL_miss (by simp [h]), replL_map l]
      simp [h]
theorem replace_Tx {y z : Str} {a b : Nat} (hy : y = Tx [a]) (hz : z = Tx [b]) (l : List Nat) : Txt.replace (Tx l) y z = Tx (l.map fun c => if c = a then b else c) := by
  subst hy hz
  refine TL.ext_tl ?_
  exact (StrLaws.replace_list (by simp [Str.length])).trans (replL_map l)
end Dw

set_option Elab.async false
set_option linter.all false
set_option maxRecDepth 100000
namespace Dw
open PySem L2 Evl
/-! ### a text turned about -/
def tRevS (te : TE) : TE := fun σ H Q => te σ H fun x H1 => ∃ l, x = .str (Tx l) ∧ l.length ≤ 40000 ∧ Q (.str (Tx l.reverse)) H1
theorem rev_Tx (l : List Nat) (u : Tok) : Txt.sliceBy (Tx l) none none (-1, u) = Tx l.reverse := by
  refine TL.ext_tl ?_
  show (Txt.sliceBy (Tx l) none none (-1, u)).cps.toList = l.reverse
  rw [PyProof.Rows.step_rev_list, Tx_len]
  apply List.ext_getElem
  · simp
  · intro i h1 h2
    simp at h1
    simp [Tx, List.getElem_reverse]
    rw [List.getElem?_eq_getElem (by omega)]
    rfl
theorem pe_revS {X : Cx} {e : Expr} {te : TE} {k : Nat} {p1 p2 p3 pos : Pos} (he : PE X e te) : PE X (.Subscript e (.Slice none none (some (.UnaryOp .USub (.Constant (.int 1) k p1) p2)) p3) pos) (tRevS te) := by
  refine ⟨fun pins s σ H Q I h => ?_⟩
  refine PyProof.Rows.Subscript_ (thn (he.run pins s σ H _ I h) fun v s1 ⟨x, H1, I1, r1, q1⟩ => ?_)
  obtain ⟨l, ex, hl, q⟩ := q1
  subst ex
  obtain ⟨t, rfl⟩ := r1
  have hst : PO X (some (.UnaryOp .USub (.Constant (.int 1) k p1) p2)) (tPart (tUn (rU fun i => .int (-i)) (tC (.int 1)))) := po_some (pe_un un_neg pe_int)
  refine wpAny_Slice (thn (po_none.run pins s1 σ H1 (fun o G => o = none ∧ G = H1) I1 ⟨rfl, rfl⟩) fun vl s2 ⟨l2, H2, I2, pl, el, e2⟩ => ?_)
  subst el e2
  refine thn (po_none.run pins s2 σ H2 (fun o G => o = none ∧ G = H2) I2 ⟨rfl, rfl⟩) fun vu s3 ⟨u, H3, I3, pu, eu, e3⟩ => ?_
  subst eu e3
  refine thn (hst.run pins s3 σ H3 (fun o G => o = some (-1) ∧ G = H3) I3 ⟨1, rfl, -1, rfl, rfl, rfl⟩) fun vs s4 ⟨o, H4, I4, ps, eo, e4⟩ => ?_
  subst eo e4
  have I5 : Inv X pins σ H4 { s4 with heap := s4.heap.push { cls := .type "slice", data := .fields #[vl, vu, vs] } } := I4.kept (t' := s4.toks) fun b ob q => Heap.get?_push_of_some _ q
  obtain ⟨a1, rfl, ha1⟩ := IsPart.raw pl
  obtain ⟨a2, rfl, ha2⟩ := IsPart.raw pu
  obtain ⟨a3, rfl, ha3⟩ := IsPart.raw ps
  cases a1 with
  | some _ => cases ha1
  | none =>
    cases a2 with
    | some _ => cases ha2
    | none =>
      cases a3 with
      | none => cases ha3
      | some a3 =>
        obtain ⟨m, uk⟩ := a3
        have hm : m = -1 := by
          have := Option.some.inj ha3
          first | exact this.symm | exact this
        subst hm
        refine PyProof.Rows.tail_any (ops := [.ref s4.heap.objs.size, .str (Tx l) t]) (typeIs_str _ _ _) F.slot_str_getitem.lookup (wpAny_getItem_str_slice (l := none) (u := none) (st := some (-1, uk)) ⟨_, Heap.get?_push_size _ rfl, rfl, rfl⟩ rfl
          (post_val_or_str ⟨Nat.le_trans (Txt.sliceBy_le (Tx l) none none (-1, uk) (show (-1 : Int) ≠ 0 by decide)) (sz_of (by rw [Tx_len]; omega)), fun t' c => ?_⟩)) (by with_unfolding_all rfl)
        have e := rev_Tx l uk
        unfold Txt.sliceBy at e
        first
          | exact ⟨.str (Tx l.reverse), H4, I5.tok c, ⟨t', by rw [e]⟩, q⟩
          | exact ⟨.str (Tx l.reverse), H4, I5.tok c, ⟨t', by rw [← e]; rfl⟩, q⟩
theorem ev_revS {σ : L2.St} {H : Hp} {te : TE} {l : List Nat} (h : Ev te σ H (.str (Tx l))) (hl : l.length ≤ 40000) : Ev (tRevS te) σ H (.str (Tx l.reverse)) := fun H1 e Q q =>
  h H1 e _ fun H2 e2 => ⟨l, rfl, hl, q H2 e2⟩
end Dw

set_option Elab.async false
set_option linter.all false
set_option maxRecDepth 100000
namespace Dw
open PySem L2 Evl
/-! ### sorted of a tuple of texts, of a long list of texts -/
section
open PyProof.Rows
variable {prog : Program} {w : World} {A : Around} {E : Value → Shared → Prop} {s : Shared}
theorem collect_tup {l : Addr} {us : List Value} {R : List Value → Shared → Prop} (ht : s.heap.IsTuple l us.toArray)
    (k : R us { s with heap := (s.heap.push (seqObj "list" #[] 0)).update s.heap.objs.size (Obj.mapSeq (· ++ us.toArray)) }) (few : us.length ≤ sizeLine) : wpAny (model prog w) A (collect (.ref l)) R E s := by
  obtain ⟨ob, hob, hcl, n, hdt⟩ := id ht
  unfold collect
  refine wpAny_bind (wpAny_runValue (codeAny_builtin entry_proto_collect' ?_)); show wpAny _ _ (do again (.builtin "list.__iadd__" ⟨[← newList [], .ref l], []⟩)) _ _ s
  refine wpAny_bind (wpAny_newList (wpAny_pure ⟨Code.quiet_builtin _ (by decide +kernel), codeAny_builtin entry_list_iadd' ?_⟩)); show wpAny _ _ (Builtin.List.listExtendWith (.ref s.heap.objs.size) (.ref l) (.ref s.heap.objs.size)) _ _ { s with heap := s.heap.push (seqObj "list" #[] 0) }
  unfold Builtin.List.listExtendWith
  have hob' : (s.heap.push (seqObj "list" #[] 0)).get? l = some ob := Heap.get?_push_of_some _ hob
  refine wpAny_bind (wpAny_typeOf (T := "tuple") ⟨ob, hob', hcl⟩ ?_)
  rw [if_pos (by rw [show (Value.type "tuple" == Value.type "tuple") = true from rfl, Bool.or_true])]
  refine wpAny_bind (listItems_at hob' hdt ?_)
  refine wpAny_bind (listItems_at (xs := #[]) (n := 0) (Heap.get?_push_size _ rfl) rfl ?_); rw [if_neg (by simp)]
  refine wpAny_bind (listUpdate_at (xs := #[]) (n := 0) (Heap.get?_push_size _ rfl) rfl ?_ (Nat.zero_le _) (by show (#[] ++ us.toArray).size ≤ sizeLine + 1; simp only [Array.size_append, List.size_toArray, List.length_nil]; omega))
  refine wpAny_pure ?_
  show wpAny (model prog w) A (do let o ← load s.heap.objs.size; match o.data with | .seq xs _ => pure xs.toList | _ => unsupported "internal:collect") R E { s with heap := (s.heap.push (seqObj "list" #[] 0)).update s.heap.objs.size (Obj.mapSeq (· ++ us.toArray)) }
  refine wpAny_bind (wpAny_load (get?_update_seq (Heap.get?_push_size _ rfl) _) ?_)
  show wpAny _ _ (pure ((#[] : Array Value) ++ us.toArray).toList) R E _
  rw [show ((#[] : Array Value) ++ us.toArray).toList = us by simp]
  exact wpAny_pure k
theorem sorted_tupStrs {l : Addr} {us : List Value} {ss : List Str} {Q : Value → Shared → Prop} (ht : s.heap.IsTuple l us.toArray) (hS : StrsAre us ss) (few : us.length < 64)
    (h : ∀ (out : Array Value) (ss' : List Str), StrsAre out.toList ss' → ss'.Perm ss → sortedS ss' = true → Q (.ref (s.heap.objs.size + 1)) { s with heap := sortedAll s.heap us out }) :
    wpAny (model prog w) A (call (.builtin "sorted") [.ref l]) Q E s := by
  refine Calls.call_function_entry kind_sorted plain_sorted entry_sorted (args_sorted1 _) ?_; unfold Builtin.«sorted»
  have sz : us.length ≤ sizeLine := by rw [sizeLine_eq]; omega
  refine wpAny_bind (m := checkCount "sorted" 1 1 _) (wpAny_pure (wpAny_bind (collect_tup ht ?_ sz)))
  refine wpAny_bind (wpAny_newList ?_ sz)
  have e1 : ((s.heap.push (seqObj "list" #[] 0)).update s.heap.objs.size (Obj.mapSeq (· ++ us.toArray))).objs.size = s.heap.objs.size + 1 := by rw [Heap.size_update, size_push']
  have e2 : (((s.heap.push (seqObj "list" #[] 0)).update s.heap.objs.size (Obj.mapSeq (· ++ us.toArray))).push (seqObj "list" us.toArray 0)).get? (s.heap.objs.size + 1) = some (seqObj "list" us.toArray 0) := by rw [← e1]; exact Heap.get?_push_size _ rfl
  show wpAny _ _ _ _ _ { s with heap := ((s.heap.push (seqObj "list" #[] 0)).update s.heap.objs.size (Obj.mapSeq (· ++ us.toArray))).push (seqObj "list" us.toArray 0) }
  rw [e1]
  refine wpAny_bind (wpAny_holding (wpAny_call_entry slot_list_sort ⟨_, e2, rfl⟩ entry_list_sort (list_sort_treeK strKind_oneLt e2 hS.keysOf (fun v₁ v₂ rest e => keyKind_strs (by rw [← e]; exact hS)) few fun st' hp hs => ⟨_, rfl, ?_⟩) (args_list_sort _)))
  obtain ⟨ss', h1, h2, h3⟩ := sorted_out_str hS hp hs
  exact wpAny_pure ⟨_, rfl, h _ ss' h1 h2 h3⟩
end
section
variable {X : Cx}
def rSortedTS (K : PySem.W.Frag) : List V → Hp → VK → Prop := fun vs H Q => ∃ (a : Addr) (xs : List Str), vs = [V.ref a] ∧ SqT K H a (xs.map V.str) ∧ xs.length < 64 ∧
  ∀ (ys : List Str) (p : Addr), ys.Perm xs → PyProof.Rows.sortedS ys = true → H p = none → Q (.ref p) (upd H p (.lst (ys.map V.str)))
theorem cr_sortedTS : CallR X (.builtin "sorted") (rSortedTS X.K) := by
  intro pins s σ H vs us Q I r h
  obtain ⟨a, xs, rfl, hs, few, q⟩ := h
  obtain ⟨its, rv, hl, _⟩ := I.tuple hs
  rw [Vals.ref1 r]
  have n0 := rv.length
  rw [List.length_map] at n0
  refine sorted_tupStrs hl rv.strs (by rw [← n0]; exact few) fun out ys h1 h2 h3 => ?_
  obtain ⟨ep, he'⟩ := PyProof.Rows.sortedAll_at s.heap its out
  exact ⟨.ref _, upd H (s.heap.objs.size + 1) (.lst (ys.map V.str)), I.laid (t' := s.toks) (fun _ _ => PyProof.Rows.sortedAll_old) (Nat.le_succ _) ⟨by rw [List.length_map, h2.length_eq]; exact small64 few, out.toList, ep, vals_of_strs h1, he'⟩, rfl, q ys _ h2 h3 (I.hok.fresh (Nat.le_succ _))⟩
def rSortedSA (K : PySem.W.Frag) : List V → Hp → VK → Prop := fun vs H Q => ∃ (a : Addr) (xs : List Str), vs = [V.ref a] ∧ SqL K H a (xs.map V.str) ∧ xs.length ≤ 1000 ∧
  ∀ (ys : List Str) (p : Addr), ys.Perm xs → PyProof.Rows.sortedS ys = true → H p = none → Q (.ref p) (upd H p (.lst (ys.map V.str)))
theorem cr_sortedSA : CallR X (.builtin "sorted") (rSortedSA X.K) := by
  intro pins s σ H vs us Q I r h
  obtain ⟨a, xs, rfl, hs, few, q⟩ := h
  obtain ⟨its, rv, hl, _⟩ := I.list hs
  rw [Vals.ref1 r]
  have n0 := rv.length
  rw [List.length_map] at n0
  have sz : xs.length ≤ sizeLine := Nat.le_of_lt (small1000 few)
  refine PyProof.Rows.sorted_strsAny hl.isList rv.strs (by rw [← n0]; exact sz) fun out ys h1 h2 h3 => ?_
  obtain ⟨ep, he'⟩ := PyProof.Rows.sortedAll_at s.heap its out
  exact ⟨.ref _, upd H (s.heap.objs.size + 1) (.lst (ys.map V.str)), I.laid (t' := s.toks) (fun _ _ => PyProof.Rows.sortedAll_old) (Nat.le_succ _) ⟨by rw [List.length_map, h2.length_eq]; exact sz, out.toList, ep, vals_of_strs h1, he'⟩, rfl, q ys _ h2 h3 (I.hok.fresh (Nat.le_succ _))⟩
end
/-! ### drawn values, signs -/
def Sg (l : List Nat) : Prop := ∀ c ∈ l, c ∈ sgn
def rd (c : Nat) : Nat := if c = 122 then 120 else c
def Sx (l : List Nat) : Prop := ∀ c ∈ l, c ∈ [48, 49, 120]
theorem rd_sx {l : List Nat} (h : Sg l) : Sx (l.map rd) := fun c hc => by
  obtain ⟨d, hd, rfl⟩ := List.mem_map.mp hc
  have := h d hd
  simp only [sgn, List.mem_cons, List.not_mem_nil, or_false] at this
  rcases this with rfl | rfl | rfl | rfl <;> decide
theorem Sg.low {l : List Nat} (h : Sg l) : ∀ c ∈ l, c < 128 := fun c hc => by
  have := h c hc
  simp only [sgn, List.mem_cons, List.not_mem_nil, or_false] at this
  omega
def spVal : Sp := fun vs H Q _ => ∃ (p : Addr) (n : Int), vs = [.ref p, .int n] ∧ PotAt H p ∧ 1 ≤ n ∧ n ≤ 8 ∧ ∀ (H' : Hp) (l : List Nat), ExB p H H' → PotAt H' p → (l.length : Int) = n → Sg l → Q (.str (Tx l)) H'
def spRead : Sp := fun vs H Q _ => ∃ l : List Nat, vs = [.str (Tx l)] ∧ l.length ≤ 1000 ∧ ∀ H', Ex H H' → Q (.str (Tx (l.map rd))) H'
theorem s_0 : Str.ofString "0" = Tx [48] := by decide +kernel
theorem s_1 : Str.ofString "1" = Tx [49] := by decide +kernel
theorem s_x : Str.ofString "x" = Tx [120] := by decide +kernel
theorem s_z : Str.ofString "z" = Tx [122] := by decide +kernel
theorem s_e : Str.ofString "" = Tx [] := by decide +kernel
theorem s_01 : Str.ofString "01" = Tx [48, 49] := by decide +kernel
section
variable {K : PySem.W.Frag} {σ : L2.St} {H : Hp} {ta tb te : TE}
theorem ec_0 : Ev (tC (.str (Str.ofString "0"))) σ H (.str (Tx [48])) := by rw [s_0]; exact ev_c
theorem ec_1 : Ev (tC (.str (Str.ofString "1"))) σ H (.str (Tx [49])) := by rw [s_1]; exact ev_c
theorem ec_x : Ev (tC (.str (Str.ofString "x"))) σ H (.str (Tx [120])) := by rw [s_x]; exact ev_c
theorem ec_z : Ev (tC (.str (Str.ofString "z"))) σ H (.str (Tx [122])) := by rw [s_z]; exact ev_c
theorem ec_e : Ev (tC (.str (Str.ofString ""))) σ H (.str (Tx [])) := by rw [s_e]; exact ev_c
theorem ec_01 : Ev (tC (.str (Str.ofString "01"))) σ H (.str (Tx [48, 49])) := by rw [s_01]; exact ev_c
theorem dec_Tx (a b : List Nat) : decide (V.str (Tx a) = V.str (Tx b)) = decide (a = b) := by
  rw [decide_eq_decide]
  exact ⟨fun h => Tx_inj (V.str.inj h), fun h => by rw [h]⟩
theorem ev_eqT {a b : List Nat} (ha : Ev ta σ H (.str (Tx a))) (hb : Ev tb σ H (.str (Tx b))) : Ev (tOp rEq ta tb) σ H (.bl (decide (a = b))) := by
  rw [← dec_Tx]
  exact ev_op ha hb (rv_eq rfl)
theorem ev_neT {a b : List Nat} (ha : Ev ta σ H (.str (Tx a))) (hb : Ev tb σ H (.str (Tx b))) : Ev (tOp rNe ta tb) σ H (.bl (!decide (a = b))) := by
  rw [← dec_Tx]
  exact ev_op ha hb (rv_ne rfl)
theorem ev_inT {c : Nat} {l : List Nat} (ha : Ev ta σ H (.str (Tx [c]))) (hb : Ev tb σ H (.str (Tx l))) : Ev (tOp rInS ta tb) σ H (.bl (decide (c ∈ l))) := ev_inS ha hb
theorem ev_niT {c : Nat} {l : List Nat} (ha : Ev ta σ H (.str (Tx [c]))) (hb : Ev tb σ H (.str (Tx l))) : Ev (tOp rNotInS ta tb) σ H (.bl (!decide (c ∈ l))) := ev_notInS ha hb
theorem ev_addT {a b : List Nat} (ha : Ev ta σ H (.str (Tx a))) (hb : Ev tb σ H (.str (Tx b))) (hz : a.length + b.length ≤ 100000) :
    Ev (tOp (fun x y H Q => ∃ i j, x = .str i ∧ y = .str j ∧ i.length + j.length ≤ sizeLine ∧ Q (.str (i ++ j)) H) ta tb) σ H (.str (Tx (a ++ b))) :=
  ev_op ha hb fun H1 _ Q q => ⟨Tx a, Tx b, rfl, rfl, sz_of (by rw [Tx_len, Tx_len]; exact hz), by rw [Tx_cat]; exact q H1 (Ex.refl _)⟩
theorem ev_ixT {l : List Nat} {i : Int} {c : Nat} (ha : Ev ta σ H (.str (Tx l))) (hb : Ev tb σ H (.int i)) (hl : l.length ≤ 40000) (hc : atI l i = some c) : Ev (tOp rIxS ta tb) σ H (.str (Tx [c])) :=
  ev_op ha hb (rv_ixS (by rw [Tx_len]; omega) hc)
theorem ev_ifS {b : Bool} {t : TT} {v1 v2 : V} (h : EvT t σ H b) (h1 : Ev ta σ H v1) (h2 : Ev tb σ H v2) : Ev (tIf t ta tb) σ H (if b = true then v1 else v2) :=
  ev_if h (fun e => by rw [e]; exact h1) (fun e => by rw [e]; exact h2)
end
theorem vals_rev : ∀ {a : List V} {b : List Value}, Vals a b → Vals a.reverse b.reverse
  | _, _, .nil => .nil
  | _, _, .cons r t => by
    rw [List.reverse_cons, List.reverse_cons]
    exact (vals_rev t).append (.cons r .nil)
def spLaw (K : PySem.W.Frag) : Sp := fun vs H Q _ => ∃ (a : Addr) (ns : List Int), vs = [.ref a] ∧ SqL K H a (ns.map V.int) ∧ ns.length ≤ 63 ∧ ∀ H', Q (.bl true) H'
end Dw

set_option Elab.async false
set_option linter.all false
set_option maxRecDepth 100000
namespace Dw
open PySem L2 Evl
/-! ### two sorted lists of the same texts are one -/
abbrev leS (a b : Str) : Prop := a.cps.toList ≤ b.cps.toList
theorem risingS_le : ∀ (p : Str) (l : List Str), PyProof.Rows.risingS p l = true → (p :: l).Pairwise leS
  | p, [], _ => List.pairwise_singleton _ _
  | p, x :: r, h => by
    unfold PyProof.Rows.risingS at h
    rw [Bool.and_eq_true] at h
    have ih := risingS_le x r h.2
    have hx : leS p x := by
      have := h.1
      rw [PyProof.Rows.ltCps_eq] at this
      simp at this
      exact this
    refine List.pairwise_cons.mpr ⟨fun y hy => ?_, ih⟩
    rcases List.mem_cons.mp hy with rfl | hy
    · exact hx
    · exact List.le_trans hx ((List.pairwise_cons.mp ih).1 y hy)
theorem sortedS_le : ∀ {l : List Str}, PyProof.Rows.sortedS l = true → l.Pairwise leS
  | [], _ => List.Pairwise.nil
  | x :: r, h => risingS_le x r h
theorem leS_anti {a b : Str} (h1 : leS a b) (h2 : leS b a) : a = b := TL.ext_tl (List.le_antisymm h1 h2)
theorem sorted_one {xs ys zs : List Str} (p1 : xs.Perm zs) (s1 : PyProof.Rows.sortedS xs = true) (p2 : ys.Perm zs) (s2 : PyProof.Rows.sortedS ys = true) : xs = ys :=
  List.Perm.eq_of_pairwise (le := leS) (fun a b _ _ h1 h2 => leS_anti h1 h2) (sortedS_le s1) (sortedS_le s2) (p1.trans p2.symm)
/-! ### mirrors of the operators -/
def mixS (a b : Nat) : Nat := if a = b ∧ a ∈ [48, 49] then a else 120
def anyS (l : List Nat) : Nat := if 49 ∈ l then 49 else if 120 ∈ l then 120 else 48
def allS (l : List Nat) : Nat := if 48 ∈ l then 48 else if 120 ∈ l then 120 else 49
def pickS (c : Nat) (a b : List Nat) : List Nat := if c = 120 then List.zipWith mixS a b else if c = 49 then a else b
def partS (l : List Nat) (hi lo : Nat) : List Nat := (l.drop (l.length - 1 - hi)).take (hi + 1 - lo)
def spMixS : Sp := fun vs H Q _ => ∃ a b : Nat, vs = [.str (Tx [a]), .str (Tx [b])] ∧ ∀ H', Ex H H' → Q (.str (Tx [mixS a b])) H'
def spMixed : Sp := fun vs H Q _ => ∃ a b : List Nat, vs = [.str (Tx a), .str (Tx b)] ∧ a.length = b.length ∧ a.length ≤ 1000 ∧ ∀ H', Ex H H' → Q (.str (Tx (List.zipWith mixS a b))) H'
def spOne (f : List Nat → Nat) : Sp := fun vs H Q _ => ∃ l : List Nat, vs = [.str (Tx l)] ∧ ∀ H', Ex H H' → Q (.str (Tx [f l])) H'
def spPick : Sp := fun vs H Q _ => ∃ (c : Nat) (a b : List Nat), vs = [.str (Tx [c]), .str (Tx a), .str (Tx b)] ∧ a.length = b.length ∧ a.length ≤ 1000 ∧ ∀ H', Ex H H' → Q (.str (Tx (pickS c a b))) H'
def spJoin : Sp := fun vs H Q _ => ∃ a b : List Nat, vs = [.str (Tx a), .str (Tx b)] ∧ a.length + b.length ≤ 1000 ∧ ∀ H', Ex H H' → Q (.str (Tx (a ++ b))) H'
def spPart : Sp := fun vs H Q _ => ∃ (l : List Nat) (hi lo : Nat), vs = [.str (Tx l), .int (hi : Int), .int (lo : Int)] ∧ lo ≤ hi ∧ hi < l.length ∧ l.length ≤ 1000 ∧ ∀ H', Ex H H' → Q (.str (Tx (partS l hi lo))) H'
section
variable {K : PySem.W.Frag} {σ : L2.St} {H : Hp} {ta tb te : TE} {tl th : TO}
theorem cut_Tx (l : List Nat) (i j : Nat) (hij : i ≤ j) (hj : j ≤ l.length) : cutS (Tx l) (some (i : Int)) (some (j : Int)) = Tx ((l.drop i).take (j - i)) := by
  unfold cutS
  rw [Tx_len, HT.sIx_nat, HT.sIx_nat, Nat.min_eq_left hj, Nat.min_eq_left (by omega)]
theorem ev_cutT {l : List Nat} {i j : Nat} (ha : Ev te σ H (.str (Tx l))) (h1 : EvO tl σ H (some (i : Int))) (h2 : EvO th σ H (some (j : Int))) (hij : i ≤ j) (hj : j ≤ l.length) (hz : l.length ≤ 40000) : Ev (tSl rSlS te tl th) σ H (.str (Tx ((l.drop i).take (j - i)))) := fun H1 e Q q =>
  ha H1 e _ fun H2 e2 => h1 H2 (e.trans e2) _ fun H3 e3 => h2 H3 ((e.trans e2).trans e3) _ fun H4 e4 => ⟨Tx l, rfl, sz_of (by rw [Tx_len]; omega), by rw [cut_Tx l i j hij hj]; exact q H4 ((e2.trans e3).trans e4)⟩
/-- a new list of texts, of what a def tells of each of a list's texts -/
theorem el_lcV {xs : List (List Nat)} {a : Addr} {tl : TE} {j : Nat} {vs : List Nat} (g : List Nat → V) (h : Ev tl σ H (.ref a)) (hx : SqL K H a (xs.map fun l => V.str (Tx l))) (hz : xs.length ≤ 40000) (hw : ∀ x, wipe ((wipe σ vs).set j (some x)) vs = wipe σ vs)
    (he : ∀ (l : List Nat) H1, Ex H H1 → l ∈ xs → Ev te ((wipe σ vs).set j (some (.str (Tx l)))) H1 (g l)) :
    EvL (tLc (iList K tl) (gName j) tYes te vs) σ H (xs.map g) := by
  have hs : (xs.map fun l => V.str (Tx l)).length = xs.length := List.length_map _
  rw [← given_all xs [] g, ← hs]
  refine el_lcL (fun _ => true) (fun i => g (xs.getD i [])) h hx (by omega) hw (fun i x H1 e hi => et_yes) (fun i x H1 e hi _ => ?_)
  rw [List.getElem?_map] at hi
  cases hq : xs[i]? with
  | none =>
    rw [hq] at hi
    cases hi
  | some l =>
    rw [hq] at hi
    have ex : V.str (Tx l) = x := Option.some.inj hi
    subst ex
    rw [show xs.getD i [] = l by rw [List.getD_eq_getElem?_getD, hq]; rfl]
    exact he l H1 e (List.mem_of_getElem? hq)
end
end Dw

set_option Elab.async false
set_option linter.all false
set_option maxRecDepth 100000
namespace Dw
open PySem L2 Evl
section
variable {K : PySem.W.Frag} {σ : L2.St} {H : Hp} {ta : TA} {te tx : TE} {t : TT} {z : V}
/-- [e for k in range(i, j, -1)] -/
theorem el_lcR3 {j : Nat} {vs : List Nat} {a b : Int} (v : Nat → V) (h : EvA ta σ H [.int a, .int b, .int (-1)]) (hr : 0 ≤ a ∧ a ≤ 1000 ∧ -1 ≤ b ∧ b ≤ a) (hw : ∀ x, wipe ((wipe σ vs).set j (some x)) vs = wipe σ vs)
    (he : ∀ (i : Nat) H1, Ex H H1 → (i : Int) < a - b → Ev te ((wipe σ vs).set j (some (.int (a - (i : Int))))) H1 (v i)) :
    EvL (tLc (iRng3 ta) (gName j) tYes te vs) σ H ((List.range (a - b).toNat).map v) := fun H0 e Q q => h H0 e _ fun H1 e1 => ⟨a, b, -1, (a - b).toNat, rfl, RgC.neg (by omega) (by omega) (by omega) (by omega), fun Dl hD => by
  have e2 : (List.range (a - b).toNat).map v = given (a - b).toNat (fun _ => true) v := by
    unfold given
    rw [List.filter_eq_self.mpr (fun _ _ => rfl)]
  rw [e2] at q
  refine lc_it walk_rangeC (Cw H1 (fun _ => true) v Dl) ⟨hD, Ex.new hD, upd_same⟩ (fun _ _ _ _ => True.intro) (fun i x H2 H3 hi p y => ?_) (fun H' p => q Dl H' (fresh_back e1 p.1) (e1.trans p.2.1) p.2.2)
  obtain ⟨rfl, hx⟩ := y
  have hx2 : x = .int (a - (i : Int)) := by
    rw [hx]
    show V.int (a + (i : Int) * -1) = V.int (a - (i : Int))
    congr 1
    omega
  subst hx2
  exact ⟨hw _, cw_turn p (by omega) et_yes fun _ => he i H1 (e.trans e1) (by omega)⟩⟩
/-- f('word', [..]) -/
theorem ev_callL2 {sp : Sp} {dvs : List V} {E : XK} {w : V} {xs : List V} (h : EvL te σ H xs) (hs : ∀ p H1, H1 p = some (.lst xs) → Ex H H1 → SpV sp ([w, .ref p] ++ dvs) H1 z) : Ev (tCall sp dvs E (tCons (tC w) (tCons te tNil))) σ H z := fun H1 e Q q =>
  h H1 e _ fun p H2 _ e2 h2 => hs p H2 h2 (e.trans e2) H2 (Ex.refl _) Q (fun H3 e3 => q H3 (e2.trans e3)) E
/-- f('word', [..], k=..) -/
theorem ev_callNL2 {sp : Sp} {n m : Nat} {gV : List V → List V → List V} {E : XK} {tK : TA} {w : V} {xs zs : List V} (h : EvL te σ H xs) (hk : EvA tK σ H zs) (l1 : 2 = n) (l2 : zs.length = m) (hs : ∀ p H1, H1 p = some (.lst xs) → Ex H H1 → SpV sp (gV [w, .ref p] zs) H1 z) : Ev (tCallN n m sp gV E (tCons (tC w) (tCons te tNil)) tK) σ H z := fun H1 e Q q =>
  h H1 e _ fun p H2 _ e2 h2 => hk H2 (e.trans e2) _ fun H3 e3 => ⟨l1, l2, hs p H3 (e3 _ _ h2) ((e.trans e2).trans e3) H3 (Ex.refl _) Q (fun H4 e4 => q H4 ((e2.trans e3).trans e4)) E⟩
end
theorem mul_ok : ∀ d ∈ [48, 49], ∀ n : Fin 9, MulOk (Tx [d]) ((n.val : Nat) : Int) ∧ Txt.mul (Tx [d]) ((n.val : Nat) : Int) = Tx (List.replicate n.val d) := by
  simp only [MulOk]
  decide +kernel
theorem mul_Tx {d : Nat} (hd : d ∈ [48, 49]) {n : Nat} (hn : n ≤ 8) : MulOk (Tx [d]) (n : Int) ∧ Txt.mul (Tx [d]) (n : Int) = Tx (List.replicate n d) := mul_ok d hd ⟨n, by omega⟩
theorem part_due (L : List Nat) (hi lo : Nat) (h1 : lo ≤ hi) (h2 : hi < L.length) : (List.range (hi + 1 - lo)).map (fun t => L.reverse.getD (hi - t) 0) = partS L hi lo := by
  unfold partS
  apply List.ext_getElem
  · simp
    omega
  · intro i h3 h4
    simp at h3
    simp
    rw [List.getElem?_reverse (by omega), List.getElem?_eq_getElem (by omega)]
    show L[L.length - 1 - (hi - i)] = L[L.length - 1 - hi + i]
    congr 1
    omega
theorem mix_rd {a b : Nat} (ha : a ∈ sgn) (hb : b ∈ sgn) : mixS (rd a) (rd b) = mixS a b := by
  simp only [sgn, List.mem_cons, List.not_mem_nil, or_false] at ha hb
  rcases ha with rfl | rfl | rfl | rfl <;> rcases hb with rfl | rfl | rfl | rfl <;> decide
theorem mixed_rd : ∀ {a b : List Nat}, Sg a → Sg b → List.zipWith mixS (a.map rd) (b.map rd) = List.zipWith mixS a b
  | [], _, _, _ => by simp
  | _ :: _, [], _, _ => by simp
  | x :: a, y :: b, ha, hb => by
    rw [List.map_cons, List.map_cons, List.zipWith_cons_cons, List.zipWith_cons_cons, mix_rd (ha x (List.mem_cons_self ..)) (hb y (List.mem_cons_self ..)), mixed_rd (fun c hc => ha c (List.mem_cons_of_mem _ hc)) (fun c hc => hb c (List.mem_cons_of_mem _ hc))]
theorem mem_rd {l : List Nat} {c : Nat} (hc : c = 48 ∨ c = 49) : c ∈ l.map rd ↔ c ∈ l := by
  rw [List.mem_map]
  constructor
  · rintro ⟨d, hd, e⟩
    unfold rd at e
    by_cases h : d = 122
    · rw [if_pos h] at e
      omega
    · rw [if_neg h] at e
      rw [← e]
      exact hd
  · intro h
    exact ⟨c, h, by unfold rd; rw [if_neg (by omega)]⟩
theorem x_rd {l : List Nat} (h : Sg l) (u d : Nat) (hud : (u = 48 ∧ d = 49) ∨ (u = 49 ∧ d = 48)) (hu : u ∉ l) : 120 ∈ l.map rd ↔ ¬ l = List.replicate l.length d := by
  rw [List.mem_map]
  constructor
  · rintro ⟨c, hc, e⟩ hr
    rw [hr] at hc
    have := (List.mem_replicate.mp hc).2
    subst this
    unfold rd at e
    by_cases h2 : c = 122
    · omega
    · rw [if_neg h2] at e
      omega
  · intro hn
    by_cases hx : ∃ c ∈ l, rd c = 120
    · obtain ⟨c, hc, e⟩ := hx
      exact ⟨c, hc, e⟩
    · exfalso
      apply hn
      rw [List.eq_replicate_iff]
      refine ⟨rfl, fun c hc => ?_⟩
      have h3 := h c hc
      have h4 : rd c ≠ 120 := fun e => hx ⟨c, hc, e⟩
      have h5 : c ≠ u := fun e => hu (by rw [← e]; exact hc)
      simp only [sgn, List.mem_cons, List.not_mem_nil, or_false] at h3
      rcases h3 with rfl | rfl | rfl | rfl
      · omega
      · omega
      · exact absurd rfl h4
      · exact absurd rfl h4
end Dw

set_option Elab.async false
set_option linter.all false
set_option maxRecDepth 100000
namespace Dw
open PySem L2 Evl
/-! ### set(xs) of a list of whole numbers (the library has it of a tuple) -/
section
open PyProof.Rows
variable {P : Program} {w : World} {A : Around} {E : Value → Shared → Prop} {s : Shared}
abbrev set0 (w : World) : Obj := { cls := .type "set", dict := none, data := .set #[] 0 (.fresh 0 0 (!w.params.followText "set-order")) }
/-- set.__init__ of a set just made, handed a list -/
theorem init_set_lst {l : Addr} {us : Array Value} (ns : List Int) {R : PySem.Fin → Shared → Prop} (calm : A.handled = none) (isl : s.heap.IsList l us) (hni : IntsAre us.toList ns) (few : ns.length + 1 < scanBound)
    (k : ∀ (g : Heap) (tk c : Nat), SetR w g s.heap.objs.size (fun j => decide (j ∈ ns)) c → c ≤ ns.length → (∀ b o, s.heap.get? b = some o → g.get? b = some o) → R (.done (.ret .none)) { s with heap := g, toks := tk }) :
    wpAny (model P w) A (Builtin.«set.__init__» ⟨[.ref s.heap.objs.size, .ref l], []⟩) R E { s with heap := s.heap.push (set0 w) } := by
  have nI : us.size = ns.length := by
    rw [← Array.length_toList]
    exact IntsAre.length hni
  obtain ⟨⟨k1, k2, k3, k4⟩, at0, kc, nn, kd⟩ := isl
  simp only at kc kd
  subst kc kd
  have at1 : (s.heap.push (set0 w)).get? s.heap.objs.size = some (set0 w) := Heap.get?_push_size _ rfl
  have at2 : (s.heap.push (set0 w)).get? l = some ⟨.type "list", k2, .seq us nn, k4⟩ := Heap.get?_push_of_some _ at0
  have b1 := F.sub_list_set
  have b2 := F.sub_list_frozenset
  have b3 : (Value.type "list" == Value.type "dict") = false := by decide
  have b4 : (s.heap.push (set0 w)).IsList l us := ⟨_, at2, rfl, nn, rfl⟩
  unfold Builtin.«set.__init__» noKeywords Builtin.Frozenset.updateFrom
  generalize eI : pyIter = PI
  wp_walk
  subst eI
  refine wpAny_pyIter_list b4 (wpAny_bind (wpAny_runValue ?_))
  have lt : l < s.heap.objs.size := Heap.lt_size at0
  have n1 : (s.heap.push (set0 w)).objs.size = s.heap.objs.size + 1 := Heap.size_push ..
  have c2 : A.in1.handled = none := by simp [calm]
  have n2 : l ≠ (s.heap.push (set0 w)).objs.size := by
    rw [n1]
    exact Nat.ne_of_lt (Nat.lt_succ_of_lt lt)
  have n3 : s.heap.objs.size ∉ [(s.heap.push (set0 w)).objs.size, l] := by
    rw [n1]
    simp only [List.mem_cons, List.not_mem_nil, or_false, not_or]
    exact ⟨Nat.ne_of_lt (Nat.lt_succ_self _), Nat.ne_of_gt lt⟩
  refine set_update_ints ((Walks.list c2 _ l n2 us).toS) s.heap.objs.size n3 ns nI few (fun i v hv => ?_) (us.size - 0) 0 _ (by omega) (Nat.zero_le _) ⟨⟨_, Heap.get?_push_size _ rfl, rfl, rfl⟩, b4.push _⟩ ⟨0, Nat.le_refl 0, setR_new_at (Heap.get?_push_of_some _ at1)⟩ fun s' c mv hc hS => ?_
  · have hi : i < ns.length := by
      rw [← nI]
      exact (Array.getElem?_eq_some_iff.mp hv).1
    obtain ⟨t, e⟩ := IntsAre.int_at hni i v (by rw [Array.getElem?_toList]; exact hv)
    exact ⟨ns[i], t, List.getElem?_eq_getElem hi, by rw [e, List.getD_eq_getElem?_getD, List.getElem?_eq_getElem hi]; rfl⟩
  · obtain ⟨g, g2, d2, tk, o2⟩ := s'
    have e1 : g2 = s.gens := mv.gens
    have e2 : d2 = s.drawn := mv.drawn
    have e3 : o2 = s.os := mv.os
    subst e1 e2 e3
    rw [nI] at hc
    refine wpAny_pure (wpAny_pure (k g tk c hS hc fun b o e => ?_))
    have lb : b < s.heap.objs.size := Heap.lt_size e
    refine mv.heap b o (fun hm => ?_) (Heap.get?_push_of_some _ (Heap.get?_push_of_some _ e))
    rw [n1] at hm
    simp only [List.mem_cons, List.not_mem_nil, or_false] at hm
    rcases hm with hm | hm
    · exact absurd hm (Nat.ne_of_lt lb)
    · exact absurd hm (Nat.ne_of_lt (Nat.lt_succ_of_lt lb))
theorem call_set_lst {l : Addr} {us : Array Value} (ns : List Int) {Q : Value → Shared → Prop} (calm : A.handled = none) (isl : s.heap.IsList l us) (hni : IntsAre us.toList ns) (few : ns.length + 1 < scanBound)
    (k : ∀ (g : Heap) (tk c : Nat), SetR w g s.heap.objs.size (fun j => decide (j ∈ ns)) c → c ≤ ns.length → (∀ b o, s.heap.get? b = some o → g.get? b = some o) → Q (.ref s.heap.objs.size) { s with heap := g, toks := tk }) :
    wpAny (model P w) A (call (.type "set") [.ref l]) Q E s := by
  obtain ⟨c0, t0, m0⟩ := F.called_set.mro
  have f1 := F.called_set.made
  have f2 := F.called_set.sub
  have f3 := F.called_set.notType
  have f4 := F.called_set.canCreate
  have f5 := F.typeCall_set_1 (.ref l)
  refine wpAny_call (codeAny_of_tree (show wpAny _ _ (callAny (.type "set") _) _ _ _ from wpAny_pure ⟨Code.quiet_builtin _ (by decide +kernel), codeAny_builtin F.entry_type_call ?_⟩))
  rw [Around.under_plain (weight_type_call_type "set" [.ref l] []) rfl]
  (repeat (any_goals (first | assumption | wp_step)))
  refine codeAny_mono (code_set_led1 (.ref l) (E := E) (Q₁ := fun v s1 => v = .ref s.heap.objs.size ∧ s1 = { s with heap := s.heap.push (set0 w) }) ⟨rfl, rfl⟩) fun r s1 hr => ?_
  match r, hr with
  | .error e, hr => exact hr
  | .ok (.ret v), hr =>
    obtain ⟨rfl, rfl⟩ := hr
    have ty : Shared.TypeIs { s with heap := s.heap.push (set0 w) } (.ref s.heap.objs.size) "set" := ⟨_, Heap.get?_push_size _ rfl, rfl⟩
    have f6 := F.called_set.init.lookup
    have f7 := F.called_set.init.bind (.ref s.heap.objs.size)
    (repeat (any_goals (first | assumption | wp_step)))
    refine codeAny_mono (codeAny_call_builtin (R := wants (fun r s2 => r = .none ∧ Q (.ref s.heap.objs.size) s2) E) F.called_set.init.plain F.entry_set_init (check_set_init_1 ty ?_)) fun r2 s2 q => ?_
    · exact init_set_lst ns (A := A.in1.in1) (by simp [calm]) isl hni few fun g tk c h1 h2 h3 => ⟨rfl, k g tk c h1 h2 h3⟩
    · match r2, q with
      | .error e, q => exact q
      | .ok (.ret v), q =>
        obtain ⟨rfl, q⟩ := q
        (repeat (any_goals (first | assumption | wp_step)))
      | .ok .next, q => exact q.elim
      | .ok .brk, q => exact q.elim
      | .ok .cont, q => exact q.elim
  | .ok .next, hr => exact hr.elim
  | .ok .brk, hr => exact hr.elim
  | .ok .cont, hr => exact hr.elim
end
section
variable {X : Cx}
def rSetI (K : PySem.W.Frag) (w : World) : List V → Hp → VK → Prop := fun xs H Q => ∃ (l : Addr) (ns : List Int), xs = [.ref l] ∧ SqL K H l (ns.map V.int) ∧ ns.length ≤ 4000 ∧ ∀ (a : Addr) (c : Nat), H a = none → c ≤ ns.length → Q (.ref a) (upd H a (SetO w a (fun j => decide (j ∈ ns)) c))
theorem cr_setI (hc : X.calm = true) : CallR X (.type "set") (rSetI X.K X.w) := by
  intro pins s σ H xs us Q I r h
  obtain ⟨l, ns, rfl, hl, hn, q⟩ := h
  rw [Vals.ref1 r]
  obtain ⟨its, rv, pl, hz⟩ := I.list hl
  refine call_set_lst ns (I.ok.hd hc) pl.isList (by simpa using rv.ints) (by unfold scanBound; omega) fun g tk c hS hc2 hk => ?_
  exact ⟨.ref s.heap.objs.size, upd H s.heap.objs.size (SetO X.w s.heap.objs.size (fun j => decide (j ∈ ns)) c), I.laid (t' := tk) hk (Nat.le_refl _) (setO_new hS), rfl, q _ c (I.hok.fresh (Nat.le_refl _)) hc2⟩
end
/-- of a list of noughts and ones, sorted, each once -/
def su (ns : List Int) : List Int := (if 0 ∈ ns then [0] else []) ++ (if 1 ∈ ns then [1] else [])
theorem su_one {ns ms : List Int} (h01 : ∀ k ∈ ns, k = 0 ∨ k = 1) (hp : ms.Pairwise (· < ·)) (hm : ∀ k : Int, k ∈ ms ↔ k ∈ ns) : ms = su ns := by
  have sub : ∀ k ∈ ms, k = 0 ∨ k = 1 := fun k hk => h01 k ((hm k).mp hk)
  unfold su
  simp only [← hm]
  clear hm h01
  match ms, hp, sub with
  | [], _, _ => simp
  | [a], _, sub =>
    rcases sub a (by simp) with rfl | rfl <;> simp
  | [a, b], hp, sub =>
    have h1 : a < b := (List.pairwise_cons.mp hp).1 b (by simp)
    rcases sub a (by simp) with rfl | rfl <;> rcases sub b (by simp) with rfl | rfl <;> first | omega | simp
  | a :: b :: c :: r, hp, sub =>
    have h1 : a < b := (List.pairwise_cons.mp hp).1 b (by simp)
    have h2 : b < c := (List.pairwise_cons.mp (List.pairwise_cons.mp hp).2).1 c (by simp)
    have := sub a (by simp)
    have := sub c (by simp)
    have := sub b (by simp)
    omega
theorem el_su {K : PySem.W.Frag} {w : World} {σ : L2.St} {H : Hp} {te : TE} {ns : List Int} (h : EvL te σ H (ns.map V.int)) (h01 : ∀ k ∈ ns, k = 0 ∨ k = 1) (hz : ns.length < 64) : EvL (tCB (rSortedSet w) (tCons (tCB (rSetI K w) (tCons te tNil)) tNil)) σ H ((su ns).map V.int) := fun H1 e Q q =>
  h H1 e _ fun p H2 np e2 h2 => ⟨p, ns, rfl, sq_of h2, by omega, fun a c na hc => ⟨a, _, c, rfl, upd_same, by omega, fun ms r hp hm _ nr => by
    rw [su_one h01 hp (fun k => (hm k).trans decide_eq_true_iff)]
    exact q r _ (fresh_back e2 (fresh_back (Ex.new na) nr)) ((e2.trans (Ex.new na)).trans (Ex.new nr)) upd_same⟩⟩
/-- the same of a list that a name holds -/
theorem el_suV {K : PySem.W.Frag} {w : World} {σ : L2.St} {H : Hp} {te : TE} {ns : List Int} {p : Addr} (h : Ev te σ H (.ref p)) (hp0 : SqL K H p (ns.map V.int)) (h01 : ∀ k ∈ ns, k = 0 ∨ k = 1) (hz : ns.length < 64) : EvL (tCB (rSortedSet w) (tCons (tCB (rSetI K w) (tCons te tNil)) tNil)) σ H ((su ns).map V.int) := fun H1 e Q q =>
  h H1 e _ fun H2 e2 => ⟨p, ns, rfl, ex_l (e.trans e2) hp0, by omega, fun a c na hc => ⟨a, _, c, rfl, upd_same, by omega, fun ms r hp hm _ nr => by
    rw [su_one h01 hp (fun k => (hm k).trans decide_eq_true_iff)]
    exact q r _ (fresh_back e2 (fresh_back (Ex.new na) nr)) ((e2.trans (Ex.new na)).trans (Ex.new nr)) upd_same⟩⟩
end Dw

set_option Elab.async false
set_option linter.all false
set_option maxRecDepth 100000
namespace Dw
open PySem L2 Evl
/-! ### the text by places -/
def top (i : Nat) : Stmt := PySem.Challenge.pw_deltawires_k15_whole_bits_by_all_filling.main.body.getD i (.Pass ⟨0, 0, 0, 0⟩)
abbrev s_read : Stmt := top 2
abbrev N_read : List Str := ["value"]
theorem sc_read : FnScope N_read ["value"] (defScope s_read) := ⟨rfl, rfl, rfl, by decide +kernel, rfl, by decide +kernel, by decide +kernel⟩
abbrev s_and_sign : Stmt := top 8
abbrev N_and_sign : List Str := ["one", "other"]
theorem sc_and_sign : FnScope N_and_sign ["one", "other"] (defScope s_and_sign) := ⟨rfl, rfl, rfl, by decide +kernel, rfl, by decide +kernel, by decide +kernel⟩
abbrev s_or_sign : Stmt := top 9
abbrev N_or_sign : List Str := ["one", "other"]
theorem sc_or_sign : FnScope N_or_sign ["one", "other"] (defScope s_or_sign) := ⟨rfl, rfl, rfl, by decide +kernel, rfl, by decide +kernel, by decide +kernel⟩
abbrev s_xor_sign : Stmt := top 10
abbrev N_xor_sign : List Str := ["one", "other"]
theorem sc_xor_sign : FnScope N_xor_sign ["one", "other"] (defScope s_xor_sign) := ⟨rfl, rfl, rfl, by decide +kernel, rfl, by decide +kernel, by decide +kernel⟩
abbrev s_by_bits : Stmt := top 12
abbrev N_by_bits : List Str := ["rule", "one", "other", "sign", "there"]
theorem sc_by_bits : FnScope N_by_bits ["rule", "one", "other"] (defScope s_by_bits) := ⟨rfl, rfl, rfl, by decide +kernel, rfl, by decide +kernel, by decide +kernel⟩
abbrev s_not_value : Stmt := top 13
abbrev N_not_value : List Str := ["value", "sign"]
theorem sc_not_value : FnScope N_not_value ["value"] (defScope s_not_value) := ⟨rfl, rfl, rfl, by decide +kernel, rfl, by decide +kernel, by decide +kernel⟩
abbrev s_and_value : Stmt := top 14
abbrev N_and_value : List Str := ["one", "other"]
theorem sc_and_value : FnScope N_and_value ["one", "other"] (defScope s_and_value) := ⟨rfl, rfl, rfl, by decide +kernel, rfl, by decide +kernel, by decide +kernel⟩
abbrev s_or_value : Stmt := top 15
abbrev N_or_value : List Str := ["one", "other"]
theorem sc_or_value : FnScope N_or_value ["one", "other"] (defScope s_or_value) := ⟨rfl, rfl, rfl, by decide +kernel, rfl, by decide +kernel, by decide +kernel⟩
abbrev s_xor_value : Stmt := top 16
abbrev N_xor_value : List Str := ["one", "other"]
theorem sc_xor_value : FnScope N_xor_value ["one", "other"] (defScope s_xor_value) := ⟨rfl, rfl, rfl, by decide +kernel, rfl, by decide +kernel, by decide +kernel⟩
abbrev s_operated : Stmt := top 28
abbrev N_operated : List Str := ["word", "values", "high", "low", "arguments", "action", "value"]
theorem sc_operated : FnScope N_operated ["word", "values", "high", "low"] (defScope s_operated) := ⟨rfl, rfl, rfl, by decide +kernel, rfl, by decide +kernel, by decide +kernel⟩
abbrev s__law_at : Stmt := top 30
abbrev N__law_at : List Str := ["_law_script", "_law_k"]
theorem sc__law_at : FnScope N__law_at ["_law_script", "_law_k"] (defScope s__law_at) := ⟨rfl, rfl, rfl, by decide +kernel, rfl, by decide +kernel, by decide +kernel⟩
abbrev s__law_pot : Stmt := top 31
abbrev N__law_pot : List Str := ["_law_script", "_law_k", "_law_cell"]
theorem sc__law_pot : FnScope N__law_pot ["_law_script", "_law_k"] (defScope s__law_pot) := ⟨rfl, rfl, rfl, by decide +kernel, rfl, by decide +kernel, by decide +kernel⟩
abbrev s__law_take : Stmt := top 32
abbrev N__law_take : List Str := ["_law_pot_here", "_law_many", "_law_digit"]
theorem sc__law_take : FnScope N__law_take ["_law_pot_here", "_law_many"] (defScope s__law_take) := ⟨rfl, rfl, rfl, by decide +kernel, rfl, by decide +kernel, by decide +kernel⟩
abbrev s__law_value : Stmt := top 33
abbrev N__law_value : List Str := ["_law_pot_here", "_law_width", "_law_k"]
theorem sc__law_value : FnScope N__law_value ["_law_pot_here", "_law_width"] (defScope s__law_value) := ⟨rfl, rfl, rfl, by decide +kernel, rfl, by decide +kernel, by decide +kernel⟩
abbrev s__law_ways : Stmt := top 34
abbrev N__law_ways : List Str := ["_law_sign"]
theorem sc__law_ways : FnScope N__law_ways ["_law_sign"] (defScope s__law_ways) := ⟨rfl, rfl, rfl, by decide +kernel, rfl, by decide +kernel, by decide +kernel⟩
abbrev s__law_bit : Stmt := top 35
abbrev N__law_bit : List Str := ["_law_word", "_law_one", "_law_other", "_law_some", "_law_a", "_law_b"]
theorem sc__law_bit : FnScope N__law_bit ["_law_word", "_law_one", "_law_other"] (defScope s__law_bit) := ⟨rfl, rfl, rfl, by decide +kernel, rfl, by decide +kernel, by decide +kernel⟩
abbrev s__law_right : Stmt := top 36
abbrev N__law_right : List Str := ["_law_word", "_law_a", "_law_b", "_law_handed", "_law_kept", "_law_due", "_law_one", "_law_other"]
theorem sc__law_right : FnScope N__law_right ["_law_word", "_law_a", "_law_b"] (defScope s__law_right) := ⟨rfl, rfl, rfl, by decide +kernel, rfl, by decide +kernel, by decide +kernel⟩
abbrev s_law : Stmt := top 37
abbrev N_law : List Str := ["_law_script", "_law_k", "_law_pot_here", "_law_width", "_law_a", "_law_b", "_law_word"]
theorem sc_law : FnScope N_law ["_law_script"] (defScope s_law) := ⟨rfl, rfl, rfl, by decide +kernel, rfl, by decide +kernel, by decide +kernel⟩
def wordsL0 : List Str := ["not", "and", "or", "xor", "plus", "same", "less", "any", "all", "pick", "join", "part"]
structure Bi (K : PySem.W.Frag) (w : World) (mg : Str → Option Value) (dA dT aW qa qo qx : Addr) : Prop where
  all : mg "all" = none
  divmod : mg "divmod" = none
  int : mg "int" = none
  len : mg "len" = none
  list : mg "list" = none
  max : mg "max" = none
  min : mg "min" = none
  range : mg "range" = none
  set : mg "set" = none
  sorted : mg "sorted" = none
  str : mg "str" = none
  zip : mg "zip" = none
  c_ACTIONS : GlV mg "ACTIONS" (.ref dA)
  c_WORDS : GlV mg "WORDS" (.ref aW)
  c_TURNED : GlV mg "TURNED" (.ref dT)
  c_and_sign : GlV mg "and_sign" (.ref qa)
  c_or_sign : GlV mg "or_sign" (.ref qo)
  c_xor_sign : GlV mg "xor_sign" (.ref qx)
  x_W : ∀ H : Hp, SqT K H aW (wordsL0.map V.str)
  x_T0 : KDct K w dT (Tx [48]) (.str (Tx [49]))
  x_T1 : KDct K w dT (Tx [49]) (.str (Tx [48]))
  x_Tx : KDct K w dT (Tx [120]) (.str (Tx [120]))
def notS (c : Nat) : Nat := if c = 48 then 49 else if c = 49 then 48 else 120
def andS (c d : Nat) : Nat := if c = 48 ∨ d = 48 then 48 else if c = 49 ∧ d = 49 then 49 else 120
def orS (c d : Nat) : Nat := if c = 49 ∨ d = 49 then 49 else if c = 48 ∧ d = 48 then 48 else 120
def xorS (c d : Nat) : Nat := if c = 120 ∨ d = 120 then 120 else if c = d then 48 else 49
def wd : Nat → Str
  | 0 => "not"
  | 1 => "and"
  | 2 => "or"
  | _ => "xor"
def opS : Nat → Nat → Nat → Nat
  | 0 => fun c _ => notS c
  | 1 => andS
  | 2 => orS
  | _ => xorS
def spSg (op : Nat → Nat → Nat) : Sp := fun vs H Q _ => ∃ a b : Nat, vs = [.str (Tx [a]), .str (Tx [b])] ∧ ∀ H', Ex H H' → Q (.str (Tx [op a b])) H'
def spBits (qa qo qx : Addr) : Sp := fun vs H Q _ => ∃ (g : Addr) (k : Nat) (a b : List Nat), vs = [.ref g, .str (Tx a), .str (Tx b)] ∧ ((k = 1 ∧ g = qa) ∨ (k = 2 ∧ g = qo) ∨ (k = 3 ∧ g = qx)) ∧ a.length = b.length ∧ a.length ≤ 1000 ∧ ∀ H', Ex H H' → Q (.str (Tx (List.zipWith (opS k) a b))) H'
def spTwo (k : Nat) : Sp := fun vs H Q _ => ∃ a b : List Nat, vs = [.str (Tx a), .str (Tx b)] ∧ a.length = b.length ∧ a.length ≤ 1000 ∧ ∀ H', Ex H H' → Q (.str (Tx (List.zipWith (opS k) a b))) H'
def spNot : Sp := fun vs H Q _ => ∃ l : List Nat, vs = [.str (Tx l)] ∧ Sx l ∧ l.length ≤ 1000 ∧ ∀ H', Ex H H' → Q (.str (Tx (l.map notS))) H'
inductive Op : Str → List (List Nat) → List Nat → Prop where
  | not (l : List Nat) (h : Sg l) : Op "not" [l] ((l.map rd).map notS)
  | two (k : Nat) (hk : k = 1 ∨ k = 2 ∨ k = 3) (a b : List Nat) (h : a.length = b.length) : Op (wd k) [a, b] (List.zipWith (opS k) (a.map rd) (b.map rd))
def spOp (K : PySem.W.Frag) : Sp := fun vs H Q _ => ∃ (word : Str) (a : Addr) (ls : List (List Nat)) (hi lo : Int) (r : List Nat), vs = [.str word, .ref a, .int hi, .int lo] ∧ SqL K H a (ls.map fun l => V.str (Tx l)) ∧ (∀ l ∈ ls, l.length ≤ 8) ∧ Op word ls r ∧ ∀ H', Ex H H' → Q (.str (Tx r)) H'
theorem spv_op {K : PySem.W.Frag} {H : Hp} {word : Str} {a : Addr} {ls : List (List Nat)} {hi lo : Int} {r : List Nat} (h : SqL K H a (ls.map fun l => V.str (Tx l))) (h8 : ∀ l ∈ ls, l.length ≤ 8) (o : Op word ls r) : SpV (spOp K) [.str word, .ref a, .int hi, .int lo] H (.str (Tx r)) :=
  fun H1 e Q q E => ⟨word, a, ls, hi, lo, r, rfl, ex_l e h, h8, o, q⟩
theorem spv_read {l : List Nat} {H : Hp} (h : l.length ≤ 1000) : SpV spRead [.str (Tx l)] H (.str (Tx (l.map rd))) := fun H1 e Q q E => ⟨l, rfl, h, q⟩
def ways (c : Nat) : List Int := if c ∈ [48, 49] then [if c = 49 then 1 else 0] else [0, 1]
def spWays : Sp := fun vs H Q _ => ∃ c : Nat, vs = [.str (Tx [c])] ∧ ∀ (p : Addr) (H' : Hp), H p = none → Ex H H' → H' p = some (.lst ((ways c).map V.int)) → Q (.ref p) H'
theorem spl_ways {c : Nat} {H : Hp} : SpL spWays [.str (Tx [c])] H ((ways c).map V.int) := fun H1 e Q q E => ⟨c, rfl, q⟩
def fK (k : Nat) (a b : Int) : Int := match k with
  | 0 => 1 - a
  | 1 => a * b
  | 2 => if b > a then b else a
  | _ => (a + b) % 2
def someL (k c d : Nat) : List Int := (ways c).flatMap fun a => (ways d).map fun b => fK k a b
def bitS (k c d : Nat) : Nat := if 0 ∈ someL k c d ∧ 1 ∈ someL k c d then 120 else if (someL k c d).getD 0 0 = 1 then 49 else 48
def spBit : Sp := fun vs H Q _ => ∃ k c d : Nat, vs = [.str (wd k), .str (Tx [c]), .str (Tx [d])] ∧ k < 4 ∧ c ∈ sgn ∧ d ∈ sgn ∧ ∀ H', Ex H H' → Q (.str (Tx [bitS k c d])) H'
theorem spv_bit {k c d : Nat} {H : Hp} (hk : k < 4) (hc : c ∈ sgn) (hd : d ∈ sgn) : SpV spBit [.str (wd k), .str (Tx [c]), .str (Tx [d])] H (.str (Tx [bitS k c d])) := fun H1 e Q q E => ⟨k, c, d, rfl, hk, hc, hd, q⟩
def spRight : Sp := fun vs H Q _ => ∃ (k : Nat) (a b : List Nat), vs = [.str (wd k), .str (Tx a), .str (Tx b)] ∧ k < 4 ∧ Sg a ∧ Sg b ∧ a.length = b.length ∧ a.length ≤ 8 ∧ ∀ H', Ex H H' → Q (.bl true) H'
theorem spv_right {k : Nat} {a b : List Nat} {H : Hp} (hk : k < 4) (ha : Sg a) (hb : Sg b) (h : a.length = b.length) (h8 : a.length ≤ 8) : SpV spRight [.str (wd k), .str (Tx a), .str (Tx b)] H (.bl true) := fun H1 e Q q E => ⟨k, a, b, rfl, hk, ha, hb, h, h8, q⟩
theorem bit_ok : ∀ k : Fin 4, ∀ c ∈ sgn, ∀ d ∈ sgn, bitS k.val c d = opS k.val (rd c) (rd d) ∧ (k.val ≠ 0 → bitS k.val c d = opS k.val (rd d) (rd c)) := by decide +kernel
theorem ways_01 : ∀ c ∈ sgn, ∀ a ∈ ways c, a = 0 ∨ a = 1 := by decide +kernel
theorem some_01 : ∀ k : Fin 4, ∀ c ∈ sgn, ∀ d ∈ sgn, (∀ a ∈ someL k.val c d, a = 0 ∨ a = 1) ∧ (someL k.val c d).length < 64 ∧ 0 < (someL k.val c d).length ∧ (ways c).length ≤ 2 ∧ (ways d).length ≤ 2 := by decide +kernel
theorem zw_map {f : Nat → Nat → Nat} {g : Nat → Nat → Nat} : ∀ {a b : List Nat}, Sg a → Sg b → (∀ c ∈ sgn, ∀ d ∈ sgn, f c d = g (rd c) (rd d)) → List.zipWith f a b = List.zipWith g (a.map rd) (b.map rd)
  | [], _, _, _, _ => by simp
  | _ :: _, [], _, _, _ => by simp
  | x :: a, y :: b, ha, hb, h => by
    rw [List.map_cons, List.map_cons, List.zipWith_cons_cons, List.zipWith_cons_cons, h x (ha x (List.mem_cons_self ..)) y (hb y (List.mem_cons_self ..)), zw_map (fun c hc => ha c (List.mem_cons_of_mem _ hc)) (fun c hc => hb c (List.mem_cons_of_mem _ hc)) h]
theorem zw_flip {f : Nat → Nat → Nat} {g : Nat → Nat → Nat} : ∀ {a b : List Nat}, Sg a → Sg b → (∀ c ∈ sgn, ∀ d ∈ sgn, f c d = g (rd d) (rd c)) → List.zipWith f a b = List.zipWith g (b.map rd) (a.map rd)
  | [], _, _, _, _ => by simp
  | _ :: _, [], _, _, _ => by simp
  | x :: a, y :: b, ha, hb, h => by
    rw [List.map_cons, List.map_cons, List.zipWith_cons_cons, List.zipWith_cons_cons, h x (ha x (List.mem_cons_self ..)) y (hb y (List.mem_cons_self ..)), zw_flip (fun c hc => ha c (List.mem_cons_of_mem _ hc)) (fun c hc => hb c (List.mem_cons_of_mem _ hc)) h]
theorem zw_one {f : Nat → Nat → Nat} {g : Nat → Nat} : ∀ {a b : List Nat}, a.length = b.length → Sg a → Sg b → (∀ c ∈ sgn, ∀ d ∈ sgn, f c d = g (rd c)) → List.zipWith f a b = (a.map rd).map g
  | [], _, _, _, _, _ => by simp
  | _ :: _, [], h, _, _, _ => by simp at h
  | x :: a, y :: b, hl, ha, hb, h => by
    rw [List.map_cons, List.map_cons, List.zipWith_cons_cons, h x (ha x (List.mem_cons_self ..)) y (hb y (List.mem_cons_self ..)), zw_one (by simpa using hl) (fun c hc => ha c (List.mem_cons_of_mem _ hc)) (fun c hc => hb c (List.mem_cons_of_mem _ hc)) h]
section
variable {K : PySem.W.Frag} {σ : L2.St} {H : Hp} {ta tb te : TE} {t : TT}
def rInt1 : List V → Hp → VK → Prop := fun xs H Q => (∃ i, xs = [.int i] ∧ Q (.int i) H) ∨ ∃ k, xs = [.bl k] ∧ Q (.int (if k then 1 else 0)) H
theorem ev_int1 {b : Bool} (h : Ev te σ H (.bl b)) : Ev (tCB rInt1 (tCons te tNil)) σ H (.int (if b then 1 else 0)) := fun H1 e Q q => h H1 e _ fun H2 e2 => .inr ⟨b, rfl, q H2 e2⟩
theorem el_ifB {b : Bool} {xs : List V} (h : EvT t σ H b) (h1 : b = true → EvL ta σ H xs) (h2 : b = false → EvL tb σ H xs) : EvL (tIf t ta tb) σ H xs := fun H1 e Q q => h H1 e _ fun H2 e2 => by
  cases b with
  | true =>
    show ta σ H2 Q
    exact h1 rfl H2 (e.trans e2) Q fun p H3 np e3 h3 => q p H3 (fresh_back e2 np) (e2.trans e3) h3
  | false =>
    show tb σ H2 Q
    exact h2 rfl H2 (e.trans e2) Q fun p H3 np e3 h3 => q p H3 (fresh_back e2 np) (e2.trans e3) h3
end
theorem su_01 {ns : List Int} : su ns = [0, 1] ↔ 0 ∈ ns ∧ 1 ∈ ns := by
  unfold su
  by_cases h0 : (0 : Int) ∈ ns <;> by_cases h1 : (1 : Int) ∈ ns <;> simp [h0, h1]
theorem ev_callL2' {σ : L2.St} {H : Hp} {te tw : TE} {z : V} {sp : Sp} {dvs : List V} {E : XK} {w : V} {xs : List V} (hw : Ev tw σ H w) (h : EvL te σ H xs) (hs : ∀ p H1, H1 p = some (.lst xs) → Ex H H1 → SpV sp ([w, .ref p] ++ dvs) H1 z) : Ev (tCall sp dvs E (tCons tw (tCons te tNil))) σ H z := fun H1 e Q q =>
  hw H1 e _ fun H0 e0 => h H0 (e.trans e0) _ fun p H2 _ e2 h2 => hs p H2 h2 ((e.trans e0).trans e2) H2 (Ex.refl _) Q (fun H3 e3 => q H3 ((e0.trans e2).trans e3)) E
theorem g_name {i : Nat} {v : V} {σ : L2.St} {H : Hp} {R : L2.St → Hp → Prop} (h : R (σ.set i (some v)) H) : gName i v σ H R := h
theorem ix_ok : ∀ k : Fin 4, ([V.str "not", .str "and", .str "or", .str "xor"] : List V)[k.val]? = some (.str (wd k.val)) ∧ eqV (.str (wd k.val)) (.str (wd k.val)) = true ∧ ∀ m : Fin 4, m.val < k.val → eqV (([V.str "not", .str "and", .str "or", .str "xor"] : List V).getD m.val .non) (.str (wd k.val)) = false := by decide +kernel
theorem low_of {l : List Nat} (h : Sg l) : LowS (Tx l) := low_Tx h.low
theorem words_in : ∀ k : Fin 4, inV (.str (wd k.val)) (wordsL0.map V.str) = true := by decide +kernel
theorem not_0 : ∀ k : Fin 4, decide (V.str (wd k.val) = V.str (Str.ofString "not")) = decide (k.val = 0) := by decide +kernel
theorem no_part : ∀ k : Fin 4, wd k.val ≠ Str.ofString "part" := by decide +kernel
theorem fK_at {k : Nat} (hk : k < 4) (a b : Int) : atI [V.int (1 - a), V.int (a * b), V.int (if b > a then b else a), V.int ((a + b) % 2)] (k : Int) = some (V.int (fK k a b)) := by
  match k, hk with
  | 0, _ => rfl
  | 1, _ => rfl
  | 2, _ => rfl
  | 3, _ => rfl
theorem str_01 {i : Int} (h : i = 0 ∨ i = 1) : (i.natAbs.log2 < 1920) ∧ (V.str (Str.ofString (toString i)) = V.str (Tx [if i = 1 then 49 else 48])) := by
  rcases h with rfl | rfl
  · exact ⟨by decide, by decide +kernel⟩
  · exact ⟨by decide, by decide +kernel⟩
section
variable {P : Program} {w : World} {K : PySem.W.Frag} {mg : Str → Option Value} {base : Heap} {dA dT aW qa qo qx : Addr}
theorem ok_read {f  : Addr} {fd  : FuncData} (F : Fun K "read" "read" s_read f fd) (B : Bi K w mg dA dT aW qa qo qx)   : FnOk P w K mg base CX0 1 f fd ["value"] (spRead) := by
  obtain ⟨oc, od, kV, doc, pm, an, cdv, ct, osl, rfl, lk, hcd⟩ := F.ex
  refine fn_ofT lk hcd sc_read (by decide +kernel) (by decide) (fun vs H Q E h => ?_) (fun A outer s H vs Q E hr h => ?_)
  · obtain ⟨l, rfl, _⟩ := h
    rfl
  · obtain ⟨l, rfl, hl, q⟩ := h
    refine ⟨_, (CwR.psst_one (CwR.pst_ret (CwR.pet_replC (pv 0) (by decide +kernel)))), ?_⟩
    refine ⟨_, rfl, Tx l, rfl, ?_, ?_⟩
    · rw [s_x, Tx_len, Tx_len]
      show l.length + (l.length + 1) * 1 ≤ 16777216
      omega
    · rw [replace_Tx s_z s_x]
      exact q H (Ex.refl H)
theorem ok_and_sign {f  : Addr} {fd  : FuncData} (F : Fun K "and_sign" "and_sign" s_and_sign f fd) (B : Bi K w mg dA dT aW qa qo qx)   : FnOk P w K mg base CX0 1 f fd ["one", "other"] (spSg andS) := by
  refine F.ok sc_and_sign (fun vs H Q E h => ?_) (fun cdv A outer s H vs Q E hr h => ?_)
  · obtain ⟨a, b, rfl, _⟩ := h
    rfl
  · obtain ⟨a, b, rfl, q⟩ := h
    refine ⟨_, (pss_cons (ps_if (PW.pt (pw_or (pt_cmpR op_eq (pv 0) pe_str (nomark _)) (pw_or1 (pt_cmpR op_eq (pv 1) pe_str (nomark _))))) (pss_one (ps_ret pe_str)) pss_nil)
      (pss_one (ps_ret (pe_ifExp (PW.pt (pw_and (pt_cmpR op_eq (pv 0) pe_str (nomark _)) (pw_and1 (pt_cmpR op_eq (pv 1) pe_str (nomark _))))) pe_str pe_str)))), ?_⟩
    refine q_when (et_or (et_test (ev_eqT (ev_var rfl) ec_0)) fun _ => et_test (ev_eqT (ev_var rfl) ec_0)) (fun hb H1 e1 => s_ret ec_0 fun H2 e2 => ?_) (fun hb H1 e1 => s_ret (ev_ifS (et_and (et_test (ev_eqT (ev_var rfl) ec_1)) fun _ => et_test (ev_eqT (ev_var rfl) ec_1)) ec_1 ec_x) fun H2 e2 => ?_)
    · have g := q H2 (e1.trans e2)
      unfold andS at g
      rw [if_pos (by simpa using hb)] at g
      exact g
    · have g := q H2 (e1.trans e2)
      unfold andS at g
      rw [if_neg (by simpa using hb)] at g
      split at g
      · rename_i h
        rw [if_pos (by simpa using h)]
        exact g
      · rename_i h
        rw [if_neg (by simpa using h)]
        exact g
theorem ok_or_sign {f  : Addr} {fd  : FuncData} (F : Fun K "or_sign" "or_sign" s_or_sign f fd) (B : Bi K w mg dA dT aW qa qo qx)   : FnOk P w K mg base CX0 1 f fd ["one", "other"] (spSg orS) := by
  refine F.ok sc_or_sign (fun vs H Q E h => ?_) (fun cdv A outer s H vs Q E hr h => ?_)
  · obtain ⟨a, b, rfl, _⟩ := h
    rfl
  · obtain ⟨a, b, rfl, q⟩ := h
    refine ⟨_, (pss_cons (ps_if (PW.pt (pw_or (pt_cmpR op_eq (pv 0) pe_str (nomark _)) (pw_or1 (pt_cmpR op_eq (pv 1) pe_str (nomark _))))) (pss_one (ps_ret pe_str)) pss_nil)
      (pss_one (ps_ret (pe_ifExp (PW.pt (pw_and (pt_cmpR op_eq (pv 0) pe_str (nomark _)) (pw_and1 (pt_cmpR op_eq (pv 1) pe_str (nomark _))))) pe_str pe_str)))), ?_⟩
    refine q_when (et_or (et_test (ev_eqT (ev_var rfl) ec_1)) fun _ => et_test (ev_eqT (ev_var rfl) ec_1)) (fun hb H1 e1 => s_ret ec_1 fun H2 e2 => ?_) (fun hb H1 e1 => s_ret (ev_ifS (et_and (et_test (ev_eqT (ev_var rfl) ec_0)) fun _ => et_test (ev_eqT (ev_var rfl) ec_0)) ec_0 ec_x) fun H2 e2 => ?_)
    · have g := q H2 (e1.trans e2)
      unfold orS at g
      rw [if_pos (by simpa using hb)] at g
      exact g
    · have g := q H2 (e1.trans e2)
      unfold orS at g
      rw [if_neg (by simpa using hb)] at g
      split at g
      · rename_i h
        rw [if_pos (by simpa using h)]
        exact g
      · rename_i h
        rw [if_neg (by simpa using h)]
        exact g
theorem ok_xor_sign {f  : Addr} {fd  : FuncData} (F : Fun K "xor_sign" "xor_sign" s_xor_sign f fd) (B : Bi K w mg dA dT aW qa qo qx)   : FnOk P w K mg base CX0 1 f fd ["one", "other"] (spSg xorS) := by
  refine F.ok sc_xor_sign (fun vs H Q E h => ?_) (fun cdv A outer s H vs Q E hr h => ?_)
  · obtain ⟨a, b, rfl, _⟩ := h
    rfl
  · obtain ⟨a, b, rfl, q⟩ := h
    refine ⟨_, (pss_cons (ps_if (PW.pt (pw_or (pt_cmpR op_eq (pv 0) pe_str (nomark _)) (pw_or1 (pt_cmpR op_eq (pv 1) pe_str (nomark _))))) (pss_one (ps_ret pe_str)) pss_nil)
      (pss_one (ps_ret (pe_ifExp (pt_cmpR op_eq (pv 0) (pv 1) (nomark _)) pe_str pe_str)))), ?_⟩
    refine q_when (et_or (et_test (ev_eqT (ev_var rfl) ec_x)) fun _ => et_test (ev_eqT (ev_var rfl) ec_x)) (fun hb H1 e1 => s_ret ec_x fun H2 e2 => ?_) (fun hb H1 e1 => s_ret (ev_ifS (et_test (ev_eqT (ev_var rfl) (ev_var rfl))) ec_0 ec_1) fun H2 e2 => ?_)
    · have g := q H2 (e1.trans e2)
      unfold xorS at g
      rw [if_pos (by simpa using hb)] at g
      exact g
    · have g := q H2 (e1.trans e2)
      unfold xorS at g
      rw [if_neg (by simpa using hb)] at g
      split at g
      · rename_i h
        rw [if_pos (by simpa using h)]
        exact g
      · rename_i h
        rw [if_neg (by simpa using h)]
        exact g
theorem ok_by_bits {f  : Addr} {fd fd1 fd2 fd3 : FuncData} (F : Fun K "by_bits" "by_bits" s_by_bits f fd) (B : Bi K w mg dA dT aW qa qo qx)  (D_and_sign : Df P w K mg base CX0 "and_sign" 1 qa fd1 ["one", "other"] (spSg andS)) (D_or_sign : Df P w K mg base CX0 "or_sign" 1 qo fd2 ["one", "other"] (spSg orS)) (D_xor_sign : Df P w K mg base CX0 "xor_sign" 1 qx fd3 ["one", "other"] (spSg xorS)) : FnOk P w K mg base CX0 2 f fd ["rule", "one", "other"] (spBits qa qo qx) := by
  refine F.ok sc_by_bits (fun vs H Q E h => ?_) (fun cdv A outer s H vs Q E hr h => ?_)
  · obtain ⟨g, k, a, b, rfl, _⟩ := h
    rfl
  · obtain ⟨g, k, a, b, rfl, hg, hl, hz, q⟩ := h
    have hH : Held P w K mg base 1 g (spSg (opS k)) := by
      rcases hg with ⟨rfl, rfl⟩ | ⟨rfl, rfl⟩ | ⟨rfl, rfl⟩
      · exact ⟨_, _, D_and_sign.ok, D_and_sign.kp, D_and_sign.b⟩
      · exact ⟨_, _, D_or_sign.ok, D_or_sign.kp, D_or_sign.b⟩
      · exact ⟨_, _, D_xor_sign.ok, D_xor_sign.kp, D_xor_sign.b⟩
    have hA : ∀ f sp, (fun f : Addr => if f = g then some (spSg (opS k)) else (none : Option Sp)) f = some sp → Held P w K mg base 1 f sp := fun f sp h => by
      by_cases e : f = g
      · rw [show (fun f : Addr => if f = g then some (spSg (opS k)) else (none : Option Sp)) f = some (spSg (opS k)) from if_pos e] at h
        cases h
        rw [e]
        exact hH
      · rw [show (fun f : Addr => if f = g then some (spSg (opS k)) else (none : Option Sp)) f = none from if_neg e] at h
        cases h
    generalize hS0 : (fun f : Addr => if f = g then some (spSg (opS k)) else (none : Option Sp)) = S at hA
    refine ⟨_, (pss_one (ps_ret (pe_join pe_str (pe_lc (own := [("sign", 3), ("there", 4)]) (g := gTup K 2 (gCons (gName 3) (gCons (gName 4) gNil))) (tt := tYes) (by rfl) sc_by_bits.nd (pi_zipS (by rfl) B.zip (pa_cons (pv 1) (pa_cons (pv 2) pa_nil))) (blkOk_by (own := [("sign", 3), ("there", 4)]) (N := N_by_bits) (sc := defScope s_by_bits) (by decide +kernel)) (fun _ _ _ _ _ => (pg_tup rfl (pgs_cons (pg_name (i := 3) sc_by_bits.nd rfl (Or.inl rfl) (Or.inr rfl)) (pgs_cons (pg_name (i := 4) sc_by_bits.nd rfl (Or.inl rfl) (Or.inr rfl)) pgs_nil)))) (fun _ _ _ _ _ => pts_nil) (fun _ _ _ _ _ => (pe_callA (i := 0) (S := S) hA (hr.mono (by decide)) rfl (by first | exact Or.inl rfl | exact Or.inr (Or.inl rfl) | exact Or.inr (Or.inr rfl)) (pa_cons (pv 3) (pa_cons (pv 4) pa_nil)))))))), ?_⟩
    refine s_ret (ev_join1 (l := List.zipWith (opS k) a b) ?_ (by rw [List.length_zipWith]; omega)) q
    rw [List.map_zipWith]
    refine el_lcZ (fun c d => V.str (Tx [opS k c d])) (ea_cons (ev_var rfl) (ea_cons (ev_var rfl) ea_nil)) hl (by omega) (fun x y => rfl) fun c d H1 _ _ _ => fun H2 e2 Q2 q2 => ?_
    exact ⟨g, spSg (opS k), rfl, by rw [← hS0]; exact if_pos rfl, _, rfl, _, rfl, c, d, rfl, q2⟩
theorem ok_not_value {f  : Addr} {fd  : FuncData} (F : Fun K "not_value" "not_value" s_not_value f fd) (B : Bi K w mg dA dT aW qa qo qx)   : FnOk P w K mg base CX0 3 f fd ["value"] (spNot) := by
  refine F.ok sc_not_value (fun vs H Q E h => ?_) (fun cdv A outer s H vs Q E hr h => ?_)
  · obtain ⟨l, rfl, _⟩ := h
    rfl
  · obtain ⟨l, rfl, hs, hl, q⟩ := h
    refine ⟨_, (pss_one (ps_ret (pe_join pe_str (pe_lc (own := [("sign", 1)]) (g := gName 1) (tt := tYes) (te := tOp (rIxD K w) (tC (.ref dT)) (tVar 1)) (by rfl) sc_not_value.nd (pi_str (pv 0)) (blkOk_by (own := [("sign", 1)]) (N := N_not_value) (sc := defScope s_not_value) (by decide +kernel)) (fun _ _ _ _ _ => pg_name (i := 1) sc_not_value.nd rfl (Or.inl rfl)) (fun _ _ _ _ _ => pts_nil) (fun _ _ _ _ _ => by exact pe_ix ix_kdict (pgl (by rfl) B.c_TURNED) (pv 1) (fun _ _ => rfl)))))), ?_⟩
    refine s_ret (ev_join1 (l := l.map notS) ?_ (by rw [List.length_map]; omega)) q
    rw [List.map_map]
    refine el_lcT1 _ (ev_var rfl) (by omega) (fun x => rfl) fun c H1 _ hc => ?_
    have h3 : c = 48 ∨ c = 49 ∨ c = 120 := by simpa using hs c hc
    rcases h3 with rfl | rfl | rfl
    · exact ev_kd ev_c (ev_var rfl) B.x_T0
    · exact ev_kd ev_c (ev_var rfl) B.x_T1
    · exact ev_kd ev_c (ev_var rfl) B.x_Tx
theorem ok_and_value {f f1 : Addr} {fd fd1 : FuncData} (F : Fun K "and_value" "and_value" s_and_value f fd) (B : Bi K w mg dA dT aW qa qo qx)  (D_by_bits : Df P w K mg base CX0 "by_bits" 2 f1 fd1 ["rule", "one", "other"] (spBits qa qo qx)) : FnOk P w K mg base CX0 3 f fd ["one", "other"] (spTwo 1) := by
  refine F.ok sc_and_value (fun vs H Q E h => ?_) (fun cdv A outer s H vs Q E hr h => ?_)
  · obtain ⟨a, b, rfl, _⟩ := h
    rfl
  · obtain ⟨a, b, rfl, hl, hz, q⟩ := h
    refine ⟨_, (pss_one (ps_ret (pe_call D_by_bits.ok (hr.mono (by decide)) (by rfl) D_by_bits.g D_by_bits.kp D_by_bits.b .nil pass0 (pa_cons (pgl (by rfl) B.c_and_sign) (pa_cons (pv 0) (pa_cons (pv 1) pa_nil)))))), ?_⟩
    exact s_ret (ev_call (ea_cons ev_c (ea_cons (ev_var rfl) (ea_cons (ev_var rfl) ea_nil))) fun H1 e1 Q1 q1 E1 => ⟨_, 1, a, b, rfl, .inl ⟨rfl, rfl⟩, hl, hz, q1⟩) q
theorem ok_or_value {f f1 : Addr} {fd fd1 : FuncData} (F : Fun K "or_value" "or_value" s_or_value f fd) (B : Bi K w mg dA dT aW qa qo qx)  (D_by_bits : Df P w K mg base CX0 "by_bits" 2 f1 fd1 ["rule", "one", "other"] (spBits qa qo qx)) : FnOk P w K mg base CX0 3 f fd ["one", "other"] (spTwo 2) := by
  refine F.ok sc_or_value (fun vs H Q E h => ?_) (fun cdv A outer s H vs Q E hr h => ?_)
  · obtain ⟨a, b, rfl, _⟩ := h
    rfl
  · obtain ⟨a, b, rfl, hl, hz, q⟩ := h
    refine ⟨_, (pss_one (ps_ret (pe_call D_by_bits.ok (hr.mono (by decide)) (by rfl) D_by_bits.g D_by_bits.kp D_by_bits.b .nil pass0 (pa_cons (pgl (by rfl) B.c_or_sign) (pa_cons (pv 0) (pa_cons (pv 1) pa_nil)))))), ?_⟩
    exact s_ret (ev_call (ea_cons ev_c (ea_cons (ev_var rfl) (ea_cons (ev_var rfl) ea_nil))) fun H1 e1 Q1 q1 E1 => ⟨_, 2, a, b, rfl, .inr (.inl ⟨rfl, rfl⟩), hl, hz, q1⟩) q
theorem ok_xor_value {f f1 : Addr} {fd fd1 : FuncData} (F : Fun K "xor_value" "xor_value" s_xor_value f fd) (B : Bi K w mg dA dT aW qa qo qx)  (D_by_bits : Df P w K mg base CX0 "by_bits" 2 f1 fd1 ["rule", "one", "other"] (spBits qa qo qx)) : FnOk P w K mg base CX0 3 f fd ["one", "other"] (spTwo 3) := by
  refine F.ok sc_xor_value (fun vs H Q E h => ?_) (fun cdv A outer s H vs Q E hr h => ?_)
  · obtain ⟨a, b, rfl, _⟩ := h
    rfl
  · obtain ⟨a, b, rfl, hl, hz, q⟩ := h
    refine ⟨_, (pss_one (ps_ret (pe_call D_by_bits.ok (hr.mono (by decide)) (by rfl) D_by_bits.g D_by_bits.kp D_by_bits.b .nil pass0 (pa_cons (pgl (by rfl) B.c_xor_sign) (pa_cons (pv 0) (pa_cons (pv 1) pa_nil)))))), ?_⟩
    exact s_ret (ev_call (ea_cons ev_c (ea_cons (ev_var rfl) (ea_cons (ev_var rfl) ea_nil))) fun H1 e1 Q1 q1 E1 => ⟨_, 3, a, b, rfl, .inr (.inr ⟨rfl, rfl⟩), hl, hz, q1⟩) q
theorem ok_operated {f f1 f2 f3 f4 f5 : Addr} {fd fd1 fd2 fd3 fd4 fd5 : FuncData} (F : FunD K "operated" "operated" (defArgs s_operated) (defBody s_operated) (defScope s_operated) [] [("high", .int 0), ("low", .int 0)] f fd) (B : Bi K w mg dA dT aW qa qo qx) (kd_not : KDct K w dA "not" (.ref f2)) (kd_and : KDct K w dA "and" (.ref f3)) (kd_or : KDct K w dA "or" (.ref f4)) (kd_xor : KDct K w dA "xor" (.ref f5)) (D_read : Df P w K mg base CX0 "read" 1 f1 fd1 ["value"] (spRead)) (D_not_value : Df P w K mg base CX0 "not_value" 3 f2 fd2 ["value"] (spNot)) (D_and_value : Df P w K mg base CX0 "and_value" 3 f3 fd3 ["one", "other"] (spTwo 1)) (D_or_value : Df P w K mg base CX0 "or_value" 3 f4 fd4 ["one", "other"] (spTwo 2)) (D_xor_value : Df P w K mg base CX0 "xor_value" 3 f5 fd5 ["one", "other"] (spTwo 3)) : FnOk P w K mg base CX0 4 f fd ["word", "values", "high", "low"] (spOp K) := by
  refine F.ok sc_operated (fun vs H Q E h => ?_) (fun cdv A outer s H vs Q E hr h => ?_)
  · obtain ⟨word, a, ls, hi, lo, r, rfl, _⟩ := h
    rfl
  · obtain ⟨word, a, ls, hi, lo, r, rfl, hS, h8, ho, q⟩ := h
    have hcase : word ≠ Str.ofString "part" ∧ ∃ fw spw, KDct K w dA word (.ref fw) ∧ Held P w K mg base 3 fw spw ∧ ∀ (H1 : Hp) (Q1 : VK), (∀ H2, Ex H1 H2 → Q1 (.str (Tx r)) H2) → spw ((ls.map fun l => l.map rd).map fun l => V.str (Tx l)) H1 Q1 (fun _ _ _ => False) := by
      cases ho with
      | not l h => exact ⟨by decide +kernel, f2, _, kd_not, ⟨_, _, D_not_value.ok, D_not_value.kp, D_not_value.b⟩, fun H1 Q1 q1 => ⟨l.map rd, rfl, rd_sx h, by rw [List.length_map]; have := h8 l (by simp); omega, q1⟩⟩
      | two k hk a b h =>
        have z : ∀ (H1 : Hp) (Q1 : VK), (∀ H2, Ex H1 H2 → Q1 (.str (Tx (List.zipWith (opS k) (a.map rd) (b.map rd)))) H2) → spTwo k (([a, b].map fun l => l.map rd).map fun l => V.str (Tx l)) H1 Q1 (fun _ _ _ => False) := fun H1 Q1 q1 => ⟨a.map rd, b.map rd, rfl, by rw [List.length_map, List.length_map]; exact h, by rw [List.length_map]; have := h8 a (by simp); omega, q1⟩
        rcases hk with rfl | rfl | rfl
        · exact ⟨no_part 1, f3, _, kd_and, ⟨_, _, D_and_value.ok, D_and_value.kp, D_and_value.b⟩, z⟩
        · exact ⟨no_part 2, f4, _, kd_or, ⟨_, _, D_or_value.ok, D_or_value.kp, D_or_value.b⟩, z⟩
        · exact ⟨no_part 3, f5, _, kd_xor, ⟨_, _, D_xor_value.ok, D_xor_value.kp, D_xor_value.b⟩, z⟩
    have hz : ls.length ≤ 40000 := by cases ho <;> simp
    have hlc : ∀ {σ' : L2.St}, σ'[1]? = some (some (.ref a)) → (∀ x, wipe ((wipe σ' [6]).set 6 (some x)) [6] = wipe σ' [6]) → (∀ l : List Nat, ((wipe σ' [6]).set 6 (some (V.str (Tx l))))[6]? = some (some (V.str (Tx l)))) → EvL (tLc (iList K (tVar 1)) (gName 6) tYes (tCall spRead [] E0 (tCons (tVar 6) tNil)) [6]) σ' H ((ls.map fun l => l.map rd).map fun l => V.str (Tx l)) := fun h1 h2 h3 => by
      rw [List.map_map]
      exact el_lcV _ (ev_var h1) hS hz h2 fun l H1 _ hm => ev_call (ea_cons (ev_var (h3 l)) ea_nil) (spv_read (by have := h8 l hm; omega))
    obtain ⟨hw, fw, spw, kd, hH, hq⟩ := hcase
    have hA : ∀ f sp, (fun f : Addr => if f = fw then some spw else (none : Option Sp)) f = some sp → Held P w K mg base 3 f sp := fun f sp h => by
      by_cases e : f = fw
      · rw [show (fun f : Addr => if f = fw then some spw else (none : Option Sp)) f = some spw from if_pos e] at h
        cases h
        rw [e]
        exact hH
      · rw [show (fun f : Addr => if f = fw then some spw else (none : Option Sp)) f = none from if_neg e] at h
        cases h
    generalize hS0 : (fun f : Addr => if f = fw then some spw else (none : Option Sp)) = S at hA
    refine ⟨_, (pss_cons (ps_setLc (i := 4) (own := [("value", 6)]) (g := gName 6) (tt := tYes) (by rfl) sc_operated.nd rfl rfl (sw_true rfl rfl rfl (by decide +kernel)) (pi_list (pv 1)) (blkOk_by (own := [("value", 6)]) (N := N_operated) (sc := defScope s_operated) (by decide +kernel)) (fun _ _ _ _ _ => pg_name (i := 6) sc_operated.nd rfl (Or.inl rfl)) (fun _ _ _ _ _ => pts_nil) (fun _ _ _ _ _ => (pe_call D_read.ok (hr.mono (by decide)) (by rfl) D_read.g D_read.kp D_read.b .nil pass0 (pa_cons (pv 6) pa_nil))))
      (pss_cons (ps_if (pt_cmpR op_eq (pv 0) pe_str (nomark _)) (pss_one ps_never) pss_nil)
      (pss_cons (ps_set (i := 5) sc_operated.nd rfl (Or.inl rfl) (pe_ix ix_kdict (pgl (by rfl) B.c_ACTIONS) (pv 0) (fun _ _ => rfl)))
      (pss_one (ps_ret (pe_callLS (i := 5) (S := S) hA (hr.mono (by decide)) rfl (Or.inl rfl) (pv 4))))))), ?_⟩
    refine q_asgL (hlc rfl (fun x => rfl) (fun l => rfl)) fun p H1 np e1 hp => ?_
    refine q_when (b := false) (et_is (et_test (ev_op (ev_var rfl) ev_c (rv_eq rfl))) (decide_eq_false fun z => hw (V.str.inj z))) (fun hb => by cases hb) (fun _ H2 e2 => ?_)
    refine q_asg (ev_kd ev_c (ev_var rfl) kd) fun H3 e3 => ?_
    exact ⟨fw, spw, rfl, by rw [← hS0]; exact if_pos rfl, _, rfl, p, _, rfl, .inr (sq_of ((e2.trans e3) _ _ hp)), hq H3 _ fun H4 e4 => q H4 (((e1.trans e2).trans e3).trans e4)⟩
theorem ok__law_at {f  : Addr} {fd  : FuncData} (F : Fun K "_law_at" "_law_at" s__law_at f fd) (B : Bi K w mg dA dT aW qa qo qx)   : FnOk P w K mg base CX0 1 f fd ["_law_script", "_law_k"] (spAt K) := by
  refine F.ok sc__law_at (fun vs H Q E h => ?_) (fun cdv A outer s H vs Q E hr h => ?_)
  · obtain ⟨a, ns, k, rfl, _⟩ := h
    rfl
  · obtain ⟨a, ns, k, rfl, hS, h0, q⟩ := h
    refine ⟨_, (pss_one (ps_ret (pe_ifExp (pt_cmpR op_lt (pv 1) (pe_callB call_len_seq (by rfl) B.len PySem.boot_len (pa_cons (pv 0) pa_nil)) (nomark _)) (pe_ix ix_list (pv 0) (pv 1) (fun _ _ => rfl)) pe_int))), ?_⟩
    refine ⟨_, rfl, _, rfl, a, _, rfl, .inl hS, _, _, rfl, rfl, _, rfl, ?_⟩
    refine ite2 (fun e => ?_) (fun e => ?_)
    · obtain ⟨c, hc⟩ := at_map h0 (of_decide_eq_true e)
      exact ⟨_, rfl, _, rfl, a, _, _, _, rfl, rfl, hS, hc, q c⟩
    · exact q 0
theorem ok__law_pot {f f1 : Addr} {fd fd1 : FuncData} (F : Fun K "_law_pot" "_law_pot" s__law_pot f fd) (B : Bi K w mg dA dT aW qa qo qx)  (D__law_at : Df P w K mg base CX0 "_law_at" 1 f1 fd1 ["_law_script", "_law_k"] (spAt K)) : FnOk P w K mg base CX0 2 f fd ["_law_script", "_law_k"] (spPot K) := by
  refine F.ok sc__law_pot (fun vs H Q E h => ?_) (fun cdv A outer s H vs Q E hr h => ?_)
  · obtain ⟨a, ns, k, rfl, _⟩ := h
    rfl
  · obtain ⟨a, ns, k, rfl, hS, h0, h1, q⟩ := h
    refine ⟨_, (pss_cons (ps_set (i := 2) sc__law_pot.nd rfl (Or.inl rfl) (pe_call D__law_at.ok (hr.mono (by decide)) (by rfl) D__law_at.g D__law_at.kp D__law_at.b .nil pass0 (pa_cons (pv 0) (pa_cons (pv 1) pa_nil))))
      (pss_one (ps_ret (pe_lst (pa_cons (pe_callB (call_max2 rfl) (by rfl) B.max (by decide +kernel) (pa_cons pe_int (pa_cons (pe_op op_sub (pv 2) (pe_op op_pow pe_int pe_int)) pa_nil))) (pa_cons (pe_op op_mod (pe_op op_add (pe_op op_add (pe_op op_mul (pe_op op_mod (pv 2) pe_int) pe_int) (pe_op op_mul pe_int (pv 1))) pe_int) pe_int) pa_nil)))))), ?_⟩
    refine ⟨_, rfl, _, rfl, a, ns, k, rfl, hS, h0, fun c => ?_⟩
    refine ⟨_, rfl, _, _, rfl, rfl, ⟨by decide, by decide, by decide⟩, _, _, rfl, rfl, _, _, rfl, ?_⟩
    refine ⟨_, rfl, _, _, rfl, rfl, (by show (0 : Int) < 2147483629; decide), _, _, rfl, rfl, .inr ⟨by decide, by decide⟩, _, rfl, _, _, rfl, rfl, .inl ⟨by decide, by decide⟩, _, _, rfl, rfl, _, _, rfl, rfl, _, _, rfl, rfl, (by show (0 : Int) < 2147483647; decide), ?_⟩
    refine ⟨by show 2 ≤ sizeLine; decide, fun p hp => ?_⟩
    refine q p _ hp (Ex.new hp) ⟨_, _, upd_same, ?_, ?_, ?_⟩
    · split <;> omega
    · omega
    · omega
theorem ok__law_take {f  : Addr} {fd  : FuncData} (F : Fun K "_law_take" "_law_take" s__law_take f fd) (B : Bi K w mg dA dT aW qa qo qx)   : FnOk P w K mg base CX0 1 f fd ["_law_pot_here", "_law_many"] (spTake) := by
  refine F.ok sc__law_take (fun vs H Q E h => ?_) (fun cdv A outer s H vs Q E hr h => ?_)
  · obtain ⟨a, m, rfl, _⟩ := h
    rfl
  · obtain ⟨p, m, rfl, ⟨x, y, hp, hx, hy, hy2⟩, h0, h1, q⟩ := h
    refine ⟨_, (pss_cons (ps_if (pt_cmpR op_gt (pe_ix ix_list (pv 0) pe_int (fun _ _ => rfl)) pe_int (nomark _)) (pss_cons (ps_asg (pe_callB call_divmod (by rfl) B.divmod (by decide +kernel) (pa_cons (pe_ix ix_list (pv 0) pe_int (fun _ _ => rfl)) (pa_cons (pv 1) pa_nil))) (pg_tup rfl (pgs_cons (pg_sub (pv 0) pe_int set_list) (pgs_cons (pg_name (i := 2) sc__law_take.nd rfl (Or.inl rfl)) pgs_nil))))
      (pss_one (ps_ret (pv 2)))) pss_nil)
      (pss_cons (ps_asg (pe_op op_mod (pe_op op_add (pe_op op_mul (pe_ix ix_list (pv 0) pe_int (fun _ _ => rfl)) pe_int) pe_int) pe_int) (pg_sub (pv 0) pe_int set_list))
      (pss_one (ps_ret (pe_op op_mod (pe_op op_fdiv (pe_op op_mod (pe_op op_mul (pe_ix ix_list (pv 0) pe_int (fun _ _ => rfl)) (pe_ix ix_list (pv 0) pe_int (fun _ _ => rfl))) pe_int) pe_int) (pv 1)))))), ?_⟩
    refine ⟨_, rfl, p, _, _, _, rfl, rfl, SqL.of hp, rfl, _, _, rfl, rfl, _, rfl, ?_⟩
    refine ite2 (fun e => ?_) (fun e => ?_)
    · refine ⟨_, rfl, p, _, _, _, rfl, rfl, SqL.of hp, rfl, _, rfl, _, _, rfl, ⟨h0, h1⟩, fun t ht => ?_⟩
      have npt : p ≠ t := ne_of_none hp ht
      refine ⟨t, _, rfl, SqT.of upd_same, rfl, _, _, rfl, _, rfl, p, _, _, 0, rfl, rfl, (upd_ne npt).trans hp, rfl, _, _, rfl, rfl, _, rfl, ?_⟩
      refine q _ _ (fun b o n hb => ?_) ⟨_, _, upd_same, Int.ediv_nonneg hx (by omega), hy, hy2⟩ (Int.emod_nonneg _ (by omega)) (Int.emod_lt_of_pos _ h0)
      rw [upd_ne n, upd_ne (ne_of_none hb ht)]
      exact hb
    · refine ⟨_, rfl, p, _, _, _, rfl, rfl, SqL.of hp, rfl, _, _, rfl, rfl, .inr ⟨by decide, by decide⟩, _, _, rfl, rfl, _, _, rfl, rfl, (by show (0 : Int) < 2147483629; decide), _, rfl, p, _, _, 1, rfl, rfl, hp, rfl, ?_⟩
      have hz0 : 0 ≤ (y * 39373 + 20011) % 2147483629 := by omega
      have hz1 : (y * 39373 + 20011) % 2147483629 < 2147483629 := by omega
      refine ⟨_, rfl, p, _, _, _, rfl, rfl, SqL.of upd_same, rfl, _, rfl, p, _, _, _, rfl, rfl, SqL.of upd_same, rfl, _, _, rfl, rfl, .inl ⟨?_, ?_⟩, _, _, rfl, rfl, (by show (0 : Int) < 2147483563; decide), _, _, rfl, rfl, ⟨by decide, by decide⟩, _, rfl, _, _, rfl, rfl, h0, ?_⟩
      · omega
      · omega
      · exact q _ _ (ExB.refl _ _).upd ⟨_, _, upd_same, hx, hz0, by omega⟩ (Int.emod_nonneg _ (by omega)) (Int.emod_lt_of_pos _ h0)
theorem ok__law_value {f f1 : Addr} {fd fd1 : FuncData} (F : Fun K "_law_value" "_law_value" s__law_value f fd) (B : Bi K w mg dA dT aW qa qo qx)  (D__law_take : Df P w K mg base CX0 "_law_take" 1 f1 fd1 ["_law_pot_here", "_law_many"] (spTake)) : FnOk P w K mg base CX0 2 f fd ["_law_pot_here", "_law_width"] (spVal) := by
  refine F.ok sc__law_value (fun vs H Q E h => ?_) (fun cdv A outer s H vs Q E hr h => ?_)
  · obtain ⟨p, n, rfl, _⟩ := h
    rfl
  · obtain ⟨p, n, rfl, hP, h0, h1, q⟩ := h
    refine ⟨_, (pss_one (ps_ret (pe_join pe_str (pe_lc (own := [("_law_k", 2)]) (g := gName 2) (tt := tYes) (by rfl) sc__law_value.nd (pi_range1 (by rfl) B.range (pa_cons (pv 1) pa_nil)) (blkOk_by (own := [("_law_k", 2)]) (N := N__law_value) (sc := defScope s__law_value) (by decide +kernel)) (fun _ _ _ _ _ => pg_name (i := 2) sc__law_value.nd rfl (Or.inl rfl)) (fun _ _ _ _ _ => pts_nil) (fun _ _ _ _ _ => (pe_ix ix_str pe_str (pe_call D__law_take.ok (hr.mono (by decide)) (by rfl) D__law_take.g D__law_take.kp D__law_take.b .nil pass0 (pa_cons (pv 0) (pa_cons pe_int pa_nil))) (fun _ _ => rfl))))))), ?_⟩
    refine ⟨⟨_, rfl⟩, _, rfl, n, rfl, by omega, by omega, fun D hD => ?_⟩
    have nD := hP.ne hD
    refine lc_range (lo := 0) (n := n.toNat) (fun i H4 => ExB p H H4 ∧ PotAt H4 p ∧ ∃ ls : List Nat, H4 D = some (.lst (ls.map fun c => V.str (Tx [c]))) ∧ ls.length = i ∧ ∀ c ∈ ls, c ∈ sgn)
      ⟨ExB.of (Ex.new hD), hP.ex (Ex.new hD), [], upd_same, rfl, fun c hc => by cases hc⟩ (fun i H4 hi hv => ?_) (fun H4 hv => ?_)
    · obtain ⟨e4, hP4, ls, h4, hn, hs⟩ := hv
      refine ⟨rfl, ?_⟩
      refine ⟨_, rfl, p, 4, rfl, hP4, by decide, by decide, fun H5 d5 e5 hP5 g0 g1 => ?_⟩
      obtain ⟨c, hc, hm⟩ := at_sign (l := sgn) g0 g1
      refine ⟨Str.ofString "01xz", d5, c, rfl, rfl, by decide +kernel, by rw [e_sgn]; exact hc, _, e5 D _ nD h4, sz_lt (by rw [List.length_map]; omega), (e4.trans e5).mut hD, hP5.upd nD, ls ++ [c], ?_, by rw [List.length_append, hn]; rfl, fun y hy => ?_⟩
      · rw [upd_same, List.map_append]
        rfl
      · rcases List.mem_append.mp hy with h | h
        · exact hs y h
        · rw [List.mem_singleton.mp h]
          exact hm
    · obtain ⟨e4, hP4, ls, h4, hn, hs⟩ := hv
      refine ⟨Str.ofString "", D, ls.map fun c => Tx [c], rfl, rfl, .inl (SqL.of (by rw [map_strs]; exact h4)), by rw [ones_len]; omega, ?_⟩
      rw [join_ones]
      exact q H4 ls e4 hP4 (by omega) hs
theorem ok__law_ways {f  : Addr} {fd  : FuncData} (F : Fun K "_law_ways" "_law_ways" s__law_ways f fd) (B : Bi K w mg dA dT aW qa qo qx)   : FnOk P w K mg base CX0 1 f fd ["_law_sign"] (spWays) := by
  refine F.ok sc__law_ways (fun vs H Q E h => ?_) (fun cdv A outer s H vs Q E hr h => ?_)
  · obtain ⟨c, rfl, _⟩ := h
    rfl
  · obtain ⟨c, rfl, q⟩ := h
    refine ⟨_, (pss_one (ps_ret (pe_ix ix_list (pe_lst (pa_cons (pe_lst (pa_cons pe_int (pa_cons pe_int pa_nil))) (pa_cons (pe_lst (pa_cons (pe_callTy call_int1 (by rfl) B.int (by decide +kernel) (pa_cons (pe_cmpR op_eq (pv 0) pe_str (nomark _)) pa_nil)) pa_nil)) pa_nil))) (pe_callTy call_int1 (by rfl) B.int (by decide +kernel) (pa_cons (pe_cmpR op_inS (pv 0) pe_str rfl) pa_nil)) (fun _ _ => rfl)))), ?_⟩
    refine ⟨by show 2 ≤ sizeLine; decide, fun p1 n1 => ?_⟩
    have y1 := Ex.new (o := .lst [V.int 0, .int 1]) n1
    have o1 := upd_same (H := H) (a := p1) (o := .lst [V.int 0, .int 1])
    generalize upd H p1 (.lst [V.int 0, .int 1]) = G1 at y1 o1 ⊢
    refine ⟨_, rfl, rfl, .inr ⟨_, rfl, ?_⟩⟩
    rw [show decide (V.str (Tx [c]) = V.str (Str.ofString "1")) = decide ([c] = [49]) by rw [s_1, dec_Tx]]
    refine ⟨by show 1 ≤ sizeLine; decide, fun p2 n2 => ?_⟩
    have y2 := Ex.new (o := .lst [V.int (if decide ([c] = [49]) = true then 1 else 0)]) n2
    have o2 := upd_same (H := G1) (a := p2) (o := .lst [V.int (if decide ([c] = [49]) = true then 1 else 0)])
    generalize upd G1 p2 (.lst [V.int (if decide ([c] = [49]) = true then 1 else 0)]) = G3 at y2 o2 ⊢
    refine ⟨by show 2 ≤ sizeLine; decide, fun p3 n3 => ?_⟩
    have y3 := Ex.new (o := .lst [V.ref p1, .ref p2]) n3
    have o3 := upd_same (H := G3) (a := p3) (o := .lst [V.ref p1, .ref p2])
    generalize upd G3 p3 (.lst [V.ref p1, .ref p2]) = G4 at y3 o3 ⊢
    refine ⟨_, rfl, c, Str.ofString "01", rfl, rfl, .inr ⟨_, rfl, ?_⟩⟩
    rw [show (Str.ofString "01").cps.toList = [48, 49] by decide +kernel]
    have x5 : Ex H G4 := (y1.trans y2).trans y3
    by_cases h : c ∈ [48, 49]
    · refine ⟨p3, _, 1, _, rfl, by rw [if_pos (decide_eq_true h)], sq_of o3, atI_nat (j := 1) rfl, q p2 G4 (fresh_back y1 n2) x5 ?_⟩
      unfold ways
      rw [if_pos h, y3 _ _ o2]
      simp
    · refine ⟨p3, _, 0, _, rfl, by rw [if_neg (by rw [decide_eq_false h]; decide)], sq_of o3, atI_nat (j := 0) rfl, q p1 G4 n1 x5 ?_⟩
      unfold ways
      rw [if_neg h, (y2.trans y3) _ _ o1]
      rfl
theorem ok__law_bit {f f1 : Addr} {fd fd1 : FuncData} (F : Fun K "_law_bit" "_law_bit" s__law_bit f fd) (B : Bi K w mg dA dT aW qa qo qx)  (D__law_ways : Df P w K mg base CX0 "_law_ways" 1 f1 fd1 ["_law_sign"] (spWays)) : FnOk P w K mg base CX0 2 f fd ["_law_word", "_law_one", "_law_other"] (spBit) := by
  refine F.ok sc__law_bit (fun vs H Q E h => ?_) (fun cdv A outer s H vs Q E hr h => ?_)
  · obtain ⟨k, c, d, rfl, _⟩ := h
    rfl
  · obtain ⟨k, c, d, rfl, hk, hc, hd, q⟩ := h
    refine ⟨_, (pss_cons (ps_set (i := 3) sc__law_bit.nd rfl (Or.inl rfl) (pe_lst pa_nil))
      (pss_cons (ps_for PassesOwn.never rfl (pi_list (pe_call D__law_ways.ok (hr.mono (by decide)) (by rfl) D__law_ways.g D__law_ways.kp D__law_ways.b .nil pass0 (pa_cons (pv 1) pa_nil))) (pg_name (i := 4) sc__law_bit.nd rfl (Or.inl rfl)) (pss_one (ps_for PassesOwn.never rfl (pi_list (pe_call D__law_ways.ok (hr.mono (by decide)) (by rfl) D__law_ways.g D__law_ways.kp D__law_ways.b .nil pass0 (pa_cons (pv 2) pa_nil))) (pg_name (i := 5) sc__law_bit.nd rfl (Or.inl rfl)) (pss_one (ps_expr (pe_bm PySem.F.plainAttrs_list PySem.F.slot_list_append PySem.F.type_list_append mt_append (pv 3) (pa_cons (pe_ix ix_list (pe_lst (pa_cons (pe_op op_sub pe_int (pv 4)) (pa_cons (pe_op op_mul (pv 4) (pv 5)) (pa_cons (pe_callB (call_max2 rfl) (by rfl) B.max (by decide +kernel) (pa_cons (pv 4) (pa_cons (pv 5) pa_nil))) (pa_cons (pe_op op_mod (pe_op op_add (pv 4) (pv 5)) pe_int) pa_nil))))) (pe_bm PySem.F.plainAttrs_list PySem.F.slot_list_index PySem.F.type_list_index mt_index (pe_lst (pa_cons pe_str (pa_cons pe_str (pa_cons pe_str (pa_cons pe_str pa_nil))))) (pa_cons (pv 0) pa_nil)) (fun _ _ => rfl)) pa_nil)))))))
      (pss_one (ps_ret (pe_ifExp (pt_cmpR (op_eqD hr.units) (pe_callB (cr_sortedSet rfl) (by rfl) B.sorted (by decide +kernel) (pa_cons (pe_callTy (cr_setI rfl) (by rfl) B.set (by decide +kernel) (pa_cons (pv 3) pa_nil)) pa_nil)) (pe_lst (pa_cons pe_int (pa_cons pe_int pa_nil))) (nomark _)) pe_str (pe_callTy call_str_int (by rfl) B.str (by decide +kernel) (pa_cons (pe_ix ix_list (pv 3) pe_int (fun _ _ => rfl)) pa_nil))))))), ?_⟩
    obtain ⟨s01, s64, s0, wc2, wd2⟩ := some_01 ⟨k, hk⟩ c hc d hd
    simp only at s01 s64 s0 wc2 wd2
    refine q_asgL (xs := []) (el_lst ea_nil (by decide)) fun p H1 np e1 hp => ?_
    refine q_forNL (xs := (ways c).map V.int) (el_call (ea_cons (ev_var rfl) ea_nil) spl_ways) (fun r i σ' G => ∃ v4 v5, σ' = [some (.str (wd k)), some (.str (Tx [c])), some (.str (Tx [d])), some (.ref p), v4, v5] ∧ Ex H G ∧ G p = some (.lst ((((ways c).take i).flatMap fun a => (ways d).map fun b => fK k a b).map V.int)) ∧ G r = some (.lst ((ways c).map V.int)) ∧ r ≠ p)
      (fun r G nr er hr => ⟨none, none, rfl, e1.trans er, er _ _ hp, hr, fun z => by
        rw [z, hp] at nr
        cases nr⟩) (fun r i σ' G _ hv => by
        obtain ⟨_, _, _, _, _, hr, _⟩ := hv
        exact sq_of hr) (fun r i x σ' G hx hv => ?_) (fun r σ' G hv => ?_)
    · obtain ⟨v4, v5, rfl, xG, hpG, hrG, nrp⟩ := hv
      obtain ⟨a, ha, rfl⟩ : ∃ a, (ways c)[i]? = some a ∧ x = V.int a := by
        rw [List.getElem?_map] at hx
        cases hq : (ways c)[i]? with
        | none =>
          rw [hq] at hx
          cases hx
        | some a =>
          rw [hq] at hx
          exact ⟨a, rfl, (Option.some.inj hx).symm⟩
      have hil : i < (ways c).length := (List.getElem?_eq_some_iff.mp ha).1
      have a01 := ways_01 c hc a (List.mem_of_getElem? ha)
      have acc2 : (((ways c).take i).flatMap fun a => (ways d).map fun b => fK k a b).length ≤ 4 := by
        have h1 : ∀ L : List Int, (L.flatMap fun a => (ways d).map fun b => fK k a b).length = L.length * (ways d).length := fun L => by
          induction L with
          | nil => simp
          | cons y L ih =>
            rw [List.flatMap_cons, List.length_append, ih, List.length_map, List.length_cons, Nat.succ_mul]
            omega
        rw [h1, List.length_take]
        have h2 : min i (ways c).length ≤ 2 := by omega
        calc min i (ways c).length * (ways d).length ≤ 2 * 2 := Nat.mul_le_mul h2 wd2
          _ = 4 := rfl
      refine s_forNL (xs := (ways d).map V.int) (el_call (ea_cons (ev_var rfl) ea_nil) spl_ways) (fun r2 j σ' G2 => ∃ v5, σ' = [some (.str (wd k)), some (.str (Tx [c])), some (.str (Tx [d])), some (.ref p), some (.int a), v5] ∧ Ex H G2 ∧ G2 p = some (.lst (((((ways c).take i).flatMap fun a => (ways d).map fun b => fK k a b) ++ ((ways d).take j).map fun b => fK k a b).map V.int)) ∧ G2 r = some (.lst ((ways c).map V.int)) ∧ G2 r2 = some (.lst ((ways d).map V.int)) ∧ r2 ≠ p)
        (fun r2 G2 nr er hr => ⟨v5, rfl, xG.trans er, by rw [er _ _ hpG]; simp, er _ _ hrG, hr, fun z => by
          rw [z, hpG] at nr
          cases nr⟩) (fun r2 j σ' G2 _ hv => by
          obtain ⟨_, _, _, _, _, hr, _⟩ := hv
          exact sq_of hr) (fun r2 j y σ' G2 hy hv => ?_) (fun r2 σ' G2 hv => ?_)
      · obtain ⟨v5, rfl, x2, hp2, hr2, hrr, nr2⟩ := hv
        obtain ⟨b, hb, rfl⟩ : ∃ b, (ways d)[j]? = some b ∧ y = V.int b := by
          rw [List.getElem?_map] at hy
          cases hq : (ways d)[j]? with
          | none =>
            rw [hq] at hy
            cases hy
          | some b =>
            rw [hq] at hy
            exact ⟨b, rfl, (Option.some.inj hy).symm⟩
        have hjl : j < (ways d).length := (List.getElem?_eq_some_iff.mp hb).1
        have b01 := ways_01 d hd b (List.mem_of_getElem? hb)
        obtain ⟨i1, i2, i3⟩ := ix_ok ⟨k, hk⟩
        simp only at i1 i2 i3
        refine ⟨_, rfl, .inl ⟨rfl, _, sq_of hp2⟩, ?_⟩
        refine ⟨_, rfl, _, _, rfl, rfl, _, rfl, _, rfl, _, _, rfl, rfl, .inl ⟨by omega, by omega⟩, _, rfl, _, rfl, _, _, rfl, _, rfl, _, rfl, _, _, rfl, rfl, _, _, rfl, rfl, (by show (0 : Int) < 2; decide), by show 4 ≤ sizeLine; decide, fun p5 n5 => ?_⟩
        have y5 := Ex.new (o := .lst [V.int (1 - a), V.int (a * b), V.int (if b > a then b else a), V.int ((a + b) % 2)]) n5
        have o5 := upd_same (H := G2) (a := p5) (o := .lst [V.int (1 - a), V.int (a * b), V.int (if b > a then b else a), V.int ((a + b) % 2)])
        generalize upd G2 p5 (.lst [V.int (1 - a), V.int (a * b), V.int (if b > a then b else a), V.int ((a + b) % 2)]) = G5 at y5 o5 ⊢
        refine ⟨by show 4 ≤ sizeLine; decide, fun p6 n6 => ?_⟩
        have y6 := Ex.new (o := .lst [V.str "not", .str "and", .str "or", .str "xor"]) n6
        have o6 := upd_same (H := G5) (a := p6) (o := .lst [V.str "not", .str "and", .str "or", .str "xor"])
        generalize upd G5 p6 (.lst [V.str "not", .str "and", .str "or", .str "xor"]) = G6 at y6 o6 ⊢
        refine ⟨.inl ⟨rfl, _, sq_of o6⟩, _, rfl, p6, _, _, k, _, rfl, rfl, sq_of o6, rfl, rfl, i1, i2, fun m z' hm hz => ?_, ?_⟩
        · have g := i3 ⟨m, by omega⟩ hm
          simp only at g
          rw [List.getD_eq_getElem?_getD, hz] at g
          exact g
        · refine ⟨p5, _, _, _, rfl, rfl, sq_of (y6 _ _ o5), fK_at hk a b, ?_⟩
          refine ⟨p, _, _, rfl, rfl, (y5.trans y6) _ _ hp2, sz_lt ?_, ?_⟩
          · rw [List.length_map, List.length_append, List.length_map, List.length_take]
            omega
          · refine ⟨_, rfl, Ex.mut ((x2.trans y5).trans y6) np, ?_, (upd_ne nrp).trans ((y5.trans y6) _ _ hr2), (upd_ne nr2).trans ((y5.trans y6) _ _ hrr), nr2⟩
            rw [upd_same, List.take_add_one, hb]
            simp
      · obtain ⟨v5, rfl, x2, hp2, hr2, hrr, nr2⟩ := hv
        refine ⟨_, _, rfl, x2, ?_, hr2, nrp⟩
        rw [hp2, List.length_map, List.take_length, List.take_add_one, ha, List.flatMap_append]
        simp
    · obtain ⟨v4, v5, rfl, xG, hpG, hrG, nrp⟩ := hv
      rw [List.length_map, List.take_length] at hpG
      obtain ⟨i0, hi0⟩ : ∃ i0, (someL k c d)[0]? = some i0 := ⟨(someL k c d)[0], List.getElem?_eq_getElem s0⟩
      have i01 := s01 i0 (List.mem_of_getElem? hi0)
      obtain ⟨g1, g2⟩ := str_01 i01
      have hpS : SqL K G p ((someL k c d).map V.int) := sq_of hpG
      refine s_ret (ev_is (ev_ifS (et_test (ev_opLL (el_suV (ns := someL k c d) (ev_var rfl) hpS s01 s64) (el_lst (ea_cons ev_c (ea_cons ev_c ea_nil)) (by simp)) fun r1 r2 G2 h1 h2 _ => rv_eqInts (xs := su (someL k c d)) (ys := [0, 1]) (sq_of h1) (sq_of h2))) ec_x (v2 := V.str (Tx [if i0 = 1 then 49 else 48])) (fun G2 e2 Q2 q2 => ?_)) ?_) fun G3 e3 => q G3 (xG.trans e3)
      · refine ⟨_, rfl, p, _, 0, _, rfl, rfl, ex_l e2 hpS, atI_nat (j := 0) (by rw [List.getElem?_map, hi0]; rfl), i0, rfl, g1, ?_⟩
        have q3 := q2 G2 (Ex.refl _)
        rw [← g2] at q3
        exact q3
      · unfold bitS
        rw [List.getD_eq_getElem?_getD, hi0]
        by_cases h : 0 ∈ someL k c d ∧ 1 ∈ someL k c d
        · rw [if_pos h, if_pos (decide_eq_true (su_01.mpr h))]
        · rw [if_neg h, if_neg (by rw [decide_eq_false fun z => h (su_01.mp z)]; decide)]
          rfl
theorem ok__law_right {f f1 f2 : Addr} {fd fd1 fd2 : FuncData} (F : Fun K "_law_right" "_law_right" s__law_right f fd) (B : Bi K w mg dA dT aW qa qo qx)  (D__law_bit : Df P w K mg base CX0 "_law_bit" 2 f1 fd1 ["_law_word", "_law_one", "_law_other"] (spBit)) (D_operated : DfD P w K mg base CX0 "operated" 4 f2 fd2 ["word", "values", "high", "low"] (spOp K)) {ds_operated : List Value} (b0_operated : Binds K fd2 ["word", "values", "high", "low"] ds_operated) (v0_operated : Vals [.int 0, .int 0] ds_operated) : FnOk P w K mg base CX0 5 f fd ["_law_word", "_law_a", "_law_b"] (spRight) := by
  refine F.ok sc__law_right (fun vs H Q E h => ?_) (fun cdv A outer s H vs Q E hr h => ?_)
  · obtain ⟨k, a, b, rfl, _⟩ := h
    rfl
  · obtain ⟨k, a, b, rfl, hk, ha, hb, hl, h8, q⟩ := h
    refine ⟨_, (pss_cons (ps_set (i := 3) sc__law_right.nd rfl (Or.inl rfl) (pe_ifExp (pt_cmpR op_eq (pv 0) pe_str (nomark _)) (pe_lst (pa_cons (pv 1) pa_nil)) (pe_lst (pa_cons (pv 1) (pa_cons (pv 2) pa_nil)))))
      (pss_cons (ps_set (i := 4) sc__law_right.nd rfl (Or.inl rfl) (pe_callTy call_list_of (by rfl) B.list (by decide +kernel) (pa_cons (pv 3) pa_nil)))
      (pss_cons (ps_set (i := 5) sc__law_right.nd rfl (Or.inl rfl) (pe_join pe_str (pe_lc (own := [("_law_one", 6), ("_law_other", 7)]) (g := gTup K 2 (gCons (gName 6) (gCons (gName 7) gNil))) (tt := tYes) (by rfl) sc__law_right.nd (pi_zipS (by rfl) B.zip (pa_cons (pv 1) (pa_cons (pv 2) pa_nil))) (blkOk_by (own := [("_law_one", 6), ("_law_other", 7)]) (N := N__law_right) (sc := defScope s__law_right) (by decide +kernel)) (fun _ _ _ _ _ => (pg_tup rfl (pgs_cons (pg_name (i := 6) sc__law_right.nd rfl (Or.inl rfl) (Or.inr rfl)) (pgs_cons (pg_name (i := 7) sc__law_right.nd rfl (Or.inl rfl) (Or.inr rfl)) pgs_nil)))) (fun _ _ _ _ _ => pts_nil) (fun _ _ _ _ _ => (pe_call D__law_bit.ok (hr.mono (by decide)) (by rfl) D__law_bit.g D__law_bit.kp D__law_bit.b .nil pass0 (pa_cons (pv 0) (pa_cons (pv 6) (pa_cons (pv 7) pa_nil))))))))
      (pss_cons (ps_if (PW.pt (pw_or (pt_cmpR op_notIn_seq (pv 0) (pgl (by rfl) B.c_WORDS) rfl) (pw_or (pt_cmpR op_ne (pe_call D_operated.ok (hr.mono (by decide)) (by rfl) D_operated.g D_operated.kp b0_operated v0_operated pass0 (pa_cons (pv 0) (pa_cons (pv 3) pa_nil))) (pv 5) (nomark _)) (pw_or1 (pt_cmpR (op_neD hr.units) (pv 3) (pv 4) (nomark _)))))) (pss_one (ps_ret pe_bl)) pss_nil)
      (pss_one (ps_ret (pe_or (pe_cmpR op_eq (pv 0) pe_str (nomark _)) (pe_one (pe_cmpR op_eq (pe_call D_operated.ok (hr.mono (by decide)) (by rfl) D_operated.g D_operated.kp b0_operated v0_operated pass0 (pa_cons (pv 0) (pa_cons (pe_lst (pa_cons (pv 2) (pa_cons (pv 1) pa_nil))) pa_nil))) (pv 5) (nomark _)))))))))), ?_⟩
    have nz := not_0 ⟨k, hk⟩
    simp only at nz
    have hb8 : b.length ≤ 8 := by omega
    obtain ⟨ls, r, els, hop, h8s, hlow, hdue⟩ : ∃ (ls : List (List Nat)) (r : List Nat), (if k = 0 then [a] else [a, b]) = ls ∧ Op (wd k) ls r ∧ (∀ l ∈ ls, l.length ≤ 8) ∧ (∀ l ∈ ls, Sg l) ∧ r = List.zipWith (bitS k) a b := by
      by_cases h0 : k = 0
      · subst h0
        refine ⟨[a], _, rfl, .not a ha, fun l hm => by rw [List.mem_singleton.mp hm]; exact h8, fun l hm => by rw [List.mem_singleton.mp hm]; exact ha, ?_⟩
        exact (zw_one hl ha hb fun c hc d hd => (bit_ok 0 c hc d hd).1).symm
      · refine ⟨[a, b], _, if_neg h0, .two k (by omega) a b hl, fun l hm => ?_, fun l hm => ?_, ?_⟩
        · simp only [List.mem_cons, List.not_mem_nil, or_false] at hm
          rcases hm with rfl | rfl <;> omega
        · simp only [List.mem_cons, List.not_mem_nil, or_false] at hm
          rcases hm with rfl | rfl
          · exact ha
          · exact hb
        · exact (zw_map ha hb fun c hc d hd => (bit_ok ⟨k, hk⟩ c hc d hd).1).symm
    refine q_asgL (xs := (ls.map Tx).map V.str) (el_ifB (et_test (ev_op (ev_var rfl) ev_c (rv_eq rfl))) (fun h => ?_) (fun h => ?_)) fun p H1 np e1 hp => ?_
    · rw [nz] at h
      rw [← els, if_pos (of_decide_eq_true h)]
      exact el_lst (ea_cons (ev_var rfl) ea_nil) (by simp)
    · rw [nz] at h
      rw [← els, if_neg (of_decide_eq_false h)]
      exact el_lst (ea_cons (ev_var rfl) (ea_cons (ev_var rfl) ea_nil)) (by simp)
    refine q_asgL (el_list (ev_var rfl) (sq_of hp)) fun p2 H2 np2 e2 hp2 => ?_
    refine q_asg (v := .str (Tx (List.zipWith (bitS k) a b))) (ev_join1 ?_ (by rw [List.length_zipWith]; omega)) fun H3 e3 => ?_
    · rw [List.map_zipWith]
      exact el_lcZ (fun c d => V.str (Tx [bitS k c d])) (ea_cons (ev_var rfl) (ea_cons (ev_var rfl) ea_nil)) hl (by omega) (fun x y => rfl) fun c d H4 _ hc hd => ev_call (ea_cons (ev_var rfl) (ea_cons (ev_var rfl) (ea_cons (ev_var rfl) ea_nil))) (spv_bit hk (ha c hc) (hb d hd))
    have hp3 := (e2.trans e3) _ _ hp
    have hp23 := e3 _ _ hp2
    have lows : ∀ x ∈ ls.map Tx, LowS x := fun x hx => by
      obtain ⟨l, hm, rfl⟩ := List.mem_map.mp hx
      exact low_of (hlow l hm)
    have hsq : SqL K H3 p (ls.map fun l => V.str (Tx l)) := sq_of (by rw [hp3, List.map_map]; rfl)
    refine q_when (b := false) (et_is (et_or (et_test (ev_op (ev_var rfl) ev_c (rv_niT (B.x_W H3) rfl (by decide)))) fun _ => et_or (et_test (ev_neT (ev_call (ea_cons (ev_var rfl) (ea_cons (ev_var rfl) ea_nil)) (spv_op hsq h8s hop)) (ev_var rfl))) fun _ => et_test (ev_op (ev_var rfl) (ev_var rfl) (rv_neStrs (sq_of hp3) (sq_of hp23) lows lows))) ?_) (fun hb => by cases hb) (fun _ H4 e4 => ?_)
    · have := words_in ⟨k, hk⟩
      simp only at this
      rw [this, hdue]
      simp
    · by_cases h0 : k = 0
      · refine s_ret (ev_is (ev_orV (a := true) (b := true) (ev_is (ev_op (ev_var rfl) ev_c (rv_eq rfl)) (by rw [nz, decide_eq_true h0])) fun hb => by cases hb) rfl) fun H5 e5 => q H5 ((((e1.trans e2).trans e3).trans e4).trans e5)
      · have k2 : ∀ l ∈ [b, a], l.length ≤ 8 := by
          intro l hm
          simp only [List.mem_cons, List.not_mem_nil, or_false] at hm
          rcases hm with rfl | rfl <;> omega
        refine s_ret (ev_is (ev_orV (a := false) (b := true) (ev_is (ev_op (ev_var rfl) ev_c (rv_eq rfl)) (by rw [nz, decide_eq_false h0])) fun _ => ev_is (ev_eqT (ev_callL2' (ev_var rfl) (el_lst (ea_cons (ev_var rfl) (ea_cons (ev_var rfl) ea_nil)) (by simp)) fun p5 H5 h5 _ => spv_op (ls := [b, a]) (sq_of h5) k2 (.two k (by omega) b a hl.symm)) (ev_var rfl)) ?_) rfl) fun H5 e5 => q H5 ((((e1.trans e2).trans e3).trans e4).trans e5)
        rw [← zw_flip ha hb fun c hc d hd => (bit_ok ⟨k, hk⟩ c hc d hd).2 h0]
        simp
theorem ok_law {f f1 f2 f3 f4 : Addr} {fd fd1 fd2 fd3 fd4 : FuncData} (F : Fun K "law" "law" s_law f fd) (B : Bi K w mg dA dT aW qa qo qx)  (D__law_pot : Df P w K mg base CX0 "_law_pot" 2 f1 fd1 ["_law_script", "_law_k"] (spPot K)) (D__law_take : Df P w K mg base CX0 "_law_take" 1 f2 fd2 ["_law_pot_here", "_law_many"] (spTake)) (D__law_value : Df P w K mg base CX0 "_law_value" 2 f3 fd3 ["_law_pot_here", "_law_width"] (spVal)) (D__law_right : Df P w K mg base CX0 "_law_right" 5 f4 fd4 ["_law_word", "_law_a", "_law_b"] (spRight)) : FnOk P w K mg base CX0 6 f fd ["_law_script"] (spLaw K) := by
  refine F.ok sc_law (fun vs H Q E h => ?_) (fun cdv A outer s H vs Q E hr h => ?_)
  · obtain ⟨a, b, rfl, _⟩ := h
    rfl
  · obtain ⟨a, ns, rfl, hS, hlen, q⟩ := h
    refine ⟨_, (pss_cons (ps_for PassesOwn.never rfl (pi_range1 (by rfl) B.range (pa_cons (pe_callB (call_max2 rfl) (by rfl) B.max (by decide +kernel) (pa_cons pe_int (pa_cons (pe_callB (call_min2 rfl) (by rfl) B.min (by decide +kernel) (pa_cons pe_int (pa_cons (pe_callB call_len_seq (by rfl) B.len PySem.boot_len (pa_cons (pv 0) pa_nil)) pa_nil))) pa_nil))) pa_nil)) (pg_name (i := 1) sc_law.nd rfl (Or.inl rfl)) (pss_cons (ps_set (i := 2) sc_law.nd rfl (Or.inl rfl) (pe_call D__law_pot.ok (hr.mono (by decide)) (by rfl) D__law_pot.g D__law_pot.kp D__law_pot.b .nil pass0 (pa_cons (pv 0) (pa_cons (pv 1) pa_nil))))
      (pss_cons (ps_set (i := 3) sc_law.nd rfl (Or.inl rfl) (pe_op op_add pe_int (pe_call D__law_take.ok (hr.mono (by decide)) (by rfl) D__law_take.g D__law_take.kp D__law_take.b .nil pass0 (pa_cons (pv 2) (pa_cons pe_int pa_nil)))))
      (pss_cons (ps_set (i := 4) sc_law.nd rfl (Or.inr rfl) (pe_call D__law_value.ok (hr.mono (by decide)) (by rfl) D__law_value.g D__law_value.kp D__law_value.b .nil pass0 (pa_cons (pv 2) (pa_cons (pv 3) pa_nil))))
      (pss_cons (ps_set (i := 5) sc_law.nd rfl (Or.inr rfl) (pe_ifExp (pt_cmpR op_eq (pe_call D__law_take.ok (hr.mono (by decide)) (by rfl) D__law_take.g D__law_take.kp D__law_take.b .nil pass0 (pa_cons (pv 2) (pa_cons pe_int pa_nil))) pe_int (nomark _)) (pv 4) (pe_call D__law_value.ok (hr.mono (by decide)) (by rfl) D__law_value.g D__law_value.kp D__law_value.b .nil pass0 (pa_cons (pv 2) (pa_cons (pv 3) pa_nil)))))
      (pss_one (ps_if (pt_not (pt_val (pe_callB (cr_all rfl) (by rfl) B.all (by decide +kernel) (pa_cons (pe_lc (own := [("_law_word", 6)]) (g := gName 6) (tt := tYes) (by rfl) sc_law.nd (pi_list (pe_lst (pa_cons pe_str (pa_cons pe_str (pa_cons pe_str (pa_cons pe_str pa_nil)))))) (blkOk_by (own := [("_law_word", 6)]) (N := N_law) (sc := defScope s_law) (by decide +kernel)) (fun _ _ _ _ _ => pg_name (i := 6) sc_law.nd rfl (Or.inl rfl)) (fun _ _ _ _ _ => pts_nil) (fun _ _ _ _ _ => (pe_call D__law_right.ok (hr.mono (by decide)) (by rfl) D__law_right.g D__law_right.kp D__law_right.b .nil pass0 (pa_cons (pv 6) (pa_cons (pv 4) (pa_cons (pv 5) pa_nil)))))) pa_nil)))) (pss_one (ps_ret pe_bl)) pss_nil)))))))
      (pss_one (ps_ret pe_bl))), ?_⟩
    refine q_forR1 (n := if (if (ns.length : Int) < 6 then (ns.length : Int) else 6) > 1 then (if (ns.length : Int) < 6 then (ns.length : Int) else 6) else 1) ?_ ⟨by split <;> omega, by split <;> (try split) <;> omega⟩ (fun i σ' H' => (∃ a1 a2 a3 a4 a5, σ' = [some (.ref a), a1, a2, a3, a4, a5, none]) ∧ SqL K H' a (ns.map V.int))
      (fun H2 e2 => ⟨⟨none, none, none, none, none, rfl⟩, ex_l e2 hS⟩) (fun i σ' H' hi hv => ?_) (fun σ' H' hv => ?_)
    · refine fun H2 e2 Q2 q2 => ?_
      refine ⟨_, rfl, a, _, rfl, .inl (ex_l e2 hS), _, _, rfl, _, _, rfl, ?_⟩
      rw [List.length_map]
      exact q2 _ (Ex.refl _)
    · obtain ⟨⟨a1, a2, a3, a4, a5, rfl⟩, hS2⟩ := hv
      have hi2 : (i : Int) ≤ 1000 := by
        revert hi
        split <;> (try split) <;> omega
      refine ⟨_, rfl, _, rfl, a, ns, _, rfl, hS2, by omega, hi2, fun p H2 np x2 hP => ?_⟩
      refine ⟨_, rfl, p, 8, rfl, hP, by decide, by decide, fun H3 d z3 hP3 d0 d1 => ⟨_, _, rfl, rfl, ?_⟩⟩
      refine ⟨_, rfl, _, rfl, p, 1 + d, rfl, hP3, by omega, by omega, fun H4 u z4 hP4 lu su => ?_⟩
      refine ⟨_, rfl, p, 6, rfl, hP4, by decide, by decide, fun H5 e z5 hP5 e0 e1 => ⟨rfl, _, rfl, ?_⟩⟩
      refine ite2 (fun _ => ?_) (fun _ => ?_)
      · refine ⟨_, rfl, ?_⟩
        refine g_name ?_
        dsimp only
        refine s_when (b := false) ?e1 (fun hb => by cases hb) (fun _ G7 e7 => ?e2)
        case e2 => exact ⟨⟨_, _, _, _, _, rfl⟩, ex_l ((((z3.trans z4).trans z5).back x2 np).trans e7) hS2⟩
        refine et_is (et_not (et_B (ev_all (bs := [true, true, true, true]) ?_))) rfl
        refine el_lcNL (xs := [V.str "not", .str "and", .str "or", .str "xor"]) (fun _ => true) (fun _ => V.bl true) (el_lst (ea_cons ev_c (ea_cons ev_c (ea_cons ev_c (ea_cons ev_c ea_nil)))) (by simp)) (by simp) (fun x => rfl) (fun i x G8 _ hi => et_yes) (fun i x G8 _ hi _ => ?_)
        match i, hi with
        | 0, hi => exact (Option.some.inj hi) ▸ ev_call (ea_cons (ev_var rfl) (ea_cons (ev_var rfl) (ea_cons (ev_var rfl) ea_nil))) (spv_right (k := 0) (by decide) su su rfl (by omega))
        | 1, hi => exact (Option.some.inj hi) ▸ ev_call (ea_cons (ev_var rfl) (ea_cons (ev_var rfl) (ea_cons (ev_var rfl) ea_nil))) (spv_right (k := 1) (by decide) su su rfl (by omega))
        | 2, hi => exact (Option.some.inj hi) ▸ ev_call (ea_cons (ev_var rfl) (ea_cons (ev_var rfl) (ea_cons (ev_var rfl) ea_nil))) (spv_right (k := 2) (by decide) su su rfl (by omega))
        | 3, hi => exact (Option.some.inj hi) ▸ ev_call (ea_cons (ev_var rfl) (ea_cons (ev_var rfl) (ea_cons (ev_var rfl) ea_nil))) (spv_right (k := 3) (by decide) su su rfl (by omega))
        | n + 4, hi => cases hi
      · refine ⟨_, rfl, _, rfl, p, 1 + d, rfl, hP5, by omega, by omega, fun H6 v z6 hP6 lv sv => ?_⟩
        refine g_name ?_
        dsimp only
        refine s_when (b := false) ?e3 (fun hb => by cases hb) (fun _ G7 e7 => ?e4)
        case e4 => exact ⟨⟨_, _, _, _, _, rfl⟩, ex_l (((((z3.trans z4).trans z5).trans z6).back x2 np).trans e7) hS2⟩
        refine et_is (et_not (et_B (ev_all (bs := [true, true, true, true]) ?_))) rfl
        refine el_lcNL (xs := [V.str "not", .str "and", .str "or", .str "xor"]) (fun _ => true) (fun _ => V.bl true) (el_lst (ea_cons ev_c (ea_cons ev_c (ea_cons ev_c (ea_cons ev_c ea_nil)))) (by simp)) (by simp) (fun x => rfl) (fun i x G8 _ hi => et_yes) (fun i x G8 _ hi _ => ?_)
        match i, hi with
        | 0, hi => exact (Option.some.inj hi) ▸ ev_call (ea_cons (ev_var rfl) (ea_cons (ev_var rfl) (ea_cons (ev_var rfl) ea_nil))) (spv_right (k := 0) (by decide) su sv (by omega) (by omega))
        | 1, hi => exact (Option.some.inj hi) ▸ ev_call (ea_cons (ev_var rfl) (ea_cons (ev_var rfl) (ea_cons (ev_var rfl) ea_nil))) (spv_right (k := 1) (by decide) su sv (by omega) (by omega))
        | 2, hi => exact (Option.some.inj hi) ▸ ev_call (ea_cons (ev_var rfl) (ea_cons (ev_var rfl) (ea_cons (ev_var rfl) ea_nil))) (spv_right (k := 2) (by decide) su sv (by omega) (by omega))
        | 3, hi => exact (Option.some.inj hi) ▸ ev_call (ea_cons (ev_var rfl) (ea_cons (ev_var rfl) (ea_cons (ev_var rfl) ea_nil))) (spv_right (k := 3) (by decide) su sv (by omega) (by omega))
        | n + 4, hi => cases hi
    · exact s_ret ev_c fun H2 _ => q H2
end
theorem all_mk {l : PySem.W.OpenLaw} {w : World} {K : PySem.W.Frag} {h : Heap} {mg : Str → Option Value} {fa g0 qa qo qx g4 g5 g6 g7 g8 g9 g10 g11 g12 g13 g14 g15 g16 g17 Dk9 : Addr} {od0 an0 od1 an1 od2 an2 od3 an3 od4 an4 od5 an5 od6 an6 od7 an7 od8 an8 od9 an9 od10 an10 od11 an11 od12 an12 od13 an13 od14 an14 od15 an15 od16 an16 od17 an17 : Option Addr} {sl0 sl1 sl2 sl3 sl4 sl5 sl6 sl7 sl8 sl9 sl10 sl11 sl12 sl13 sl14 sl15 sl16 sl17 : Array (Option Value)} {oc0 kV0 dc0 pm0 cd0 ct0 oc1 kV1 dc1 pm1 cd1 ct1 oc2 kV2 dc2 pm2 cd2 ct2 oc3 kV3 dc3 pm3 cd3 ct3 oc4 kV4 dc4 pm4 cd4 ct4 oc5 kV5 dc5 pm5 cd5 ct5 oc6 kV6 dc6 pm6 cd6 ct6 oc7 kV7 dc7 pm7 cd7 ct7 oc8 kV8 dc8 pm8 cd8 ct8 oc9 dc9 pm9 cd9 ct9 oc10 kV10 dc10 pm10 cd10 ct10 oc11 kV11 dc11 pm11 cd11 ct11 oc12 kV12 dc12 pm12 cd12 ct12 oc13 kV13 dc13 pm13 cd13 ct13 oc14 kV14 dc14 pm14 cd14 ct14 oc15 kV15 dc15 pm15 cd15 ct15 oc16 kV16 dc16 pm16 cd16 ct16 oc17 kV17 dc17 pm17 cd17 ct17 : Value} {td9_0 td9_1 : Tok} {dA dT aW : Addr} {esA esT : Array DictEntry} {nA nW nT : Nat} {odW : Option Addr} {slW : Array (Option Value)} {tW0 tW1 tW2 tW3 tW4 tW5 tW6 tW7 tW8 tW9 tW10 tW11 tt0 tt1 ttx : Tok} (X : K.In h) (G : h.Ns mainGlobals mg) (hfa : mg "law" = some (.ref fa))
    (a0 : PySem.W.nsIn K mainGlobals "read" = some (some (.ref g0)))
    (l0 : K.lookup g0 = some ⟨oc0, od0, .func (PySem.W.fnOf "read" "read" (defArgs s_read) (defBody s_read) (defScope s_read) .none (kV0) dc0 pm0 an0 cd0 ct0), sl0⟩)
    (c0 : PySem.W.codeIn K cd0 "read" = true)
    (k0 : PySem.W.keepIn K (.ref g0) = true)
    (a1 : PySem.W.nsIn K mainGlobals "and_sign" = some (some (.ref qa)))
    (l1 : K.lookup qa = some ⟨oc1, od1, .func (PySem.W.fnOf "and_sign" "and_sign" (defArgs s_and_sign) (defBody s_and_sign) (defScope s_and_sign) .none (kV1) dc1 pm1 an1 cd1 ct1), sl1⟩)
    (c1 : PySem.W.codeIn K cd1 "and_sign" = true)
    (k1 : PySem.W.keepIn K (.ref qa) = true)
    (a2 : PySem.W.nsIn K mainGlobals "or_sign" = some (some (.ref qo)))
    (l2 : K.lookup qo = some ⟨oc2, od2, .func (PySem.W.fnOf "or_sign" "or_sign" (defArgs s_or_sign) (defBody s_or_sign) (defScope s_or_sign) .none (kV2) dc2 pm2 an2 cd2 ct2), sl2⟩)
    (c2 : PySem.W.codeIn K cd2 "or_sign" = true)
    (k2 : PySem.W.keepIn K (.ref qo) = true)
    (a3 : PySem.W.nsIn K mainGlobals "xor_sign" = some (some (.ref qx)))
    (l3 : K.lookup qx = some ⟨oc3, od3, .func (PySem.W.fnOf "xor_sign" "xor_sign" (defArgs s_xor_sign) (defBody s_xor_sign) (defScope s_xor_sign) .none (kV3) dc3 pm3 an3 cd3 ct3), sl3⟩)
    (c3 : PySem.W.codeIn K cd3 "xor_sign" = true)
    (k3 : PySem.W.keepIn K (.ref qx) = true)
    (a4 : PySem.W.nsIn K mainGlobals "by_bits" = some (some (.ref g4)))
    (l4 : K.lookup g4 = some ⟨oc4, od4, .func (PySem.W.fnOf "by_bits" "by_bits" (defArgs s_by_bits) (defBody s_by_bits) (defScope s_by_bits) .none (kV4) dc4 pm4 an4 cd4 ct4), sl4⟩)
    (c4 : PySem.W.codeIn K cd4 "by_bits" = true)
    (k4 : PySem.W.keepIn K (.ref g4) = true)
    (a5 : PySem.W.nsIn K mainGlobals "not_value" = some (some (.ref g5)))
    (l5 : K.lookup g5 = some ⟨oc5, od5, .func (PySem.W.fnOf "not_value" "not_value" (defArgs s_not_value) (defBody s_not_value) (defScope s_not_value) .none (kV5) dc5 pm5 an5 cd5 ct5), sl5⟩)
    (c5 : PySem.W.codeIn K cd5 "not_value" = true)
    (k5 : PySem.W.keepIn K (.ref g5) = true)
    (a6 : PySem.W.nsIn K mainGlobals "and_value" = some (some (.ref g6)))
    (l6 : K.lookup g6 = some ⟨oc6, od6, .func (PySem.W.fnOf "and_value" "and_value" (defArgs s_and_value) (defBody s_and_value) (defScope s_and_value) .none (kV6) dc6 pm6 an6 cd6 ct6), sl6⟩)
    (c6 : PySem.W.codeIn K cd6 "and_value" = true)
    (k6 : PySem.W.keepIn K (.ref g6) = true)
    (a7 : PySem.W.nsIn K mainGlobals "or_value" = some (some (.ref g7)))
    (l7 : K.lookup g7 = some ⟨oc7, od7, .func (PySem.W.fnOf "or_value" "or_value" (defArgs s_or_value) (defBody s_or_value) (defScope s_or_value) .none (kV7) dc7 pm7 an7 cd7 ct7), sl7⟩)
    (c7 : PySem.W.codeIn K cd7 "or_value" = true)
    (k7 : PySem.W.keepIn K (.ref g7) = true)
    (a8 : PySem.W.nsIn K mainGlobals "xor_value" = some (some (.ref g8)))
    (l8 : K.lookup g8 = some ⟨oc8, od8, .func (PySem.W.fnOf "xor_value" "xor_value" (defArgs s_xor_value) (defBody s_xor_value) (defScope s_xor_value) .none (kV8) dc8 pm8 an8 cd8 ct8), sl8⟩)
    (c8 : PySem.W.codeIn K cd8 "xor_value" = true)
    (k8 : PySem.W.keepIn K (.ref g8) = true)
    (a9 : PySem.W.nsIn K mainGlobals "operated" = some (some (.ref g9)))
    (l9 : K.lookup g9 = some ⟨oc9, od9, .func (PySem.W.fnOf "operated" "operated" (defArgs s_operated) (defBody s_operated) (defScope s_operated) .none (.ref Dk9) dc9 pm9 an9 cd9 ct9), sl9⟩)
    (c9 : PySem.W.codeIn K cd9 "operated" = true)
    (k9 : PySem.W.keepIn K (.ref g9) = true)
    (d9_0 : PySem.W.nsIn K Dk9 "high" = some (some (.int 0 td9_0)))
    (d9_1 : PySem.W.nsIn K Dk9 "low" = some (some (.int 0 td9_1)))
    (a10 : PySem.W.nsIn K mainGlobals "_law_at" = some (some (.ref g10)))
    (l10 : K.lookup g10 = some ⟨oc10, od10, .func (PySem.W.fnOf "_law_at" "_law_at" (defArgs s__law_at) (defBody s__law_at) (defScope s__law_at) .none (kV10) dc10 pm10 an10 cd10 ct10), sl10⟩)
    (c10 : PySem.W.codeIn K cd10 "_law_at" = true)
    (k10 : PySem.W.keepIn K (.ref g10) = true)
    (a11 : PySem.W.nsIn K mainGlobals "_law_pot" = some (some (.ref g11)))
    (l11 : K.lookup g11 = some ⟨oc11, od11, .func (PySem.W.fnOf "_law_pot" "_law_pot" (defArgs s__law_pot) (defBody s__law_pot) (defScope s__law_pot) .none (kV11) dc11 pm11 an11 cd11 ct11), sl11⟩)
    (c11 : PySem.W.codeIn K cd11 "_law_pot" = true)
    (k11 : PySem.W.keepIn K (.ref g11) = true)
    (a12 : PySem.W.nsIn K mainGlobals "_law_take" = some (some (.ref g12)))
    (l12 : K.lookup g12 = some ⟨oc12, od12, .func (PySem.W.fnOf "_law_take" "_law_take" (defArgs s__law_take) (defBody s__law_take) (defScope s__law_take) .none (kV12) dc12 pm12 an12 cd12 ct12), sl12⟩)
    (c12 : PySem.W.codeIn K cd12 "_law_take" = true)
    (k12 : PySem.W.keepIn K (.ref g12) = true)
    (a13 : PySem.W.nsIn K mainGlobals "_law_value" = some (some (.ref g13)))
    (l13 : K.lookup g13 = some ⟨oc13, od13, .func (PySem.W.fnOf "_law_value" "_law_value" (defArgs s__law_value) (defBody s__law_value) (defScope s__law_value) .none (kV13) dc13 pm13 an13 cd13 ct13), sl13⟩)
    (c13 : PySem.W.codeIn K cd13 "_law_value" = true)
    (k13 : PySem.W.keepIn K (.ref g13) = true)
    (a14 : PySem.W.nsIn K mainGlobals "_law_ways" = some (some (.ref g14)))
    (l14 : K.lookup g14 = some ⟨oc14, od14, .func (PySem.W.fnOf "_law_ways" "_law_ways" (defArgs s__law_ways) (defBody s__law_ways) (defScope s__law_ways) .none (kV14) dc14 pm14 an14 cd14 ct14), sl14⟩)
    (c14 : PySem.W.codeIn K cd14 "_law_ways" = true)
    (k14 : PySem.W.keepIn K (.ref g14) = true)
    (a15 : PySem.W.nsIn K mainGlobals "_law_bit" = some (some (.ref g15)))
    (l15 : K.lookup g15 = some ⟨oc15, od15, .func (PySem.W.fnOf "_law_bit" "_law_bit" (defArgs s__law_bit) (defBody s__law_bit) (defScope s__law_bit) .none (kV15) dc15 pm15 an15 cd15 ct15), sl15⟩)
    (c15 : PySem.W.codeIn K cd15 "_law_bit" = true)
    (k15 : PySem.W.keepIn K (.ref g15) = true)
    (a16 : PySem.W.nsIn K mainGlobals "_law_right" = some (some (.ref g16)))
    (l16 : K.lookup g16 = some ⟨oc16, od16, .func (PySem.W.fnOf "_law_right" "_law_right" (defArgs s__law_right) (defBody s__law_right) (defScope s__law_right) .none (kV16) dc16 pm16 an16 cd16 ct16), sl16⟩)
    (c16 : PySem.W.codeIn K cd16 "_law_right" = true)
    (k16 : PySem.W.keepIn K (.ref g16) = true)
    (a17 : PySem.W.nsIn K mainGlobals "law" = some (some (.ref g17)))
    (l17 : K.lookup g17 = some ⟨oc17, od17, .func (PySem.W.fnOf "law" "law" (defArgs s_law) (defBody s_law) (defScope s_law) .none (kV17) dc17 pm17 an17 cd17 ct17), sl17⟩)
    (c17 : PySem.W.codeIn K cd17 "law" = true)
    (k17 : PySem.W.keepIn K (.ref g17) = true)
    (z0 : PySem.W.nsIn K mainGlobals "all" = some none)
    (z1 : PySem.W.nsIn K mainGlobals "divmod" = some none)
    (z2 : PySem.W.nsIn K mainGlobals "int" = some none)
    (z3 : PySem.W.nsIn K mainGlobals "len" = some none)
    (z4 : PySem.W.nsIn K mainGlobals "list" = some none)
    (z5 : PySem.W.nsIn K mainGlobals "max" = some none)
    (z6 : PySem.W.nsIn K mainGlobals "min" = some none)
    (z7 : PySem.W.nsIn K mainGlobals "range" = some none)
    (z8 : PySem.W.nsIn K mainGlobals "set" = some none)
    (z9 : PySem.W.nsIn K mainGlobals "sorted" = some none)
    (z10 : PySem.W.nsIn K mainGlobals "str" = some none)
    (z11 : PySem.W.nsIn K mainGlobals "zip" = some none)
    (y_A : PySem.W.nsIn K mainGlobals "ACTIONS" = some (some (.ref dA)))
    (yl_A : K.lookup dA = some ⟨.type "dict", none, .dict esA nA, #[]⟩)
    (yk_A : PySem.W.KeysLit w.params esA.toList)
    (ye_not : PySem.W.nsIn K dA "not" = some (some (.ref g5)))
    (ye_and : PySem.W.nsIn K dA "and" = some (some (.ref g6)))
    (ye_or : PySem.W.nsIn K dA "or" = some (some (.ref g7)))
    (ye_xor : PySem.W.nsIn K dA "xor" = some (some (.ref g8)))
    (y_T : PySem.W.nsIn K mainGlobals "TURNED" = some (some (.ref dT)))
    (yl_T : K.lookup dT = some ⟨.type "dict", none, .dict esT nT, #[]⟩)
    (yk_T : PySem.W.KeysLit w.params esT.toList)
    (ye_T0 : PySem.W.nsIn K dT "0" = some (some (.str (Str.ofString "1") tt0)))
    (ye_T1 : PySem.W.nsIn K dT "1" = some (some (.str (Str.ofString "0") tt1)))
    (ye_Tx : PySem.W.nsIn K dT "x" = some (some (.str (Str.ofString "x") ttx)))
    (y_W : PySem.W.nsIn K mainGlobals "WORDS" = some (some (.ref aW)))
    (yl_W : K.lookup aW = some ⟨.type "tuple", odW, .seq #[.str (Str.ofString "not") tW0, .str (Str.ofString "and") tW1, .str (Str.ofString "or") tW2, .str (Str.ofString "xor") tW3, .str (Str.ofString "plus") tW4, .str (Str.ofString "same") tW5, .str (Str.ofString "less") tW6, .str (Str.ofString "any") tW7, .str (Str.ofString "all") tW8, .str (Str.ofString "pick") tW9, .str (Str.ofString "join") tW10, .str (Str.ofString "part") tW11] nW, slW⟩)
    : ∃ fd : FuncData, (∀ (s : Shared) (v : Value), BindsTo s fd ⟨[v], []⟩ [("_law_script", v)]) ∧ ∀ base : Heap, K.In base → base.Ns mainGlobals mg → FnOk l.prog w K mg base CX0 6 fa fd ["_law_script"] (spLaw K) := by
  have e := hfa.symm.trans (PySem.W.mg_of X G a17)
  cases e
  have B : Bi K w mg dA dT aW qa qo qx := ⟨PySem.W.mg_none_of X G z0, PySem.W.mg_none_of X G z1, PySem.W.mg_none_of X G z2, PySem.W.mg_none_of X G z3, PySem.W.mg_none_of X G z4, PySem.W.mg_none_of X G z5, PySem.W.mg_none_of X G z6, PySem.W.mg_none_of X G z7, PySem.W.mg_none_of X G z8, PySem.W.mg_none_of X G z9, PySem.W.mg_none_of X G z10, PySem.W.mg_none_of X G z11, ⟨_, PySem.W.mg_of X G y_A, rfl⟩, ⟨_, PySem.W.mg_of X G y_W, rfl⟩, ⟨_, PySem.W.mg_of X G y_T, rfl⟩, ⟨_, PySem.W.mg_of X G a1, rfl⟩, ⟨_, PySem.W.mg_of X G a2, rfl⟩, ⟨_, PySem.W.mg_of X G a3, rfl⟩, fun H => .inr ⟨_, _, _, yl_W, rfl, rfl, by show 12 ≤ sizeLine; decide, .cons ⟨_, rfl⟩ (.cons ⟨_, rfl⟩ (.cons ⟨_, rfl⟩ (.cons ⟨_, rfl⟩ (.cons ⟨_, rfl⟩ (.cons ⟨_, rfl⟩ (.cons ⟨_, rfl⟩ (.cons ⟨_, rfl⟩ (.cons ⟨_, rfl⟩ (.cons ⟨_, rfl⟩ (.cons ⟨_, rfl⟩ (.cons ⟨_, rfl⟩ (.nil))))))))))))⟩, by rw [← s_0, ← s_1]; exact ⟨_, _, _, yl_T, yk_T, ye_T0, _, rfl⟩, by rw [← s_1, ← s_0]; exact ⟨_, _, _, yl_T, yk_T, ye_T1, _, rfl⟩, by rw [← s_x]; exact ⟨_, _, _, yl_T, yk_T, ye_Tx, _, rfl⟩⟩
  have F0 := fun_mk (st := s_read) l0 c0 k0
  have b0 := F0.binds (ps := ["value"]) fun _ _ _ _ _ _ us hl => match us, hl with | [_], _ => rfl
  have F1 := fun_mk (st := s_and_sign) l1 c1 k1
  have b1 := F1.binds (ps := ["one", "other"]) fun _ _ _ _ _ _ us hl => match us, hl with | [_, _], _ => rfl
  have F2 := fun_mk (st := s_or_sign) l2 c2 k2
  have b2 := F2.binds (ps := ["one", "other"]) fun _ _ _ _ _ _ us hl => match us, hl with | [_, _], _ => rfl
  have F3 := fun_mk (st := s_xor_sign) l3 c3 k3
  have b3 := F3.binds (ps := ["one", "other"]) fun _ _ _ _ _ _ us hl => match us, hl with | [_, _], _ => rfl
  have F4 := fun_mk (st := s_by_bits) l4 c4 k4
  have b4 := F4.binds (ps := ["rule", "one", "other"]) fun _ _ _ _ _ _ us hl => match us, hl with | [_, _, _], _ => rfl
  have F5 := fun_mk (st := s_not_value) l5 c5 k5
  have b5 := F5.binds (ps := ["value"]) fun _ _ _ _ _ _ us hl => match us, hl with | [_], _ => rfl
  have F6 := fun_mk (st := s_and_value) l6 c6 k6
  have b6 := F6.binds (ps := ["one", "other"]) fun _ _ _ _ _ _ us hl => match us, hl with | [_, _], _ => rfl
  have F7 := fun_mk (st := s_or_value) l7 c7 k7
  have b7 := F7.binds (ps := ["one", "other"]) fun _ _ _ _ _ _ us hl => match us, hl with | [_, _], _ => rfl
  have F8 := fun_mk (st := s_xor_value) l8 c8 k8
  have b8 := F8.binds (ps := ["one", "other"]) fun _ _ _ _ _ _ us hl => match us, hl with | [_, _], _ => rfl
  have F9 : FunD K "operated" "operated" (defArgs s_operated) (defBody s_operated) (defScope s_operated) [] [("high", .int 0), ("low", .int 0)] g9 (PySem.W.fnOf "operated" "operated" (defArgs s_operated) (defBody s_operated) (defScope s_operated) .none (.ref Dk9) dc9 pm9 an9 cd9 ct9) := ⟨⟨_, _, _, _, _, _, _, _, _, _, rfl, l9, c9, .inl ⟨rfl, rfl⟩, .inr ⟨Dk9, rfl, fun q hq => by
    simp only [List.mem_cons, List.not_mem_nil, or_false] at hq
    rcases hq with rfl | rfl
    · exact ⟨_, d9_0, _, rfl⟩
    · exact ⟨_, d9_1, _, rfl⟩
    ⟩⟩, k9⟩
  obtain ⟨ds9, v9_0, b9_0⟩ := F9.binds0 (ps := ["word", "values", "high", "low"]) 2 (by decide) rfl fun D doc pm an cdv ct us ks hu hk => match us, ks, hu, hk with | [_, _], [_, _], _, _ => ⟨_, _, _, _, _, _, rfl, rfl, ⟨_, _, _, _, _, _, rfl, rfl, rfl⟩⟩
  have F10 := fun_mk (st := s__law_at) l10 c10 k10
  have b10 := F10.binds (ps := ["_law_script", "_law_k"]) fun _ _ _ _ _ _ us hl => match us, hl with | [_, _], _ => rfl
  have F11 := fun_mk (st := s__law_pot) l11 c11 k11
  have b11 := F11.binds (ps := ["_law_script", "_law_k"]) fun _ _ _ _ _ _ us hl => match us, hl with | [_, _], _ => rfl
  have F12 := fun_mk (st := s__law_take) l12 c12 k12
  have b12 := F12.binds (ps := ["_law_pot_here", "_law_many"]) fun _ _ _ _ _ _ us hl => match us, hl with | [_, _], _ => rfl
  have F13 := fun_mk (st := s__law_value) l13 c13 k13
  have b13 := F13.binds (ps := ["_law_pot_here", "_law_width"]) fun _ _ _ _ _ _ us hl => match us, hl with | [_, _], _ => rfl
  have F14 := fun_mk (st := s__law_ways) l14 c14 k14
  have b14 := F14.binds (ps := ["_law_sign"]) fun _ _ _ _ _ _ us hl => match us, hl with | [_], _ => rfl
  have F15 := fun_mk (st := s__law_bit) l15 c15 k15
  have b15 := F15.binds (ps := ["_law_word", "_law_one", "_law_other"]) fun _ _ _ _ _ _ us hl => match us, hl with | [_, _, _], _ => rfl
  have F16 := fun_mk (st := s__law_right) l16 c16 k16
  have b16 := F16.binds (ps := ["_law_word", "_law_a", "_law_b"]) fun _ _ _ _ _ _ us hl => match us, hl with | [_, _, _], _ => rfl
  have F17 := fun_mk (st := s_law) l17 c17 k17
  refine ⟨PySem.W.fnOf "law" "law" (defArgs s_law) (defBody s_law) (defScope s_law) .none kV17 dc17 pm17 an17 cd17 ct17, fun s v => .of_eq rfl, fun base _ _ => ?_⟩
  have E0 : Df l.prog w K mg base CX0 "read" 1 g0 _ ["value"] (spRead) := ⟨ok_read F0 B  , PySem.W.mg_of X G a0, k0, b0⟩
  have E1 : Df l.prog w K mg base CX0 "and_sign" 1 qa _ ["one", "other"] (spSg andS) := ⟨ok_and_sign F1 B  , PySem.W.mg_of X G a1, k1, b1⟩
  have E2 : Df l.prog w K mg base CX0 "or_sign" 1 qo _ ["one", "other"] (spSg orS) := ⟨ok_or_sign F2 B  , PySem.W.mg_of X G a2, k2, b2⟩
  have E3 : Df l.prog w K mg base CX0 "xor_sign" 1 qx _ ["one", "other"] (spSg xorS) := ⟨ok_xor_sign F3 B  , PySem.W.mg_of X G a3, k3, b3⟩
  have E4 : Df l.prog w K mg base CX0 "by_bits" 2 g4 _ ["rule", "one", "other"] (spBits qa qo qx) := ⟨ok_by_bits F4 B  E1 E2 E3, PySem.W.mg_of X G a4, k4, b4⟩
  have E5 : Df l.prog w K mg base CX0 "not_value" 3 g5 _ ["value"] (spNot) := ⟨ok_not_value F5 B  , PySem.W.mg_of X G a5, k5, b5⟩
  have E6 : Df l.prog w K mg base CX0 "and_value" 3 g6 _ ["one", "other"] (spTwo 1) := ⟨ok_and_value F6 B  E4, PySem.W.mg_of X G a6, k6, b6⟩
  have E7 : Df l.prog w K mg base CX0 "or_value" 3 g7 _ ["one", "other"] (spTwo 2) := ⟨ok_or_value F7 B  E4, PySem.W.mg_of X G a7, k7, b7⟩
  have E8 : Df l.prog w K mg base CX0 "xor_value" 3 g8 _ ["one", "other"] (spTwo 3) := ⟨ok_xor_value F8 B  E4, PySem.W.mg_of X G a8, k8, b8⟩
  have E9 : DfD l.prog w K mg base CX0 "operated" 4 g9 _ ["word", "values", "high", "low"] (spOp K) := ⟨ok_operated F9 B ⟨_, _, _, yl_A, yk_A, ye_not, rfl⟩ ⟨_, _, _, yl_A, yk_A, ye_and, rfl⟩ ⟨_, _, _, yl_A, yk_A, ye_or, rfl⟩ ⟨_, _, _, yl_A, yk_A, ye_xor, rfl⟩ E0 E5 E6 E7 E8, PySem.W.mg_of X G a9, k9⟩
  have E10 : Df l.prog w K mg base CX0 "_law_at" 1 g10 _ ["_law_script", "_law_k"] (spAt K) := ⟨ok__law_at F10 B  , PySem.W.mg_of X G a10, k10, b10⟩
  have E11 : Df l.prog w K mg base CX0 "_law_pot" 2 g11 _ ["_law_script", "_law_k"] (spPot K) := ⟨ok__law_pot F11 B  E10, PySem.W.mg_of X G a11, k11, b11⟩
  have E12 : Df l.prog w K mg base CX0 "_law_take" 1 g12 _ ["_law_pot_here", "_law_many"] (spTake) := ⟨ok__law_take F12 B  , PySem.W.mg_of X G a12, k12, b12⟩
  have E13 : Df l.prog w K mg base CX0 "_law_value" 2 g13 _ ["_law_pot_here", "_law_width"] (spVal) := ⟨ok__law_value F13 B  E12, PySem.W.mg_of X G a13, k13, b13⟩
  have E14 : Df l.prog w K mg base CX0 "_law_ways" 1 g14 _ ["_law_sign"] (spWays) := ⟨ok__law_ways F14 B  , PySem.W.mg_of X G a14, k14, b14⟩
  have E15 : Df l.prog w K mg base CX0 "_law_bit" 2 g15 _ ["_law_word", "_law_one", "_law_other"] (spBit) := ⟨ok__law_bit F15 B  E14, PySem.W.mg_of X G a15, k15, b15⟩
  have E16 : Df l.prog w K mg base CX0 "_law_right" 5 g16 _ ["_law_word", "_law_a", "_law_b"] (spRight) := ⟨ok__law_right F16 B  E15 E9 b9_0 v9_0, PySem.W.mg_of X G a16, k16, b16⟩
  exact ok_law F17 B  E11 E12 E13 E16
end Dw
open PySem PySem.W PyProof.Rows
set_option maxHeartbeats 0 in
theorem PySem.Challenge.cw_deltawires_k15_whole_bits_by_all_filling_holds : PySem.Challenge.rw_deltawires_k15_whole_bits_by_all_filling.Holds := by
  w_on; o_law; k_head; (case hw => w_witness2)
  k_fill
  refine L2.walk_of (l := PySem.Challenge.rw_deltawires_k15_whole_bits_by_all_filling) (n := 63) (k := 6) (x := "_law_script") (CX := fun _ => L2.CX0) (sp := fun w => Dw.spLaw _) rfl (by decide) rfl ⟨rfl, by decide, by decide⟩ (fun w h Y => PySem.W.kIn_of Y) ?F (fun _ _ a ns hl _ hS => ⟨a, ns, rfl, hS, hl, fun _ => rfl⟩) (fun _ _ _ _ _ h => h)
  case F =>
    intro w mg fa h KX G hmg
    refine' Dw.all_mk KX G hmg ?a0 ?l0 ?c0 ?k0 ?a1 ?l1 ?c1 ?k1 ?a2 ?l2 ?c2 ?k2 ?a3 ?l3 ?c3 ?k3 ?a4 ?l4 ?c4 ?k4 ?a5 ?l5 ?c5 ?k5 ?a6 ?l6 ?c6 ?k6 ?a7 ?l7 ?c7 ?k7 ?a8 ?l8 ?c8 ?k8 ?a9 ?l9 ?c9 ?k9 ?d9_0 ?d9_1 ?a10 ?l10 ?c10 ?k10 ?a11 ?l11 ?c11 ?k11 ?a12 ?l12 ?c12 ?k12 ?a13 ?l13 ?c13 ?k13 ?a14 ?l14 ?c14 ?k14 ?a15 ?l15 ?c15 ?k15 ?a16 ?l16 ?c16 ?k16 ?a17 ?l17 ?c17 ?k17 ?z0 ?z1 ?z2 ?z3 ?z4 ?z5 ?z6 ?z7 ?z8 ?z9 ?z10 ?z11 ?y_A ?yl_A ?yk_A ?ye_not ?ye_and ?ye_or ?ye_xor ?y_T ?yl_T ?yk_T ?ye_T0 ?ye_T1 ?ye_Tx ?y_W ?yl_W
    (case a0 => k_is)
    (case l0 => k_is)
    (case c0 => k_is)
    (case k0 => k_is)
    (case a1 => k_is)
    (case l1 => k_is)
    (case c1 => k_is)
    (case k1 => k_is)
    (case a2 => k_is)
    (case l2 => k_is)
    (case c2 => k_is)
    (case k2 => k_is)
    (case a3 => k_is)
    (case l3 => k_is)
    (case c3 => k_is)
    (case k3 => k_is)
    (case a4 => k_is)
    (case l4 => k_is)
    (case c4 => k_is)
    (case k4 => k_is)
    (case a5 => k_is)
    (case l5 => k_is)
    (case c5 => k_is)
    (case k5 => k_is)
    (case a6 => k_is)
    (case l6 => k_is)
    (case c6 => k_is)
    (case k6 => k_is)
    (case a7 => k_is)
    (case l7 => k_is)
    (case c7 => k_is)
    (case k7 => k_is)
    (case a8 => k_is)
    (case l8 => k_is)
    (case c8 => k_is)
    (case k8 => k_is)
    (case a9 => k_is)
    (case l9 => k_is)
    (case c9 => k_is)
    (case k9 => k_is)
    (case d9_0 => k_is)
    (case d9_1 => k_is)
    (case a10 => k_is)
    (case l10 => k_is)
    (case c10 => k_is)
    (case k10 => k_is)
    (case a11 => k_is)
    (case l11 => k_is)
    (case c11 => k_is)
    (case k11 => k_is)
    (case a12 => k_is)
    (case l12 => k_is)
    (case c12 => k_is)
    (case k12 => k_is)
    (case a13 => k_is)
    (case l13 => k_is)
    (case c13 => k_is)
    (case k13 => k_is)
    (case a14 => k_is)
    (case l14 => k_is)
    (case c14 => k_is)
    (case k14 => k_is)
    (case a15 => k_is)
    (case l15 => k_is)
    (case c15 => k_is)
    (case k15 => k_is)
    (case a16 => k_is)
    (case l16 => k_is)
    (case c16 => k_is)
    (case k16 => k_is)
    (case a17 => k_is)
    (case l17 => k_is)
    (case c17 => k_is)
    (case k17 => k_is)
    (case z0 => k_is)
    (case z1 => k_is)
    (case z2 => k_is)
    (case z3 => k_is)
    (case z4 => k_is)
    (case z5 => k_is)
    (case z6 => k_is)
    (case z7 => k_is)
    (case z8 => k_is)
    (case z9 => k_is)
    (case z10 => k_is)
    (case z11 => k_is)
    (case y_A => k_is)
    (case yl_A => k_is)
    (case yk_A => k_keys)
    (case ye_not => k_is)
    (case ye_and => k_is)
    (case ye_or => k_is)
    (case ye_xor => k_is)
    (case y_T => k_is)
    (case yl_T => k_is)
    (case yk_T => k_keys)
    (case ye_T0 => k_is)
    (case ye_T1 => k_is)
    (case ye_Tx => k_is)
    (case y_W => k_is)
    (case yl_W => k_is)
