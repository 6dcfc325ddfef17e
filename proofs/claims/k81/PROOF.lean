import PyProof.Rows.All
import Wide.All
import OpenK.AllK
import Wide.FinOn
import HandS.ForMost
import HandS.Evl
import HandS.Walk
import HandS.Steps
import HandS.IsInst
import HandS.Defaults
import HandS.More
import HandS.ReplaceLit
import HandS.ReplaceDef
import HandS.ReplaceList
import HandS.Star
import HandS.CallLocal
import HandS.Style
import KE.GoesNew
import PyProof.Rows.SortShellAny
import HandS.Strs
import HandS.SetFor
import KE.KTupSum
import KE.OsArith
import HandS.WideBits
import HandS.Ends
import HandS.Words
import HandS.List
import PyProof.ReprRoads
import PyProof.StrLawsRepr
import PyProof.FitsInt
import PySem.Challenge.RW_deltawires_k81_waves_judged
set_option Elab.async false
set_option linter.all false
set_option maxRecDepth 100000
namespace Dw
open PySem L2 Evl
/-! ### general words -/
def GlV (mg : Str → Option Value) (x : Str) (v : V) : Prop := ∃ u, mg x = some u ∧ RelV v u
theorem pgl {X : Cx} {x : Str} {v : V} {pos : Pos} (hg : Gl X x) (h : GlV X.mg x v) (hd : (x == ("__debug__" : Str)) = false := by decide) : PE X (.Name x pos) (tC v) :=
  let ⟨_, a, b⟩ := h
  pe_glob hg a b hd
/-- a def as callers know it -/
structure Df (P : Program) (w : World) (K : PySem.W.Frag) (mg : Str → Option Value) (base : Heap) (CX : CXT) (x : Str) (k : Nat) (f : Addr) (fd : FuncData) (ps : List Str) (sp : Sp) : Prop where
  ok : FnOk P w K mg base CX k f fd ps sp
  g : mg x = some (.ref f)
  kp : PySem.W.keepIn K (.ref f) = true
  b : Binds K fd ps []
/-- all but what stands at p is as it was -/
def ExB (p : Addr) (H H' : Hp) : Prop := ∀ b o, b ≠ p → H b = some o → H' b = some o
theorem ExB.refl (p : Addr) (H : Hp) : ExB p H H := fun _ _ _ h => h
theorem ExB.trans {p : Addr} {H H1 H2 : Hp} (a : ExB p H H1) (b : ExB p H1 H2) : ExB p H H2 := fun c o n h => b c o n (a c o n h)
theorem ExB.of {p : Addr} {H H' : Hp} (e : Ex H H') : ExB p H H' := fun b o _ h => e b o h
theorem ExB.upd {p : Addr} {H H' : Hp} {o : HO} (e : ExB p H H') : ExB p H (upd H' p o) := fun b u n h => by
  rw [upd_ne n]
  exact e b u n h
theorem ExB.back {p : Addr} {H0 H H' : Hp} (e0 : Ex H0 H) (hp : H0 p = none) (e : ExB p H H') : Ex H0 H' := fun b o h => e b o (ne_of_none h hp) (e0 b o h)
theorem ExB.rd {p a : Addr} {H H' : Hp} {u : HO} (e : ExB p H H') (n : a ≠ p) (h : Rd H a u) : Rd H' a u := by
  rcases h with h | ⟨o, h⟩
  · exact Or.inl (e a _ n h)
  · exact Or.inr ⟨o, e a _ n h⟩
theorem ExB.sq {K : PySem.W.Frag} {p a : Addr} {xs : List V} {H H' : Hp} (e : ExB p H H') (n : a ≠ p) (h : SqL K H a xs) : SqL K H' a xs := by
  rcases h with h | h
  · exact Or.inl (e.rd n h)
  · exact Or.inr h
/-- the pot: two numbers, of which take draws -/
def PotAt (H : Hp) (p : Addr) : Prop := ∃ x y : Int, H p = some (.lst [.int x, .int y]) ∧ 0 ≤ x ∧ 0 ≤ y ∧ y < 2147483647
theorem PotAt.ex {H H' : Hp} {p : Addr} (h : PotAt H p) (e : Ex H H') : PotAt H' p := by
  obtain ⟨x, y, h1, h2⟩ := h
  exact ⟨x, y, e _ _ h1, h2⟩
def spAt (K : PySem.W.Frag) : Sp := fun vs H Q _ => ∃ (a : Addr) (ns : List Int) (k : Int), vs = [.ref a, .int k] ∧ SqL K H a (ns.map V.int) ∧ 0 ≤ k ∧ ∀ c : Int, Q (.int c) H
def spPot (K : PySem.W.Frag) : Sp := fun vs H Q _ => ∃ (a : Addr) (ns : List Int) (k : Int), vs = [.ref a, .int k] ∧ SqL K H a (ns.map V.int) ∧ 0 ≤ k ∧ k ≤ 1000 ∧ ∀ (p : Addr) (H' : Hp), H p = none → Ex H H' → PotAt H' p → Q (.ref p) H'
def spTake : Sp := fun vs H Q _ => ∃ (p : Addr) (m : Int), vs = [.ref p, .int m] ∧ PotAt H p ∧ 0 < m ∧ m < 1073741824 ∧ ∀ (H' : Hp) (d : Int), ExB p H H' → PotAt H' p → 0 ≤ d → d < m → Q (.int d) H'
theorem at_map {ns : List Int} {k : Int} (h0 : 0 ≤ k) (h1 : k < ((ns.map V.int).length : Int)) : ∃ c : Int, atI (ns.map V.int) k = some (.int c) := by
  obtain ⟨j, rfl⟩ := Int.eq_ofNat_of_zero_le h0
  have h2 : j < ns.length := by
    rw [List.length_map] at h1
    omega
  refine ⟨ns[j], atI_nat ?_⟩
  rw [List.getElem?_map, List.getElem?_eq_getElem h2]
  rfl
/-! ### texts by their codes -/
abbrev Tx (l : List Nat) : Str := ⟨l.toArray⟩
theorem Tx_len (l : List Nat) : (Tx l).length = l.length := by simp [Tx, Str.length]
theorem Tx_tl (x : Str) : Tx x.cps.toList = x := TL.mk_tl x
theorem Tx_inj {a b : List Nat} (h : Tx a = Tx b) : a = b := congrArg (fun x : Str => x.cps.toList) h
theorem Tx_cat (a b : List Nat) : Tx a ++ Tx b = Tx (a ++ b) := TL.ext_tl (TL.tl_append (Tx a) (Tx b))
theorem joinL_ones : ∀ l : List Nat, TL.joinL [] (l.map fun c => [c]) = l
  | [] => rfl
  | [_] => rfl
  | c :: d :: r => by
    show [c] ++ ([] ++ TL.joinL [] ((d :: r).map fun c => [c])) = c :: d :: r
    rw [joinL_ones (d :: r)]
    rfl
theorem tl_empty : TL.tl (Str.ofString "") = [] := by decide +kernel
theorem join_ones (l : List Nat) : Txt.join (Str.ofString "") (l.map fun c => Tx [c]) = Tx l := by
  refine TL.ext_tl ?_
  rw [TL.join_eq, TL.tl_join, tl_empty, List.map_map]
  show TL.joinL [] (l.map fun c => [c]) = l
  exact joinL_ones l
theorem ones_len (l : List Nat) : ((l.map fun c => Tx [c]).map (·.length)).sum + (l.map fun c => Tx [c]).length * (Str.ofString "").length = l.length := by
  have e : (Str.ofString "").length = 0 := by decide +kernel
  rw [e, Nat.mul_zero, Nat.add_zero]
  induction l with
  | nil => rfl
  | cons c l ih =>
    rw [List.map_cons, List.map_cons, List.sum_cons, ih, Tx_len]
    simp
    omega
theorem map_strs (l : List Nat) : (l.map fun c => Tx [c]).map V.str = l.map fun c => V.str (Tx [c]) := by
  rw [List.map_map]
  rfl
/-! ### comprehensions by lists -/
theorem range_getD {α : Type} (l : List α) (d : α) : (List.range l.length).map (fun i => l.getD i d) = l := by
  apply List.ext_getElem
  · simp
  · intro i h1 h2
    simp at h1
    simp [h1]
theorem given_list {α : Type} (l : List α) (d : α) (p : α → Bool) (g : α → V) : given l.length (fun i => p (l.getD i d)) (fun i => g (l.getD i d)) = (l.filter p).map g := by
  unfold given
  have e : l.filter p = ((List.range l.length).map (fun i => l.getD i d)).filter p := by rw [range_getD]
  rw [e, List.filter_map, List.map_map]
  rfl
theorem given_all {α : Type} (l : List α) (d : α) (g : α → V) : given l.length (fun _ => true) (fun i => g (l.getD i d)) = l.map g := by
  have e := given_list l d (fun _ => true) g
  rw [List.filter_eq_self.mpr (fun _ _ => rfl)] at e
  exact e
section
variable {K : PySem.W.Frag} {σ : L2.St} {H H' : Hp} {ta tb te tx tl : TE} {t u : TT} {x y z v : V}
theorem el_lcS {z : Str} {j : Nat} {vs : List Nat} (f : Nat → Bool) (v : Nat → V) (h : Ev tl σ H (.str z)) (hz : z.cps.size ≤ 40000) (hw : ∀ x, wipe ((wipe σ vs).set j (some x)) vs = wipe σ vs)
    (ht : ∀ (i : Nat) (c : Nat) H1, Ex H H1 → z.cps[i]? = some c → EvT t ((wipe σ vs).set j (some (.str ⟨#[c]⟩))) H1 (f i)) (he : ∀ (i : Nat) (c : Nat) H1, Ex H H1 → z.cps[i]? = some c → f i = true → Ev te ((wipe σ vs).set j (some (.str ⟨#[c]⟩))) H1 (v i)) :
    EvL (tLc (iStr tl) (gName j) t te vs) σ H (given z.cps.size f v) := fun H0 e Q q => h H0 e _ fun H1 e1 => ⟨z, rfl, fun Dl hD =>
  lc_it walk_str (Cw H1 f v Dl) ⟨hD, Ex.new hD, upd_same⟩ (fun _ _ _ _ => True.intro) (fun i x H2 H3 hi p y => by
    obtain ⟨rfl, c, hc, rfl⟩ := y
    exact ⟨hw _, cw_turn p (by omega) (ht i c H1 (e.trans e1) hc) (fun hf => he i c H1 (e.trans e1) hc hf)⟩)
    (fun H' p => q Dl H' (fresh_back e1 p.1) (e1.trans p.2.1) p.2.2)⟩
/-- over a text: p tells which codes, g what of each -/
theorem el_lcT {l : List Nat} {j : Nat} {vs : List Nat} (p : Nat → Bool) (g : Nat → V) (h : Ev tl σ H (.str (Tx l))) (hz : l.length ≤ 40000) (hw : ∀ x, wipe ((wipe σ vs).set j (some x)) vs = wipe σ vs)
    (ht : ∀ (c : Nat) H1, Ex H H1 → c ∈ l → EvT t ((wipe σ vs).set j (some (.str (Tx [c])))) H1 (p c)) (he : ∀ (c : Nat) H1, Ex H H1 → c ∈ l → p c = true → Ev te ((wipe σ vs).set j (some (.str (Tx [c])))) H1 (g c)) :
    EvL (tLc (iStr tl) (gName j) t te vs) σ H ((l.filter p).map g) := by
  have hs : (Tx l).cps.size = l.length := Tx_len l
  have key : ∀ (i c : Nat), (Tx l).cps[i]? = some c → l.getD i 0 = c ∧ c ∈ l := fun i c hc => by
    have h1 : l[i]? = some c := by
      rw [← hc]
      simp [Tx]
    exact ⟨by rw [List.getD_eq_getElem?_getD, h1]; rfl, List.mem_of_getElem? h1⟩
  rw [← given_list l 0 p g, ← hs]
  refine el_lcS (fun i => p (l.getD i 0)) (fun i => g (l.getD i 0)) h (by omega) hw (fun i c H1 e hc => ?_) (fun i c H1 e hc hf => ?_)
  · obtain ⟨e1, e2⟩ := key i c hc
    simp only [e1]
    exact ht c H1 e e2
  · obtain ⟨e1, e2⟩ := key i c hc
    simp only [e1] at hf ⊢
    exact he c H1 e e2 hf
theorem et_yes : EvT tYes σ H true := fun H1 _ _ q => q H1 (Ex.refl H1)
theorem ev_cbL {r : List V → Hp → VK → Prop} {xs : List V} (h : EvL te σ H xs) (hr : ∀ p H1, H1 p = some (.lst xs) → Ex H H1 → RC r [.ref p] H1 z) : Ev (tCB r (tCons te tNil)) σ H z := fun H1 e Q q =>
  h H1 e _ fun p H2 _ e2 h2 => hr p H2 h2 (e.trans e2) H2 (Ex.refl _) Q fun H3 e3 => q H3 (e2.trans e3)
theorem ev_all {bs : List Bool} (h : EvL te σ H (bs.map V.bl)) : Ev (tCB (rAll K) (tCons te tNil)) σ H (.bl (bs.all id)) :=
  ev_cbL h fun p _ hp _ H2 e2 _ q => ⟨p, bs, rfl, sq_of (e2 p _ hp), q H2 (Ex.refl _)⟩
def rJoinS (K : PySem.W.Frag) : V → List V → Hp → VK → Prop := fun x xs H Q => ∃ a p, ∃ ys : List Str, x = .str a ∧ xs = [.ref p] ∧ (SqL K H p (ys.map V.str) ∨ SqT K H p (ys.map V.str)) ∧
      (ys.map (·.length)).sum + ys.length * a.length ≤ 16777216 ∧ Q (.str (Txt.join a ys)) H
/-- ''.join of a new list of signs -/
theorem ev_join1 {l : List Nat} (h : EvL te σ H (l.map fun c => V.str (Tx [c]))) (hz : l.length ≤ 40000) : Ev (tM1 (rJoinS K) (tC (.str (Str.ofString ""))) te) σ H (.str (Tx l)) := fun H1 e Q q =>
  ⟨⟨_, rfl⟩, h H1 e _ fun p H2 _ e2 h2 => ⟨Str.ofString "", p, l.map fun c => Tx [c], rfl, rfl, Or.inl (sq_of (by rw [map_strs]; exact h2)), by rw [ones_len]; omega, by rw [join_ones]; exact q H2 e2⟩⟩
theorem ev_inS {c : Nat} {w : Str} (ha : Ev ta σ H (.str (Tx [c]))) (hb : Ev tb σ H (.str w)) : Ev (tOp rInS ta tb) σ H (.bl (decide (c ∈ w.cps.toList))) :=
  ev_op ha hb fun H1 _ _ q => ⟨c, w, rfl, rfl, q H1 (Ex.refl _)⟩
theorem ev_notInS {c : Nat} {w : Str} (ha : Ev ta σ H (.str (Tx [c]))) (hb : Ev tb σ H (.str w)) : Ev (tOp rNotInS ta tb) σ H (.bl (!decide (c ∈ w.cps.toList))) :=
  ev_op ha hb fun H1 _ _ q => ⟨c, w, rfl, rfl, q H1 (Ex.refl _)⟩
def rLenT : List V → Hp → VK → Prop := fun xs H Q => ∃ z, xs = [.str z] ∧ z.length ≤ sizeLine ∧ Q (.int z.length) H
theorem ev_lenT {l : List Nat} (ha : Ev ta σ H (.str (Tx l))) (hz : l.length ≤ 40000) : Ev (tCB rLenT (tCons ta tNil)) σ H (.int (l.length : Int)) := fun H1 e Q q =>
  ha H1 e _ fun H2 e2 => ⟨Tx l, rfl, sz_of (by rw [Tx_len]; omega), by rw [Tx_len]; exact q H2 e2⟩
end
/-! ### lists of texts and of numbers compared -/
theorem dpAll_strs {K : PySem.W.Frag} {H : Hp} : ∀ xs : List Str, DpAll K H (xs.map V.str) (xs.map PyData.str)
  | [] => .nil
  | x :: xs => .cons (.str x) (dpAll_strs xs)
theorem dpAll_ints {K : PySem.W.Frag} {H : Hp} : ∀ xs : List Int, DpAll K H (xs.map V.int) (xs.map PyData.int)
  | [] => .nil
  | x :: xs => .cons (.int x) (dpAll_ints xs)
theorem dpAll_bls {K : PySem.W.Frag} {H : Hp} : ∀ xs : List Bool, DpAll K H (xs.map V.bl) (xs.map PyData.bool)
  | [] => .nil
  | x :: xs => .cons (.bl x) (dpAll_bls xs)
theorem eqvAll_strs : ∀ xs ys : List Str, PyData.eqvAll (xs.map PyData.str) (ys.map PyData.str) = decide (xs = ys)
  | [], [] => by simp [PyData.eqvAll]
  | [], y :: ys => by simp [PyData.eqvAll]
  | x :: xs, [] => by simp [PyData.eqvAll]
  | x :: xs, y :: ys => by
    have ih := eqvAll_strs xs ys
    simp only [List.map_cons, PyData.eqvAll, PyData.eqv, ih]
    rw [Bool.eq_iff_iff]
    simp
theorem eqvAll_ints : ∀ xs ys : List Int, PyData.eqvAll (xs.map PyData.int) (ys.map PyData.int) = decide (xs = ys)
  | [], [] => by simp [PyData.eqvAll]
  | [], y :: ys => by simp [PyData.eqvAll]
  | x :: xs, [] => by simp [PyData.eqvAll]
  | x :: xs, y :: ys => by
    have ih := eqvAll_ints xs ys
    simp only [List.map_cons, PyData.eqvAll, PyData.eqv, ih]
    rw [Bool.eq_iff_iff]
    simp
theorem eqvAll_bls : ∀ xs ys : List Bool, PyData.eqvAll (xs.map PyData.bool) (ys.map PyData.bool) = decide (xs = ys)
  | [], [] => by simp [PyData.eqvAll]
  | [], y :: ys => by simp [PyData.eqvAll]
  | x :: xs, [] => by simp [PyData.eqvAll]
  | x :: xs, y :: ys => by
    have ih := eqvAll_bls xs ys
    simp only [List.map_cons, PyData.eqvAll, PyData.eqv, ih]
    rw [Bool.eq_iff_iff]
    simp
def LowS (x : Str) : Prop := PyData.canLay0 (.str x) = true
theorem lay_strs : ∀ {xs : List Str}, (∀ x ∈ xs, LowS x) → PyData.canLayAll0 (xs.map PyData.str) = true
  | [], _ => by simp [PyData.canLayAll0]
  | x :: xs, h => by
    rw [List.map_cons, PyData.canLayAll0, h x (List.mem_cons_self ..), lay_strs fun y hy => h y (List.mem_cons_of_mem _ hy)]
    rfl
theorem lay_ints : ∀ xs : List Int, PyData.canLayAll0 (xs.map PyData.int) = true
  | [] => by simp [PyData.canLayAll0]
  | x :: xs => by
    rw [List.map_cons, PyData.canLayAll0, lay_ints xs]
    simp [PyData.canLay0]
theorem lay_bls : ∀ xs : List Bool, PyData.canLayAll0 (xs.map PyData.bool) = true
  | [] => by simp [PyData.canLayAll0]
  | x :: xs => by
    rw [List.map_cons, PyData.canLayAll0, lay_bls xs]
    simp [PyData.canLay0]
theorem deep_strs : ∀ xs : List Str, PyData.depthAll (xs.map PyData.str) = 0
  | [] => by simp [PyData.depthAll]
  | x :: xs => by
    rw [List.map_cons, PyData.depthAll, deep_strs xs]
    simp [PyData.depth]
theorem deep_ints : ∀ xs : List Int, PyData.depthAll (xs.map PyData.int) = 0
  | [] => by simp [PyData.depthAll]
  | x :: xs => by
    rw [List.map_cons, PyData.depthAll, deep_ints xs]
    simp [PyData.depth]
theorem deep_bls : ∀ xs : List Bool, PyData.depthAll (xs.map PyData.bool) = 0
  | [] => by simp [PyData.depthAll]
  | x :: xs => by
    rw [List.map_cons, PyData.depthAll, deep_bls xs]
    simp [PyData.depth]
theorem shaped_strs {xs : List Str} (h : ∀ x ∈ xs, LowS x) : SeqAt.shaped (.list (xs.map PyData.str)) = true := by
  unfold SeqAt.shaped
  rw [PyData.canLay0, lay_strs h, PyData.depth, deep_strs]
  rfl
theorem shaped_ints (xs : List Int) : SeqAt.shaped (.list (xs.map PyData.int)) = true := by
  unfold SeqAt.shaped
  rw [PyData.canLay0, lay_ints, PyData.depth, deep_ints]
  rfl
theorem shaped_bls (xs : List Bool) : SeqAt.shaped (.list (xs.map PyData.bool)) = true := by
  unfold SeqAt.shaped
  rw [PyData.canLay0, lay_bls, PyData.depth, deep_bls]
  rfl
theorem low_Tx {l : List Nat} (h : ∀ c ∈ l, c < 128) : LowS (Tx l) := by
  unfold LowS
  rw [PyData.canLay0]
  unfold PyData.strOk
  first
    | (simp only [Tx, List.all_toArray, List.all_eq_true]; intro c hc; have := h c hc; simp; omega)
    | (simp [Tx]; intro c hc; have := h c hc; omega)
section
variable {K : PySem.W.Frag} {H : Hp}
theorem rv_eqStrs {p q : Addr} {xs ys : List Str} (h1 : SqL K H p (xs.map V.str)) (h2 : SqL K H q (ys.map V.str)) (l1 : ∀ x ∈ xs, LowS x) (l2 : ∀ x ∈ ys, LowS x) : RV (rEqD K) (.ref p) (.ref q) H (.bl (decide (xs = ys))) := fun H1 e Q k =>
  ⟨_, _, .lst (ex_l e h1) (dpAll_strs xs), .lst (ex_l e h2) (dpAll_strs ys), shaped_strs l1, shaped_strs l2, by rw [PyData.eqv, eqvAll_strs]; exact k H1 (Ex.refl _)⟩
theorem rv_neStrs {p q : Addr} {xs ys : List Str} (h1 : SqL K H p (xs.map V.str)) (h2 : SqL K H q (ys.map V.str)) (l1 : ∀ x ∈ xs, LowS x) (l2 : ∀ x ∈ ys, LowS x) : RV (rNeD K) (.ref p) (.ref q) H (.bl (!decide (xs = ys))) := fun H1 e Q k =>
  ⟨_, _, .lst (ex_l e h1) (dpAll_strs xs), .lst (ex_l e h2) (dpAll_strs ys), shaped_strs l1, shaped_strs l2, by rw [PyData.eqv, eqvAll_strs]; exact k H1 (Ex.refl _)⟩
theorem rv_eqInts {p q : Addr} {xs ys : List Int} (h1 : SqL K H p (xs.map V.int)) (h2 : SqL K H q (ys.map V.int)) : RV (rEqD K) (.ref p) (.ref q) H (.bl (decide (xs = ys))) := fun H1 e Q k =>
  ⟨_, _, .lst (ex_l e h1) (dpAll_ints xs), .lst (ex_l e h2) (dpAll_ints ys), shaped_ints xs, shaped_ints ys, by rw [PyData.eqv, eqvAll_ints]; exact k H1 (Ex.refl _)⟩
theorem rv_neBls {p q : Addr} {xs ys : List Bool} (h1 : SqL K H p (xs.map V.bl)) (h2 : SqL K H q (ys.map V.bl)) : RV (rNeD K) (.ref p) (.ref q) H (.bl (!decide (xs = ys))) := fun H1 e Q k =>
  ⟨_, _, .lst (ex_l e h1) (dpAll_bls xs), .lst (ex_l e h2) (dpAll_bls ys), shaped_bls xs, shaped_bls ys, by rw [PyData.eqv, eqvAll_bls]; exact k H1 (Ex.refl _)⟩
theorem rv_eqBls {p q : Addr} {xs ys : List Bool} (h1 : SqL K H p (xs.map V.bl)) (h2 : SqL K H q (ys.map V.bl)) : RV (rEqD K) (.ref p) (.ref q) H (.bl (decide (xs = ys))) := fun H1 e Q k =>
  ⟨_, _, .lst (ex_l e h1) (dpAll_bls xs), .lst (ex_l e h2) (dpAll_bls ys), shaped_bls xs, shaped_bls ys, by rw [PyData.eqv, eqvAll_bls]; exact k H1 (Ex.refl _)⟩
end
section
variable {K : PySem.W.Frag} {σ : L2.St} {H H' : Hp} {ta tb tc te tx tl : TE} {t u : TT} {x y z v : V}
theorem ev_chain {r r' : R2} {w' : V} {k k2 : Bool} (ha : Ev ta σ H x) (hb : Ev tb σ H y) (h1 : RV r x y H (.bl k)) (h2 : k = true → Ev tc σ H w' ∧ RV r' y w' H (.bl k2)) : Ev (tChain r r' ta tb tc) σ H (.bl (k && k2)) := fun H1 e Q q =>
  ha H1 e _ fun H2 e2 => hb H2 (e.trans e2) _ fun H3 e3 => h1 H3 ((e.trans e2).trans e3) _ fun H4 e4 => ⟨k, rfl, by
    cases k with
    | true =>
      obtain ⟨hc, h3⟩ := h2 rfl
      show tc σ H4 fun w' H4 => r' y w' H4 Q
      exact hc H4 (((e.trans e2).trans e3).trans e4) _ fun H5 e5 => h3 H5 ((((e.trans e2).trans e3).trans e4).trans e5) Q fun H6 e6 => q H6 ((((e2.trans e3).trans e4).trans e5).trans e6)
    | false =>
      show Q (.bl false) H4
      exact q H4 ((e2.trans e3).trans e4)⟩
theorem ev_isi {T : String} {b : Bool} (ha : Ev ta σ H v) (hb : Ev tb σ H (.ty T)) (ty : ∀ H1, Ex H H1 → ∃ t, TyX K H1 v (.type t) ∧ kitB t T = some b) : Ev (tCB (rIsi K) (tCons ta (tCons tb tNil))) σ H (.bl b) := fun H1 e Q q =>
  ha H1 e _ fun H2 e2 => hb H2 (e.trans e2) _ fun H3 e3 => by
    obtain ⟨t, h1, h2⟩ := ty H3 ((e.trans e2).trans e3)
    exact ⟨v, .ty T, .type t, .type T, b, rfl, .ty T, h1, kit_ty h2, q H3 (e2.trans e3)⟩
theorem ev_eqS {r : R2} (ha : Ev ta σ H x) (hb : Ev tb σ H y) (h : RV r x y H z) : Ev (tOp r ta tb) σ H z := ev_op ha hb h
end
theorem op_mulS {X : Cx} : OpR X (binaryOp .Mult) (fun x y H Q => ∃ a i, x = .str a ∧ y = .int i ∧ MulOk a i ∧ Q (.str (Txt.mul a i)) H) := by
  intro pins s σ H x y v u Q I rx ry h
  obtain ⟨a, i, rfl, rfl, hm, q⟩ := h
  obtain ⟨t, rfl⟩ := rx
  obtain ⟨t', rfl⟩ := ry
  exact SB.mul hm fun t' k => ⟨.str (Txt.mul a i), H, I.tok _, ⟨_, rfl⟩, q⟩
structure DfD (P : Program) (w : World) (K : PySem.W.Frag) (mg : Str → Option Value) (base : Heap) (CX : CXT) (x : Str) (k : Nat) (f : Addr) (fd : FuncData) (ps : List Str) (sp : Sp) : Prop where
  ok : FnOk P w K mg base CX k f fd ps sp
  g : mg x = some (.ref f)
  kp : PySem.W.keepIn K (.ref f) = true
section
variable {K : PySem.W.Frag} {σ : L2.St} {H H' : Hp} {ta tb tc te tx tl : TE} {t u : TT} {x y z v : V}
theorem el_lcT1 {l : List Nat} {j : Nat} {vs : List Nat} (g : Nat → V) (h : Ev tl σ H (.str (Tx l))) (hz : l.length ≤ 40000) (hw : ∀ x, wipe ((wipe σ vs).set j (some x)) vs = wipe σ vs)
    (he : ∀ (c : Nat) H1, Ex H H1 → c ∈ l → Ev te ((wipe σ vs).set j (some (.str (Tx [c])))) H1 (g c)) :
    EvL (tLc (iStr tl) (gName j) tYes te vs) σ H (l.map g) := by
  have e := el_lcT (fun _ => true) g h hz hw (fun c H1 _ _ => et_yes) (fun c H1 e hc _ => he c H1 e hc)
  rw [List.filter_eq_self.mpr (fun _ _ => rfl)] at e
  exact e
theorem ev_callN {sp : Sp} {n m : Nat} {gV : List V → List V → List V} {E : XK} {tA tK : TA} {vs zs : List V} (h : EvA tA σ H vs) (hk : EvA tK σ H zs) (l1 : vs.length = n) (l2 : zs.length = m) (hs : SpV sp (gV vs zs) H z) : Ev (tCallN n m sp gV E tA tK) σ H z := fun H1 e Q q =>
  h H1 e _ fun H2 e2 => hk H2 (e.trans e2) _ fun H3 e3 => ⟨l1, l2, hs H3 ((e.trans e2).trans e3) Q (fun H4 e4 => q H4 ((e2.trans e3).trans e4)) E⟩
end
theorem ExB.mut {p D : Addr} {H H' : Hp} {o : HO} (e : ExB p H H') (h : H D = none) : ExB p H (L2.upd H' D o) := fun b u n hb => by
  rw [upd_ne (ne_of_none hb h)]
  exact e b u n hb
theorem PotAt.upd {H : Hp} {p D : Addr} {o : HO} (h : PotAt H p) (n : D ≠ p) : PotAt (L2.upd H D o) p := by
  obtain ⟨x, y, h1, h2⟩ := h
  exact ⟨x, y, (upd_ne n.symm).trans h1, h2⟩
theorem PotAt.ne {H : Hp} {p D : Addr} (h : PotAt H p) (n : H D = none) : D ≠ p := fun z => by
  obtain ⟨x, y, h1, _⟩ := h
  rw [z, h1] at n
  cases n
theorem at_sign {l : List Nat} {d : Int} (h0 : 0 ≤ d) (h1 : d < (l.length : Int)) : ∃ c, atI (Tx l).cps.toList d = some c ∧ c ∈ l := by
  obtain ⟨j, rfl⟩ := Int.eq_ofNat_of_zero_le h0
  have h2 : j < l.length := by omega
  refine ⟨l[j], atI_nat ?_, List.getElem_mem h2⟩
  show l[j]? = some l[j]
  exact List.getElem?_eq_getElem h2
def sgn : List Nat := [48, 49, 120, 122]
theorem e_sgn : (Str.ofString "01xz").cps.toList = sgn := by decide +kernel
/-! ### zip of two texts -/
def Itzs (x y : Str) : It := ⟨fun i _ => i < min x.cps.size y.cps.size,
  fun i H v H' => ∃ T c d, v = .ref T ∧ H T = none ∧ H' = upd H T (.tup [.str ⟨#[c]⟩, .str ⟨#[d]⟩]) ∧ x.cps[i]? = some c ∧ y.cps[i]? = some d,
  fun i _ => i = min x.cps.size y.cps.size⟩
theorem turn_zipS {P : Program} {w : World} {K : PySem.W.Frag} {elts : List Expr} {kk : Nat} {tpos : Pos} {z TI TO j1 j2 : Addr} {x y : Str} {t u : Tok} (D : ZipSep2 z TI TO j1 j2 [j1] [j2]) :
    Turn P w K (.Tuple elts kk tpos) (Itzs x y) [z, TI, TO, j1, j2] z (fun i h => IsZip h z TI TO .none ∧ IsTupOf2 h TI (.ref j1) (.ref j2) ∧ (∃ a1 a2, IsTupOf2 h TO a1 a2) ∧ h.IsStrIter j1 (strIterType x) x t i ∧ h.IsStrIter j2 (strIterType y) y u i) where
  mem := by simp
  obj := fun i h st c hc => by
    obtain ⟨hz, h1, ⟨a1, a2, h2⟩, ⟨o1, e1, _, d1⟩, ⟨o2, e2, _, d2⟩⟩ := st
    simp only [List.mem_cons, List.not_mem_nil, or_false] at hc
    rcases hc with rfl | rfl | rfl | rfl | rfl
    · exact ⟨_, hz, fun v q => nomatch q⟩
    · exact ⟨_, h1, fun v q => nomatch q⟩
    · exact ⟨_, h2, fun v q => nomatch q⟩
    · exact ⟨o1, e1, fun v q => by rw [d1] at q; cases q⟩
    · exact ⟨o2, e2, fun v q => by rw [d2] at q; cases q⟩
  keep := fun i h h' st k => by
    obtain ⟨hz, h1, ⟨a1, a2, h2⟩, ⟨o1, e1, r1⟩, ⟨o2, e2, r2⟩⟩ := st
    exact ⟨k z (by simp) _ hz, k TI (by simp) _ h1, ⟨a1, a2, k TO (by simp) _ h2⟩, ⟨o1, k j1 (by simp) _ e1, r1⟩, ⟨o2, k j2 (by simp) _ e2, r2⟩⟩
  item := by
    intro X hP hw hK hc i pins s σ H E I hf st hg
    subst hP hw hK
    have hh : X.A.handled = none := I.ok.hd hc
    have W := GoesN.zip2 (elts := elts) (x1 := kk) (pos := tpos) (A := X.A) D (Draws.text (prog := X.prog) (w := X.w) (A := X.A.in1) hh j1 x t) (Draws.text (prog := X.prog) (w := X.w) (A := X.A.in1) hh j2 y u)
    refine wpAny_mono (W.goes i s (fun v s2 => ∃ x' H', Inv X pins σ H' s2 ∧ RelV x' v ∧ (Itzs x y).yld i H x' H' ∧ (IsZip s2.heap z TI TO .none ∧ IsTupOf2 s2.heap TI (.ref j1) (.ref j2) ∧ (∃ a1 a2, IsTupOf2 s2.heap TO a1 a2) ∧ s2.heap.IsStrIter j1 (strIterType x) x t (i + 1) ∧ s2.heap.IsStrIter j2 (strIterType y) y u (i + 1)) ∧ ∀ b ∈ [z, TI, TO, j1, j2], H' b = none) E hg st fun v h' tk hY st' hk _ => ?_) (fun r s1 q => q) fun _ _ e => e
    obtain ⟨T, xv, yv, rfl, hn, ⟨c, u1, hc1, rfl⟩, ⟨d, u2, hc2, rfl⟩, hT⟩ := hY
    obtain ⟨o, ho, hcl, n, hd⟩ := hT
    have new : ObjOk X.prog X.w (upd H T (.tup [.str ⟨#[c]⟩, .str ⟨#[d]⟩])) h' T (.tup [.str ⟨#[c]⟩, .str ⟨#[d]⟩]) :=
      ⟨by show 2 ≤ sizeLine; decide, [.str ⟨#[c]⟩ u1, .str ⟨#[d]⟩ u2], .cons ⟨u1, rfl⟩ (.cons ⟨u2, rfl⟩ .nil), ⟨o, ho, hcl, n, hd⟩⟩
    have I1 : Inv X pins σ (upd H T (.tup [.str ⟨#[c]⟩, .str ⟨#[d]⟩])) { s with heap := h', toks := tk } :=
      I.turnedNew (t' := tk) (ch := [z, TI, TO, j1, j2]) (fun b o hb q => hk b o (fun q' => hb (by simp only [List.mem_cons, List.not_mem_nil, or_false] at q' ⊢; rcases q' with q' | q' | q' | q' <;> simp [q'])) q) hf hn new
    refine ⟨.ref T, _, I1, rfl, ⟨T, c, d, rfl, I.hok.fresh hn, rfl, hc1, hc2⟩, st', fun b hb => ?_⟩
    have hlt : b < s.heap.objs.size := by
      obtain ⟨hz, h1, ⟨a1, a2, h2⟩, ⟨o1, e1, _⟩, ⟨o2, e2, _⟩⟩ := st
      simp only [List.mem_cons, List.not_mem_nil, or_false] at hb
      rcases hb with rfl | rfl | rfl | rfl | rfl
      · exact Heap.lt_size hz
      · exact Heap.lt_size h1
      · exact Heap.lt_size h2
      · exact Heap.lt_size e1
      · exact Heap.lt_size e2
    rw [upd_ne (Nat.ne_of_lt (Nat.lt_of_lt_of_le hlt hn))]
    exact (hf b hb).1
  done := by
    intro X hP hw hK hc i pins s σ H E I hf st hg
    subst hP hw hK
    have hh : X.A.handled = none := I.ok.hd hc
    have W := GoesN.zip2 (elts := elts) (x1 := kk) (pos := tpos) (A := X.A) D (Draws.text (prog := X.prog) (w := X.w) (A := X.A.in1) hh j1 x t) (Draws.text (prog := X.prog) (w := X.w) (A := X.A.in1) hh j2 y u)
    have e : i = min x.cps.size y.cps.size := hg
    subst e
    exact W.stops s (fun s1 => Inv X pins σ H s1) E st fun h' tk hk _ => I.turnedL (t' := tk) (ch := [z, TI, TO, j1, j2]) (fun b o hb q => hk b o (fun q' => hb (by simp only [List.mem_cons, List.not_mem_nil, or_false] at q' ⊢; rcases q' with q' | q' | q' | q' <;> simp [q'])) q) hf
  self := fun A i s Q E st h => wpAny_pyIter_zip st.1 h
def iZipS (ta : TA) : TI := fun σ H R => ta σ H fun vs H1 => ∃ x y, vs = [.str x, .str y] ∧ R (Itzs x y) H1
theorem pi_zipS {X : Cx} {e e2 : Expr} {ta : TA} {p pos tpos : Pos} {elts : List Expr} {kk : Nat} (hg : Gl X "zip") (hm : X.mg "zip" = none) (ha : PA X [e, e2] ta)
    (hs : starEach [e, e2] X.env = (false, eval e X.env) :: starEach [e2] X.env := by rfl) (hpl : (backTo pos (starEach [e2] X.env)).any (·.1) = false := by rfl) :
    PI X (.Tuple elts kk tpos) (.Call (.Name "zip" p) [e, e2] [] pos) (iZipS ta) := by
  refine ⟨fun pins s σ H R I h => ?_⟩
  refine PyProof.Rows.Call_ (ld_blt I hg hm PyProof.Rows.boot_zip (PyProof.Rows.callWith_type1 (thn (ha.run pos pins s σ H _ I h) fun us s1 ⟨vs, H1, I1, r1, q1⟩ => ?_) hs hpl))
  obtain ⟨x, y, ex, q⟩ := q1
  subst ex
  cases r1 with
  | cons r rr =>
    cases rr with
    | cons r' rr =>
      cases rr
      obtain ⟨t, rfl⟩ := r
      obtain ⟨u, rfl⟩ := r'
      refine zip_begins2 (begins_text x t) (begins_text y u) True.intro True.intro fun h' hz h1 h2 g1 g2 hsz hk => wpAny_pyIter_zip hz ?_
      have I2 : Inv X pins σ H1 { s1 with heap := h' } := I1.kept (t' := s1.toks) hk
      refine ⟨s1.heap.objs.size + 4, [s1.heap.objs.size + 4, s1.heap.objs.size + 2, s1.heap.objs.size + 3, s1.heap.objs.size, s1.heap.objs.size + 1], _, _, H1, rfl, I2, turn_zipS (zip_sep2 (fun _ hb => by cases hb) (fun _ hb => by cases hb)), ⟨hz, h1, ⟨_, _, h2⟩, ⟨_, g1, rfl, rfl⟩, ⟨_, g2, rfl, rfl⟩⟩, fun c hcm => ?_, q⟩
      have hle : s1.heap.objs.size ≤ c := by
        simp only [List.mem_cons, List.not_mem_nil, or_false] at hcm
        rcases hcm with q' | q' | q' | q' | q' <;> rw [q'] <;> first | exact Nat.le_refl _ | exact Nat.le_add_right _ _
      exact I1.fpOk hle (I1.hok.fresh hle)
theorem walk_zipS {x y : Str} : Walk (Itzs x y) (min x.cps.size y.cps.size) (fun _ => True) (fun i H v H' => ∃ T c d, v = .ref T ∧ H T = none ∧ H' = upd H T (.tup [.str ⟨#[c]⟩, .str ⟨#[d]⟩]) ∧ x.cps[i]? = some c ∧ y.cps[i]? = some d) :=
  ⟨fun _ _ hi _ => hi, fun _ _ => rfl, fun _ _ _ _ _ _ q => q⟩
end Dw

set_option Elab.async false
set_option linter.all false
set_option maxRecDepth 100000
namespace Dw
open PySem L2 Evl
section
variable {K : PySem.W.Frag} {σ : L2.St} {H H' : Hp} {ta : TA} {tb tc te tx tl : TE} {t u : TT} {x y z v : V}
/-- [e for a, b in zip(x, y)], two texts of one length -/
theorem el_lcZ {la lb : List Nat} {j1 j2 : Nat} {vs : List Nat} (g : Nat → Nat → V) (h : EvA ta σ H [.str (Tx la), .str (Tx lb)]) (hl : la.length = lb.length) (hz : la.length ≤ 40000)
    (hw : ∀ x y, wipe (((wipe σ vs).set j1 (some x)).set j2 (some y)) vs = wipe σ vs)
    (he : ∀ (c d : Nat) H1, Ex H H1 → c ∈ la → d ∈ lb → Ev te (((wipe σ vs).set j1 (some (.str (Tx [c])))).set j2 (some (.str (Tx [d])))) H1 (g c d)) :
    EvL (tLc (iZipS ta) (gTup K 2 (gCons (gName j1) (gCons (gName j2) gNil))) tYes te vs) σ H (List.zipWith g la lb) := fun H0 e Q q => h H0 e _ fun H1 e1 => ⟨Tx la, Tx lb, rfl, fun Dl hD => by
  have hs : min (Tx la).cps.size (Tx lb).cps.size = la.length := by
    have h1 : (Tx la).cps.size = la.length := Tx_len la
    have h2 : (Tx lb).cps.size = lb.length := Tx_len lb
    omega
  refine lc_it walk_zipS (fun i H2 => Ex H1 H2 ∧ H2 Dl = some (.lst ((List.zipWith g la lb).take i))) ⟨Ex.new hD, upd_same⟩ (fun _ _ _ _ => True.intro) (fun i x' H2 H3 hi p yy => ?_) (fun H2 p => ?_)
  · obtain ⟨T, c, d, rfl, nT, rfl, hc, hd⟩ := yy
    have hc' : la[i]? = some c := by
      rw [← hc]
      simp [Tx]
    have hd' : lb[i]? = some d := by
      rw [← hd]
      simp [Tx]
    have hg : (List.zipWith g la lb)[i]? = some (g c d) := by
      rw [List.getElem?_zipWith, hc', hd']
    refine ⟨T, _, rfl, st_of upd_same, rfl, _, _, rfl, _, _, rfl, rfl, hw _ _, ?_⟩
    refine he c d _ (((e.trans e1).trans p.1).trans (Ex.new nT)) (List.mem_of_getElem? hc') (List.mem_of_getElem? hd') _ (Ex.refl _) _ fun H4 e4 => ⟨_, e4 Dl _ ((Ex.new nT) Dl _ p.2), sz_lt ?_, ?_, ?_⟩
    · have := List.length_take_le i (List.zipWith g la lb)
      omega
    · exact Ex.mut ((p.1.trans (Ex.new nT)).trans e4) hD
    · rw [upd_same, List.take_add_one, hg]
      rfl
  · obtain ⟨p1, p2⟩ := p
    rw [hs, List.take_of_length_le (by rw [List.length_zipWith]; omega)] at p2
    exact q Dl H2 (fresh_back e1 hD) (e1.trans p1) p2⟩
theorem ev_kd {w : World} {p : Addr} {s : Str} {ta tb : TE} (ha : Ev ta σ H (.ref p)) (hb : Ev tb σ H (.str s)) (hk : KDct K w p s v) : Ev (tOp (rIxD K w) ta tb) σ H v :=
  ev_op ha hb fun H1 _ _ q => ⟨p, s, v, rfl, rfl, hk, q H1 (Ex.refl _)⟩
end
/-! ### f(*xs), f a local that holds one of several defs -/
def tCallLS (K : PySem.W.Frag) (i : Nat) (S : Addr → Option Sp) (te : TE) : TE := fun σ H Q => ∃ f sp, σ[i]? = some (some (.ref f)) ∧ S f = some sp ∧ te σ H fun y H1 => ∃ a xs, y = V.ref a ∧ (SqT K H1 a xs ∨ SqL K H1 a xs) ∧ sp xs H1 Q (fun _ _ _ => False)
theorem pe_callLS {X : Cx} {k i : Nat} {x : Str} {p q pos : Pos} {e : Expr} {te : TE} {S : Addr → Option Sp} (A : ∀ f sp, S f = some sp → Held X.prog X.w X.K X.mg X.base k f sp) (hr : Room k X.A) (hN : X.N[i]? = some x) (hv : Vis X.env.scope x) (he : PE X e te)
    (hdb : (x == ("__debug__" : Str)) = false := by decide) (hcd : (x == ("__classdict__" : Str)) = false := by decide)
    (hst : starEach [.Starred e q] X.env = [(true, eval e X.env)] := by rfl) : PE X (.Call (.Name x p) [.Starred e q] [] pos) (tCallLS X.K i S te) := by
  refine ⟨fun pins s σ H Q I h => ?_⟩
  obtain ⟨f, sp, hs, hS, ht⟩ := h
  obtain ⟨fd, ps, F, hk, hb⟩ := (A f sp hS).ex
  refine wpAny_Call_Name_kw (thn ((pe_var (pos := p) hN hv hdb hcd).run pins s σ H (fun v H1 => v = .ref f ∧ H1 = H) I ⟨.ref f, hs, rfl, rfl⟩) fun u s1 ⟨v, H1, I1, r1, q1⟩ => ?_)
  obtain ⟨rfl, rfl⟩ := q1
  cases r1
  refine PySem.W.callWith_S (h₀ := X.base) I1.ok.mod.kin hk (thn (he.run pins s1 σ H1 _ I1 ht) fun v s2 ⟨y, H2, I2, ry, a, xs, ey, hxs, q2⟩ => ?_) hst
  subst ey
  obtain rfl : v = Value.ref a := ry
  refine StX.star_any I2 hxs fun us s3 I3 rv => ⟨I3.kIn, run_fn (dvs := []) (ds := []) (E := fun _ _ _ => False) F hr hb .nil (fun _ _ _ _ _ _ _ z => z.elim) I3 rv ?_⟩
  rw [List.append_nil]
  exact q2
/-! ### replace of one sign by another -/
theorem replL_map {a b : Nat} : ∀ l : List Nat, StrLaws.replL [a] [b] l = l.map fun c => if c = a then b else c
  | [] => StrLaws.replL_nil
  | c :: l => by
    by_cases h : c = a
    · rw [StrLaws.replL_hit (by simp) (by simp [h])]
      simp [h, replL_map l]
    · rw [StrLaws.replL_miss (by simp [h]), replL_map l]
      simp [h]
theorem replace_Tx {y z : Str} {a b : Nat} (hy : y = Tx [a]) (hz : z = Tx [b]) (l : List Nat) : Txt.replace (Tx l) y z = Tx (l.map fun c => if c = a then b else c) := by
  subst hy hz
  refine TL.ext_tl ?_
  exact (StrLaws.replace_list (by simp [Str.length])).trans (replL_map l)
end Dw

set_option Elab.async false
set_option linter.all false
set_option maxRecDepth 100000
namespace Dw
open PySem L2 Evl
/-! ### a text turned about -/
def tRevS (te : TE) : TE := fun σ H Q => te σ H fun x H1 => ∃ l, x = .str (Tx l) ∧ l.length ≤ 40000 ∧ Q (.str (Tx l.reverse)) H1
theorem rev_Tx (l : List Nat) (u : Tok) : Txt.sliceBy (Tx l) none none (-1, u) = Tx l.reverse := by
  refine TL.ext_tl ?_
  show (Txt.sliceBy (Tx l) none none (-1, u)).cps.toList = l.reverse
  rw [PyProof.Rows.step_rev_list, Tx_len]
  apply List.ext_getElem
  · simp
  · intro i h1 h2
    simp at h1
    simp [Tx, List.getElem_reverse]
    rw [List.getElem?_eq_getElem (by omega)]
    rfl
theorem pe_revS {X : Cx} {e : Expr} {te : TE} {k : Nat} {p1 p2 p3 pos : Pos} (he : PE X e te) : PE X (.Subscript e (.Slice none none (some (.UnaryOp .USub (.Constant (.int 1) k p1) p2)) p3) pos) (tRevS te) := by
  refine ⟨fun pins s σ H Q I h => ?_⟩
  refine PyProof.Rows.Subscript_ (thn (he.run pins s σ H _ I h) fun v s1 ⟨x, H1, I1, r1, q1⟩ => ?_)
  obtain ⟨l, ex, hl, q⟩ := q1
  subst ex
  obtain ⟨t, rfl⟩ := r1
  have hst : PO X (some (.UnaryOp .USub (.Constant (.int 1) k p1) p2)) (tPart (tUn (rU fun i => .int (-i)) (tC (.int 1)))) := po_some (pe_un un_neg pe_int)
  refine wpAny_Slice (thn (po_none.run pins s1 σ H1 (fun o G => o = none ∧ G = H1) I1 ⟨rfl, rfl⟩) fun vl s2 ⟨l2, H2, I2, pl, el, e2⟩ => ?_)
  subst el e2
  refine thn (po_none.run pins s2 σ H2 (fun o G => o = none ∧ G = H2) I2 ⟨rfl, rfl⟩) fun vu s3 ⟨u, H3, I3, pu, eu, e3⟩ => ?_
  subst eu e3
  refine thn (hst.run pins s3 σ H3 (fun o G => o = some (-1) ∧ G = H3) I3 ⟨1, rfl, -1, rfl, rfl, rfl⟩) fun vs s4 ⟨o, H4, I4, ps, eo, e4⟩ => ?_
  subst eo e4
  have I5 : Inv X pins σ H4 { s4 with heap := s4.heap.push { cls := .type "slice", data := .fields #[vl, vu, vs] } } := I4.kept (t' := s4.toks) fun b ob q => Heap.get?_push_of_some _ q
  obtain ⟨a1, rfl, ha1⟩ := IsPart.raw pl
  obtain ⟨a2, rfl, ha2⟩ := IsPart.raw pu
  obtain ⟨a3, rfl, ha3⟩ := IsPart.raw ps
  cases a1 with
  | some _ => cases ha1
  | none =>
    cases a2 with
    | some _ => cases ha2
    | none =>
      cases a3 with
      | none => cases ha3
      | some a3 =>
        obtain ⟨m, uk⟩ := a3
        have hm : m = -1 := by
          have := Option.some.inj ha3
          first | exact this.symm | exact this
        subst hm
        refine PyProof.Rows.tail_any (ops := [.ref s4.heap.objs.size, .str (Tx l) t]) (typeIs_str _ _ _) F.slot_str_getitem.lookup (wpAny_getItem_str_slice (l := none) (u := none) (st := some (-1, uk)) ⟨_, Heap.get?_push_size _ rfl, rfl, rfl⟩ rfl
          (post_val_or_str ⟨Nat.le_trans (Txt.sliceBy_le (Tx l) none none (-1, uk) (show (-1 : Int) ≠ 0 by decide)) (sz_of (by rw [Tx_len]; omega)), fun t' c => ?_⟩)) (by with_unfolding_all rfl)
        have e := rev_Tx l uk
        unfold Txt.sliceBy at e
        first
          | exact ⟨.str (Tx l.reverse), H4, I5.tok c, ⟨t', by rw [e]⟩, q⟩
          | exact ⟨.str (Tx l.reverse), H4, I5.tok c, ⟨t', by rw [← e]; rfl⟩, q⟩
theorem ev_revS {σ : L2.St} {H : Hp} {te : TE} {l : List Nat} (h : Ev te σ H (.str (Tx l))) (hl : l.length ≤ 40000) : Ev (tRevS te) σ H (.str (Tx l.reverse)) := fun H1 e Q q =>
  h H1 e _ fun H2 e2 => ⟨l, rfl, hl, q H2 e2⟩
end Dw

set_option Elab.async false
set_option linter.all false
set_option maxRecDepth 100000
namespace Dw
open PySem L2 Evl
/-! ### sorted of a tuple of texts, of a long list of texts -/
section
open PyProof.Rows
variable {prog : Program} {w : World} {A : Around} {E : Value → Shared → Prop} {s : Shared}
theorem collect_tup {l : Addr} {us : List Value} {R : List Value → Shared → Prop} (ht : s.heap.IsTuple l us.toArray)
    (k : R us { s with heap := (s.heap.push (seqObj "list" #[] 0)).update s.heap.objs.size (Obj.mapSeq (· ++ us.toArray)) }) (few : us.length ≤ sizeLine) : wpAny (model prog w) A (collect (.ref l)) R E s := by
  obtain ⟨ob, hob, hcl, n, hdt⟩ := id ht
  unfold collect
  refine wpAny_bind (wpAny_runValue (codeAny_builtin entry_proto_collect' ?_)); show wpAny _ _ (do again (.builtin "list.__iadd__" ⟨[← newList [], .ref l], []⟩)) _ _ s
  refine wpAny_bind (wpAny_newList (wpAny_pure ⟨Code.quiet_builtin _ (by decide +kernel), codeAny_builtin entry_list_iadd' ?_⟩)); show wpAny _ _ (Builtin.List.listExtendWith (.ref s.heap.objs.size) (.ref l) (.ref s.heap.objs.size)) _ _ { s with heap := s.heap.push (seqObj "list" #[] 0) }
  unfold Builtin.List.listExtendWith
  have hob' : (s.heap.push (seqObj "list" #[] 0)).get? l = some ob := Heap.get?_push_of_some _ hob
  refine wpAny_bind (wpAny_typeOf (T := "tuple") ⟨ob, hob', hcl⟩ ?_)
  rw [if_pos (by rw [show (Value.type "tuple" == Value.type "tuple") = true from rfl, Bool.or_true])]
  refine wpAny_bind (listItems_at hob' hdt ?_)
  refine wpAny_bind (listItems_at (xs := #[]) (n := 0) (Heap.get?_push_size _ rfl) rfl ?_); rw [if_neg (by simp)]
  refine wpAny_bind (listUpdate_at (xs := #[]) (n := 0) (Heap.get?_push_size _ rfl) rfl ?_ (Nat.zero_le _) (by show (#[] ++ us.toArray).size ≤ sizeLine + 1; simp only [Array.size_append, List.size_toArray, List.length_nil]; omega))
  refine wpAny_pure ?_
  show wpAny (model prog w) A (do let o ← load s.heap.objs.size; match o.data with | .seq xs _ => pure xs.toList | _ => unsupported "internal:collect") R E { s with heap := (s.heap.push (seqObj "list" #[] 0)).update s.heap.objs.size (Obj.mapSeq (· ++ us.toArray)) }
  refine wpAny_bind (wpAny_load (get?_update_seq (Heap.get?_push_size _ rfl) _) ?_)
  show wpAny _ _ (pure ((#[] : Array Value) ++ us.toArray).toList) R E _
  rw [show ((#[] : Array Value) ++ us.toArray).toList = us by simp]
  exact wpAny_pure k
theorem sorted_tupStrs {l : Addr} {us : List Value} {ss : List Str} {Q : Value → Shared → Prop} (ht : s.heap.IsTuple l us.toArray) (hS : StrsAre us ss) (few : us.length < 64)
    (h : ∀ (out : Array Value) (ss' : List Str), StrsAre out.toList ss' → ss'.Perm ss → sortedS ss' = true → Q (.ref (s.heap.objs.size + 1)) { s with heap := sortedAll s.heap us out }) :
    wpAny (model prog w) A (call (.builtin "sorted") [.ref l]) Q E s := by
  refine Calls.call_function_entry kind_sorted plain_sorted entry_sorted (args_sorted1 _) ?_; unfold Builtin.«sorted»
  have sz : us.length ≤ sizeLine := by rw [sizeLine_eq]; omega
  refine wpAny_bind (m := checkCount "sorted" 1 1 _) (wpAny_pure (wpAny_bind (collect_tup ht ?_ sz)))
  refine wpAny_bind (wpAny_newList ?_ sz)
  have e1 : ((s.heap.push (seqObj "list" #[] 0)).update s.heap.objs.size (Obj.mapSeq (· ++ us.toArray))).objs.size = s.heap.objs.size + 1 := by rw [Heap.size_update, size_push']
  have e2 : (((s.heap.push (seqObj "list" #[] 0)).update s.heap.objs.size (Obj.mapSeq (· ++ us.toArray))).push (seqObj "list" us.toArray 0)).get? (s.heap.objs.size + 1) = some (seqObj "list" us.toArray 0) := by rw [← e1]; exact Heap.get?_push_size _ rfl
  show wpAny _ _ _ _ _ { s with heap := ((s.heap.push (seqObj "list" #[] 0)).update s.heap.objs.size (Obj.mapSeq (· ++ us.toArray))).push (seqObj "list" us.toArray 0) }
  rw [e1]
  refine wpAny_bind (wpAny_holding (wpAny_call_entry slot_list_sort ⟨_, e2, rfl⟩ entry_list_sort (list_sort_treeK strKind_oneLt e2 hS.keysOf (fun v₁ v₂ rest e => keyKind_strs (by rw [← e]; exact hS)) few fun st' hp hs => ⟨_, rfl, ?_⟩) (args_list_sort _)))
  obtain ⟨ss', h1, h2, h3⟩ := sorted_out_str hS hp hs
  exact wpAny_pure ⟨_, rfl, h _ ss' h1 h2 h3⟩
end
section
variable {X : Cx}
def rSortedTS (K : PySem.W.Frag) : List V → Hp → VK → Prop := fun vs H Q => ∃ (a : Addr) (xs : List Str), vs = [V.ref a] ∧ SqT K H a (xs.map V.str) ∧ xs.length < 64 ∧
  ∀ (ys : List Str) (p : Addr), ys.Perm xs → PyProof.Rows.sortedS ys = true → H p = none → Q (.ref p) (upd H p (.lst (ys.map V.str)))
theorem cr_sortedTS : CallR X (.builtin "sorted") (rSortedTS X.K) := by
  intro pins s σ H vs us Q I r h
  obtain ⟨a, xs, rfl, hs, few, q⟩ := h
  obtain ⟨its, rv, hl, _⟩ := I.tuple hs
  rw [Vals.ref1 r]
  have n0 := rv.length
  rw [List.length_map] at n0
  refine sorted_tupStrs hl rv.strs (by rw [← n0]; exact few) fun out ys h1 h2 h3 => ?_
  obtain ⟨ep, he'⟩ := PyProof.Rows.sortedAll_at s.heap its out
  exact ⟨.ref _, upd H (s.heap.objs.size + 1) (.lst (ys.map V.str)), I.laid (t' := s.toks) (fun _ _ => PyProof.Rows.sortedAll_old) (Nat.le_succ _) ⟨by rw [List.length_map, h2.length_eq]; exact small64 few, out.toList, ep, vals_of_strs h1, he'⟩, rfl, q ys _ h2 h3 (I.hok.fresh (Nat.le_succ _))⟩
def rSortedSA (K : PySem.W.Frag) : List V → Hp → VK → Prop := fun vs H Q => ∃ (a : Addr) (xs : List Str), vs = [V.ref a] ∧ SqL K H a (xs.map V.str) ∧ xs.length ≤ 1000 ∧
  ∀ (ys : List Str) (p : Addr), ys.Perm xs → PyProof.Rows.sortedS ys = true → H p = none → Q (.ref p) (upd H p (.lst (ys.map V.str)))
theorem cr_sortedSA : CallR X (.builtin "sorted") (rSortedSA X.K) := by
  intro pins s σ H vs us Q I r h
  obtain ⟨a, xs, rfl, hs, few, q⟩ := h
  obtain ⟨its, rv, hl, _⟩ := I.list hs
  rw [Vals.ref1 r]
  have n0 := rv.length
  rw [List.length_map] at n0
  have sz : xs.length ≤ sizeLine := Nat.le_of_lt (small1000 few)
  refine PyProof.Rows.sorted_strsAny hl.isList rv.strs (by rw [← n0]; exact sz) fun out ys h1 h2 h3 => ?_
  obtain ⟨ep, he'⟩ := PyProof.Rows.sortedAll_at s.heap its out
  exact ⟨.ref _, upd H (s.heap.objs.size + 1) (.lst (ys.map V.str)), I.laid (t' := s.toks) (fun _ _ => PyProof.Rows.sortedAll_old) (Nat.le_succ _) ⟨by rw [List.length_map, h2.length_eq]; exact sz, out.toList, ep, vals_of_strs h1, he'⟩, rfl, q ys _ h2 h3 (I.hok.fresh (Nat.le_succ _))⟩
end
/-! ### drawn values, signs -/
def Sg (l : List Nat) : Prop := ∀ c ∈ l, c ∈ sgn
def rd (c : Nat) : Nat := if c = 122 then 120 else c
def Sx (l : List Nat) : Prop := ∀ c ∈ l, c ∈ [48, 49, 120]
theorem rd_sx {l : List Nat} (h : Sg l) : Sx (l.map rd) := fun c hc => by
  obtain ⟨d, hd, rfl⟩ := List.mem_map.mp hc
  have := h d hd
  simp only [sgn, List.mem_cons, List.not_mem_nil, or_false] at this
  rcases this with rfl | rfl | rfl | rfl <;> decide
theorem Sg.low {l : List Nat} (h : Sg l) : ∀ c ∈ l, c < 128 := fun c hc => by
  have := h c hc
  simp only [sgn, List.mem_cons, List.not_mem_nil, or_false] at this
  omega
def spVal : Sp := fun vs H Q _ => ∃ (p : Addr) (n : Int), vs = [.ref p, .int n] ∧ PotAt H p ∧ 1 ≤ n ∧ n ≤ 8 ∧ ∀ (H' : Hp) (l : List Nat), ExB p H H' → PotAt H' p → (l.length : Int) = n → Sg l → Q (.str (Tx l)) H'
def spRead : Sp := fun vs H Q _ => ∃ l : List Nat, vs = [.str (Tx l)] ∧ l.length ≤ 1000 ∧ ∀ H', Ex H H' → Q (.str (Tx (l.map rd))) H'
theorem s_0 : Str.ofString "0" = Tx [48] := by decide +kernel
theorem s_1 : Str.ofString "1" = Tx [49] := by decide +kernel
theorem s_x : Str.ofString "x" = Tx [120] := by decide +kernel
theorem s_z : Str.ofString "z" = Tx [122] := by decide +kernel
theorem s_e : Str.ofString "" = Tx [] := by decide +kernel
theorem s_01 : Str.ofString "01" = Tx [48, 49] := by decide +kernel
section
variable {K : PySem.W.Frag} {σ : L2.St} {H : Hp} {ta tb te : TE}
theorem ec_0 : Ev (tC (.str (Str.ofString "0"))) σ H (.str (Tx [48])) := by rw [s_0]; exact ev_c
theorem ec_1 : Ev (tC (.str (Str.ofString "1"))) σ H (.str (Tx [49])) := by rw [s_1]; exact ev_c
theorem ec_x : Ev (tC (.str (Str.ofString "x"))) σ H (.str (Tx [120])) := by rw [s_x]; exact ev_c
theorem ec_z : Ev (tC (.str (Str.ofString "z"))) σ H (.str (Tx [122])) := by rw [s_z]; exact ev_c
theorem ec_e : Ev (tC (.str (Str.ofString ""))) σ H (.str (Tx [])) := by rw [s_e]; exact ev_c
theorem ec_01 : Ev (tC (.str (Str.ofString "01"))) σ H (.str (Tx [48, 49])) := by rw [s_01]; exact ev_c
theorem dec_Tx (a b : List Nat) : decide (V.str (Tx a) = V.str (Tx b)) = decide (a = b) := by
  rw [decide_eq_decide]
  exact ⟨fun h => Tx_inj (V.str.inj h), fun h => by rw [h]⟩
theorem ev_eqT {a b : List Nat} (ha : Ev ta σ H (.str (Tx a))) (hb : Ev tb σ H (.str (Tx b))) : Ev (tOp rEq ta tb) σ H (.bl (decide (a = b))) := by
  rw [← dec_Tx]
  exact ev_op ha hb (rv_eq rfl)
theorem ev_neT {a b : List Nat} (ha : Ev ta σ H (.str (Tx a))) (hb : Ev tb σ H (.str (Tx b))) : Ev (tOp rNe ta tb) σ H (.bl (!decide (a = b))) := by
  rw [← dec_Tx]
  exact ev_op ha hb (rv_ne rfl)
theorem ev_inT {c : Nat} {l : List Nat} (ha : Ev ta σ H (.str (Tx [c]))) (hb : Ev tb σ H (.str (Tx l))) : Ev (tOp rInS ta tb) σ H (.bl (decide (c ∈ l))) := ev_inS ha hb
theorem ev_niT {c : Nat} {l : List Nat} (ha : Ev ta σ H (.str (Tx [c]))) (hb : Ev tb σ H (.str (Tx l))) : Ev (tOp rNotInS ta tb) σ H (.bl (!decide (c ∈ l))) := ev_notInS ha hb
theorem ev_addT {a b : List Nat} (ha : Ev ta σ H (.str (Tx a))) (hb : Ev tb σ H (.str (Tx b))) (hz : a.length + b.length ≤ 100000) :
    Ev (tOp (fun x y H Q => ∃ i j, x = .str i ∧ y = .str j ∧ i.length + j.length ≤ sizeLine ∧ Q (.str (i ++ j)) H) ta tb) σ H (.str (Tx (a ++ b))) :=
  ev_op ha hb fun H1 _ Q q => ⟨Tx a, Tx b, rfl, rfl, sz_of (by rw [Tx_len, Tx_len]; exact hz), by rw [Tx_cat]; exact q H1 (Ex.refl _)⟩
theorem ev_ixT {l : List Nat} {i : Int} {c : Nat} (ha : Ev ta σ H (.str (Tx l))) (hb : Ev tb σ H (.int i)) (hl : l.length ≤ 40000) (hc : atI l i = some c) : Ev (tOp rIxS ta tb) σ H (.str (Tx [c])) :=
  ev_op ha hb (rv_ixS (by rw [Tx_len]; omega) hc)
theorem ev_ifS {b : Bool} {t : TT} {v1 v2 : V} (h : EvT t σ H b) (h1 : Ev ta σ H v1) (h2 : Ev tb σ H v2) : Ev (tIf t ta tb) σ H (if b = true then v1 else v2) :=
  ev_if h (fun e => by rw [e]; exact h1) (fun e => by rw [e]; exact h2)
end
theorem vals_rev : ∀ {a : List V} {b : List Value}, Vals a b → Vals a.reverse b.reverse
  | _, _, .nil => .nil
  | _, _, .cons r t => by
    rw [List.reverse_cons, List.reverse_cons]
    exact (vals_rev t).append (.cons r .nil)
def spLaw (K : PySem.W.Frag) : Sp := fun vs H Q _ => ∃ (a : Addr) (ns : List Int), vs = [.ref a] ∧ SqL K H a (ns.map V.int) ∧ ns.length ≤ 63 ∧ ∀ H', Q (.bl true) H'
end Dw

set_option Elab.async false
set_option linter.all false
set_option maxRecDepth 100000
namespace Dw
open PySem L2 Evl
/-! ### two sorted lists of the same texts are one -/
abbrev leS (a b : Str) : Prop := a.cps.toList ≤ b.cps.toList
theorem risingS_le : ∀ (p : Str) (l : List Str), PyProof.Rows.risingS p l = true → (p :: l).Pairwise leS
  | p, [], _ => List.pairwise_singleton _ _
  | p, x :: r, h => by
    unfold PyProof.Rows.risingS at h
    rw [Bool.and_eq_true] at h
    have ih := risingS_le x r h.2
    have hx : leS p x := by
      have := h.1
      rw [PyProof.Rows.ltCps_eq] at this
      simp at this
      exact this
    refine List.pairwise_cons.mpr ⟨fun y hy => ?_, ih⟩
    rcases List.mem_cons.mp hy with rfl | hy
    · exact hx
    · exact List.le_trans hx ((List.pairwise_cons.mp ih).1 y hy)
theorem sortedS_le : ∀ {l : List Str}, PyProof.Rows.sortedS l = true → l.Pairwise leS
  | [], _ => List.Pairwise.nil
  | x :: r, h => risingS_le x r h
theorem leS_anti {a b : Str} (h1 : leS a b) (h2 : leS b a) : a = b := TL.ext_tl (List.le_antisymm h1 h2)
theorem sorted_one {xs ys zs : List Str} (p1 : xs.Perm zs) (s1 : PyProof.Rows.sortedS xs = true) (p2 : ys.Perm zs) (s2 : PyProof.Rows.sortedS ys = true) : xs = ys :=
  List.Perm.eq_of_pairwise (le := leS) (fun a b _ _ h1 h2 => leS_anti h1 h2) (sortedS_le s1) (sortedS_le s2) (p1.trans p2.symm)
/-! ### mirrors of the operators -/
def mixS (a b : Nat) : Nat := if a = b ∧ a ∈ [48, 49] then a else 120
def anyS (l : List Nat) : Nat := if 49 ∈ l then 49 else if 120 ∈ l then 120 else 48
def allS (l : List Nat) : Nat := if 48 ∈ l then 48 else if 120 ∈ l then 120 else 49
def pickS (c : Nat) (a b : List Nat) : List Nat := if c = 120 then List.zipWith mixS a b else if c = 49 then a else b
def partS (l : List Nat) (hi lo : Nat) : List Nat := (l.drop (l.length - 1 - hi)).take (hi + 1 - lo)
def spMixS : Sp := fun vs H Q _ => ∃ a b : Nat, vs = [.str (Tx [a]), .str (Tx [b])] ∧ ∀ H', Ex H H' → Q (.str (Tx [mixS a b])) H'
def spMixed : Sp := fun vs H Q _ => ∃ a b : List Nat, vs = [.str (Tx a), .str (Tx b)] ∧ a.length = b.length ∧ a.length ≤ 1000 ∧ ∀ H', Ex H H' → Q (.str (Tx (List.zipWith mixS a b))) H'
def spOne (f : List Nat → Nat) : Sp := fun vs H Q _ => ∃ l : List Nat, vs = [.str (Tx l)] ∧ ∀ H', Ex H H' → Q (.str (Tx [f l])) H'
def spPick : Sp := fun vs H Q _ => ∃ (c : Nat) (a b : List Nat), vs = [.str (Tx [c]), .str (Tx a), .str (Tx b)] ∧ a.length = b.length ∧ a.length ≤ 1000 ∧ ∀ H', Ex H H' → Q (.str (Tx (pickS c a b))) H'
def spJoin : Sp := fun vs H Q _ => ∃ a b : List Nat, vs = [.str (Tx a), .str (Tx b)] ∧ a.length + b.length ≤ 1000 ∧ ∀ H', Ex H H' → Q (.str (Tx (a ++ b))) H'
def spPart : Sp := fun vs H Q _ => ∃ (l : List Nat) (hi lo : Nat), vs = [.str (Tx l), .int (hi : Int), .int (lo : Int)] ∧ lo ≤ hi ∧ hi < l.length ∧ l.length ≤ 1000 ∧ ∀ H', Ex H H' → Q (.str (Tx (partS l hi lo))) H'
section
variable {K : PySem.W.Frag} {σ : L2.St} {H : Hp} {ta tb te : TE} {tl th : TO}
theorem cut_Tx (l : List Nat) (i j : Nat) (hij : i ≤ j) (hj : j ≤ l.length) : cutS (Tx l) (some (i : Int)) (some (j : Int)) = Tx ((l.drop i).take (j - i)) := by
  unfold cutS
  rw [Tx_len, HT.sIx_nat, HT.sIx_nat, Nat.min_eq_left hj, Nat.min_eq_left (by omega)]
theorem ev_cutT {l : List Nat} {i j : Nat} (ha : Ev te σ H (.str (Tx l))) (h1 : EvO tl σ H (some (i : Int))) (h2 : EvO th σ H (some (j : Int))) (hij : i ≤ j) (hj : j ≤ l.length) (hz : l.length ≤ 40000) : Ev (tSl rSlS te tl th) σ H (.str (Tx ((l.drop i).take (j - i)))) := fun H1 e Q q =>
  ha H1 e _ fun H2 e2 => h1 H2 (e.trans e2) _ fun H3 e3 => h2 H3 ((e.trans e2).trans e3) _ fun H4 e4 => ⟨Tx l, rfl, sz_of (by rw [Tx_len]; omega), by rw [cut_Tx l i j hij hj]; exact q H4 ((e2.trans e3).trans e4)⟩
/-- a new list of texts, of what a def tells of each of a list's texts -/
theorem el_lcV {xs : List (List Nat)} {a : Addr} {tl : TE} {j : Nat} {vs : List Nat} (g : List Nat → V) (h : Ev tl σ H (.ref a)) (hx : SqL K H a (xs.map fun l => V.str (Tx l))) (hz : xs.length ≤ 40000) (hw : ∀ x, wipe ((wipe σ vs).set j (some x)) vs = wipe σ vs)
    (he : ∀ (l : List Nat) H1, Ex H H1 → l ∈ xs → Ev te ((wipe σ vs).set j (some (.str (Tx l)))) H1 (g l)) :
    EvL (tLc (iList K tl) (gName j) tYes te vs) σ H (xs.map g) := by
  have hs : (xs.map fun l => V.str (Tx l)).length = xs.length := List.length_map _
  rw [← given_all xs [] g, ← hs]
  refine el_lcL (fun _ => true) (fun i => g (xs.getD i [])) h hx (by omega) hw (fun i x H1 e hi => et_yes) (fun i x H1 e hi _ => ?_)
  rw [List.getElem?_map] at hi
  cases hq : xs[i]? with
  | none =>
    rw [hq] at hi
    cases hi
  | some l =>
    rw [hq] at hi
    have ex : V.str (Tx l) = x := Option.some.inj hi
    subst ex
    rw [show xs.getD i [] = l by rw [List.getD_eq_getElem?_getD, hq]; rfl]
    exact he l H1 e (List.mem_of_getElem? hq)
end
end Dw

set_option Elab.async false
set_option linter.all false
set_option maxRecDepth 100000
namespace Dw
open PySem L2 Evl
section
variable {K : PySem.W.Frag} {σ : L2.St} {H : Hp} {ta : TA} {te tx : TE} {t : TT} {z : V}
/-- [e for k in range(i, j, -1)] -/
theorem el_lcR3 {j : Nat} {vs : List Nat} {a b : Int} (v : Nat → V) (h : EvA ta σ H [.int a, .int b, .int (-1)]) (hr : 0 ≤ a ∧ a ≤ 1000 ∧ -1 ≤ b ∧ b ≤ a) (hw : ∀ x, wipe ((wipe σ vs).set j (some x)) vs = wipe σ vs)
    (he : ∀ (i : Nat) H1, Ex H H1 → (i : Int) < a - b → Ev te ((wipe σ vs).set j (some (.int (a - (i : Int))))) H1 (v i)) :
    EvL (tLc (iRng3 ta) (gName j) tYes te vs) σ H ((List.range (a - b).toNat).map v) := fun H0 e Q q => h H0 e _ fun H1 e1 => ⟨a, b, -1, (a - b).toNat, rfl, RgC.neg (by omega) (by omega) (by omega) (by omega), fun Dl hD => by
  have e2 : (List.range (a - b).toNat).map v = given (a - b).toNat (fun _ => true) v := by
    unfold given
    rw [List.filter_eq_self.mpr (fun _ _ => rfl)]
  rw [e2] at q
  refine lc_it walk_rangeC (Cw H1 (fun _ => true) v Dl) ⟨hD, Ex.new hD, upd_same⟩ (fun _ _ _ _ => True.intro) (fun i x H2 H3 hi p y => ?_) (fun H' p => q Dl H' (fresh_back e1 p.1) (e1.trans p.2.1) p.2.2)
  obtain ⟨rfl, hx⟩ := y
  have hx2 : x = .int (a - (i : Int)) := by
    rw [hx]
    show V.int (a + (i : Int) * -1) = V.int (a - (i : Int))
    congr 1
    omega
  subst hx2
  exact ⟨hw _, cw_turn p (by omega) et_yes fun _ => he i H1 (e.trans e1) (by omega)⟩⟩
/-- f('word', [..]) -/
theorem ev_callL2 {sp : Sp} {dvs : List V} {E : XK} {w : V} {xs : List V} (h : EvL te σ H xs) (hs : ∀ p H1, H1 p = some (.lst xs) → Ex H H1 → SpV sp ([w, .ref p] ++ dvs) H1 z) : Ev (tCall sp dvs E (tCons (tC w) (tCons te tNil))) σ H z := fun H1 e Q q =>
  h H1 e _ fun p H2 _ e2 h2 => hs p H2 h2 (e.trans e2) H2 (Ex.refl _) Q (fun H3 e3 => q H3 (e2.trans e3)) E
/-- f('word', [..], k=..) -/
theorem ev_callNL2 {sp : Sp} {n m : Nat} {gV : List V → List V → List V} {E : XK} {tK : TA} {w : V} {xs zs : List V} (h : EvL te σ H xs) (hk : EvA tK σ H zs) (l1 : 2 = n) (l2 : zs.length = m) (hs : ∀ p H1, H1 p = some (.lst xs) → Ex H H1 → SpV sp (gV [w, .ref p] zs) H1 z) : Ev (tCallN n m sp gV E (tCons (tC w) (tCons te tNil)) tK) σ H z := fun H1 e Q q =>
  h H1 e _ fun p H2 _ e2 h2 => hk H2 (e.trans e2) _ fun H3 e3 => ⟨l1, l2, hs p H3 (e3 _ _ h2) ((e.trans e2).trans e3) H3 (Ex.refl _) Q (fun H4 e4 => q H4 ((e2.trans e3).trans e4)) E⟩
end
theorem mul_ok : ∀ d ∈ [48, 49], ∀ n : Fin 9, MulOk (Tx [d]) ((n.val : Nat) : Int) ∧ Txt.mul (Tx [d]) ((n.val : Nat) : Int) = Tx (List.replicate n.val d) := by
  simp only [MulOk]
  decide +kernel
theorem mul_Tx {d : Nat} (hd : d ∈ [48, 49]) {n : Nat} (hn : n ≤ 8) : MulOk (Tx [d]) (n : Int) ∧ Txt.mul (Tx [d]) (n : Int) = Tx (List.replicate n d) := mul_ok d hd ⟨n, by omega⟩
theorem part_due (L : List Nat) (hi lo : Nat) (h1 : lo ≤ hi) (h2 : hi < L.length) : (List.range (hi + 1 - lo)).map (fun t => L.reverse.getD (hi - t) 0) = partS L hi lo := by
  unfold partS
  apply List.ext_getElem
  · simp
    omega
  · intro i h3 h4
    simp at h3
    simp
    rw [List.getElem?_reverse (by omega), List.getElem?_eq_getElem (by omega)]
    show L[L.length - 1 - (hi - i)] = L[L.length - 1 - hi + i]
    congr 1
    omega
theorem mix_rd {a b : Nat} (ha : a ∈ sgn) (hb : b ∈ sgn) : mixS (rd a) (rd b) = mixS a b := by
  simp only [sgn, List.mem_cons, List.not_mem_nil, or_false] at ha hb
  rcases ha with rfl | rfl | rfl | rfl <;> rcases hb with rfl | rfl | rfl | rfl <;> decide
theorem mixed_rd : ∀ {a b : List Nat}, Sg a → Sg b → List.zipWith mixS (a.map rd) (b.map rd) = List.zipWith mixS a b
  | [], _, _, _ => by simp
  | _ :: _, [], _, _ => by simp
  | x :: a, y :: b, ha, hb => by
    rw [List.map_cons, List.map_cons, List.zipWith_cons_cons, List.zipWith_cons_cons, mix_rd (ha x (List.mem_cons_self ..)) (hb y (List.mem_cons_self ..)), mixed_rd (fun c hc => ha c (List.mem_cons_of_mem _ hc)) (fun c hc => hb c (List.mem_cons_of_mem _ hc))]
theorem mem_rd {l : List Nat} {c : Nat} (hc : c = 48 ∨ c = 49) : c ∈ l.map rd ↔ c ∈ l := by
  rw [List.mem_map]
  constructor
  · rintro ⟨d, hd, e⟩
    unfold rd at e
    by_cases h : d = 122
    · rw [if_pos h] at e
      omega
    · rw [if_neg h] at e
      rw [← e]
      exact hd
  · intro h
    exact ⟨c, h, by unfold rd; rw [if_neg (by omega)]⟩
theorem x_rd {l : List Nat} (h : Sg l) (u d : Nat) (hud : (u = 48 ∧ d = 49) ∨ (u = 49 ∧ d = 48)) (hu : u ∉ l) : 120 ∈ l.map rd ↔ ¬ l = List.replicate l.length d := by
  rw [List.mem_map]
  constructor
  · rintro ⟨c, hc, e⟩ hr
    rw [hr] at hc
    have := (List.mem_replicate.mp hc).2
    subst this
    unfold rd at e
    by_cases h2 : c = 122
    · omega
    · rw [if_neg h2] at e
      omega
  · intro hn
    by_cases hx : ∃ c ∈ l, rd c = 120
    · obtain ⟨c, hc, e⟩ := hx
      exact ⟨c, hc, e⟩
    · exfalso
      apply hn
      rw [List.eq_replicate_iff]
      refine ⟨rfl, fun c hc => ?_⟩
      have h3 := h c hc
      have h4 : rd c ≠ 120 := fun e => hx ⟨c, hc, e⟩
      have h5 : c ≠ u := fun e => hu (by rw [← e]; exact hc)
      simp only [sgn, List.mem_cons, List.not_mem_nil, or_false] at h3
      rcases h3 with rfl | rfl | rfl | rfl
      · omega
      · omega
      · exact absurd rfl h4
      · exact absurd rfl h4
end Dw

set_option Elab.async false
set_option linter.all false
set_option maxRecDepth 100000
namespace Dw
open PySem L2 Evl
/-! ### set(xs) of a list of whole numbers (the library has it of a tuple) -/
section
open PyProof.Rows
variable {P : Program} {w : World} {A : Around} {E : Value → Shared → Prop} {s : Shared}
abbrev set0 (w : World) : Obj := { cls := .type "set", dict := none, data := .set #[] 0 (.fresh 0 0 (!w.params.followText "set-order")) }
/-- set.__init__ of a set just made, handed a list -/
theorem init_set_lst {l : Addr} {us : Array Value} (ns : List Int) {R : PySem.Fin → Shared → Prop} (calm : A.handled = none) (isl : s.heap.IsList l us) (hni : IntsAre us.toList ns) (few : ns.length + 1 < scanBound)
    (k : ∀ (g : Heap) (tk c : Nat), SetR w g s.heap.objs.size (fun j => decide (j ∈ ns)) c → c ≤ ns.length → (∀ b o, s.heap.get? b = some o → g.get? b = some o) → R (.done (.ret .none)) { s with heap := g, toks := tk }) :
    wpAny (model P w) A (Builtin.«set.__init__» ⟨[.ref s.heap.objs.size, .ref l], []⟩) R E { s with heap := s.heap.push (set0 w) } := by
  have nI : us.size = ns.length := by
    rw [← Array.length_toList]
    exact IntsAre.length hni
  obtain ⟨⟨k1, k2, k3, k4⟩, at0, kc, nn, kd⟩ := isl
  simp only at kc kd
  subst kc kd
  have at1 : (s.heap.push (set0 w)).get? s.heap.objs.size = some (set0 w) := Heap.get?_push_size _ rfl
  have at2 : (s.heap.push (set0 w)).get? l = some ⟨.type "list", k2, .seq us nn, k4⟩ := Heap.get?_push_of_some _ at0
  have b1 := F.sub_list_set
  have b2 := F.sub_list_frozenset
  have b3 : (Value.type "list" == Value.type "dict") = false := by decide
  have b4 : (s.heap.push (set0 w)).IsList l us := ⟨_, at2, rfl, nn, rfl⟩
  unfold Builtin.«set.__init__» noKeywords Builtin.Frozenset.updateFrom
  generalize eI : pyIter = PI
  wp_walk
  subst eI
  refine wpAny_pyIter_list b4 (wpAny_bind (wpAny_runValue ?_))
  have lt : l < s.heap.objs.size := Heap.lt_size at0
  have n1 : (s.heap.push (set0 w)).objs.size = s.heap.objs.size + 1 := Heap.size_push ..
  have c2 : A.in1.handled = none := by simp [calm]
  have n2 : l ≠ (s.heap.push (set0 w)).objs.size := by
    rw [n1]
    exact Nat.ne_of_lt (Nat.lt_succ_of_lt lt)
  have n3 : s.heap.objs.size ∉ [(s.heap.push (set0 w)).objs.size, l] := by
    rw [n1]
    simp only [List.mem_cons, List.not_mem_nil, or_false, not_or]
    exact ⟨Nat.ne_of_lt (Nat.lt_succ_self _), Nat.ne_of_gt lt⟩
  refine set_update_ints ((Walks.list c2 _ l n2 us).toS) s.heap.objs.size n3 ns nI few (fun i v hv => ?_) (us.size - 0) 0 _ (by omega) (Nat.zero_le _) ⟨⟨_, Heap.get?_push_size _ rfl, rfl, rfl⟩, b4.push _⟩ ⟨0, Nat.le_refl 0, setR_new_at (Heap.get?_push_of_some _ at1)⟩ fun s' c mv hc hS => ?_
  · have hi : i < ns.length := by
      rw [← nI]
      exact (Array.getElem?_eq_some_iff.mp hv).1
    obtain ⟨t, e⟩ := IntsAre.int_at hni i v (by rw [Array.getElem?_toList]; exact hv)
    exact ⟨ns[i], t, List.getElem?_eq_getElem hi, by rw [e, List.getD_eq_getElem?_getD, List.getElem?_eq_getElem hi]; rfl⟩
  · obtain ⟨g, g2, d2, tk, o2⟩ := s'
    have e1 : g2 = s.gens := mv.gens
    have e2 : d2 = s.drawn := mv.drawn
    have e3 : o2 = s.os := mv.os
    subst e1 e2 e3
    rw [nI] at hc
    refine wpAny_pure (wpAny_pure (k g tk c hS hc fun b o e => ?_))
    have lb : b < s.heap.objs.size := Heap.lt_size e
    refine mv.heap b o (fun hm => ?_) (Heap.get?_push_of_some _ (Heap.get?_push_of_some _ e))
    rw [n1] at hm
    simp only [List.mem_cons, List.not_mem_nil, or_false] at hm
    rcases hm with hm | hm
    · exact absurd hm (Nat.ne_of_lt lb)
    · exact absurd hm (Nat.ne_of_lt (Nat.lt_succ_of_lt lb))
theorem call_set_lst {l : Addr} {us : Array Value} (ns : List Int) {Q : Value → Shared → Prop} (calm : A.handled = none) (isl : s.heap.IsList l us) (hni : IntsAre us.toList ns) (few : ns.length + 1 < scanBound)
    (k : ∀ (g : Heap) (tk c : Nat), SetR w g s.heap.objs.size (fun j => decide (j ∈ ns)) c → c ≤ ns.length → (∀ b o, s.heap.get? b = some o → g.get? b = some o) → Q (.ref s.heap.objs.size) { s with heap := g, toks := tk }) :
    wpAny (model P w) A (call (.type "set") [.ref l]) Q E s := by
  obtain ⟨c0, t0, m0⟩ := F.called_set.mro
  have f1 := F.called_set.made
  have f2 := F.called_set.sub
  have f3 := F.called_set.notType
  have f4 := F.called_set.canCreate
  have f5 := F.typeCall_set_1 (.ref l)
  refine wpAny_call (codeAny_of_tree (show wpAny _ _ (callAny (.type "set") _) _ _ _ from wpAny_pure ⟨Code.quiet_builtin _ (by decide +kernel), codeAny_builtin F.entry_type_call ?_⟩))
  rw [Around.under_plain (weight_type_call_type "set" [.ref l] []) rfl]
  (repeat (any_goals (first | assumption | wp_step)))
  refine codeAny_mono (code_set_led1 (.ref l) (E := E) (Q₁ := fun v s1 => v = .ref s.heap.objs.size ∧ s1 = { s with heap := s.heap.push (set0 w) }) ⟨rfl, rfl⟩) fun r s1 hr => ?_
  match r, hr with
  | .error e, hr => exact hr
  | .ok (.ret v), hr =>
    obtain ⟨rfl, rfl⟩ := hr
    have ty : Shared.TypeIs { s with heap := s.heap.push (set0 w) } (.ref s.heap.objs.size) "set" := ⟨_, Heap.get?_push_size _ rfl, rfl⟩
    have f6 := F.called_set.init.lookup
    have f7 := F.called_set.init.bind (.ref s.heap.objs.size)
    (repeat (any_goals (first | assumption | wp_step)))
    refine codeAny_mono (codeAny_call_builtin (R := wants (fun r s2 => r = .none ∧ Q (.ref s.heap.objs.size) s2) E) F.called_set.init.plain F.entry_set_init (check_set_init_1 ty ?_)) fun r2 s2 q => ?_
    · exact init_set_lst ns (A := A.in1.in1) (by simp [calm]) isl hni few fun g tk c h1 h2 h3 => ⟨rfl, k g tk c h1 h2 h3⟩
    · match r2, q with
      | .error e, q => exact q
      | .ok (.ret v), q =>
        obtain ⟨rfl, q⟩ := q
        (repeat (any_goals (first | assumption | wp_step)))
      | .ok .next, q => exact q.elim
      | .ok .brk, q => exact q.elim
      | .ok .cont, q => exact q.elim
  | .ok .next, hr => exact hr.elim
  | .ok .brk, hr => exact hr.elim
  | .ok .cont, hr => exact hr.elim
end
section
variable {X : Cx}
def rSetI (K : PySem.W.Frag) (w : World) : List V → Hp → VK → Prop := fun xs H Q => ∃ (l : Addr) (ns : List Int), xs = [.ref l] ∧ SqL K H l (ns.map V.int) ∧ ns.length ≤ 4000 ∧ ∀ (a : Addr) (c : Nat), H a = none → c ≤ ns.length → Q (.ref a) (upd H a (SetO w a (fun j => decide (j ∈ ns)) c))
theorem cr_setI (hc : X.calm = true) : CallR X (.type "set") (rSetI X.K X.w) := by
  intro pins s σ H xs us Q I r h
  obtain ⟨l, ns, rfl, hl, hn, q⟩ := h
  rw [Vals.ref1 r]
  obtain ⟨its, rv, pl, hz⟩ := I.list hl
  refine call_set_lst ns (I.ok.hd hc) pl.isList (by simpa using rv.ints) (by unfold scanBound; omega) fun g tk c hS hc2 hk => ?_
  exact ⟨.ref s.heap.objs.size, upd H s.heap.objs.size (SetO X.w s.heap.objs.size (fun j => decide (j ∈ ns)) c), I.laid (t' := tk) hk (Nat.le_refl _) (setO_new hS), rfl, q _ c (I.hok.fresh (Nat.le_refl _)) hc2⟩
end
/-- of a list of noughts and ones, sorted, each once -/
def su (ns : List Int) : List Int := (if 0 ∈ ns then [0] else []) ++ (if 1 ∈ ns then [1] else [])
theorem su_one {ns ms : List Int} (h01 : ∀ k ∈ ns, k = 0 ∨ k = 1) (hp : ms.Pairwise (· < ·)) (hm : ∀ k : Int, k ∈ ms ↔ k ∈ ns) : ms = su ns := by
  have sub : ∀ k ∈ ms, k = 0 ∨ k = 1 := fun k hk => h01 k ((hm k).mp hk)
  unfold su
  simp only [← hm]
  clear hm h01
  match ms, hp, sub with
  | [], _, _ => simp
  | [a], _, sub =>
    rcases sub a (by simp) with rfl | rfl <;> simp
  | [a, b], hp, sub =>
    have h1 : a < b := (List.pairwise_cons.mp hp).1 b (by simp)
    rcases sub a (by simp) with rfl | rfl <;> rcases sub b (by simp) with rfl | rfl <;> first | omega | simp
  | a :: b :: c :: r, hp, sub =>
    have h1 : a < b := (List.pairwise_cons.mp hp).1 b (by simp)
    have h2 : b < c := (List.pairwise_cons.mp (List.pairwise_cons.mp hp).2).1 c (by simp)
    have := sub a (by simp)
    have := sub c (by simp)
    have := sub b (by simp)
    omega
theorem el_su {K : PySem.W.Frag} {w : World} {σ : L2.St} {H : Hp} {te : TE} {ns : List Int} (h : EvL te σ H (ns.map V.int)) (h01 : ∀ k ∈ ns, k = 0 ∨ k = 1) (hz : ns.length < 64) : EvL (tCB (rSortedSet w) (tCons (tCB (rSetI K w) (tCons te tNil)) tNil)) σ H ((su ns).map V.int) := fun H1 e Q q =>
  h H1 e _ fun p H2 np e2 h2 => ⟨p, ns, rfl, sq_of h2, by omega, fun a c na hc => ⟨a, _, c, rfl, upd_same, by omega, fun ms r hp hm _ nr => by
    rw [su_one h01 hp (fun k => (hm k).trans decide_eq_true_iff)]
    exact q r _ (fresh_back e2 (fresh_back (Ex.new na) nr)) ((e2.trans (Ex.new na)).trans (Ex.new nr)) upd_same⟩⟩
/-- the same of a list that a name holds -/
theorem el_suV {K : PySem.W.Frag} {w : World} {σ : L2.St} {H : Hp} {te : TE} {ns : List Int} {p : Addr} (h : Ev te σ H (.ref p)) (hp0 : SqL K H p (ns.map V.int)) (h01 : ∀ k ∈ ns, k = 0 ∨ k = 1) (hz : ns.length < 64) : EvL (tCB (rSortedSet w) (tCons (tCB (rSetI K w) (tCons te tNil)) tNil)) σ H ((su ns).map V.int) := fun H1 e Q q =>
  h H1 e _ fun H2 e2 => ⟨p, ns, rfl, ex_l (e.trans e2) hp0, by omega, fun a c na hc => ⟨a, _, c, rfl, upd_same, by omega, fun ms r hp hm _ nr => by
    rw [su_one h01 hp (fun k => (hm k).trans decide_eq_true_iff)]
    exact q r _ (fresh_back e2 (fresh_back (Ex.new na) nr)) ((e2.trans (Ex.new na)).trans (Ex.new nr)) upd_same⟩⟩
end Dw

set_option Elab.async false
set_option linter.all false
set_option maxRecDepth 100000
namespace Dw
/-! ### the mathematics of k16: signs -/
def k3 : List Nat := [48, 49, 120]
def wN (c : Nat) : List Nat := if c ∈ [48, 49] then [if c = 49 then 1 else 0] else [0, 1]
def ways (c : Nat) : List Int := if c ∈ [48, 49] then [if c = 49 then 1 else 0] else [0, 1]
theorem ways_wN (c : Nat) : ways c = (wN c).map fun n : Nat => (n : Int) := by
  unfold ways wN
  by_cases h : c ∈ [48, 49]
  · rw [if_pos h, if_pos h]
    by_cases h2 : c = 49
    · rw [if_pos h2, if_pos h2]; rfl
    · rw [if_neg h2, if_neg h2]; rfl
  · rw [if_neg h, if_neg h]; rfl
def notS (c : Nat) : Nat := if c = 48 then 49 else if c = 49 then 48 else 120
def xorS (c d : Nat) : Nat := if c = 120 ∨ d = 120 then 120 else if c = d then 48 else 49
def orS (c d : Nat) : Nat := if c = 49 ∨ d = 49 then 49 else if c = 48 ∧ d = 48 then 48 else 120
def cnt (x c d k : Nat) : Nat := (if c = x then 1 else 0) + (if d = x then 1 else 0) + (if k = x then 1 else 0)
def mostS (c d k : Nat) : Nat := if 1 < cnt 48 c d k then 48 else if 1 < cnt 49 c d k then 49 else 120
/-- what a step makes of two bits and what is handed on: 0 plus, 1 same, 2 less, 3 the sum's own bit -/
def fW (w : Nat) (p q c : Int) : Int := match w with
  | 0 => (p + q + c) / 2
  | 1 => if (if p ≠ q then 1 else 0) > c then (if p ≠ q then 1 else 0) else c
  | 2 => if p < q + c then 1 else 0
  | _ => (p + q + c) % 2
def triL (c d : Nat) (C : List Int) : List (Int × Int × Int) := (ways c).flatMap fun a => (ways d).flatMap fun b => C.map fun k => (a, b, k)
def tri (w c d k : Nat) : List Int := (triL c d (ways k)).map fun t => fW w t.1 t.2.1 t.2.2
def signL (l : List Int) : Nat := if 0 ∈ l ∧ 1 ∈ l then 120 else if l.getD 0 0 = 1 then 49 else 48
/-- what is handed on behind all bits, the lowest first -/
def bK (w : Nat) : Nat → List Nat → List Nat → Nat
  | k, c :: A, d :: B => bK w (signL (tri w c d k)) A B
  | k, _, _ => k
def bF (w : Nat) : Nat → List Nat → List Nat → List Nat
  | k, c :: A, d :: B => signL (tri 3 c d k) :: bF w (signL (tri w c d k)) A B
  | _, _, _ => []
def plusL : Nat → List Nat → List Nat → List Nat
  | k, c :: A, d :: B => xorS (xorS c d) k :: plusL (mostS c d k) A B
  | _, _, _ => []
def hiS (c : Nat) : Nat := if c = 120 then 49 else c
def loS (c : Nat) : Nat := if c = 120 then 48 else c
def lessS (a b : List Nat) : Nat := if a.map hiS < b.map loS then 49 else if ¬ a.map loS < b.map hiS then 48 else 120
def plusS (a b : List Nat) : List Nat := (plusL 48 a.reverse b.reverse).reverse
def sameS (a b : List Nat) : Nat := notS (anyS (List.zipWith xorS a b))
/-- what the program tells of two values that are read -/
def opS (w : Nat) (a b : List Nat) : List Nat := match w with
  | 0 => plusS a b
  | 1 => [sameS a b]
  | _ => [lessS a b]
/-- what by_bits tells -/
def bbS (w : Nat) (a b : List Nat) : List Nat := match w with
  | 0 => (bF 0 48 a.reverse b.reverse).reverse
  | 1 => [notS (bK 1 48 a.reverse b.reverse)]
  | _ => [bK 2 48 a.reverse b.reverse]
theorem tri_ok : ∀ w : Fin 4, ∀ c ∈ sgn, ∀ d ∈ sgn, ∀ k ∈ k3, (∀ x ∈ tri w.val c d k, x = 0 ∨ x = 1) ∧ (tri w.val c d k).length ≤ 8 ∧ 0 < (tri w.val c d k).length ∧ su (tri w.val c d k) = ways (signL (tri w.val c d k)) ∧ signL (tri w.val c d k) ∈ k3 := by decide +kernel
theorem plus_step : ∀ c ∈ sgn, ∀ d ∈ sgn, ∀ k ∈ k3, signL (tri 3 c d k) = xorS (xorS (rd c) (rd d)) k ∧ signL (tri 0 c d k) = mostS (rd c) (rd d) k := by decide +kernel
theorem same_step : ∀ c ∈ sgn, ∀ d ∈ sgn, ∀ k ∈ k3, signL (tri 1 c d k) = orS k (xorS (rd c) (rd d)) := by decide +kernel
theorem k3_48 : 48 ∈ k3 := by decide
theorem plus_eq : ∀ (A B : List Nat) (k : Nat), Sg A → Sg B → k ∈ k3 → plusL k (A.map rd) (B.map rd) = bF 0 k A B
  | [], _, _, _, _, _ => by simp [plusL, bF]
  | _ :: _, [], _, _, _, _ => by simp [plusL, bF]
  | c :: A, d :: B, k, ha, hb, hk => by
    have hc := ha c (List.mem_cons_self ..)
    have hd := hb d (List.mem_cons_self ..)
    obtain ⟨e1, e2⟩ := plus_step c hc d hd k hk
    have h3 := (tri_ok 0 c hc d hd k hk).2.2.2.2
    show xorS (xorS (rd c) (rd d)) k :: plusL (mostS (rd c) (rd d) k) (A.map rd) (B.map rd) = signL (tri 3 c d k) :: bF 0 (signL (tri 0 c d k)) A B
    rw [e1, e2, plus_eq A B _ (fun x hx => ha x (List.mem_cons_of_mem _ hx)) (fun x hx => hb x (List.mem_cons_of_mem _ hx)) (e2 ▸ h3)]
theorem any_or (k x : Nat) (l : List Nat) (hk : k ∈ k3) (hx : x ∈ k3) : anyS (orS k x :: l) = anyS (k :: x :: l) := by
  unfold anyS
  simp only [k3, List.mem_cons, List.not_mem_nil, or_false] at hk hx
  rcases hk with rfl | rfl | rfl <;> rcases hx with rfl | rfl | rfl <;> simp [orS]
theorem xor_k3 : ∀ c ∈ sgn, ∀ d ∈ sgn, xorS (rd c) (rd d) ∈ k3 := by decide +kernel
theorem same_eq : ∀ (A B : List Nat) (k : Nat), Sg A → Sg B → k ∈ k3 → bK 1 k A B = anyS (k :: List.zipWith xorS (A.map rd) (B.map rd))
  | [], _, k, _, _, hk => by
    simp only [k3, List.mem_cons, List.not_mem_nil, or_false] at hk
    rcases hk with rfl | rfl | rfl <;> simp [bK, anyS]
  | _ :: _, [], k, _, _, hk => by
    simp only [k3, List.mem_cons, List.not_mem_nil, or_false] at hk
    rcases hk with rfl | rfl | rfl <;> simp [bK, anyS]
  | c :: A, d :: B, k, ha, hb, hk => by
    have hc := ha c (List.mem_cons_self ..)
    have hd := hb d (List.mem_cons_self ..)
    have h3 : signL (tri 1 c d k) ∈ k3 := (tri_ok 1 c hc d hd k hk).2.2.2.2
    show bK 1 (signL (tri 1 c d k)) A B = anyS (k :: xorS (rd c) (rd d) :: List.zipWith xorS (A.map rd) (B.map rd))
    rw [same_eq A B _ (fun x hx => ha x (List.mem_cons_of_mem _ hx)) (fun x hx => hb x (List.mem_cons_of_mem _ hx)) h3, same_step c hc d hd k hk, any_or _ _ _ hk (xor_k3 c hc d hd)]
theorem any_rev (l : List Nat) : anyS l.reverse = anyS l := by
  unfold anyS
  simp only [List.mem_reverse]
theorem any_48 (l : List Nat) : anyS (48 :: l) = anyS l := by
  unfold anyS
  simp
theorem bK_snoc (w : Nat) : ∀ (A B : List Nat) (k c d : Nat), A.length = B.length → bK w k (A ++ [c]) (B ++ [d]) = signL (tri w c d (bK w k A B))
  | [], [], k, c, d, _ => by simp [bK]
  | [], _ :: _, _, _, _, h => by simp at h
  | _ :: _, [], _, _, _, h => by simp at h
  | x :: A, y :: B, k, c, d, h => by
    show bK w (signL (tri w x y k)) (A ++ [c]) (B ++ [d]) = signL (tri w c d (bK w (signL (tri w x y k)) A B))
    exact bK_snoc w A B _ c d (by simpa using h)
theorem lo_hi : ∀ (a b : List Nat), Sx a → Sx b → a.length = b.length → a.map hiS < b.map loS → a.map loS < b.map hiS
  | [], [], _, _, _, h => absurd h (List.lt_irrefl _)
  | [], _ :: _, _, _, h, _ => by simp at h
  | _ :: _, [], _, _, h, _ => by simp at h
  | c :: a, d :: b, ha, hb, hl, h => by
    have hc := ha c (List.mem_cons_self ..)
    have hd := hb d (List.mem_cons_self ..)
    rw [List.map_cons, List.map_cons, List.cons_lt_cons_iff] at h ⊢
    have ih := lo_hi a b (fun x hx => ha x (List.mem_cons_of_mem _ hx)) (fun x hx => hb x (List.mem_cons_of_mem _ hx)) (by simpa using hl)
    simp only [List.mem_cons, List.not_mem_nil, or_false] at hc hd
    rcases h with h | ⟨h1, h2⟩
    · refine .inl ?_
      rcases hc with rfl | rfl | rfl <;> rcases hd with rfl | rfl | rfl <;> revert h <;> decide
    · have h3 := ih h2
      rcases hc with rfl | rfl | rfl <;> rcases hd with rfl | rfl | rfl <;> first | (exact absurd h1 (by decide)) | (exact .inr ⟨rfl, h3⟩) | (exact .inl (by decide))
theorem less_k3 (a b : List Nat) : lessS a b ∈ k3 := by
  unfold lessS
  split
  · decide
  · split <;> decide
theorem less_step {c d : Nat} (a b : List Nat) (hc : c ∈ sgn) (hd : d ∈ sgn) (ha : Sx a) (hb : Sx b) (hl : a.length = b.length) : lessS (rd c :: a) (rd d :: b) = signL (tri 2 c d (lessS a b)) := by
  have hx := lo_hi a b ha hb hl
  have key1 : ∀ c ∈ sgn, ∀ d ∈ sgn, (if hiS (rd c) < loS (rd d) ∨ hiS (rd c) = loS (rd d) ∧ True then 49 else if ¬ (loS (rd c) < hiS (rd d) ∨ loS (rd c) = hiS (rd d) ∧ True) then 48 else 120) = signL (tri 2 c d 49) := by decide +kernel
  have key2 : ∀ c ∈ sgn, ∀ d ∈ sgn, (if hiS (rd c) < loS (rd d) ∨ hiS (rd c) = loS (rd d) ∧ False then 49 else if ¬ (loS (rd c) < hiS (rd d) ∨ loS (rd c) = hiS (rd d) ∧ True) then 48 else 120) = signL (tri 2 c d 120) := by decide +kernel
  have key3 : ∀ c ∈ sgn, ∀ d ∈ sgn, (if hiS (rd c) < loS (rd d) ∨ hiS (rd c) = loS (rd d) ∧ False then 49 else if ¬ (loS (rd c) < hiS (rd d) ∨ loS (rd c) = hiS (rd d) ∧ False) then 48 else 120) = signL (tri 2 c d 48) := by decide +kernel
  unfold lessS
  simp only [List.map_cons, List.cons_lt_cons_iff]
  by_cases hP : a.map hiS < b.map loS
  · have hQ := hx hP
    simp only [hP, hQ, if_true]
    exact key1 c hc d hd
  · by_cases hQ : a.map loS < b.map hiS
    · simp only [hP, hQ, if_false, not_true_eq_false]
      exact key2 c hc d hd
    · simp only [hP, hQ, if_false, not_false_eq_true, if_true]
      exact key3 c hc d hd
theorem less_eq : ∀ (a b : List Nat), Sg a → Sg b → a.length = b.length → lessS (a.map rd) (b.map rd) = bK 2 48 a.reverse b.reverse
  | [], [], _, _, _ => by simp [lessS, bK]
  | [], _ :: _, _, _, h => by simp at h
  | _ :: _, [], _, _, h => by simp at h
  | c :: a, d :: b, ha, hb, hl => by
    have hl2 : a.length = b.length := by simpa using hl
    have ha2 : Sg a := fun x hx => ha x (List.mem_cons_of_mem _ hx)
    have hb2 : Sg b := fun x hx => hb x (List.mem_cons_of_mem _ hx)
    rw [List.reverse_cons, List.reverse_cons, bK_snoc 2 _ _ _ _ _ (by simpa using hl2), ← less_eq a b ha2 hb2 hl2]
    exact less_step _ _ (ha c (List.mem_cons_self ..)) (hb d (List.mem_cons_self ..)) (rd_sx ha2) (rd_sx hb2) (by simpa using hl2)
theorem sg_rev {a : List Nat} (h : Sg a) : Sg a.reverse := fun x hx => h x (List.mem_reverse.mp hx)
/-- the program tells what goes from bit to bit -/
theorem op_bb {w : Nat} (a b : List Nat) (ha : Sg a) (hb : Sg b) (hl : a.length = b.length) : opS w (a.map rd) (b.map rd) = bbS w a b := by
  match w with
  | 0 =>
    show (plusL 48 (a.map rd).reverse (b.map rd).reverse).reverse = (bF 0 48 a.reverse b.reverse).reverse
    rw [← List.map_reverse, ← List.map_reverse, plus_eq _ _ _ (sg_rev ha) (sg_rev hb) k3_48]
  | 1 =>
    show [notS (anyS (List.zipWith xorS (a.map rd) (b.map rd)))] = [notS (bK 1 48 a.reverse b.reverse)]
    rw [same_eq _ _ _ (sg_rev ha) (sg_rev hb) k3_48, any_48, List.map_reverse, List.map_reverse, ← List.reverse_zipWith (by simpa using hl), any_rev]
  | n + 2 =>
    show [lessS (a.map rd) (b.map rd)] = [bK 2 48 a.reverse b.reverse]
    rw [less_eq a b ha hb hl]
/-! ### numbers of all fillings -/
/-- m is a number of a filling, the lowest bit first -/
def Num : List Nat → Nat → Prop
  | [], m => m = 0
  | c :: A, m => ∃ p ∈ wN c, ∃ n, Num A n ∧ m = 2 * n + p
theorem num_some : ∀ A : List Nat, ∃ m, Num A m
  | [] => ⟨0, rfl⟩
  | c :: A => by
    obtain ⟨n, hn⟩ := num_some A
    have h : ∃ p, p ∈ wN c := by
      unfold wN
      split
      · exact ⟨_, List.mem_singleton.mpr rfl⟩
      · exact ⟨0, by simp⟩
    obtain ⟨p, hp⟩ := h
    exact ⟨2 * n + p, p, hp, n, hn, rfl⟩
theorem num_lt : ∀ (A : List Nat) (m : Nat), Num A m → m < 2 ^ A.length
  | [], m, h => by
    have : m = 0 := h
    simp [this]
  | c :: A, m, h => by
    obtain ⟨p, hp, n, hn, rfl⟩ := h
    have h1 := num_lt A n hn
    have h2 : p < 2 := by
      unfold wN at hp
      split at hp
      · have := List.mem_singleton.mp hp
        split at this <;> omega
      · simp at hp
        omega
    rw [List.length_cons, Nat.pow_succ]
    omega
/-- the sign c for what may be: true, false, both -/
def SignOf (P : Bool → Prop) (c : Nat) : Prop := (c = 49 ∧ P true ∧ ¬ P false) ∨ (c = 48 ∧ P false ∧ ¬ P true) ∨ (c = 120 ∧ P true ∧ P false)
theorem SignOf.one {P : Bool → Prop} {c d : Nat} (h1 : SignOf P c) (h2 : SignOf P d) : c = d := by
  rcases h1 with ⟨rfl, a, b⟩ | ⟨rfl, a, b⟩ | ⟨rfl, a, b⟩ <;> rcases h2 with ⟨rfl, a', b'⟩ | ⟨rfl, a', b'⟩ | ⟨rfl, a', b'⟩ <;> first | rfl | (exact absurd a b') | (exact absurd a' b) | (exact absurd b b') | (exact absurd b' b)
theorem SignOf.congr {P Q : Bool → Prop} {c : Nat} (h : ∀ v, P v ↔ Q v) (h1 : SignOf P c) : SignOf Q c := by
  unfold SignOf at h1 ⊢
  rw [← h true, ← h false]
  exact h1
theorem SignOf.not {P : Bool → Prop} {c : Nat} (h1 : SignOf P c) : SignOf (fun v => P (!v)) (notS c) := by
  rcases h1 with ⟨rfl, a, b⟩ | ⟨rfl, a, b⟩ | ⟨rfl, a, b⟩
  · exact .inr (.inl ⟨rfl, a, b⟩)
  · exact .inl ⟨rfl, a, b⟩
  · exact .inr (.inr ⟨rfl, b, a⟩)
/-- of two bits and what is handed on, and of the whole numbers -/
def hW (w : Nat) (m n q : Nat) : Bool := if w = 1 then decide (q = 1 ∨ m ≠ n) else decide (m < n + q)
theorem wN_01 (c : Nat) : ∀ p ∈ wN c, p = 0 ∨ p = 1 := by
  intro p hp
  unfold wN at hp
  split at hp
  · have := List.mem_singleton.mp hp
    split at this <;> omega
  · simp at hp
    omega
theorem tri_mem (w c d k : Nat) (x : Int) : x ∈ tri w c d k ↔ ∃ p ∈ wN c, ∃ q ∈ wN d, ∃ r ∈ wN k, x = fW w (p : Int) (q : Int) (r : Int) := by
  unfold tri triL
  simp only [ways_wN, List.mem_map, List.mem_flatMap]
  constructor
  · rintro ⟨t, ⟨a, ⟨p, hp, rfl⟩, b, ⟨q, hq, rfl⟩, k, ⟨r, hr, rfl⟩, rfl⟩, rfl⟩
    exact ⟨p, hp, q, hq, r, hr, rfl⟩
  · rintro ⟨p, hp, q, hq, r, hr, rfl⟩
    exact ⟨_, ⟨_, ⟨p, hp, rfl⟩, _, ⟨q, hq, rfl⟩, _, ⟨r, hr, rfl⟩, rfl⟩, rfl⟩
theorem su_mem (l : List Int) (h : ∀ x ∈ l, x = 0 ∨ x = 1) (x : Int) : x ∈ su l ↔ x ∈ l := by
  unfold su
  by_cases h0 : (0 : Int) ∈ l <;> by_cases h1 : (1 : Int) ∈ l <;> simp only [h0, h1, if_true, if_false, List.mem_append, List.mem_singleton, List.not_mem_nil, or_false, false_or]
  all_goals
    constructor
    · intro hx
      first | (rcases hx with rfl | rfl <;> assumption) | (subst hx; assumption) | exact hx.elim
    · intro hx
      have := h x hx
      rcases this with rfl | rfl <;> simp_all
/-- what is handed on, by signs -/
theorem next_mem {w : Nat} (hw : w < 4) {c d k : Nat} (hc : c ∈ sgn) (hd : d ∈ sgn) (hk : k ∈ k3) (s : Nat) : s ∈ wN (signL (tri w c d k)) ↔ ∃ p ∈ wN c, ∃ q ∈ wN d, ∃ r ∈ wN k, (s : Int) = fW w (p : Int) (q : Int) (r : Int) := by
  obtain ⟨h1, _, _, h4, _⟩ := tri_ok ⟨w, hw⟩ c hc d hd k hk
  simp only at h1 h4
  rw [← tri_mem, ← su_mem _ h1, h4, ways_wN, List.mem_map]
  constructor
  · intro h
    exact ⟨s, h, rfl⟩
  · rintro ⟨t, ht, e⟩
    rw [show s = t by omega]
    exact ht
theorem hW_step {w : Nat} (hw : w = 1 ∨ w = 2) {p q r m n : Nat} (hp : p = 0 ∨ p = 1) (hq : q = 0 ∨ q = 1) (hr : r = 0 ∨ r = 1) {s : Nat} (hs : (s : Int) = fW w (p : Int) (q : Int) (r : Int)) : hW w (2 * m + p) (2 * n + q) r = hW w m n s := by
  rcases hw with rfl | rfl
  · unfold hW
    rw [if_pos rfl, if_pos rfl, decide_eq_decide]
    rcases hp with rfl | rfl <;> rcases hq with rfl | rfl <;> rcases hr with rfl | rfl <;> simp [fW] at hs <;> omega
  · unfold hW
    rw [if_neg (by decide), if_neg (by decide), decide_eq_decide]
    rcases hp with rfl | rfl <;> rcases hq with rfl | rfl <;> rcases hr with rfl | rfl <;> simp [fW] at hs <;> omega
theorem fW_nat {w : Nat} (hw : w < 4) {p q r : Nat} (hp : p = 0 ∨ p = 1) (hq : q = 0 ∨ q = 1) (hr : r = 0 ∨ r = 1) : ∃ s : Nat, (s : Int) = fW w (p : Int) (q : Int) (r : Int) := by
  match w, hw with
  | 0, _ => exact ⟨(p + q + r) / 2, by simp [fW]⟩
  | 1, _ => rcases hp with rfl | rfl <;> rcases hq with rfl | rfl <;> rcases hr with rfl | rfl <;> first | exact ⟨0, by decide⟩ | exact ⟨1, by decide⟩
  | 2, _ => rcases hp with rfl | rfl <;> rcases hq with rfl | rfl <;> rcases hr with rfl | rfl <;> first | exact ⟨0, by decide⟩ | exact ⟨1, by decide⟩
  | 3, _ => exact ⟨(p + q + r) % 2, by simp [fW]⟩
theorem hand_eq {w : Nat} (hw : w = 1 ∨ w = 2) : ∀ (A B : List Nat) (k : Nat), Sg A → Sg B → k ∈ k3 → A.length = B.length → SignOf (fun v => ∃ m n q, Num A m ∧ Num B n ∧ q ∈ wN k ∧ hW w m n q = v) (bK w k A B)
  | [], [], k, _, _, hk, _ => by
    have base : ∀ (q : Nat), (q = 0 ∨ q = 1) → hW w 0 0 q = decide (q = 1) := fun q hq => by
      rcases hw with rfl | rfl <;> rcases hq with rfl | rfl <;> decide
    refine SignOf.congr (P := fun v => ∃ q ∈ wN k, decide (q = 1) = v) (fun v => ?_) ?_
    · constructor
      · rintro ⟨q, hq, rfl⟩
        exact ⟨0, 0, q, rfl, rfl, hq, base q (wN_01 k q hq)⟩
      · rintro ⟨m, n, q, rfl, rfl, hq, rfl⟩
        exact ⟨q, hq, (base q (wN_01 k q hq)).symm⟩
    · show SignOf _ k
      simp only [k3, List.mem_cons, List.not_mem_nil, or_false] at hk
      rcases hk with rfl | rfl | rfl
      · exact .inr (.inl ⟨rfl, ⟨0, by decide, by decide⟩, by rintro ⟨q, hq, e⟩; simp [wN] at hq; subst hq; revert e; decide⟩)
      · exact .inl ⟨rfl, ⟨1, by decide, by decide⟩, by rintro ⟨q, hq, e⟩; simp [wN] at hq; subst hq; revert e; decide⟩
      · exact .inr (.inr ⟨rfl, ⟨1, by decide, by decide⟩, ⟨0, by decide, by decide⟩⟩)
  | [], _ :: _, _, _, _, _, h => by simp at h
  | _ :: _, [], _, _, _, _, h => by simp at h
  | c :: A, d :: B, k, ha, hb, hk, hl => by
    have hc := ha c (List.mem_cons_self ..)
    have hd := hb d (List.mem_cons_self ..)
    have hw4 : w < 4 := by omega
    have h3 : signL (tri w c d k) ∈ k3 := (tri_ok ⟨w, hw4⟩ c hc d hd k hk).2.2.2.2
    have ih := hand_eq hw A B (signL (tri w c d k)) (fun x hx => ha x (List.mem_cons_of_mem _ hx)) (fun x hx => hb x (List.mem_cons_of_mem _ hx)) h3 (by simpa using hl)
    refine SignOf.congr (fun v => ?_) ih
    constructor
    · rintro ⟨m, n, s, hm, hn, hs, rfl⟩
      obtain ⟨p, hp, q, hq, r, hr, e⟩ := (next_mem hw4 hc hd hk s).mp hs
      exact ⟨2 * m + p, 2 * n + q, r, ⟨p, hp, m, hm, rfl⟩, ⟨q, hq, n, hn, rfl⟩, hr, hW_step hw (wN_01 _ _ hp) (wN_01 _ _ hq) (wN_01 _ _ hr) e⟩
    · rintro ⟨_, _, r, ⟨p, hp, m, hm, rfl⟩, ⟨q, hq, n, hn, rfl⟩, hr, rfl⟩
      obtain ⟨s, e⟩ := fW_nat hw4 (wN_01 _ _ hp) (wN_01 _ _ hq) (wN_01 _ _ hr)
      exact ⟨m, n, s, hm, hn, (next_mem hw4 hc hd hk s).mpr ⟨p, hp, q, hq, r, hr, e⟩, (hW_step hw (wN_01 _ _ hp) (wN_01 _ _ hq) (wN_01 _ _ hr) e).symm⟩
/-- a list of noughts and ones by its sign -/
theorem signL_of (l : List Int) (h : ∀ x ∈ l, x = 0 ∨ x = 1) (h0 : 0 < l.length) : SignOf (fun v => (if v then 1 else 0) ∈ l) (signL l) := by
  unfold signL SignOf
  match l, h0 with
  | x :: r, _ =>
    have hx := h x (List.mem_cons_self ..)
    by_cases h1 : (0 : Int) ∈ x :: r ∧ (1 : Int) ∈ x :: r
    · rw [if_pos h1]
      exact .inr (.inr ⟨rfl, h1.2, h1.1⟩)
    · rw [if_neg h1]
      rcases hx with rfl | rfl
      · refine .inr (.inl ⟨by simp, by simp, fun z => h1 ⟨by simp, by simpa using z⟩⟩)
      · refine .inl ⟨by simp, by simp, fun z => h1 ⟨by simpa using z, by simp⟩⟩
theorem bF_len (w : Nat) : ∀ (A B : List Nat) (k : Nat), A.length = B.length → (bF w k A B).length = A.length
  | [], [], _, _ => by simp [bF]
  | [], _ :: _, _, h => by simp at h
  | _ :: _, [], _, h => by simp at h
  | c :: A, d :: B, k, h => by
    show (_ :: bF w _ A B).length = A.length + 1
    rw [List.length_cons, bF_len w A B _ (by simpa using h)]
theorem sum_eq : ∀ (A B : List Nat) (k j : Nat), Sg A → Sg B → k ∈ k3 → A.length = B.length → j < A.length → SignOf (fun v => ∃ m n q, Num A m ∧ Num B n ∧ q ∈ wN k ∧ (m + n + q).testBit j = v) ((bF 0 k A B).getD j 0)
  | [], _, _, _, _, _, _, _, h => by simp at h
  | _ :: _, [], _, _, _, _, _, h, _ => by simp at h
  | c :: A, d :: B, k, 0, ha, hb, hk, hl, _ => by
    have hc := ha c (List.mem_cons_self ..)
    have hd := hb d (List.mem_cons_self ..)
    obtain ⟨h1, _, h3, _, _⟩ := tri_ok 3 c hc d hd k hk
    obtain ⟨m0, hm0⟩ := num_some A
    obtain ⟨n0, hn0⟩ := num_some B
    show SignOf _ (signL (tri 3 c d k))
    refine SignOf.congr (fun v => ?_) (signL_of (tri 3 c d k) h1 h3)
    rw [tri_mem]
    have bit : ∀ (p q r m n : Nat), ((if v = true then 1 else 0 : Int) = fW 3 (p : Int) (q : Int) (r : Int) ↔ (2 * m + p + (2 * n + q) + r).testBit 0 = v) := fun p q r m n => by
      rw [Nat.testBit_zero]
      simp only [fW]
      cases v with
      | true =>
        simp
        omega
      | false =>
        simp
        omega
    constructor
    · rintro ⟨p, hp, q, hq, r, hr, e⟩
      exact ⟨2 * m0 + p, 2 * n0 + q, r, ⟨p, hp, m0, hm0, rfl⟩, ⟨q, hq, n0, hn0, rfl⟩, hr, (bit p q r m0 n0).mp e⟩
    · rintro ⟨_, _, r, ⟨p, hp, m, hm, rfl⟩, ⟨q, hq, n, hn, rfl⟩, hr, e⟩
      exact ⟨p, hp, q, hq, r, hr, (bit p q r m n).mpr e⟩
  | c :: A, d :: B, k, j + 1, ha, hb, hk, hl, hj => by
    have hc := ha c (List.mem_cons_self ..)
    have hd := hb d (List.mem_cons_self ..)
    have h3 : signL (tri 0 c d k) ∈ k3 := (tri_ok 0 c hc d hd k hk).2.2.2.2
    have ih := sum_eq A B (signL (tri 0 c d k)) j (fun x hx => ha x (List.mem_cons_of_mem _ hx)) (fun x hx => hb x (List.mem_cons_of_mem _ hx)) h3 (by simpa using hl) (by simpa using hj)
    have ih : SignOf _ ((bF 0 k (c :: A) (d :: B)).getD (j + 1) 0) := ih
    refine SignOf.congr (fun v => ?_) ih
    have bit : ∀ (p q r m n s : Nat), (s : Int) = fW 0 (p : Int) (q : Int) (r : Int) → (2 * m + p + (2 * n + q) + r).testBit (j + 1) = (m + n + s).testBit j := fun p q r m n s e => by
      rw [Nat.testBit_succ]
      congr 1
      simp only [fW] at e
      omega
    constructor
    · rintro ⟨m, n, s, hm, hn, hs, rfl⟩
      obtain ⟨p, hp, q, hq, r, hr, e⟩ := (next_mem (by decide) hc hd hk s).mp hs
      exact ⟨2 * m + p, 2 * n + q, r, ⟨p, hp, m, hm, rfl⟩, ⟨q, hq, n, hn, rfl⟩, hr, bit p q r m n s e⟩
    · rintro ⟨_, _, r, ⟨p, hp, m, hm, rfl⟩, ⟨q, hq, n, hn, rfl⟩, hr, rfl⟩
      obtain ⟨s, e⟩ := fW_nat (w := 0) (by decide) (wN_01 _ _ hp) (wN_01 _ _ hq) (wN_01 _ _ hr)
      exact ⟨m, n, s, hm, hn, (next_mem (by decide) hc hd hk s).mpr ⟨p, hp, q, hq, r, hr, e⟩, (bit p q r m n s e).symm⟩
/-- all numbers, as the list grows -/
def numS (acc : List Nat) (c : Nat) : List Nat := acc.map (fun n => 2 * n + (wN c).getD 0 0) ++ acc.map (fun n => 2 * n + (wN c).getD ((wN c).length - 1) 0)
def nums (l : List Nat) : List Nat := l.foldl numS [0]
theorem nums_snoc (l : List Nat) (c : Nat) : nums (l ++ [c]) = numS (nums l) c := by
  unfold nums
  rw [List.foldl_append]
  rfl
theorem nums_len : ∀ l : List Nat, (nums l).length = 2 ^ l.length := fun l => by
  have gen : ∀ (l acc : List Nat), (l.foldl numS acc).length = acc.length * 2 ^ l.length := fun l => by
    induction l with
    | nil => intro acc; simp
    | cons c l ih =>
      intro acc
      rw [List.foldl_cons, ih, List.length_cons, Nat.pow_succ]
      unfold numS
      rw [List.length_append, List.length_map, List.length_map, ← Nat.mul_two, Nat.mul_assoc, Nat.mul_comm 2]
  have := gen l [0]
  simpa [nums] using this
theorem wN_ends (c p : Nat) : p ∈ wN c ↔ p = (wN c).getD 0 0 ∨ p = (wN c).getD ((wN c).length - 1) 0 := by
  unfold wN
  split <;> simp
theorem nums_mem : ∀ (A : List Nat) (m : Nat), m ∈ nums A.reverse ↔ Num A m
  | [], m => by simp [nums, Num]
  | c :: A, m => by
    rw [List.reverse_cons, nums_snoc]
    unfold numS
    rw [List.mem_append, List.mem_map, List.mem_map]
    constructor
    · rintro (⟨n, hn, rfl⟩ | ⟨n, hn, rfl⟩)
      · exact ⟨_, (wN_ends c _).mpr (.inl rfl), n, (nums_mem A n).mp hn, rfl⟩
      · exact ⟨_, (wN_ends c _).mpr (.inr rfl), n, (nums_mem A n).mp hn, rfl⟩
    · rintro ⟨p, hp, n, hn, rfl⟩
      rcases (wN_ends c p).mp hp with rfl | rfl
      · exact .inl ⟨n, (nums_mem A n).mpr hn, rfl⟩
      · exact .inr ⟨n, (nums_mem A n).mpr hn, rfl⟩
/-! ### the bits of all -/
def gW (w wd m n : Nat) : Nat := match w with
  | 0 => (m + n) % 2 ^ wd
  | 1 => if m = n then 1 else 0
  | _ => if m < n then 1 else 0
def pairs (w wd : Nat) (xs ys : List Nat) : List Nat := xs.flatMap fun m => ys.map fun n => gW w wd m n
def andL (l : List Nat) : Nat := l.foldl (· &&& ·) (l.getD 0 0)
def orL (l : List Nat) : Nat := l.foldl (· ||| ·) (l.getD 0 0)
def bitL (l : List Nat) (j : Nat) : Nat := if (andL l).testBit j = true then 49 else if (orL l).testBit j = false then 48 else 120
def bitsW (l : List Nat) (wd : Nat) : List Nat := (List.range wd).map fun i => bitL l (wd - 1 - i)
theorem and_bit (j : Nat) : ∀ (l : List Nat) (x : Nat), (l.foldl (· &&& ·) x).testBit j = (x.testBit j && l.all fun s => s.testBit j)
  | [], x => by simp
  | s :: l, x => by
    rw [List.foldl_cons, and_bit j l, Nat.testBit_and, List.all_cons, Bool.and_assoc]
theorem or_bit (j : Nat) : ∀ (l : List Nat) (x : Nat), (l.foldl (· ||| ·) x).testBit j = (x.testBit j || l.any fun s => s.testBit j)
  | [], x => by simp
  | s :: l, x => by
    rw [List.foldl_cons, or_bit j l, Nat.testBit_or, List.any_cons, Bool.or_assoc]
theorem bitL_of (l : List Nat) (j : Nat) (h0 : 0 < l.length) : SignOf (fun v => ∃ s ∈ l, s.testBit j = v) (bitL l j) := by
  match l, h0 with
  | x :: r, _ =>
    have ea : (andL (x :: r)).testBit j = (x :: r).all fun s => s.testBit j := by
      unfold andL
      rw [and_bit]
      simp [List.all_cons]
    have eo : (orL (x :: r)).testBit j = (x :: r).any fun s => s.testBit j := by
      unfold orL
      rw [or_bit]
      simp [List.any_cons]
    unfold bitL
    rw [ea, eo]
    by_cases h1 : ((x :: r).all fun s => s.testBit j) = true
    · rw [if_pos h1]
      rw [List.all_eq_true] at h1
      exact .inl ⟨rfl, ⟨x, by simp, h1 x (by simp)⟩, by
        rintro ⟨s, hs, e⟩
        rw [h1 s hs] at e
        cases e⟩
    · rw [if_neg h1]
      have hf : ∃ s ∈ x :: r, s.testBit j = false := by
        refine Classical.byContradiction fun z => h1 (List.all_eq_true.mpr fun s hs => ?_)
        cases e : s.testBit j with
        | true => rfl
        | false => exact absurd ⟨s, hs, e⟩ z
      by_cases h2 : ((x :: r).any fun s => s.testBit j) = false
      · rw [if_pos h2]
        rw [List.any_eq_false] at h2
        exact .inr (.inl ⟨rfl, hf, by
          rintro ⟨s, hs, e⟩
          exact h2 s hs e⟩)
      · rw [if_neg h2]
        have h3 : ((x :: r).any fun s => s.testBit j) = true := by
          cases e : (x :: r).any fun s => s.testBit j with
          | true => rfl
          | false => exact absurd e h2
        rw [List.any_eq_true] at h3
        exact .inr (.inr ⟨rfl, h3, hf⟩)
theorem pairs_mem (w wd : Nat) (xs ys : List Nat) (s : Nat) : s ∈ pairs w wd xs ys ↔ ∃ m ∈ xs, ∃ n ∈ ys, s = gW w wd m n := by
  unfold pairs
  rw [List.mem_flatMap]
  constructor
  · rintro ⟨m, hm, h⟩
    obtain ⟨n, hn, rfl⟩ := List.mem_map.mp h
    exact ⟨m, hm, n, hn, rfl⟩
  · rintro ⟨m, hm, n, hn, rfl⟩
    exact ⟨m, hm, List.mem_map.mpr ⟨n, hn, rfl⟩⟩
theorem getD_last (L : List Nat) (n i : Nat) (h : L.length = n) (hi : L.length - 1 - i < L.length) : L.getD (n - 1 - i) 0 = L[L.length - 1 - i]'hi := by
  subst h
  rw [List.getD_eq_getElem?_getD, List.getElem?_eq_getElem hi]
  rfl
/-- what all fillings give is what goes from bit to bit -/
theorem due_bb {w : Nat} {a b xs ys : List Nat} (ha : Sg a) (hb : Sg b) (hl : a.length = b.length) (hx : ∀ m, m ∈ xs ↔ m ∈ nums a) (hy : ∀ m, m ∈ ys ↔ m ∈ nums b) :
    0 < (pairs w a.length xs ys).length ∧ bitsW (pairs w a.length xs ys) (if w = 0 then a.length else 1) = bbS w a b := by
  have hxA : ∀ m, m ∈ xs ↔ Num a.reverse m := fun m => by
    rw [hx, ← nums_mem, List.reverse_reverse]
  have hyB : ∀ m, m ∈ ys ↔ Num b.reverse m := fun m => by
    rw [hy, ← nums_mem, List.reverse_reverse]
  obtain ⟨m0, hm0⟩ := num_some a.reverse
  obtain ⟨n0, hn0⟩ := num_some b.reverse
  have hpos : 0 < (pairs w a.length xs ys).length := List.length_pos_of_mem ((pairs_mem _ _ _ _ _).mpr ⟨m0, (hxA m0).mpr hm0, n0, (hyB n0).mpr hn0, rfl⟩)
  refine ⟨hpos, ?_⟩
  have hlr : a.reverse.length = b.reverse.length := by simpa using hl
  match w with
  | 0 =>
    show bitsW (pairs 0 a.length xs ys) a.length = (bF 0 48 a.reverse b.reverse).reverse
    have hF := bF_len 0 a.reverse b.reverse 48 hlr
    rw [List.length_reverse] at hF
    apply List.ext_getElem
    · rw [List.length_reverse, hF]
      simp [bitsW]
    · intro i h1 h2
      simp only [bitsW, List.length_map, List.length_range] at h1
      rw [List.getElem_reverse]
      simp only [bitsW, List.getElem_map, List.getElem_range]
      have s1 := bitL_of (pairs 0 a.length xs ys) (a.length - 1 - i) hpos
      have s2 := sum_eq a.reverse b.reverse 48 (a.length - 1 - i) (sg_rev ha) (sg_rev hb) k3_48 hlr (by rw [List.length_reverse]; omega)
      have e : (bF 0 48 a.reverse b.reverse).getD (a.length - 1 - i) 0 = (bF 0 48 a.reverse b.reverse)[(bF 0 48 a.reverse b.reverse).length - 1 - i]'(by omega) := by
        exact getD_last _ _ _ hF (by omega)
      rw [← e]
      refine SignOf.one s1 (SignOf.congr (fun v => ?_) s2)
      constructor
      · rintro ⟨m, n, q, hm, hn, hq, rfl⟩
        have hq0 : q = 0 := by simpa [wN] using hq
        subst hq0
        refine ⟨_, (pairs_mem _ _ _ _ _).mpr ⟨m, (hxA m).mpr hm, n, (hyB n).mpr hn, rfl⟩, ?_⟩
        show ((m + n) % 2 ^ a.length).testBit _ = _
        rw [Nat.testBit_mod_two_pow, decide_eq_true (by omega), Bool.true_and]
        rfl
      · rintro ⟨s, hs, rfl⟩
        obtain ⟨m, hm, n, hn, rfl⟩ := (pairs_mem _ _ _ _ _).mp hs
        refine ⟨m, n, 0, (hxA m).mp hm, (hyB n).mp hn, by decide, ?_⟩
        show _ = ((m + n) % 2 ^ a.length).testBit _
        rw [Nat.testBit_mod_two_pow, decide_eq_true (by omega), Bool.true_and]
        rfl
  | 1 =>
    show [bitL (pairs 1 a.length xs ys) 0] = [notS (bK 1 48 a.reverse b.reverse)]
    have s1 := bitL_of (pairs 1 a.length xs ys) 0 hpos
    have s2 := (hand_eq (w := 1) (.inl rfl) a.reverse b.reverse 48 (sg_rev ha) (sg_rev hb) k3_48 hlr).not
    congr 1
    refine SignOf.one s1 (SignOf.congr (fun v => ?_) s2)
    have bit : ∀ m n : Nat, (gW 1 a.length m n).testBit 0 = !hW 1 m n 0 := fun m n => by
      show (if m = n then 1 else 0 : Nat).testBit 0 = _
      unfold hW
      by_cases h : m = n <;> simp [h]
    constructor
    · rintro ⟨m, n, q, hm, hn, hq, e⟩
      have hq0 : q = 0 := by simpa [wN] using hq
      subst hq0
      exact ⟨_, (pairs_mem _ _ _ _ _).mpr ⟨m, (hxA m).mpr hm, n, (hyB n).mpr hn, rfl⟩, by rw [bit, e]; simp⟩
    · rintro ⟨s, hs, rfl⟩
      obtain ⟨m, hm, n, hn, rfl⟩ := (pairs_mem _ _ _ _ _).mp hs
      exact ⟨m, n, 0, (hxA m).mp hm, (hyB n).mp hn, by decide, by rw [bit]; simp⟩
  | w + 2 =>
    show [bitL (pairs (w + 2) a.length xs ys) 0] = [bK 2 48 a.reverse b.reverse]
    have s1 := bitL_of (pairs (w + 2) a.length xs ys) 0 hpos
    have s2 := hand_eq (w := 2) (.inr rfl) a.reverse b.reverse 48 (sg_rev ha) (sg_rev hb) k3_48 hlr
    congr 1
    refine SignOf.one s1 (SignOf.congr (fun v => ?_) s2)
    have bit : ∀ m n : Nat, (gW (w + 2) a.length m n).testBit 0 = hW 2 m n 0 := fun m n => by
      show (if m < n then 1 else 0 : Nat).testBit 0 = _
      unfold hW
      by_cases h : m < n <;> simp [h]
    constructor
    · rintro ⟨m, n, q, hm, hn, hq, rfl⟩
      have hq0 : q = 0 := by simpa [wN] using hq
      subst hq0
      exact ⟨_, (pairs_mem _ _ _ _ _).mpr ⟨m, (hxA m).mpr hm, n, (hyB n).mpr hn, rfl⟩, bit m n⟩
    · rintro ⟨s, hs, rfl⟩
      obtain ⟨m, hm, n, hn, rfl⟩ := (pairs_mem _ _ _ _ _).mp hs
      exact ⟨m, n, 0, (hxA m).mp hm, (hyB n).mp hn, by decide, (bit m n).symm⟩
end Dw

set_option Elab.async false
set_option linter.all false
set_option maxRecDepth 100000
namespace Dw
open PySem L2 Evl
/-! ### sorted(set(xs)), up to a thousand members; sum of a tuple -/
section
open PyProof.Rows
variable {P : Program} {w : World} {A : Around} {E : Value → Shared → Prop} {s : Shared} {a : Addr}
theorem sorted_setA {S : Int → Bool} {m : Nat} {Q : Value → Shared → Prop} (R : SetR w s.heap a S m) (calm : A.handled = none) (few : m ≤ 1000)
    (k : ∀ z p (o : Array Value) (c : Nat) (ms : List Int), (∀ b u, s.heap.get? b = some u → z.heap.get? b = some u) → z.gens = s.gens → z.os = s.os → s.heap.objs.size ≤ p → z.heap.get? p = some (seqObj "list" o c) → IntsAre o.toList ms → ms.Pairwise (· < ·) → (∀ j, j ∈ ms ↔ S j = true) → ms.length = m → Q (.ref p) z) :
    wpAny (model P w) A (call (.builtin "sorted") [.ref a]) Q E s := by
  obtain ⟨ob, es, ep, t, at0, ex0, dt, kg, nd, km, kb, kf, kn, kr, kl⟩ := R
  refine Calls.call_function_entry kind_sorted plain_sorted entry_sorted (args_sorted1 _) ?_; unfold Builtin.«sorted»
  refine wpAny_bind (m := checkCount "sorted" 1 1 _) (wpAny_pure (wpAny_bind (collect_set (A := A.in1) calm ⟨ob, at0, ex0.1, dt⟩ kf kb kr kl fun y vs k1 hz g1 o1 pm => ?_)))
  have nv : vs.length = m := by rw [pm.length_eq, List.length_map, Array.length_toList, kn]
  have hI : IntsAre vs (vs.map Builtin.Re.reRawOf) := ints_of vs fun x hx => by
    obtain ⟨en, he, rfl⟩ := List.mem_map.mp (pm.mem_iff.mp hx)
    obtain ⟨j, tk, e1, _⟩ := kg en he
    exact ⟨j, tk, e1⟩
  have pk : (vs.map Builtin.Re.reRawOf).Perm (es.toList.map keyOf) := by
    have g := pm.map Builtin.Re.reRawOf
    rwa [List.map_map] at g
  have nz : vs.length ≤ sizeLine := by rw [nv, sizeLine_eq]; omega
  refine wpAny_bind (wpAny_newList ?_ nz)
  have atL : (y.heap.push (seqObj "list" vs.toArray 0)).get? y.heap.objs.size = some (seqObj "list" vs.toArray 0) := Heap.get?_push_size _ rfl
  refine wpAny_bind (wpAny_holding (wpAny_call_entry slot_list_sort ⟨_, atL, rfl⟩ entry_list_sort (list_sort_treeAny atL hI nz fun o ms i1 i2 i3 => ⟨_, rfl, ?_⟩) (args_list_sort _)))
  obtain ⟨c, hc⟩ := sortedHeap_at (vs := vs) (out := o) atL
  have pn : ms.Perm (es.toList.map keyOf) := i2.trans pk
  refine wpAny_pure ⟨_, rfl, k _ y.heap.objs.size o c ms (fun b u e => ?_) g1 o1 hz hc i1 (lt_of_le_nodup ms i3 (pn.nodup_iff.mpr nd)) (fun j => by rw [pn.mem_iff, ← km j]) (by rw [pn.length_eq, List.length_map, Array.length_toList, kn])⟩
  have g := k1 b u e
  have lt := Heap.lt_size g
  show (sortedHeap (y.heap.push (seqObj "list" vs.toArray 0)) y.heap.objs.size vs o).get? b = some u
  rw [sortedHeap_old (Nat.ne_of_lt lt) (by rw [size_push']; exact Nat.lt_succ_of_lt lt)]
  exact Heap.get?_push_of_some _ g
end
section
variable {X : Cx}
def rSortedSetA (w : World) : List V → Hp → VK → Prop := fun vs H Q => ∃ (a : Addr) (S : Int → Bool) (n : Nat), vs = [V.ref a] ∧ H a = some (SetO w a S n) ∧ n ≤ 1000 ∧
  ∀ (ms : List Int) (p : Addr), ms.Pairwise (· < ·) → (∀ j : Int, j ∈ ms ↔ S j = true) → ms.length = n → H p = none → Q (.ref p) (upd H p (.lst (ms.map V.int)))
theorem cr_sortedSetA (calm : X.calm = true) : CallR X (.builtin "sorted") (rSortedSetA X.w) := by
  intro pins s σ H vs us Q I r h
  obtain ⟨a, S, n, rfl, ha, few, q⟩ := h
  rw [Vals.ref1 r]
  refine sorted_setA (setO_get I ha) (I.ok.hd calm) few fun z p o c ms k g y hp hg hi hs hm hl => ?_
  have nz : (ms.map V.int).length ≤ sizeLine := by rw [List.length_map, hl, sizeLine_eq]; omega
  have np : H p = none := I.hok.fresh hp
  have J : Inv X pins σ (upd H p (.lst (ms.map V.int))) { s with heap := z.heap, gens := z.gens, drawn := z.drawn, toks := z.toks } :=
    I.call (ch := []) (Un.laid k hp np) (I.hok.laid k hp ⟨nz, o.toList, c, vals_of_ints hi, hg⟩) (by rw [g]; exact I.bare) (fun _ u => nomatch u)
  have e : z = { s with heap := z.heap, gens := z.gens, drawn := z.drawn, toks := z.toks } := by
    cases z
    cases s
    cases y
    rfl
  rw [e]
  exact ⟨.ref p, _, J, rfl, q ms p hs hm hl np⟩
def rSumT (K : PySem.W.Frag) : List V → Hp → VK → Prop := fun vs H Q => ∃ (a : Addr) (ns : List Int), vs = [V.ref a] ∧ SqT K H a (ns.map V.int) ∧ Q (.int ns.sum) H
open PyProof.Rows in
theorem cr_sumT (calm : X.calm = true) : CallR X (.builtin "sum") (rSumT X.K) := by
  intro pins s σ H vs us Q I r h
  obtain ⟨a, ns, rfl, hs, q⟩ := h
  obtain ⟨its, rv, hl, _⟩ := I.tuple hs
  rw [Vals.ref1 r]
  have hi := rv.ints
  obtain ⟨xs, e⟩ := hi.allInts.items
  have hn : numsOf (intItems xs).toList = ns := by rw [← e]; exact hi.numsOf
  rw [nums_intItems] at hn
  rw [e] at hl
  refine PySem.W.ktm_sumG (I.ok.hd calm) hl fun h' tk t' hk => ?_
  rw [preSum_eq, List.take_of_length_le (by simp), hn]
  exact ⟨.int _, H, I.kept hk, ⟨_, rfl⟩, q⟩
end
end Dw

set_option Elab.async false
set_option linter.all false
set_option maxRecDepth 100000
namespace Dw
open PySem L2 Evl
/-! ### lists of tuples of three numbers -/
abbrev T3 := Int × Int × Int
def t3 (t : T3) : List V := [.int t.1, .int t.2.1, .int t.2.2]
inductive Tups (H : Hp) : List Addr → List T3 → Prop where
  | nil : Tups H [] []
  | cons {r : Addr} {rs : List Addr} {t : T3} {ts : List T3} : H r = some (.tup (t3 t)) → Tups H rs ts → Tups H (r :: rs) (t :: ts)
theorem Tups.len {H : Hp} {rs : List Addr} {ts : List T3} (h : Tups H rs ts) : rs.length = ts.length := by
  induction h with
  | nil => rfl
  | cons _ _ ih => rw [List.length_cons, List.length_cons, ih]
theorem Tups.mono {H H' : Hp} {rs : List Addr} {ts : List T3} (h : Tups H rs ts) (e : ∀ r xs, H r = some (.tup xs) → H' r = some (.tup xs)) : Tups H' rs ts := by
  induction h with
  | nil => exact .nil
  | cons a _ ih => exact .cons (e _ _ a) ih
theorem Tups.ex {H H' : Hp} {rs : List Addr} {ts : List T3} (h : Tups H rs ts) (e : Ex H H') : Tups H' rs ts := h.mono fun r xs a => e r _ a
theorem Tups.upd {H : Hp} {rs : List Addr} {ts : List T3} {l : Addr} {xs : List V} {o : HO} (h : Tups H rs ts) (hl : H l = some (.lst xs)) : Tups (L2.upd H l o) rs ts := h.mono fun r ys a => by
  have n : r ≠ l := fun z => by
    rw [z, hl] at a
    cases a
  rw [upd_ne n]
  exact a
theorem Tups.app {H : Hp} {rs rs' : List Addr} {ts ts' : List T3} (h : Tups H rs ts) (h' : Tups H rs' ts') : Tups H (rs ++ rs') (ts ++ ts') := by
  induction h with
  | nil => exact h'
  | cons a _ ih => exact .cons a ih
theorem Tups.at {H : Hp} {rs : List Addr} {ts : List T3} (h : Tups H rs ts) : ∀ {i : Nat} {r : Addr}, rs[i]? = some r → ∃ t, ts[i]? = some t ∧ H r = some (.tup (t3 t)) := by
  induction h with
  | nil => intro i r h; cases h
  | @cons r0 rs0 t0 ts0 a _ ih =>
    intro i r hi
    cases i with
    | zero =>
      have : r0 = r := Option.some.inj hi
      subst this
      exact ⟨t0, rfl, a⟩
    | succ i => exact ih hi
/-- a new list of new tuples -/
def EvTs (te : TE) (σ : L2.St) (H : Hp) (ts : List T3) : Prop := ∀ H1, Ex H H1 → ∀ Q : VK, (∀ p rs H2, H1 p = none → Ex H1 H2 → H2 p = some (.lst (rs.map V.ref)) → Tups H2 rs ts → Q (.ref p) H2) → te σ H1 Q
section
variable {K : PySem.W.Frag} {w : World} {σ : L2.St} {H H' : Hp} {ta tb tc te tx tl : TE} {t u : TT} {x y z v : V} {D : Ends}
theorem map_at {α : Type} {f : α → V} {xs : List α} {i : Nat} {y : V} (h : (xs.map f)[i]? = some y) : ∃ a, xs[i]? = some a ∧ y = f a := by
  rw [List.getElem?_map] at h
  cases hq : xs[i]? with
  | none =>
    rw [hq] at h
    cases h
  | some a =>
    rw [hq] at h
    exact ⟨a, rfl, (Option.some.inj h).symm⟩
theorem ets_lc {a : Addr} {ns : List Int} {j : Nat} {vs : List Nat} (g : Int → T3) (h : Ev tl σ H (.ref a)) (hx : SqL K H a (ns.map V.int)) (hz : ns.length ≤ 40000) (hw : ∀ x, wipe ((wipe σ vs).set j (some x)) vs = wipe σ vs)
    (he : ∀ (n : Int) H1, Ex H H1 → EvU te ((wipe σ vs).set j (some (.int n))) H1 (t3 (g n))) : EvTs (tLc (iList K tl) (gName j) tYes te vs) σ H (ns.map g) := fun H0 e Q q => h H0 e _ fun H1 e1 => ⟨a, rfl, ⟨_, ex_l (e.trans e1) hx⟩, fun Dl hD => by
  refine lc_list (xs := ns.map V.int) (fun i H2 => Ex H1 H2 ∧ ∃ rs, H2 Dl = some (.lst (rs.map V.ref)) ∧ Tups H2 rs ((ns.take i).map g)) ⟨Ex.new hD, [], upd_same, .nil⟩ (fun i H2 _ p => ex_l ((e.trans e1).trans p.1) hx) (fun i x H2 hi p => ?_) (fun H2 p => ?_)
  · obtain ⟨n, hn, rfl⟩ := map_at hi
    obtain ⟨x2, rs, hd, ht⟩ := p
    have hln := ht.len
    have hil : i < ns.length := (List.getElem?_eq_some_iff.mp hn).1
    refine ⟨hw _, he n H2 ((e.trans e1).trans x2) H2 (Ex.refl _) _ fun r H4 nr e4 h4 => ⟨_, e4 _ _ hd, sz_lt ?_, Ex.mut (x2.trans e4) hD, rs ++ [r], ?_, ?_⟩⟩
    · rw [List.length_map, hln, List.length_map, List.length_take]
      omega
    · rw [upd_same, List.map_append]
      rfl
    · rw [List.take_add_one, hn, List.map_append]
      refine ((ht.ex e4).app (.cons h4 .nil)).upd (e4 _ _ hd)
  · obtain ⟨x2, rs, hd, ht⟩ := p
    rw [List.length_map, List.take_length] at ht
    exact q Dl rs H2 (fresh_back e1 hD) (e1.trans x2) hd ht⟩
/-- over a list of tuples, by a name -/
theorem el_lcTs {p : Addr} {rs : List Addr} {ts : List T3} {j : Nat} {vs : List Nat} (g : T3 → V) (h : Ev tl σ H (.ref p)) (hp : H p = some (.lst (rs.map V.ref))) (ht : Tups H rs ts) (hz : rs.length ≤ 40000) (hw : ∀ x, wipe ((wipe σ vs).set j (some x)) vs = wipe σ vs)
    (he : ∀ (r : Addr) (t : T3) H1, Ex H H1 → t ∈ ts → H1 r = some (.tup (t3 t)) → Ev te ((wipe σ vs).set j (some (.ref r))) H1 (g t)) : EvL (tLc (iList K tl) (gName j) tYes te vs) σ H (ts.map g) := by
  have hs : (rs.map V.ref).length = ts.length := by rw [List.length_map, ht.len]
  rw [← given_all ts (0, 0, 0) g, ← hs]
  refine el_lcL (fun _ => true) (fun i => g (ts.getD i (0, 0, 0))) h (sq_of hp) (by rw [List.length_map]; exact hz) hw (fun i x H1 e hi => et_yes) (fun i x H1 e hi _ => ?_)
  obtain ⟨r, hr, rfl⟩ := map_at hi
  obtain ⟨t, h1, h2⟩ := ht.at hr
  rw [show ts.getD i (0, 0, 0) = t by rw [List.getD_eq_getElem?_getD, h1]; rfl]
  exact he r t H1 e (List.mem_of_getElem? h1) (e _ _ h2)
/-- over a list of tuples, by three names -/
theorem el_lcT3 {p : Addr} {rs : List Addr} {ts : List T3} {j1 j2 j3 : Nat} {vs : List Nat} (g : T3 → V) (h : Ev tl σ H (.ref p)) (hp : H p = some (.lst (rs.map V.ref))) (ht : Tups H rs ts) (hz : rs.length ≤ 40000) (hw : ∀ x y z, wipe ((((wipe σ vs).set j1 (some x)).set j2 (some y)).set j3 (some z)) vs = wipe σ vs)
    (he : ∀ (t : T3) H1, Ex H H1 → t ∈ ts → Ev te ((((wipe σ vs).set j1 (some (.int t.1))).set j2 (some (.int t.2.1))).set j3 (some (.int t.2.2))) H1 (g t)) : EvL (tLc (iList K tl) (gTup K 3 (gCons (gName j1) (gCons (gName j2) (gCons (gName j3) gNil)))) tYes te vs) σ H (ts.map g) := fun H0 e Q q => h H0 e _ fun H1 e1 => ⟨p, rfl, ⟨_, sq_of (e1 _ _ (e _ _ hp))⟩, fun Dl hD => by
  have hs : (rs.map V.ref).length = ts.length := by rw [List.length_map, ht.len]
  refine lc_list (xs := rs.map V.ref) (fun i H2 => Ex H1 H2 ∧ H2 Dl = some (.lst ((ts.map g).take i))) ⟨Ex.new hD, upd_same⟩ (fun i H2 _ p2 => sq_of (p2.1 _ _ (e1 _ _ (e _ _ hp)))) (fun i x H2 hi p2 => ?_) (fun H2 p2 => ?_)
  · obtain ⟨r, hr, rfl⟩ := map_at hi
    obtain ⟨t, h1, h2⟩ := ht.at hr
    have x02 := (e.trans e1).trans p2.1
    have hg : (ts.map g)[i]? = some (g t) := by rw [List.getElem?_map, h1]; rfl
    refine ⟨r, _, rfl, st_of (x02 _ _ h2), rfl, _, _, rfl, _, _, rfl, _, _, rfl, rfl, hw _ _ _, ?_⟩
    refine he t H2 x02 (List.mem_of_getElem? h1) H2 (Ex.refl _) _ fun H4 e4 => ⟨_, e4 _ _ p2.2, sz_lt ?_, ?_, ?_⟩
    · have := List.length_take_le' i (ts.map g)
      rw [List.length_map] at this hs
      omega
    · exact Ex.mut (p2.1.trans e4) hD
    · rw [upd_same, List.take_add_one, hg]
      rfl
  · obtain ⟨p1, p3⟩ := p2
    rw [hs, List.take_of_length_le (by rw [List.length_map]; exact Nat.le_refl _)] at p3
    exact q Dl H2 (fresh_back e1 hD) (e1.trans p1) p3⟩
/-- xs.extend([..]) -/
theorem s_ext {l : Addr} {xs ys : List V} (hl : H l = some (.lst xs)) (ha : Ev ta σ H (.ref l)) (h : EvL te σ H ys) (hz : xs.length + ys.length ≤ 100000) (k : ∀ H1, Ex H H1 → D.nx σ (L2.upd H1 l (.lst (xs ++ ys)))) :
    tDrop (tBM K "list" rExtend ta (tCons te tNil)) D σ H := ha H (Ex.refl H) _ fun H1 e1 =>
  ⟨Or.inl ⟨rfl, xs, sq_of (e1 l _ hl)⟩, h H1 e1 _ fun p H2 _ e2 h2 => ⟨l, p, xs, ys, rfl, rfl, e2 l _ (e1 l _ hl), h2, sz_of hz, k H2 (e1.trans e2)⟩⟩
theorem s_extT {l : Addr} {xs : List V} {ts : List T3} (hl : H l = some (.lst xs)) (ha : Ev ta σ H (.ref l)) (h : EvTs te σ H ts) (hz : xs.length + ts.length ≤ 100000) (k : ∀ rs H1, Ex H H1 → Tups H1 rs ts → D.nx σ (L2.upd H1 l (.lst (xs ++ rs.map V.ref)))) :
    tDrop (tBM K "list" rExtend ta (tCons te tNil)) D σ H := ha H (Ex.refl H) _ fun H1 e1 =>
  ⟨Or.inl ⟨rfl, xs, sq_of (e1 l _ hl)⟩, h H1 e1 _ fun p rs H2 _ e2 h2 h3 => ⟨l, p, xs, rs.map V.ref, rfl, rfl, e2 l _ (e1 l _ hl), h2, sz_of (by rw [List.length_map, h3.len]; exact hz), k rs H2 (e1.trans e2) h3⟩⟩
theorem ev_sumT {r : Addr} {ns : List Int} (h : Ev te σ H (.ref r)) (hr : SqT K H r (ns.map V.int)) : Ev (tCB (rSumT K) (tCons te tNil)) σ H (.int ns.sum) := fun H1 e Q q => h H1 e _ fun H2 e2 => ⟨r, ns, rfl, ex_t (e.trans e2) hr, q H2 e2⟩
theorem el_cat {xs ys : List V} (ha : EvL ta σ H xs) (hb : EvL tb σ H ys) (hz : xs.length + ys.length ≤ 100000) : EvL (tOp rCat ta tb) σ H (xs ++ ys) := fun H1 e Q q =>
  ha H1 e _ fun p H2 np e2 h2 => hb H2 (e.trans e2) _ fun r H3 nr e3 h3 => ⟨p, r, xs, ys, rfl, rfl, e3 _ _ h2, h3, sz_of hz, fun s ns => q s _ (fresh_back (e2.trans e3) ns) ((e2.trans e3).trans (Ex.new ns)) upd_same⟩
theorem ev_ixN {xs : List V} {i : Int} (ha : EvL ta σ H xs) (hb : ∀ H1, Ex H H1 → Ev tb σ H1 (.int i)) (h : atI xs i = some v) : Ev (tOp (rIxL K) ta tb) σ H v := ev_opL1 ha hb fun p H1 hp _ => rv_ixL (sq_of hp) h
theorem el_is {xs ys : List V} (h : EvL te σ H xs) (e : xs = ys) : EvL te σ H ys := e ▸ h
def rInt1 : List V → Hp → VK → Prop := fun xs H Q => (∃ i, xs = [.int i] ∧ Q (.int i) H) ∨ ∃ k, xs = [.bl k] ∧ Q (.int (if k then 1 else 0)) H
theorem ev_int1 {b : Bool} (h : Ev te σ H (.bl b)) : Ev (tCB rInt1 (tCons te tNil)) σ H (.int (if b then 1 else 0)) := fun H1 e Q q => h H1 e _ fun H2 e2 => .inr ⟨b, rfl, q H2 e2⟩
theorem ev_ltT {a b : List Nat} (ha : Ev ta σ H (.str (Tx a))) (hb : Ev tb σ H (.str (Tx b))) : Ev (tOp (fun x y H Q => ∃ i j, x = .str i ∧ y = .str j ∧ Q (.bl (decide (i.cps.toList < j.cps.toList))) H) ta tb) σ H (.bl (decide (a < b))) := ev_op ha hb fun H1 _ Q q => ⟨Tx a, Tx b, rfl, rfl, q H1 (Ex.refl _)⟩
theorem ev_geT {a b : List Nat} (ha : Ev ta σ H (.str (Tx a))) (hb : Ev tb σ H (.str (Tx b))) : Ev (tOp (fun x y H Q => ∃ i j, x = .str i ∧ y = .str j ∧ Q (.bl (!decide (i.cps.toList < j.cps.toList))) H) ta tb) σ H (.bl (!decide (a < b))) := ev_op ha hb fun H1 _ Q q => ⟨Tx a, Tx b, rfl, rfl, q H1 (Ex.refl _)⟩
theorem ev_countT {a : List Nat} {c : Nat} {n : Nat} (ha : Ev ta σ H (.str (Tx a))) (hb : Ev tb σ H (.str (Tx [c]))) (hn : Txt.count (Tx a) (Tx [c]) = n) : Ev (tM1 (fun x xs H Q => ∃ a b, x = .str a ∧ xs = [.str b] ∧ Q (.int (Txt.count a b)) H) ta tb) σ H (.int (n : Int)) := fun H1 e Q q =>
  ha H1 e _ fun H2 e2 => ⟨⟨_, rfl⟩, hb H2 (e.trans e2) _ fun H3 e3 => ⟨Tx a, Tx [c], rfl, rfl, by rw [hn]; exact q H3 (e2.trans e3)⟩⟩
theorem ev_cutA {l : List Nat} {th : TO} {j : Nat} (ha : Ev te σ H (.str (Tx l))) (h2 : EvO th σ H (some (j : Int))) (hj : j ≤ l.length) (hz : l.length ≤ 40000) : Ev (tSl rSlS te tNoPart th) σ H (.str (Tx (l.take j))) := fun H1 e Q q =>
  ha H1 e _ fun H2 e2 => eo_none H2 (Ex.refl _) _ fun H3 e3 => h2 H3 ((e.trans e2).trans e3) _ fun H4 e4 => ⟨Tx l, rfl, sz_of (by rw [Tx_len]; omega), by
    have : cutS (Tx l) none (some (j : Int)) = Tx (l.take j) := by
      unfold cutS
      rw [Tx_len, HT.sIx_none, HT.sIx_nat, Nat.min_eq_left hj]
      rfl
    rw [this]
    exact q H4 ((e2.trans e3).trans e4)⟩
theorem ev_cutB {l : List Nat} {th : TO} {i : Nat} (ha : Ev te σ H (.str (Tx l))) (h2 : EvO th σ H (some (i : Int))) (hi : i ≤ l.length) (hz : l.length ≤ 40000) : Ev (tSl rSlS te th tNoPart) σ H (.str (Tx (l.drop i))) := fun H1 e Q q =>
  ha H1 e _ fun H2 e2 => h2 H2 (e.trans e2) _ fun H3 e3 => eo_none H3 (Ex.refl _) _ fun H4 e4 => ⟨Tx l, rfl, sz_of (by rw [Tx_len]; omega), by
    have : cutS (Tx l) (some (i : Int)) none = Tx (l.drop i) := by
      unfold cutS
      rw [Tx_len, HT.sIx_none, HT.sIx_nat, Nat.min_eq_left hi]
      show Tx ((l.drop i).take (l.length - i)) = Tx (l.drop i)
      rw [List.take_of_length_le (by rw [List.length_drop]; exact Nat.le_refl _)]
    rw [this]
    exact q H4 ((e2.trans e3).trans e4)⟩
/-- sorted(set(..)) of noughts and ones, of any list of numbers -/
theorem el_suA {ns : List Int} (h : EvL te σ H (ns.map V.int)) (h01 : ∀ k ∈ ns, k = 0 ∨ k = 1) (hz : ns.length ≤ 1000) : EvL (tCB (rSortedSetA w) (tCons (tCB (rSetI K w) (tCons te tNil)) tNil)) σ H ((su ns).map V.int) := fun H1 e Q q =>
  h H1 e _ fun p H2 np e2 h2 => ⟨p, ns, rfl, sq_of h2, by omega, fun a c na hc => ⟨a, _, c, rfl, upd_same, by omega, fun ms r hp hm _ nr => by
    rw [su_one h01 hp (fun k => (hm k).trans decide_eq_true_iff)]
    exact q r _ (fresh_back e2 (fresh_back (Ex.new na) nr)) ((e2.trans (Ex.new na)).trans (Ex.new nr)) upd_same⟩⟩
theorem el_suVA {ns : List Int} {p : Addr} (h : Ev te σ H (.ref p)) (hp0 : SqL K H p (ns.map V.int)) (h01 : ∀ k ∈ ns, k = 0 ∨ k = 1) (hz : ns.length ≤ 1000) : EvL (tCB (rSortedSetA w) (tCons (tCB (rSetI K w) (tCons te tNil)) tNil)) σ H ((su ns).map V.int) := fun H1 e Q q =>
  h H1 e _ fun H2 e2 => ⟨p, ns, rfl, ex_l (e.trans e2) hp0, by omega, fun a c na hc => ⟨a, _, c, rfl, upd_same, by omega, fun ms r hp hm _ nr => by
    rw [su_one h01 hp (fun k => (hm k).trans decide_eq_true_iff)]
    exact q r _ (fresh_back e2 (fresh_back (Ex.new na) nr)) ((e2.trans (Ex.new na)).trans (Ex.new nr)) upd_same⟩⟩
/-- sorted(set(xs)) of numbers from nought on: a list of the same numbers -/
theorem s_retN {ns : List Nat} {p : Addr} (h : Ev te σ H (.ref p)) (hp0 : SqL K H p (ns.map fun n : Nat => V.int (n : Int))) (hz : ns.length ≤ 1000)
    (k : ∀ (ms : List Nat) r H1, (∀ m, m ∈ ms ↔ m ∈ ns) → ms.length ≤ ns.length → H r = none → Ex H H1 → H1 r = some (.lst (ms.map fun n : Nat => V.int (n : Int))) → D.rt (.ref r) H1) : tRet (tCB (rSortedSetA w) (tCons (tCB (rSetI K w) (tCons te tNil)) tNil)) D σ H := by
  refine h H (Ex.refl _) _ fun H2 e2 => ⟨p, ns.map fun n : Nat => (n : Int), rfl, ?_, by rw [List.length_map]; omega, fun a c na hc => ⟨a, _, c, rfl, upd_same, by rw [List.length_map] at hc; omega, fun ms r hp hm hl nr => ?_⟩⟩
  · rw [List.map_map]
    exact ex_l e2 hp0
  · have hm2 : ∀ j : Int, j ∈ ms ↔ ∃ n ∈ ns, (n : Int) = j := fun j => by rw [hm j, decide_eq_true_iff, List.mem_map]
    have e3 : ms = (ms.map Int.toNat).map fun n : Nat => (n : Int) := by
      rw [List.map_map]
      refine (List.map_id ms).symm.trans (List.map_congr_left fun j hj => ?_)
      obtain ⟨n, _, rfl⟩ := (hm2 j).mp hj
      rfl
    rw [e3, List.map_map]
    refine k (ms.map Int.toNat) r _ (fun m => ?_) (by rw [List.length_map, hl]; rw [List.length_map] at hc; exact hc) (fresh_back e2 (fresh_back (Ex.new na) nr)) ((e2.trans (Ex.new na)).trans (Ex.new nr)) upd_same
    rw [List.mem_map]
    constructor
    · rintro ⟨j, hj, rfl⟩
      obtain ⟨n, hn, rfl⟩ := (hm2 j).mp hj
      exact hn
    · intro hm3
      exact ⟨(m : Int), (hm2 _).mpr ⟨m, hm3, rfl⟩, rfl⟩
end
theorem su_01 {ns : List Int} : su ns = [0, 1] ↔ 0 ∈ ns ∧ 1 ∈ ns := by
  unfold su
  by_cases h0 : (0 : Int) ∈ ns <;> by_cases h1 : (1 : Int) ∈ ns <;> simp [h0, h1]
theorem str_01 {i : Int} (h : i = 0 ∨ i = 1) : (i.natAbs.log2 < 1920) ∧ (V.str (Str.ofString (toString i)) = V.str (Tx [if i = 1 then 49 else 48])) := by
  rcases h with rfl | rfl
  · exact ⟨by decide, by decide +kernel⟩
  · exact ⟨by decide, by decide +kernel⟩
theorem low_of {l : List Nat} (h : Sg l) : LowS (Tx l) := low_Tx h.low
theorem g_name {i : Nat} {v : V} {σ : L2.St} {H : Hp} {R : L2.St → Hp → Prop} (h : R (σ.set i (some v)) H) : gName i v σ H R := h
theorem ev_callL2' {σ : L2.St} {H : Hp} {te tw : TE} {z : V} {sp : Sp} {dvs : List V} {E : XK} {w : V} {xs : List V} (hw : Ev tw σ H w) (h : EvL te σ H xs) (hs : ∀ p H1, H1 p = some (.lst xs) → Ex H H1 → SpV sp ([w, .ref p] ++ dvs) H1 z) : Ev (tCall sp dvs E (tCons tw (tCons te tNil))) σ H z := fun H1 e Q q =>
  hw H1 e _ fun H0 e0 => h H0 (e.trans e0) _ fun p H2 _ e2 h2 => hs p H2 h2 ((e.trans e0).trans e2) H2 (Ex.refl _) Q (fun H3 e3 => q H3 ((e0.trans e2).trans e3)) E
theorem ev_callL1 {σ : L2.St} {H : Hp} {te : TE} {z : V} {sp : Sp} {dvs : List V} {E : XK} {xs : List V} (h : EvL te σ H xs) (hs : ∀ p H1, H1 p = some (.lst xs) → Ex H H1 → SpV sp ([.ref p] ++ dvs) H1 z) : Ev (tCall sp dvs E (tCons te tNil)) σ H z := fun H1 e Q q =>
  h H1 e _ fun p H2 _ e2 h2 => hs p H2 h2 (e.trans e2) H2 (Ex.refl _) Q (fun H3 e3 => q H3 (e2.trans e3)) E
/-! ### and, or of numbers from nought on -/
theorem band (a b : Nat) : Builtin.bitAnd (a : Int) (b : Int) = ((a &&& b : Nat) : Int) := PySem.W.os_band a b
theorem bor (a b : Nat) : Builtin.bitOr (a : Int) (b : Int) = ((a ||| b : Nat) : Int) := bitOr_nn (Int.natCast_nonneg _) (Int.natCast_nonneg _)
theorem shr_bit (x k : Nat) (v : Bool) : decide (V.int (Builtin.bitAnd ((x : Int) / 2 ^ ((k : Int).toNat)) 1) = V.int (if v then 1 else 0)) = decide (x.testBit k = v) := by
  have e : (x : Int) / 2 ^ ((k : Int).toNat) = ((x / 2 ^ k : Nat) : Int) := by
    rw [Int.toNat_natCast]
    simp
  have e2 : Builtin.bitAnd ((x : Int) / 2 ^ ((k : Int).toNat)) 1 = ((x / 2 ^ k % 2 : Nat) : Int) := by
    rw [e]
    refine (band (x / 2 ^ k) 1).trans ?_
    rw [Nat.and_one_is_mod]
  rw [e2, Nat.testBit_eq_decide_div_mod_eq, decide_eq_decide]
  have h2 : x / 2 ^ k % 2 = 0 ∨ x / 2 ^ k % 2 = 1 := by omega
  rcases h2 with h | h <;> rw [h] <;> cases v <;> decide
end Dw

set_option Elab.async false
set_option linter.all false
set_option maxRecDepth 100000
namespace Dw
open PySem L2 Evl
theorem ix_listK {X : Cx} {K : PySem.W.Frag} (h : X.K = K) : IxR X (rIxL K) := h ▸ ix_list
theorem cr_sumTK {X : Cx} {K : PySem.W.Frag} (h : X.K = K) (calm : X.calm = true) : CallR X (.builtin "sum") (rSumT K) := h ▸ cr_sumT calm
theorem code_of {l : List Nat} {i c : Nat} (h : (Tx l).cps[i]? = some c) : l[i]? = some c := by
  rw [← h]
  simp [Tx]
theorem drop_at {l : List Nat} {i c : Nat} (h : l[i]? = some c) : l.drop i = c :: l.drop (i + 1) := by
  obtain ⟨hi, rfl⟩ := List.getElem?_eq_some_iff.mp h
  exact List.drop_eq_getElem_cons hi
theorem take_snoc {l : List Nat} {i c : Nat} (h : l[i]? = some c) : l.take (i + 1) = l.take i ++ [c] := by
  rw [List.take_add_one, h]
  rfl
/-- all but what stands at p and at r is as it was -/
def ExC (p r : Addr) (H H' : Hp) : Prop := ∀ b o, b ≠ p → b ≠ r → H b = some o → H' b = some o
theorem ExC.of {p r : Addr} {H H' : Hp} (e : Ex H H') : ExC p r H H' := fun b o _ _ h => e b o h
theorem ExC.ofB {p r : Addr} {H H' : Hp} (e : ExB p H H') : ExC p r H H' := fun b o n _ h => e b o n h
theorem ExC.trans {p r : Addr} {H H1 H2 : Hp} (a : ExC p r H H1) (b : ExC p r H1 H2) : ExC p r H H2 := fun c o n m h => b c o n m (a c o n m h)
theorem ExC.upd {p r : Addr} {H H' : Hp} {o : HO} (e : ExC p r H H') : ExC p r H (L2.upd H' r o) := fun b u n m h => by
  rw [upd_ne m]
  exact e b u n m h
theorem ExC.back {p r : Addr} {H0 H H' : Hp} (e0 : Ex H0 H) (hp : H0 p = none) (hr : H0 r = none) (e : ExC p r H H') : Ex H0 H' := fun b o h => e b o (ne_of_none h hp) (ne_of_none h hr) (e0 b o h)
def RoomAt (H : Hp) (r : Addr) : Prop := ∃ x : Int, H r = some (.lst [.int x])
theorem RoomAt.ex {H H' : Hp} {r : Addr} (h : RoomAt H r) (e : Ex H H') : RoomAt H' r := let ⟨x, h⟩ := h; ⟨x, e _ _ h⟩
theorem pot_room {H : Hp} {p r : Addr} (h : PotAt H p) (h2 : RoomAt H r) : r ≠ p := fun z => by
  obtain ⟨x, y, h1, _⟩ := h
  obtain ⟨u, h2⟩ := h2
  rw [z, h1] at h2
  cases h2
theorem RoomAt.exB {H H' : Hp} {p r : Addr} (h : RoomAt H r) (hp : PotAt H p) (e : ExB p H H') : RoomAt H' r :=
  let n := pot_room hp h
  let ⟨x, h⟩ := h
  ⟨x, e _ _ n h⟩
section
variable {K : PySem.W.Frag} {w : World} {σ : L2.St} {H H' : Hp} {ta tb tc te tx tl : TE} {t u : TT} {x y z v : V} {D : Ends}
/-- over a list of whatever -/
theorem el_lcG {α : Type} [Inhabited α] {xs : List α} {a : Addr} {j : Nat} {vs : List Nat} (f : α → V) (g : α → V) (h : Ev tl σ H (.ref a)) (hx : SqL K H a (xs.map f)) (hz : xs.length ≤ 40000) (hw : ∀ x, wipe ((wipe σ vs).set j (some x)) vs = wipe σ vs)
    (he : ∀ (n : α) H1, Ex H H1 → n ∈ xs → Ev te ((wipe σ vs).set j (some (f n))) H1 (g n)) : EvL (tLc (iList K tl) (gName j) tYes te vs) σ H (xs.map g) := by
  have hs : (xs.map f).length = xs.length := List.length_map _
  rw [← given_all xs default g, ← hs]
  refine el_lcL (fun _ => true) (fun i => g (xs.getD i default)) h hx (by omega) hw (fun i x H1 e hi => et_yes) (fun i x H1 e hi _ => ?_)
  obtain ⟨n, hn, rfl⟩ := map_at hi
  rw [show xs.getD i default = n by rw [List.getD_eq_getElem?_getD, hn]; rfl]
  exact he n H1 e (List.mem_of_getElem? hn)
theorem tCons_def {tr : TA} {Q : List V → Hp → Prop} : tCons te tr σ H Q = te σ H fun x H1 => tr σ H1 fun xs H2 => Q (x :: xs) H2 := rfl
theorem tLst_def {tr : TA} {Q : VK} : tLst tr σ H Q = tr σ H fun xs H1 => xs.length ≤ sizeLine ∧ ∀ p, H1 p = none → Q (.ref p) (L2.upd H1 p (.lst xs)) := rfl
theorem tOp_def {r : R2} {Q : VK} : tOp r ta tb σ H Q = ta σ H fun x H1 => tb σ H1 fun y H2 => r x y H2 Q := rfl
/-- [[0, 1], [int(sign == '1')]][int(sign in '01')] -/
theorem el_ways {c i : Nat} (hi : σ[i]? = some (some (.str (Tx [c])))) : EvL (tOp (rIxL K) (tLst (tCons (tLst (tCons (tC (.int 0)) (tCons (tC (.int 1)) tNil))) (tCons (tLst (tCons (tCB rInt1 (tCons (tOp rEq (tVar i) (tC (.str (Str.ofString "1")))) tNil)) tNil)) tNil)))
    (tCB rInt1 (tCons (tOp rInS (tVar i) (tC (.str (Str.ofString "01")))) tNil))) σ H ((ways c).map V.int) := fun H0 e0 Q q => by
  have A1 : EvL (tLst (tCons (tC (.int 0)) (tCons (tC (.int 1)) tNil))) σ H0 [V.int 0, .int 1] := el_lst (ea_cons ev_c (ea_cons ev_c ea_nil)) (by simp)
  rw [tOp_def, tLst_def, tCons_def]
  refine A1 H0 (Ex.refl _) _ fun p1 H1 n1 e1 h1 => ?_
  have A2 : EvL (tLst (tCons (tCB rInt1 (tCons (tOp rEq (tVar i) (tC (.str (Str.ofString "1")))) tNil)) tNil)) σ H1 [V.int (if decide ([c] = [49]) = true then 1 else 0)] := el_lst (ea_cons (ev_int1 (ev_eqT (ev_var hi) ec_1)) ea_nil) (by simp)
  rw [tCons_def]
  refine A2 H1 (Ex.refl _) _ fun p2 H2 n2 e2 h2 => ?_
  refine ⟨by show 2 ≤ sizeLine; decide, fun p3 n3 => ?_⟩
  have e3 := Ex.new (o := .lst [V.ref p1, .ref p2]) n3
  have h3 := upd_same (H := H2) (a := p3) (o := .lst [V.ref p1, .ref p2])
  generalize L2.upd H2 p3 (.lst [V.ref p1, .ref p2]) = H3 at e3 h3 ⊢
  have A4 : Ev (tCB rInt1 (tCons (tOp rInS (tVar i) (tC (.str (Str.ofString "01")))) tNil)) σ H3 (.int (if decide (c ∈ [48, 49]) = true then 1 else 0)) := ev_int1 (ev_inT (ev_var hi) ec_01)
  refine A4 H3 (Ex.refl _) _ fun H4 e4 => ?_
  have x1 : Ex H0 H4 := ((e1.trans e2).trans e3).trans e4
  by_cases h : c ∈ [48, 49]
  · refine ⟨p3, _, 1, _, rfl, by rw [if_pos (decide_eq_true h)], sq_of (e4 _ _ h3), atI_nat (j := 1) rfl, q p2 H4 (fresh_back e1 n2) x1 ?_⟩
    unfold ways
    rw [if_pos h, (e3.trans e4) _ _ h2]
    simp
  · refine ⟨p3, _, 0, _, rfl, by rw [if_neg (by rw [decide_eq_false h]; decide)], sq_of (e4 _ _ h3), atI_nat (j := 0) rfl, q p1 H4 n1 x1 ?_⟩
    unfold ways
    rw [if_neg h, ((e2.trans e3).trans e4) _ _ h1]
    rfl
end
section
variable {K : PySem.W.Frag} {σ : L2.St} {H : Hp} {D : Ends} {tu tz : TS}
/-- for a, b in zip(x, y): .., two texts of one length -/
theorem q_forZ {la lb : List Nat} {j1 j2 : Nat} {tA : TA} (h : EvA tA σ H [.str (Tx la), .str (Tx lb)]) (hl : la.length = lb.length) (Pv : Nat → L2.St → Hp → Prop) (h0 : ∀ H1, Ex H H1 → Pv 0 σ H1)
    (hs : ∀ i c d σ' H', la[i]? = some c → lb[i]? = some d → Pv i σ' H' → ∀ H2, Ex H' H2 → tu { D with nx := Pv (i + 1), ct := Pv (i + 1), bk := tz D } ((σ'.set j1 (some (.str (Tx [c])))).set j2 (some (.str (Tx [d])))) H2)
    (hd : ∀ σ' H', Pv la.length σ' H' → tz D σ' H') : tSeq (tFor (iZipS tA) (gTup K 2 (gCons (gName j1) (gCons (gName j2) gNil))) tu) tz D σ H := by
  have hn : min (Tx la).cps.size (Tx lb).cps.size = la.length := by
    have h1 : (Tx la).cps.size = la.length := Tx_len _
    have h2 : (Tx lb).cps.size = lb.length := Tx_len _
    omega
  refine h H (Ex.refl _) _ fun H1 e1 => ⟨Tx la, Tx lb, rfl, for_it (D := { D with nx := tz D }) walk_zipS Pv (h0 H1 e1) (fun _ _ _ _ _ => True.intro) (fun i x σ' H2 H3 hi hv y => ?_) (fun σ' H2 hv => ?_)⟩
  · obtain ⟨T, c, d, rfl, nT, rfl, hc, hd⟩ := y
    refine ⟨T, _, rfl, st_of upd_same, rfl, _, _, rfl, _, _, rfl, rfl, ?_⟩
    exact hs i c d σ' H2 (code_of hc) (code_of hd) hv _ (Ex.new nT)
  · rw [hn] at hv
    exact hd σ' H2 hv
/-- for k in range(n - 1, -1, -1): .. -/
theorem q_forDown {n j : Nat} {tA : TA} (h : EvA tA σ H [.int ((n : Int) - 1), .int (-1), .int (-1)]) (hz : n ≤ 100000) (Pv : Nat → L2.St → Hp → Prop) (h0 : ∀ H1, Ex H H1 → Pv 0 σ H1)
    (hs : ∀ i σ' H', i < n → Pv i σ' H' → tu { D with nx := Pv (i + 1), ct := Pv (i + 1), bk := tz D } (σ'.set j (some (.int ((n - 1 - i : Nat) : Int)))) H')
    (hd : ∀ σ' H', Pv n σ' H' → tz D σ' H') : tSeq (tFor (iRng3 tA) (gName j) tu) tz D σ H := by
  have hn : ((n : Int) - 1 - (-1)).toNat = n := by omega
  refine h H (Ex.refl _) _ fun H1 e1 => ⟨(n : Int) - 1, -1, -1, ((n : Int) - 1 - (-1)).toNat, rfl, RgC.neg (by omega) (by omega) (by omega) (by omega), for_it (D := { D with nx := tz D }) walk_rangeC Pv (h0 H1 e1) (fun _ _ _ _ _ => True.intro) (fun i x σ' H2 H3 hi hv y => ?_) (fun σ' H2 hv => ?_)⟩
  · obtain ⟨rfl, hx⟩ := y
    rw [hn] at hi
    have hx2 : x = .int ((n - 1 - i : Nat) : Int) := by
      rw [hx]
      show V.int ((n : Int) - 1 + (i : Int) * -1) = _
      congr 1
      omega
    subst hx2
    exact hs i σ' H3 hi hv
  · rw [hn] at hv
    exact hd σ' H2 hv
end
theorem ways_at (c : Nat) : atI ((ways c).map V.int) 0 = some (.int (((wN c).getD 0 0 : Nat) : Int)) ∧ atI ((ways c).map V.int) (-1) = some (.int (((wN c).getD ((wN c).length - 1) 0 : Nat) : Int)) := by
  unfold ways wN
  by_cases h : c ∈ [48, 49]
  · rw [if_pos h, if_pos h]
    by_cases h2 : c = 49
    · rw [if_pos h2, if_pos h2]
      exact ⟨rfl, rfl⟩
    · rw [if_neg h2, if_neg h2]
      exact ⟨rfl, rfl⟩
  · rw [if_neg h, if_neg h]
    exact ⟨rfl, rfl⟩
theorem ways_len (c : Nat) : (ways c).length ≤ 2 := by
  unfold ways
  split <;> simp
theorem count_ok : ∀ a ∈ k3, ∀ b ∈ k3, ∀ c ∈ k3, Txt.count (Tx ([a] ++ [b] ++ [c])) (Tx [48]) = cnt 48 a b c ∧ Txt.count (Tx ([a] ++ [b] ++ [c])) (Tx [49]) = cnt 49 a b c := by decide +kernel
theorem most_k3 (c d k : Nat) : mostS c d k ∈ k3 := by
  unfold mostS
  split
  · decide
  · split <;> decide
theorem any_k3 (l : List Nat) : anyS l ∈ k3 := by
  unfold anyS
  split
  · decide
  · split <;> decide
/-! ### words -/
def wd : Nat → Str
  | 0 => "plus"
  | 1 => "same"
  | _ => "less"
theorem wd_plus : ∀ w : Fin 3, decide (V.str (wd w.val) = V.str (Str.ofString "plus")) = decide (w.val = 0) := by decide +kernel
theorem wd_same : ∀ w : Fin 3, decide (V.str (wd w.val) = V.str (Str.ofString "same")) = decide (w.val = 1) := by decide +kernel
theorem wd_less : ∀ w : Fin 3, decide (V.str (wd w.val) = V.str (Str.ofString "less")) = decide (w.val = 2) := by decide +kernel
theorem no_part : ∀ w : Fin 3, wd w.val ≠ Str.ofString "part" := by decide +kernel
theorem sign_end : ∀ w : Fin 3, ∀ k ∈ k3, (∀ x ∈ (ways k).map (fun c : Int => if w.val = 1 then 1 - c else c), x = 0 ∨ x = 1) ∧ 0 < ((ways k).map (fun c : Int => if w.val = 1 then 1 - c else c)).length ∧ signL ((ways k).map (fun c : Int => if w.val = 1 then 1 - c else c)) = if w.val = 1 then notS k else k := by decide +kernel
theorem e_xz : (Str.ofString "xz") = Tx [120, 122] := by decide +kernel
theorem e_sgn8 : (Str.ofString "01xz01xz").cps.toList = [48, 49, 120, 122, 48, 49, 120, 122] := by decide +kernel
theorem e_01 : (Str.ofString "01").cps.toList = [48, 49] := by decide +kernel
theorem ec_xz {σ : L2.St} {H : Hp} : Ev (tC (.str (Str.ofString "xz"))) σ H (.str (Tx [120, 122])) := by rw [e_xz]; exact ev_c
theorem triL_01 : ∀ c ∈ sgn, ∀ d ∈ sgn, ∀ k ∈ k3, ∀ t ∈ triL c d (ways k), (t.1 = 0 ∨ t.1 = 1) ∧ (t.2.1 = 0 ∨ t.2.1 = 1) ∧ (t.2.2 = 0 ∨ t.2.2 = 1) := by decide +kernel
theorem triL_len : ∀ c ∈ sgn, ∀ d ∈ sgn, ∀ k ∈ k3, (triL c d (ways k)).length ≤ 8 := by decide +kernel
theorem sum3 (t : T3) : ([t.1, t.2.1, t.2.2] : List Int).sum = t.1 + t.2.1 + t.2.2 := by
  simp
  omega
theorem tri_map (w c d k : Nat) : (tri w c d k).map V.int = (triL c d (ways k)).map fun t => V.int (fW w t.1 t.2.1 t.2.2) := by
  unfold tri
  rw [List.map_map]
  rfl
theorem pairs_step (w n m : Nat) (xs ys : List Nat) : pairs w n (xs ++ [m]) ys = pairs w n xs ys ++ ys.map fun y => gW w n m y := by
  unfold pairs
  rw [List.flatMap_append]
  simp
theorem pairs_len (w n : Nat) (xs ys : List Nat) : (pairs w n xs ys).length = xs.length * ys.length := by
  unfold pairs
  induction xs with
  | nil => simp
  | cons x xs ih =>
    rw [List.flatMap_cons, List.length_append, ih, List.length_map, List.length_cons, Nat.succ_mul]
    omega
end Dw

set_option Elab.async false
set_option linter.all false
set_option maxRecDepth 100000
set_option maxHeartbeats 2000000
namespace Dw
open PySem L2 Evl
/-! ### waves: the mathematics -/
abbrev T2 := Int × List Nat
/-- is a value that began at s long, by what stands behind it -/
def longB (l s : Int) : List T2 → Bool
  | [] => true
  | t :: _ => decide (t.1 - s > l)
/-- what is told behind the first one, the last told value u -/
def goH (l : Int) : List T2 → List Nat → List T2
  | [], _ => []
  | t :: r, u => if longB l t.1 r = true ∧ t.2 ≠ u then (t.1 + l, t.2) :: goH l r t.2 else goH l r u
/-- each more than l behind the one ahead, of another value -/
def Ch (l : Int) : Int → List Nat → List T2 → Prop
  | _, _, [] => True
  | s, u, t :: r => l < t.1 - s ∧ t.2 ≠ u ∧ Ch l t.1 t.2 r
def lastU : List Nat → List T2 → List Nat
  | u, [] => u
  | _, t :: r => lastU t.2 r
def shiftT (l : Int) (t : T2) : T2 := (t.1 + l, t.2)
theorem Ch.mono {l l' : Int} (h : l' ≤ l) : ∀ {r : List T2} {s : Int} {u : List Nat}, Ch l s u r → Ch l' s u r
  | [], _, _, _ => True.intro
  | t :: r, s, u, ⟨a, b, c⟩ => ⟨by omega, b, c.mono h⟩
theorem Ch.long {l s : Int} {u : List Nat} {r : List T2} (h : Ch l s u r) : longB l s r = true := by
  cases r with
  | nil => rfl
  | cons t r => exact decide_eq_true h.1
theorem go_ch {l : Int} : ∀ {r : List T2} {s : Int} {u : List Nat}, Ch l s u r → goH l r u = r.map (shiftT l)
  | [], _, _, _ => rfl
  | t :: r, s, u, ⟨a, b, c⟩ => by
    unfold goH
    rw [if_pos ⟨c.long, b⟩, go_ch c]
    rfl
theorem ch_lt {l : Int} (hl : 0 ≤ l) : ∀ {r : List T2} {s : Int} {u : List Nat}, Ch l s u r → ∀ t ∈ r, s + l < t.1
  | [], _, _, _, t, ht => by cases ht
  | a :: r, s, u, ⟨h1, _, h3⟩, t, ht => by
    rcases List.mem_cons.mp ht with rfl | h
    · omega
    · have := ch_lt hl h3 t h
      omega
theorem go_is {l : Int} (hl : 0 ≤ l) : ∀ {r : List T2} {s b : Int} {u v : List Nat}, Ch 0 s v r → (∀ t ∈ r, b < t.1) → Ch l b u (goH l r u)
  | [], _, _, _, _, _, _ => True.intro
  | t :: r, s, b, u, v, ⟨h1, h2, h3⟩, hb => by
    unfold goH
    split
    · rename_i hc
      refine ⟨?_, hc.2, ?_⟩
      · show l < t.1 + l - b
        have := hb t (List.mem_cons_self ..)
        omega
      · refine go_is hl h3 fun q hq => ?_
        show t.1 + l < q.1
        cases r with
        | nil => cases hq
        | cons a r =>
          have h4 : a.1 - t.1 > l := of_decide_eq_true hc.1
          rcases List.mem_cons.mp hq with rfl | h
          · omega
          · have := ch_lt (Int.le_refl 0) h3.2.2 q h
            omega
    · exact go_is hl h3 fun q hq => hb q (List.mem_cons_of_mem _ hq)
theorem go_last {l : Int} : ∀ (r : List T2) (u : List Nat), lastU u (goH l r u) = lastU u r
  | [], _ => rfl
  | t :: r, u => by
    unfold goH
    split
    · exact go_last r t.2
    · rename_i hc
      rw [go_last r u]
      cases r with
      | nil =>
        have : t.2 = u := by
          have h2 : ¬ t.2 ≠ u := fun z => hc ⟨rfl, z⟩
          exact Classical.not_not.mp h2
        show u = t.2
        exact this.symm
      | cons a r => rfl
theorem go_len {l : Int} : ∀ (r : List T2) (u : List Nat), (goH l r u).length ≤ r.length
  | [], _ => Nat.le_refl _
  | t :: r, u => by
    unfold goH
    split
    · have := go_len (l := l) r t.2
      rw [List.length_cons, List.length_cons]
      omega
    · have := go_len (l := l) r u
      rw [List.length_cons]
      omega
theorem go_mem {l : Int} : ∀ (r : List T2) (u : List Nat) (t : T2), t ∈ goH l r u → ∃ q ∈ r, t = shiftT l q
  | [], _, t, h => by cases h
  | a :: r, u, t, h => by
    unfold goH at h
    split at h
    · rcases List.mem_cons.mp h with rfl | h
      · exact ⟨a, List.mem_cons_self .., rfl⟩
      · obtain ⟨q, h1, h2⟩ := go_mem r _ t h
        exact ⟨q, List.mem_cons_of_mem _ h1, h2⟩
    · obtain ⟨q, h1, h2⟩ := go_mem r _ t h
      exact ⟨q, List.mem_cons_of_mem _ h1, h2⟩
theorem lastU_eq : ∀ (r : List T2) (t : T2), ((t :: r).getLast (by simp)).2 = lastU t.2 r
  | [], t => rfl
  | a :: r, t => by
    rw [List.getLast_cons (by simp)]
    exact lastU_eq r a
/-- held, of a wave that has a first -/
def heldH (l : Int) : List T2 → List T2
  | [] => []
  | t :: r => t :: goH l r t.2
theorem shift0 (r : List T2) : r.map (shiftT 0) = r := by
  induction r with
  | nil => rfl
  | cons t r ih =>
    rw [List.map_cons, ih]
    show (t.1 + 0, t.2) :: r = t :: r
    rw [Int.add_zero]
/-! ### waves in the heap -/
def t2 (t : T2) : List V := [.int t.1, .str (Tx t.2)]
inductive Stp (H : Hp) : List Addr → List T2 → Prop where
  | nil : Stp H [] []
  | cons {r : Addr} {rs : List Addr} {t : T2} {ts : List T2} : H r = some (.tup (t2 t)) → Stp H rs ts → Stp H (r :: rs) (t :: ts)
theorem Stp.len {H : Hp} {rs : List Addr} {ts : List T2} (h : Stp H rs ts) : rs.length = ts.length := by
  induction h with
  | nil => rfl
  | cons _ _ ih => rw [List.length_cons, List.length_cons, ih]
theorem Stp.mono {H H' : Hp} {rs : List Addr} {ts : List T2} (h : Stp H rs ts) (e : ∀ r xs, H r = some (.tup xs) → H' r = some (.tup xs)) : Stp H' rs ts := by
  induction h with
  | nil => exact .nil
  | cons a _ ih => exact .cons (e _ _ a) ih
theorem Stp.ex {H H' : Hp} {rs : List Addr} {ts : List T2} (h : Stp H rs ts) (e : Ex H H') : Stp H' rs ts := h.mono fun r xs a => e r _ a
theorem Stp.upd {H : Hp} {rs : List Addr} {ts : List T2} {l : Addr} {xs : List V} {o : HO} (h : Stp H rs ts) (hl : H l = some (.lst xs)) : Stp (L2.upd H l o) rs ts := h.mono fun r ys a => by
  have n : r ≠ l := fun z => by
    rw [z, hl] at a
    cases a
  rw [upd_ne n]
  exact a
theorem Stp.app {H : Hp} {rs rs' : List Addr} {ts ts' : List T2} (h : Stp H rs ts) (h' : Stp H rs' ts') : Stp H (rs ++ rs') (ts ++ ts') := by
  induction h with
  | nil => exact h'
  | cons a _ ih => exact .cons a ih
theorem Stp.at {H : Hp} {rs : List Addr} {ts : List T2} (h : Stp H rs ts) : ∀ {i : Nat} {r : Addr}, rs[i]? = some r → ∃ t, ts[i]? = some t ∧ H r = some (.tup (t2 t)) := by
  induction h with
  | nil => intro i r h; cases h
  | @cons r0 rs0 t0 ts0 a _ ih =>
    intro i r hi
    cases i with
    | zero =>
      have : r0 = r := Option.some.inj hi
      subst this
      exact ⟨t0, rfl, a⟩
    | succ i => exact ih hi
theorem Stp.to {H : Hp} {rs : List Addr} {ts : List T2} (h : Stp H rs ts) : ∀ {i : Nat} {t : T2}, ts[i]? = some t → ∃ r, rs[i]? = some r ∧ H r = some (.tup (t2 t)) := by
  induction h with
  | nil => intro i r h; cases h
  | @cons r0 rs0 t0 ts0 a _ ih =>
    intro i t hi
    cases i with
    | zero =>
      have : t0 = t := Option.some.inj hi
      subst this
      exact ⟨r0, rfl, a⟩
    | succ i => exact ih hi
def WvAt (H : Hp) (a : Addr) (ts : List T2) : Prop := ∃ rs, H a = some (.lst (rs.map V.ref)) ∧ Stp H rs ts
theorem WvAt.ex {H H' : Hp} {a : Addr} {ts : List T2} (h : WvAt H a ts) (e : Ex H H') : WvAt H' a ts := let ⟨rs, h1, h2⟩ := h; ⟨rs, e _ _ h1, h2.ex e⟩
/-! ### the pot with a count of what was drawn -/
def PotN (n : Nat) (H : Hp) (p : Addr) : Prop := ∃ x y c : Int, H p = some (.lst [.int x, .int y, .int c]) ∧ 0 ≤ x ∧ 0 ≤ y ∧ y < 2147483647 ∧ 0 ≤ c ∧ c ≤ n
theorem PotN.ex {n : Nat} {H H' : Hp} {p : Addr} (h : PotN n H p) (e : Ex H H') : PotN n H' p := let ⟨x, y, c, h1, h2⟩ := h; ⟨x, y, c, e _ _ h1, h2⟩
theorem PotN.upd {n : Nat} {H : Hp} {p D : Addr} {o : HO} (h : PotN n H p) (nd : D ≠ p) : PotN n (L2.upd H D o) p := let ⟨x, y, c, h1, h2⟩ := h; ⟨x, y, c, by rw [upd_ne nd.symm]; exact h1, h2⟩
theorem PotN.ne {n : Nat} {H : Hp} {p D : Addr} (h : PotN n H p) (nd : H D = none) : D ≠ p := fun z => by
  obtain ⟨x, y, c, h1, _⟩ := h
  rw [z, h1] at nd
  cases nd
theorem PotN.neT {n : Nat} {H : Hp} {p D : Addr} {xs : List V} (h : PotN n H p) (nd : H D = some (.tup xs)) : D ≠ p := fun z => by
  obtain ⟨x, y, c, h1, _⟩ := h
  rw [z, h1] at nd
  cases nd
theorem PotN.mono {n m : Nat} {H : Hp} {p : Addr} (h : PotN n H p) (hm : n ≤ m) : PotN m H p := let ⟨x, y, c, h1, h2, h3, h4, h5, h6⟩ := h; ⟨x, y, c, h1, h2, h3, h4, h5, by omega⟩
theorem WvAt.ne {n : Nat} {H : Hp} {a p : Addr} {ts : List T2} (h : WvAt H a ts) (hp : PotN n H p) : a ≠ p := fun z => by
  obtain ⟨rs, h1, _⟩ := h
  obtain ⟨x, y, c, h2, _⟩ := hp
  rw [z, h2] at h1
  cases rs with
  | nil => cases h1
  | cons r rs => cases h1
theorem WvAt.exB {n : Nat} {H H' : Hp} {a p : Addr} {ts : List T2} (h : WvAt H a ts) (hp : PotN n H p) (e : ExB p H H') : WvAt H' a ts := by
  have na := h.ne hp
  obtain ⟨rs, h1, h2⟩ := h
  exact ⟨rs, e _ _ na h1, h2.mono fun r xs hr => e _ _ (hp.neT hr) hr⟩
def spPotN (K : PySem.W.Frag) : Sp := fun vs H Q _ => ∃ (a : Addr) (ns : List Int) (k : Int), vs = [.ref a, .int k] ∧ SqL K H a (ns.map V.int) ∧ 0 ≤ k ∧ k ≤ 1000 ∧ ∀ (p : Addr) (H' : Hp), H p = none → Ex H H' → PotN 0 H' p → Q (.ref p) H'
def spDig : Sp := fun vs H Q _ => ∃ (p : Addr) (m : Int) (n : Nat), vs = [.ref p, .int m] ∧ PotN n H p ∧ n ≤ 1000000 ∧ 0 < m ∧ m < 1073741824 ∧ ∀ (H' : Hp) (d : Int), ExB p H H' → PotN (n + 1) H' p → 0 ≤ d → d < m → Q (.int d) H'
def isI' (m : Int) : V → Hp → Prop := fun v _ => ∃ d : Int, v = .int d ∧ 0 ≤ d ∧ d < m
def eqs' (w : V) : V → Hp → Prop := fun v _ => v = w
/-- draws k times at most -/
def EvQ (p : Addr) (k : Nat) (te : TE) (σ : L2.St) (H : Hp) (G : V → Hp → Prop) : Prop := ∀ H1 n, ExB p H H1 → PotN n H1 p → n + k ≤ 100000 → ∀ Q : VK, (∀ v H2, ExB p H1 H2 → PotN (n + k) H2 p → G v H2 → Q v H2) → te σ H1 Q
section
variable {K : PySem.W.Frag} {σ : L2.St} {H H' : Hp} {ta tb te tx tn : TE} {t u : TT} {x y z v : V} {D : Ends} {tu tz : TS} {p : Addr} {k n : Nat} {G G' : V → Hp → Prop}
theorem EvQ.mono (h : EvQ p k te σ H G) (hg : ∀ v H2, G v H2 → G' v H2) : EvQ p k te σ H G' := fun H1 n e hP hn Q q => h H1 n e hP hn Q fun v H2 e2 hP2 g => q v H2 e2 hP2 (hg v H2 g)
theorem evq_of {w : V} (h : ∀ H1, ExB p H H1 → Ev te σ H1 w) : EvQ p 0 te σ H (eqs' w) := fun H1 n e hP _ Q q => h H1 e H1 (Ex.refl _) Q fun H2 e2 => q w H2 (ExB.of e2) (hP.ex e2) rfl
theorem evq_c : EvQ p 0 (tC v) σ H (eqs' v) := evq_of fun _ _ => ev_c
theorem evq_dig {i : Nat} {E : XK} {m : Int} (hi : σ[i]? = some (some (.ref p))) (hm : EvQ p k te σ H (eqs' (.int m))) (h0 : 0 < m) (h1 : m < 1073741824) : EvQ p (k + 1) (tCall spDig [] E (tCons (tVar i) (tCons te tNil))) σ H (isI' m) := fun H1 n e hP hn Q q =>
  ⟨_, hi, hm H1 n e hP (by omega) _ fun v H2 e2 hP2 hv => ⟨p, m, n + k, by rw [hv]; rfl, hP2, by omega, h0, h1, fun H3 d e3 hP3 d0 d1 => q _ H3 (e2.trans e3) hP3 ⟨d, rfl, d0, d1⟩⟩⟩
theorem evq_digC {i : Nat} {E : XK} {m : Int} (hi : σ[i]? = some (some (.ref p))) (h0 : 0 < m) (h1 : m < 1073741824) : EvQ p 1 (tCall spDig [] E (tCons (tVar i) (tCons (tC (.int m)) tNil))) σ H (isI' m) := evq_dig hi evq_c h0 h1
/-- text[e] -/
theorem evq_sign {l : List Nat} (ha : ∀ H1, Ev ta σ H1 (.str (Tx l))) (hz : l.length ≤ 100000) (he : EvQ p k te σ H (isI' (l.length : Int))) : EvQ p k (tOp rIxS ta te) σ H (fun v _ => ∃ c ∈ l, v = .str (Tx [c])) := fun H1 n e hP hn Q q => by
  refine ha H1 H1 (Ex.refl _) _ fun H2 e2 => he H2 n (e.trans (ExB.of e2)) (hP.ex e2) hn _ fun v H3 e3 hP3 ⟨d, hv, d0, d1⟩ => ?_
  obtain ⟨c, hc, hm⟩ := at_sign (l := l) d0 d1
  exact ⟨Tx l, d, c, rfl, hv, sz_of (by rw [Tx_len]; exact hz), hc, q _ H3 ((ExB.of e2).trans e3) hP3 ⟨c, hm, rfl⟩⟩
/-- [a, b, ..][e], all constants -/
theorem evq_lit {tA : TA} {vs : List V} (hA : ∀ H1, EvA tA σ H1 vs) (hz : vs.length ≤ 100000) (he : EvQ p k te σ H (isI' (vs.length : Int))) : EvQ p k (tOp (rIxL K) (tLst tA) te) σ H (fun v _ => v ∈ vs) := fun H1 n e hP hn Q q => by
  refine hA H1 H1 (Ex.refl _) _ fun H2 e2 => ⟨sz_of hz, fun l hl => ?_⟩
  have e3 : Ex H2 (L2.upd H2 l (.lst vs)) := Ex.new hl
  have hq : l ≠ p := (hP.ex e2).ne hl
  refine he _ n (e.trans (ExB.of (e2.trans e3))) (hP.ex (e2.trans e3)) hn _ fun v H4 e4 hP4 ⟨d, hv, d0, d1⟩ => ?_
  obtain ⟨j, rfl⟩ := Int.eq_ofNat_of_zero_le d0
  have hj : j < vs.length := by omega
  refine ⟨l, vs, (j : Int), vs[j], rfl, hv, sq_of (e4 _ _ hq upd_same), atI_nat (by rw [List.getElem?_eq_getElem hj]), q _ H4 ((ExB.of (e2.trans e3)).trans e4) hP4 (List.getElem_mem hj)⟩
/-- a + e -/
theorem evq_add {a m : Int} (he : EvQ p k te σ H (isI' m)) : EvQ p k (tOp (rI0 fun i j => .int (i + j)) (tC (.int a)) te) σ H (fun v _ => ∃ d : Int, v = .int d ∧ a ≤ d ∧ d < a + m) := fun H1 n e hP hn Q q =>
  he H1 n e hP hn _ fun v H2 e2 hP2 ⟨d, hv, d0, d1⟩ => ⟨a, d, rfl, hv, q _ H2 e2 hP2 ⟨a + d, rfl, by omega, by omega⟩⟩
/-! statements -/
theorem n_asg {i : Nat} (h : EvQ p k te σ H G) (hP : PotN n H p) (hn : n + k ≤ 100000) (kk : ∀ v H1, ExB p H H1 → PotN (n + k) H1 p → G v H1 → tz D (σ.set i (some v)) H1) : tSeq (tAsg te (gName i)) tz D σ H := h H n (ExB.refl _ _) hP hn _ fun v H1 e hP1 g => kk v H1 e hP1 g
/-- ''.join([text[take(pot, ..)] for k in range(m)]) -/
theorem evq_bits {m j : Nat} {vs : List Nat} {ss : List Nat} (hn : ∀ H1, Ev tn σ H1 (.int (m : Int))) (hm : m ≤ 1000) (hw : ∀ x, wipe ((wipe σ vs).set j (some x)) vs = wipe σ vs)
    (he : ∀ (i : Nat) H1, ExB p H H1 → EvQ p 1 te ((wipe σ vs).set j (some (.int (i : Int)))) H1 fun v _ => ∃ c ∈ ss, v = .str (Tx [c])) :
    EvQ p m (tM1 (rJoinS K) (tC (.str (Str.ofString ""))) (tLc (iRng1 (tCons tn tNil)) (gName j) tYes te vs)) σ H (fun v _ => ∃ l : List Nat, v = .str (Tx l) ∧ l.length = m ∧ ∀ c ∈ l, c ∈ ss) := fun H1 n e hP hN Q q => by
  refine ⟨⟨_, rfl⟩, hn H1 H1 (Ex.refl _) _ fun H2 e2 => ⟨(m : Int), rfl, by omega, by omega, fun Dl hD => ?_⟩⟩
  have hP2 := hP.ex e2
  have nD := hP2.ne hD
  refine lc_range (lo := 0) (n := m) (fun i H4 => ExB p H2 H4 ∧ PotN (n + i) H4 p ∧ ∃ l : List Nat, H4 Dl = some (.lst (l.map fun c => V.str (Tx [c]))) ∧ l.length = i ∧ ∀ c ∈ l, c ∈ ss)
    ⟨ExB.of (Ex.new hD), hP2.ex (Ex.new hD), [], upd_same, rfl, fun x hx => by cases hx⟩ (fun i H4 hi hv => ?_) (fun H4 hv => ?_)
  · obtain ⟨e4, hP4, l, h4, hl, hs⟩ := hv
    refine ⟨hw _, ?_⟩
    have e0 : (0 : Int) + (i : Int) = (i : Int) := Int.zero_add _
    show te ((wipe σ vs).set j (some (.int ((0 : Int) + (i : Int))))) H4 _
    rw [e0]
    refine he i H4 ((e.trans (ExB.of e2)).trans e4) H4 (n + i) (ExB.refl _ _) hP4 (by omega) _ fun y H5 e5 hP5 ⟨c, hc, hy⟩ => ?_
    subst hy
    have h5 := e5 Dl _ nD h4
    refine ⟨_, h5, sz_lt (by rw [List.length_map]; omega), (e4.trans e5).mut hD, hP5.upd nD, l ++ [c], ?_, by rw [List.length_append, hl]; rfl, fun z hz => ?_⟩
    · rw [upd_same, List.map_append]
      rfl
    · rcases List.mem_append.mp hz with h | h
      · exact hs z h
      · rw [List.mem_singleton.mp h]
        exact hc
  · obtain ⟨e4, hP4, l, h4, hl, hs⟩ := hv
    refine ⟨Str.ofString "", Dl, l.map fun c => Tx [c], rfl, rfl, .inl (sq_of (by rw [map_strs]; exact h4)), by rw [ones_len]; omega, ?_⟩
    rw [join_ones]
    exact q _ H4 ((ExB.of e2).trans e4) hP4 ⟨l, rfl, hl, hs⟩
end
end Dw

set_option Elab.async false
set_option linter.all false
set_option maxRecDepth 100000
set_option maxHeartbeats 2000000
namespace Dw
open PySem L2 Evl
/-! ### waves compared -/
def stD (t : T2) : PyData := .tuple [.int t.1, .str (Tx t.2)]
def LowW (ts : List T2) : Prop := ∀ t ∈ ts, LowS (Tx t.2)
theorem dp_step {K : PySem.W.Frag} {H : Hp} {r : Addr} {t : T2} (h : H r = some (.tup (t2 t))) : Dp K H (.ref r) (stD t) := .tup (st_of h) (.cons (.int _) (.cons (.str _) .nil))
theorem Stp.dp {K : PySem.W.Frag} {H : Hp} {rs : List Addr} {ts : List T2} (h : Stp H rs ts) : DpAll K H (rs.map V.ref) (ts.map stD) := by
  induction h with
  | nil => exact .nil
  | cons a _ ih => exact .cons (dp_step a) ih
theorem lay_step {t : T2} (h : LowS (Tx t.2)) : (stD t).canLay0 = true := by
  unfold LowS at h
  simp [stD, PyData.canLay0, PyData.canLayAll0] at h ⊢
  exact h
theorem lay_steps : ∀ {ts : List T2}, LowW ts → PyData.canLayAll0 (ts.map stD) = true
  | [], _ => by simp [PyData.canLayAll0]
  | t :: ts, h => by
    rw [List.map_cons, PyData.canLayAll0, lay_step (h t (List.mem_cons_self ..)), lay_steps fun y hy => h y (List.mem_cons_of_mem _ hy)]
    rfl
theorem deep_step (t : T2) : (stD t).depth = 1 := by simp [stD, PyData.depth, PyData.depthAll]
theorem deep_steps : ∀ ts : List T2, PyData.depthAll (ts.map stD) ≤ 1
  | [] => by simp [PyData.depthAll]
  | t :: ts => by
    have h1 := deep_steps ts
    have h2 := deep_step t
    simp only [List.map_cons, PyData.depthAll]
    omega
theorem shaped_step {t : T2} (h : LowS (Tx t.2)) : SeqAt.shaped (stD t) = true := by
  have h2 := deep_step t
  show ((stD t).canLay0 && decide ((stD t).depth ≤ 64)) = true
  rw [Bool.and_eq_true]
  exact ⟨lay_step h, decide_eq_true (by omega)⟩
theorem shaped_steps {ts : List T2} (h : LowW ts) : SeqAt.shaped (.list (ts.map stD)) = true := by
  have h1 := deep_steps ts
  have h2 : PyData.depth (.list (ts.map stD)) ≤ 64 := by
    simp only [PyData.depth]
    omega
  show (PyData.canLay0 (.list (ts.map stD)) && decide (PyData.depth (.list (ts.map stD)) ≤ 64)) = true
  rw [Bool.and_eq_true]
  exact ⟨by simp only [PyData.canLay0]; exact lay_steps h, decide_eq_true h2⟩
theorem eqv_step (t : T2) : PyData.eqv (stD t) (stD t) = true := by simp [stD, PyData.eqv, PyData.eqvAll]
theorem eqv_steps : ∀ ts : List T2, PyData.eqvAll (ts.map stD) (ts.map stD) = true
  | [] => by simp [PyData.eqvAll]
  | t :: ts => by
    simp only [List.map_cons, PyData.eqvAll, eqv_step t, eqv_steps ts]
    rfl
section
variable {K : PySem.W.Frag} {H : Hp}
theorem rv_neWv {p q : Addr} {ts : List T2} (h1 : WvAt H p ts) (h2 : WvAt H q ts) (hl : LowW ts) : RV (rNeD K) (.ref p) (.ref q) H (.bl false) := fun H1 e Q k => by
  obtain ⟨rs, a1, a2⟩ := h1.ex e
  obtain ⟨ss, b1, b2⟩ := h2.ex e
  exact ⟨_, _, .lst (sq_of a1) a2.dp, .lst (sq_of b1) b2.dp, shaped_steps hl, shaped_steps hl, by rw [PyData.eqv, eqv_steps]; exact k H1 (Ex.refl _)⟩
theorem rv_neStep {p q : Addr} {t : T2} (h1 : H p = some (.tup (t2 t))) (h2 : H q = some (.tup (t2 t))) (hl : LowS (Tx t.2)) : RV (rNeD K) (.ref p) (.ref q) H (.bl false) := fun H1 e Q k =>
  ⟨_, _, dp_step (e _ _ h1), dp_step (e _ _ h2), shaped_step hl, shaped_step hl, by rw [eqv_step]; exact k H1 (Ex.refl _)⟩
end
/-! ### a new wave -/
def EvW (te : TE) (σ : L2.St) (H : Hp) (ts : List T2) : Prop := ∀ H1, Ex H H1 → ∀ Q : VK, (∀ g H2, H1 g = none → Ex H1 H2 → WvAt H2 g ts → Q (.ref g) H2) → te σ H1 Q
section
variable {K : PySem.W.Frag} {σ : L2.St} {H H' : Hp} {ta tb tc te tx tl : TE} {t u : TT} {x y z v : V} {D : Ends}
theorem ev_opWV {r : R2} {ts : List T2} (ha : EvW ta σ H ts) (hb : Ev tb σ H y) (hr : ∀ p H1, WvAt H1 p ts → Ex H H1 → RV r (.ref p) y H1 z) : Ev (tOp r ta tb) σ H z := fun H1 e Q q =>
  ha H1 e _ fun g H2 _ e2 h2 => hb H2 (e.trans e2) _ fun H3 e3 => hr g H3 (h2.ex e3) ((e.trans e2).trans e3) H3 (Ex.refl _) Q fun H4 e4 => q H4 ((e2.trans e3).trans e4)
theorem ev_opWW {r : R2} {ts us : List T2} (ha : EvW ta σ H ts) (hb : EvW tb σ H us) (hr : ∀ p q H1, WvAt H1 p ts → WvAt H1 q us → Ex H H1 → RV r (.ref p) (.ref q) H1 z) : Ev (tOp r ta tb) σ H z := fun H1 e Q q =>
  ha H1 e _ fun g H2 _ e2 h2 => hb H2 (e.trans e2) _ fun g3 H3 _ e3 h3 => hr g g3 H3 (h2.ex e3) h3 ((e.trans e2).trans e3) H3 (Ex.refl _) Q fun H4 e4 => q H4 ((e2.trans e3).trans e4)
/-- [.. for a, b in a new list of steps] -/
theorem ew_lc {rs : List Addr} {ts : List T2} {j1 j2 : Nat} {vs : List Nat} (f : T2 → T2) (h : EvL tl σ H (rs.map V.ref)) (ht : Stp H rs ts) (hz : rs.length ≤ 40000) (hw : ∀ x y, wipe (((wipe σ vs).set j1 (some x)).set j2 (some y)) vs = wipe σ vs)
    (he : ∀ (t : T2) H1, Ex H H1 → EvU te (((wipe σ vs).set j1 (some (.int t.1))).set j2 (some (.str (Tx t.2)))) H1 (t2 (f t))) : EvW (tLc (iList K tl) (gTup K 2 (gCons (gName j1) (gCons (gName j2) gNil))) tYes te vs) σ H (ts.map f) := fun H0 e Q q => h H0 e _ fun p H1 np e1 hp => ⟨p, rfl, ⟨_, sq_of hp⟩, fun Dl hD => by
  have hs : (rs.map V.ref).length = ts.length := by rw [List.length_map, ht.len]
  refine lc_list (xs := rs.map V.ref) (fun i H2 => Ex H1 H2 ∧ ∃ qs, H2 Dl = some (.lst (qs.map V.ref)) ∧ Stp H2 qs ((ts.take i).map f)) ⟨Ex.new hD, [], upd_same, .nil⟩ (fun i H2 _ p2 => sq_of (p2.1 _ _ hp)) (fun i x H2 hi p2 => ?_) (fun H2 p2 => ?_)
  · obtain ⟨r, hr, rfl⟩ := map_at hi
    obtain ⟨t, h1, h2⟩ := ht.at hr
    obtain ⟨x2, qs, hd, hq⟩ := p2
    have x02 := (e.trans e1).trans x2
    have hil : i < ts.length := (List.getElem?_eq_some_iff.mp h1).1
    have hln := hq.len
    rw [List.length_map, List.length_take] at hln
    refine ⟨r, _, rfl, st_of (x02 _ _ h2), rfl, _, _, rfl, _, _, rfl, rfl, hw _ _, ?_⟩
    refine he t H2 x02 H2 (Ex.refl _) _ fun g H4 ng e4 h4 => ⟨_, e4 _ _ hd, sz_lt ?_, Ex.mut (x2.trans e4) hD, qs ++ [g], ?_, ?_⟩
    · rw [List.length_map] at hs ⊢
      omega
    · rw [upd_same, List.map_append]
      rfl
    · rw [List.take_add_one, h1, List.map_append]
      exact ((hq.ex e4).app (.cons h4 .nil)).upd (e4 _ _ hd)
  · obtain ⟨x2, qs, hd, hq⟩ := p2
    rw [hs, List.take_length] at hq
    exact q Dl H2 (fresh_back e1 hD) (e1.trans x2) ⟨qs, hd, hq⟩⟩
/-- a list of steps, and a new wave behind it -/
theorem ew_cat {rs : List Addr} {ts us : List T2} (ha : EvL ta σ H (rs.map V.ref)) (ht : Stp H rs ts) (hb : EvW tb σ H us) (hz : ts.length + us.length ≤ 100000) : EvW (tOp rCat ta tb) σ H (ts ++ us) := fun H1 e Q q =>
  ha H1 e _ fun p H2 np e2 h2 => hb H2 (e.trans e2) _ fun r H3 nr e3 ⟨ss, h3, h4⟩ => ⟨p, r, rs.map V.ref, ss.map V.ref, rfl, rfl, e3 _ _ h2, h3, sz_of (by rw [List.length_map, List.length_map, ht.len, h4.len]; exact hz), fun s ns => q s _ (fresh_back (e2.trans e3) ns) ((e2.trans e3).trans (Ex.new ns)) ⟨rs ++ ss, by rw [upd_same, List.map_append], ((ht.ex ((e.trans e2).trans e3)).app h4).ex (Ex.new ns)⟩⟩
theorem ev_t0 {r : Addr} {t : T2} (ha : Ev ta σ H (.ref r)) (h : H r = some (.tup (t2 t))) : Ev (tOp (rIxT K) ta (tC (.int 0))) σ H (.int t.1) := ev_op ha ev_c (rv_ixT (st_of h) (atI_nat (j := 0) rfl))
theorem ev_t1 {r : Addr} {t : T2} (ha : Ev ta σ H (.ref r)) (h : H r = some (.tup (t2 t))) : Ev (tOp (rIxT K) ta (tC (.int 1))) σ H (.str (Tx t.2)) := ev_op ha ev_c (rv_ixT (st_of h) (atI_nat (j := 1) rfl))
end
theorem at_end {xs : List V} {v : V} : atI (xs ++ [v]) (-1) = some v := by
  unfold atI
  have : ixN (xs ++ [v]).length (-1) = some xs.length := by
    unfold ixN
    rw [List.length_append]
    show (if 0 ≤ (-1 : Int) then _ else _) = _
    first
      | (simp; omega)
      | (simp)
  rw [this]
  simp
theorem Stp.last {H : Hp} {rs : List Addr} : ∀ {ts : List T2} {t : T2}, Stp H rs (ts ++ [t]) → ∃ qs r, rs = qs ++ [r] ∧ H r = some (.tup (t2 t)) ∧ Stp H qs ts := fun {ts t} h => by
  generalize he : ts ++ [t] = us at h
  induction h generalizing ts with
  | nil => simp at he
  | @cons r0 rs0 t0 ts0 a b ih =>
    cases ts with
    | nil =>
      simp at he
      obtain ⟨rfl, rfl⟩ := he
      cases b
      exact ⟨[], r0, rfl, a, .nil⟩
    | cons t1 ts1 =>
      simp at he
      obtain ⟨rfl, h2⟩ := he
      obtain ⟨qs, r, h3, h4, h5⟩ := ih h2
      exact ⟨r0 :: qs, r, by rw [h3]; rfl, h4, .cons a h5⟩
/-! ### the promises -/
def spHeldW : Sp := fun vs H Q _ => ∃ (a : Addr) (l : Int) (t : T2) (r : List T2), vs = [.ref a, .int l] ∧ WvAt H a (t :: r) ∧ r.length ≤ 1000 ∧ ∀ (g : Addr) (H' : Hp), H g = none → Ex H H' → WvAt H' g (heldH l (t :: r)) → Q (.ref g) H'
/-- a wave that was drawn -/
structure WvOk (t : T2) (r : List T2) : Prop where
  t0 : t.1 = 0
  ch : Ch 0 0 t.2 r
  len : r.length ≤ 11
  val : ∀ q ∈ t :: r, Sg q.2 ∧ 1 ≤ q.2.length ∧ q.2.length = t.2.length ∧ q.2.length ≤ 8
  lim : ∀ q ∈ t :: r, q.1 ≤ 440
def spWaveW : Sp := fun vs H Q _ => ∃ (p : Addr) (n : Nat), vs = [.ref p] ∧ PotN n H p ∧ n ≤ 50000 ∧ ∀ (g : Addr) (H' : Hp) (t : T2) (r : List T2) (m : Nat), H g = none → ExB p H H' → PotN m H' p → m ≤ n + 200 → WvAt H' g (t :: r) → WvOk t r → Q (.ref g) H'
theorem spw_held {a : Addr} {l : Int} {t : T2} {r : List T2} {σ : L2.St} {H : Hp} {ta tb : TE} {E : XK} (ha : Ev ta σ H (.ref a)) (hb : Ev tb σ H (.int l)) (h : WvAt H a (t :: r)) (hz : r.length ≤ 1000) : EvW (tCall spHeldW [] E (tCons ta (tCons tb tNil))) σ H (heldH l (t :: r)) := fun H1 e Q q =>
  ha H1 e _ fun H2 e2 => hb H2 (e.trans e2) _ fun H3 e3 => ⟨a, l, t, r, rfl, h.ex ((e.trans e2).trans e3), hz, fun g H4 ng e4 h4 => q g H4 (fresh_back (e2.trans e3) ng) ((e2.trans e3).trans e4) h4⟩
theorem ch_snoc {l : Int} : ∀ {r : List T2} {s : Int} {u : List Nat} {t : T2}, Ch l s u r → (∀ q, (r.getLast? = some q ∨ (r = [] ∧ q = (s, u))) → l < t.1 - q.1 ∧ t.2 ≠ q.2) → Ch l s u (r ++ [t])
  | [], s, u, t, _, h => by
    have := h (s, u) (.inr ⟨rfl, rfl⟩)
    exact ⟨this.1, this.2, True.intro⟩
  | a :: r, s, u, t, ⟨h1, h2, h3⟩, h => by
    refine ⟨h1, h2, ch_snoc h3 fun q hq => ?_⟩
    rcases hq with hq | ⟨rfl, rfl⟩
    · exact h q (.inl (by
        cases r with
        | nil => cases hq
        | cons b r => rw [List.getLast?_cons_cons]; exact hq))
    · exact h a (.inl rfl)
end Dw

set_option Elab.async false
set_option linter.all false
set_option maxRecDepth 100000
set_option maxHeartbeats 2000000
namespace Dw
open PySem L2 Evl
def cellW (ns : List Int) (k : Int) : Int := if k < (ns.length : Int) then ns.getD k.toNat 0 else 0
theorem cellw_at {ns : List Int} {k : Int} (h0 : 0 ≤ k) (h1 : k < (ns.length : Int)) : atI (ns.map V.int) k = some (.int (cellW ns k)) := by
  obtain ⟨j, rfl⟩ := Int.eq_ofNat_of_zero_le h0
  have h2 : j < ns.length := by omega
  refine atI_nat ?_
  rw [List.getElem?_map, List.getElem?_eq_getElem h2]
  unfold cellW
  rw [if_pos h1, List.getD_eq_getElem?_getD]
  simp [List.getElem?_eq_getElem h2]
theorem s_sgn : Str.ofString "01xz" = Tx sgn := by decide +kernel
theorem fresh_B {n : Nat} {H H' : Hp} {p g : Addr} (hP : PotN n H p) (ng : g ≠ p) (e : ExB p H H') (h : H' g = none) : H g = none := by
  cases hx : H g with
  | none => rfl
  | some o =>
    have := e g o ng hx
    rw [h] at this
    cases this
/-- the value that is drawn anew, unlike the one ahead -/
def newV (l u : List Nat) : List Nat := if l = u then (match l with | [] => [] | c :: r => (if c = 48 then 49 else 48) :: r) else l
theorem newV_ne {l u : List Nat} (h : ¬ l = u) : newV l u = l := if_neg h
theorem newV_ok {l u ss : List Nat} (hss : ∀ c ∈ ss, c ∈ sgn) (h1 : 1 ≤ l.length) (hl : ∀ c ∈ l, c ∈ ss) : Sg (newV l u) ∧ (newV l u).length = l.length ∧ newV l u ≠ u := by
  unfold newV
  split
  · rename_i h
    cases l with
    | nil => simp at h1
    | cons c r =>
      refine ⟨fun d hd => ?_, rfl, fun z => ?_⟩
      · rcases List.mem_cons.mp hd with rfl | h2
        · split <;> decide
        · exact hss d (hl d (List.mem_cons_of_mem _ h2))
      · rw [← h] at z
        have := (List.cons.inj z).1
        split at this <;> omega
  · rename_i h
    exact ⟨fun d hd => hss d (hl d hd), rfl, h⟩
theorem gap_at {way : Int} (h0 : 0 ≤ way) (h1 : way < 4) : ∃ mg : Int, atI [V.int 2, .int 5, .int 12, .int 40] way = some (.int mg) ∧ 0 < mg ∧ mg ≤ 40 := by
  have : way = 0 ∨ way = 1 ∨ way = 2 ∨ way = 3 := by omega
  rcases this with rfl | rfl | rfl | rfl
  · exact ⟨2, atI_nat (j := 0) rfl, by decide, by decide⟩
  · exact ⟨5, atI_nat (j := 1) rfl, by decide, by decide⟩
  · exact ⟨12, atI_nat (j := 2) rfl, by decide, by decide⟩
  · exact ⟨40, atI_nat (j := 3) rfl, by decide, by decide⟩
/-- a wave that grows: those ahead, and the last -/
def WvR (l0 : List Nat) (us : List T2) (z : T2) : Prop := ∃ r, us ++ [z] = ((0 : Int), l0) :: r ∧ Ch 0 0 l0 r ∧ (∀ q ∈ r, q.2.length = l0.length ∧ Sg q.2) ∧ (∀ q ∈ us, q.1 ≤ z.1)
theorem wvr_one {l0 : List Nat} : WvR l0 [] ((0 : Int), l0) := ⟨[], rfl, True.intro, (fun q hq => by cases hq), (fun q hq => by cases hq)⟩
theorem wvr_step {l0 l2 : List Nat} {us : List T2} {z : T2} {gap : Int} (h : WvR l0 us z) (hg : 1 ≤ gap) (hs : Sg l2) (hl : l2.length = l0.length) (hn : l2 ≠ z.2) : WvR l0 (us ++ [z]) (z.1 + gap, l2) := by
  obtain ⟨r, h1, h2, h3, h4⟩ := h
  refine ⟨r ++ [(z.1 + gap, l2)], by rw [h1]; rfl, ch_snoc h2 fun q hq => ?_, fun q hq => ?_, fun q hq => ?_⟩
  · have hz : q = z := by
      rcases hq with hq | ⟨rfl, rfl⟩
      · have := congrArg List.getLast? h1
        rw [List.getLast?_concat] at this
        cases r with
        | nil => cases hq
        | cons b r =>
          rw [List.getLast?_cons_cons, hq] at this
          exact (Option.some.inj this).symm
      · cases us with
        | nil => exact (List.cons.inj h1).1.symm
        | cons a us =>
          have := congrArg List.length h1
          simp at this
    subst hz
    exact ⟨by show 0 < q.1 + gap - q.1; omega, hn⟩
  · rcases List.mem_append.mp hq with h | h
    · exact h3 q h
    · rw [List.mem_singleton.mp h]
      exact ⟨hl, hs⟩
  · rcases List.mem_append.mp hq with h | h
    · have := h4 q h
      show q.1 ≤ z.1 + gap
      omega
    · rw [List.mem_singleton.mp h]
      show z.1 ≤ z.1 + gap
      omega
theorem wvr_ok {l0 : List Nat} {us : List T2} {z : T2} {w i : Nat} (h : WvR l0 us z) (hu : us.length = i) (hi : i ≤ 11) (hl : l0.length = w) (hw : 1 ≤ w ∧ w ≤ 8) (hs : Sg l0) (hz : z.1 ≤ 40 * (i : Int)) : ∃ t r, us ++ [z] = t :: r ∧ WvOk t r := by
  obtain ⟨r, h1, h2, h3, h4⟩ := h
  have hall : ∀ q ∈ us ++ [z], q.1 ≤ 440 := fun q hq => by
    rcases List.mem_append.mp hq with h | h
    · have := h4 q h
      omega
    · rw [List.mem_singleton.mp h]
      omega
  refine ⟨(0, l0), r, h1, ⟨rfl, h2, ?_, fun q hq => ?_, fun q hq => hall q (by rw [h1]; exact hq)⟩⟩
  · have := congrArg List.length h1
    simp at this
    omega
  · rcases List.mem_cons.mp hq with rfl | h
    · exact ⟨hs, by show 1 ≤ l0.length; omega, rfl, by show l0.length ≤ 8; omega⟩
    · obtain ⟨a, b⟩ := h3 q h
      exact ⟨b, by omega, a, by omega⟩
end Dw

set_option Elab.async false
set_option linter.all false
set_option maxRecDepth 100000
set_option maxHeartbeats 2000000
namespace Dw
open PySem L2 Evl
section
variable {K : PySem.W.Frag} {σ : L2.St} {H H' : Hp} {te : TE} {D : Ends} {tu tz : TS} {p : Addr} {k n : Nat} {G : V → Hp → Prop}
/-- x = [(0, e)] -/
theorem n_first {i : Nat} (h : EvQ p k te σ H G) (hP : PotN n H p) (hn : n + k ≤ 100000) (kk : ∀ v H1 r0 g, ExB p H H1 → PotN (n + k) H1 p → G v H1 → H1 r0 = none → L2.upd H1 r0 (.tup [.int 0, v]) g = none → tz D (σ.set i (some (.ref g))) (L2.upd (L2.upd H1 r0 (.tup [.int 0, v])) g (.lst [.ref r0]))) :
    tSeq (tAsg (tLst (tCons (tTup (tCons (tC (.int 0)) (tCons te tNil))) tNil)) (gName i)) tz D σ H := h H n (ExB.refl _ _) hP hn _ fun v H1 e hP1 g1 => ⟨by show 2 ≤ sizeLine; decide, fun r0 n0 => ⟨by show 1 ≤ sizeLine; decide, fun g ng => kk v H1 r0 g e hP1 g1 n0 ng⟩⟩
/-- for k in range(e): .. -/
theorem n_forR1 {j : Nat} {m : Int} (h : EvQ p k te σ H (isI' m)) (hP : PotN n H p) (hn : n + k ≤ 100000) (hm : m ≤ 100000) (Pv : Nat → L2.St → Hp → Prop) (h0 : ∀ H1, ExB p H H1 → PotN (n + k) H1 p → Pv 0 σ H1)
    (hs : ∀ (i : Nat) σ' H', (i : Int) + 1 < m → Pv i σ' H' → tu { D with nx := Pv (i + 1), ct := Pv (i + 1), bk := tz D } (σ'.set j (some (.int (i : Int)))) H') (hd : ∀ (c : Nat) σ' H', (c : Int) < m → Pv c σ' H' → tz D σ' H') : tSeq (tFor (iRng1 (tCons te tNil)) (gName j) tu) tz D σ H :=
  h H n (ExB.refl _ _) hP hn _ fun v H1 e hP1 ⟨d, hv, d0, d1⟩ => ⟨d, by rw [hv], by omega, by omega, for_range (D := { D with nx := tz D }) (lo := 0) (n := d.toNat) Pv (h0 H1 e hP1) (fun i σ' H' hi q => by
    have e0 : (0 : Int) + (i : Int) = (i : Int) := Int.zero_add _
    show tu { D with nx := Pv (i + 1), ct := Pv (i + 1), bk := tz D } (σ'.set j (some (.int ((0 : Int) + (i : Int))))) H'
    rw [e0]
    exact hs i σ' H' (by omega) q) (fun σ' H' q => hd d.toNat σ' H' (by omega) q)⟩
end
theorem cut_one {w : V} {xs : List V} : cutV (w :: xs) none (some 1) = [w] := by
  unfold cutV
  have h1 : HT.sIx (w :: xs).length (w :: xs).length (some 1) = 1 := by
    unfold HT.sIx
    first | rfl | (simp; done) | (simp; omega)
  rw [h1, HT.sIx_none]
  rfl
theorem cut_rest {w : V} {xs : List V} : cutV (w :: xs) (some 1) none = xs := by
  unfold cutV
  have h1 : HT.sIx (w :: xs).length 0 (some 1) = 1 := by
    unfold HT.sIx
    first | rfl | (simp; done) | (simp; omega)
  rw [h1, HT.sIx_none]
  simp
/-- wave[-1][1] -/
theorem ev_lastV {K : PySem.W.Frag} {σ : L2.St} {H : Hp} {i : Nat} {a : Addr} {t : T2} {r : List T2} (h : WvAt H a (t :: r)) (hi : σ[i]? = some (some (.ref a))) :
    Ev (tOp (rIxT K) (tOp (rIxL K) (tVar i) (tUn (rU fun i => .int (-i)) (tC (.int 1)))) (tC (.int 1))) σ H (.str (Tx (lastU t.2 r))) := by
  obtain ⟨rs, h1, h2⟩ := h
  have hd : t :: r = (t :: r).dropLast ++ [(t :: r).getLast (by simp)] := (List.dropLast_concat_getLast (by simp)).symm
  rw [hd] at h2
  obtain ⟨qs, rz, rfl, hrz, hqs⟩ := h2.last
  rw [List.map_append] at h1
  rw [← lastU_eq r t]
  exact ev_t1 (ev_op (ev_var hi) (ev_un ev_c ru_neg) (rv_ixL (sq_of h1) at_end)) hrz
/-- (a new wave)[-1][1] -/
theorem ev_lastW {K : PySem.W.Frag} {σ : L2.St} {H : Hp} {te : TE} {t : T2} {r : List T2} (h : EvW te σ H (t :: r)) :
    Ev (tOp (rIxT K) (tOp (rIxL K) te (tUn (rU fun i => .int (-i)) (tC (.int 1)))) (tC (.int 1))) σ H (.str (Tx (lastU t.2 r))) := fun H1 e Q q =>
  h H1 e _ fun g H2 ng e2 hg => by
    have hd : t :: r = (t :: r).dropLast ++ [(t :: r).getLast (by simp)] := (List.dropLast_concat_getLast (by simp)).symm
    obtain ⟨rs, h1, h2⟩ := hg
    rw [hd] at h2
    obtain ⟨qs, rz, rfl, hrz, hqs⟩ := h2.last
    rw [List.map_append] at h1
    refine ⟨1, rfl, g, _, -1, _, rfl, rfl, sq_of h1, at_end, rz, _, 1, _, rfl, rfl, st_of hrz, atI_nat (j := 1) rfl, ?_⟩
    rw [← lastU_eq r t] at q
    exact q H2 e2
end Dw

set_option Elab.async false
set_option linter.all false
set_option maxRecDepth 100000
/-! defs that are called while nothing is being shown (the list of guards is known to be empty), and repr of nested data in them -/
namespace L2
open PySem PySem.Spec PyProof.Rows

/-- a def's promise where nothing is being shown at the call -/
structure FnG (P : Program) (w : World) (K : PySem.W.Frag) (mg : Str → Option Value) (base : Heap) (CX : CXT) (k : Nat) (f : Addr) (fd : FuncData) (ps : List Str) (sp : Sp) : Prop where
  many : ∀ xs H Q E, sp xs H Q E → xs.length = ps.length
  goes : ∀ (A : Around) (outer : List Env) (s : Shared) (H : Hp) (args : Args) (us : List Value) (xs : List V) (Q : VK) (E : XK), A.guards = some [] → Room k A → Env0 P w K mg base A outer s H →
    BindsTo s fd args (ps.zip us) → Vals xs us → sp xs H Q E → codeAny (model P w) A (.call (.ref f) args) (CR CX outer P w H s Q E) s

section
variable {P : Program} {w : World} {K : PySem.W.Frag} {mg : Str → Option Value} {base : Heap}
theorem FnG.more {CX : CXT} {j k : Nat} {f : Addr} {fd : FuncData} {ps : List Str} {sp : Sp} (F : FnG P w K mg base CX j f fd ps sp) (h : j ≤ k) : FnG P w K mg base CX k f fd ps sp :=
  ⟨F.many, fun A outer s H args us xs Q E g hr => F.goes A outer s H args us xs Q E g (hr.mono h)⟩

/-- a def by its body, the body read where nothing is being shown -/
theorem fng_of {CX : CXT} {k : Nat} {f : Addr} {name qual : Str} {params : Arguments} {body : List Stmt} {scope : Scope} {dV kV doc pm cdv ct oc : Value} {an od : Option Addr} {osl : Array (Option Value)} {N ps : List Str} {sp : Sp}
    (lk : K.lookup f = some ⟨oc, od, .func (PySem.W.fnOf name qual params body scope dV kV doc pm an cdv ct), osl⟩) (cd : PySem.W.codeIn K cdv qual = true) (S : FnScope N ps scope)
    (many : ∀ xs H Q E, sp xs H Q E → xs.length = ps.length)
    (read : ∀ (A : Around) (outer : List Env) (s : Shared) (H : Hp) (xs : List V) (Q : VK) (E : XK), A.guards = some [] → Room k (A.deeper (envOfC qual scope s.heap.objs.size f cdv)) → sp xs H Q E →
      ∃ t, PSs (cxOf CX P w K mg base N qual scope f cdv A outer s H E) body t ∧ t { nx := fun _ H2 => Q .non H2, rt := Q } (start N xs) H) :
    FnG P w K mg base CX (k + 1) f (PySem.W.fnOf name qual params body scope dV kV doc pm an cdv ct) ps sp := by
  constructor
  · exact many
  intro A outer s H args us xs Q E g hr z hb rel want
  have inHeap : K.In s.heap := z.mod.kin.keeps fun b o e => (z.bs b o e).1
  have free : s.heap.NoLimit := z.mod.nolimit.keeps fun b o e => (z.bs b o e).1
  refine codeAny_call_function hr.depth (inHeap _ _ lk) rfl S.co S.gen rfl (PySem.W.codeRec_of inHeap cd) (hb _ _ _ _ (wpAny_newFunctionEnv_cells S.kind (fun y hy => ?_) fun env he s1 x => ?_))
  · obtain ⟨n, v⟩ := y
    rcases S.par n (List.of_mem_zip hy).1 with q | q
    · exact Or.inl q
    · exact Or.inr ⟨q, PySem.W.cellsFrom_some _ _ _ (Or.inl q)⟩
  · subst he
    obtain ⟨t, der, val⟩ := read A outer s H xs Q E g (hr.deeper _) want
    have I := inv_start (CX := CX) (E := E) S hr.hd z (many _ _ _ _ want) rel x
    refine ⟨free.keeps x.toInCall.keep, codeAny_func (wpAny_mono (der.run [] s1 (start N xs) H _ I val) (fun fl s2 out => ?_) fun e s2 out => out)⟩
    cases fl with
    | brk => exact (out.choose_spec.choose_spec.2).elim
    | cont => exact (out.choose_spec.choose_spec.2).elim
    | next =>
      obtain ⟨σ2, H2, J, q⟩ := out
      exact ⟨V.non, H2, J.os, J.bare, J.base, J.hok, rfl, q⟩
    | ret u =>
      obtain ⟨v, σ2, H2, J, rv, q⟩ := out
      exact ⟨v, H2, J.os, J.bare, J.base, J.hok, rv, q⟩

theorem Fun.okG {x qual : Str} {st : Stmt} {f : Addr} {fd : FuncData} {N ps : List Str} {k : Nat} {sp : Sp} (F : Fun K x qual st f fd) (S : FnScope N ps (defScope st)) (many : ∀ xs H Q E, sp xs H Q E → xs.length = ps.length)
    (read : ∀ (cdv : Value) (A : Around) (outer : List Env) (s : Shared) (H : Hp) (xs : List V) (Q : VK) (E : XK), A.guards = some [] → Room k (A.deeper (envOfC qual (defScope st) s.heap.objs.size f cdv)) → sp xs H Q E →
      ∃ t, PSs (cxOf CX0 P w K mg base N qual (defScope st) f cdv A outer s H E).nox (defBody st) t ∧ t { nx := fun _ H2 => Q .non H2, rt := Q } (start N xs) H) : FnG P w K mg base CX0 (k + 1) f fd ps sp := by
  obtain ⟨oc, od, kV, doc, pm, an, cdv, ct, osl, rfl, lk, cd⟩ := F.ex
  exact fng_of lk cd S many fun A outer s H xs Q E g hr want => (read cdv A outer s H xs Q E g hr want).imp fun t p => ⟨p.1.nox, p.2⟩
end

section
variable {X : Cx} {CX : CXT} {k : Nat} {f : Addr} {fd : FuncData} {ps : List Str} {ds : List Value} {dvs : List V} {sp : Sp} {E : XK}
/-- such a def called where nothing is being shown -/
theorem run_fng {pins : List (Addr × Obj)} {σ : St} {H : Hp} {s : Shared} {Q : VK} {us : List Value} {vs : List V} (F : FnG X.prog X.w X.K X.mg X.base CX k f fd ps sp) (g : X.A.guards = some []) (hr : Room k X.A) (hb : Binds X.K fd ps ds) (hd : Vals dvs ds) (hx : Passes CX X E)
    (I : Inv X pins σ H s) (rel : Vals vs us) (want : sp (vs ++ dvs) H Q E) : wpAny (model X.prog X.w) X.A (call (.ref f) us) (EP X pins σ Q) X.xe s := by
  have rel2 := rel.append hd
  refine wpAny_call (codeAny_mono (F.goes X.A X.stack s H ⟨us, []⟩ (us ++ ds) (vs ++ dvs) Q E g hr I.env0 (hb s us I.kIn ?_) rel2 want) fun r s2 out => ?_)
  · rw [← rel2.length]
    exact F.many _ _ _ _ want
  · match r, out with
    | .error e, out => exact hx pins σ H s e s2 I out
    | .ok (.ret u), out => exact I.after out
    | .ok .next, out => exact out.elim
    | .ok .brk, out => exact out.elim
    | .ok .cont, out => exact out.elim
theorem pe_callG {x : Str} {p pos : Pos} {e : Expr} {es : List Expr} {t : TA} (F : FnG X.prog X.w X.K X.mg X.base CX k f fd ps sp) (g : X.A.guards = some []) (hr : Room k X.A) (hg : Gl X x) (hm : X.mg x = some (.ref f)) (hk : PySem.W.keepIn X.K (.ref f) = true) (hb : Binds X.K fd ps ds)
    (hd : Vals dvs ds) (hx : Passes CX X E) (ha : PA X (e :: es) t) (nd : (x == ("__debug__" : Str)) = false := by decide) (he : starEach (e :: es) X.env = (false, eval e X.env) :: starEach es X.env := by rfl)
    (hpl : (backTo pos (starEach es X.env)).any (·.1) = false := by rfl) : PE X (.Call (.Name x p) (e :: es) [] pos) (tCall sp dvs E t) := by
  constructor
  intro pins s σ H Q I want
  refine wpAny_Call_Name_kw (ld_glob I hg hm (PySem.W.callWith_K (h₀ := X.base) I.ok.mod.kin hk (thn (ha.run pos pins s σ H _ I want) fun us s1 out => ?_) he hpl) nd)
  obtain ⟨vs, H1, I1, rel, q⟩ := out
  exact ⟨I1.kIn, run_fng F g hr hb hd hx I1 rel q⟩
end
end L2

set_option Elab.async false
set_option linter.all false
set_option maxRecDepth 100000
namespace L2
open PySem PySem.Spec PyProof.Rows

/-- the law's own call, from the promise of a def that is called where nothing is being shown -/
theorem lawg_call {P : Program} {w : World} {K : PySem.W.Frag} {mg mb : Str → Option Value} {CX : CXT} {k : Nat} {fa a : Addr} {fd : FuncData} {x : Str} {sp : Sp} {s₁ : Shared} {vs : List Value} {ns : List Int}
    (kin : K.In s₁.heap) (top : s₁.heap.Ns mainGlobals mg) (bt : s₁.heap.Ns builtinsNs mb) (boot : ∀ x : Str, x ≠ "__name__" → mb x = bootBuiltins x) (free : s₁.heap.NoLimit) (gens : s₁.gens = #[])
    (sc : s₁.heap.get? a = some { cls := .type "list", data := .seq vs.toArray }) (isI : IntsAre vs ns) (short : ns.length ≤ sizeLine) (room : Room k callerA)
    (F : ∀ base : Heap, K.In base → base.Ns mainGlobals mg → FnG P w K mg base CX k fa fd [x] sp) (binds : ∀ (s : Shared) (u : Value), BindsTo s fd ⟨[u], []⟩ [(x, u)])
    (want : ∀ H : Hp, SqL K H a (ns.map V.int) → sp [.ref a] H (fun v _ => v = .bl true) fun _ _ _ => False)
    (noX : ∀ H e s', CX [] H s₁ (fun _ _ _ => False) e s' → False) :
    codeAny (model P w) callerA (.call (.ref fa) ⟨[.ref a], []⟩) (fun r s' => r = .ok (.ret (.bool true)) ∧ OldK s₁.heap s'.heap ∧ s'.os = s₁.os ∧ AllBare s'.gens) s₁ := by
  have rel := vals_ints isI
  have long := isI.length
  -- over a heap that tracks the script at most
  have main : ∀ H : Hp, Only H → SqL K H a (ns.map V.int) → HOk P w H s₁.heap → (∀ b, H b ≠ none → b = a ∧ K.lookup a = none) →
      codeAny (model P w) callerA (.call (.ref fa) ⟨[.ref a], []⟩) (fun r s' => r = .ok (.ret (.bool true)) ∧ OldK s₁.heap s'.heap ∧ s'.os = s₁.os ∧ AllBare s'.gens) s₁ := by
    intro H only hS ok just
    have none_of : ∀ {b : Addr}, (b = a → False) → H b = none := fun {b} hb => by
      by_cases q : H b = none
      · exact q
      · exact (hb (just b q).1).elim
    have dict_ne : ∀ {b : Addr} {o : Obj} {es : Array DictEntry} {ep : Nat}, s₁.heap.get? b = some o → o.data = .dict es ep → H b = none := fun {b o es ep} e d => none_of fun z => by
      rw [z, sc] at e
      cases e
      cases d
    have nsT : ∀ {b : Addr} {m : Str → Option Value}, s₁.heap.Ns b m → (hidT s₁.heap H).Ns b m := fun {b m} h => by
      obtain ⟨o, es, ep, e, d, r⟩ := h
      exact ⟨o, es, ep, hidT_get e (dict_ne e d), d, r⟩
    have kinT : K.In (hidT s₁.heap H) := fun b o e => hidT_get (kin b o e) (by
      by_cases q : H b = none
      · exact q
      · obtain ⟨z1, z2⟩ := just b q
        rw [z1, z2] at e
        cases e)
    have e0 : Env0 P w K mg (hidT s₁.heap H) callerA [] s₁ H := by
      refine ⟨rfl, ⟨kinT, nsT top, ⟨mb, nsT bt, boot⟩, ?_⟩, fun b o e => of_hidT e, Nat.le_of_eq (hidT_size _ _), trivial, fun b hb => ?_, ok, .of_eq gens⟩
      · obtain ⟨mc, h1, h2⟩ := free
        exact ⟨mc, nsT h1, h2⟩
      · cases hb
    refine codeAny_mono ((F _ kinT (nsT top)).goes callerA [] s₁ H ⟨[.ref a], []⟩ [.ref a] [.ref a] _ _ rfl room e0 (binds s₁ (.ref a)) (.cons rfl .nil) (want H hS)) fun r s2 out => ?_
    match r, out with
    | .error e, out => exact (noX H e s2 out).elim
    | .ok .next, out => exact out.elim
    | .ok .brk, out => exact out.elim
    | .ok .cont, out => exact out.elim
    | .ok (.ret u), out =>
      obtain ⟨v, H2, os, bare, un, ok2, rv, q⟩ := out
      cases (show v = .bl true from q)
      cases (show u = Value.bool true from rv)
      refine ⟨rfl, OldK.of_keep fun b o e => ?_, os, bare⟩
      rcases only b with z | ⟨ob, xs, z⟩
      · exact un.keep b o e z (fun y => by cases y) (by simp)
      · have first := (ok b _ z).1
        have later := (ok2 b _ (un.frzs b ob _ z)).1
        rw [e] at first
        cases first
        exact later
  by_cases known : K.lookup a = none
  · refine main (fun b => if b = a then some (.frz { cls := .type "list", data := .seq vs.toArray } (.lst (ns.map V.int))) else none) (fun b => ?_) (.inl (.inr ⟨{ cls := .type "list", data := .seq vs.toArray }, if_pos rfl⟩)) (fun b u z => ?_) (fun b z => ?_)
    · by_cases hb : b = a
      · exact .inr ⟨_, _, if_pos hb⟩
      · exact .inl (if_neg hb)
    · by_cases hb : b = a
      · subst hb
        have z2 := (if_pos rfl).symm.trans z
        cases z2
        exact ⟨sc, by rw [List.length_map]; exact short, vs, _, rel, sc⟩
      · have z2 := (if_neg hb).symm.trans z
        cases z2
    · by_cases hb : b = a
      · exact ⟨hb, known⟩
      · exact absurd (if_neg hb) z
  · obtain ⟨o, ko⟩ := Option.ne_none_iff_exists'.mp known
    have e := kin a o ko
    rw [sc] at e
    cases e
    refine main (fun _ => none) (fun _ => .inl rfl) (.inr ⟨_, vs.toArray, _, ko, rfl, rfl, rfl, by rw [List.size_toArray, long]; exact short, by simpa using rel⟩) (fun b u z => ?_) fun b z => absurd rfl z
    cases (show (none : Option HO) = some u from z)

theorem walkg_of {l : PySem.W.OpenLaw} {n k : Nat} {q : Program} {loose : List Str} {XP : (Str → Option Value) → Heap → Prop} {YP : World → Heap → Prop} {d : DefRec} {K : Params → PySem.W.Frag} {CX : World → CXT} {sp : World → Sp} {x : Str}
    (hn : l.most = some n) (hn2 : n ≤ sizeLine) (hdf : d.params.defaults = []) (room : Room k callerA) (hY : ∀ (w : World) (h : Heap), YP w h → (K w.params).In h)
    (F : ∀ (w : World) (mg : Str → Option Value) (fa : Addr) (h : Heap), (K w.params).In h → h.Ns mainGlobals mg → mg d.name = some (.ref fa) → ∃ fd : FuncData, (∀ (s : Shared) (u : Value), BindsTo s fd ⟨[u], []⟩ [(x, u)]) ∧
      ∀ base : Heap, (K w.params).In base → base.Ns mainGlobals mg → FnG l.prog w (K w.params) mg base (CX w) k fa fd [x] (sp w))
    (want : ∀ (w : World) (H : Hp) (a : Addr) (ns : List Int), ns.length ≤ n → SqL (K w.params) H a (ns.map V.int) → sp w [.ref a] H (fun v _ => v = .bl true) fun _ _ _ => False)
    (noX : ∀ (w : World) (H : Hp) (s : Shared) (e : Value) (s' : Shared), CX w [] H s (fun _ _ _ => False) e s' → False) :
    PySem.W.WalkO q loose XP YP l.row.toRowW d [] (fun f vs => PySem.call f vs) := by
  refine Att.attach_call hn hdf fun w s₀ s₁ mg mb fa o pm cd doc a vs ns G Y ho hd hcd hmg hobj hints hlen hg => ?_
  have kin := hY w _ Y
  obtain ⟨fd, binds, hF⟩ := F w mg fa _ kin G.T.g hmg
  exact lawg_call kin G.T.g G.T.b G.T.builtins G.T.nolimit hg hobj hints (Nat.le_trans hlen hn2) room hF binds (fun H hS => want w H a ns hlen hS) fun H e s' => noX w H s₁ e s'

/-! ### how long what is shown may be -/
theorem listText_le (ts : List Str) : (listText ts).length ≤ piled ts + 2 := by
  have hX : (listText ts).length = (textFrom 0 "[" ts).length + 1 := by
    show (textFrom 0 "[" ts ++ "]").length = _
    rw [strLen_append]
    rfl
  rw [hX]
  cases ts with
  | nil => decide
  | cons t r =>
    have h := textFrom_length_pos r 1 (("[" : Str) ++ (if (0 : Nat) > 0 then ", " else "" : String) ++ t) (Nat.succ_pos 0)
    have e : ((("[" : Str) ++ (if (0 : Nat) > 0 then ", " else "" : String) ++ t)).length = 1 + t.length := by
      rw [strLen_append, strLen_append]; rfl
    show (textFrom 1 (("[" : Str) ++ (if (0 : Nat) > 0 then ", " else "" : String) ++ t) r).length + 1 ≤ _
    rw [h, e, piled_cons]
    omega
theorem tupleText_le (ts : List Str) : (tupleText ts).length ≤ piled ts + 3 := by
  unfold tupleText
  rw [strLen_append, strLen_append]
  have e1 : ((("(" : String) : Str)).length = 1 := rfl
  have e3 : (((if ts.length == 1 then ",)" else ")" : String) : Str)).length ≤ 2 := by split <;> decide
  rw [e1]
  by_cases h : ts = []
  · subst h
    have : (Str.join ", " []).length = 0 := rfl
    omega
  · have := join_length_add ts h
    omega
mutual
/-- a bound of what is shown -/
def shB : PyData → Nat
  | .none => 4
  | .bool _ => 5
  | .int _ => 2000
  | .str x => 10 * x.length + 2
  | .list xs => shBs xs + 2
  | .tuple xs => shBs xs + 3
  | .dict _ => 0
def shBs : List PyData → Nat
  | [] => 0
  | x :: xs => shB x + 2 + shBs xs
end
mutual
/-- data that can be shown: no dict, no great number, texts of signs -/
def ShOk : PyData → Prop
  | .none => True
  | .bool _ => True
  | .int i => i.natAbs.log2 < 1920
  | .str x => ∀ c ∈ x.cps.toList, c < 16 ^ 8
  | .list xs => ShOks xs
  | .tuple xs => ShOks xs
  | .dict _ => False
def ShOks : List PyData → Prop
  | [] => True
  | x :: xs => ShOk x ∧ ShOks xs
end
mutual
theorem shown_le : ∀ d : PyData, ShOk d → d.showable = true ∧ d.hasDict = false ∧ d.shown.length ≤ shB d
  | .none, _ => ⟨rfl, rfl, by show (Str.ofString "None").length ≤ 4; decide⟩
  | .bool b, _ => ⟨rfl, rfl, by cases b <;> (show (Str.ofString _).length ≤ 5; decide)⟩
  | .int i, h => ⟨by simpa [PyData.showable] using (show i.natAbs.log2 < 1920 from h), rfl, by
      have e := int_text_length_le (k := 1920) (by decide) h
      show (Str.ofString (toString i)).length ≤ 2000
      rw [PySem.ofString_length]
      omega⟩
  | .str x, h => ⟨rfl, rfl, by
      show (reprText x).length ≤ 10 * x.length + 2
      exact StrLaws.reprText_len x h⟩
  | .list xs, h => by
    obtain ⟨h1, h2, h3⟩ := showns_le xs h
    refine ⟨by simpa [PyData.showable] using h1, by simpa [PyData.hasDict] using h2, ?_⟩
    have := listText_le (PyData.shownAll xs)
    simp only [PyData.shown, shB]
    omega
  | .tuple xs, h => by
    obtain ⟨h1, h2, h3⟩ := showns_le xs h
    refine ⟨by simpa [PyData.showable] using h1, by simpa [PyData.hasDict] using h2, ?_⟩
    have := tupleText_le (PyData.shownAll xs)
    simp only [PyData.shown, shB]
    omega
  | .dict _, h => (show False from h).elim
theorem showns_le : ∀ ds : List PyData, ShOks ds → PyData.showableAll ds = true ∧ PyData.hasDictAll ds = false ∧ piled (PyData.shownAll ds) ≤ shBs ds
  | [], _ => ⟨rfl, rfl, Nat.le_refl _⟩
  | d :: ds, h => by
    obtain ⟨a1, a2, a3⟩ := shown_le d h.1
    obtain ⟨b1, b2, b3⟩ := showns_le ds h.2
    refine ⟨by simp [PyData.showableAll, a1, b1], by simp [PyData.hasDictAll, a2, b2], ?_⟩
    simp only [PyData.shownAll, shBs, piled_cons]
    omega
end

/-! ### repr of nested data -/
def rRepr (K : PySem.W.Frag) : List V → Hp → VK → Prop := fun xs H Q => ∃ (a : Addr) (d : PyData), xs = [.ref a] ∧ Dp K H (.ref a) d ∧ ShOk d ∧ d.depth ≤ 100 ∧ shB d ≤ sizeLine ∧ Q (.str d.shown) H
theorem call_repr {X : Cx} (g : X.A.guards = some []) (hu : X.A.units + 101 < cLine) : CallR X (.builtin "repr") (rRepr X.K) := by
  intro pins s σ H xs us Q I rel h
  obtain ⟨a, d, rfl, hd, ok, dep, fit, q⟩ := h
  cases rel with
  | cons r1 r2 =>
    cases r2
    cases r1
    obtain ⟨as, rd⟩ := Dp.reads I d (.ref a) (.ref a) hd rfl
    obtain ⟨h1, h2, h3⟩ := shown_le d ok
    exact repr_of_reads' rd h1 (PyData.noDict_hsm h2) g (by omega) (fun _ _ e => e) (fun h' u tk hk => ⟨.str d.shown, H, I.kept hk, ⟨u, rfl⟩, q⟩) (Nat.le_trans h3 fit)
theorem pe_repr {X : Cx} {p pos : Pos} {e : Expr} {te : TE} (g : X.A.guards = some []) (hu : X.A.units + 101 < cLine) (hg : Gl X "repr") (hm : X.mg "repr" = none) (ha : PE X e te)
    (he : starEach [e] X.env = (false, eval e X.env) :: starEach [] X.env := by rfl) (h0 : starEach [] X.env = [] := by rfl) : PE X (.Call (.Name "repr" p) [e] [] pos) (tCB (rRepr X.K) (tCons te tNil)) :=
  pe_callB (call_repr g hu) hg hm rfl (pa_cons ha pa_nil he) (by decide) (by decide) he (by rw [h0]; rfl)
end L2
namespace Evl
open PySem L2
theorem ev_repr {K : PySem.W.Frag} {σ : L2.St} {H : Hp} {ta : TE} {a : Addr} {d : PyData} (ha : Ev ta σ H (.ref a)) (hd : ∀ H2, Ex H H2 → Dp K H2 (.ref a) d) (ok : ShOk d) (dep : d.depth ≤ 100) (fit : shB d ≤ sizeLine) :
    Ev (tCB (rRepr K) (tCons ta tNil)) σ H (.str d.shown) := fun H1 e Q q => ha H1 e _ fun H2 e2 => ⟨a, d, rfl, hd H2 (e.trans e2), ok, dep, fit, q H2 e2⟩
end Evl

set_option Elab.async false
set_option linter.all false
set_option maxRecDepth 100000
set_option maxHeartbeats 2000000
namespace Dw
open PySem L2 Evl
/-! ### a wave shown -/
def shW (ts : List T2) : Str := PyData.shown (.list (ts.map stD))
/-- a wave whose numbers and texts can be shown -/
def ShW (ts : List T2) : Prop := ts.length ≤ 1000 ∧ ∀ t ∈ ts, t.1.natAbs < 2 ^ 1900 ∧ t.2.length ≤ 100 ∧ ∀ c ∈ t.2, c < 128
theorem sh_steps : ∀ {ts : List T2}, (∀ t ∈ ts, t.1.natAbs < 2 ^ 1900 ∧ t.2.length ≤ 100 ∧ ∀ c ∈ t.2, c < 128) → ShOks (ts.map stD) ∧ shBs (ts.map stD) ≤ 3020 * ts.length
  | [], _ => ⟨True.intro, Nat.le_refl _⟩
  | t :: ts, h => by
    obtain ⟨h1, h2, h3⟩ := h t (List.mem_cons_self ..)
    obtain ⟨i1, i2⟩ := sh_steps fun y hy => h y (List.mem_cons_of_mem _ hy)
    have hl : (Tx t.2).length = t.2.length := Tx_len t.2
    refine ⟨⟨⟨?_, ?_, True.intro⟩, i1⟩, ?_⟩
    · show t.1.natAbs.log2 < 1920
      by_cases h0 : t.1.natAbs = 0
      · rw [h0]
        decide
      · have := (Nat.log2_lt h0).mpr h1
        omega
    · intro c hc
      have : c ∈ t.2 := by simpa [Tx] using hc
      have := h3 c this
      omega
    · simp only [List.map_cons, shBs, stD, shB, hl, List.length_cons]
      omega
theorem ShW.ok {ts : List T2} (h : ShW ts) : ShOk (.list (ts.map stD)) ∧ PyData.depth (.list (ts.map stD)) ≤ 100 ∧ shB (.list (ts.map stD)) ≤ sizeLine := by
  obtain ⟨h1, h2⟩ := sh_steps h.2
  have h3 := deep_steps ts
  have h4 := h.1
  refine ⟨h1, by simp only [PyData.depth]; omega, ?_⟩
  have : sizeLine = 16777216 := by decide
  simp only [shB]
  omega
section
variable {K : PySem.W.Frag} {σ : L2.St} {H H' : Hp} {ta tb tc te tx tl : TE} {t u : TT} {x y z v : V} {D : Ends} {tu tz : TS}
theorem ev_reprW {a : Addr} {ts : List T2} (ha : Ev ta σ H (.ref a)) (h : WvAt H a ts) (hs : ShW ts) : Ev (tCB (rRepr K) (tCons ta tNil)) σ H (.str (shW ts)) := by
  obtain ⟨o1, o2, o3⟩ := hs.ok
  exact ev_repr ha (fun H2 e => by
    obtain ⟨rs, h1, h2⟩ := h.ex e
    exact .lst (sq_of h1) h2.dp) o1 o2 o3
/-! ### comprehensions and loops over a wave that stands -/
theorem ew_lcV {a : Addr} {ts : List T2} {j1 j2 : Nat} {vs : List Nat} (f : T2 → T2) (h : Ev tl σ H (.ref a)) (hW : WvAt H a ts) (hz : ts.length ≤ 40000) (hw : ∀ x y, wipe (((wipe σ vs).set j1 (some x)).set j2 (some y)) vs = wipe σ vs)
    (he : ∀ (t : T2) H1, t ∈ ts → Ex H H1 → EvU te (((wipe σ vs).set j1 (some (.int t.1))).set j2 (some (.str (Tx t.2)))) H1 (t2 (f t))) : EvW (tLc (iList K tl) (gTup K 2 (gCons (gName j1) (gCons (gName j2) gNil))) tYes te vs) σ H (ts.map f) := fun H0 e Q q => h H0 e _ fun H1 e1 => by
  obtain ⟨rs, hp, ht⟩ := hW.ex (e.trans e1)
  refine ⟨a, rfl, ⟨_, sq_of hp⟩, fun Dl hD => ?_⟩
  have hs : (rs.map V.ref).length = ts.length := by rw [List.length_map, ht.len]
  refine lc_list (xs := rs.map V.ref) (fun i H2 => Ex H1 H2 ∧ ∃ qs, H2 Dl = some (.lst (qs.map V.ref)) ∧ Stp H2 qs ((ts.take i).map f)) ⟨Ex.new hD, [], upd_same, .nil⟩ (fun i H2 _ p2 => sq_of (p2.1 _ _ hp)) (fun i x H2 hi p2 => ?_) (fun H2 p2 => ?_)
  · obtain ⟨r, hr, rfl⟩ := map_at hi
    obtain ⟨t, h1, h2⟩ := ht.at hr
    obtain ⟨x2, qs, hd, hq⟩ := p2
    have hil : i < ts.length := (List.getElem?_eq_some_iff.mp h1).1
    have hln := hq.len
    rw [List.length_map, List.length_take] at hln
    refine ⟨r, _, rfl, st_of (x2 _ _ h2), rfl, _, _, rfl, _, _, rfl, rfl, hw _ _, ?_⟩
    refine he t H2 (List.mem_of_getElem? h1) ((e.trans e1).trans x2) H2 (Ex.refl _) _ fun g H4 ng e4 h4 => ⟨_, e4 _ _ hd, sz_lt ?_, Ex.mut (x2.trans e4) hD, qs ++ [g], ?_, ?_⟩
    · rw [List.length_map] at hs ⊢
      omega
    · rw [upd_same, List.map_append]
      rfl
    · rw [List.take_add_one, h1, List.map_append]
      exact ((hq.ex e4).app (.cons h4 .nil)).upd (e4 _ _ hd)
  · obtain ⟨x2, qs, hd, hq⟩ := p2
    rw [hs, List.take_length] at hq
    exact q Dl H2 (fresh_back e1 hD) (e1.trans x2) ⟨qs, hd, hq⟩
/-- [.. for a, b in wave if ..] -/
theorem el_lcW {a : Addr} {ts : List T2} {j1 j2 : Nat} {vs : List Nat} (p : T2 → Bool) (g : T2 → V) (h : Ev tl σ H (.ref a)) (hW : WvAt H a ts) (hz : ts.length ≤ 40000) (hw : ∀ x y, wipe (((wipe σ vs).set j1 (some x)).set j2 (some y)) vs = wipe σ vs)
    (ht : ∀ (q : T2) H1, q ∈ ts → Ex H H1 → EvT t (((wipe σ vs).set j1 (some (.int q.1))).set j2 (some (.str (Tx q.2)))) H1 (p q))
    (he : ∀ (q : T2) H1, q ∈ ts → Ex H H1 → Ev te (((wipe σ vs).set j1 (some (.int q.1))).set j2 (some (.str (Tx q.2)))) H1 (g q)) : EvL (tLc (iList K tl) (gTup K 2 (gCons (gName j1) (gCons (gName j2) gNil))) t te vs) σ H ((ts.filter p).map g) := fun H0 e Q q => h H0 e _ fun H1 e1 => by
  obtain ⟨rs, hp, hst⟩ := hW.ex (e.trans e1)
  refine ⟨a, rfl, ⟨_, sq_of hp⟩, fun Dl hD => ?_⟩
  have hs : (rs.map V.ref).length = ts.length := by rw [List.length_map, hst.len]
  refine lc_list (xs := rs.map V.ref) (fun i H2 => Ex H1 H2 ∧ H2 Dl = some (.lst (((ts.take i).filter p).map g))) ⟨Ex.new hD, upd_same⟩ (fun i H2 _ p2 => sq_of (p2.1 _ _ hp)) (fun i x H2 hi p2 => ?_) (fun H2 p2 => ?_)
  · obtain ⟨r, hr, rfl⟩ := map_at hi
    obtain ⟨t', h1, h2⟩ := hst.at hr
    obtain ⟨x2, hd⟩ := p2
    have hil : i < ts.length := (List.getElem?_eq_some_iff.mp h1).1
    refine ⟨r, _, rfl, st_of (x2 _ _ h2), rfl, _, _, rfl, _, _, rfl, rfl, hw _ _, ?_⟩
    have hl : (((ts.take i).filter p).map g).length ≤ i := by
      rw [List.length_map]
      exact Nat.le_trans (List.length_filter_le _ _) (by rw [List.length_take]; omega)
    refine ht t' H2 (List.mem_of_getElem? h1) ((e.trans e1).trans x2) H2 (Ex.refl _) _ fun H3 e3 => ?_
    have hf : (ts.take (i + 1)).filter p = (ts.take i).filter p ++ (if p t' then [t'] else []) := by
      rw [List.take_add_one, h1, List.filter_append]
      congr 1
      by_cases hb : p t' = true
      · simp [hb]
      · simp [hb]
    cases hb : p t' with
    | true =>
      refine iteT ?_
      refine he t' H3 (List.mem_of_getElem? h1) (((e.trans e1).trans x2).trans e3) H3 (Ex.refl _) _ fun H4 e4 => ⟨_, e4 _ _ (e3 _ _ hd), sz_lt (by omega), Ex.mut (x2.trans (e3.trans e4)) hD, ?_⟩
      rw [upd_same, hf, hb, List.map_append]
      rfl
    | false =>
      refine iteF ⟨x2.trans e3, ?_⟩
      rw [hf, hb]
      simp only [Bool.false_eq_true, if_false, List.append_nil]
      exact e3 _ _ hd
  · obtain ⟨x2, hd⟩ := p2
    rw [hs, List.take_length] at hd
    exact q Dl H2 (fresh_back e1 hD) (e1.trans x2) hd
end
/-! ### the value at a time -/
def atW (n : Int) : List T2 → List Nat → List Nat
  | [], u => u
  | t :: ts, u => atW n ts (if t.1 ≤ n then t.2 else u)
theorem at_append (n : Int) : ∀ (ts : List T2) (q : T2) (u : List Nat), atW n (ts ++ [q]) u = if q.1 ≤ n then q.2 else atW n ts u
  | [], q, u => rfl
  | t :: ts, q, u => at_append n ts q _
theorem at_filter (n : Int) : ∀ (ts : List T2) (u : List Nat), (ts.filter fun q => decide (q.1 ≤ n)) ≠ [] → ∃ l, (ts.filter fun q => decide (q.1 ≤ n)).map (fun q => V.str (Tx q.2)) = l ++ [V.str (Tx (atW n ts u))]
  | [], u, h => (h rfl).elim
  | t :: ts, u, h => by
    by_cases ht : t.1 ≤ n
    · by_cases hr : (ts.filter fun q => decide (q.1 ≤ n)) = []
      · refine ⟨[], ?_⟩
        have : atW n (t :: ts) u = t.2 := by
          rw [atW, if_pos ht]
          clear h u
          induction ts with
          | nil => rfl
          | cons b ts ih =>
            rw [List.filter_cons] at hr
            by_cases hb : b.1 ≤ n
            · simp [hb] at hr
            · simp [hb] at hr
              rw [atW, if_neg hb]
              exact ih (by simpa using hr)
        rw [this, List.filter_cons, if_pos (by simpa using ht), hr]
        rfl
      · obtain ⟨l, hl⟩ := at_filter n ts t.2 hr
        refine ⟨V.str (Tx t.2) :: l, ?_⟩
        rw [List.filter_cons, if_pos (by simpa using ht), List.map_cons, hl, atW, if_pos ht]
        rfl
    · rw [List.filter_cons, if_neg (by simpa using ht)] at h ⊢
      rw [atW, if_neg ht]
      exact at_filter n ts u h
theorem at_mem (n : Int) : ∀ (ts : List T2) (u : List Nat), atW n ts u = u ∨ ∃ q ∈ ts, atW n ts u = q.2
  | [], u => .inl rfl
  | t :: ts, u => by
    rcases at_mem n ts (if t.1 ≤ n then t.2 else u) with h | ⟨q, h1, h2⟩
    · rw [atW, h]
      by_cases ht : t.1 ≤ n
      · rw [if_pos ht]
        exact .inr ⟨t, List.mem_cons_self .., rfl⟩
      · rw [if_neg ht]
        exact .inl rfl
    · exact .inr ⟨q, List.mem_cons_of_mem _ h1, h2⟩
def spAtW : Sp := fun vs H Q _ => ∃ (a : Addr) (n : Int) (t : T2) (r : List T2), vs = [.ref a, .int n] ∧ WvAt H a (t :: r) ∧ t.1 ≤ n ∧ r.length ≤ 1000 ∧ ∀ H', Ex H H' → Q (.str (Tx (atW n (t :: r) []))) H'
theorem ev_atW {a : Addr} {n : Int} {t : T2} {r : List T2} {σ : L2.St} {H : Hp} {ta tb : TE} {E : XK} (ha : Ev ta σ H (.ref a)) (hb : Ev tb σ H (.int n)) (h : WvAt H a (t :: r)) (h0 : t.1 ≤ n) (hz : r.length ≤ 1000) : Ev (tCall spAtW [] E (tCons ta (tCons tb tNil))) σ H (.str (Tx (atW n (t :: r) []))) := fun H1 e Q q =>
  ha H1 e _ fun H2 e2 => hb H2 (e.trans e2) _ fun H3 e3 => ⟨a, n, t, r, rfl, h.ex ((e.trans e2).trans e3), h0, hz, fun H4 e4 => q H4 ((e2.trans e3).trans e4)⟩
end Dw

set_option Elab.async false
set_option linter.all false
set_option maxRecDepth 100000
set_option maxHeartbeats 2000000
namespace Dw
open PySem L2 Evl
/-- a def that is called where nothing is being shown, as it stands -/
structure DfG (P : Program) (w : World) (K : PySem.W.Frag) (mg : Str → Option Value) (base : Heap) (CX : CXT) (x : Str) (k : Nat) (f : Addr) (fd : FuncData) (ps : List Str) (sp : Sp) : Prop where
  ok : FnG P w K mg base CX k f fd ps sp
  g : mg x = some (.ref f)
  kp : PySem.W.keepIn K (.ref f) = true
  b : Binds K fd ps []
theorem u101 {k : Nat} {A : Around} (hr : Room k A) : A.units + 101 < cLine := by
  have := hr.un
  omega
theorem ew_is {te : TE} {σ : L2.St} {H : Hp} {ts us : List T2} (h : EvW te σ H ts) (e : ts = us) : EvW te σ H us := e ▸ h
theorem q_asgW {te : TE} {σ : L2.St} {H : Hp} {ts : List T2} {tz : TS} {D : Ends} {i : Nat} (h : EvW te σ H ts) (k : ∀ g H1, H g = none → Ex H H1 → WvAt H1 g ts → tz D (σ.set i (some (.ref g))) H1) : tSeq (tAsg te (gName i)) tz D σ H := h H (Ex.refl _) _ fun g H1 ng e hg => k g H1 ng e hg
def lastQ (t : T2) (r : List T2) : T2 := (t :: r).getLast (by simp)
theorem lastQ_mem (t : T2) (r : List T2) : lastQ t r ∈ t :: r := List.getLast_mem _
section
variable {K : PySem.W.Frag} {σ : L2.St} {H H' : Hp} {ta tb tc te tx tl : TE} {x y z v : V}
/-- wave[-1][0] -/
theorem ev_lastT {i : Nat} {a : Addr} {t : T2} {r : List T2} (h : WvAt H a (t :: r)) (hi : σ[i]? = some (some (.ref a))) :
    Ev (tOp (rIxT K) (tOp (rIxL K) (tVar i) (tUn (rU fun i => .int (-i)) (tC (.int 1)))) (tC (.int 0))) σ H (.int (lastQ t r).1) := by
  obtain ⟨rs, h1, h2⟩ := h
  have hd : t :: r = (t :: r).dropLast ++ [lastQ t r] := (List.dropLast_concat_getLast (by simp)).symm
  rw [hd] at h2
  obtain ⟨qs, rz, rfl, hrz, hqs⟩ := h2.last
  rw [List.map_append] at h1
  exact ev_t0 (ev_op (ev_var hi) (ev_un ev_c ru_neg) (rv_ixL (sq_of h1) at_end)) hrz
/-- a list that stands, and a new one behind it -/
theorem el_catV {g : Addr} {xs ys : List V} (ha : Ev ta σ H (.ref g)) (hg : H g = some (.lst xs)) (hb : EvL tb σ H ys) (hz : xs.length + ys.length ≤ 100000) : EvL (tOp rCat ta tb) σ H (xs ++ ys) := fun H1 e Q q =>
  ha H1 e _ fun H2 e2 => hb H2 (e.trans e2) _ fun r H3 nr e3 h3 => ⟨g, r, xs, ys, rfl, rfl, e3 _ _ (e2 _ _ (e _ _ hg)), h3, sz_of hz, fun s ns => q s _ (fresh_back (e2.trans e3) ns) ((e2.trans e3).trans (Ex.new ns)) upd_same⟩
end
theorem small_t {t : T2} {r : List T2} (ok : WvOk t r) {q : T2} (hq : q ∈ t :: r) : -(2 ^ 64) < q.1 ∧ q.1 < 2 ^ 64 := by
  have h1 := ok.lim q hq
  have h2 : 0 ≤ q.1 := by
    rcases List.mem_cons.mp hq with rfl | h
    · rw [ok.t0]
      exact Int.le_refl _
    · have := ch_lt (Int.le_refl 0) ok.ch q h
      omega
  constructor <;> omega
theorem pos_t {t : T2} {r : List T2} (ok : WvOk t r) {q : T2} (hq : q ∈ t :: r) : 0 ≤ q.1 := by
  rcases List.mem_cons.mp hq with rfl | h
  · rw [ok.t0]
    exact Int.le_refl _
  · have := ch_lt (Int.le_refl 0) ok.ch q h
    omega
/-- a drawn wave made great -/
theorem big_wave {t : T2} {r : List T2} (ok : WvOk t r) {mn : Int} (m0 : 1 ≤ mn) (m1 : mn ≤ 10 ^ 50) :
    ∃ t' r', (t :: r).map (fun q : T2 => (q.1 * mn, q.2)) = t' :: r' ∧ ShW (t' :: r') ∧ r'.length ≤ 11 ∧ (∀ q ∈ t' :: r', 0 ≤ q.1) ∧ ∀ q ∈ t' :: r', LowS (Tx q.2) := by
  refine ⟨(t.1 * mn, t.2), r.map (fun q : T2 => (q.1 * mn, q.2)), rfl, ⟨?_, ?_⟩, ?_, ?_, ?_⟩
  · have := ok.len
    rw [List.length_cons, List.length_map]
    omega
  all_goals (try rw [← List.map_cons (f := fun q : T2 => (q.1 * mn, q.2))])
  · intro q hq
    obtain ⟨p, hp, rfl⟩ := List.mem_map.mp hq
    have h1 := ok.lim p hp
    have h2 := pos_t ok hp
    obtain ⟨v1, v2, v3, v4⟩ := ok.val p hp
    refine ⟨?_, by show p.2.length ≤ 100; omega, fun c hc => ?_⟩
    · have h3 : p.1 * mn ≤ 440 * 10 ^ 50 := Int.mul_le_mul h1 m1 (by omega) (by decide)
      have h4 : 0 ≤ p.1 * mn := Int.mul_nonneg h2 (by omega)
      show (p.1 * mn).natAbs < 2 ^ 1900
      have h5 : (p.1 * mn).natAbs ≤ 440 * 10 ^ 50 := by omega
      exact Nat.lt_of_le_of_lt h5 (by decide +kernel)
    · have := v1 c hc
      revert c
      intro c hc h
      simp [sgn] at h
      omega
  · have := ok.len
    rw [List.length_map]
    omega
  · intro q hq
    obtain ⟨p, hp, rfl⟩ := List.mem_map.mp hq
    exact Int.mul_nonneg (pos_t ok hp) (by omega)
  · intro q hq
    obtain ⟨p, hp, rfl⟩ := List.mem_map.mp hq
    exact low_of (ok.val p hp).1
theorem big_zero {t : T2} {r : List T2} (ok : WvOk t r) {mn : Int} {t' : T2} {r' : List T2} (h : (t :: r).map (fun q : T2 => (q.1 * mn, q.2)) = t' :: r') : t'.1 = 0 := by
  rw [List.map_cons] at h
  injection h with h1 h2
  rw [← h1]
  show t.1 * mn = 0
  rw [ok.t0, Int.zero_mul]
theorem low_nil : LowS (Tx []) := low_Tx fun c h => by cases h
theorem low_at {ts : List T2} {xs : List Int} (h : ∀ q ∈ ts, LowS (Tx q.2)) : ∀ x ∈ xs.map (fun n => Tx (atW n ts [])), LowS x := fun x hx => by
  obtain ⟨n, hn, rfl⟩ := List.mem_map.mp hx
  rcases at_mem n ts [] with e | ⟨q, h1, e⟩
  · rw [e]
    exact low_nil
  · rw [e]
    exact h q h1
end Dw

set_option Elab.async false
set_option linter.all false
set_option maxRecDepth 100000
set_option maxHeartbeats 2000000
namespace Dw
open PySem L2 Evl
/-! ### held, time by time: the mathematics -/
theorem at_late {x : Int} : ∀ {r : List T2} {u : List Nat}, (∀ q ∈ r, x < q.1) → atW x r u = u
  | [], _, _ => rfl
  | q :: r, u, h => by
    have := h q (List.mem_cons_self ..)
    rw [atW, if_neg (by omega)]
    exact at_late fun p hp => h p (List.mem_cons_of_mem _ hp)
theorem at_le {x : Int} {q : T2} {r : List T2} {u : List Nat} (h : q.1 ≤ x) : atW x (q :: r) u = atW x r q.2 := by rw [atW, if_pos h]
theorem at_gt {x : Int} {q : T2} {r : List T2} {u : List Nat} (h : ¬ q.1 ≤ x) : atW x (q :: r) u = atW x r u := by rw [atW, if_neg h]
/-- the value of the last long one that was had long enough by t -/
def lstL (l t : Int) : List T2 → List Nat → List Nat
  | [], u => u
  | q :: r, u => lstL l t r (if longB l q.1 r = true ∧ q.1 + l ≤ t then q.2 else u)
theorem lst_late {l t : Int} : ∀ {r : List T2} {u : List Nat}, (∀ q ∈ r, t < q.1 + l) → lstL l t r u = u
  | [], _, _ => rfl
  | q :: r, u, h => by
    have := h q (List.mem_cons_self ..)
    rw [lstL, if_neg (fun z => by omega)]
    exact lst_late fun p hp => h p (List.mem_cons_of_mem _ hp)
theorem at_go {l t : Int} : ∀ {r : List T2} {s : Int} {u v : List Nat}, Ch 0 s v r → atW t (goH l r u) u = lstL l t r u
  | [], _, _, _, _ => rfl
  | q :: r, s, u, v, ⟨h1, h2, h3⟩ => by
    unfold goH
    by_cases hc : longB l q.1 r = true ∧ q.2 ≠ u
    · rw [if_pos hc, atW]
      show atW t (goH l r q.2) (if q.1 + l ≤ t then q.2 else u) = lstL l t r (if longB l q.1 r = true ∧ q.1 + l ≤ t then q.2 else u)
      by_cases ht : q.1 + l ≤ t
      · rw [if_pos ht, if_pos ⟨hc.1, ht⟩]
        exact at_go h3
      · rw [if_neg ht, if_neg (fun z => ht z.2)]
        have late : ∀ p ∈ r, t < p.1 + l := fun p hp => by
          have := ch_lt (Int.le_refl 0) h3 p hp
          omega
        rw [lst_late late]
        refine at_late fun p hp => ?_
        obtain ⟨p2, hp2, rfl⟩ := go_mem r _ p hp
        exact late p2 hp2
    · rw [if_neg hc, lstL, at_go h3]
      congr 1
      by_cases hl : longB l q.1 r = true ∧ q.1 + l ≤ t
      · rw [if_pos hl]
        exact (Classical.not_not.mp fun z => hc ⟨hl.1, z⟩).symm
      · rw [if_neg hl]
/-- from a time on, at which the one at s was had long enough -/
theorem stab {l t : Int} (hl : 0 ≤ l) : ∀ {r : List T2} {s : Int} {u v : List Nat}, Ch 0 s u r → s + l ≤ t → (∀ x, t - l ≤ x → x ≤ t → atW x r u = atW t r u) → lstL l t r (if longB l s r = true ∧ s + l ≤ t then u else v) = atW t r u
  | [], s, u, v, _, hs, _ => by
    rw [if_pos ⟨rfl, hs⟩]
    rfl
  | q :: r, s, u, v, ⟨h1, h2, h3⟩, hs, hc => by
    by_cases ha : q.1 ≤ t - l
    · have e : ∀ x, t - l ≤ x → atW x (q :: r) u = atW x r q.2 := fun x hx => by
        rw [atW, if_pos (by omega)]
      rw [lstL, e t (by omega)]
      exact stab hl h3 (by omega) fun x hx hx2 => by rw [← e x hx, ← e t (by omega)]; exact hc x hx hx2
    · by_cases hb : q.1 ≤ t
      · exfalso
        have a1 : atW (t - l) (q :: r) u = u := at_late fun p hp => by
          rcases List.mem_cons.mp hp with rfl | h
          · omega
          · have := ch_lt (Int.le_refl 0) h3 p h
            omega
        have a2 : atW q.1 (q :: r) u = q.2 := by
          rw [atW, if_pos (Int.le_refl _)]
          exact at_late fun p hp => by
            have := ch_lt (Int.le_refl 0) h3 p hp
            omega
        have b1 := hc (t - l) (Int.le_refl _) (by omega)
        have b2 := hc q.1 (by omega) hb
        rw [a1] at b1
        rw [a2] at b2
        exact h2 (b2.trans b1.symm)
      · have late : ∀ p ∈ q :: r, t < p.1 := fun p hp => by
          rcases List.mem_cons.mp hp with rfl | h
          · omega
          · have := ch_lt (Int.le_refl 0) h3 p h
            omega
        rw [if_pos ⟨decide_eq_true (by omega), hs⟩, at_late late, lst_late fun p hp => by
          have := late p hp
          omega]
/-- a long one is had long enough just at t -/
def hit (l t : Int) : List T2 → Prop
  | [] => False
  | q :: r => (longB l q.1 r = true ∧ q.1 + l = t) ∨ hit l t r
theorem hit_no {l t : Int} : ∀ {r : List T2} {u : List Nat}, ¬ hit l t r → lstL l t r u = lstL l (t - 1) r u
  | [], _, _ => rfl
  | q :: r, u, h => by
    rw [lstL, lstL, hit_no fun z => h (.inr z)]
    congr 1
    by_cases h1 : longB l q.1 r = true ∧ q.1 + l ≤ t
    · rw [if_pos h1, if_pos ⟨h1.1, by
        have : q.1 + l ≠ t := fun z => h (.inl ⟨h1.1, z⟩)
        have := h1.2
        omega⟩]
    · rw [if_neg h1, if_neg fun z => h1 ⟨z.1, by have := z.2; omega⟩]
theorem hit_lt {l t : Int} : ∀ {r : List T2} {s : Int} {u : List Nat}, Ch 0 s u r → hit l t r → s < t - l
  | [], _, _, _, h => h.elim
  | q :: r, s, u, ⟨h1, h2, h3⟩, h => by
    rcases h with h | h
    · have := h.2
      omega
    · have := hit_lt h3 h
      omega
theorem hit_st {l t : Int} (hl : 0 ≤ l) : ∀ {r : List T2} {s : Int} {u : List Nat}, Ch 0 s u r → hit l t r → ∃ v, ∀ x, t - l ≤ x → x ≤ t → atW x r u = v
  | [], _, _, _, h => h.elim
  | q :: r, s, u, ⟨h1, h2, h3⟩, h => by
    rcases h with h | h
    · refine ⟨q.2, fun x hx hx2 => ?_⟩
      have := h.2
      rw [atW, if_pos (by omega)]
      refine at_late fun p hp => ?_
      cases r with
      | nil => cases hp
      | cons b r =>
        have h4 : b.1 - q.1 > l := of_decide_eq_true h.1
        rcases List.mem_cons.mp hp with rfl | h5
        · omega
        · have := ch_lt (Int.le_refl 0) h3.2.2 p h5
          omega
    · obtain ⟨v, hv⟩ := hit_st hl h3 h
      have := hit_lt h3 h
      exact ⟨v, fun x hx hx2 => by rw [atW, if_pos (by omega)]; exact hv x hx hx2⟩
/-- what the law finds at a time -/
def foundF (l : Nat) (ws : List T2) : Nat → List Nat
  | 0 => atW 0 ws []
  | t + 1 => if t + 1 < l then atW 0 ws [] else if (∀ j, j ≤ l → atW ((t + 1 - j : Nat) : Int) ws [] = atW ((t + 1 : Nat) : Int) ws []) then atW ((t + 1 : Nat) : Int) ws [] else foundF l ws t
theorem found_zero (l : Nat) (ws : List T2) : foundF l ws 0 = atW 0 ws [] := rfl
theorem found_succ (l : Nat) (ws : List T2) (t : Nat) : foundF l ws (t + 1) = if t + 1 < l then atW 0 ws [] else if (∀ j, j ≤ l → atW ((t + 1 - j : Nat) : Int) ws [] = atW ((t + 1 : Nat) : Int) ws []) then atW ((t + 1 : Nat) : Int) ws [] else foundF l ws t := rfl
theorem found_is {l : Nat} {t : T2} {r : List T2} (t0 : t.1 = 0) (ch : Ch 0 0 t.2 r) : ∀ n : Nat, foundF l (t :: r) n = atW (n : Int) (heldH l (t :: r)) [] := by
    intro n
    have first : ∀ x : Int, 0 ≤ x → ∀ rr : List T2, atW x (t :: rr) [] = atW x rr t.2 := fun x hx rr => by rw [atW, if_pos (by omega)]
    have ch' : Ch 0 t.1 t.2 r := by rw [t0]; exact ch
    have late : ∀ x : Int, x < l → lstL l x r t.2 = t.2 := fun x hx => lst_late fun p hp => by
      have := ch_lt (Int.le_refl 0) ch p hp
      omega
    have zero : atW 0 r t.2 = t.2 := at_late fun p hp => by
      have := ch_lt (Int.le_refl 0) ch p hp
      omega
    show _ = atW (n : Int) (t :: goH l r t.2) []
    rw [first _ (by omega), at_go ch]
    induction n with
    | zero =>
      rw [found_zero, first 0 (Int.le_refl _), zero]
      by_cases hl : l = 0
      · subst hl
        have := stab (l := 0) (t := 0) (v := t.2) (Int.le_refl _) ch' (by omega) (fun x h1 h2 => by rw [show x = 0 by omega])
        rw [ite_self] at this
        show _ = lstL 0 0 r t.2
        rw [this, zero]
      · exact (late 0 (by omega)).symm
    | succ n ih =>
      rw [found_succ]
      by_cases h1 : n + 1 < l
      · rw [if_pos h1, first 0 (Int.le_refl _), zero, late _ (by omega)]
      · rw [if_neg h1]
        by_cases h2 : ∀ j, j ≤ l → atW ((n + 1 - j : Nat) : Int) (t :: r) [] = atW ((n + 1 : Nat) : Int) (t :: r) []
        · rw [if_pos h2, first _ (by omega)]
          have := stab (l := (l : Int)) (t := ((n + 1 : Nat) : Int)) (v := t.2) (by omega) ch' (by omega) (fun x hx hx2 => by
            have e := h2 (n + 1 - x.toNat) (by omega)
            rw [first _ (by omega), first _ (by omega)] at e
            rw [show ((n + 1 - (n + 1 - x.toNat) : Nat) : Int) = x by omega] at e
            exact e)
          rw [ite_self] at this
          exact this.symm
        · rw [if_neg h2, ih, hit_no (t := ((n + 1 : Nat) : Int)) (fun z => h2 fun j hj => ?_)]
          · rw [show ((n + 1 : Nat) : Int) - 1 = (n : Int) by omega]
          · obtain ⟨v, hv⟩ := hit_st (by omega) ch' z
            rw [first _ (by omega), first _ (by omega), hv _ (by omega) (by omega), hv _ (by omega) (by omega)]
/-- the changes of what is had time by time -/
def chgF (f : Nat → List Nat) : Nat → List T2
  | 0 => []
  | n + 1 => chgF f n ++ (if n = 0 then [(0, f 0)] else if f n ≠ f (n - 1) then [((n : Int), f n)] else [])
theorem chg_is {t : T2} {r : List T2} (t0 : t.1 = 0) (ch : Ch 0 0 t.2 r) : ∀ n : Nat, 0 < n → chgF (fun k => atW (k : Int) (t :: r) []) n = (t :: r).filter (fun q => decide (q.1 < (n : Int)))
  | 0, h => by omega
  | n + 1, _ => by
    have rise : ∀ q ∈ r, 0 < q.1 := fun q hq => by
      have := ch_lt (Int.le_refl 0) ch q hq
      omega
    by_cases h0 : n = 0
    · subst h0
      show [] ++ [((0 : Int), atW (0 : Int) (t :: r) [])] = _
      rw [List.filter_cons, if_pos (by rw [t0]; decide), List.filter_eq_nil_iff.mpr (fun q hq => by have := rise q hq; simp; omega), atW, if_pos (by omega), at_late rise]
      show [((0 : Int), t.2)] = [t]
      rw [← t0]
    · rw [chgF, if_neg h0, chg_is t0 ch n (by omega)]
      have key : ∀ {s : List T2} {b : Int} {u w : List Nat}, Ch 0 b u s → b < (n : Int) → s.filter (fun q => decide (q.1 < (n : Int))) ++ (if atW (n : Int) s u ≠ atW ((n - 1 : Nat) : Int) s u then [((n : Int), atW (n : Int) s u)] else []) = s.filter (fun q => decide (q.1 < ((n + 1 : Nat) : Int))) := by
        intro s
        induction s with
        | nil =>
          intro b u w _ _
          rw [if_neg (fun z => z rfl)]
          rfl
        | cons q s ih =>
          intro b u w hch hb
          obtain ⟨h1, h2, h3⟩ := hch
          have late : ∀ x : Int, x ≤ q.1 → ∀ p ∈ s, x < p.1 := fun x hx p hp => by
            have := ch_lt (Int.le_refl 0) h3 p hp
            omega
          by_cases c1 : q.1 < (n : Int)
          · rw [List.filter_cons, if_pos (decide_eq_true c1), List.filter_cons, if_pos (decide_eq_true (by omega)), List.cons_append]
            congr 1
            rw [at_le (x := (n : Int)) (by omega), at_le (x := ((n - 1 : Nat) : Int)) (by omega)]
            exact ih (w := w) h3 c1
          · by_cases c2 : q.1 = (n : Int)
            · rw [List.filter_cons, if_neg (by simpa using c1), List.filter_cons, if_pos (decide_eq_true (by omega)), List.filter_eq_nil_iff.mpr (fun p hp => by have := late q.1 (Int.le_refl _) p hp; simp; omega), List.filter_eq_nil_iff.mpr (fun p hp => by have := late q.1 (Int.le_refl _) p hp; simp; omega)]
              rw [at_le (x := (n : Int)) (by omega), at_late (late (n : Int) (by omega)), at_gt (x := ((n - 1 : Nat) : Int)) (by omega), at_late (late ((n - 1 : Nat) : Int) (by omega)), if_pos h2, ← c2]
              rfl
            · rw [at_late (r := q :: s) (fun p hp => by
                rcases List.mem_cons.mp hp with rfl | h
                · omega
                · exact late _ (by omega) p h), at_late (r := q :: s) (fun p hp => by
                rcases List.mem_cons.mp hp with rfl | h
                · omega
                · exact late _ (by omega) p h), if_neg (fun z => z rfl), List.append_nil, List.filter_eq_nil_iff.mpr (fun p hp => ?_), List.filter_eq_nil_iff.mpr (fun p hp => ?_)]
              · rcases List.mem_cons.mp hp with rfl | h
                · simp; omega
                · have := late q.1 (Int.le_refl _) p h
                  simp; omega
              · rcases List.mem_cons.mp hp with rfl | h
                · simp; omega
                · have := late q.1 (Int.le_refl _) p h
                  simp; omega
      have k2 := key (s := r) (b := 0) (u := t.2) (w := []) ch (by omega)
      rw [at_le (x := (n : Int)) (by omega), at_le (x := ((n - 1 : Nat) : Int)) (by omega)]
      rw [List.filter_cons, if_pos (decide_eq_true (by omega)), List.filter_cons (p := fun q : T2 => decide (q.1 < ((n + 1 : Nat) : Int))), if_pos (decide_eq_true (by omega)), List.cons_append, ← k2]
theorem chg_held {l : Nat} {t : T2} {r : List T2} (t0 : t.1 = 0) (ch : Ch 0 0 t.2 r) {n : Nat} (hn : ∀ q ∈ t :: r, q.1 + l < n) : chgF (foundF l (t :: r)) n = heldH l (t :: r) := by
  have e : foundF l (t :: r) = fun k : Nat => atW (k : Int) (heldH l (t :: r)) [] := funext fun k => found_is t0 ch k
  have chg : Ch 0 0 t.2 (goH l r t.2) := (go_is (by omega) ch fun q hq => by have := ch_lt (Int.le_refl 0) ch q hq; omega).mono (by omega)
  have h0 := hn t (List.mem_cons_self ..)
  rw [e]
  show chgF (fun k => atW (k : Int) (t :: goH l r t.2) []) n = t :: goH l r t.2
  rw [chg_is t0 chg n (by omega), List.filter_eq_self.mpr]
  intro q hq
  rcases List.mem_cons.mp hq with rfl | h
  · exact decide_eq_true (by omega)
  · obtain ⟨p, hp, rfl⟩ := go_mem r _ q h
    exact decide_eq_true (by have := hn p (List.mem_cons_of_mem _ hp); show p.1 + l < n; omega)
/-- made great -/
def mulT (g : Int) (q : T2) : T2 := (q.1 * g, q.2)
theorem long_mul {l s g : Int} (hg : 0 < g) : ∀ r : List T2, longB (l * g) (s * g) (r.map (mulT g)) = longB l s r
  | [] => rfl
  | q :: r => by
    show decide (q.1 * g - s * g > l * g) = decide (q.1 - s > l)
    congr 1
    rw [← Int.sub_mul]
    exact propext ⟨fun h => Int.lt_of_mul_lt_mul_right h (by omega), fun h => Int.mul_lt_mul_of_pos_right h hg⟩
theorem go_mul {l g : Int} (hg : 0 < g) : ∀ (r : List T2) (u : List Nat), goH (l * g) (r.map (mulT g)) u = (goH l r u).map (mulT g)
  | [], _ => rfl
  | q :: r, u => by
    rw [List.map_cons, goH, goH]
    have e : longB (l * g) (mulT g q).1 (r.map (mulT g)) = longB l q.1 r := long_mul hg r
    rw [e, go_mul hg r, go_mul hg r]
    show (if longB l q.1 r = true ∧ q.2 ≠ u then _ else _) = _
    by_cases h : longB l q.1 r = true ∧ q.2 ≠ u
    · rw [if_pos h, if_pos h, List.map_cons]
      congr 1
      show (q.1 * g + l * g, q.2) = ((q.1 + l) * g, q.2)
      rw [Int.add_mul]
    · rw [if_neg h, if_neg h]
theorem held_mul {l g : Int} (hg : 0 < g) (ts : List T2) : heldH (l * g) (ts.map (mulT g)) = (heldH l ts).map (mulT g) := by
  cases ts with
  | nil => rfl
  | cons t r =>
    show mulT g t :: goH (l * g) (r.map (mulT g)) t.2 = mulT g t :: (goH l r t.2).map (mulT g)
    rw [go_mul hg]
end Dw

set_option Elab.async false
set_option linter.all false
set_option maxRecDepth 100000
set_option maxHeartbeats 2000000
namespace Dw
open PySem L2 Evl
/-! ### x is not True, where x is a truth -/
def rNB : R2 := fun x y H Q => ∃ a b : Bool, x = .bl a ∧ y = .bl b ∧ Q (.bl (!decide (a = b))) H
theorem op_isNotB {X : Cx} : OpR X (compareOp .IsNot) rNB := by
  intro pins s σ H x y v u Q I rx ry h
  obtain ⟨a, b, rfl, rfl, q⟩ := h
  cases rx
  cases ry
  show wpAny _ _ ((isSame (Value.bool a) (Value.bool b)) >>= fun z => pure (Value.bool (!z))) _ _ s
  exact wpAny_bind (wpAny_isSame_plain rfl (wpAny_pure (fin_bl I q (by cases a <;> cases b <;> rfl))))
theorem rv_nb {a b : Bool} {H : Hp} : RV rNB (.bl a) (.bl b) H (.bl (!decide (a = b))) := fun H1 _ _ q => ⟨a, b, rfl, rfl, q H1 (Ex.refl _)⟩
/-! ### data in the heap -/
mutual
inductive Dt (H : Hp) : V → PyData → Prop
  | non : Dt H .non .none
  | bl (b : Bool) : Dt H (.bl b) (.bool b)
  | int (i : Int) : Dt H (.int i) (.int i)
  | str (l : List Nat) : Dt H (.str (Tx l)) (.str (Tx l))
  | lst {a : Addr} {xs : List V} {ds : List PyData} : H a = some (.lst xs) → DtAll H xs ds → Dt H (.ref a) (.list ds)
  | tup {a : Addr} {xs : List V} {ds : List PyData} : H a = some (.tup xs) → DtAll H xs ds → Dt H (.ref a) (.tuple ds)
  | dct {a : Addr} {kvs : List (Key × V)} : H a = some (.dK kvs) → Dt H (.ref a) (.dict [])
inductive DtAll (H : Hp) : List V → List PyData → Prop
  | nil : DtAll H [] []
  | cons {v : V} {vs : List V} {d : PyData} {ds : List PyData} : Dt H v d → DtAll H vs ds → DtAll H (v :: vs) (d :: ds)
end
mutual
theorem Dt.ex {H H' : Hp} (e : Ex H H') : ∀ {v : V} {d : PyData}, Dt H v d → Dt H' v d
  | _, _, .non => .non
  | _, _, .bl b => .bl b
  | _, _, .int i => .int i
  | _, _, .str x => .str x
  | _, _, .lst h1 h2 => .lst (e _ _ h1) (h2.ex e)
  | _, _, .tup h1 h2 => .tup (e _ _ h1) (h2.ex e)
  | _, _, .dct h1 => .dct (e _ _ h1)
theorem DtAll.ex {H H' : Hp} (e : Ex H H') : ∀ {vs : List V} {ds : List PyData}, DtAll H vs ds → DtAll H' vs ds
  | _, _, .nil => .nil
  | _, _, .cons h1 h2 => .cons (h1.ex e) (h2.ex e)
end
theorem DtAll.len {H : Hp} : ∀ {vs : List V} {ds : List PyData}, DtAll H vs ds → vs.length = ds.length
  | _, _, .nil => rfl
  | _, _, .cons _ h2 => by rw [List.length_cons, List.length_cons, h2.len]
theorem DtAll.at {H : Hp} : ∀ {vs : List V} {ds : List PyData} {i : Nat} {v : V}, DtAll H vs ds → vs[i]? = some v → ∃ d, ds[i]? = some d ∧ Dt H v d
  | _, _, _, _, .nil, h => by cases h
  | _, _, 0, _, .cons h1 h2, h => by
    cases h
    exact ⟨_, rfl, h1⟩
  | _, _, i + 1, _, .cons h1 h2, h => h2.at (i := i) h
theorem DtAll.to {H : Hp} : ∀ {vs : List V} {ds : List PyData} {i : Nat} {d : PyData}, DtAll H vs ds → ds[i]? = some d → ∃ v, vs[i]? = some v ∧ Dt H v d
  | _, _, _, _, .nil, h => by cases h
  | _, _, 0, _, .cons h1 h2, h => by
    cases h
    exact ⟨_, rfl, h1⟩
  | _, _, i + 1, _, .cons h1 h2, h => h2.to (i := i) h
def tyD : PyData → String
  | .none => "NoneType"
  | .bool _ => "bool"
  | .int _ => "int"
  | .str _ => "str"
  | .list _ => "list"
  | .tuple _ => "tuple"
  | .dict _ => "dict"
theorem Dt.ty {K : PySem.W.Frag} {H : Hp} {v : V} {d : PyData} (h : Dt H v d) : TyX K H v (.type (tyD d)) := by
  cases h with
  | non => exact .base .non
  | bl b => exact .base (.bl b)
  | int i => exact .base (.int i)
  | str x => exact .base (.str _)
  | lst h1 _ => exact .base (.lst h1)
  | tup h1 _ => exact .base (.tup h1)
  | dct h1 => exact .base (.dK h1)
def isTyS (T t : String) : Bool := decide (t = T) || (decide (T = "int") && decide (t = "bool"))
def isTy (T : String) (d : PyData) : Bool := isTyS T (tyD d)
theorem kit_s : ∀ t ∈ ["NoneType", "bool", "int", "str", "list", "tuple", "dict"], kitB t "int" = some (isTyS "int" t) ∧ kitB t "bool" = some (isTyS "bool" t) ∧ kitB t "str" = some (isTyS "str" t) ∧ kitB t "tuple" = some (isTyS "tuple" t) ∧ kitB t "list" = some (isTyS "list" t) := by decide +kernel
theorem tyD_mem (d : PyData) : tyD d ∈ ["NoneType", "bool", "int", "str", "list", "tuple", "dict"] := by cases d <;> simp [tyD]
theorem kit_d (d : PyData) : kitB (tyD d) "int" = some (isTy "int" d) ∧ kitB (tyD d) "bool" = some (isTy "bool" d) ∧ kitB (tyD d) "str" = some (isTy "str" d) ∧ kitB (tyD d) "tuple" = some (isTy "tuple" d) ∧ kitB (tyD d) "list" = some (isTy "list" d) := kit_s _ (tyD_mem d)
/-! ### what is a wave, of data -/
def wholeD : PyData → Bool
  | .int _ => true
  | _ => false
def okL (l : List Nat) : Bool := decide (1 ≤ l.length) && decide (l.length ≤ 8) && (l.all fun c => decide (c ∈ sgn))
def valueD : PyData → Bool
  | .str x => okL x.cps.toList
  | _ => false
def stepD : PyData → Bool
  | .tuple [.int i, d] => decide (i < 10 ^ 60) && valueD d
  | _ => false
def goesT (p q : T2) : Bool := decide (p.1 < q.1) && (decide (p.2 ≠ q.2) && decide (p.2.length = q.2.length))
def goesAll : List T2 → Bool
  | [] => true
  | [_] => true
  | p :: q :: r => goesT p q && goesAll (q :: r)
theorem value_is : ∀ {d : PyData}, valueD d = true → ∃ l, d = .str (Tx l) ∧ okL l = true := by
  intro d h
  cases d with
  | str x => exact ⟨x.cps.toList, by simp [Tx], h⟩
  | _ => exact absurd h (by simp [valueD])
theorem step_is : ∀ {d : PyData}, stepD d = true → ∃ t : T2, d = stD t ∧ t.1 < 10 ^ 60 ∧ okL t.2 = true := by
  intro d h
  unfold stepD at h
  split at h
  · rename_i i d2
    rw [Bool.and_eq_true] at h
    obtain ⟨l, rfl, hl⟩ := value_is h.2
    exact ⟨(i, l), rfl, of_decide_eq_true h.1, hl⟩
  · cases h
theorem step_st {t : T2} : stepD (stD t) = (decide (t.1 < 10 ^ 60) && okL t.2) := by
  show (decide (t.1 < 10 ^ 60) && okL (Tx t.2).cps.toList) = _
  simp [Tx]
/-- a list of steps as data, and back -/
theorem steps_are : ∀ {ds : List PyData}, ds.all stepD = true → ∃ ts : List T2, ds = ts.map stD
  | [], _ => ⟨[], rfl⟩
  | d :: ds, h => by
    rw [List.all_cons, Bool.and_eq_true] at h
    obtain ⟨t, rfl, _⟩ := step_is h.1
    obtain ⟨ts, rfl⟩ := steps_are h.2
    exact ⟨t :: ts, rfl⟩
/-- what is told of a thing -/
inductive IsWv : PyData → Bool → Prop
  | kind {d : PyData} : isTy "list" d = false → IsWv d false
  | none : IsWv (.list []) false
  | step {ds : List PyData} : ds.all stepD = false → IsWv (.list ds) false
  | all {t : T2} {r : List T2} : ((t :: r).map stD).all stepD = true → IsWv (.list ((t :: r).map stD)) (decide (t.1 = 0) && goesAll (t :: r))
theorem isWv_ex (d : PyData) : ∃ b, IsWv d b := by
  by_cases h : isTy "list" d = true
  · match d, h with
    | .list ds, _ =>
      cases hs : ds.all stepD with
      | false => exact ⟨_, .step hs⟩
      | true =>
        obtain ⟨ts, rfl⟩ := steps_are hs
        cases ts with
        | nil => exact ⟨_, .none⟩
        | cons t r => exact ⟨_, .all hs⟩
    | .none, h => exact absurd h (by decide)
    | .bool _, h => exact absurd h (by simp [isTy, isTyS, tyD])
    | .int _, h => exact absurd h (by simp [isTy, isTyS, tyD])
    | .str _, h => exact absurd h (by simp [isTy, isTyS, tyD])
    | .tuple _, h => exact absurd h (by simp [isTy, isTyS, tyD])
    | .dict _, h => exact absurd h (by simp [isTy, isTyS, tyD])
  · exact ⟨false, .kind (by simpa using h)⟩
/-! ### the promises -/
def spWholeD : Sp := fun vs H Q _ => ∃ (v : V) (d : PyData), vs = [v] ∧ Dt H v d ∧ ∀ H', Ex H H' → Q (.bl (wholeD d)) H'
def spValueD : Sp := fun vs H Q _ => ∃ (v : V) (d : PyData), vs = [v, .int 0] ∧ Dt H v d ∧ (∀ l, d = .str (Tx l) → l.length ≤ 10000) ∧ ∀ H', Ex H H' → Q (.bl (valueD d)) H'
def smallD : PyData → Prop
  | .tuple [_, .str x] => x.cps.size ≤ 10000
  | _ => True
def spStepD : Sp := fun vs H Q _ => ∃ (v : V) (d : PyData), vs = [v] ∧ Dt H v d ∧ smallD d ∧ ∀ H', Ex H H' → Q (.bl (stepD d)) H'
def spGoesD : Sp := fun vs H Q _ => ∃ (a b : Addr) (p q : T2), vs = [.ref a, .ref b] ∧ H a = some (.tup (t2 p)) ∧ H b = some (.tup (t2 q)) ∧ p.2.length ≤ 10000 ∧ q.2.length ≤ 10000 ∧ ∀ H', Ex H H' → Q (.bl (goesT p q)) H'
def spIsWaveD : Sp := fun vs H Q _ => ∃ (v : V) (d : PyData) (b : Bool), vs = [v] ∧ Dt H v d ∧ IsWv d b ∧ (∀ ds, d = .list ds → ds.length ≤ 1000 ∧ ∀ x ∈ ds, smallD x) ∧ ∀ H', Ex H H' → Q (.bl b) H'
theorem Stp.dt {H : Hp} {rs : List Addr} {ts : List T2} (h : Stp H rs ts) : DtAll H (rs.map V.ref) (ts.map stD) := by
  induction h with
  | nil => exact .nil
  | cons a _ ih => exact .cons (.tup a (.cons (.int _) (.cons (.str _) .nil))) ih
theorem WvAt.dt {H : Hp} {a : Addr} {ts : List T2} (h : WvAt H a ts) : Dt H (.ref a) (.list (ts.map stD)) := by
  obtain ⟨rs, h1, h2⟩ := h
  exact .lst h1 h2.dt
theorem DtAll.stp {H : Hp} : ∀ {vs : List V} {ts : List T2}, DtAll H vs (ts.map stD) → ∃ rs, vs = rs.map V.ref ∧ Stp H rs ts
  | _, [], h => by
    cases h
    exact ⟨[], rfl, .nil⟩
  | _, t :: ts, h => by
    cases h with
    | cons h1 h2 =>
      obtain ⟨rs, rfl, h3⟩ := DtAll.stp h2
      cases h1 with
      | @tup a xs ds h4 h5 =>
        cases h5 with
        | cons h6 h7 =>
          cases h6
          cases h7 with
          | cons h8 h9 =>
            cases h9
            cases h8
            exact ⟨a :: rs, rfl, .cons h4 h3⟩
section
variable {K : PySem.W.Frag} {σ : L2.St} {H H' : Hp} {ta tb tc te tx tl : TE} {tA : TA} {t u : TT} {x y z v : V}
theorem ev_lenU {p : Addr} {xs : List V} (ha : Ev ta σ H (.ref p)) (h : H p = some (.tup xs)) : Ev (tCB (rLenS K) (tCons ta tNil)) σ H (.int (xs.length : Int)) := fun H1 e Q q => ha H1 e _ fun H2 e2 => ⟨p, xs, rfl, Or.inr (st_of (e2 _ _ (e _ _ h))), q H2 e2⟩
/-- [e for a, b in zip(wave, wave[1:])] -/
theorem el_lcZW {a : Addr} {rs : List Addr} {ts : List T2} {r0 : Addr} {t0 : T2} {j1 j2 : Nat} {vs : List Nat} (g : T2 → T2 → V) (h : ∀ H1, Ex H H1 → ∀ Q : List V → Hp → Prop, (∀ b H2, Ex H1 H2 → H2 b = some (.lst (rs.map V.ref)) → Q [.ref a, .ref b] H2) → tA σ H1 Q)
    (ha : H a = some (.lst ((r0 :: rs).map V.ref))) (hst : Stp H (r0 :: rs) (t0 :: ts)) (hz : ts.length ≤ 40000)
    (hw : ∀ x y, wipe (((wipe σ vs).set j1 (some x)).set j2 (some y)) vs = wipe σ vs)
    (he : ∀ (i : Nat) (c d : Addr) (p q : T2) H1, Ex H H1 → (t0 :: ts)[i]? = some p → ts[i]? = some q → H c = some (.tup (t2 p)) → H d = some (.tup (t2 q)) → Ev te (((wipe σ vs).set j1 (some (.ref c))).set j2 (some (.ref d))) H1 (g p q)) :
    EvL (tLc (iZip K tA) (gTup K 2 (gCons (gName j1) (gCons (gName j2) gNil))) tYes te vs) σ H (List.zipWith g (t0 :: ts) ts) := fun H0 e Q q => h H0 e _ fun b H1 e1 hb => by
  have hl := hst.len
  rw [List.length_cons, List.length_cons] at hl
  have ha1 := e1 _ _ (e _ _ ha)
  refine ⟨a, b, (r0 :: rs).map V.ref, rs.map V.ref, rfl, sq_of ha1, sq_of hb, fun Dl hD => ?_⟩
  have hmin : rs.length = min ((r0 :: rs).map V.ref).length (rs.map V.ref).length := by
    rw [List.length_map, List.length_map, List.length_cons]
    omega
  refine lc_it (walk_zip hmin) (fun i H2 => Ex H1 H2 ∧ H2 Dl = some (.lst ((List.zipWith g (t0 :: ts) ts).take i))) ⟨Ex.new hD, upd_same⟩ (fun i H2 _ p => ⟨sq_of (p.1 _ _ ha1), sq_of (p.1 _ _ hb)⟩) (fun i x' H2 H3 hi p yy => ?_) (fun H2 p => ?_)
  · obtain ⟨T, v1, v2, rfl, nT, rfl, hv1, hv2⟩ := yy
    obtain ⟨c, hc, rfl⟩ := map_at (f := V.ref) (xs := r0 :: rs) hv1
    obtain ⟨d, hd, rfl⟩ := map_at (f := V.ref) (xs := rs) hv2
    obtain ⟨pt, hp1, hp2⟩ := hst.at hc
    have hst' : Stp H rs ts := by
      cases hst with
      | cons _ b => exact b
    obtain ⟨qt, hq1, hq2⟩ := hst'.at hd
    have hg : (List.zipWith g (t0 :: ts) ts)[i]? = some (g pt qt) := by
      rw [List.getElem?_zipWith, hp1, hq1]
    refine ⟨T, _, rfl, st_of upd_same, rfl, _, _, rfl, _, _, rfl, rfl, hw _ _, ?_⟩
    refine he i c d pt qt _ (((e.trans e1).trans p.1).trans (Ex.new nT)) hp1 hq1 hp2 hq2 _ (Ex.refl _) _ fun H4 e4 => ⟨_, e4 Dl _ ((Ex.new nT) Dl _ p.2), sz_lt ?_, ?_, ?_⟩
    · have := List.length_take_le i (List.zipWith g (t0 :: ts) ts)
      omega
    · exact Ex.mut ((p.1.trans (Ex.new nT)).trans e4) hD
    · rw [upd_same, List.take_add_one, hg]
      rfl
  · obtain ⟨p1, p2⟩ := p
    rw [List.take_of_length_le (by rw [List.length_zipWith, List.length_cons]; omega)] at p2
    exact q Dl H2 (fresh_back e1 hD) (e1.trans p1) p2
/-- [f(x) for x in list of data] -/
theorem el_lcD {a : Addr} {xs : List V} {ds : List PyData} {j : Nat} {vs : List Nat} (f : PyData → Bool) (h : Ev tl σ H (.ref a)) (ha : H a = some (.lst xs)) (hd : DtAll H xs ds) (hz : ds.length ≤ 40000) (hw : ∀ x, wipe ((wipe σ vs).set j (some x)) vs = wipe σ vs)
    (he : ∀ (v : V) (d : PyData) H1, Ex H H1 → d ∈ ds → Dt H v d → Ev te ((wipe σ vs).set j (some v)) H1 (.bl (f d))) : EvL (tLc (iList K tl) (gName j) tYes te vs) σ H ((ds.map f).map V.bl) := fun H0 e Q q => h H0 e _ fun H1 e1 => by
  have ha1 := e1 _ _ (e _ _ ha)
  have hl := hd.len
  refine ⟨a, rfl, ⟨_, sq_of ha1⟩, fun Dl hD => ?_⟩
  refine lc_list (xs := xs) (fun i H2 => Ex H1 H2 ∧ H2 Dl = some (.lst (((ds.map f).map V.bl).take i))) ⟨Ex.new hD, upd_same⟩ (fun i H2 _ p => sq_of (p.1 _ _ ha1)) (fun i x H2 hi p => ?_) (fun H2 p => ?_)
  · obtain ⟨d, hd1, hd2⟩ := hd.at hi
    have hil : i < ds.length := (List.getElem?_eq_some_iff.mp hd1).1
    refine ⟨hw _, ?_⟩
    refine he x d H2 ((e.trans e1).trans p.1) (List.mem_of_getElem? hd1) hd2 H2 (Ex.refl _) _ fun H4 e4 => ⟨_, e4 Dl _ p.2, sz_lt ?_, Ex.mut (p.1.trans e4) hD, ?_⟩
    · have := List.length_take_le i ((ds.map f).map V.bl)
      omega
    · rw [upd_same, List.take_add_one, List.getElem?_map, List.getElem?_map, hd1]
      rfl
  · obtain ⟨p1, p2⟩ := p
    rw [List.take_of_length_le (by rw [List.length_map, List.length_map]; omega)] at p2
    exact q Dl H2 (fresh_back e1 hD) (e1.trans p1) p2
end
theorem goes_zip : ∀ (t : T2) (r : List T2), ((List.zipWith goesT (t :: r) r).all id) = goesAll (t :: r)
  | t, [] => rfl
  | t, q :: r => by
    rw [List.zipWith_cons_cons, List.all_cons, goes_zip q r]
    rfl
end Dw

set_option Elab.async false
set_option linter.all false
set_option maxRecDepth 100000
set_option maxHeartbeats 2000000
namespace Dw
open PySem L2 Evl
/-! ### texts by number -/
def txs (f : Nat → List Nat) (n : Nat) : List V := (List.range n).map fun k => V.str (Tx (f k))
theorem txs_len (f : Nat → List Nat) (n : Nat) : (txs f n).length = n := by simp [txs]
theorem txs_succ (f : Nat → List Nat) (n : Nat) : txs f (n + 1) = txs f n ++ [V.str (Tx (f n))] := by simp [txs, List.range_succ]
theorem txs_at {f : Nat → List Nat} {n k : Nat} (h : k < n) : (txs f n)[k]? = some (V.str (Tx (f k))) := by simp [txs, h]
theorem txs_cut {f : Nat → List Nat} {n lo hi : Nat} (h1 : lo ≤ hi) (h2 : hi ≤ n) : cutV (txs f n) (some (lo : Int)) (some (hi : Int)) = txs (fun k => f (lo + k)) (hi - lo) := by
  unfold cutV
  rw [HT.sIx_nat, HT.sIx_nat, txs_len]
  refine List.ext_getElem? fun i => ?_
  by_cases hi2 : i < hi - lo
  · rw [List.getElem?_take_of_lt (by omega), List.getElem?_drop, txs_at (by omega), txs_at hi2]
    rw [show min lo n + i = lo + i by omega]
  · rw [List.getElem?_eq_none (by rw [List.length_take]; omega), List.getElem?_eq_none (by rw [txs_len]; omega)]
theorem txs_strs (f : Nat → List Nat) (n : Nat) : txs f n = ((List.range n).map fun k => Tx (f k)).map V.str := by simp [txs]
theorem rep_strs (x : List Nat) (n : Nat) : List.replicate n (V.str (Tx x)) = (List.replicate n (Tx x)).map V.str := by simp
theorem alike_iff {f : Nat → List Nat} {t l : Nat} (h : l ≤ t) : (List.range (l + 1)).map (fun k => Tx (f (t - l + k))) = List.replicate (l + 1) (Tx (f (t - l))) ↔ ∀ j, j ≤ l → f (t - j) = f t := by
  constructor
  · intro e
    have key : ∀ k, k ≤ l → f (t - l + k) = f (t - l) := fun k hk => by
      have := congrArg (fun z => z[k]?) e
      simp only [List.getElem?_map, List.getElem?_replicate] at this
      rw [List.getElem?_range (by omega), if_pos (by omega)] at this
      exact Tx_inj (Option.some.inj this)
    intro j hj
    have h1 := key (l - j) (by omega)
    have h2 := key l (Nat.le_refl _)
    rw [show t - l + (l - j) = t - j by omega] at h1
    rw [show t - l + l = t by omega] at h2
    rw [h1, h2]
  · intro e
    refine List.ext_getElem? fun i => ?_
    simp only [List.getElem?_map, List.getElem?_replicate]
    by_cases hi : i < l + 1
    · rw [List.getElem?_range hi, if_pos hi]
      show some (Tx (f (t - l + i))) = _
      have h1 := e (l - i) (by omega)
      have h2 := e l (Nat.le_refl _)
      rw [show t - (l - i) = t - l + i by omega] at h1
      rw [h1, h2]
    · rw [List.getElem?_eq_none (by simp; omega), if_neg hi]
      rfl
def atF (ws : List T2) (k : Nat) : List Nat := atW (k : Int) ws []
theorem found_at {l : Nat} {ws : List T2} (t : Nat) : foundF l ws t = if t < l then atF ws 0 else if (∀ j, j ≤ l → atF ws (t - j) = atF ws t) then atF ws t else foundF l ws (t - 1) := by
  cases t with
  | zero =>
    rw [found_zero]
    by_cases h : 0 < l
    · rw [if_pos h]
      rfl
    · rw [if_neg h, if_pos (fun j hj => by rw [show j = 0 by omega])]
      rfl
  | succ n => exact found_succ l ws n
def spHeldL : Sp := fun vs H Q _ => ∃ (a : Addr) (l : Nat) (t : T2) (r : List T2), vs = [.ref a, .int (l : Int)] ∧ WvAt H a (t :: r) ∧ WvOk t r ∧ l ≤ 500 ∧ ∀ (g : Addr) (H' : Hp), H g = none → Ex H H' → WvAt H' g (heldH l (t :: r)) → Q (.ref g) H'
def spLeast : Sp := fun vs H Q _ => ∃ (p a : Addr) (n : Nat) (t : T2) (r : List T2), vs = [.ref p, .ref a] ∧ PotN n H p ∧ n ≤ 50000 ∧ WvAt H a (t :: r) ∧ WvOk t r ∧ ∀ (H' : Hp) (m l : Nat), ExB p H H' → PotN m H' p → m ≤ n + 10 → l ≤ 500 → Q (.int (l : Int)) H'
theorem low_found {t : T2} {r : List T2} (ok : WvOk t r) (k : Nat) : LowS (Tx (atF (t :: r) k)) := by
  rcases at_mem (k : Int) (t :: r) [] with e | ⟨q, h1, e⟩
  · unfold atF
    rw [e]
    exact low_nil
  · unfold atF
    rw [e]
    exact low_of (ok.val q h1).1
section
variable {K : PySem.W.Frag} {σ : L2.St} {H H' : Hp} {ta tb tc te tx tl : TE} {tA : TA} {t u : TT} {x y z v : V}
theorem el_repV {n : Nat} (ha : EvL ta σ H [x]) (hb : ∀ H1, Ex H H1 → Ev tb σ H1 (.int (n : Int))) (hz : n ≤ 40000) : EvL (tOp rRep ta tb) σ H (List.replicate n x) := fun H1 e Q q =>
  ha H1 e _ fun p H2 np e2 h2 => hb H2 (e.trans e2) H2 (Ex.refl _) _ fun H3 e3 => ⟨p, n, [x], rfl, rfl, e3 _ _ h2, by omega, by omega, by
    rw [List.length_singleton, Int.toNat_natCast, Nat.one_mul]
    exact sz_of (by omega), fun s ns => by
      have : (List.replicate (n : Int).toNat [x]).flatten = List.replicate n x := by
        rw [Int.toNat_natCast]
        induction n with
        | zero => rfl
        | succ k ih => rw [List.replicate_succ, List.flatten_cons, List.replicate_succ]; simp
      rw [this]
      exact q s _ (fresh_back (e2.trans e3) ns) ((e2.trans e3).trans (Ex.new ns)) upd_same⟩
end
end Dw
namespace Dw
open PySem L2 Evl
theorem last_max {t : T2} {r : List T2} (ok : WvOk t r) : ∀ q ∈ t :: r, q.1 ≤ (lastQ t r).1 := by
  have h : ∀ {r : List T2} {t : T2}, Ch 0 t.1 t.2 r → ∀ q ∈ t :: r, q.1 ≤ (lastQ t r).1 := by
    intro r
    induction r with
    | nil =>
      intro t _ q hq
      rw [List.mem_singleton.mp hq]
      exact Int.le_refl _
    | cons b r ih =>
      intro t hc q hq
      have e : lastQ t (b :: r) = lastQ b r := by
        unfold lastQ
        rw [List.getLast_cons (by simp)]
      rw [e]
      rcases List.mem_cons.mp hq with rfl | h
      · have h1 := ih hc.2.2 b (List.mem_cons_self ..)
        have h2 := hc.1
        omega
      · exact ih hc.2.2 q h
  exact h (by rw [ok.t0]; exact ok.ch)
theorem chg_len (f : Nat → List Nat) : ∀ n, (chgF f n).length ≤ n
  | 0 => Nat.le_refl _
  | n + 1 => by
    have := chg_len f n
    rw [chgF, List.length_append]
    split
    · simp
      omega
    · split
      · simp
        omega
      · simp
        omega
section
variable {K : PySem.W.Frag} {σ : L2.St} {H H' : Hp} {ta tb tc te tx tl : TE} {to : TO} {tz : TS} {D : Ends} {tA : TA} {x y z v : V}
theorem eo_is {o o' : Option Int} (h : EvO to σ H o) (e : o = o') : EvO to σ H o' := e ▸ h
/-- x = [(0, e)], pure -/
theorem q_newStep {i : Nat} (h : Ev te σ H v) (kk : ∀ H1 r0 g, Ex H H1 → H1 r0 = none → L2.upd H1 r0 (.tup [.int 0, v]) g = none → tz D (σ.set i (some (.ref g))) (L2.upd (L2.upd H1 r0 (.tup [.int 0, v])) g (.lst [.ref r0]))) :
    tSeq (tAsg (tLst (tCons (tTup (tCons (tC (.int 0)) (tCons te tNil))) tNil)) (gName i)) tz D σ H := h H (Ex.refl _) _ fun H1 e => ⟨by show 2 ≤ sizeLine; decide, fun r0 n0 => ⟨by show 1 ≤ sizeLine; decide, fun g ng => kk H1 r0 g e n0 ng⟩⟩
end
end Dw

set_option Elab.async false
set_option linter.all false
set_option maxRecDepth 100000
set_option maxHeartbeats 2000000
namespace Dw
open PySem L2 Evl
def isR (lo hi : Int) : V → Hp → Prop := fun v _ => ∃ d : Int, v = .int d ∧ lo ≤ d ∧ d ≤ hi
section
variable {K : PySem.W.Frag} {σ : L2.St} {H H' : Hp} {ta tb te tx tn : TE} {t u t1 : TT} {x y z v : V} {D : Ends} {tu tz : TS} {p : Addr} {k k' n : Nat} {G G' : V → Hp → Prop} {a b c d m : Int}
theorem evq_r (h : EvQ p k te σ H (isI' m)) : EvQ p k te σ H (isR 0 (m - 1)) := h.mono fun v H2 ⟨d, e, d0, d1⟩ => ⟨d, e, d0, by omega⟩
theorem evq_plus (ha : EvQ p k ta σ H (isR a b)) (hb : ∀ H1, ExB p H H1 → EvQ p k' tb σ H1 (isR c d)) : EvQ p (k + k') (tOp (rI0 fun i j => .int (i + j)) ta tb) σ H (isR (a + c) (b + d)) := fun H1 n e hP hn Q q =>
  ha H1 n e hP (by omega) _ fun v H2 e2 hP2 ⟨i, hi, i0, i1⟩ => hb H2 (e.trans e2) H2 (n + k) (ExB.refl _ _) hP2 (by omega) _ fun w H3 e3 hP3 ⟨j, hj, j0, j1⟩ => ⟨i, j, hi, hj, q _ H3 (e2.trans e3) (by rw [← Nat.add_assoc]; exact hP3) ⟨i + j, rfl, by omega, by omega⟩⟩
theorem evq_less (ha : EvQ p k ta σ H (isR a b)) : EvQ p k (tOp (rI0 fun i j => .int (i - j)) ta (tC (.int c))) σ H (isR (a - c) (b - c)) := fun H1 n e hP hn Q q =>
  ha H1 n e hP (by omega) _ fun v H2 e2 hP2 ⟨i, hi, i0, i1⟩ => ⟨i, c, hi, rfl, q _ H2 e2 hP2 ⟨i - c, rfl, by omega, by omega⟩⟩
theorem evq_max0 (h : EvQ p k te σ H (isR a b)) (h0 : 0 ≤ b) : EvQ p k (tCB rMax2 (tCons (tC (.int 0)) (tCons te tNil))) σ H (isR 0 b) := fun H1 n e hP hn Q q =>
  h H1 n e hP hn _ fun v H2 e2 hP2 ⟨i, hi, i0, i1⟩ => ⟨0, i, by rw [hi], q _ H2 e2 hP2 ⟨_, rfl, by split <;> omega, by split <;> omega⟩⟩
theorem evq_ixL {g : Addr} {xs : List V} (ha : ∀ H1, Ev ta σ H1 (.ref g)) (hg : H g = some (.lst xs)) (hne : g ≠ p) (he : ∀ H1, ExB p H H1 → EvQ p k te σ H1 (isI' (xs.length : Int))) : EvQ p k (tOp (rIxL K) ta te) σ H (fun v _ => v ∈ xs) := fun H1 n e hP hn Q q => by
  refine ha H1 H1 (Ex.refl _) _ fun H2 e2 => he H2 (e.trans (ExB.of e2)) H2 n (ExB.refl _ _) (hP.ex e2) hn _ fun v H3 e3 hP3 ⟨d, hv, d0, d1⟩ => ?_
  obtain ⟨i, rfl⟩ := Int.eq_ofNat_of_zero_le d0
  have hi : i < xs.length := by omega
  have hg3 : H3 g = some (.lst xs) := e3 _ _ hne (e2 _ _ (e _ _ hne hg))
  refine ⟨g, xs, (i : Int), xs[i], rfl, hv, sq_of hg3, atI_nat (List.getElem?_eq_getElem hi), q _ H3 ((ExB.of e2).trans e3) hP3 (List.getElem_mem hi)⟩
theorem s_retQ (h : EvQ p k te σ H G) (hP : PotN n H p) (hn : n + k ≤ 100000) (kk : ∀ v H1, ExB p H H1 → PotN (n + k) H1 p → G v H1 → D.rt v H1) : tRet te D σ H := h H n (ExB.refl _ _) hP hn _ fun v H1 e hP1 g => kk v H1 e hP1 g
/-- if a and e: .., e drawn -/
theorem q_andDraw {b1 : Bool} (h1 : EvT t1 σ H b1) (h0 : b1 = false → ∀ H1, Ex H H1 → tz D σ H1) (h2 : b1 = true → EvQ p k te σ H G) (hP : PotN n H p) (hn : n + k ≤ 100000)
    (kk : b1 = true → ∀ v H1, ExB p H H1 → PotN (n + k) H1 p → G v H1 → ∃ c : Bool, v = .bl c ∧ (c = true → tu { D with nx := tz D } σ H1) ∧ (c = false → tz D σ H1)) : tSeq (tIfS (tAnd t1 (tTest te)) tu tNext) tz D σ H :=
  h1 H (Ex.refl _) _ fun H1 e => by
    cases b1 with
    | false => exact iteF (iteF (h0 rfl H1 e))
    | true =>
      refine iteT (h2 rfl H1 n (ExB.of e) (hP.ex e) hn _ fun v H2 e2 hP2 g => ?_)
      obtain ⟨c, hc, c1, c2⟩ := kk rfl v H2 ((ExB.of e).trans e2) hP2 g
      refine ⟨c, hc, ?_⟩
      cases c with
      | true => exact iteT (c1 rfl)
      | false => exact iteF (c2 rfl)
theorem evq_eq (h : EvQ p k te σ H (isI' m)) : EvQ p k (tOp rEq te (tC (.int c))) σ H (fun v _ => ∃ b : Bool, v = .bl b) := fun H1 n e hP hn Q q =>
  h H1 n e hP hn _ fun v H2 e2 hP2 ⟨d, hd, d0, d1⟩ => by
    rw [hd]
    exact ⟨rfl, q _ H2 e2 hP2 ⟨_, rfl⟩⟩
theorem rv_neInts {p q : Addr} {xs ys : List Int} (h1 : SqL K H p (xs.map V.int)) (h2 : SqL K H q (ys.map V.int)) : RV (rNeD K) (.ref p) (.ref q) H (.bl (!decide (xs = ys))) := fun H1 e Q k =>
  ⟨_, _, .lst (ex_l e h1) (dpAll_ints xs), .lst (ex_l e h2) (dpAll_ints ys), shaped_ints xs, shaped_ints ys, by rw [PyData.eqv, eqvAll_ints]; exact k H1 (Ex.refl _)⟩
end
theorem ix_tupV {X : Cx} {K : PySem.W.Frag} (h : X.K = K) : IxR X (rIxT K) := h ▸ ix_tup
theorem gap_ok {t : T2} {r : List T2} (ok : WvOk t r) : ∀ v ∈ (List.zipWith (fun p q : T2 => q.1 - p.1) (t :: r) r).map V.int, ∃ d : Int, v = .int d ∧ 0 ≤ d ∧ d ≤ 440 := by
  have h : ∀ {r : List T2} {t : T2}, Ch 0 t.1 t.2 r → 0 ≤ t.1 → (∀ q ∈ r, q.1 ≤ 440) → ∀ x ∈ List.zipWith (fun p q : T2 => q.1 - p.1) (t :: r) r, 0 ≤ x ∧ x ≤ 440 := by
    intro r
    induction r with
    | nil =>
      intro t _ _ _ x hx
      cases hx
    | cons b r ih =>
      intro t hc h0 hl x hx
      rw [List.zipWith_cons_cons] at hx
      have h1 := hc.1
      have h2 := hl b (List.mem_cons_self ..)
      rcases List.mem_cons.mp hx with rfl | h
      · constructor <;> omega
      · exact ih hc.2.2 (by omega) (fun q hq => hl q (List.mem_cons_of_mem _ hq)) x h
  intro v hv
  obtain ⟨x, hx, rfl⟩ := List.mem_map.mp hv
  obtain ⟨a, b⟩ := h (by rw [ok.t0]; exact ok.ch) (by rw [ok.t0]; exact Int.le_refl _) (fun q hq => ok.lim q (List.mem_cons_of_mem _ hq)) x hx
  exact ⟨x, rfl, a, b⟩
/-- what is held is a wave that can be shown -/
theorem isWv_held {t : T2} {r : List T2} (ok : WvOk t r) {l : Int} (l0 : 0 ≤ l) (l1 : l ≤ 1000) : IsWv (.list ((heldH l (t :: r)).map stD)) true ∧ (heldH l (t :: r)).length ≤ 12 ∧ ∀ q ∈ heldH l (t :: r), q.2.length ≤ 8 ∧ LowS (Tx q.2) := by
  have mem : ∀ q ∈ heldH l (t :: r), ∃ p ∈ t :: r, q.2 = p.2 ∧ q.1 ≤ p.1 + l := fun q hq => by
    rcases List.mem_cons.mp hq with rfl | h
    · exact ⟨q, List.mem_cons_self .., rfl, by omega⟩
    · obtain ⟨p, h1, rfl⟩ := go_mem r _ q h
      exact ⟨p, List.mem_cons_of_mem _ h1, rfl, Int.le_refl _⟩
  have sgok : ∀ q ∈ heldH l (t :: r), okL q.2 = true ∧ q.2.length = t.2.length := fun q hq => by
    obtain ⟨p, hp, e, _⟩ := mem q hq
    obtain ⟨v1, v2, v3, v4⟩ := ok.val p hp
    rw [e]
    refine ⟨?_, v3⟩
    unfold okL
    rw [Bool.and_eq_true, Bool.and_eq_true]
    exact ⟨⟨decide_eq_true v2, decide_eq_true v4⟩, List.all_eq_true.mpr fun c hc => decide_eq_true (v1 c hc)⟩
  have stp : ((heldH l (t :: r)).map stD).all stepD = true := by
    rw [List.all_map, List.all_eq_true]
    intro q hq
    obtain ⟨p, hp, e, e2⟩ := mem q hq
    have h2 := ok.lim p hp
    show stepD (stD q) = true
    rw [step_st, (sgok q hq).1, Bool.and_true]
    exact decide_eq_true (by omega)
  have ch : Ch l 0 t.2 (goH l r t.2) := go_is l0 ok.ch (fun q hq => by have := ch_lt (Int.le_refl 0) ok.ch q hq; omega)
  have goes : ∀ {s : List T2} {p : T2}, Ch 0 p.1 p.2 s → (∀ q ∈ s, q.2.length = p.2.length) → goesAll (p :: s) = true := by
    intro s
    induction s with
    | nil => intro p _ _; rfl
    | cons b s ih =>
      intro p hc hl
      have h1 := hc.1
      have h2 := hc.2.1
      have h3 := hl b (List.mem_cons_self ..)
      show (goesT p b && goesAll (b :: s)) = true
      rw [ih hc.2.2 (fun q hq => by rw [h3]; exact hl q (List.mem_cons_of_mem _ hq)), Bool.and_true]
      unfold goesT
      rw [decide_eq_true (by omega : p.1 < b.1), decide_eq_true (show p.2 ≠ b.2 from fun z => h2 z.symm), decide_eq_true h3.symm]
      rfl
  refine ⟨?_, ?_, fun q hq => ?_⟩
  · have := IsWv.all (t := t) (r := goH l r t.2) stp
    rw [goes (by rw [ok.t0]; exact ch.mono l0) (fun q hq => (sgok q (List.mem_cons_of_mem _ hq)).2), ok.t0] at this
    exact this
  · have h1 := go_len (l := l) r t.2
    have h2 := ok.len
    show (goH l r t.2).length + 1 ≤ 12
    omega
  · obtain ⟨p, hp, e, _⟩ := mem q hq
    rw [e]
    exact ⟨(ok.val p hp).2.2.2, low_of (ok.val p hp).1⟩
theorem sh_ok {t : T2} {r : List T2} (ok : WvOk t r) : ShW (t :: r) := by
  refine ⟨by have := ok.len; simp; omega, fun q hq => ?_⟩
  have h1 := ok.lim q hq
  have h2 := pos_t ok hq
  obtain ⟨v1, v2, v3, v4⟩ := ok.val q hq
  refine ⟨?_, by omega, fun c hc => ?_⟩
  · exact Nat.lt_of_le_of_lt (by omega : q.1.natAbs ≤ 440) (by decide +kernel)
  · have := v1 c hc
    simp [sgn] at this
    omega
end Dw

set_option Elab.async false
set_option linter.all false
set_option maxRecDepth 100000
set_option maxHeartbeats 2000000
namespace Dw
open PySem L2 Evl
/-! ### data that is made -/
def EvD (te : TE) (σ : L2.St) (H : Hp) (d : PyData) : Prop := ∀ H1, Ex H H1 → ∀ Q : VK, (∀ v H2, Ex H1 H2 → Dt H2 v d → Q v H2) → te σ H1 Q
def EvDA (ta : TA) (σ : L2.St) (H : Hp) (ds : List PyData) : Prop := ∀ H1, Ex H H1 → ∀ Q : List V → Hp → Prop, (∀ vs H2, Ex H1 H2 → DtAll H2 vs ds → Q vs H2) → ta σ H1 Q
/-- a new list of data -/
def EvDL (te : TE) (σ : L2.St) (H : Hp) (ds : List PyData) : Prop := ∀ H1, Ex H H1 → ∀ Q : VK, (∀ g xs H2, H1 g = none → Ex H1 H2 → H2 g = some (.lst xs) → DtAll H2 xs ds → Q (.ref g) H2) → te σ H1 Q
section
variable {K : PySem.W.Frag} {σ : L2.St} {H H' : Hp} {ta tb te : TE} {tA : TA} {v : V} {d : PyData} {ds es : List PyData} {D : Ends} {tz : TS}
theorem ed_v (h : Ev te σ H v) (hd : Dt H v d) : EvD te σ H d := fun H1 e Q q => h H1 e Q fun H2 e2 => q v H2 e2 (hd.ex (e.trans e2))
theorem ed_int {i : Int} (h : Ev te σ H (.int i)) : EvD te σ H (.int i) := ed_v h (.int i)
theorem ed_tx {l : List Nat} (h : Ev te σ H (.str (Tx l))) : EvD te σ H (.str (Tx l)) := ed_v h (.str l)
theorem da_nil : EvDA tNil σ H [] := fun H1 e Q q => q [] H1 (Ex.refl _) .nil
theorem da_cons (h : EvD te σ H d) (hr : EvDA tA σ H ds) : EvDA (tCons te tA) σ H (d :: ds) := fun H1 e Q q =>
  h H1 e _ fun v H2 e2 hv => hr H2 (e.trans e2) _ fun vs H3 e3 hvs => q _ H3 (e2.trans e3) (.cons (hv.ex e3) hvs)
theorem ed_tup (h : EvDA tA σ H ds) (hz : ds.length ≤ 1000) : EvD (tTup tA) σ H (.tuple ds) := fun H1 e Q q =>
  h H1 e _ fun vs H2 e2 hvs => ⟨sz_of (by rw [hvs.len]; omega), fun p np => q _ _ (e2.trans (Ex.new np)) (.tup upd_same (hvs.ex (Ex.new np)))⟩
theorem el_lstD (h : EvDA tA σ H ds) (hz : ds.length ≤ 1000) : EvDL (tLst tA) σ H ds := fun H1 e Q q =>
  h H1 e _ fun vs H2 e2 hvs => ⟨sz_of (by rw [hvs.len]; omega), fun p np => q p vs _ (fresh_back e2 np) (e2.trans (Ex.new np)) upd_same (hvs.ex (Ex.new np))⟩
theorem ed_lst (h : EvDA tA σ H ds) (hz : ds.length ≤ 1000) : EvD (tLst tA) σ H (.list ds) := fun H1 e Q q =>
  el_lstD h hz H1 e Q fun g xs H2 ng e2 hg hxs => q _ H2 e2 (.lst hg hxs)
theorem DtAll.app {H : Hp} : ∀ {vs : List V} {ds : List PyData} {ws : List V} {es : List PyData}, DtAll H vs ds → DtAll H ws es → DtAll H (vs ++ ws) (ds ++ es)
  | _, _, _, _, .nil, h => h
  | _, _, _, _, .cons a b, h => .cons a (b.app h)
/-- a list that stands, and new data behind it -/
theorem el_catD {g : Addr} {xs : List V} (ha : Ev ta σ H (.ref g)) (hg : H g = some (.lst xs)) (hx : DtAll H xs ds) (hb : EvDL tb σ H es) (hz : ds.length + es.length ≤ 1000) : EvDL (tOp rCat ta tb) σ H (ds ++ es) := fun H1 e Q q =>
  ha H1 e _ fun H2 e2 => hb H2 (e.trans e2) _ fun r ys H3 nr e3 h3 hy => ⟨g, r, xs, ys, rfl, rfl, e3 _ _ (e2 _ _ (e _ _ hg)), h3, sz_of (by rw [hx.len, hy.len]; omega), fun s ns => q s (xs ++ ys) _ (fresh_back (e2.trans e3) ns) ((e2.trans e3).trans (Ex.new ns)) upd_same (((hx.ex ((e.trans e2).trans e3)).app hy).ex (Ex.new ns))⟩
theorem q_asgD {i : Nat} (h : EvDL te σ H ds) (k : ∀ g xs H1, H g = none → Ex H H1 → H1 g = some (.lst xs) → DtAll H1 xs ds → tz D (σ.set i (some (.ref g))) H1) : tSeq (tAsg te (gName i)) tz D σ H := h H (Ex.refl _) _ fun g xs H1 ng e hg hx => k g xs H1 ng e hg hx
theorem s_asgD {i : Nat} (h : EvDL te σ H ds) (k : ∀ g xs H1, H g = none → Ex H H1 → H1 g = some (.lst xs) → DtAll H1 xs ds → D.nx (σ.set i (some (.ref g))) H1) : tAsg te (gName i) D σ H := h H (Ex.refl _) _ fun g xs H1 ng e hg hx => k g xs H1 ng e hg hx
theorem ev_strI {i : Int} (h : Ev te σ H (.int i)) (hz : i.natAbs.log2 < 1920) : Ev (tCB (fun xs H Q => ∃ i, xs = [.int i] ∧ i.natAbs.log2 < 1920 ∧ Q (.str (toString i)) H) (tCons te tNil)) σ H (.str (Tx (Str.ofString (toString i)).cps.toList)) := fun H1 e Q q =>
  h H1 e _ fun H2 e2 => ⟨i, rfl, hz, by
    have := q H2 e2
    rw [Tx_tl] at this
    exact this⟩
end
/-! ### what stays when the pot is drawn from -/
def is3 : List PyData → Bool
  | [.int _, .int _, .int _] => true
  | _ => false
mutual
def noP : PyData → Bool
  | .list xs => !is3 xs && noPs xs
  | .tuple xs => noPs xs
  | _ => true
def noPs : List PyData → Bool
  | [] => true
  | x :: xs => noP x && noPs xs
end
mutual
theorem Dt.exB {p : Addr} {x y c : Int} {H H' : Hp} (hp : H p = some (.lst [.int x, .int y, .int c])) (e : ExB p H H') : ∀ {v : V} {d : PyData}, Dt H v d → noP d = true → Dt H' v d
  | _, _, .non, _ => .non
  | _, _, .bl b, _ => .bl b
  | _, _, .int i, _ => .int i
  | _, _, .str x, _ => .str x
  | _, _, .lst (a := a) (xs := xs) (ds := ds) h1 h2, h => by
    rw [noP, Bool.and_eq_true] at h
    refine .lst (e _ _ (fun z => ?_) h1) (h2.exB hp e h.2)
    rw [z, hp] at h1
    cases h1
    cases h2 with
    | cons a1 a2 =>
      cases a1
      cases a2 with
      | cons a3 a4 =>
        cases a3
        cases a4 with
        | cons a5 a6 =>
          cases a5
          cases a6
          exact absurd h.1 (by simp [is3])
  | _, _, .tup h1 h2, h => by
    rw [noP] at h
    refine .tup (e _ _ (fun z => ?_) h1) (h2.exB hp e h)
    rw [z, hp] at h1
    cases h1
  | _, _, .dct h1, _ => .dct (e _ _ (fun z => by rw [z, hp] at h1; cases h1) h1)
theorem DtAll.exB {p : Addr} {x y c : Int} {H H' : Hp} (hp : H p = some (.lst [.int x, .int y, .int c])) (e : ExB p H H') : ∀ {vs : List V} {ds : List PyData}, DtAll H vs ds → noPs ds = true → DtAll H' vs ds
  | _, _, .nil, _ => .nil
  | _, _, .cons h1 h2, h => by
    rw [noPs, Bool.and_eq_true] at h
    exact .cons (h1.exB hp e h.1) (h2.exB hp e h.2)
end
/-! ### what is no wave -/
theorem bad_t {t : T2} {r : List T2} (h : (decide (t.1 = 0) && goesAll (t :: r)) = false) : IsWv (.list ((t :: r).map stD)) false := by
  cases hs : ((t :: r).map stD).all stepD with
  | false => exact .step hs
  | true =>
    have := IsWv.all (t := t) (r := r) hs
    rw [h] at this
    exact this
theorem goes_bad {p q : T2} (h : goesT p q = false) : ∀ (a : List T2) (b : List T2), goesAll (a ++ p :: q :: b) = false
  | [], b => by
    show (goesT p q && goesAll (q :: b)) = false
    rw [h, Bool.false_and]
  | [x], b => by
    show (goesT x p && goesAll (p :: q :: b)) = false
    rw [show goesAll (p :: q :: b) = false from goes_bad h [] b, Bool.and_false]
  | x :: y :: a, b => by
    show (goesT x y && goesAll (y :: a ++ p :: q :: b)) = false
    rw [show goesAll (y :: a ++ p :: q :: b) = false from goes_bad h (y :: a) b, Bool.and_false]
/-- one put otherwise -/
def putD (ts : List T2) (s : Nat) (d : PyData) : List PyData := (ts.take s).map stD ++ [d] ++ (ts.drop (s + 1)).map stD
theorem put_step {ts : List T2} {s : Nat} {d : PyData} (h : stepD d = false) : IsWv (.list (putD ts s d)) false := by
  refine .step ?_
  unfold putD
  rw [List.all_append, List.all_append]
  simp [h]
theorem put_st (ts : List T2) (s : Nat) (q : T2) : putD ts s (stD q) = (ts.take s ++ q :: ts.drop (s + 1)).map stD := by simp [putD]
theorem put_first {ts : List T2} {q : T2} (h : q.1 ≠ 0) : IsWv (.list (putD ts 0 (stD q))) false := by
  rw [put_st]
  refine bad_t (t := q) (r := ts.drop 1) ?_
  rw [decide_eq_false h, Bool.false_and]
theorem put_goes {ts : List T2} {s : Nat} {p q : T2} (hp : ts[s]? = some p) (h : goesT p q = false) : IsWv (.list (putD ts (s + 1) (stD q))) false := by
  rw [put_st]
  obtain ⟨h1, h2⟩ := List.getElem?_eq_some_iff.mp hp
  have ht : ts.take (s + 1) = ts.take s ++ [p] := by rw [List.take_add_one, hp]; rfl
  rw [ht]
  have hg := goes_bad h (ts.take s) (ts.drop (s + 1 + 1))
  rw [List.append_assoc]
  show IsWv (.list ((ts.take s ++ (p :: q :: ts.drop (s + 1 + 1))).map stD)) false
  cases hd : ts.take s with
  | nil =>
    rw [hd] at hg
    exact bad_t (by rw [show goesAll (p :: q :: ts.drop (s + 1 + 1)) = false from hg, Bool.and_false])
  | cons x l =>
    rw [hd] at hg
    exact bad_t (t := x) (r := l ++ (p :: q :: ts.drop (s + 1 + 1))) (by rw [show goesAll (x :: (l ++ p :: q :: ts.drop (s + 1 + 1))) = false from hg, Bool.and_false])
/-! ### what can be shown, small -/
structure SmD (d : PyData) : Prop where
  ok : ShOk d
  b : shB d ≤ 8000
  dp : d.depth ≤ 2
  p : noP d = true
  s : smallD d
theorem ofS_low (s : String) : ∀ c ∈ (Str.ofString s).cps.toList, c < 16 ^ 8 := by
  intro c hc
  rw [PyProof.Rows.signs_ofString] at hc
  obtain ⟨ch, _, rfl⟩ := List.mem_map.mp hc
  rcases ch.valid with h | h
  · show ch.val.toNat < 16 ^ 8
    omega
  · show ch.val.toNat < 16 ^ 8
    omega
end Dw

set_option Elab.async false
set_option linter.all false
set_option maxRecDepth 100000
set_option maxHeartbeats 2000000
namespace Dw
open PySem L2 Evl
section
variable {tm : Int} {vl wd : List Nat} {ah : T2}
def sTx (l : List Nat) : PyData := .str (Tx l)
def strI (i : Int) : List Nat := (Str.ofString (toString i)).cps.toList
def S1 (tm : Int) (vl : List Nat) : List PyData := [.none, .list [.int tm, sTx vl], .tuple [.int tm], .tuple [.int tm, sTx vl, sTx vl], .tuple [], sTx [48], .tuple [sTx vl, .int tm], .tuple [sTx (strI tm), sTx vl]]
def S2 (tm : Int) (vl : List Nat) : List PyData := [.tuple [.none, sTx vl], .tuple [.int tm, .none], .tuple [.int tm, sTx []], .tuple [.int tm, sTx (List.replicate vl.length 50)], .tuple [.int tm, .list [sTx vl]], .tuple [.int (-1), sTx vl]]
def S3 (tm : Int) (vl : List Nat) : List PyData := [.tuple [.int tm, sTx (List.replicate 9 48)], .tuple [.int (10 ^ 60), sTx vl], .tuple [.int tm, sTx [88]], .tuple [.int tm, .int 1], .tuple [.tuple [.int tm], sTx vl]]
def S4 (tm : Int) (vl wd : List Nat) (ah : T2) : List PyData := [.tuple [.int ah.1, sTx vl], .tuple [.int (ah.1 - 1), sTx vl], .tuple [.int tm, sTx ah.2], .tuple [.int tm, sTx wd]]
def S5 (vl : List Nat) : List PyData := [.tuple [.int 1, sTx vl], .tuple [.bool true, sTx vl], .tuple [.bool false, sTx vl], .tuple [.int (-1), sTx vl]]
structure SmB (d : PyData) : Prop where
  ok : ShOk d
  b : shB d ≤ 30000
  dp : d.depth ≤ 2
  p : noP d = true
  s : smallD d
def LoT (l : List Nat) : Prop := l.length ≤ 2000 ∧ ∀ c ∈ l, c < 16 ^ 8
theorem sh_tx {l : List Nat} (h : LoT l) : ShOk (sTx l) ∧ shB (sTx l) ≤ 20002 := by
  refine ⟨fun c hc => h.2 c (by simpa [Tx] using hc), ?_⟩
  have hl : (Tx l).length = l.length := Tx_len l
  show 10 * (Tx l).length + 2 ≤ 20002
  have := h.1
  omega
theorem lo_str {i : Int} (h : i.natAbs.log2 < 1920) : LoT (strI i) := by
  refine ⟨?_, ofS_low _⟩
  have e := int_text_length_le (k := 1920) (by decide) h
  have : (Str.ofString (toString i)).length = (toString i).length := PySem.ofString_length _
  unfold strI
  show (Str.ofString (toString i)).cps.size ≤ 2000
  have e2 : (Str.ofString (toString i)).cps.size = (Str.ofString (toString i)).length := rfl
  omega
theorem lo_sm {l : List Nat} (h1 : l.length ≤ 2000) (h2 : ∀ c ∈ l, c < 128) : LoT l := ⟨h1, fun c hc => by have := h2 c hc; omega⟩
theorem shB_tx (l : List Nat) : shB (sTx l) = 10 * l.length + 2 := by
  show 10 * (Tx l).length + 2 = _
  rw [Tx_len]
theorem small_tx {x : PyData} {l : List Nat} (h : l.length ≤ 2000) : smallD (.tuple [x, sTx l]) := by
  show (Tx l).cps.size ≤ 10000
  simp [Tx]
  omega
/-- two of which the second is a text -/
theorem sm_pair {x : PyData} {l : List Nat} (h1 : ShOk x) (h2 : shB x ≤ 8000) (h3 : x.depth ≤ 1) (h4 : noP x = true) (hl : LoT l) : SmB (.tuple [x, sTx l]) := by
  obtain ⟨a, b⟩ := sh_tx hl
  refine ⟨⟨h1, a, True.intro⟩, ?_, ?_, ?_, small_tx hl.1⟩
  · simp only [shB, shBs] at b ⊢
    omega
  · simp only [PyData.depth, PyData.depthAll, sTx]
    omega
  · simp [noP, noPs, sTx, h4]
theorem sm_int {i : Int} (h : i.natAbs.log2 < 1920) : ShOk (.int i) ∧ shB (.int i) ≤ 8000 ∧ PyData.depth (.int i) ≤ 1 ∧ noP (.int i) = true := ⟨h, by simp [shB], by simp [PyData.depth], rfl⟩
theorem sm_ip {i : Int} {l : List Nat} (h : i.natAbs.log2 < 1920) (hl : LoT l) : SmB (.tuple [.int i, sTx l]) := sm_pair (sm_int h).1 (sm_int h).2.1 (sm_int h).2.2.1 (sm_int h).2.2.2 hl
theorem lg {i : Int} (h : i.natAbs < 2 ^ 1900) : i.natAbs.log2 < 1920 := by
  by_cases h0 : i.natAbs = 0
  · rw [h0]
    decide
  · have := (Nat.log2_lt h0).mpr h
    omega
theorem lg1 {i : Int} (h : -1000 ≤ i) (h2 : i ≤ 1000) : i.natAbs.log2 < 1920 := lg (Nat.lt_of_le_of_lt (by omega : i.natAbs ≤ 1000) (by decide +kernel))
theorem lg60 : ((10 : Int) ^ 60).natAbs.log2 < 1920 := by decide +kernel
theorem sm_1 (ht : -1000 ≤ tm ∧ tm ≤ 1000) (hv : LoT vl) (h8 : vl.length ≤ 8) : ∀ d ∈ S1 tm vl, SmB d := by
  intro d hd
  have ht' := lg1 ht.1 ht.2
  obtain ⟨a, b⟩ := sh_tx hv
  have hb := shB_tx vl
  simp only [S1, List.mem_cons, List.not_mem_nil, or_false] at hd
  rcases hd with rfl | rfl | rfl | rfl | rfl | rfl | rfl | rfl
  · exact ⟨True.intro, by simp [shB], by simp [PyData.depth], rfl, True.intro⟩
  · refine ⟨⟨ht', a, True.intro⟩, ?_, ?_, ?_, True.intro⟩
    · simp only [shB, shBs] at hb ⊢
      omega
    · simp only [PyData.depth, PyData.depthAll, sTx]
      omega
    · simp [noP, noPs, sTx, is3]
  · refine ⟨⟨ht', True.intro⟩, ?_, ?_, ?_, True.intro⟩
    · simp only [shB, shBs]
      omega
    · simp only [PyData.depth, PyData.depthAll]
      omega
    · simp [noP, noPs]
  · refine ⟨⟨ht', a, a, True.intro⟩, ?_, ?_, ?_, True.intro⟩
    · simp only [shB, shBs] at hb ⊢
      omega
    · simp only [PyData.depth, PyData.depthAll, sTx]
      omega
    · simp [noP, noPs, sTx]
  · exact ⟨True.intro, by simp [shB, shBs], by simp [PyData.depth, PyData.depthAll], rfl, True.intro⟩
  · obtain ⟨a2, b2⟩ := sh_tx (l := [48]) (lo_sm (by decide) (by decide))
    exact ⟨a2, by omega, by simp [sTx, PyData.depth], rfl, True.intro⟩
  · refine ⟨⟨a, ht', True.intro⟩, ?_, ?_, ?_, True.intro⟩
    · simp only [shB, shBs] at hb ⊢
      omega
    · simp only [PyData.depth, PyData.depthAll, sTx]
      omega
    · simp [noP, noPs, sTx]
  · obtain ⟨a2, b2⟩ := sh_tx (lo_str ht')
    refine ⟨⟨a2, a, True.intro⟩, ?_, ?_, ?_, small_tx hv.1⟩
    · simp only [shB, shBs] at hb b2 ⊢
      omega
    · simp only [PyData.depth, PyData.depthAll, sTx]
      omega
    · simp [noP, noPs, sTx]
theorem sm_2 (ht : -1000 ≤ tm ∧ tm ≤ 1000) (hv : LoT vl) (h8 : vl.length ≤ 8) : ∀ d ∈ S2 tm vl, SmB d := by
  intro d hd
  have ht' := lg1 ht.1 ht.2
  obtain ⟨a, b⟩ := sh_tx hv
  have hb := shB_tx vl
  simp only [S2, List.mem_cons, List.not_mem_nil, or_false] at hd
  rcases hd with rfl | rfl | rfl | rfl | rfl | rfl
  · exact sm_pair True.intro (by simp [shB]) (by simp [PyData.depth]) rfl hv
  · refine ⟨⟨ht', True.intro, True.intro⟩, by simp [shB, shBs], by simp [PyData.depth, PyData.depthAll], rfl, True.intro⟩
  · exact sm_ip ht' (lo_sm (by simp) (fun c h => by cases h))
  · exact sm_ip ht' (lo_sm (by simp; omega) (fun c h => by rw [(List.mem_replicate.mp h).2]; decide))
  · refine ⟨⟨ht', ⟨a, True.intro⟩, True.intro⟩, ?_, ?_, ?_, True.intro⟩
    · simp only [shB, shBs] at hb ⊢
      omega
    · simp only [PyData.depth, PyData.depthAll, sTx]
      omega
    · simp [noP, noPs, sTx, is3]
  · exact sm_ip (lg1 (by decide) (by decide)) hv
theorem sm_3 (ht : -1000 ≤ tm ∧ tm ≤ 1000) (hv : LoT vl) : ∀ d ∈ S3 tm vl, SmB d := by
  intro d hd
  have ht' := lg1 ht.1 ht.2
  simp only [S3, List.mem_cons, List.not_mem_nil, or_false] at hd
  rcases hd with rfl | rfl | rfl | rfl | rfl
  · exact sm_ip ht' (lo_sm (by decide) (by decide))
  · exact sm_ip lg60 hv
  · exact sm_ip ht' (lo_sm (by decide) (by decide))
  · exact ⟨⟨ht', lg1 (by decide) (by decide), True.intro⟩, by simp [shB, shBs], by simp [PyData.depth, PyData.depthAll], rfl, True.intro⟩
  · exact sm_pair ⟨ht', True.intro⟩ (by simp [shB, shBs]) (by simp [PyData.depth, PyData.depthAll]) (by simp [noP, noPs]) hv
theorem sm_4 (ht : -1000 ≤ tm ∧ tm ≤ 1000) (hv : LoT vl) (hw : LoT wd) (ha : 0 ≤ ah.1 ∧ ah.1 ≤ 900) (hav : LoT ah.2) : ∀ d ∈ S4 tm vl wd ah, SmB d := by
  intro d hd
  have ht' := lg1 ht.1 ht.2
  simp only [S4, List.mem_cons, List.not_mem_nil, or_false] at hd
  rcases hd with rfl | rfl | rfl | rfl
  · exact sm_ip (lg1 (by omega) (by omega)) hv
  · exact sm_ip (lg1 (by omega) (by omega)) hv
  · exact sm_ip ht' hav
  · exact sm_ip ht' hw
theorem sm_5 (hv : LoT vl) : ∀ d ∈ S5 vl, SmB d := by
  intro d hd
  simp only [S5, List.mem_cons, List.not_mem_nil, or_false] at hd
  rcases hd with rfl | rfl | rfl | rfl
  · exact sm_ip (lg1 (by decide) (by decide)) hv
  · exact sm_pair True.intro (by simp [shB]) (by simp [PyData.depth]) rfl hv
  · exact sm_pair True.intro (by simp [shB]) (by simp [PyData.depth]) rfl hv
  · exact sm_ip (lg1 (by decide) (by decide)) hv
/-! ### none of them is one of a wave -/
theorem st_pair {i : Int} {l : List Nat} (h : okL l = false) : stepD (.tuple [.int i, sTx l]) = false := by
  show (decide (i < 10 ^ 60) && okL (Tx l).cps.toList) = false
  rw [show (Tx l).cps.toList = l by simp [Tx], h, Bool.and_false]
theorem bad_1 {ts : List T2} {s : Nat} : ∀ d ∈ S1 tm vl, IsWv (.list (putD ts s d)) false := by
  intro d hd
  simp only [S1, List.mem_cons, List.not_mem_nil, or_false] at hd
  rcases hd with rfl | rfl | rfl | rfl | rfl | rfl | rfl | rfl <;> exact put_step rfl
theorem bad_2 {ts : List T2} {s : Nat} (h1 : 1 ≤ vl.length) (hm : IsWv (.list (putD ts s (stD (-1, vl)))) false) : ∀ d ∈ S2 tm vl, IsWv (.list (putD ts s d)) false := by
  intro d hd
  simp only [S2, List.mem_cons, List.not_mem_nil, or_false] at hd
  rcases hd with rfl | rfl | rfl | rfl | rfl | rfl
  · exact put_step rfl
  · exact put_step (by simp [stepD, valueD])
  · exact put_step (st_pair rfl)
  · refine put_step (st_pair ?_)
    obtain ⟨n, hn⟩ : ∃ n, vl.length = n + 1 := ⟨vl.length - 1, by omega⟩
    rw [hn]
    unfold okL
    rw [List.replicate_succ, List.all_cons]
    simp [sgn]
  · exact put_step (by simp [stepD, valueD])
  · exact hm
theorem bad_3 {ts : List T2} {s : Nat} : ∀ d ∈ S3 tm vl, IsWv (.list (putD ts s d)) false := by
  intro d hd
  simp only [S3, List.mem_cons, List.not_mem_nil, or_false] at hd
  rcases hd with rfl | rfl | rfl | rfl | rfl
  · exact put_step (st_pair (by decide))
  · refine put_step ?_
    show (decide ((10 : Int) ^ 60 < 10 ^ 60) && valueD (sTx vl)) = false
    rw [decide_eq_false (by omega), Bool.false_and]
  · exact put_step (st_pair (by decide))
  · exact put_step (by simp [stepD, valueD])
  · exact put_step rfl
theorem goes_no {p q : T2} (h : ¬ p.1 < q.1 ∨ p.2 = q.2 ∨ p.2.length ≠ q.2.length) : goesT p q = false := by
  unfold goesT
  rcases h with h | h | h
  · rw [decide_eq_false h, Bool.false_and]
  · rw [show decide (p.2 ≠ q.2) = false from decide_eq_false (fun z => z h), Bool.false_and, Bool.and_false]
  · rw [decide_eq_false h, Bool.and_false, Bool.and_false]
theorem bad_4 {ts : List T2} {s : Nat} (hp : ts[s]? = some ah) (hl : ah.2.length = vl.length) (hw : wd.length ≠ vl.length) : ∀ d ∈ S4 tm vl wd ah, IsWv (.list (putD ts (s + 1) d)) false := by
  intro d hd
  simp only [S4, List.mem_cons, List.not_mem_nil, or_false] at hd
  rcases hd with rfl | rfl | rfl | rfl
  · exact put_goes (q := (ah.1, vl)) hp (goes_no (.inl (by show ¬ ah.1 < ah.1; omega)))
  · exact put_goes (q := (ah.1 - 1, vl)) hp (goes_no (.inl (by show ¬ ah.1 < ah.1 - 1; omega)))
  · exact put_goes (q := (tm, ah.2)) hp (goes_no (.inr (.inl rfl)))
  · exact put_goes (q := (tm, wd)) hp (goes_no (.inr (.inr (by show ah.2.length ≠ wd.length; omega))))
theorem bad_5 {ts : List T2} : ∀ d ∈ S5 vl, IsWv (.list (putD ts 0 d)) false := by
  intro d hd
  simp only [S5, List.mem_cons, List.not_mem_nil, or_false] at hd
  rcases hd with rfl | rfl | rfl | rfl
  · exact put_first (q := (1, vl)) (by show (1 : Int) ≠ 0; decide)
  · exact put_step rfl
  · exact put_step rfl
  · exact put_first (q := (-1, vl)) (by show (-1 : Int) ≠ 0; decide)
end
/-- '2' * n, '0' * 9 -/
theorem mul_ok2 : ∀ d ∈ [48, 50], ∀ n : Fin 10, MulOk (Tx [d]) ((n.val : Nat) : Int) ∧ Txt.mul (Tx [d]) ((n.val : Nat) : Int) = Tx (List.replicate n.val d) := by
  simp only [MulOk]
  decide +kernel
section
variable {K : PySem.W.Frag} {σ : L2.St} {H H' : Hp} {ta tb te : TE} {t : TT} {tA : TA} {tl : TO} {v : V} {d : PyData} {ds es : List PyData} {D : Ends} {tz tu : TS}
theorem ev_mul2 {c n : Nat} (hc : c ∈ [48, 50]) (hn : n < 10) (ha : Ev ta σ H (.str (Tx [c]))) (hb : Ev tb σ H (.int (n : Int))) : Ev (tOp (fun x y H Q => ∃ a i, x = .str a ∧ y = .int i ∧ MulOk a i ∧ Q (.str (Txt.mul a i)) H) ta tb) σ H (.str (Tx (List.replicate n c))) := by
  obtain ⟨h1, h2⟩ := mul_ok2 c hc ⟨n, hn⟩
  exact ev_op ha hb fun H1 _ Q q => ⟨_, _, rfl, rfl, h1, by rw [h2]; exact q H1 (Ex.refl _)⟩
theorem ev_cutN {l : List Nat} {k : Nat} (ha : Ev te σ H (.str (Tx l))) (h2 : EvO tl σ H (some (-(k : Int)))) (h1 : 1 ≤ k) (hk : k ≤ l.length) (hz : l.length ≤ 40000) : Ev (tSl rSlS te tl tNoPart) σ H (.str (Tx (l.drop (l.length - k)))) := fun H1 e Q q =>
  ha H1 e _ fun H2 e2 => h2 H2 (e.trans e2) _ fun H3 e3 => eo_none H3 (Ex.refl _) _ fun H4 e4 => ⟨Tx l, rfl, sz_of (by rw [Tx_len]; omega), by
    have : cutS (Tx l) (some (-(k : Int))) none = Tx (l.drop (l.length - k)) := by
      unfold cutS
      have hs : HT.sIx l.length 0 (some (-(k : Int))) = l.length - k := by
        show (if -(k : Int) < 0 then (-(k : Int) + (l.length : Int)).toNat else _) = _
        rw [if_pos (by omega)]
        omega
      rw [Tx_len, HT.sIx_none, hs]
      show Tx ((l.drop (l.length - k)).take (l.length - (l.length - k))) = Tx (l.drop (l.length - k))
      rw [List.take_of_length_le (by rw [List.length_drop]; omega)]
    rw [this]
    exact q H4 ((e2.trans e3).trans e4)⟩
/-- an if without else, by what holds behind it -/
theorem q_ifN {b : Bool} (h : EvT t σ H b) (Pv : L2.St → Hp → Prop) (h1 : b = true → ∀ H1, Ex H H1 → ∀ N : L2.St → Hp → Prop, (∀ σ' H', Pv σ' H' → N σ' H') → tu { D with nx := N } σ H1) (h2 : b = false → ∀ H1, Ex H H1 → Pv σ H1) (k : ∀ σ' H', Pv σ' H' → tz D σ' H') :
    tSeq (tIfS t tu tNext) tz D σ H := q_when h (fun hb H1 e => h1 hb H1 e _ k) (fun hb H1 e => k _ _ (h2 hb H1 e))
theorem DtAll.mem {H : Hp} : ∀ {vs : List V} {ds : List PyData} {v : V}, DtAll H vs ds → v ∈ vs → ∃ d ∈ ds, Dt H v d
  | _, _, _, .nil, h => by cases h
  | _, _, _, .cons h1 h2, h => by
    rcases List.mem_cons.mp h with rfl | h
    · exact ⟨_, List.mem_cons_self .., h1⟩
    · obtain ⟨d, h3, h4⟩ := h2.mem h
      exact ⟨d, List.mem_cons_of_mem _ h3, h4⟩
end
theorem noPs_of : ∀ {ds : List PyData}, (∀ d ∈ ds, noP d = true) → noPs ds = true
  | [], _ => rfl
  | d :: ds, h => by
    rw [noPs, h d (List.mem_cons_self ..), noPs_of fun x hx => h x (List.mem_cons_of_mem _ hx)]
    rfl
def spSpoilt : Sp := fun vs H Q _ => ∃ (p a : Addr) (n : Nat) (t : T2) (r : List T2), vs = [.ref p, .ref a] ∧ PotN n H p ∧ n ≤ 50000 ∧ WvAt H a (t :: r) ∧ WvOk t r ∧ ∀ (g : Addr) (H' : Hp) (m : Nat) (ds : List PyData), ExB p H H' → PotN m H' p → m ≤ n + 10 →
  Dt H' (.ref g) (.list ds) → IsWv (.list ds) false → ds.length ≤ 20 → (∀ d ∈ ds, SmB d) → Q (.ref g) H'
end Dw
namespace Dw
open PySem L2 Evl
section
variable {K : PySem.W.Frag} {σ : L2.St} {H H' : Hp} {ta tb te t1 t3 tix : TE} {p : Addr} {k n : Nat} {G : V → Hp → Prop} {xs1 xs3 : List V} {D : Ends} {tz tu : TS}
theorem ec_2 : Ev (tC (.str (Str.ofString "2"))) σ H (.str (Tx [50])) := by
  rw [show Str.ofString "2" = Tx [50] by decide +kernel]
  exact ev_c
theorem ec_X : Ev (tC (.str (Str.ofString "X"))) σ H (.str (Tx [88])) := by
  rw [show Str.ofString "X" = Tx [88] by decide +kernel]
  exact ev_c
/-- a, b = e, a tuple of a time and a value -/
theorem q_asgT {j1 j2 : Nat} {ra : Addr} {q : T2} (h : Ev te σ H (.ref ra)) (hr : H ra = some (.tup (t2 q))) (kk : ∀ H1, Ex H H1 → tz D ((σ.set j1 (some (.int q.1))).set j2 (some (.str (Tx q.2)))) H1) :
    tSeq (tAsg te (gTup K 2 (gCons (gName j1) (gCons (gName j2) gNil)))) tz D σ H := h H (Ex.refl _) _ fun H1 e => ⟨ra, _, rfl, st_of (e _ _ hr), rfl, _, _, rfl, _, _, rfl, rfl, kk H1 e⟩
/-- return a + [e] + b, e drawn -/
theorem s_put (hP : PotN n H p) (hn : n + k ≤ 100000) (h1 : EvL t1 σ H xs1) (hix : ∀ H1, Ex H H1 → EvQ p k tix σ H1 G) (h3 : ∀ H3, ExB p H H3 → EvL t3 σ H3 xs3) (hz : xs1.length + xs3.length ≤ 1000)
    (kk : ∀ g v H9 H2, ExB p H H9 → PotN (n + k) H9 p → G v H9 → Ex H9 H2 → H2 g = some (.lst (xs1 ++ [v] ++ xs3)) → D.rt (.ref g) H2) : tRet (tOp rCat (tOp rCat t1 (tLst (tCons tix tNil))) t3) D σ H :=
  h1 H (Ex.refl _) _ fun l1 H1 nl1 e1 hl1 => hix H1 e1 H1 n (ExB.refl _ _) (hP.ex e1) hn _ fun v H2 x2 hP2 g => ⟨by show 1 ≤ sizeLine; decide, fun l2 nl2 => by
    have f2 := Ex.new (o := .lst [v]) nl2
    have hl12 := f2 _ _ (x2 _ _ (hP.ne nl1) hl1)
    refine ⟨l1, l2, xs1, [v], rfl, rfl, hl12, upd_same, sz_of (by simp; omega), fun l3 nl3 => ?_⟩
    have f3 := Ex.new (o := .lst (xs1 ++ [v])) nl3
    refine h3 _ (((ExB.of e1).trans x2).trans (ExB.of (f2.trans f3))) _ (Ex.refl _) _ fun l4 H5 nl4 e5 hl4 => ?_
    refine ⟨l3, l4, xs1 ++ [v], xs3, rfl, rfl, e5 _ _ upd_same, hl4, sz_of (by simp; omega), fun l5 nl5 => ?_⟩
    exact kk l5 v H2 _ ((ExB.of e1).trans x2) hP2 g ((f2.trans f3).trans (e5.trans (Ex.new nl5))) upd_same⟩
end
theorem cut_take {xs : List V} {s : Nat} (h : s ≤ xs.length) : cutV xs none (some (s : Int)) = xs.take s := by
  unfold cutV
  rw [HT.sIx_none, HT.sIx_nat, Nat.min_eq_left h]
  simp
theorem cut_drop {xs : List V} {s : Nat} (h : s ≤ xs.length) : cutV xs (some (s : Int)) none = xs.drop s := by
  unfold cutV
  rw [HT.sIx_none, HT.sIx_nat, Nat.min_eq_left h, List.take_of_length_le (by rw [List.length_drop]; omega)]
theorem Stp.take {H : Hp} : ∀ {rs : List Addr} {ts : List T2} (s : Nat), Stp H rs ts → Stp H (rs.take s) (ts.take s)
  | _, _, 0, _ => .nil
  | _, _, s + 1, .nil => .nil
  | _, _, s + 1, .cons a b => .cons a (b.take s)
theorem Stp.drop {H : Hp} : ∀ {rs : List Addr} {ts : List T2} (s : Nat), Stp H rs ts → Stp H (rs.drop s) (ts.drop s)
  | _, _, 0, h => h
  | _, _, s + 1, .nil => .nil
  | _, _, s + 1, .cons a b => b.drop s
theorem wv_ne {H : Hp} {a p : Addr} {n : Nat} {rs : List Addr} (h : H a = some (.lst (rs.map V.ref))) (hP : PotN n H p) : a ≠ p := fun z => by
  obtain ⟨x, y, c, h1, _⟩ := hP
  rw [z, h1] at h
  injection h with h
  injection h with h
  cases rs with
  | nil => cases h
  | cons b rs =>
    injection h with h2 h3
    cases h2
theorem dn_ne {H : Hp} {a p : Addr} {n : Nat} {xs : List V} {ds : List PyData} (h : H a = some (.lst xs)) (hd : DtAll H xs ds) (h0 : ds.head? = some .none) (hP : PotN n H p) : a ≠ p := fun z => by
  obtain ⟨x, y, c, h1, _⟩ := hP
  rw [z, h1] at h
  injection h with h
  injection h with h
  subst h
  cases hd with
  | cons b1 b2 =>
    cases b1
    cases h0
theorem sm_st {t : T2} {r : List T2} (ok : WvOk t r) : ∀ q ∈ t :: r, SmB (stD q) := fun q hq => by
  obtain ⟨v1, v2, v3, v4⟩ := ok.val q hq
  have h0 := pos_t ok hq
  have h1 := ok.lim q hq
  exact sm_ip (lg1 (by omega) (by omega)) (lo_sm (by omega) fun c hc => by
    have := v1 c hc
    simp [sgn] at this
    omega)
end Dw

set_option Elab.async false
set_option linter.all false
set_option maxRecDepth 100000
set_option maxHeartbeats 2000000
namespace Dw
open PySem L2 Evl
theorem mul_one_T (ts : List T2) : ts.map (mulT 1) = ts := by
  induction ts with
  | nil => rfl
  | cons t ts ih =>
    rw [List.map_cons, ih]
    show (t.1 * 1, t.2) :: ts = t :: ts
    rw [Int.mul_one]
theorem isWv_mul {t : T2} {r : List T2} (ok : WvOk t r) {g : Int} (g0 : 1 ≤ g) (g1 : g ≤ 10 ^ 57) : IsWv (.list (((t :: r).map (mulT g)).map stD)) true := by
  have stp : (((t :: r).map (mulT g)).map stD).all stepD = true := by
    rw [List.all_map, List.all_map, List.all_eq_true]
    intro q hq
    obtain ⟨v1, v2, v3, v4⟩ := ok.val q hq
    have h1 := ok.lim q hq
    have h0 := pos_t ok hq
    show stepD (stD (mulT g q)) = true
    rw [step_st]
    have h2 : q.1 * g ≤ 440 * 10 ^ 57 := Int.mul_le_mul h1 g1 (by omega) (by decide)
    have hok : okL (mulT g q).2 = true := by
      show okL q.2 = true
      unfold okL
      rw [Bool.and_eq_true, Bool.and_eq_true]
      exact ⟨⟨decide_eq_true v2, decide_eq_true v4⟩, List.all_eq_true.mpr fun c hc => decide_eq_true (v1 c hc)⟩
    rw [hok, Bool.and_true]
    refine decide_eq_true ?_
    show q.1 * g < 10 ^ 60
    exact Int.lt_of_le_of_lt h2 (by decide)
  have goes : ∀ {s : List T2} {p : T2}, Ch 0 p.1 p.2 s → (∀ q ∈ s, q.2.length = p.2.length) → goesAll ((p :: s).map (mulT g)) = true := by
    intro s
    induction s with
    | nil => intro p _ _; rfl
    | cons b s ih =>
      intro p hc hl
      have h1 := hc.1
      have h2 := hc.2.1
      have h3 := hl b (List.mem_cons_self ..)
      show (goesT (mulT g p) (mulT g b) && goesAll ((b :: s).map (mulT g))) = true
      rw [ih hc.2.2 (fun q hq => by rw [h3]; exact hl q (List.mem_cons_of_mem _ hq)), Bool.and_true]
      unfold goesT
      have h4 : (mulT g p).1 < (mulT g b).1 := Int.mul_lt_mul_of_pos_right (by omega : p.1 < b.1) (by omega)
      rw [decide_eq_true h4, decide_eq_true (show (mulT g p).2 ≠ (mulT g b).2 from fun z => h2 z.symm), decide_eq_true (show (mulT g p).2.length = (mulT g b).2.length from h3.symm)]
      rfl
  have := IsWv.all (t := mulT g t) (r := r.map (mulT g)) stp
  rw [show goesAll (mulT g t :: r.map (mulT g)) = true from goes (by rw [ok.t0]; exact ok.ch) (fun q hq => (ok.val q (List.mem_cons_of_mem _ hq)).2.2.1), show (mulT g t).1 = 0 by show t.1 * g = 0; rw [ok.t0, Int.zero_mul]] at this
  exact this
mutual
theorem Dt.dp {K : PySem.W.Frag} {H : Hp} : ∀ {v : V} {d : PyData}, Dt H v d → ShOk d → Dp K H v d
  | _, _, .non, _ => .non
  | _, _, .bl b, _ => .bl b
  | _, _, .int i, _ => .int i
  | _, _, .str x, _ => .str _
  | _, _, .lst h1 h2, h => .lst (sq_of h1) (h2.dp h)
  | _, _, .tup h1 h2, h => .tup (st_of h1) (h2.dp h)
  | _, _, .dct _, h => (show False from h).elim
theorem DtAll.dp {K : PySem.W.Frag} {H : Hp} : ∀ {vs : List V} {ds : List PyData}, DtAll H vs ds → ShOks ds → DpAll K H vs ds
  | _, _, .nil, _ => .nil
  | _, _, .cons h1 h2, h => .cons (h1.dp h.1) (h2.dp h.2)
end
theorem sh_list {ds : List PyData} (hl : ds.length ≤ 20) (h : ∀ d ∈ ds, SmB d) : ShOk (.list ds) ∧ PyData.depth (.list ds) ≤ 100 ∧ shB (.list ds) ≤ sizeLine := by
  have all : ∀ {ds : List PyData}, (∀ d ∈ ds, SmB d) → ShOks ds ∧ PyData.depthAll ds ≤ 2 ∧ shBs ds ≤ 30002 * ds.length := by
    intro ds
    induction ds with
    | nil => intro _; exact ⟨True.intro, by simp [PyData.depthAll], Nat.le_refl _⟩
    | cons d ds ih =>
      intro h
      obtain ⟨a1, a2, a3⟩ := ih fun x hx => h x (List.mem_cons_of_mem _ hx)
      obtain ⟨o, b, dp, _, _⟩ := h d (List.mem_cons_self ..)
      refine ⟨⟨o, a1⟩, by simp only [PyData.depthAll]; omega, ?_⟩
      simp only [shBs, List.length_cons]
      omega
  obtain ⟨a1, a2, a3⟩ := all h
  refine ⟨a1, by simp only [PyData.depth]; omega, ?_⟩
  have : sizeLine = 16777216 := by decide
  simp only [shB]
  omega
theorem Stp.paired {K : PySem.W.Frag} {H : Hp} : ∀ {rs : List Addr} {ts : List T2}, Stp H rs ts → Paired (fun p (kv : Key × V) => SqT K H p [kV kv.1, kv.2]) rs (ts.map fun t => ((.inl t.1 : Key), V.str (Tx t.2)))
  | _, _, .nil => .nil
  | _, _, .cons a b => .cons (st_of a) b.paired
section
variable {K : PySem.W.Frag} {σ : L2.St} {H H' : Hp} {ta tb te tl : TE} {p : Addr} {ds : List PyData} {D : Ends} {tz tu : TS}
/-- for x in a new list of data -/
theorem s_forD {j : Nat} (h : EvDL tl σ H ds) (Pv : L2.St → Prop) (h0 : Pv σ) (hs : ∀ σ' x d H9, Pv σ' → d ∈ ds → Dt H9 x d → Ex H H9 → ∀ N : L2.St → Hp → Prop, (∀ σ2 H2, Pv σ2 → Ex H9 H2 → N σ2 H2) → tu { D with nx := N, ct := N, bk := D.nx } (σ'.set j (some x)) H9)
    (hd : ∀ σ' H9, Pv σ' → Ex H H9 → D.nx σ' H9) : tFor (iList K tl) (gName j) tu D σ H := h H (Ex.refl _) _ fun g xs H1 ng e hg hx => ⟨g, rfl, ⟨xs, sq_of hg⟩, for_list (xs := xs) (fun i σ' H' => Pv σ' ∧ Ex H1 H') ⟨h0, Ex.refl _⟩ (fun i σ' H2 _ p2 => sq_of (p2.2 _ _ hg)) (fun i x σ' H2 hi p2 => by
    obtain ⟨d, h1, h2⟩ := hx.at hi
    exact hs σ' x d H2 p2.1 (List.mem_of_getElem? h1) (h2.ex p2.2) (e.trans p2.2) _ fun σ2 H3 q2 e3 => ⟨q2, p2.2.trans e3⟩) (fun σ' H2 p2 => hd σ' H2 p2.1 (e.trans p2.2))⟩
theorem ed_tupOf {g : Addr} {xs : List V} (ha : Ev ta σ H (.ref g)) (hg : H g = some (.lst xs)) (hx : DtAll H xs ds) : EvD (tCB (fun xs H Q => ∃ p ys, xs = [.ref p] ∧ ((SqL K H p ys ∧ ∀ l, H l = none → Q (.ref l) (L2.upd H l (.tup ys))) ∨ (SqT K H p ys ∧ Q (.ref p) H))) (tCons ta tNil)) σ H (.tuple ds) := fun H1 e Q q =>
  ha H1 e _ fun H2 e2 => ⟨g, xs, rfl, .inl ⟨sq_of (e2 _ _ (e _ _ hg)), fun l nl => q _ _ (e2.trans (Ex.new nl)) (.tup upd_same (hx.ex ((e.trans e2).trans (Ex.new nl))))⟩⟩
theorem ed_new : EvD tDNewK σ H (.dict []) := fun H1 e Q q p np => q _ _ (Ex.new np) (.dct upd_same)
theorem ed_dictOf {g : Addr} {rs : List Addr} {ts : List T2} (ha : Ev ta σ H (.ref g)) (hg : H g = some (.lst (rs.map V.ref))) (hs : Stp H rs ts) : EvD (tCB (fun xs H Q => ∃ (a : Addr) (ps : List Addr) (kvs : List (Key × V)), xs = [.ref a] ∧ SqL K H a (ps.map V.ref) ∧ Paired (fun p kv => SqT K H p [kV kv.1, kv.2]) ps kvs ∧
    ∀ p, H p = none → Q (.ref p) (L2.upd H p (.dK (mergeK [] kvs)))) (tCons ta tNil)) σ H (.dict []) := fun H1 e Q q =>
  ha H1 e _ fun H2 e2 => ⟨g, rs, ts.map fun t => (.inl t.1, .str (Tx t.2)), rfl, sq_of (e2 _ _ (e _ _ hg)), (hs.ex (e.trans e2)).paired, fun p np => q _ _ (e2.trans (Ex.new np)) (.dct upd_same)⟩
end
end Dw

set_option Elab.async false
set_option linter.all false
set_option maxRecDepth 100000
namespace Dw
open PySem L2 Evl
set_option maxHeartbeats 4000000
/-! ### the text by places -/
def top (i : Nat) : Stmt := PySem.Challenge.pw_deltawires_k81_waves_judged.main.body.getD i (.Pass ⟨0, 0, 0, 0⟩)
abbrev s_is_whole : Stmt := top 3
abbrev N_is_whole : List Str := ["thing"]
theorem sc_is_whole : FnScope N_is_whole ["thing"] (defScope s_is_whole) := ⟨rfl, rfl, rfl, by decide +kernel, rfl, by decide +kernel, by decide +kernel⟩
abbrev s_is_value : Stmt := top 4
abbrev N_is_value : List Str := ["thing", "width", "sign"]
theorem sc_is_value : FnScope N_is_value ["thing", "width"] (defScope s_is_value) := ⟨rfl, rfl, rfl, by decide +kernel, rfl, by decide +kernel, by decide +kernel⟩
abbrev s_is_step : Stmt := top 7
abbrev N_is_step : List Str := ["thing"]
theorem sc_is_step : FnScope N_is_step ["thing"] (defScope s_is_step) := ⟨rfl, rfl, rfl, by decide +kernel, rfl, by decide +kernel, by decide +kernel⟩
abbrev s_goes_on : Stmt := top 8
abbrev N_goes_on : List Str := ["ahead", "step"]
theorem sc_goes_on : FnScope N_goes_on ["ahead", "step"] (defScope s_goes_on) := ⟨rfl, rfl, rfl, by decide +kernel, rfl, by decide +kernel, by decide +kernel⟩
abbrev s_is_wave : Stmt := top 9
abbrev N_is_wave : List Str := ["thing", "step", "ahead"]
theorem sc_is_wave : FnScope N_is_wave ["thing"] (defScope s_is_wave) := ⟨rfl, rfl, rfl, by decide +kernel, rfl, by decide +kernel, by decide +kernel⟩
abbrev s__law_pot : Stmt := top 11
abbrev N__law_pot : List Str := ["_law_script", "_law_k", "_law_cell", "_law_seed"]
theorem sc__law_pot : FnScope N__law_pot ["_law_script", "_law_k"] (defScope s__law_pot) := ⟨rfl, rfl, rfl, by decide +kernel, rfl, by decide +kernel, by decide +kernel⟩
abbrev s__law_digit : Stmt := top 12
abbrev N__law_digit : List Str := ["_law_pot_here", "_law_many", "_law_spread", "_law_digit_here"]
theorem sc__law_digit : FnScope N__law_digit ["_law_pot_here", "_law_many"] (defScope s__law_digit) := ⟨rfl, rfl, rfl, by decide +kernel, rfl, by decide +kernel, by decide +kernel⟩
abbrev s__law_wave : Stmt := top 13
abbrev N__law_wave : List Str := ["_law_pot_here", "_law_width", "_law_signs", "_law_way", "_law_found", "_law_k", "_law_value", "_law_gap", "_law_j"]
theorem sc__law_wave : FnScope N__law_wave ["_law_pot_here"] (defScope s__law_wave) := ⟨rfl, rfl, rfl, by decide +kernel, rfl, by decide +kernel, by decide +kernel⟩
abbrev s__law_spoilt : Stmt := top 14
abbrev N__law_spoilt : List Str := ["_law_pot_here", "_law_wave_here", "_law_spot", "_law_some", "_law_time", "_law_value", "_law_ahead", "_law_wide"]
theorem sc__law_spoilt : FnScope N__law_spoilt ["_law_pot_here", "_law_wave_here"] (defScope s__law_spoilt) := ⟨rfl, rfl, rfl, by decide +kernel, rfl, by decide +kernel, by decide +kernel⟩
abbrev s_law : Stmt := top 15
abbrev N_law : List Str := ["_law_script", "_law_k", "_law_pot_here", "_law_wave_here", "_law_great", "_law_spoilt_here", "_law_shown", "_law_thing", "_law_time", "_law_value"]
theorem sc_law : FnScope N_law ["_law_script"] (defScope s_law) := ⟨rfl, rfl, rfl, by decide +kernel, rfl, by decide +kernel, by decide +kernel⟩

structure Bi (K : PySem.W.Frag) (w : World) (mg : Str → Option Value)  : Prop where
  all : mg "all" = none
  bool : mg "bool" = none
  dict : mg "dict" = none
  int : mg "int" = none
  isinstance : mg "isinstance" = none
  len : mg "len" = none
  list : mg "list" = none
  max : mg "max" = none
  min : mg "min" = none
  range : mg "range" = none
  repr : mg "repr" = none
  str : mg "str" = none
  tuple : mg "tuple" = none
  zip : mg "zip" = none
  c_SIGNS : GlV mg "SIGNS" (.str "01xz")
  c_TOO_LATE : GlV mg "TOO_LATE" (.int (10 ^ 60))
  c_WIDEST : GlV mg "WIDEST" (.int 8)

section
variable {P : Program} {w : World} {K : PySem.W.Frag} {mg : Str → Option Value} {base : Heap}
theorem ok_is_whole {f  : Addr} {fd  : FuncData} (F : Fun K "is_whole" "is_whole" s_is_whole f fd) (B : Bi K w mg )   : FnOk P w K mg base CX0 (1) f fd ["thing"] (spWholeD) := by
  refine F.ok sc_is_whole (fun vs H Q E h => ?_) (fun cdv A outer s H vs Q E hr h => ?_)
  · obtain ⟨v, d, rfl, _⟩ := h
    all_goals rfl
  · obtain ⟨v, d, rfl, hd, q⟩ := h
    refine ⟨_, (pss_one (ps_ret (pe_and (pe_callB call_isi (by rfl) B.isinstance (by decide +kernel) (pa_cons (pv 0) (pa_cons (pe_bltn (v := .ty "int") (by rfl) B.int (by decide +kernel) rfl) pa_nil))) (pe_one (pe_not (pe_callB call_isi (by rfl) B.isinstance (by decide +kernel) (pa_cons (pv 0) (pa_cons (pe_bltn (v := .ty "bool") (by rfl) B.bool (by decide +kernel) rfl) pa_nil)))))))), ?_⟩
    refine s_ret (v := .bl (isTy "int" d && !isTy "bool" d)) (ev_andV (ev_isi (ev_var rfl) ev_c fun H1 e => ⟨_, (hd.ex e).ty, (kit_d d).1⟩) fun _ => ev_notV (ev_isi (ev_var rfl) ev_c fun H1 e => ⟨_, (hd.ex e).ty, (kit_d d).2.1⟩)) fun H1 e1 => ?_
    have : (isTy "int" d && !isTy "bool" d) = wholeD d := by cases d <;> rfl
    rw [this]
    exact q H1 e1
theorem ok_is_value {f  : Addr} {fd  : FuncData} (F : FunD K "is_value" "is_value" (defArgs s_is_value) (defBody s_is_value) (defScope s_is_value) [] [("width", .int 0)] f fd) (B : Bi K w mg )   : FnOk P w K mg base CX0 (1) f fd ["thing", "width"] (spValueD) := by
  refine F.ok sc_is_value (fun vs H Q E h => ?_) (fun cdv A outer s H vs Q E hr h => ?_)
  · obtain ⟨v, d, rfl, _⟩ := h
    all_goals rfl
  · obtain ⟨v, d, rfl, hd, hz, q⟩ := h
    refine ⟨_, (pss_cons (ps_if (PW.pt (pw_or (pt_not (pt_val (pe_callB call_isi (by rfl) B.isinstance (by decide +kernel) (pa_cons (pv 0) (pa_cons (pe_bltn (v := .ty "str") (by rfl) B.str (by decide +kernel) rfl) pa_nil))))) (pw_or1 (pt_not (pt_chain op_le op_le pe_int (pe_callB call_len_str (by rfl) B.len PySem.boot_len (pa_cons (pv 0) pa_nil)) (pgl (by rfl) B.c_WIDEST)))))) (pss_one (ps_ret pe_bl)) pss_nil)
      (pss_cons (ps_if (PW.pt (pw_and (pt_cmpR op_ne (pv 1) pe_int (nomark _)) (pw_and1 (pt_cmpR op_ne (pe_callB call_len_str (by rfl) B.len PySem.boot_len (pa_cons (pv 0) pa_nil)) (pv 1) (nomark _))))) (pss_one (ps_ret pe_bl)) pss_nil)
      (pss_one (ps_ret (pe_callB (cr_all rfl) (by rfl) B.all (by decide +kernel) (pa_cons (pe_lc (own := [("sign", 2)]) (g := gName 2) (tt := tYes) (by rfl) sc_is_value.nd (pi_str (pv 0)) (blkOk_by (own := [("sign", 2)]) (N := N_is_value) (sc := defScope s_is_value) (by decide +kernel)) (fun _ _ _ _ _ => pg_name (i := 2) sc_is_value.nd rfl (Or.inl rfl)) (fun _ _ _ _ _ => pts_nil) (fun _ _ _ _ _ => (pe_cmpR op_inS (pv 2) (pgl (by rfl) B.c_SIGNS) rfl))) pa_nil)))))), ?_⟩
    have isi : ∀ H1, Ex H H1 → Ev (tCB (rIsi K) (tCons (tVar 0) (tCons (tC (.ty "str")) tNil))) (start N_is_value [v, .int 0]) H1 (.bl (isTy "str" d)) := fun H1 e => ev_isi (ev_var rfl) ev_c fun H2 e2 => ⟨_, (hd.ex (e.trans e2)).ty, (kit_d d).2.2.1⟩
    by_cases hs : isTy "str" d = true
    · obtain ⟨l, rfl, rfl⟩ : ∃ l, d = .str (Tx l) ∧ v = .str (Tx l) := by
        cases hd with
        | str l => exact ⟨l, rfl, rfl⟩
        | non => exact absurd hs (by decide)
        | bl b => exact absurd hs (by simp [isTy, isTyS, tyD])
        | int b => exact absurd hs (by simp [isTy, isTyS, tyD])
        | lst _ _ => exact absurd hs (by simp [isTy, isTyS, tyD])
        | tup _ _ => exact absurd hs (by simp [isTy, isTyS, tyD])
        | dct _ => exact absurd hs (by simp [isTy, isTyS, tyD])
      have hl := hz l rfl
      have hv : valueD (.str (Tx l)) = okL l := by simp [valueD, Tx]
      rw [hv] at q
      have hlen : ∀ H1, Ev (tCB rLenT (tCons (tVar 0) tNil)) (start N_is_value [.str (Tx l), .int 0]) H1 (.int (l.length : Int)) := fun H1 => ev_lenT (ev_var rfl) (by omega)
      refine q_when (b := !(isTy "str" (.str (Tx l))) || !(decide ((1 : Int) ≤ (l.length : Int)) && decide ((l.length : Int) ≤ 8))) ?_ (fun hb H1 e1 => ?_) (fun hb H1 e1 => ?_)
      · exact et_or (et_not (et_B (isi H (Ex.refl _)))) fun _ => et_not (et_test (ev_chain ev_c (hlen _) rv_I0 fun _ => ⟨ev_c, rv_I0⟩))
      · refine s_ret ev_c fun H2 e2 => ?_
        have e0 : okL l = false := by
          unfold okL
          rw [hs] at hb
          simp at hb
          rw [Bool.and_eq_false_iff, Bool.and_eq_false_iff]
          refine .inl ?_
          by_cases h1 : 1 ≤ l.length
          · exact .inr (decide_eq_false (by omega))
          · exact .inl (decide_eq_false h1)
        have q2 := q H2 (e1.trans e2)
        rw [e0] at q2
        exact q2
      · rw [hs] at hb
        simp at hb
        have hb2 : decide (1 ≤ l.length) = true ∧ decide (l.length ≤ 8) = true := ⟨decide_eq_true (by omega), decide_eq_true (by omega)⟩
        refine q_when (b := (!decide (V.int 0 = V.int 0)) && (!decide (V.int (l.length : Int) = V.int 0))) (et_and (et_test (ev_op (ev_var rfl) ev_c (rv_ne rfl))) fun _ => et_test (ev_op (hlen _) (ev_var rfl) (rv_ne rfl))) (fun hc H2 e2 => ?_) (fun hc H2 e2 => ?_)
        · simp at hc
        · have hL : EvL (tLc (iStr (tVar 0)) (gName 2) tYes (tOp rInS (tVar 2) (tC (.str (Str.ofString "01xz")))) [2]) (start N_is_value [.str (Tx l), .int 0]) H2 ((l.map fun c => decide (c ∈ sgn)).map V.bl) := by
            rw [List.map_map]
            refine el_lcT1 _ (ev_var rfl) (by omega) (fun x => rfl) (fun c H3 _ _ => ?_)
            have g := ev_inS (σ := (wipe (start N_is_value [V.str (Tx l), V.int 0]) [2]).set 2 (some (V.str (Tx [c])))) (H := H3) (ta := tVar 2) (tb := tC (.str (Str.ofString "01xz"))) (c := c) (ev_var rfl) ev_c
            rw [e_sgn] at g
            exact g
          refine s_ret (ev_all hL) fun H3 e3 => ?_
          have q2 := q H3 ((e1.trans e2).trans e3)
          unfold okL at q2
          rw [hb2.1, hb2.2, Bool.true_and, Bool.true_and] at q2
          rw [List.all_map]
          exact q2
    · have hs2 : isTy "str" d = false := by simpa using hs
      have hv : valueD d = false := by
        cases d with
        | str x => exact absurd hs2 (by simp [isTy, isTyS, tyD])
        | _ => rfl
      rw [hv] at q
      refine q_when (b := true) ?_ (fun _ H1 e1 => s_ret ev_c fun H2 e2 => q H2 (e1.trans e2)) (fun hb => by cases hb)
      exact et_is (et_or (b := true) (et_not (et_B (isi H (Ex.refl _)))) fun hb => by rw [hs2] at hb; cases hb) (by rw [hs2]; rfl)
theorem ok_is_step {f f1 f2 : Addr} {fd fd1 fd2 : FuncData} (F : Fun K "is_step" "is_step" s_is_step f fd) (B : Bi K w mg )  (D_is_whole : Df P w K mg base CX0 "is_whole" 1 f1 fd1 ["thing"] (spWholeD)) (D_is_value : DfD P w K mg base CX0 "is_value" 1 f2 fd2 ["thing", "width"] (spValueD)) {ds_is_value : List Value} (b0_is_value : Binds K fd2 ["thing", "width"] ds_is_value) (v0_is_value : Vals [.int 0] ds_is_value) : FnOk P w K mg base CX0 (2) f fd ["thing"] (spStepD) := by
  refine F.ok sc_is_step (fun vs H Q E h => ?_) (fun cdv A outer s H vs Q E hr h => ?_)
  · obtain ⟨v, d, rfl, _⟩ := h
    all_goals rfl
  · obtain ⟨v, d, rfl, hd, hz, q⟩ := h
    refine ⟨_, (pss_cons (ps_if (PW.pt (pw_or (pt_not (pt_val (pe_callB call_isi (by rfl) B.isinstance (by decide +kernel) (pa_cons (pv 0) (pa_cons (pe_bltn (v := .ty "tuple") (by rfl) B.tuple (by decide +kernel) rfl) pa_nil))))) (pw_or1 (pt_cmpR op_ne (pe_callB call_len_seq (by rfl) B.len PySem.boot_len (pa_cons (pv 0) pa_nil)) pe_int (nomark _))))) (pss_one (ps_ret pe_bl)) pss_nil)
      (pss_one (ps_ret (pe_and (pe_call D_is_whole.ok (hr.mono (by decide)) (by rfl) D_is_whole.g D_is_whole.kp D_is_whole.b .nil pass0 (pa_cons (pe_ix ix_tup (pv 0) pe_int (fun _ _ => rfl)) pa_nil)) (pe_and (pe_cmpR op_lt (pe_ix ix_tup (pv 0) pe_int (fun _ _ => rfl)) (pgl (by rfl) B.c_TOO_LATE) (nomark _)) (pe_one (pe_call D_is_value.ok (hr.mono (by decide)) (by rfl) D_is_value.g D_is_value.kp b0_is_value v0_is_value pass0 (pa_cons (pe_ix ix_tup (pv 0) pe_int (fun _ _ => rfl)) pa_nil)))))))), ?_⟩
    have isi : Ev (tCB (rIsi K) (tCons (tVar 0) (tCons (tC (.ty "tuple")) tNil))) (start N_is_step [v]) H (.bl (isTy "tuple" d)) := ev_isi (ev_var rfl) ev_c fun H2 e2 => ⟨_, (hd.ex e2).ty, (kit_d d).2.2.2.1⟩
    by_cases hs : isTy "tuple" d = true
    · obtain ⟨a, xs, ds, rfl, rfl, ha, hall⟩ : ∃ a xs ds, v = .ref a ∧ d = .tuple ds ∧ H a = some (.tup xs) ∧ DtAll H xs ds := by
        cases hd with
        | tup h1 h2 => exact ⟨_, _, _, rfl, rfl, h1, h2⟩
        | str l => exact absurd hs (by simp [isTy, isTyS, tyD])
        | non => exact absurd hs (by decide)
        | bl b => exact absurd hs (by simp [isTy, isTyS, tyD])
        | int b => exact absurd hs (by simp [isTy, isTyS, tyD])
        | lst _ _ => exact absurd hs (by simp [isTy, isTyS, tyD])
        | dct _ => exact absurd hs (by simp [isTy, isTyS, tyD])
      have hlen : ∀ H1, Ex H H1 → Ev (tCB (rLenS K) (tCons (tVar 0) tNil)) (start N_is_step [.ref a]) H1 (.int (xs.length : Int)) := fun H1 e => ev_lenU (ev_var rfl) (e _ _ ha)
      have hl := hall.len
      refine q_when (b := !(isTy "tuple" (.tuple ds)) || !decide (V.int (xs.length : Int) = V.int 2)) (et_or (et_not (et_B isi)) fun _ => et_test (ev_op (hlen H (Ex.refl _)) ev_c (rv_ne rfl))) (fun hb H1 e1 => ?_) (fun hb H1 e1 => ?_)
      · rw [hs] at hb
        simp at hb
        refine s_ret ev_c fun H2 e2 => ?_
        have q2 := q H2 (e1.trans e2)
        have e0 : stepD (.tuple ds) = false := by
          unfold stepD
          split
          · rename_i h
            cases h
            simp at hl
            omega
          · rfl
        rw [e0] at q2
        exact q2
      · rw [hs] at hb
        simp at hb
        have h2 : ds.length = 2 := by omega
        obtain ⟨d1, d2, rfl⟩ : ∃ d1 d2, ds = [d1, d2] := by
          match ds, h2 with
          | [d1, d2], _ => exact ⟨d1, d2, rfl⟩
        obtain ⟨x, y, rfl, hx, hy⟩ : ∃ x y, xs = [x, y] ∧ Dt H x d1 ∧ Dt H y d2 := by
          cases hall with
          | cons a1 a2 =>
            cases a2 with
            | cons a3 a4 =>
              cases a4
              exact ⟨_, _, rfl, a1, a3⟩
        have hx1 := hx.ex e1
        have hy1 := hy.ex e1
        have ha1 := e1 _ _ ha
        have it0 : Ev (tOp (rIxT K) (tVar 0) (tC (.int 0))) (start N_is_step [.ref a]) H1 x := ev_op (ev_var rfl) ev_c (rv_ixT (st_of ha1) (atI_nat (j := 0) rfl))
        have it1 : Ev (tOp (rIxT K) (tVar 0) (tC (.int 1))) (start N_is_step [.ref a]) H1 y := ev_op (ev_var rfl) ev_c (rv_ixT (st_of ha1) (atI_nat (j := 1) rfl))
        refine s_ret (v := .bl (stepD (.tuple [d1, d2]))) (ev_is (ev_andV (a := wholeD d1) (b := match d1 with | .int i => decide (i < 10 ^ 60) && valueD d2 | _ => false) (ev_call (ea_cons it0 ea_nil) (fun H2 e2 Q2 q2 E2 => ⟨x, d1, rfl, hx1.ex e2, q2⟩)) (fun hw => ?_)) ?_) fun H2 e2 => q H2 (e1.trans e2)
        · obtain ⟨i, rfl⟩ : ∃ i, d1 = .int i := by
            cases d1 with
            | int i => exact ⟨i, rfl⟩
            | _ => exact absurd hw (by simp [wholeD])
          cases hx1
          refine ev_andV (ev_op it0 ev_c rv_I0) (fun _ => ev_call (vs := [y]) (dvs := [.int 0]) (ea_cons it1 ea_nil) (fun H2 e2 Q2 q2 E2 => ⟨y, d2, rfl, hy1.ex e2, fun l hl2 => ?_, q2⟩))
          subst hl2
          have hz2 : (Tx l).cps.size ≤ 10000 := hz
          simpa [Tx] using hz2
        · cases d1 with
          | int i => simp [wholeD, stepD]
          | _ => simp [wholeD, stepD]
    · have hs2 : isTy "tuple" d = false := by simpa using hs
      have hv : stepD d = false := by
        cases d with
        | tuple x => exact absurd hs2 (by simp [isTy, isTyS, tyD])
        | _ => rfl
      rw [hv] at q
      refine q_when (b := true) ?_ (fun _ H1 e1 => s_ret ev_c fun H2 e2 => q H2 (e1.trans e2)) (fun hb => by cases hb)
      exact et_is (et_or (b := true) (et_not (et_B isi)) fun hb => by rw [hs2] at hb; cases hb) (by rw [hs2]; rfl)
theorem ok_goes_on {f  : Addr} {fd  : FuncData} (F : Fun K "goes_on" "goes_on" s_goes_on f fd) (B : Bi K w mg )   : FnOk P w K mg base CX0 (1) f fd ["ahead", "step"] (spGoesD) := by
  refine F.ok sc_goes_on (fun vs H Q E h => ?_) (fun cdv A outer s H vs Q E hr h => ?_)
  · obtain ⟨a, b, p, r, rfl, _⟩ := h
    all_goals rfl
  · obtain ⟨a, b, p, r, rfl, ha, hb, l1, l2, q⟩ := h
    refine ⟨_, (pss_one (ps_ret (pe_and (pe_cmpR op_lt (pe_ix ix_tup (pv 0) pe_int (fun _ _ => rfl)) (pe_ix ix_tup (pv 1) pe_int (fun _ _ => rfl)) (nomark _)) (pe_and (pe_cmpR op_ne (pe_ix ix_tup (pv 0) pe_int (fun _ _ => rfl)) (pe_ix ix_tup (pv 1) pe_int (fun _ _ => rfl)) (nomark _)) (pe_one (pe_cmpR op_eq (pe_callB call_len_str (by rfl) B.len PySem.boot_len (pa_cons (pe_ix ix_tup (pv 0) pe_int (fun _ _ => rfl)) pa_nil)) (pe_callB call_len_str (by rfl) B.len PySem.boot_len (pa_cons (pe_ix ix_tup (pv 1) pe_int (fun _ _ => rfl)) pa_nil)) (nomark _))))))), ?_⟩
    refine s_ret (v := .bl (goesT p r)) (ev_is (ev_andV (ev_op (ev_t0 (ev_var rfl) ha) (ev_t0 (ev_var rfl) hb) rv_I0) fun _ => ev_andV (ev_neT (ev_t1 (ev_var rfl) ha) (ev_t1 (ev_var rfl) hb)) fun _ => ev_op (ev_lenT (ev_t1 (ev_var rfl) ha) (by omega)) (ev_lenT (ev_t1 (ev_var rfl) hb) (by omega)) (rv_eq rfl)) ?_) fun H2 e2 => q H2 e2
    unfold goesT
    simp
    rw [show decide ((p.2.length : Int) = (r.2.length : Int)) = decide (p.2.length = r.2.length) from decide_eq_decide.mpr (by omega)]
theorem ok_is_wave {f f1 f2 : Addr} {fd fd1 fd2 : FuncData} (F : Fun K "is_wave" "is_wave" s_is_wave f fd) (B : Bi K w mg )  (D_is_step : Df P w K mg base CX0 "is_step" 2 f1 fd1 ["thing"] (spStepD)) (D_goes_on : Df P w K mg base CX0 "goes_on" 1 f2 fd2 ["ahead", "step"] (spGoesD)) : FnOk P w K mg base CX0 (3) f fd ["thing"] (spIsWaveD) := by
  refine F.ok sc_is_wave (fun vs H Q E h => ?_) (fun cdv A outer s H vs Q E hr h => ?_)
  · obtain ⟨v, d, b, rfl, _⟩ := h
    all_goals rfl
  · obtain ⟨v, d, b, rfl, hd, hb, hz, q⟩ := h
    refine ⟨_, (pss_cons (ps_if (PW.pt (pw_or (pt_not (pt_val (pe_callB call_isi (by rfl) B.isinstance (by decide +kernel) (pa_cons (pv 0) (pa_cons (pe_bltn (v := .ty "list") (by rfl) B.list (by decide +kernel) rfl) pa_nil))))) (pw_or (pt_cmpR op_eq (pe_callB call_len_seq (by rfl) B.len PySem.boot_len (pa_cons (pv 0) pa_nil)) pe_int (nomark _)) (pw_or1 (pt_not (pt_val (pe_callB (cr_all rfl) (by rfl) B.all (by decide +kernel) (pa_cons (pe_lc (own := [("step", 1)]) (g := gName 1) (tt := tYes) (by rfl) sc_is_wave.nd (pi_list (pv 0)) (blkOk_by (own := [("step", 1)]) (N := N_is_wave) (sc := defScope s_is_wave) (by decide +kernel)) (fun _ _ _ _ _ => pg_name (i := 1) sc_is_wave.nd rfl (Or.inl rfl)) (fun _ _ _ _ _ => pts_nil) (fun _ _ _ _ _ => (pe_call D_is_step.ok (hr.mono (by decide)) (by rfl) D_is_step.g D_is_step.kp D_is_step.b .nil pass0 (pa_cons (pv 1) pa_nil)))) pa_nil)))))))) (pss_one (ps_ret pe_bl)) pss_nil)
      (pss_one (ps_ret (pe_and (pe_cmpR op_eq (pe_ix ix_tup (pe_ix ix_list (pv 0) pe_int (fun _ _ => rfl)) pe_int (fun _ _ => rfl)) pe_int (nomark _)) (pe_one (pe_callB (cr_all rfl) (by rfl) B.all (by decide +kernel) (pa_cons (pe_lc (own := [("ahead", 2), ("step", 1)]) (g := gTup K 2 (gCons (gName 2) (gCons (gName 1) gNil))) (tt := tYes) (by rfl) sc_is_wave.nd (pi_zip (by rfl) B.zip (pa_cons (pv 0) (pa_cons (pe_slice sl_list (pv 0) (po_some pe_int) po_none) pa_nil))) (blkOk_by (own := [("ahead", 2), ("step", 1)]) (N := N_is_wave) (sc := defScope s_is_wave) (by decide +kernel)) (fun _ _ _ _ _ => (pg_tup rfl (pgs_cons (pg_name (i := 2) sc_is_wave.nd rfl (Or.inl rfl) (Or.inr rfl)) (pgs_cons (pg_name (i := 1) sc_is_wave.nd rfl (Or.inl rfl) (Or.inr rfl)) pgs_nil)))) (fun _ _ _ _ _ => pts_nil) (fun _ _ _ _ _ => (pe_call D_goes_on.ok (hr.mono (by decide)) (by rfl) D_goes_on.g D_goes_on.kp D_goes_on.b .nil pass0 (pa_cons (pv 2) (pa_cons (pv 1) pa_nil))))) pa_nil))))))), ?_⟩
    have isi : Ev (tCB (rIsi K) (tCons (tVar 0) (tCons (tC (.ty "list")) tNil))) (start N_is_wave [v]) H (.bl (isTy "list" d)) := ev_isi (ev_var rfl) ev_c fun H2 e2 => ⟨_, (hd.ex e2).ty, (kit_d d).2.2.2.2⟩
    by_cases hs : isTy "list" d = true
    · obtain ⟨a, xs, ds, rfl, rfl, ha, hall⟩ : ∃ a xs ds, v = .ref a ∧ d = .list ds ∧ H a = some (.lst xs) ∧ DtAll H xs ds := by
        cases hd with
        | lst h1 h2 => exact ⟨_, _, _, rfl, rfl, h1, h2⟩
        | str l => exact absurd hs (by simp [isTy, isTyS, tyD])
        | non => exact absurd hs (by decide)
        | bl b => exact absurd hs (by simp [isTy, isTyS, tyD])
        | int b => exact absurd hs (by simp [isTy, isTyS, tyD])
        | tup _ _ => exact absurd hs (by simp [isTy, isTyS, tyD])
        | dct _ => exact absurd hs (by simp [isTy, isTyS, tyD])
      obtain ⟨hz1, hz2⟩ := hz ds rfl
      have hl := hall.len
      have hL : EvL (tLc (iList K (tVar 0)) (gName 1) tYes (tCall spStepD [] E0 (tCons (tVar 1) tNil)) [1]) (start N_is_wave [.ref a]) H ((ds.map stepD).map V.bl) := el_lcD (K := K) stepD (ev_var rfl) ha hall (by omega) (fun x => rfl) (fun v d H1 e1 hm hd => ev_call (ea_cons (ev_var rfl) ea_nil) (fun H2 e2 Q2 q2 E2 => ⟨v, d, rfl, hd.ex (e1.trans e2), hz2 d hm, q2⟩))
      refine q_when (b := !(isTy "list" (.list ds)) || (decide (V.int (xs.length : Int) = V.int 0) || !((ds.map stepD).all id))) (et_or (et_not (et_B isi)) fun _ => et_or (et_test (ev_op (ev_len (ev_var rfl) (sq_of ha)) ev_c (rv_eq rfl))) fun _ => et_not (et_B (ev_all hL))) (fun hc H1 e1 => ?_) (fun hc H1 e1 => ?_)
      · refine s_ret ev_c fun H2 e2 => ?_
        have q2 := q H2 (e1.trans e2)
        rw [hs] at hc
        have e0 : b = false := by
          cases hb with
          | kind h => rfl
          | none => rfl
          | step h => rfl
          | all h =>
            exfalso
            rw [List.all_map] at hc
            have : List.all (List.map stD _) (id ∘ stepD) = true := h
            rw [this] at hc
            simp at hc
            rw [hc] at hl
            simp at hl
        rw [e0] at q2
        exact q2
      · rw [hs] at hc
        simp only [Bool.not_true, Bool.false_or, Bool.or_eq_false_iff] at hc
        obtain ⟨hc1, hc2⟩ := hc
        have hall2 : ds.all stepD = true := by
          rw [List.all_map] at hc2
          simpa using hc2
        have hne : ds ≠ [] := fun z => by
          rw [z] at hl
          rw [hl] at hc1
          simp at hc1
        generalize hdd : PyData.list ds = dd at hb
        cases hb with
        | kind h =>
          subst hdd
          rw [hs] at h
          cases h
        | none =>
          cases hdd
          exact (hne rfl).elim
        | step h =>
          cases hdd
          rw [hall2] at h
          cases h
        | @all t r h =>
          cases hdd
          obtain ⟨rs, rfl, hst⟩ := hall.stp
          obtain ⟨r0, rs', rfl, hr0, hst'⟩ : ∃ r0 r', rs = r0 :: r' ∧ H r0 = some (.tup (t2 t)) ∧ Stp H r' r := by
            cases hst with
            | cons a b => exact ⟨_, _, rfl, a, b⟩
          have ha1 := e1 _ _ ha
          have hst1 : Stp H1 (r0 :: rs') (t :: r) := (Stp.cons hr0 hst').ex e1
          have short : ∀ q ∈ t :: r, q.2.length ≤ 10000 := fun q hq => by
            have := hz2 (stD q) (List.mem_map.mpr ⟨q, hq, rfl⟩)
            have h3 : (Tx q.2).cps.size ≤ 10000 := this
            simpa [Tx] using h3
          have hrl : r.length ≤ 1000 := by
            rw [List.length_map, List.length_cons] at hz1
            omega
          refine s_ret (v := .bl (decide (t.1 = 0) && goesAll (t :: r))) (ev_is (ev_andV (a := decide (V.int t.1 = V.int 0)) (b := (List.zipWith goesT (t :: r) r).all id) (ev_op (ev_t0 (ev_op (ev_var rfl) ev_c (rv_ixL (sq_of ha1) (atI_nat (j := 0) rfl))) (e1 _ _ hr0)) ev_c (rv_eq rfl)) fun _ => ev_all (el_is (el_lcZW (K := K) (g := fun p q => V.bl (goesT p q)) (a := a) (fun H2 e2 Q2 q2 => ?_) ha1 hst1 (by omega) (fun x y => rfl) (fun i c d p2 q2 H2 e2 hp hq hc hd => ev_call (ea_cons (ev_var rfl) (ea_cons (ev_var rfl) ea_nil)) (fun H3 e3 Q3 q3 E3 => ⟨c, d, p2, q2, rfl, e3 _ _ (e2 _ _ hc), e3 _ _ (e2 _ _ hd), short _ (List.mem_of_getElem? hp), short _ (List.mem_cons_of_mem _ (List.mem_of_getElem? hq)), q3⟩))) (by rw [List.map_zipWith]))) ?_) fun H2 e2 => q H2 (e1.trans e2)
          · refine ⟨_, rfl, ?_⟩
            refine (el_is (el_sl (K := K) (te := tVar 0) (σ := start N_is_wave [.ref a]) (H := H2) (ev_var rfl) (eo_some ev_c) eo_none (sq_of (e2 _ _ ha1))) (cut_rest (w := V.ref r0))) H2 (Ex.refl _) _ fun b H3 nb e3 hb3 => q2 b H3 e3 hb3
          · rw [goes_zip]
            simp
    · have hs2 : isTy "list" d = false := by simpa using hs
      have e0 : b = false := by
        cases hb with
        | kind h => rfl
        | none => rfl
        | step h => rfl
        | all h => exact absurd hs2 (by simp [isTy, isTyS, tyD])
      rw [e0] at q
      refine q_when (b := true) ?_ (fun _ H1 e1 => s_ret ev_c fun H2 e2 => q H2 (e1.trans e2)) (fun hb => by cases hb)
      exact et_is (et_or (b := true) (et_not (et_B isi)) fun hb => by rw [hs2] at hb; cases hb) (by rw [hs2]; rfl)
theorem ok__law_pot {f  : Addr} {fd  : FuncData} (F : Fun K "_law_pot" "_law_pot" s__law_pot f fd) (B : Bi K w mg )   : FnOk P w K mg base CX0 (1) f fd ["_law_script", "_law_k"] (spPotN K) := by
  refine F.ok sc__law_pot (fun vs H Q E h => ?_) (fun cdv A outer s H vs Q E hr h => ?_)
  · obtain ⟨a, ns, k, rfl, _⟩ := h
    all_goals rfl
  · obtain ⟨a, ns, k, rfl, hS, h0, h1, q⟩ := h
    refine ⟨_, (pss_cons (ps_set (i := 2) sc__law_pot.nd rfl (Or.inl rfl) pe_int)
      (pss_cons (ps_if (pt_cmpR op_lt (pv 1) (pe_callB call_len_seq (by rfl) B.len PySem.boot_len (pa_cons (pv 0) pa_nil)) (nomark _)) (pss_one (ps_set (i := 2) sc__law_pot.nd rfl (Or.inl rfl) (pe_ix ix_list (pv 0) (pv 1) (fun _ _ => rfl)))) pss_nil)
      (pss_cons (ps_set (i := 3) sc__law_pot.nd rfl (Or.inl rfl) (pe_op op_mod (pe_op op_add (pe_op op_add (pe_op op_mul (pe_op op_mod (pv 2) pe_int) pe_int) (pe_op op_mul (pe_op op_mul pe_int (pv 1)) (pv 1))) pe_int) pe_int))
      (pss_one (ps_ret (pe_lst (pa_cons (pe_callB (call_max2 rfl) (by rfl) B.max (by decide +kernel) (pa_cons pe_int (pa_cons (pe_op op_sub (pv 2) (pe_op op_pow pe_int pe_int)) pa_nil))) (pa_cons (pv 3) (pa_cons pe_int pa_nil))))))))), ?_⟩
    refine q_asg ev_c fun H0 e0 => ?_
    have hS0 := ex_l e0 hS
    refine q_ifAsg (v := .int (cellW ns k)) (b := decide (k < ((ns.map V.int).length : Int))) (et_test (ev_op (ev_var rfl) (ev_len (ev_var rfl) hS0) rv_I0)) (fun hb => ev_op (ev_var rfl) (ev_var rfl) (rv_ixL hS0 (cellw_at h0 (by have := of_decide_eq_true hb; rw [List.length_map] at this; exact this)))) (fun hb => by
      have := of_decide_eq_false hb
      rw [List.length_map] at this
      unfold cellW
      rw [if_neg this]
      rfl) fun H1 e1 => ?_
    generalize cellW ns k = c
    refine q_asg (v := .int ((c % 2147483629 * 48271 + 7919 * k * k + 13) % 2147483647)) (ev_op (ev_op (ev_op (ev_op (ev_op (ev_var rfl) ev_c (rv_I (by show (0 : Int) < 2147483629; decide))) ev_c (rv_I (.inr ⟨by decide, by decide⟩))) (ev_op (ev_op ev_c (ev_var rfl) (rv_I (.inl ⟨by decide, by decide⟩))) (ev_var rfl) (rv_I (.inr ⟨by omega, by omega⟩))) rv_I0) ev_c rv_I0) ev_c (rv_I (by show (0 : Int) < 2147483647; decide))) fun H2 e2 => ?_
    refine s_retL (xs := [.int (if c - 10 ^ 18 > 0 then c - 10 ^ 18 else 0), .int ((c % 2147483629 * 48271 + 7919 * k * k + 13) % 2147483647), .int 0]) (el_lst (ea_cons (ev_max2 ev_c (ev_op (ev_var rfl) (ev_op ev_c ev_c (rv_I ⟨by decide, by decide, by decide⟩)) rv_I0)) (ea_cons (ev_var rfl) (ea_cons ev_c ea_nil))) (by simp)) fun p H3 np e3 h3 => ?_
    have x3 := e0.trans (e1.trans e2)
    refine q p H3 (fresh_back x3 np) (x3.trans e3) ⟨_, _, _, h3, ?_, ?_, ?_, Int.le_refl _, Int.le_refl _⟩
    · split <;> omega
    · exact Int.emod_nonneg _ (by decide)
    · exact Int.emod_lt_of_pos _ (by decide)
theorem ok__law_digit {f  : Addr} {fd  : FuncData} (F : Fun K "_law_digit" "_law_digit" s__law_digit f fd) (B : Bi K w mg )   : FnOk P w K mg base CX0 (1) f fd ["_law_pot_here", "_law_many"] (spDig) := by
  refine F.ok sc__law_digit (fun vs H Q E h => ?_) (fun cdv A outer s H vs Q E hr h => ?_)
  · obtain ⟨a, m, n, rfl, _⟩ := h
    all_goals rfl
  · obtain ⟨p, m, n, rfl, ⟨x, y, c, hp, hx, hy, hy2, hc, hc2⟩, hn, h0, h1, q⟩ := h
    refine ⟨_, (pss_cons (ps_if (pt_cmpR op_gt (pe_ix ix_list (pv 0) pe_int (fun _ _ => rfl)) pe_int (nomark _)) (pss_cons (ps_set (i := 3) sc__law_digit.nd rfl (Or.inl rfl) (pe_op op_mod (pe_ix ix_list (pv 0) pe_int (fun _ _ => rfl)) (pv 1)))
      (pss_cons (ps_asg (pe_op op_fdiv (pe_ix ix_list (pv 0) pe_int (fun _ _ => rfl)) (pv 1)) (pg_sub (pv 0) pe_int set_list))
      (pss_one (ps_ret (pv 3))))) pss_nil)
      (pss_cons (ps_asg (pe_op op_add (pe_ix ix_list (pv 0) pe_int (fun _ _ => rfl)) pe_int) (pg_sub (pv 0) pe_int set_list))
      (pss_cons (ps_asg (pe_op op_mod (pe_op op_add (pe_op op_add (pe_op op_mul (pe_ix ix_list (pv 0) pe_int (fun _ _ => rfl)) pe_int) (pe_op op_mul (pe_op op_mul (pe_ix ix_list (pv 0) pe_int (fun _ _ => rfl)) (pe_ix ix_list (pv 0) pe_int (fun _ _ => rfl))) pe_int)) pe_int) pe_int) (pg_sub (pv 0) pe_int set_list))
      (pss_cons (ps_set (i := 2) sc__law_digit.nd rfl (Or.inl rfl) (pe_op op_mod (pe_op op_mul (pe_ix ix_list (pv 0) pe_int (fun _ _ => rfl)) (pe_ix ix_list (pv 0) pe_int (fun _ _ => rfl))) pe_int))
      (pss_one (ps_ret (pe_op op_mod (pe_op op_fdiv (pe_op op_mod (pe_op op_mul (pv 2) (pe_op op_add (pe_op op_mod (pv 2) pe_int) pe_int)) pe_int) pe_int) (pv 1)))))))), ?_⟩
    refine q_when (b := decide (x > 0)) (et_test (ev_op (ev_op (ev_var rfl) ev_c (rv_ixL (sq_of hp) (atI_nat (j := 0) rfl))) ev_c rv_I0)) (fun hb H1 e1 => ?_) (fun hb H1 e1 => ?_)
    · have hp1 := e1 _ _ hp
      refine q_asg (v := .int (x % m)) (ev_op (ev_op (ev_var rfl) ev_c (rv_ixL (sq_of hp1) (atI_nat (j := 0) rfl))) (ev_var rfl) (rv_I h0)) fun H2 e2 => ?_
      have hp2 := e2 _ _ hp1
      refine q_setL (l := p) (j := 0) (v := .int (x / m)) hp2 (ev_op (ev_op (ev_var rfl) ev_c (rv_ixL (sq_of hp2) (atI_nat (j := 0) rfl))) (ev_var rfl) (rv_I ⟨h0, h1⟩)) (ev_var rfl) ev_c (by simp) fun H3 e3 => ?_
      refine s_ret (ev_var rfl) fun H4 e4 => ?_
      refine q H4 _ ((ExB.of (e1.trans (e2.trans e3))).upd.trans (ExB.of e4)) ⟨x / m, y, c, e4 _ _ upd_same, Int.ediv_nonneg hx (by omega), hy, hy2, hc, by omega⟩ (Int.emod_nonneg _ (by omega)) (Int.emod_lt_of_pos _ h0)
    · have hp1 := e1 _ _ hp
      refine q_setL (l := p) (j := 2) (v := .int (c + 1)) hp1 (ev_op (ev_op (ev_var rfl) ev_c (rv_ixL (sq_of hp1) (atI_nat (j := 2) rfl))) ev_c rv_I0) (ev_var rfl) ev_c (by simp) fun H2 e2 => ?_
      have hp2 : L2.upd H2 p (.lst ([V.int x, .int y, .int c].set 2 (.int (c + 1)))) p = some (.lst [V.int x, .int y, .int (c + 1)]) := upd_same
      have x2 : ExB p H (L2.upd H2 p (.lst ([V.int x, .int y, .int c].set 2 (.int (c + 1))))) := (ExB.of (e1.trans e2)).upd
      generalize L2.upd H2 p (.lst ([V.int x, .int y, .int c].set 2 (.int (c + 1)))) = H3 at hp2 x2 ⊢
      refine q_setL (l := p) (j := 1) (v := .int ((y * 39373 + (c + 1) * (c + 1) * 104729 + 7) % 2147483647)) hp2 (ev_op (ev_op (ev_op (ev_op (ev_op (ev_var rfl) ev_c (rv_ixL (sq_of hp2) (atI_nat (j := 1) rfl))) ev_c (rv_I (.inr ⟨by decide, by decide⟩))) (ev_op (ev_op (ev_op (ev_var rfl) ev_c (rv_ixL (sq_of hp2) (atI_nat (j := 2) rfl))) (ev_op (ev_var rfl) ev_c (rv_ixL (sq_of hp2) (atI_nat (j := 2) rfl))) (rv_I (.inl ⟨by omega, by omega⟩))) ev_c (rv_I (.inr ⟨by decide, by decide⟩))) rv_I0) ev_c rv_I0) ev_c (rv_I (by show (0 : Int) < 2147483647; decide))) (ev_var rfl) ev_c (by simp) fun H4 e4 => ?_
      have hz0 : 0 ≤ (y * 39373 + (c + 1) * (c + 1) * 104729 + 7) % 2147483647 := Int.emod_nonneg _ (by decide)
      have hz1 : (y * 39373 + (c + 1) * (c + 1) * 104729 + 7) % 2147483647 < 2147483647 := Int.emod_lt_of_pos _ (by decide)
      generalize (y * 39373 + (c + 1) * (c + 1) * 104729 + 7) % 2147483647 = y2 at hz0 hz1 ⊢
      have hp4 : L2.upd H4 p (.lst ([V.int x, .int y, .int (c + 1)].set 1 (.int y2))) p = some (.lst [V.int x, .int y2, .int (c + 1)]) := upd_same
      have x4 : ExB p H (L2.upd H4 p (.lst ([V.int x, .int y, .int (c + 1)].set 1 (.int y2)))) := (x2.trans (ExB.of e4)).upd
      generalize L2.upd H4 p (.lst ([V.int x, .int y, .int (c + 1)].set 1 (.int y2))) = H5 at hp4 x4 ⊢
      refine q_asg (v := .int (y2 * y2 % 2147483629)) (ev_op (ev_op (ev_op (ev_var rfl) ev_c (rv_ixL (sq_of hp4) (atI_nat (j := 1) rfl))) (ev_op (ev_var rfl) ev_c (rv_ixL (sq_of hp4) (atI_nat (j := 1) rfl))) (rv_I (.inl ⟨by omega, by omega⟩))) ev_c (rv_I (by show (0 : Int) < 2147483629; decide))) fun H6 e6 => ?_
      have hs0 : 0 ≤ y2 * y2 % 2147483629 := Int.emod_nonneg _ (by decide)
      have hs1 : y2 * y2 % 2147483629 < 2147483629 := Int.emod_lt_of_pos _ (by decide)
      generalize y2 * y2 % 2147483629 = s at hs0 hs1 ⊢
      refine s_ret (v := .int (s * (s % 65521 + 1) % 2147483587 / 32 % m)) (ev_op (ev_op (ev_op (ev_op (ev_var rfl) (ev_op (ev_op (ev_var rfl) ev_c (rv_I (by show (0 : Int) < 65521; decide))) ev_c rv_I0) (rv_I (.inl ⟨by omega, by omega⟩))) ev_c (rv_I (by show (0 : Int) < 2147483587; decide))) ev_c (rv_I ⟨by decide, by decide⟩)) (ev_var rfl) (rv_I h0)) fun H7 e7 => ?_
      refine q H7 _ (x4.trans (ExB.of (e6.trans e7))) ⟨x, y2, c + 1, e7 _ _ (e6 _ _ hp4), hx, hz0, hz1, by omega, by omega⟩ (Int.emod_nonneg _ (by omega)) (Int.emod_lt_of_pos _ h0)
theorem ok__law_wave {f f1 : Addr} {fd fd1 : FuncData} (F : Fun K "_law_wave" "_law_wave" s__law_wave f fd) (B : Bi K w mg )  (D__law_digit : Df P w K mg base CX0 "_law_digit" 1 f1 fd1 ["_law_pot_here", "_law_many"] (spDig)) : FnOk P w K mg base CX0 (2) f fd ["_law_pot_here"] (spWaveW) := by
  refine F.ok sc__law_wave (fun vs H Q E h => ?_) (fun cdv A outer s H vs Q E hr h => ?_)
  · obtain ⟨a, n, rfl, _⟩ := h
    all_goals rfl
  · obtain ⟨p, n, rfl, hP, hn, q⟩ := h
    refine ⟨_, (pss_cons (ps_set (i := 1) sc__law_wave.nd rfl (Or.inl rfl) (pe_op op_add pe_int (pe_call D__law_digit.ok (hr.mono (by decide)) (by rfl) D__law_digit.g D__law_digit.kp D__law_digit.b .nil pass0 (pa_cons (pv 0) (pa_cons pe_int pa_nil)))))
      (pss_cons (ps_set (i := 2) sc__law_wave.nd rfl (Or.inr rfl) (pe_ix ix_list (pe_lst (pa_cons pe_str (pa_cons pe_str pa_nil))) (pe_call D__law_digit.ok (hr.mono (by decide)) (by rfl) D__law_digit.g D__law_digit.kp D__law_digit.b .nil pass0 (pa_cons (pv 0) (pa_cons pe_int pa_nil))) (fun _ _ => rfl)))
      (pss_cons (ps_set (i := 3) sc__law_wave.nd rfl (Or.inl rfl) (pe_call D__law_digit.ok (hr.mono (by decide)) (by rfl) D__law_digit.g D__law_digit.kp D__law_digit.b .nil pass0 (pa_cons (pv 0) (pa_cons pe_int pa_nil))))
      (pss_cons (ps_set (i := 4) sc__law_wave.nd rfl (Or.inl rfl) (pe_lst (pa_cons (pe_tup (pa_cons pe_int (pa_cons (pe_join pe_str (pe_lc (own := [("_law_k", 5)]) (g := gName 5) (tt := tYes) (by rfl) sc__law_wave.nd (pi_range1 (by rfl) B.range (pa_cons (pv 1) pa_nil)) (blkOk_by (own := [("_law_k", 5)]) (N := N__law_wave) (sc := defScope s__law_wave) (by decide +kernel)) (fun _ _ _ _ _ => pg_name (i := 5) sc__law_wave.nd rfl (Or.inl rfl)) (fun _ _ _ _ _ => pts_nil) (fun _ _ _ _ _ => (pe_ix ix_str (pv 2) (pe_call D__law_digit.ok (hr.mono (by decide)) (by rfl) D__law_digit.g D__law_digit.kp D__law_digit.b .nil pass0 (pa_cons (pv 0) (pa_cons (pe_callB call_len_str (by rfl) B.len PySem.boot_len (pa_cons (pv 2) pa_nil)) pa_nil))) (fun _ _ => rfl))))) pa_nil))) pa_nil)))
      (pss_cons (ps_for PassesOwn.never rfl (pi_range1 (by rfl) B.range (pa_cons (pe_call D__law_digit.ok (hr.mono (by decide)) (by rfl) D__law_digit.g D__law_digit.kp D__law_digit.b .nil pass0 (pa_cons (pv 0) (pa_cons pe_int pa_nil))) pa_nil)) (pg_name (i := 5) sc__law_wave.nd rfl (Or.inl rfl)) (pss_cons (ps_set (i := 6) sc__law_wave.nd rfl (Or.inl rfl) (pe_join pe_str (pe_lc (own := [("_law_j", 8)]) (g := gName 8) (tt := tYes) (by rfl) sc__law_wave.nd (pi_range1 (by rfl) B.range (pa_cons (pv 1) pa_nil)) (blkOk_by (own := [("_law_j", 8)]) (N := N__law_wave) (sc := defScope s__law_wave) (by decide +kernel)) (fun _ _ _ _ _ => pg_name (i := 8) sc__law_wave.nd rfl (Or.inl rfl)) (fun _ _ _ _ _ => pts_nil) (fun _ _ _ _ _ => (pe_ix ix_str (pv 2) (pe_call D__law_digit.ok (hr.mono (by decide)) (by rfl) D__law_digit.g D__law_digit.kp D__law_digit.b .nil pass0 (pa_cons (pv 0) (pa_cons (pe_callB call_len_str (by rfl) B.len PySem.boot_len (pa_cons (pv 2) pa_nil)) pa_nil))) (fun _ _ => rfl))))))
      (pss_cons (ps_if (pt_cmpR op_eq (pv 6) (pe_ix ix_tup (pe_ix ix_list (pv 4) (pe_un un_neg pe_int) (fun _ _ => rfl)) pe_int (fun _ _ => rfl)) (nomark _)) (pss_one (ps_set (i := 6) sc__law_wave.nd rfl (Or.inl rfl) (pe_op op_add_str (pe_ix ix_list (pe_lst (pa_cons pe_str (pa_cons pe_str pa_nil))) (pe_callTy call_int1 (by rfl) B.int (by decide +kernel) (pa_cons (pe_cmpR op_eq (pe_ix ix_str (pv 6) pe_int (fun _ _ => rfl)) pe_str (nomark _)) pa_nil)) (fun _ _ => rfl)) (pe_slice sl_str (pv 6) (po_some pe_int) po_none)))) pss_nil)
      (pss_cons (ps_set (i := 7) sc__law_wave.nd rfl (Or.inl rfl) (pe_op op_add pe_int (pe_call D__law_digit.ok (hr.mono (by decide)) (by rfl) D__law_digit.g D__law_digit.kp D__law_digit.b .nil pass0 (pa_cons (pv 0) (pa_cons (pe_ix ix_list (pe_lst (pa_cons pe_int (pa_cons pe_int (pa_cons pe_int (pa_cons pe_int pa_nil))))) (pv 3) (fun _ _ => rfl)) pa_nil)))))
      (pss_one (ps_expr (pe_bm PySem.F.plainAttrs_list PySem.F.slot_list_append PySem.F.type_list_append mt_append (pv 4) (pa_cons (pe_tup (pa_cons (pe_op op_add (pe_ix ix_tup (pe_ix ix_list (pv 4) (pe_un un_neg pe_int) (fun _ _ => rfl)) pe_int (fun _ _ => rfl)) (pv 7)) (pa_cons (pv 6) pa_nil))) pa_nil))))))))
      (pss_one (ps_ret (pv 4)))))))), ?_⟩
    refine n_asg (evq_add (evq_digC rfl (by decide) (by decide))) hP (by omega) fun v H1 e1 hP1 hv => ?_
    obtain ⟨w, rfl, w0, w1⟩ := hv
    obtain ⟨w, rfl⟩ := Int.eq_ofNat_of_zero_le (by omega : 0 ≤ w)
    refine n_asg (evq_lit (K := K) (vs := [.str (Str.ofString "01"), .str (Str.ofString "01xz")]) (fun _ => ea_cons ev_c (ea_cons ev_c ea_nil)) (by decide) (evq_digC rfl (by decide) (by decide))) hP1 (by omega) fun v H2 e2 hP2 hv => ?_
    obtain ⟨ss, rfl, hss, hs0, hs1⟩ : ∃ ss : List Nat, v = .str (Tx ss) ∧ (∀ c ∈ ss, c ∈ sgn) ∧ 0 < ss.length ∧ ss.length ≤ 4 := by
      simp only [List.mem_cons, List.not_mem_nil, or_false] at hv
      rcases hv with rfl | rfl
      · exact ⟨[48, 49], by rw [s_01], by decide, by decide, by decide⟩
      · exact ⟨sgn, by rw [s_sgn], fun c h => h, by decide, by decide⟩
    refine n_asg (evq_digC rfl (by decide) (by decide)) hP2 (by omega) fun v H3 e3 hP3 hv => ?_
    obtain ⟨way, rfl, way0, way1⟩ := hv
    have sgns : ∀ (σ2 : L2.St) (H9 : Hp) (E : XK), σ2[0]? = some (some (.ref p)) → σ2[2]? = some (some (.str (Tx ss))) → EvQ p 1 (tOp rIxS (tVar 2) (tCall spDig [] E (tCons (tVar 0) (tCons (tCB rLenT (tCons (tVar 2) tNil)) tNil)))) σ2 H9 fun v _ => ∃ c ∈ ss, v = .str (Tx [c]) := fun σ2 H9 E h0 h2 =>
      evq_sign (fun _ => ev_var h2) (by omega) (evq_dig h0 (evq_of fun H2 e2 => ev_lenT (ev_var h2) (by omega)) (by omega) (by omega))
    refine n_first (evq_bits (K := K) (m := w) (ss := ss) (fun _ => ev_var rfl) (by omega) (fun x => rfl) (fun i H4 e4 => sgns _ _ _ rfl rfl)) hP3 (by omega) fun v H4 r0 g e4 hP4 hv nr0 ng => ?_
    obtain ⟨l0, rfl, hl0, hs⟩ := hv
    have f4 := Ex.new (o := .tup [.int 0, .str (Tx l0)]) nr0
    have f5 := Ex.new (o := .lst [.ref r0]) ng
    have hP5 := hP4.ex (f4.trans f5)
    have ngp : g ≠ p := (hP4.ex f4).ne ng
    have x5 : ExB p H (L2.upd (L2.upd H4 r0 (.tup [.int 0, .str (Tx l0)])) g (.lst [.ref r0])) := (((e1.trans e2).trans e3).trans e4).trans (ExB.of (f4.trans f5))
    have ngH : H g = none := fresh_B hP ngp ((((e1.trans e2).trans e3).trans e4).trans (ExB.of f4)) ng
    have hg5 : WvAt (L2.upd (L2.upd H4 r0 (.tup [.int 0, .str (Tx l0)])) g (.lst [.ref r0])) g ([] ++ [((0 : Int), l0)]) := ⟨[r0], upd_same, .cons (f5 _ _ upd_same) .nil⟩
    generalize L2.upd (L2.upd H4 r0 (.tup [.int 0, .str (Tx l0)])) g (.lst [.ref r0]) = H5 at hP5 x5 hg5 ⊢
    clear f4 f5 nr0 ng hP4 e4 hP3 hP2 hP1 e1 e2 e3
    refine n_forR1 (m := 12) (evq_digC rfl (by decide) (by decide)) hP5 (by omega) (by decide) (fun i σ' H' => (∃ a5 a6 a7, σ' = [some (.ref p), some (.int (w : Int)), some (.str (Tx ss)), some (.int way), some (.ref g), a5, a6, a7, none]) ∧ ExB p H H' ∧ PotN (n + 4 + w + i * 9) H' p ∧ ∃ (us : List T2) (z : T2), WvAt H' g (us ++ [z]) ∧ us.length = i ∧ z.1 ≤ 40 * (i : Int) ∧ WvR l0 us z)
      (fun H6 e6 hP6 => ⟨⟨none, none, none, rfl⟩, x5.trans e6, hP6.mono (by omega), [], (0, l0), hg5.exB hP5 e6, rfl, by simp, wvr_one⟩) (fun i σ' H7 hi hv => ?_) (fun d σ' H7 hd hv => ?_)
    · obtain ⟨⟨a5, a6, a7, rfl⟩, x7, hP7, us, z, hg7, hul, hz, hr⟩ := hv
      refine n_asg (evq_bits (K := K) (H := H7) (p := p) (m := w) (ss := ss) (fun _ => ev_var rfl) (by omega) (fun x => rfl) (fun j H8 e8 => sgns _ _ _ rfl rfl)) hP7 (by omega) fun v H8 e8 hP8 hv => ?_
      obtain ⟨l, rfl, hl, hls⟩ := hv
      have hg8 := hg7.exB hP7 e8
      obtain ⟨rs, hgl, hst⟩ := hg8
      obtain ⟨qs, rz, rfl, hrz, hqs⟩ := hst.last
      rw [List.map_append] at hgl
      refine q_ifAsg (v := .str (Tx (newV l z.2))) (b := decide (l = z.2)) (et_test (ev_eqT (ev_var rfl) (ev_t1 (ev_op (ev_var rfl) (ev_un ev_c ru_neg) (rv_ixL (sq_of hgl) at_end)) hrz))) (fun hb => ?_) (fun hb => ?_) fun H9 e9 => ?_
      · obtain ⟨c, l', rfl⟩ : ∃ c l', l = c :: l' := by
          cases l with
          | nil =>
            rw [List.length_nil] at hl
            omega
          | cons c l' => exact ⟨c, l', rfl⟩
        refine ev_is (ev_addT (a := [if c = 48 then 49 else 48]) (b := l') ?_ ?_ ?_) ?_
        · refine ev_opL1 (xs := [.str (Str.ofString "0"), .str (Str.ofString "1")]) (el_lst (ea_cons ev_c (ea_cons ev_c ea_nil)) (by decide)) (fun H9 e9 => ev_int1 (ev_eqT (ev_ixT (c := c) (ev_var rfl) ev_c (by rw [hl]; omega) (atI_nat (j := 0) rfl)) ec_0)) fun g9 H9 h9 e9 => ?_
          rw [s_0, s_1] at h9
          by_cases h : c = 48
          · subst h
            exact rv_ixL (sq_of h9) (atI_nat (j := 1) rfl)
          · rw [if_neg h, if_neg (by simpa using h)]
            exact rv_ixL (sq_of h9) (atI_nat (j := 0) rfl)
        · exact ev_cutB (l := c :: l') (i := 1) (ev_var rfl) (eo_some ev_c) (by simp) (by rw [hl]; omega)
        · rw [List.length_cons] at hl
          simp
          omega
        · rw [newV, if_pos (of_decide_eq_true hb)]
          rfl
      · have := of_decide_eq_false hb
        rw [newV_ne this]
        rfl
      obtain ⟨hv1, hv2, hv3⟩ := newV_ok (l := l) (u := z.2) (ss := ss) hss (by omega) hls
      generalize newV l z.2 = l2 at hv1 hv2 hv3 ⊢
      obtain ⟨mg, hmg, mg0, mg1⟩ : ∃ mg : Int, atI [V.int 2, .int 5, .int 12, .int 40] way = some (.int mg) ∧ 0 < mg ∧ mg ≤ 40 := gap_at way0 way1
      refine n_asg (evq_add (evq_dig (m := mg) rfl (evq_of fun H10 e10 => ev_opL1 (xs := [.int 2, .int 5, .int 12, .int 40]) (el_lst (ea_cons ev_c (ea_cons ev_c (ea_cons ev_c (ea_cons ev_c ea_nil)))) (by decide)) (fun H11 e11 => ev_var rfl) fun g9 H11 h9 e11 => rv_ixL (sq_of h9) hmg) mg0 (by omega))) (hP8.ex e9) (by omega) fun v H10 e10 hP10 hv => ?_
      obtain ⟨gap, rfl, gap0, gap1⟩ := hv
      have hrz10 := e10 _ _ ((hP8.ex e9).neT (e9 _ _ hrz)) (e9 _ _ hrz)
      have hgl10 := e10 _ _ ngp (e9 _ _ hgl)
      have hqs10 : Stp H10 qs us := (hqs.ex e9).mono fun r xs hr => e10 _ _ ((hP8.ex e9).neT hr) hr
      have hlen := hqs10.len
      refine s_appU (l := g) (xs := qs.map V.ref ++ [V.ref rz]) (ys := t2 (z.1 + gap, l2)) hgl10 (ev_var rfl) (eu_tup (ea_cons (ev_op (ev_t0 (ev_op (ev_var rfl) (ev_un ev_c ru_neg) (rv_ixL (sq_of hgl10) at_end)) hrz10) (ev_var rfl) rv_I0) (ea_cons (ev_var rfl) ea_nil)) (by simp [t2])) (by rw [List.length_append, List.length_map]; simp; omega) fun rn H11 nrn e11 h11 => ?_
      have hgl11 := e11 _ _ hgl10
      have hP11 := hP10.ex e11
      refine ⟨⟨_, _, _, rfl⟩, ((x7.trans e8).trans ((ExB.of e9).trans (e10.trans (ExB.of e11)))).mut ngH, (hP11.upd ngp).mono ?_, us ++ [z], (z.1 + gap, l2), ⟨qs ++ [rz] ++ [rn], by rw [upd_same, List.map_append, List.map_append]; rfl, ?_⟩, by rw [List.length_append, hul]; rfl, ?_, wvr_step hr (by omega) hv1 (by omega) hv3⟩
      · show n + 4 + w + i * 9 + w + 1 ≤ n + 4 + w + (i + 1) * 9
        omega
      · exact (((hqs10.ex e11).app (.cons (e11 _ _ hrz10) .nil)).app (.cons h11 .nil)).upd hgl11
      · show z.1 + gap ≤ 40 * ((i + 1 : Nat) : Int)
        omega
    · obtain ⟨⟨a5, a6, a7, rfl⟩, x7, hP7, us, z, hg7, hul, hz, hr⟩ := hv
      refine s_ret (ev_var rfl) fun H8 e8 => ?_
      obtain ⟨t, r, htr, hok⟩ := wvr_ok (w := w) hr (by omega) (by omega) hl0 (by omega) (fun c hc => hss c (hs c hc)) hz
      exact q g H8 t r _ ngH (x7.trans (ExB.of e8)) (hP7.ex e8) (by omega) (by rw [← htr]; exact hg7.ex e8) hok
theorem ok__law_spoilt {f f1 : Addr} {fd fd1 : FuncData} (F : Fun K "_law_spoilt" "_law_spoilt" s__law_spoilt f fd) (B : Bi K w mg )  (D__law_digit : Df P w K mg base CX0 "_law_digit" 1 f1 fd1 ["_law_pot_here", "_law_many"] (spDig)) : FnOk P w K mg base CX0 (2) f fd ["_law_pot_here", "_law_wave_here"] (spSpoilt) := by
  refine F.ok sc__law_spoilt (fun vs H Q E h => ?_) (fun cdv A outer s H vs Q E hr h => ?_)
  · obtain ⟨p, a, n, t, r, rfl, _⟩ := h
    all_goals rfl
  · obtain ⟨p, a, n, t, r, rfl, hP, hn, hW, ok, q⟩ := h
    refine ⟨_, (pss_cons (ps_set (i := 2) sc__law_spoilt.nd rfl (Or.inl rfl) (pe_call D__law_digit.ok (hr.mono (by decide)) (by rfl) D__law_digit.g D__law_digit.kp D__law_digit.b .nil pass0 (pa_cons (pv 0) (pa_cons (pe_callB call_len_seq (by rfl) B.len PySem.boot_len (pa_cons (pv 1) pa_nil)) pa_nil))))
      (pss_cons (ps_asg (pe_ix ix_list (pv 1) (pv 2) (fun _ _ => rfl)) (pg_tup rfl (pgs_cons (pg_name (i := 4) sc__law_spoilt.nd rfl (Or.inl rfl)) (pgs_cons (pg_name (i := 5) sc__law_spoilt.nd rfl (Or.inl rfl)) pgs_nil))))
      (pss_cons (ps_set (i := 3) sc__law_spoilt.nd rfl (Or.inl rfl) (pe_lst (pa_cons pe_non (pa_cons (pe_lst (pa_cons (pv 4) (pa_cons (pv 5) pa_nil))) (pa_cons (pe_tup (pa_cons (pv 4) pa_nil)) (pa_cons (pe_tup (pa_cons (pv 4) (pa_cons (pv 5) (pa_cons (pv 5) pa_nil)))) (pa_cons (pe_tup pa_nil) (pa_cons pe_str (pa_cons (pe_tup (pa_cons (pv 5) (pa_cons (pv 4) pa_nil))) (pa_cons (pe_tup (pa_cons (pe_callTy call_str_int (by rfl) B.str (by decide +kernel) (pa_cons (pv 4) pa_nil)) (pa_cons (pv 5) pa_nil))) pa_nil))))))))))
      (pss_cons (ps_set (i := 3) sc__law_spoilt.nd rfl (Or.inl rfl) (pe_op op_cat (pv 3) (pe_lst (pa_cons (pe_tup (pa_cons pe_non (pa_cons (pv 5) pa_nil))) (pa_cons (pe_tup (pa_cons (pv 4) (pa_cons pe_non pa_nil))) (pa_cons (pe_tup (pa_cons (pv 4) (pa_cons pe_str pa_nil))) (pa_cons (pe_tup (pa_cons (pv 4) (pa_cons (pe_op op_mulS pe_str (pe_callB call_len_str (by rfl) B.len PySem.boot_len (pa_cons (pv 5) pa_nil))) pa_nil))) (pa_cons (pe_tup (pa_cons (pv 4) (pa_cons (pe_lst (pa_cons (pv 5) pa_nil)) pa_nil))) (pa_cons (pe_tup (pa_cons (pe_un un_neg pe_int) (pa_cons (pv 5) pa_nil))) pa_nil)))))))))
      (pss_cons (ps_set (i := 3) sc__law_spoilt.nd rfl (Or.inl rfl) (pe_op op_cat (pv 3) (pe_lst (pa_cons (pe_tup (pa_cons (pv 4) (pa_cons (pe_op op_mulS pe_str pe_int) pa_nil))) (pa_cons (pe_tup (pa_cons (pe_op op_pow pe_int pe_int) (pa_cons (pv 5) pa_nil))) (pa_cons (pe_tup (pa_cons (pv 4) (pa_cons pe_str pa_nil))) (pa_cons (pe_tup (pa_cons (pv 4) (pa_cons pe_int pa_nil))) (pa_cons (pe_tup (pa_cons (pe_tup (pa_cons (pv 4) pa_nil)) (pa_cons (pv 5) pa_nil))) pa_nil))))))))
      (pss_cons (ps_if (pt_cmpR op_gt (pv 2) pe_int (nomark _)) (pss_cons (ps_set (i := 6) sc__law_spoilt.nd rfl (Or.inl rfl) (pe_ix ix_list (pv 1) (pe_op op_sub (pv 2) pe_int) (fun _ _ => rfl)))
      (pss_cons (ps_set (i := 7) sc__law_spoilt.nd rfl (Or.inl rfl) (pe_slice sl_str (pe_op op_add_str (pv 5) pe_str) (po_some (pe_un un_neg (pe_op op_add (pe_op op_mod (pe_callB call_len_str (by rfl) B.len PySem.boot_len (pa_cons (pv 5) pa_nil)) pe_int) pe_int))) po_none))
      (pss_one (ps_set (i := 3) sc__law_spoilt.nd rfl (Or.inl rfl) (pe_op op_cat (pv 3) (pe_lst (pa_cons (pe_tup (pa_cons (pe_ix ix_tup (pv 6) pe_int (fun _ _ => rfl)) (pa_cons (pv 5) pa_nil))) (pa_cons (pe_tup (pa_cons (pe_op op_sub (pe_ix ix_tup (pv 6) pe_int (fun _ _ => rfl)) pe_int) (pa_cons (pv 5) pa_nil))) (pa_cons (pe_tup (pa_cons (pv 4) (pa_cons (pe_ix ix_tup (pv 6) pe_int (fun _ _ => rfl)) pa_nil))) (pa_cons (pe_tup (pa_cons (pv 4) (pa_cons (pv 7) pa_nil))) pa_nil)))))))))) pss_nil)
      (pss_cons (ps_if (pt_cmpR op_eq (pv 2) pe_int (nomark _)) (pss_one (ps_set (i := 3) sc__law_spoilt.nd rfl (Or.inl rfl) (pe_op op_cat (pv 3) (pe_lst (pa_cons (pe_tup (pa_cons pe_int (pa_cons (pv 5) pa_nil))) (pa_cons (pe_tup (pa_cons pe_bl (pa_cons (pv 5) pa_nil))) (pa_cons (pe_tup (pa_cons pe_bl (pa_cons (pv 5) pa_nil))) (pa_cons (pe_tup (pa_cons (pe_un un_neg pe_int) (pa_cons (pv 5) pa_nil))) pa_nil)))))))) pss_nil)
      (pss_one (ps_ret (pe_op op_cat (pe_op op_cat (pe_slice sl_list (pv 1) po_none (po_some (pv 2))) (pe_lst (pa_cons (pe_ix ix_list (pv 3) (pe_call D__law_digit.ok (hr.mono (by decide)) (by rfl) D__law_digit.g D__law_digit.kp D__law_digit.b .nil pass0 (pa_cons (pv 0) (pa_cons (pe_callB call_len_seq (by rfl) B.len PySem.boot_len (pa_cons (pv 3) pa_nil)) pa_nil))) (fun _ _ => rfl)) pa_nil))) (pe_slice sl_list (pv 1) (po_some (pe_op op_add (pv 2) pe_int)) po_none))))))))))), ?_⟩
    have hrl := ok.len
    refine n_asg (evq_dig (m := ((t :: r).length : Int)) rfl (evq_of fun H4 e4 => ?_) (by simp) (by simp; omega)) hP (by omega) fun v H1 x1 hP1 hv => ?_
    · obtain ⟨rs, h1, h2⟩ := hW.exB hP e4
      exact ev_is (ev_len (ev_var rfl) (sq_of h1)) (by rw [List.length_map, h2.len])
    obtain ⟨s, rfl, s0, s1⟩ := hv
    obtain ⟨s, rfl⟩ := Int.eq_ofNat_of_zero_le s0
    have hsl : s < (t :: r).length := by omega
    have hsl2 : s ≤ r.length := by rw [List.length_cons] at hsl; omega
    have hW1 := hW.exB hP x1
    obtain ⟨rs, hal, hst⟩ := hW1
    have hrs := hst.len
    have hrs2 : rs.length ≤ 12 := by rw [hrs, List.length_cons]; omega
    have hqs : (t :: r)[s]? = some (t :: r)[s] := List.getElem?_eq_getElem hsl
    obtain ⟨ri, hri, hHi⟩ := hst.to hqs
    have hqm : (t :: r)[s] ∈ t :: r := List.getElem_mem hsl
    generalize (t :: r)[s] = qs at hqs hHi hqm
    obtain ⟨tm, vl⟩ := qs
    obtain ⟨v1, v2, v3, v4⟩ := ok.val _ hqm
    have t0 := pos_t ok hqm
    have t1 := ok.lim _ hqm
    have v2' : 1 ≤ vl.length := v2
    have v4' : vl.length ≤ 8 := v4
    have t0' : 0 ≤ tm := t0
    have t1' : tm ≤ 440 := t1
    have htm : -1000 ≤ tm ∧ tm ≤ 1000 := ⟨by omega, by omega⟩
    have lov : LoT vl := lo_sm (by omega) fun c hc => by
      have := v1 c hc
      simp [sgn] at this
      omega
    refine q_asgT (q := (tm, vl)) (ra := ri) (ev_op (ev_var rfl) (ev_var rfl) (rv_ixL (sq_of hal) (atI_nat (j := s) (v := V.ref ri) (by rw [List.getElem?_map, hri]; rfl)))) hHi fun H2 e2 => ?_
    dsimp only
    have lgt := lg1 htm.1 htm.2
    refine q_asgD (ds := S1 tm vl) (el_lstD (da_cons (ed_v ev_c .non) (da_cons (ed_lst (da_cons (ed_int (ev_var rfl)) (da_cons (ed_tx (ev_var rfl)) da_nil)) (by simp)) (da_cons (ed_tup (da_cons (ed_int (ev_var rfl)) da_nil) (by simp)) (da_cons (ed_tup (da_cons (ed_int (ev_var rfl)) (da_cons (ed_tx (ev_var rfl)) (da_cons (ed_tx (ev_var rfl)) da_nil))) (by simp)) (da_cons (ed_tup da_nil (by simp)) (da_cons (ed_tx ec_0) (da_cons (ed_tup (da_cons (ed_tx (ev_var rfl)) (da_cons (ed_int (ev_var rfl)) da_nil)) (by simp)) (da_cons (ed_tup (da_cons (ed_tx (ev_strI (ev_var rfl) lgt)) (da_cons (ed_tx (ev_var rfl)) da_nil)) (by simp)) da_nil)))))))) (by simp [S1])) fun g1 y1 H3 n3 e3 h3 d3 => ?_
    refine q_asgD (ds := S1 tm vl ++ S2 tm vl) (el_catD (ev_var rfl) h3 d3 (el_lstD (da_cons (ed_tup (da_cons (ed_v ev_c .non) (da_cons (ed_tx (ev_var rfl)) da_nil)) (by simp)) (da_cons (ed_tup (da_cons (ed_int (ev_var rfl)) (da_cons (ed_v ev_c .non) da_nil)) (by simp)) (da_cons (ed_tup (da_cons (ed_int (ev_var rfl)) (da_cons (ed_tx ec_e) da_nil)) (by simp)) (da_cons (ed_tup (da_cons (ed_int (ev_var rfl)) (da_cons (ed_tx (ev_mul2 (by decide) (by omega) ec_2 (ev_lenT (ev_var rfl) (by omega)))) da_nil)) (by simp)) (da_cons (ed_tup (da_cons (ed_int (ev_var rfl)) (da_cons (ed_lst (da_cons (ed_tx (ev_var rfl)) da_nil) (by simp)) da_nil)) (by simp)) (da_cons (ed_tup (da_cons (ed_int (ev_un ev_c ru_neg)) (da_cons (ed_tx (ev_var rfl)) da_nil)) (by simp)) da_nil)))))) (by simp [S2])) (by simp [S1, S2])) fun g2 y2 H4 n4 e4 h4 d4 => ?_
    refine q_asgD (ds := S1 tm vl ++ S2 tm vl ++ S3 tm vl) (el_catD (ev_var rfl) h4 d4 (el_lstD (da_cons (ed_tup (da_cons (ed_int (ev_var rfl)) (da_cons (ed_tx (ev_mul2 (n := 9) (by decide) (by omega) ec_0 ev_c)) da_nil)) (by simp)) (da_cons (ed_tup (da_cons (ed_int (ev_op ev_c ev_c (rv_I ⟨by decide, by decide, by decide⟩))) (da_cons (ed_tx (ev_var rfl)) da_nil)) (by simp)) (da_cons (ed_tup (da_cons (ed_int (ev_var rfl)) (da_cons (ed_tx ec_X) da_nil)) (by simp)) (da_cons (ed_tup (da_cons (ed_int (ev_var rfl)) (da_cons (ed_int ev_c) da_nil)) (by simp)) (da_cons (ed_tup (da_cons (ed_tup (da_cons (ed_int (ev_var rfl)) da_nil) (by simp)) (da_cons (ed_tx (ev_var rfl)) da_nil)) (by simp)) da_nil))))) (by simp [S3])) (by simp [S1, S2, S3])) fun g3 y3 H5 n5 e5 h5 d5 => ?_
    have x5 : Ex H1 H5 := e2.trans (e3.trans (e4.trans e5))
    have sm5 : ∀ d ∈ S1 tm vl ++ S2 tm vl ++ S3 tm vl, SmB d := fun d hd => by
      rcases List.mem_append.mp hd with h | h
      · rcases List.mem_append.mp h with h | h
        · exact sm_1 htm lov v4' d h
        · exact sm_2 htm lov v4' d h
      · exact sm_3 htm lov d h
    have minus : IsWv (.list (putD (t :: r) s (stD (-1, vl)))) false := by
      cases s with
      | zero => exact put_first (q := (-1, vl)) (by show (-1 : Int) ≠ 0; decide)
      | succ s' =>
        have hs' : s' < (t :: r).length := by omega
        have hm := pos_t ok (List.getElem_mem hs')
        exact put_goes (q := (-1, vl)) (List.getElem?_eq_getElem hs') (goes_no (.inl (by show ¬ _ < (-1 : Int); omega)))
    have bd5 : ∀ d ∈ S1 tm vl ++ S2 tm vl ++ S3 tm vl, IsWv (.list (putD (t :: r) s d)) false := fun d hd => by
      rcases List.mem_append.mp hd with h | h
      · rcases List.mem_append.mp h with h | h
        · exact bad_1 d h
        · exact bad_2 v2' minus d h
      · exact bad_3 d h
    clear n3 n4 n5 h3 d3 h4 d4 e2 e3 e4 e5
    refine q_ifN (b := decide ((s : Int) > 0)) (et_test (ev_op (ev_var rfl) ev_c rv_I0)) (fun σ' H' => (∃ g xs ds a6 a7, σ' = [some (.ref p), some (.ref a), some (.int (s : Int)), some (.ref g), some (.int tm), some (.str (Tx vl)), a6, a7] ∧ H' g = some (.lst xs) ∧ DtAll H' xs ds ∧ ds.length ≤ 30 ∧ ds.head? = some .none ∧ (∀ d ∈ ds, SmB d) ∧ ∀ d ∈ ds, IsWv (.list (putD (t :: r) s d)) false) ∧ Ex H1 H')
      (fun hb H6 e6 N hN => ?_) (fun hb H6 e6 => ⟨⟨g3, y3, _, _, _, rfl, e6 _ _ h5, d5.ex e6, by simp [S1, S2, S3], rfl, sm5, bd5⟩, x5.trans e6⟩) (fun σ' H' hv => ?_)
    · have hs1 : 0 < s := by have := of_decide_eq_true hb; omega
      obtain ⟨s', rfl⟩ : ∃ s', s = s' + 1 := ⟨s - 1, by omega⟩
      have hs' : s' < (t :: r).length := by omega
      have hah : (t :: r)[s']? = some (t :: r)[s'] := List.getElem?_eq_getElem hs'
      have hahm : (t :: r)[s'] ∈ t :: r := List.getElem_mem hs'
      obtain ⟨ra, hra, hHa⟩ := hst.to hah
      generalize (t :: r)[s'] = ah at hah hHa hahm
      obtain ⟨w1, w2, w3, w4⟩ := ok.val _ hahm
      have a0 := pos_t ok hahm
      have a1 := ok.lim _ hahm
      have hlen : ah.2.length = vl.length := by
        have h1 : vl.length = t.2.length := v3
        omega
      have hHa6 := e6 _ _ (x5 _ _ hHa)
      refine q_asg (v := .ref ra) (ev_op (ev_var rfl) (ev_is (ev_op (ev_var rfl) ev_c rv_I0) (by rw [show (((s' + 1 : Nat) : Int) - 1) = (s' : Int) by omega])) (rv_ixL (sq_of (e6 _ _ (x5 _ _ hal))) (atI_nat (j := s') (v := V.ref ra) (by rw [List.getElem?_map, hra]; rfl)))) fun H7 e7 => ?_
      have hk : vl.length % 8 + 1 ≤ (vl ++ [48]).length := by
        rw [List.length_append, List.length_singleton]
        omega
      refine q_asg (v := .str (Tx ((vl ++ [48]).drop ((vl ++ [48]).length - (vl.length % 8 + 1))))) (ev_cutN (ev_addT (ev_var rfl) ec_0 (by simp; omega)) (eo_is (eo_some (ev_un (ev_op (ev_op (ev_lenT (ev_var rfl) (by omega)) ev_c (rv_I (by show (0 : Int) < 8; decide))) ev_c rv_I0) ru_neg)) (by congr 1)) (by omega) hk (by simp; omega)) fun H8 e8 => ?_
      have hwl : ((vl ++ [48]).drop ((vl ++ [48]).length - (vl.length % 8 + 1))).length ≠ vl.length := by
        rw [List.length_drop, List.length_append, List.length_singleton]
        omega
      have low : LoT ((vl ++ [48]).drop ((vl ++ [48]).length - (vl.length % 8 + 1))) := by
        refine ⟨?_, fun c hc => ?_⟩
        · rw [List.length_drop, List.length_append, List.length_singleton]
          omega
        · have := List.mem_of_mem_drop hc
          rcases List.mem_append.mp this with h | h
          · exact lov.2 c h
          · rw [List.mem_singleton.mp h]
            decide
      generalize (vl ++ [48]).drop ((vl ++ [48]).length - (vl.length % 8 + 1)) = wd at hwl low
      have x8 := e6.trans (e7.trans e8)
      have hHa8 := e8 _ _ (e7 _ _ hHa6)
      refine s_asgD (ds := S1 tm vl ++ S2 tm vl ++ S3 tm vl ++ S4 tm vl wd ah) (el_catD (ev_var rfl) (x8 _ _ h5) (d5.ex x8) (el_lstD (da_cons (ed_tup (da_cons (ed_int (ev_t0 (ev_var rfl) hHa8)) (da_cons (ed_tx (ev_var rfl)) da_nil)) (by simp)) (da_cons (ed_tup (da_cons (ed_int (ev_op (ev_t0 (ev_var rfl) hHa8) ev_c rv_I0)) (da_cons (ed_tx (ev_var rfl)) da_nil)) (by simp)) (da_cons (ed_tup (da_cons (ed_int (ev_var rfl)) (da_cons (ed_tx (ev_t1 (ev_var rfl) hHa8)) da_nil)) (by simp)) (da_cons (ed_tup (da_cons (ed_int (ev_var rfl)) (da_cons (ed_tx (ev_var rfl)) da_nil)) (by simp)) da_nil)))) (by simp [S4])) (by simp [S1, S2, S3, S4])) fun g9 y9 H9 n9 e9 h9 d9 => ?_
      have loa : LoT ah.2 := lo_sm (by omega) fun c hc => by
        have := w1 c hc
        simp [sgn] at this
        omega
      refine hN _ _ ⟨⟨g9, y9, _, _, _, rfl, h9, d9, by simp [S1, S2, S3, S4], rfl, fun d hd => ?_, fun d hd => ?_⟩, x5.trans (x8.trans e9)⟩
      · rcases List.mem_append.mp hd with h | h
        · exact sm5 d h
        · exact sm_4 htm lov low ⟨a0, by omega⟩ loa d h
      · rcases List.mem_append.mp hd with h | h
        · exact bd5 d h
        · exact bad_4 hah hlen hwl d h
    · obtain ⟨⟨g, xs, ds, a6, a7, rfl, hg, hxs, hdl, hd0, hsm, hbd⟩, x6⟩ := hv
      clear h5 d5 sm5 bd5 x5 minus
      refine q_ifN (b := decide (V.int (s : Int) = V.int 0)) (et_test (ev_op (ev_var rfl) ev_c (rv_eq rfl))) (fun σ' H' => (∃ g xs ds, σ' = [some (.ref p), some (.ref a), some (.int (s : Int)), some (.ref g), some (.int tm), some (.str (Tx vl)), a6, a7] ∧ H' g = some (.lst xs) ∧ DtAll H' xs ds ∧ ds.length ≤ 40 ∧ ds.head? = some .none ∧ (∀ d ∈ ds, SmB d) ∧ ∀ d ∈ ds, IsWv (.list (putD (t :: r) s d)) false) ∧ Ex H1 H')
        (fun hb H7 e7 N hN => ?_) (fun hb H7 e7 => ⟨⟨g, xs, ds, rfl, e7 _ _ hg, hxs.ex e7, by omega, hd0, hsm, hbd⟩, x6.trans e7⟩) (fun σ' H7 hv => ?_)
      · have hs0 : s = 0 := by
          have := of_decide_eq_true hb
          injection this with h
          omega
        subst hs0
        refine s_asgD (ds := ds ++ S5 vl) (el_catD (ev_var rfl) (e7 _ _ hg) (hxs.ex e7) (el_lstD (da_cons (ed_tup (da_cons (ed_int ev_c) (da_cons (ed_tx (ev_var rfl)) da_nil)) (by simp)) (da_cons (ed_tup (da_cons (ed_v ev_c (.bl true)) (da_cons (ed_tx (ev_var rfl)) da_nil)) (by simp)) (da_cons (ed_tup (da_cons (ed_v ev_c (.bl false)) (da_cons (ed_tx (ev_var rfl)) da_nil)) (by simp)) (da_cons (ed_tup (da_cons (ed_int (ev_un ev_c ru_neg)) (da_cons (ed_tx (ev_var rfl)) da_nil)) (by simp)) da_nil)))) (by simp [S5])) (by simp [S5]; omega)) fun g9 y9 H9 n9 e9 h9 d9 => ?_
        refine hN _ _ ⟨⟨g9, y9, _, rfl, h9, d9, by rw [List.length_append]; simp [S5]; omega, by rw [List.head?_append, hd0]; rfl, fun d hd => ?_, fun d hd => ?_⟩, x6.trans (e7.trans e9)⟩
        · rcases List.mem_append.mp hd with h | h
          · exact hsm d h
          · exact sm_5 lov d h
        · rcases List.mem_append.mp hd with h | h
          · exact hbd d h
          · exact bad_5 d h
      · obtain ⟨⟨g, xs, ds, rfl, hg, hxs, hdl, hd0, hsm, hbd⟩, x7⟩ := hv
        have hlx := hxs.len
        have hal7 := x7 _ _ hal
        have hst7 := hst.ex x7
        have hP7 := hP1.ex x7
        have anp := wv_ne hal7 hP7
        have ngp := dn_ne hg hxs hd0 hP7
        have hd1 : 0 < ds.length := by
          cases ds with
          | nil => cases hd0
          | cons b l => simp
        refine s_put (p := p) (n := n + 1) (G := fun v _ => v ∈ xs) (xs1 := (rs.take s).map V.ref) (xs3 := (rs.drop (s + 1)).map V.ref) hP7 (by omega) (el_is (el_sl (K := K) (ev_var rfl) eo_none (eo_some (ev_var rfl)) (sq_of hal7)) (by rw [cut_take (by rw [List.length_map, hrs]; omega), List.map_take]))
          (fun H8 e8 => evq_ixL (K := K) (p := p) (g := g) (xs := xs) (fun _ => ev_var rfl) (e8 _ _ hg) ngp (fun H9 e9 => evq_dig rfl (evq_of fun H10 e10 => ev_len (ev_var rfl) (sq_of (e10 _ _ ngp (e9 _ _ ngp (e8 _ _ hg))))) (by omega) (by omega)))
          (fun H8 e8 => el_is (el_sl (K := K) (lo := some ((s + 1 : Nat) : Int)) (ev_var rfl) (eo_some (ev_op (ev_var rfl) ev_c rv_I0)) eo_none (sq_of (e8 _ _ anp hal7))) (by rw [cut_drop (by rw [List.length_map, hrs]; omega), List.map_drop]))
          (by rw [List.length_map, List.length_map, List.length_take, List.length_drop]; omega) (fun g9 v H9 H10 x9 hP9 hv e10 h10 => ?_)
        obtain ⟨d, hdm, hvd⟩ := hxs.mem hv
        obtain ⟨px, py, pc, hpp, hpr⟩ := id hP7
        have hvd10 : Dt H10 v d := (hvd.exB hpp x9 (hsm d hdm).p).ex e10
        have hst10 : Stp H10 rs (t :: r) := (hst7.mono fun b xs hr => x9 _ _ (hP7.neT hr) hr).ex e10
        refine q g9 H10 _ (putD (t :: r) s d) ((x1.trans (ExB.of x7)).trans (x9.trans (ExB.of e10))) (hP9.ex e10) (by omega) (.lst h10 (((hst10.take s).dt.app (.cons hvd10 .nil)).app (hst10.drop (s + 1)).dt)) (hbd d hdm) ?_ ?_
        · unfold putD
          rw [List.length_append, List.length_append, List.length_map, List.length_map, List.length_take, List.length_drop]
          simp
          omega
        · intro x hx
          unfold putD at hx
          rcases List.mem_append.mp hx with h | h
          · rcases List.mem_append.mp h with h | h
            · obtain ⟨q2, h2, rfl⟩ := List.mem_map.mp h
              exact sm_st ok q2 (List.mem_of_mem_take h2)
            · rw [List.mem_singleton.mp h]
              exact hsm d hdm
          · obtain ⟨q2, h2, rfl⟩ := List.mem_map.mp h
            exact sm_st ok q2 (List.mem_of_mem_drop h2)
theorem ok_law {f f1 f2 f3 f4 f5 : Addr} {fd fd1 fd2 fd3 fd4 fd5 : FuncData} (F : Fun K "law" "law" s_law f fd) (B : Bi K w mg )  (D__law_pot : Df P w K mg base CX0 "_law_pot" 1 f1 fd1 ["_law_script", "_law_k"] (spPotN K)) (D__law_digit : Df P w K mg base CX0 "_law_digit" 1 f2 fd2 ["_law_pot_here", "_law_many"] (spDig)) (D__law_wave : Df P w K mg base CX0 "_law_wave" 2 f3 fd3 ["_law_pot_here"] (spWaveW)) (D__law_spoilt : Df P w K mg base CX0 "_law_spoilt" 2 f4 fd4 ["_law_pot_here", "_law_wave_here"] (spSpoilt)) (D_is_wave : Df P w K mg base CX0 "is_wave" 3 f5 fd5 ["thing"] (spIsWaveD)) : FnG P w K mg base CX0 (4) f fd ["_law_script"] (spLaw K) := by
  refine F.okG sc_law (fun vs H Q E h => ?_) (fun cdv A outer s H vs Q E hG hr h => ?_)
  · obtain ⟨a, ns, rfl, _⟩ := h
    all_goals rfl
  · obtain ⟨a, ns, rfl, hS, hl, q⟩ := h
    refine ⟨_, (pss_cons (ps_for PassesOwn.never rfl (pi_range1 (by rfl) B.range (pa_cons (pe_callB (call_max2 rfl) (by rfl) B.max (by decide +kernel) (pa_cons pe_int (pa_cons (pe_callB (call_min2 rfl) (by rfl) B.min (by decide +kernel) (pa_cons (pe_callB call_len_seq (by rfl) B.len PySem.boot_len (pa_cons (pv 0) pa_nil)) (pa_cons pe_int pa_nil))) pa_nil))) pa_nil)) (pg_name (i := 1) sc_law.nd rfl (Or.inl rfl)) (pss_cons (ps_set (i := 2) sc_law.nd rfl (Or.inl rfl) (pe_call D__law_pot.ok (hr.mono (by decide)) (by rfl) D__law_pot.g D__law_pot.kp D__law_pot.b .nil pass0 (pa_cons (pv 0) (pa_cons (pv 1) pa_nil))))
      (pss_cons (ps_set (i := 3) sc_law.nd rfl (Or.inl rfl) (pe_call D__law_wave.ok (hr.mono (by decide)) (by rfl) D__law_wave.g D__law_wave.kp D__law_wave.b .nil pass0 (pa_cons (pv 2) pa_nil)))
      (pss_cons (ps_setLc (i := 4) (own := [("_law_time", 8), ("_law_value", 9)]) (g := gTup K 2 (gCons (gName 8) (gCons (gName 9) gNil))) (tt := tYes) (by rfl) sc_law.nd rfl rfl (sw_true rfl rfl rfl (by decide +kernel)) (pi_list (pv 3)) (blkOk_by (own := [("_law_time", 8), ("_law_value", 9)]) (N := N_law) (sc := defScope s_law) (by decide +kernel)) (fun _ _ _ _ _ => (pg_tup rfl (pgs_cons (pg_name (i := 8) sc_law.nd rfl (Or.inl rfl) (Or.inr rfl)) (pgs_cons (pg_name (i := 9) sc_law.nd rfl (Or.inl rfl) (Or.inr rfl)) pgs_nil)))) (fun _ _ _ _ _ => pts_nil) (fun _ _ _ _ _ => (pe_tup (pa_cons (pe_op op_mul (pv 8) (pe_op op_pow pe_int pe_int)) (pa_cons (pv 9) pa_nil)))))
      (pss_cons (ps_if (PW.pt (pw_or (pt_cmpR op_isNotB (pe_call D_is_wave.ok (hr.mono (by decide)) (by rfl) D_is_wave.g D_is_wave.kp D_is_wave.b .nil pass0 (pa_cons (pe_callTy call_list_of (by rfl) B.list (by decide +kernel) (pa_cons (pv 3) pa_nil)) pa_nil)) pe_bl (nomark _)) (pw_or1 (pt_cmpR op_isNotB (pe_call D_is_wave.ok (hr.mono (by decide)) (by rfl) D_is_wave.g D_is_wave.kp D_is_wave.b .nil pass0 (pa_cons (pv 4) pa_nil)) pe_bl (nomark _))))) (pss_one (ps_ret pe_bl)) pss_nil)
      (pss_cons (ps_set (i := 5) sc_law.nd rfl (Or.inl rfl) (pe_call D__law_spoilt.ok (hr.mono (by decide)) (by rfl) D__law_spoilt.g D__law_spoilt.kp D__law_spoilt.b .nil pass0 (pa_cons (pv 2) (pa_cons (pv 3) pa_nil))))
      (pss_cons (ps_set (i := 6) sc_law.nd rfl (Or.inl rfl) (pe_callB (call_repr hG (u101 hr)) (by rfl) B.repr (by decide +kernel) (pa_cons (pv 5) pa_nil)))
      (pss_cons (ps_if (PW.pt (pw_or (pt_cmpR op_isNotB (pe_call D_is_wave.ok (hr.mono (by decide)) (by rfl) D_is_wave.g D_is_wave.kp D_is_wave.b .nil pass0 (pa_cons (pv 5) pa_nil)) pe_bl (nomark _)) (pw_or1 (pt_cmpR op_ne (pe_callB (call_repr hG (u101 hr)) (by rfl) B.repr (by decide +kernel) (pa_cons (pv 5) pa_nil)) (pv 6) (nomark _))))) (pss_one (ps_ret pe_bl)) pss_nil)
      (pss_one (ps_for PassesOwn.never rfl (pi_list (pe_lst (pa_cons pe_non (pa_cons (pe_callTy call_tuple_of (by rfl) B.tuple (by decide +kernel) (pa_cons (pv 3) pa_nil)) (pa_cons pe_dnewK (pa_cons pe_str (pa_cons (pe_lst pa_nil) (pa_cons pe_int (pa_cons (pe_tup (pa_cons (pv 3) pa_nil)) (pa_cons (pe_lst (pa_cons (pv 3) pa_nil)) (pa_cons (pe_callTy (call_dictP rfl) (by rfl) B.dict (by decide +kernel) (pa_cons (pv 3) pa_nil)) (pa_cons pe_bl pa_nil)))))))))))) (pg_name (i := 7) sc_law.nd rfl (Or.inl rfl)) (pss_one (ps_if (pt_cmpR op_isNotB (pe_call D_is_wave.ok (hr.mono (by decide)) (by rfl) D_is_wave.g D_is_wave.kp D_is_wave.b .nil pass0 (pa_cons (pv 7) pa_nil)) pe_bl (nomark _)) (pss_one (ps_ret pe_bl)) pss_nil))))))))))))
      (pss_one (ps_ret pe_bl))), ?_⟩
    refine q_forR1 (n := if (if (12 : Int) < (ns.length : Int) then (12 : Int) else (ns.length : Int)) > 1 then (if (12 : Int) < (ns.length : Int) then (12 : Int) else (ns.length : Int)) else 1) ?_ ⟨by split <;> omega, by split <;> (try split) <;> omega⟩ (fun i σ' H' => (∃ a1 a2 a3 a4 a5 a6 a7 a8 a9, σ' = [some (.ref a), a1, a2, a3, a4, a5, a6, a7, a8, a9]) ∧ SqL K H' a (ns.map V.int))
      (fun H2 e2 => ⟨⟨none, none, none, none, none, none, none, none, none, rfl⟩, ex_l e2 hS⟩) (fun i σ' H0 hi hv => ?_) (fun σ' H' hv => ?_)
    · refine fun H2 e2 Q2 q2 => ?_
      refine ⟨_, rfl, a, _, rfl, .inl (ex_l e2 hS), _, _, rfl, _, _, rfl, ?_⟩
      rw [List.length_map]
      exact q2 _ (Ex.refl _)
    · obtain ⟨⟨a1, a2, a3, a4, a5, a6, a7, a8, a9, rfl⟩, hS2⟩ := hv
      have hi2 : (i : Int) ≤ 1000 := by
        revert hi
        split <;> (try split) <;> omega
      refine ⟨_, rfl, _, rfl, a, ns, _, rfl, hS2, by omega, hi2, fun p H2 np x2 hP => ?_⟩
      refine g_name ?_
      dsimp only
      refine ⟨_, rfl, p, 0, rfl, hP, by omega, fun g H3 t r m ng x3 hP3 hm hW ok => ?_⟩
      refine g_name ?_
      dsimp only
      have hrl := ok.len
      refine q_asgW (ts := (t :: r).map (mulT (10 ^ 57))) (ew_lcV (K := K) (f := mulT (10 ^ 57)) (ev_var rfl) hW (by simp; omega) (fun x y => rfl) (fun q H11 hq e11 => eu_tup (ea_cons (ev_op (ev_var rfl) (ev_op ev_c ev_c (rv_I ⟨by decide, by decide, by decide⟩)) (rv_I (.inl (small_t ok hq)))) (ea_cons (ev_var rfl) ea_nil)) (by simp [t2]))) fun g2 H4 ng2 e4 hW4 => ?_
      have hW4' := hW.ex e4
      have wv := isWv_mul ok (g := 1) (by decide) (by decide)
      have wv2 := isWv_mul ok (g := 10 ^ 57) (by decide) (by decide)
      rw [mul_one_T] at wv
      have sml : ∀ {g : Int}, ∀ ds, PyData.list (((t :: r).map (mulT g)).map stD) = .list ds → ds.length ≤ 1000 ∧ ∀ x ∈ ds, smallD x := fun {g} ds hds => by
        cases hds
        refine ⟨by simp; omega, fun x hx => ?_⟩
        obtain ⟨y, hy, rfl⟩ := List.mem_map.mp hx
        obtain ⟨z, hz, rfl⟩ := List.mem_map.mp hy
        have := (ok.val z hz).2.2.2
        show (Tx z.2).cps.size ≤ 10000
        simp [Tx]
        omega
      have sml1 : ∀ ds, PyData.list ((t :: r).map stD) = .list ds → ds.length ≤ 1000 ∧ ∀ x ∈ ds, smallD x := by
        have := sml (g := 1)
        rw [mul_one_T] at this
        exact this
      obtain ⟨rs, hal, hst⟩ := hW4'
      refine q_when (b := false) (et_is (et_or (et_test (ev_op (ev_callL1 (xs := rs.map V.ref) (el_list (K := K) (ev_var rfl) (sq_of hal)) (fun p1 H5 h5 e5 H6 e6 Q6 q6 E6 => ⟨.ref p1, _, true, rfl, Dt.lst (e6 _ _ h5) ((hst.ex (e5.trans e6)).dt), wv, sml1, q6⟩)) ev_c rv_nb)) fun _ => et_test (ev_op (ev_call (vs := [.ref g2]) (ea_cons (ev_var rfl) ea_nil) (fun H5 e5 Q5 q5 E5 => ⟨.ref g2, _, true, rfl, (hW4.ex e5).dt, wv2, sml, q5⟩)) ev_c rv_nb)) (by simp)) (fun hb => by cases hb) (fun _ H5 e5 => ?_)
      have hW5 : WvAt H5 g (t :: r) := ⟨rs, e5 _ _ hal, hst.ex e5⟩
      have hP5 := hP3.ex (e4.trans e5)
      refine ⟨_, rfl, _, rfl, p, g, m, t, r, rfl, hP5, by omega, hW5, ok, fun gs H6 m6 ds x6 hP6 hm6 hD wb hdl hsm => ?_⟩
      refine g_name ?_
      dsimp only
      have hW6 := hW5.exB hP5 x6
      have hS6 := ex_l (((x3.trans (ExB.of (e4.trans e5))).trans x6).back x2 np) hS2
      obtain ⟨so1, so2, so3⟩ := sh_list hdl hsm
      refine q_asg (v := .str (PyData.shown (.list ds))) (ev_repr (K := K) (ev_var rfl) (fun H7 e7 => (hD.ex e7).dp so1) so1 so2 so3) fun H7 e7 => ?_
      have hD7 := hD.ex e7
      have hW7 := hW6.ex e7
      have hS7 := ex_l e7 hS6
      refine q_when (b := false) (et_is (et_or (et_test (ev_op (ev_call (vs := [.ref gs]) (ea_cons (ev_var rfl) ea_nil) (fun H8 e8 Q8 q8 E8 => ⟨.ref gs, _, false, rfl, hD7.ex e8, wb, fun ds2 hds => ?_, q8⟩)) ev_c rv_nb)) fun _ => et_test (ev_op (ev_repr (K := K) (ev_var rfl) (fun H8 e8 => (hD7.ex e8).dp so1) so1 so2 so3) (ev_var rfl) (rv_ne rfl))) (by simp)) (fun hb => by cases hb) (fun _ H8 e8 => ?_)
      · cases hds
        exact ⟨by omega, fun x hx => (hsm x hx).s⟩
      have hW8 := hW7.ex e8
      have hS8 := ex_l e8 hS7
      obtain ⟨rs8, hal8, hst8⟩ := hW8
      have hdw : EvD (tVar 3) [some (.ref a), some (.int (i : Int)), some (.ref p), some (.ref g), some (.ref g2), some (.ref gs), some (.str (PyData.shown (.list ds))), a7, a8, a9] H8 (.list ((t :: r).map stD)) := ed_v (ev_var rfl) (.lst hal8 hst8.dt)
      refine s_forD (K := K) (ds := [.none, .tuple ((t :: r).map stD), .dict [], sTx [], .list [], .int 0, .tuple [.list ((t :: r).map stD)], .list [.list ((t :: r).map stD)], .dict [], .bool true])
        (el_lstD (da_cons (ed_v ev_c .non) (da_cons (ed_tupOf (K := K) (ev_var rfl) hal8 hst8.dt) (da_cons ed_new (da_cons (ed_tx ec_e) (da_cons (ed_lst da_nil (by simp)) (da_cons (ed_int ev_c) (da_cons (ed_tup (da_cons hdw da_nil) (by simp)) (da_cons (ed_lst (da_cons hdw da_nil) (by simp)) (da_cons (ed_dictOf (K := K) (ev_var rfl) hal8 hst8) (da_cons (ed_v ev_c (.bl true)) da_nil)))))))))) (by simp))
        (fun σ' => ∃ a7, σ' = [some (.ref a), some (.int (i : Int)), some (.ref p), some (.ref g), some (.ref g2), some (.ref gs), some (.str (PyData.shown (.list ds))), a7, a8, a9]) ⟨_, rfl⟩ (fun σ' x d H9 hσ hd hx e9 N hN => ?_) (fun σ' H9 hσ e9 => ?_)
      · obtain ⟨a7, rfl⟩ := hσ
        have nw : IsWv d false ∧ ∀ ds, d = .list ds → ds.length ≤ 1000 ∧ ∀ x ∈ ds, smallD x := by
          simp only [List.mem_cons, List.not_mem_nil, or_false] at hd
          rcases hd with rfl | rfl | rfl | rfl | rfl | rfl | rfl | rfl | rfl | rfl
          · exact ⟨.kind rfl, fun ds h => by cases h⟩
          · exact ⟨.kind rfl, fun ds h => by cases h⟩
          · exact ⟨.kind rfl, fun ds h => by cases h⟩
          · exact ⟨.kind rfl, fun ds h => by cases h⟩
          · exact ⟨.none, fun ds h => by cases h; exact ⟨by simp, fun x hx => by cases hx⟩⟩
          · exact ⟨.kind rfl, fun ds h => by cases h⟩
          · exact ⟨.kind rfl, fun ds h => by cases h⟩
          · exact ⟨.step rfl, fun ds h => by cases h; exact ⟨by simp, fun x hx => by rw [List.mem_singleton.mp hx]; exact True.intro⟩⟩
          · exact ⟨.kind rfl, fun ds h => by cases h⟩
          · exact ⟨.kind rfl, fun ds h => by cases h⟩
        refine s_when (b := false) (et_is (et_test (ev_op (ev_call (vs := [x]) (ea_cons (ev_var rfl) ea_nil) (fun H10 e10 Q10 q10 E10 => ⟨x, d, false, rfl, hx.ex e10, nw.1, nw.2, q10⟩)) ev_c rv_nb)) (by simp)) (fun hb => by cases hb) (fun _ H10 e10 => hN _ _ ⟨_, rfl⟩ e10)
      · obtain ⟨a7, rfl⟩ := hσ
        exact ⟨⟨_, _, _, _, _, _, _, _, _, rfl⟩, ex_l e9 hS8⟩
    · exact s_ret ev_c fun H9 e9 => q H9
end
theorem all_mk {l : PySem.W.OpenLaw} {w : World} {K : PySem.W.Frag} {h : Heap} {mg : Str → Option Value} {fa g0 g1 g2 g3 g4 g5 g6 g7 g8 g9 Dk1 : Addr} {od0 an0 od1 an1 od2 an2 od3 an3 od4 an4 od5 an5 od6 an6 od7 an7 od8 an8 od9 an9 : Option Addr} {sl0 sl1 sl2 sl3 sl4 sl5 sl6 sl7 sl8 sl9 : Array (Option Value)} {oc0 kV0 dc0 pm0 cd0 ct0 oc1 dc1 pm1 cd1 ct1 oc2 kV2 dc2 pm2 cd2 ct2 oc3 kV3 dc3 pm3 cd3 ct3 oc4 kV4 dc4 pm4 cd4 ct4 oc5 kV5 dc5 pm5 cd5 ct5 oc6 kV6 dc6 pm6 cd6 ct6 oc7 kV7 dc7 pm7 cd7 ct7 oc8 kV8 dc8 pm8 cd8 ct8 oc9 kV9 dc9 pm9 cd9 ct9 : Value} {ty0 ty1 ty2 td1_0 : Tok}  (X : K.In h) (G : h.Ns mainGlobals mg) (hfa : mg "law" = some (.ref fa))
    (a0 : PySem.W.nsIn K mainGlobals "is_whole" = some (some (.ref g0)))
    (l0 : K.lookup g0 = some ⟨oc0, od0, .func (PySem.W.fnOf "is_whole" "is_whole" (defArgs s_is_whole) (defBody s_is_whole) (defScope s_is_whole) .none (kV0) dc0 pm0 an0 cd0 ct0), sl0⟩)
    (c0 : PySem.W.codeIn K cd0 "is_whole" = true)
    (k0 : PySem.W.keepIn K (.ref g0) = true)
    (a1 : PySem.W.nsIn K mainGlobals "is_value" = some (some (.ref g1)))
    (l1 : K.lookup g1 = some ⟨oc1, od1, .func (PySem.W.fnOf "is_value" "is_value" (defArgs s_is_value) (defBody s_is_value) (defScope s_is_value) .none (.ref Dk1) dc1 pm1 an1 cd1 ct1), sl1⟩)
    (c1 : PySem.W.codeIn K cd1 "is_value" = true)
    (k1 : PySem.W.keepIn K (.ref g1) = true)
    (d1_0 : PySem.W.nsIn K Dk1 "width" = some (some (.int 0 td1_0)))
    (a2 : PySem.W.nsIn K mainGlobals "is_step" = some (some (.ref g2)))
    (l2 : K.lookup g2 = some ⟨oc2, od2, .func (PySem.W.fnOf "is_step" "is_step" (defArgs s_is_step) (defBody s_is_step) (defScope s_is_step) .none (kV2) dc2 pm2 an2 cd2 ct2), sl2⟩)
    (c2 : PySem.W.codeIn K cd2 "is_step" = true)
    (k2 : PySem.W.keepIn K (.ref g2) = true)
    (a3 : PySem.W.nsIn K mainGlobals "goes_on" = some (some (.ref g3)))
    (l3 : K.lookup g3 = some ⟨oc3, od3, .func (PySem.W.fnOf "goes_on" "goes_on" (defArgs s_goes_on) (defBody s_goes_on) (defScope s_goes_on) .none (kV3) dc3 pm3 an3 cd3 ct3), sl3⟩)
    (c3 : PySem.W.codeIn K cd3 "goes_on" = true)
    (k3 : PySem.W.keepIn K (.ref g3) = true)
    (a4 : PySem.W.nsIn K mainGlobals "is_wave" = some (some (.ref g4)))
    (l4 : K.lookup g4 = some ⟨oc4, od4, .func (PySem.W.fnOf "is_wave" "is_wave" (defArgs s_is_wave) (defBody s_is_wave) (defScope s_is_wave) .none (kV4) dc4 pm4 an4 cd4 ct4), sl4⟩)
    (c4 : PySem.W.codeIn K cd4 "is_wave" = true)
    (k4 : PySem.W.keepIn K (.ref g4) = true)
    (a5 : PySem.W.nsIn K mainGlobals "_law_pot" = some (some (.ref g5)))
    (l5 : K.lookup g5 = some ⟨oc5, od5, .func (PySem.W.fnOf "_law_pot" "_law_pot" (defArgs s__law_pot) (defBody s__law_pot) (defScope s__law_pot) .none (kV5) dc5 pm5 an5 cd5 ct5), sl5⟩)
    (c5 : PySem.W.codeIn K cd5 "_law_pot" = true)
    (k5 : PySem.W.keepIn K (.ref g5) = true)
    (a6 : PySem.W.nsIn K mainGlobals "_law_digit" = some (some (.ref g6)))
    (l6 : K.lookup g6 = some ⟨oc6, od6, .func (PySem.W.fnOf "_law_digit" "_law_digit" (defArgs s__law_digit) (defBody s__law_digit) (defScope s__law_digit) .none (kV6) dc6 pm6 an6 cd6 ct6), sl6⟩)
    (c6 : PySem.W.codeIn K cd6 "_law_digit" = true)
    (k6 : PySem.W.keepIn K (.ref g6) = true)
    (a7 : PySem.W.nsIn K mainGlobals "_law_wave" = some (some (.ref g7)))
    (l7 : K.lookup g7 = some ⟨oc7, od7, .func (PySem.W.fnOf "_law_wave" "_law_wave" (defArgs s__law_wave) (defBody s__law_wave) (defScope s__law_wave) .none (kV7) dc7 pm7 an7 cd7 ct7), sl7⟩)
    (c7 : PySem.W.codeIn K cd7 "_law_wave" = true)
    (k7 : PySem.W.keepIn K (.ref g7) = true)
    (a8 : PySem.W.nsIn K mainGlobals "_law_spoilt" = some (some (.ref g8)))
    (l8 : K.lookup g8 = some ⟨oc8, od8, .func (PySem.W.fnOf "_law_spoilt" "_law_spoilt" (defArgs s__law_spoilt) (defBody s__law_spoilt) (defScope s__law_spoilt) .none (kV8) dc8 pm8 an8 cd8 ct8), sl8⟩)
    (c8 : PySem.W.codeIn K cd8 "_law_spoilt" = true)
    (k8 : PySem.W.keepIn K (.ref g8) = true)
    (a9 : PySem.W.nsIn K mainGlobals "law" = some (some (.ref g9)))
    (l9 : K.lookup g9 = some ⟨oc9, od9, .func (PySem.W.fnOf "law" "law" (defArgs s_law) (defBody s_law) (defScope s_law) .none (kV9) dc9 pm9 an9 cd9 ct9), sl9⟩)
    (c9 : PySem.W.codeIn K cd9 "law" = true)
    (k9 : PySem.W.keepIn K (.ref g9) = true)
    (z0 : PySem.W.nsIn K mainGlobals "all" = some none)
    (z1 : PySem.W.nsIn K mainGlobals "bool" = some none)
    (z2 : PySem.W.nsIn K mainGlobals "dict" = some none)
    (z3 : PySem.W.nsIn K mainGlobals "int" = some none)
    (z4 : PySem.W.nsIn K mainGlobals "isinstance" = some none)
    (z5 : PySem.W.nsIn K mainGlobals "len" = some none)
    (z6 : PySem.W.nsIn K mainGlobals "list" = some none)
    (z7 : PySem.W.nsIn K mainGlobals "max" = some none)
    (z8 : PySem.W.nsIn K mainGlobals "min" = some none)
    (z9 : PySem.W.nsIn K mainGlobals "range" = some none)
    (z10 : PySem.W.nsIn K mainGlobals "repr" = some none)
    (z11 : PySem.W.nsIn K mainGlobals "str" = some none)
    (z12 : PySem.W.nsIn K mainGlobals "tuple" = some none)
    (z13 : PySem.W.nsIn K mainGlobals "zip" = some none)
    (y0 : PySem.W.nsIn K mainGlobals "SIGNS" = some (some (.str (Str.ofString "01xz") ty0)))
    (y1 : PySem.W.nsIn K mainGlobals "TOO_LATE" = some (some (.int (10 ^ 60) ty1)))
    (y2 : PySem.W.nsIn K mainGlobals "WIDEST" = some (some (.int 8 ty2)))
    : ∃ fd : FuncData, (∀ (s : Shared) (v : Value), BindsTo s fd ⟨[v], []⟩ [("_law_script", v)]) ∧ ∀ base : Heap, K.In base → base.Ns mainGlobals mg → FnG l.prog w K mg base CX0 4 fa fd ["_law_script"] (spLaw K) := by
  have e := hfa.symm.trans (PySem.W.mg_of X G a9)
  cases e
  have B : Bi K w mg  := ⟨PySem.W.mg_none_of X G z0, PySem.W.mg_none_of X G z1, PySem.W.mg_none_of X G z2, PySem.W.mg_none_of X G z3, PySem.W.mg_none_of X G z4, PySem.W.mg_none_of X G z5, PySem.W.mg_none_of X G z6, PySem.W.mg_none_of X G z7, PySem.W.mg_none_of X G z8, PySem.W.mg_none_of X G z9, PySem.W.mg_none_of X G z10, PySem.W.mg_none_of X G z11, PySem.W.mg_none_of X G z12, PySem.W.mg_none_of X G z13, ⟨_, PySem.W.mg_of X G y0, _, rfl⟩, ⟨_, PySem.W.mg_of X G y1, _, rfl⟩, ⟨_, PySem.W.mg_of X G y2, _, rfl⟩⟩
  have F0 := fun_mk (st := s_is_whole) l0 c0 k0
  have b0 := F0.binds (ps := ["thing"]) fun _ _ _ _ _ _ us hl => match us, hl with | [_], _ => rfl
  have F1 : FunD K "is_value" "is_value" (defArgs s_is_value) (defBody s_is_value) (defScope s_is_value) [] [("width", .int 0)] g1 (PySem.W.fnOf "is_value" "is_value" (defArgs s_is_value) (defBody s_is_value) (defScope s_is_value) .none (.ref Dk1) dc1 pm1 an1 cd1 ct1) := ⟨⟨_, _, _, _, _, _, _, _, _, _, rfl, l1, c1, .inl ⟨rfl, rfl⟩, .inr ⟨Dk1, rfl, fun q hq => by
    simp only [List.mem_cons, List.not_mem_nil, or_false] at hq
    rcases hq with rfl
    · exact ⟨_, d1_0, _, rfl⟩
    ⟩⟩, k1⟩
  obtain ⟨ds1, v1_0, b1_0⟩ := F1.binds0 (ps := ["thing", "width"]) 1 (by decide) rfl fun D doc pm an cdv ct us ks hu hk => match us, ks, hu, hk with | [_], [_], _, _ => ⟨_, _, _, _, _, _, rfl, rfl, rfl⟩
  have F2 := fun_mk (st := s_is_step) l2 c2 k2
  have b2 := F2.binds (ps := ["thing"]) fun _ _ _ _ _ _ us hl => match us, hl with | [_], _ => rfl
  have F3 := fun_mk (st := s_goes_on) l3 c3 k3
  have b3 := F3.binds (ps := ["ahead", "step"]) fun _ _ _ _ _ _ us hl => match us, hl with | [_, _], _ => rfl
  have F4 := fun_mk (st := s_is_wave) l4 c4 k4
  have b4 := F4.binds (ps := ["thing"]) fun _ _ _ _ _ _ us hl => match us, hl with | [_], _ => rfl
  have F5 := fun_mk (st := s__law_pot) l5 c5 k5
  have b5 := F5.binds (ps := ["_law_script", "_law_k"]) fun _ _ _ _ _ _ us hl => match us, hl with | [_, _], _ => rfl
  have F6 := fun_mk (st := s__law_digit) l6 c6 k6
  have b6 := F6.binds (ps := ["_law_pot_here", "_law_many"]) fun _ _ _ _ _ _ us hl => match us, hl with | [_, _], _ => rfl
  have F7 := fun_mk (st := s__law_wave) l7 c7 k7
  have b7 := F7.binds (ps := ["_law_pot_here"]) fun _ _ _ _ _ _ us hl => match us, hl with | [_], _ => rfl
  have F8 := fun_mk (st := s__law_spoilt) l8 c8 k8
  have b8 := F8.binds (ps := ["_law_pot_here", "_law_wave_here"]) fun _ _ _ _ _ _ us hl => match us, hl with | [_, _], _ => rfl
  have F9 := fun_mk (st := s_law) l9 c9 k9
  refine ⟨PySem.W.fnOf "law" "law" (defArgs s_law) (defBody s_law) (defScope s_law) .none kV9 dc9 pm9 an9 cd9 ct9, fun s v => .of_eq rfl, fun base _ _ => ?_⟩
  have E0 : Df l.prog w K mg base CX0 "is_whole" 1 g0 _ ["thing"] (spWholeD) := ⟨ok_is_whole F0 B  , PySem.W.mg_of X G a0, k0, b0⟩
  have E1 : DfD l.prog w K mg base CX0 "is_value" 1 g1 _ ["thing", "width"] (spValueD) := ⟨ok_is_value F1 B  , PySem.W.mg_of X G a1, k1⟩
  have E2 : Df l.prog w K mg base CX0 "is_step" 2 g2 _ ["thing"] (spStepD) := ⟨ok_is_step F2 B  E0 E1 b1_0 v1_0, PySem.W.mg_of X G a2, k2, b2⟩
  have E3 : Df l.prog w K mg base CX0 "goes_on" 1 g3 _ ["ahead", "step"] (spGoesD) := ⟨ok_goes_on F3 B  , PySem.W.mg_of X G a3, k3, b3⟩
  have E4 : Df l.prog w K mg base CX0 "is_wave" 3 g4 _ ["thing"] (spIsWaveD) := ⟨ok_is_wave F4 B  E2 E3, PySem.W.mg_of X G a4, k4, b4⟩
  have E5 : Df l.prog w K mg base CX0 "_law_pot" 1 g5 _ ["_law_script", "_law_k"] (spPotN K) := ⟨ok__law_pot F5 B  , PySem.W.mg_of X G a5, k5, b5⟩
  have E6 : Df l.prog w K mg base CX0 "_law_digit" 1 g6 _ ["_law_pot_here", "_law_many"] (spDig) := ⟨ok__law_digit F6 B  , PySem.W.mg_of X G a6, k6, b6⟩
  have E7 : Df l.prog w K mg base CX0 "_law_wave" 2 g7 _ ["_law_pot_here"] (spWaveW) := ⟨ok__law_wave F7 B  E6, PySem.W.mg_of X G a7, k7, b7⟩
  have E8 : Df l.prog w K mg base CX0 "_law_spoilt" 2 g8 _ ["_law_pot_here", "_law_wave_here"] (spSpoilt) := ⟨ok__law_spoilt F8 B  E6, PySem.W.mg_of X G a8, k8, b8⟩
  exact ok_law F9 B  E5 E6 E7 E8 E4
end Dw
open PySem PySem.W PyProof.Rows
set_option maxHeartbeats 0 in
theorem PySem.Challenge.cw_deltawires_k81_waves_judged_holds : PySem.Challenge.rw_deltawires_k81_waves_judged.Holds := by
  w_on; o_law; k_head; (case hw => w_witness2)
  k_fill
  refine L2.walkg_of (l := PySem.Challenge.rw_deltawires_k81_waves_judged) (n := 63) (k := 4) (x := "_law_script") (CX := fun _ => L2.CX0) (sp := fun w => Dw.spLaw _) rfl (by decide) rfl ⟨rfl, by decide, by decide⟩ (fun w h Y => PySem.W.kIn_of Y) ?F (fun _ _ a ns hl hS => ⟨a, ns, rfl, hS, hl, fun _ => rfl⟩) (fun _ _ _ _ _ h => h)
  case F =>
    intro w mg fa h KX G hmg
    refine' Dw.all_mk KX G hmg ?a0 ?l0 ?c0 ?k0 ?a1 ?l1 ?c1 ?k1 ?d1_0 ?a2 ?l2 ?c2 ?k2 ?a3 ?l3 ?c3 ?k3 ?a4 ?l4 ?c4 ?k4 ?a5 ?l5 ?c5 ?k5 ?a6 ?l6 ?c6 ?k6 ?a7 ?l7 ?c7 ?k7 ?a8 ?l8 ?c8 ?k8 ?a9 ?l9 ?c9 ?k9 ?z0 ?z1 ?z2 ?z3 ?z4 ?z5 ?z6 ?z7 ?z8 ?z9 ?z10 ?z11 ?z12 ?z13 ?y0 ?y1 ?y2
    (case a0 => k_is)
    (case l0 => k_is)
    (case c0 => k_is)
    (case k0 => k_is)
    (case a1 => k_is)
    (case l1 => k_is)
    (case c1 => k_is)
    (case k1 => k_is)
    (case d1_0 => k_is)
    (case a2 => k_is)
    (case l2 => k_is)
    (case c2 => k_is)
    (case k2 => k_is)
    (case a3 => k_is)
    (case l3 => k_is)
    (case c3 => k_is)
    (case k3 => k_is)
    (case a4 => k_is)
    (case l4 => k_is)
    (case c4 => k_is)
    (case k4 => k_is)
    (case a5 => k_is)
    (case l5 => k_is)
    (case c5 => k_is)
    (case k5 => k_is)
    (case a6 => k_is)
    (case l6 => k_is)
    (case c6 => k_is)
    (case k6 => k_is)
    (case a7 => k_is)
    (case l7 => k_is)
    (case c7 => k_is)
    (case k7 => k_is)
    (case a8 => k_is)
    (case l8 => k_is)
    (case c8 => k_is)
    (case k8 => k_is)
    (case a9 => k_is)
    (case l9 => k_is)
    (case c9 => k_is)
    (case k9 => k_is)
    (case z0 => k_is)
    (case z1 => k_is)
    (case z2 => k_is)
    (case z3 => k_is)
    (case z4 => k_is)
    (case z5 => k_is)
    (case z6 => k_is)
    (case z7 => k_is)
    (case z8 => k_is)
    (case z9 => k_is)
    (case z10 => k_is)
    (case z11 => k_is)
    (case z12 => k_is)
    (case z13 => k_is)
    (case y0 => k_is)
    (case y1 => k_is)
    (case y2 => k_is)
