import PyProof.Rows.All
import Wide.All
import OpenK.AllK
import Wide.FinOn
import HandS.ForMost
import HandS.ForExc
import HandS.IsInst
import HandS.More
import HandS.Codes
import HandS.Strs
import HandS.SortInts
import PySem.Challenge.RW_markpause_k01_reach
set_option Elab.async false
set_option linter.all false
set_option maxRecDepth 100000
set_option maxHeartbeats 4000000
/-! Rules whose reading names the written part K by a letter of its own (so that they stand in a comprehension too); small facts of heaps. -/
namespace KG
open PySem PySem.Spec PyProof.Rows L2
section
variable {X : Cx} {K : PySem.W.Frag}
theorem ixL (e : X.K = K := by rfl) : IxR X (rIxL K) := by subst e; exact ix_list
theorem ixT (e : X.K = K := by rfl) : IxR X (rIxT K) := by subst e; exact ix_tup
theorem slL (e : X.K = K := by rfl) : SlR X (rSlL K) := by subst e; exact sl_list
def rLenQ (K : PySem.W.Frag) : List V → Hp → VK → Prop := fun xs H Q => ∃ p ys, xs = [.ref p] ∧ (SqL K H p ys ∨ SqT K H p ys) ∧ Q (.int ys.length) H
theorem lenS (e : X.K = K := by rfl) : CallR X (.builtin "len") (rLenQ K) := by subst e; exact call_len_seq
def rListQ (K : PySem.W.Frag) : List V → Hp → VK → Prop := fun xs H Q => ∃ p ys, xs = [.ref p] ∧ (SqL K H p ys ∨ SqT K H p ys) ∧ ∀ l, H l = none → Q (.ref l) (upd H l (.lst ys))
theorem listOf (e : X.K = K := by rfl) : CallR X (.type "list") (rListQ K) := by subst e; exact call_list_of
theorem isiK (e : X.K = K := by rfl) : CallR X (.builtin "isinstance") (rIsi K) := by subst e; exact call_isi
theorem inSeq (e : X.K = K := by rfl) : OpR X (compareOp .In) (rIn K false) := by subst e; exact op_in_seq
theorem notInSeq (e : X.K = K := by rfl) : OpR X (compareOp .NotIn) (rIn K true) := by subst e; exact op_notIn_seq
theorem eqDK (hu : X.A.units + 64 < cLine) (e : X.K = K := by rfl) : OpR X (compareOp .Eq) (rEqD K) := by subst e; exact op_eqD hu
theorem neDK (hu : X.A.units + 64 < cLine) (e : X.K = K := by rfl) : OpR X (compareOp .NotEq) (rNeD K) := by subst e; exact op_neD hu
theorem peFld {e : Expr} {ta : TE} {f : Str} {pos : Pos} (he : PE X e ta) (hb : attributeBase e f X.env (eval e X.env) = eval e X.env) (hK : X.K = K := by rfl) : PE X (.Attribute e f pos) (tFld K ta f) := by
  subst hK
  exact pe_fld he hb
end
theorem same_new {H : Hp} {p : Addr} {o : HO} (h : H p = none) : Same H (upd H p o) := fun b x e => by
  rw [upd_ne (ne_of_none e h)]
  exact e
theorem same_put {H0 H : Hp} {p : Addr} {o : HO} (s : Same H0 H) (h : H0 p = none) : Same H0 (upd H p o) := fun b x e => by
  rw [upd_ne (ne_of_none e h)]
  exact s _ _ e
theorem size2k {n : Nat} (h : n ≤ 4000) : n < sizeLine := Nat.lt_of_le_of_lt h (by decide)
theorem ixN_nat {n j : Nat} (h : j < n) : ixN n (j : Int) = some j := by
  unfold ixN
  rw [if_pos (by omega), if_pos (by omega)]
  simp
/-- a def as it stands: kept promise, name, binding -/
structure Df (P : Program) (w : World) (K : PySem.W.Frag) (mg : Str → Option Value) (base : Heap) (CX : CXT) (lv : Nat) (name : Str) (f : Addr) (fd : FuncData) (ps : List Str) (sp : Sp) : Prop where
  g : FnOk P w K mg base CX lv f fd ps sp
  m : mg name = some (.ref f)
  k : PySem.W.keepIn K (.ref f) = true
  b : Binds K fd ps []
end KG

set_option Elab.async false
set_option linter.all false
set_option maxRecDepth 100000
set_option maxHeartbeats 4000000
/-! sorted(a set of ints), any number of members. -/
namespace KS
open PySem PySem.Spec PyProof.Rows L2
section
variable {P : Program} {w : World} {A : Around} {E : Value → Shared → Prop} {s : Shared} {a : Addr}
theorem sortedSet_any {T : Int → Bool} {m : Nat} {Z : Value → Shared → Prop} (R : SetR w s.heap a T m) (calm : A.handled = none)
    (hz : ∀ (t : Shared) (d : Addr) (its : Array Value) (e : Nat) (xs : List Int), (∀ b u, s.heap.get? b = some u → t.heap.get? b = some u) → t.gens = s.gens → t.os = s.os →
      s.heap.objs.size ≤ d → t.heap.get? d = some (seqObj "list" its e) → IntsAre its.toList xs → xs.Pairwise (· < ·) → (∀ k, k ∈ xs ↔ T k = true) → xs.length = m → Z (.ref d) t) :
    wpAny (model P w) A (call (.builtin "sorted") [.ref a]) Z E s := by
  obtain ⟨ob, en, ep, tb, hob, hex, hdat, good, nodup, mem, few, fits, cnt, ris, led⟩ := R
  refine Calls.call_function_entry kind_sorted plain_sorted entry_sorted (args_sorted1 _) ?go
  unfold Builtin.«sorted»
  refine wpAny_bind (m := checkCount "sorted" 1 1 _) (wpAny_pure ?go2)
  refine wpAny_bind (collect_set (A := A.in1) calm ⟨ob, hob, hex.1, hdat⟩ fits few ris led fun s1 us old big g1 o1 pm => ?go3)
  have lenU : us.length = en.size := by rw [pm.length_eq, List.length_map, Array.length_toList]
  have lenS : us.length ≤ sizeLine := by rw [lenU]; exact fits_of_scanBound few
  have hInts : IntsAre us (us.map Builtin.Re.reRawOf) := ints_of us fun v hv => by
    obtain ⟨x, hx, q⟩ := List.mem_map.mp (pm.mem_iff.mp hv)
    obtain ⟨k, tk, h1, _⟩ := good x hx
    exact ⟨k, tk, q.symm.trans h1⟩
  have keys : (us.map Builtin.Re.reRawOf).Perm (en.toList.map keyOf) := by
    have q := pm.map Builtin.Re.reRawOf
    rw [List.map_map] at q
    exact q
  refine wpAny_bind (wpAny_newList ?go4 lenS)
  have hL : (s1.heap.push (seqObj "list" us.toArray 0)).get? s1.heap.objs.size = some (seqObj "list" us.toArray 0) := Heap.get?_push_size _ rfl
  refine wpAny_bind (wpAny_holding (wpAny_call_entry slot_list_sort ⟨_, hL, rfl⟩ entry_list_sort
    (SrtO.list_sort_ord SrtO.swo_int hL lenS (fun h2 => SrtO.ints_sortable hInts h2) fun out h1 h2 => ⟨_, rfl, ?go5⟩) (args_list_sort _)))
  obtain ⟨k1, k2, k3⟩ := SrtO.ints_out hInts h1 h2
  obtain ⟨c, hc⟩ := sortedHeap_at (vs := us) (out := out.toArray) hL
  have pn := k2.trans keys
  refine wpAny_pure ⟨_, rfl, hz _ s1.heap.objs.size out.toArray c (out.map SrtO.iv) (fun b u e => ?old) g1 o1 big hc k1 (lt_of_le_nodup _ k3 (pn.nodup_iff.mpr nodup)) (fun k => pn.mem_iff.trans (mem k).symm) ?len⟩
  case old =>
    have q := old b u e
    have hlt := Heap.lt_size q
    refine (sortedHeap_old (Nat.ne_of_lt hlt) ?_).trans (Heap.get?_push_of_some _ q)
    rw [size_push']
    exact Nat.lt_succ_of_lt hlt
  case len =>
    rw [pn.length_eq, List.length_map, Array.length_toList]
    exact cnt
end
/-- sorted(found) -/
def rSortedAny (w : World) : List V → Hp → VK → Prop := fun vs H Q => ∃ (a : Addr) (T : Int → Bool) (m : Nat), vs = [V.ref a] ∧ H a = some (SetO w a T m) ∧
  ∀ (xs : List Int) (p : Addr), xs.Pairwise (· < ·) → (∀ k : Int, k ∈ xs ↔ T k = true) → xs.length = m → H p = none → Q (.ref p) (upd H p (.lst (xs.map V.int)))
theorem cr_sortedAny {X : Cx} (calm : X.calm = true) : CallR X (.builtin "sorted") (rSortedAny X.w) := by
  intro pins s σ H vs us Q I r h
  obtain ⟨a, T, m, rfl, ha, q⟩ := h
  rw [Vals.ref1 r]
  have R := setO_get I ha
  have few : m ≤ sizeLine := by
    obtain ⟨_, en, _, _, _, _, _, _, _, _, few, _, cnt, _⟩ := R
    rw [← cnt]
    exact fits_of_scanBound few
  refine sortedSet_any R (I.ok.hd calm) fun t p its e xs old gn os big hat hi hr hm hl => ?_
  have free : H p = none := I.hok.fresh big
  have J : Inv X pins σ (upd H p (.lst (xs.map V.int))) { s with heap := t.heap, gens := t.gens, drawn := t.drawn, toks := t.toks } :=
    I.call (ch := []) (Un.laid old big free) (I.hok.laid old big ⟨by rw [List.length_map, hl]; exact few, its.toList, e, vals_of_ints hi, hat⟩) (by rw [gn]; exact I.bare) (fun _ z => nomatch z)
  have same : t = { s with heap := t.heap, gens := t.gens, drawn := t.drawn, toks := t.toks } := by
    cases t
    cases s
    cases os
    rfl
  rw [same]
  exact ⟨.ref p, _, J, rfl, q xs p hr hm hl free⟩
end KS

set_option linter.all false
/-! The mathematics of «what can be come to»: no Python here. -/
namespace KM
abbrev RowsT := List (List (Option Nat))

inductive Rch (rows : RowsT) (starts : List Nat) : Nat → Prop
  | start {k : Nat} (h : k ∈ starts) : Rch rows starts k
  | step {k j : Nat} {row : List (Option Nat)} (h : Rch rows starts k) (hr : rows[k]? = some row) (hj : some j ∈ row) : Rch rows starts j

/-- every place that is named stands in the rows -/
structure Fine (rows : RowsT) (starts : List Nat) : Prop where
  st : ∀ k ∈ starts, k < rows.length
  en : ∀ (row : List (Option Nat)), row ∈ rows → ∀ j : Nat, some j ∈ row → j < rows.length
  four : ∀ (row : List (Option Nat)), row ∈ rows → row.length ≤ 4
  three : starts.length ≤ 3

theorem Fine.rch {rows : RowsT} {starts : List Nat} (F : Fine rows starts) {k : Nat} (h : Rch rows starts k) : k < rows.length := by
  cases h with
  | start h => exact F.st _ h
  | step h hr hj => exact F.en _ (List.mem_of_getElem? hr) _ hj

/-! ### a list without doubles, all below n, has at most n items -/
theorem nodup_below : ∀ (n : Nat) (l : List Nat), l.Nodup → (∀ k ∈ l, k < n) → l.length ≤ n
  | 0, [], _, _ => Nat.le_refl _
  | 0, a :: l, _, h => absurd (h a List.mem_cons_self) (Nat.not_lt_zero _)
  | n + 1, l, nd, h => by
    by_cases hm : n ∈ l
    · have h1 : (l.erase n).length ≤ n := nodup_below n (l.erase n) (nd.erase n) fun k hk => by
        have a := h k (List.mem_of_mem_erase hk)
        have b : k ≠ n := (List.Nodup.mem_erase_iff nd).mp hk |>.1
        omega
      have h2 := List.length_erase_of_mem hm
      omega
    · have h1 : l.length ≤ n := nodup_below n l nd fun k hk => by
        have a := h k hk
        have b : k ≠ n := fun e => hm (e ▸ hk)
        omega
      omega

/-! ### two rising lists of the same members are one -/
theorem rising_one : ∀ (l m : List Int), l.Pairwise (· < ·) → m.Pairwise (· < ·) → (∀ k, k ∈ l ↔ k ∈ m) → l = m
  | [], [], _, _, _ => rfl
  | [], b :: m, _, _, h => absurd ((h b).mpr List.mem_cons_self) (by simp)
  | a :: l, [], _, _, h => absurd ((h a).mp List.mem_cons_self) (by simp)
  | a :: l, b :: m, hl, hm, h => by
    obtain ⟨h1, h2⟩ := List.pairwise_cons.mp hl
    obtain ⟨h3, h4⟩ := List.pairwise_cons.mp hm
    have e : a = b := by
      rcases List.mem_cons.mp ((h a).mp List.mem_cons_self) with e | e
      · exact e
      · rcases List.mem_cons.mp ((h b).mpr List.mem_cons_self) with e2 | e2
        · exact e2.symm
        · have x := h1 b e2
          have y := h3 a e
          omega
    subst e
    have e2 : l = m := rising_one l m h2 h4 fun k => by
      have q := h k
      rw [List.mem_cons, List.mem_cons] at q
      constructor
      · intro hk
        rcases q.mp (.inr hk) with z | z
        · have := h1 k hk
          omega
        · exact z
      · intro hk
        rcases q.mpr (.inr hk) with z | z
        · have := h3 k hk
          omega
        · exact z
    rw [e2]

open Classical in
/-- the places that can be come to, rising -/
noncomputable def rchL (rows : RowsT) (starts : List Nat) : List Nat := (List.range rows.length).filter fun k => decide (Rch rows starts k)
noncomputable def rchI (rows : RowsT) (starts : List Nat) : List Int := (rchL rows starts).map Int.ofNat
open Classical in
theorem mem_rchI {rows : RowsT} {starts : List Nat} (F : Fine rows starts) {k : Int} : k ∈ rchI rows starts ↔ ∃ j : Nat, k = (j : Int) ∧ Rch rows starts j := by
  unfold rchI rchL
  rw [List.mem_map]
  constructor
  · rintro ⟨j, hj, rfl⟩
    rw [List.mem_filter, decide_eq_true_eq] at hj
    exact ⟨j, rfl, hj.2⟩
  · rintro ⟨j, rfl, hj⟩
    exact ⟨j, by rw [List.mem_filter, decide_eq_true_eq]; exact ⟨List.mem_range.mpr (F.rch hj), hj⟩, rfl⟩
theorem rising_map {l : List Nat} (h : l.Pairwise (· < ·)) : (l.map Int.ofNat).Pairwise (· < ·) :=
  List.pairwise_map.mpr (h.imp fun {a b} h => Int.ofNat_lt.mpr h)
theorem rchI_rising (rows : RowsT) (starts : List Nat) : (rchI rows starts).Pairwise (· < ·) :=
  rising_map (List.Pairwise.filter _ List.pairwise_lt_range)
theorem rchI_len {rows : RowsT} {starts : List Nat} : (rchI rows starts).length ≤ rows.length := by
  unfold rchI rchL
  rw [List.length_map]
  exact Nat.le_trans (List.length_filter_le _ _) (by rw [List.length_range]; exact Nat.le_refl _)
/-- a rising list that has just the places that can be come to -/
theorem is_rchI {rows : RowsT} {starts : List Nat} (F : Fine rows starts) {l : List Int} (r : l.Pairwise (· < ·)) (h : ∀ k : Int, k ∈ l ↔ ∃ j : Nat, k = (j : Int) ∧ Rch rows starts j) : l = rchI rows starts :=
  rising_one _ _ r (rchI_rising rows starts) fun k => (h k).trans (mem_rchI F).symm
open Classical in
/-- by a test that is so just at these -/
theorem is_rchI_test {rows : RowsT} {starts : List Nat} (f : Nat → Bool) (h : ∀ k, k < rows.length → (f k = true ↔ Rch rows starts k)) : ((List.range rows.length).filter f).map Int.ofNat = rchI rows starts := by
  unfold rchI rchL
  congr 1
  refine List.filter_congr fun k hk => ?_
  have q := h k (List.mem_range.mp hk)
  by_cases e : Rch rows starts k
  · rw [q.mpr e, decide_eq_true e]
  · rw [decide_eq_false e]
    cases z : f k with
    | false => rfl
    | true => exact absurd (q.mp z) e

/-! ### by a pile of places that wait -/
structure Go (rows : RowsT) (starts L W : List Nat) : Prop where
  nd : L.Nodup
  sl : ∀ k ∈ L, Rch rows starts k
  sw : ∀ k ∈ W, Rch rows starts k
  st : ∀ k ∈ starts, k ∈ L ∨ k ∈ W
  cl : ∀ k ∈ L, ∀ (row : List (Option Nat)), rows[k]? = some row → ∀ j : Nat, some j ∈ row → j ∈ L ∨ j ∈ W
  len : W.length ≤ 3 + 4 * L.length
theorem Go.start {rows : RowsT} {starts : List Nat} (F : Fine rows starts) : Go rows starts [] starts :=
  ⟨List.nodup_nil, fun _ h => absurd h (by simp), fun _ h => .start h, fun _ h => .inr h, fun _ h => absurd h (by simp), by have := F.three; simp; omega⟩
theorem Go.small {rows : RowsT} {starts L W : List Nat} (F : Fine rows starts) (G : Go rows starts L W) : L.length ≤ rows.length :=
  nodup_below _ _ G.nd fun k hk => F.rch (G.sl k hk)
theorem Go.done {rows : RowsT} {starts L : List Nat} (G : Go rows starts L []) (k : Nat) : k ∈ L ↔ Rch rows starts k := by
  refine ⟨G.sl k, fun h => ?_⟩
  induction h with
  | start h => exact (G.st _ h).resolve_right (by simp)
  | step h hr hj ih => exact (G.cl _ ih _ hr _ hj).resolve_right (by simp)
theorem Go.old {rows : RowsT} {starts L W : List Nat} {p : Nat} (G : Go rows starts L (W ++ [p])) (hp : p ∈ L) : Go rows starts L W := by
  have fix : ∀ k, k ∈ L ∨ k ∈ W ++ [p] → k ∈ L ∨ k ∈ W := fun k h => by
    rcases h with h | h
    · exact .inl h
    · rcases List.mem_append.mp h with h | h
      · exact .inr h
      · rw [List.mem_singleton] at h
        exact .inl (h ▸ hp)
  have := G.len
  rw [List.length_append, List.length_singleton] at this
  exact ⟨G.nd, G.sl, fun k h => G.sw k (List.mem_append_left _ h), fun k h => fix k (G.st k h), fun k h row hr j hj => fix j (G.cl k h row hr j hj), by omega⟩
theorem some_of {row : List (Option Nat)} {j : Nat} : j ∈ row.filterMap id ↔ some j ∈ row := by
  simp [List.mem_filterMap]
theorem Go.new {rows : RowsT} {starts L W : List Nat} {p : Nat} {row : List (Option Nat)} (F : Fine rows starts) (G : Go rows starts L (W ++ [p])) (hp : p ∉ L) (hr : rows[p]? = some row) : Go rows starts (L ++ [p]) (W ++ row.filterMap id) := by
  have rp : Rch rows starts p := G.sw p (List.mem_append_right _ (List.mem_singleton.mpr rfl))
  have fix : ∀ k, k ∈ L ∨ k ∈ W ++ [p] → k ∈ L ++ [p] ∨ k ∈ W ++ row.filterMap id := fun k h => by
    rcases h with h | h
    · exact .inl (List.mem_append_left _ h)
    · rcases List.mem_append.mp h with h | h
      · exact .inr (List.mem_append_left _ h)
      · exact .inl (List.mem_append_right _ h)
  refine ⟨?_, fun k h => ?_, fun k h => ?_, fun k h => fix k (G.st k h), fun k h row' hr' j hj => ?_, ?_⟩
  · rw [List.nodup_append]
    refine ⟨G.nd, by simp, fun a ha b hb e => ?_⟩
    rw [List.mem_singleton] at hb
    exact hp (by rw [← hb, ← e]; exact ha)
  · rcases List.mem_append.mp h with h | h
    · exact G.sl k h
    · rw [List.mem_singleton] at h
      exact h ▸ rp
  · rcases List.mem_append.mp h with h | h
    · exact G.sw k (List.mem_append_left _ h)
    · exact .step rp hr (some_of.mp h)
  · rcases List.mem_append.mp h with h | h
    · exact fix j (G.cl k h row' hr' j hj)
    · rw [List.mem_singleton] at h
      subst h
      rw [hr] at hr'
      cases hr'
      exact .inr (List.mem_append_right _ (some_of.mpr hj))
  · have h1 := G.len
    have h2 : (row.filterMap id).length ≤ 4 := Nat.le_trans (List.length_filterMap_le _ _) (F.four _ (List.mem_of_getElem? hr))
    rw [List.length_append, List.length_singleton] at h1
    rw [List.length_append, List.length_append, List.length_singleton]
    omega
/-- what falls -/
def goM (n : Nat) (L W : List Nat) : Nat := 5 * (n - L.length) + W.length
theorem goM_old (n : Nat) (L W : List Nat) (p : Nat) : goM n L W < goM n L (W ++ [p]) := by
  unfold goM
  rw [List.length_append, List.length_singleton]
  omega
theorem goM_new {rows : RowsT} {starts L W : List Nat} {p : Nat} {row : List (Option Nat)} (F : Fine rows starts) (G : Go rows starts L (W ++ [p])) (hp : p ∉ L) (hr : rows[p]? = some row) :
    goM rows.length (L ++ [p]) (W ++ row.filterMap id) < goM rows.length L (W ++ [p]) := by
  have h1 := (G.new F hp hr).small F
  have h2 : (row.filterMap id).length ≤ 4 := Nat.le_trans (List.length_filterMap_le _ _) (F.four _ (List.mem_of_getElem? hr))
  unfold goM
  rw [List.length_append, List.length_singleton] at h1
  rw [List.length_append, List.length_append, List.length_append, List.length_singleton]
  omega

/-! ### by going through all rows again and again -/
def nF (B : List Bool) : Nat := B.count false
theorem nF_set : ∀ {B : List Bool} {j : Nat}, B[j]? = some false → nF (B.set j true) < nF B
  | [], j, h => by simp at h
  | b :: B, 0, h => by
    have e : b = false := Option.some.inj h
    subst e
    simp [nF, List.count_cons]
  | b :: B, j + 1, h => by
    have ih := nF_set (B := B) (j := j) h
    unfold nF at ih ⊢
    rw [List.set_cons_succ, List.count_cons, List.count_cons]
    omega
structure Came (rows : RowsT) (starts : List Nat) (B : List Bool) : Prop where
  len : B.length = rows.length
  so : ∀ k : Nat, B[k]? = some true → Rch rows starts k
  st : ∀ k ∈ starts, B[k]? = some true
theorem Came.set {rows : RowsT} {starts : List Nat} {B : List Bool} {k j : Nat} {row : List (Option Nat)} (C : Came rows starts B) (hk : B[k]? = some true) (hr : rows[k]? = some row) (hj : some j ∈ row) : Came rows starts (B.set j true) := by
  refine ⟨by rw [List.length_set]; exact C.len, fun i hi => ?_, fun i hi => ?_⟩
  · by_cases e : j = i
    · subst e
      exact .step (C.so k hk) hr hj
    · rw [List.getElem?_set_ne e] at hi
      exact C.so i hi
  · have q := C.st i hi
    by_cases e : j = i
    · subst e
      rw [List.getElem?_set_self (List.getElem?_eq_some_iff.mp q).1]
    · rw [List.getElem?_set_ne e]
      exact q
/-- all that stands in the i-th row -/
def Cl1 (B : List Bool) (k : Nat) (row : List (Option Nat)) : Prop := B[k]? = some true → ∀ j : Nat, some j ∈ row → B[j]? = some true
/-- within one going: B0 at its beginning, k rows gone through -/
structure Turn (rows : RowsT) (starts : List Nat) (B0 B : List Bool) (fresh : Bool) (k : Nat) : Prop where
  came : Came rows starts B
  le : nF B ≤ nF B0
  yes : fresh = true → nF B < nF B0
  no : fresh = false → ∀ i, i < k → ∀ row, rows[i]? = some row → Cl1 B i row
theorem Turn.begin {rows : RowsT} {starts : List Nat} {B : List Bool} (C : Came rows starts B) : Turn rows starts B B false 0 :=
  ⟨C, Nat.le_refl _, (fun h => nomatch h), fun _ i hi => absurd hi (Nat.not_lt_zero _)⟩
/-- a row is gone through, up to its i-th -/
structure TurnR (rows : RowsT) (starts : List Nat) (B0 B : List Bool) (fresh : Bool) (k : Nat) (row : List (Option Nat)) (i : Nat) : Prop where
  t : Turn rows starts B0 B fresh k
  no : fresh = false → Cl1 B k (row.take i)
theorem TurnR.begin {rows : RowsT} {starts : List Nat} {B0 B : List Bool} {fresh : Bool} {k : Nat} {row : List (Option Nat)} (T : Turn rows starts B0 B fresh k) : TurnR rows starts B0 B fresh k row 0 :=
  ⟨T, fun _ _ j hj => absurd hj (by simp)⟩
theorem TurnR.done {rows : RowsT} {starts : List Nat} {B0 B : List Bool} {fresh : Bool} {k : Nat} {row : List (Option Nat)} (T : TurnR rows starts B0 B fresh k row row.length) (hr : rows[k]? = some row) : Turn rows starts B0 B fresh (k + 1) := by
  refine ⟨T.t.came, T.t.le, T.t.yes, fun hf i hi row' hr' => ?_⟩
  by_cases e : i = k
  · subst e
    rw [hr] at hr'
    cases hr'
    have q := T.no hf
    rw [List.take_length] at q
    exact q
  · exact T.t.no hf i (by omega) row' hr'
/-- nothing new at this one -/
theorem TurnR.same {rows : RowsT} {starts : List Nat} {B0 B : List Bool} {fresh : Bool} {k : Nat} {row : List (Option Nat)} {i : Nat} {o : Option Nat} (T : TurnR rows starts B0 B fresh k row i) (ho : row[i]? = some o)
    (h : B[k]? = some true → ∀ j : Nat, o = some j → B[j]? = some true) : TurnR rows starts B0 B fresh k row (i + 1) := by
  refine ⟨T.t, fun hf hk j hj => ?_⟩
  rw [List.take_add_one, ho] at hj
  rcases List.mem_append.mp hj with hj | hj
  · exact T.no hf hk j hj
  · have e : o = some j := by
      have q : some j = o := by simpa using hj
      exact q.symm
    exact h hk j e
/-- a new one -/
theorem TurnR.new {rows : RowsT} {starts : List Nat} {B0 B : List Bool} {fresh : Bool} {k : Nat} {row : List (Option Nat)} {i j : Nat} (T : TurnR rows starts B0 B fresh k row i) (hr : rows[k]? = some row) (ho : row[i]? = some (some j)) (hk : B[k]? = some true) (hj : B[j]? = some false) :
    TurnR rows starts B0 (B.set j true) true k row (i + 1) := by
  have a := nF_set hj
  have b := T.t.le
  refine ⟨⟨T.t.came.set hk hr (List.mem_of_getElem? ho), by omega, fun _ => by omega, (fun h => nomatch h)⟩, (fun h => nomatch h)⟩
theorem Turn.over {rows : RowsT} {starts : List Nat} {B0 B : List Bool} (T : Turn rows starts B0 B false rows.length) (k : Nat) : B[k]? = some true ↔ Rch rows starts k := by
  refine ⟨T.came.so k, fun h => ?_⟩
  induction h with
  | start h => exact T.came.st _ h
  | @step k j row h hr hj ih => exact T.no rfl _ (List.getElem?_eq_some_iff.mp hr).1 row hr ih j hj
end KM

set_option Elab.async false
set_option linter.all false
set_option maxRecDepth 100000
set_option maxHeartbeats 4000000
namespace K1
open PySem PySem.Spec PyProof.Rows L2 KS KM KG
def topS (i : Nat) : Stmt := PySem.Challenge.pw_markpause_k01_reach.main.body.getD i (.Pass ⟨0, 0, 0, 0⟩)
abbrev sReach : Stmt := topS 1
abbrev sCellAt : Stmt := topS 3
abbrev sWhole : Stmt := topS 4
abbrev sNumbers : Stmt := topS 5
abbrev sRows : Stmt := topS 6
abbrev sCame : Stmt := topS 7
abbrev sLaw : Stmt := topS 8
theorem scReach : FnScope ["rows", "starts", "found", "waiting", "place", "other"] ["rows", "starts"] (defScope sReach) := ⟨rfl, rfl, rfl, by decide +kernel, rfl, by decide +kernel, by decide +kernel⟩
theorem scCellAt : FnScope ["_law_script", "_law_k"] ["_law_script", "_law_k"] (defScope sCellAt) := ⟨rfl, rfl, rfl, by decide +kernel, rfl, by decide +kernel, by decide +kernel⟩
theorem scWhole : FnScope ["_law_found"] ["_law_found"] (defScope sWhole) := ⟨rfl, rfl, rfl, by decide +kernel, rfl, by decide +kernel, by decide +kernel⟩
theorem scNumbers : FnScope ["_law_found", "_law_due", "_law_k"] ["_law_found", "_law_due"] (defScope sNumbers) := ⟨rfl, rfl, rfl, by decide +kernel, rfl, by decide +kernel, by decide +kernel⟩
theorem scRows : FnScope ["_law_script", "_law_size", "_law_rows_here", "_law_k", "_law_cell", "_law_row", "_law_turn"] ["_law_script", "_law_size"] (defScope sRows) := ⟨rfl, rfl, rfl, by decide +kernel, rfl, by decide +kernel, by decide +kernel⟩
theorem scCame : FnScope ["_law_rows_here", "_law_starts", "_law_came_here", "_law_one", "_law_fresh", "_law_k", "_law_row"] ["_law_rows_here", "_law_starts"] (defScope sCame) := ⟨rfl, rfl, rfl, by decide +kernel, rfl, by decide +kernel, by decide +kernel⟩
theorem scLaw : FnScope ["_law_script", "_law_size", "_law_rows_here", "_law_cell", "_law_starts", "_law_handed", "_law_begun", "_law_found", "_law_k", "_law_row"] ["_law_script"] (defScope sLaw) := ⟨rfl, rfl, rfl, by decide +kernel, rfl, by decide +kernel, by decide +kernel⟩
/-! ### data -/
def optV : Option Nat → V
  | none => .non
  | some k => .int (k : Int)
def nV (k : Nat) : V := .int (k : Int)
structure RowsAt (H : Hp) (qs : List Addr) (rows : RowsT) : Prop where
  len : qs.length = rows.length
  at_ : ∀ (i : Nat) (row : List (Option Nat)), rows[i]? = some row → ∃ q, qs[i]? = some q ∧ H q = some (.lst (row.map optV))
theorem RowsAt.same {H H' : Hp} {qs : List Addr} {rows : RowsT} (h : RowsAt H qs rows) (s : Same H H') : RowsAt H' qs rows :=
  ⟨h.len, fun i row e => by
    obtain ⟨q, e1, e2⟩ := h.at_ i row e
    exact ⟨q, e1, s _ _ e2⟩⟩
theorem RowsAt.nil {H : Hp} : RowsAt H [] [] := ⟨rfl, fun i row e => by simp at e⟩
theorem RowsAt.push {H : Hp} {qs : List Addr} {rows : RowsT} {q : Addr} {row : List (Option Nat)} (h : RowsAt H qs rows) (e : H q = some (.lst (row.map optV))) : RowsAt H (qs ++ [q]) (rows ++ [row]) := by
  refine ⟨by rw [List.length_append, List.length_append, h.len]; rfl, fun i r er => ?_⟩
  by_cases hi : i < rows.length
  · rw [List.getElem?_append_left hi] at er
    obtain ⟨p, e1, e2⟩ := h.at_ i r er
    exact ⟨p, by rw [List.getElem?_append_left (by rw [h.len]; exact hi)]; exact e1, e2⟩
  · have hi2 : i = rows.length := by
      have := (List.getElem?_eq_some_iff.mp er).1
      rw [List.length_append, List.length_singleton] at this
      omega
    subst hi2
    rw [List.getElem?_append_right (Nat.le_refl _), Nat.sub_self] at er
    have er' : row = r := Option.some.inj er
    subst er'
    refine ⟨q, ?_, e⟩
    rw [← h.len, List.getElem?_append_right (Nat.le_refl _), Nat.sub_self]
    rfl
theorem RowsAt.upd {H : Hp} {qs : List Addr} {rows : RowsT} {d : Addr} {o : HO} (h : RowsAt H qs rows) (hd : ∀ q ∈ qs, q ≠ d) : RowsAt (L2.upd H d o) qs rows :=
  ⟨h.len, fun i row e => by
    obtain ⟨q, e1, e2⟩ := h.at_ i row e
    exact ⟨q, e1, by rw [upd_ne (hd q (List.mem_of_getElem? e1))]; exact e2⟩⟩
theorem size300 {n : Nat} (h : n ≤ 2000) : n < sizeLine := Nat.lt_of_le_of_lt h (by decide)
section
variable {P : Program} {w : World} {K : PySem.W.Frag} {mg : Str → Option Value} {base : Heap}
/-! ### _law_cell_at -/
theorem ok_cell {f : Addr} {fd : FuncData} (F : Fun K "_law_cell_at" "_law_cell_at" sCellAt f fd) (m_len : mg "len" = none) : FnOk P w K mg base CX0 1 f fd ["_law_script", "_law_k"] (spCell K) := by
  refine F.ok scCellAt (fun vs H Q E h => ?_) (fun cdv A outer s H vs Q E hr h => ?_)
  · obtain ⟨l, ns, j, rfl, _⟩ := h
    rfl
  · obtain ⟨l, ns, j, rfl, hS, q⟩ := h
    refine ⟨_, (pss_cons (ps_if (pt_cmpR op_lt (pv 1) (pe_callB (lenS (K := K)) (by rfl) m_len (by decide +kernel) (pa_cons (pv 0) pa_nil)) (nomark _)) (pss_one (ps_ret (pe_ix (ixL (K := K)) (pv 0) (pv 1) (fun _ _ => rfl)))) pss_nil)
      (pss_one (ps_ret pe_int))), ?_⟩
    refine ⟨_, rfl, _, rfl, l, _, rfl, .inl hS, _, _, rfl, rfl, _, rfl, ite2 (fun e => ?_) (fun e => ?_)⟩
    · have e1 := of_decide_eq_true e
      rw [List.length_map] at e1
      exact ⟨_, rfl, _, rfl, l, _, _, _, rfl, rfl, hS, atI_cell (by omega), q⟩
    · have e2 : cellOf ns j = 0 := cell_out fun z => e (decide_eq_true (by rw [List.length_map]; omega))
      rw [e2] at q
      exact q
/-! ### _law_whole -/
def spWhole : Sp := fun vs H Q _ => ∃ i, vs = [.int i] ∧ Q (.bl true) H
theorem ok_whole {f : Addr} {fd : FuncData} (F : Fun K "_law_whole" "_law_whole" sWhole f fd) (m_isinstance : mg "isinstance" = none) (m_int : mg "int" = none) (m_bool : mg "bool" = none) : FnOk P w K mg base CX0 1 f fd ["_law_found"] spWhole := by
  refine F.ok scWhole (fun vs H Q E h => ?_) (fun cdv A outer s H vs Q E hr h => ?_)
  · obtain ⟨i, rfl, _⟩ := h
    rfl
  · obtain ⟨i, rfl, q⟩ := h
    refine ⟨_, (pss_one (ps_ret (pe_and (pe_callB (isiK (K := K)) (by rfl) m_isinstance (by decide +kernel) (pa_cons (pv 0) (pa_cons (pe_bltn (v := .ty "int") (by rfl) m_int (by decide +kernel) rfl) pa_nil))) (pe_one (pe_not (pe_callB (isiK (K := K)) (by rfl) m_isinstance (by decide +kernel) (pa_cons (pv 0) (pa_cons (pe_bltn (v := .ty "bool") (by rfl) m_bool (by decide +kernel) rfl) pa_nil)))))))), ?_⟩
    refine ⟨_, rfl, .int i, .ty "int", _, _, true, rfl, .ty _, .base (.int i), kit_ty (by decide +kernel), true, rfl, iteT ?_⟩
    exact ⟨_, rfl, .int i, .ty "bool", _, _, false, rfl, .ty _, .base (.int i), kit_ty (by decide +kernel), false, rfl, q⟩
/-! ### _law_numbers -/
def Plain (xs : List V) : Prop := ∀ x ∈ xs, x = .non ∨ ∃ i, x = .int i
def spNumbers : Sp := fun vs H Q _ => ∃ (a b : Addr) (xs : List V), vs = [.ref a, .ref b] ∧ H a = some (.lst xs) ∧ H b = some (.lst xs) ∧ Plain xs ∧ xs.length ≤ 2000 ∧ Q (.bl true) H
theorem ok_numbers {f fW : Addr} {fd fdW : FuncData} (F : Fun K "_law_numbers" "_law_numbers" sNumbers f fd) (D__law_whole : Df P w K mg base CX0 1 "_law_whole" fW fdW ["_law_found"] spWhole)
    (m_isinstance : mg "isinstance" = none) (m_list : mg "list" = none) (m_len : mg "len" = none) (m_range : mg "range" = none) : FnOk P w K mg base CX0 2 f fd ["_law_found", "_law_due"] spNumbers := by
  refine F.ok scNumbers (fun vs H Q E h => ?_) (fun cdv A outer s H vs Q E hr h => ?_)
  · obtain ⟨a, b, xs, rfl, _⟩ := h
    rfl
  · obtain ⟨a, b, xs, rfl, ha, hb, pl, len, q⟩ := h
    refine ⟨_, (pss_cons (ps_if (PW.pt (pw_or (pt_not (pt_val (pe_callB (isiK (K := K)) (by rfl) m_isinstance (by decide +kernel) (pa_cons (pv 0) (pa_cons (pe_bltn (v := .ty "list") (by rfl) m_list (by decide +kernel) rfl) pa_nil))))) (pw_or1 (pt_cmpR op_ne (pe_callB (lenS (K := K)) (by rfl) m_len (by decide +kernel) (pa_cons (pv 0) pa_nil)) (pe_callB (lenS (K := K)) (by rfl) m_len (by decide +kernel) (pa_cons (pv 1) pa_nil)) (nomark _))))) (pss_one (ps_ret pe_bl)) pss_nil)
      (pss_cons (ps_for PassesOwn.never rfl (pi_range1 (by rfl) m_range (pa_cons (pe_callB (lenS (K := K)) (by rfl) m_len (by decide +kernel) (pa_cons (pv 1) pa_nil)) pa_nil)) (pg_name (i := 2) scNumbers.nd rfl (.inl rfl)) (pss_cons (ps_if (PW.pt (pw_and (pt_cmpR op_isN (pe_ix (ixL (K := K)) (pv 1) (pv 2) (fun _ _ => rfl)) pe_non (nomark _)) (pw_and1 (pt_cmpR op_notN (pe_ix (ixL (K := K)) (pv 0) (pv 2) (fun _ _ => rfl)) pe_non (nomark _))))) (pss_one (ps_ret pe_bl)) pss_nil)
      (pss_one (ps_if (PW.pt (pw_and (pt_cmpR op_notN (pe_ix (ixL (K := K)) (pv 1) (pv 2) (fun _ _ => rfl)) pe_non (nomark _)) (pw_and1 (PW.pt (pw_or (pt_not (pt_val (pe_call D__law_whole.g (hr.mono (by decide)) (by rfl) D__law_whole.m D__law_whole.k D__law_whole.b .nil pass0 (pa_cons (pe_ix (ixL (K := K)) (pv 0) (pv 2) (fun _ _ => rfl)) pa_nil)))) (pw_or1 (pt_cmpR op_ne (pe_ix (ixL (K := K)) (pv 0) (pv 2) (fun _ _ => rfl)) (pe_ix (ixL (K := K)) (pv 1) (pv 2) (fun _ _ => rfl)) (nomark _)))))))) (pss_one (ps_ret pe_bl)) pss_nil))))
      (pss_one (ps_ret pe_bl)))), ?_⟩
    have sa : SqL K H a xs := SqL.of ha
    have sb : SqL K H b xs := SqL.of hb
    refine ⟨_, rfl, .ref a, .ty "list", _, _, true, rfl, .ty _, .base (.lst ha), kit_ty (by decide +kernel), true, rfl, iteF ?_⟩
    refine ⟨_, rfl, a, xs, rfl, .inl sa, _, rfl, b, xs, rfl, .inl sb, rfl, _, rfl, ?_⟩
    rw [decide_eq_true rfl]
    refine iteF ?_
    refine ⟨_, rfl, b, xs, rfl, .inl sb, (xs.length : Int), rfl, by omega, by have := size300 len; unfold sizeLine at this; omega, ?_⟩
    rw [Int.toNat_natCast]
    refine for_range (fun i σ H' => ∃ z, σ = [some (.ref a), some (.ref b), z] ∧ H' = H) ⟨none, rfl, rfl⟩ ?_ ?_
    · rintro i σ H' hi ⟨z, rfl, rfl⟩
      have ex : xs[i]? = some xs[i] := List.getElem?_eq_getElem hi
      have pi := pl _ (List.getElem_mem hi)
      generalize xs[i] = x at ex pi
      have ax : atI xs (0 + (i : Int)) = some x := by
        rw [Int.zero_add]
        exact atI_nat ex
      rcases pi with rfl | ⟨v, rfl⟩
      · refine ⟨_, rfl, _, rfl, b, xs, _, _, rfl, rfl, sb, ax, rfl, _, rfl, iteT ?_⟩
        refine ⟨_, rfl, _, rfl, a, xs, _, _, rfl, rfl, sa, ax, rfl, _, rfl, iteF ?_⟩
        refine ⟨_, rfl, _, rfl, b, xs, _, _, rfl, rfl, sb, ax, rfl, _, rfl, iteF ?_⟩
        exact iteF ⟨_, rfl, rfl⟩
      · refine ⟨_, rfl, _, rfl, b, xs, _, _, rfl, rfl, sb, ax, rfl, _, rfl, iteF (iteF ?_)⟩
        refine ⟨_, rfl, _, rfl, b, xs, _, _, rfl, rfl, sb, ax, rfl, _, rfl, iteT ?_⟩
        refine ⟨_, rfl, _, rfl, a, xs, _, _, rfl, rfl, sa, ax, v, rfl, true, rfl, iteF ?_⟩
        refine ⟨_, rfl, _, rfl, a, xs, _, _, rfl, rfl, sa, ax, _, rfl, _, rfl, b, xs, _, _, rfl, rfl, sb, ax, rfl, _, rfl, ?_⟩
        rw [decide_eq_true rfl]
        exact iteF ⟨_, rfl, rfl⟩
    · rintro σ H' ⟨z, rfl, rfl⟩
      exact q
end
end K1

set_option Elab.async false
set_option linter.all false
set_option maxRecDepth 100000
set_option maxHeartbeats 4000000
namespace K1
open PySem PySem.Spec PyProof.Rows L2 KS KM KG
section
variable {P : Program} {w : World} {K : PySem.W.Frag} {mg : Str → Option Value} {base : Heap}
/-! ### reach -/
noncomputable def spReach (K : PySem.W.Frag) : Sp := fun vs H Q _ => ∃ (a b : Addr) (qs : List Addr) (rows : RowsT) (starts : List Nat), vs = [.ref a, .ref b] ∧ H a = some (.lst (qs.map V.ref)) ∧ RowsAt H qs rows ∧ H b = some (.lst (starts.map nV)) ∧ Fine rows starts ∧ rows.length ≤ 300 ∧
  ∀ H' p, Same H H' → H p = none → H' p = some (.lst ((rchI rows starts).map V.int)) → Q (.ref p) H'
/-- the state of the going -/
structure GoAt (w : World) (H0 H : Hp) (F W : Addr) (L Wl : List Nat) : Prop where
  same : Same H0 H
  f0 : H0 F = none
  w0 : H0 W = none
  set : ∃ T : Int → Bool, H F = some (SetO w F T L.length) ∧ ∀ k : Int, T k = true ↔ ∃ j : Nat, k = (j : Int) ∧ j ∈ L
  wt : H W = some (.lst (Wl.map nV))
  ne : F ≠ W
theorem nV_mem {l : List Nat} {x : V} (h : x ∈ l.map nV) : ∃ k, k ∈ l ∧ x = .int (k : Int) := by
  obtain ⟨k, hk, e⟩ := List.mem_map.mp h
  exact ⟨k, hk, e.symm⟩
theorem ok_reach {f : Addr} {fd : FuncData} (F : Fun K "reach" "reach" sReach f fd) (m_set : mg "set" = none) (m_list : mg "list" = none) (m_sorted : mg "sorted" = none) : FnOk P w K mg base CX0 1 f fd ["rows", "starts"] (spReach K) := by
  refine F.ok scReach (fun vs H Q E h => ?_) (fun cdv A outer s H vs Q E hr h => ?_)
  · obtain ⟨a, b, qs, rows, starts, rfl, _⟩ := h
    rfl
  · obtain ⟨a, b, qs, rows, starts, rfl, ha, hR, hb, fine, n300, q⟩ := h
    refine ⟨_, (pss_cons (ps_set (i := 2) scReach.nd rfl (.inl rfl) (pe_callTy0 cr_set0 (by rfl) m_set (by decide +kernel)))
      (pss_cons (ps_set (i := 3) scReach.nd rfl (.inl rfl) (pe_callTy (listOf (K := K)) (by rfl) m_list (by decide +kernel) (pa_cons (pv 1) pa_nil)))
      (pss_cons (ps_while PassesOwn.never (pt_truth (pv 3) (by intro _; rfl)) (pss_cons (ps_set (i := 4) scReach.nd rfl (.inl rfl) (pe_bm0 PySem.F.plainAttrs_list PySem.F.slot_list_pop PySem.F.type_list_pop mt_pop (pv 3)))
      (pss_one (ps_if (pt_cmpR or_snotin (pv 4) (pv 2) (by rfl)) (pss_cons (ps_expr (pe_sadd (pv 2) (pa_cons (pv 4) pa_nil)))
      (pss_one (ps_for PassesOwn.never rfl (pi_list (pe_ix (ixL (K := K)) (pv 0) (pv 4) (fun _ _ => rfl))) (pg_name (i := 5) scReach.nd rfl (.inl rfl)) (pss_one (ps_if (pt_cmpR op_notN (pv 5) pe_non (nomark _)) (pss_one (ps_expr (pe_bm PySem.F.plainAttrs_list PySem.F.slot_list_append PySem.F.type_list_append mt_append (pv 3) (pa_cons (pv 5) pa_nil)))) pss_nil))))) pss_nil))))
      (pss_one (ps_ret (pe_callB (cr_sortedAny rfl) (by rfl) m_sorted (by decide +kernel) (pa_cons (pv 2) pa_nil))))))), ?_⟩
    -- found = set(); waiting = list(starts)
    refine ⟨rfl, fun sF nF => ?_⟩
    refine ⟨.ref b, rfl, b, starts.map nV, rfl, .inl (SqL.of ((same_new nF) _ _ hb)), fun lW nW => ?_⟩
    have nFW : sF ≠ lW := fun e => by
      rw [← e, upd_same] at nW
      cases nW
    have nW0 : H lW = none := (same_new nF).free nW
    have g0 : GoAt w H (upd (upd H sF (SetO w sF (fun _ => false) 0)) lW (.lst (starts.map nV))) sF lW [] starts :=
      ⟨(same_new nF).trans (same_new nW), nF, nW0, ⟨fun _ => false, by rw [upd_ne nFW, upd_same]; rfl, fun k => by simp⟩, upd_same, nFW⟩
    refine ⟨fun m σ H' => ∃ (L Wl : List Nat) (y4 y5 : Option V), σ = [some (.ref a), some (.ref b), some (.ref sF), some (.ref lW), y4, y5] ∧ GoAt w H H' sF lW L Wl ∧ Go rows starts L Wl ∧ m = goM rows.length L Wl,
      ⟨_, [], starts, none, none, rfl, g0, Go.start fine, rfl⟩, ?_⟩
    rintro m σ H' ⟨L, Wl, y4, y5, rfl, g, G, rfl⟩
    have hw : SqL K H' lW (Wl.map nV) := SqL.of g.wt
    refine ⟨.ref lW, rfl, !(Wl.map nV).isEmpty, .inl ⟨_, hw, rfl⟩, ?_⟩
    by_cases he : Wl = []
    · -- the end
      subst he
      refine iteF ?_
      obtain ⟨T, hT, memT⟩ := g.set
      refine ⟨.ref sF, rfl, sF, T, L.length, rfl, hT, fun xs p rise mem cnt new => ?_⟩
      have ex : xs = rchI rows starts := is_rchI fine rise fun k => by
        rw [mem k, memT k]
        exact ⟨fun ⟨j, e, hj⟩ => ⟨j, e, (G.done j).mp hj⟩, fun ⟨j, e, hj⟩ => ⟨j, e, (G.done j).mpr hj⟩⟩
      rw [ex]
      exact q _ p (g.same.trans (same_new new)) (g.same.free new) upd_same
    · -- a turn
      obtain ⟨Wd, p, rfl⟩ : ∃ Wd p, Wl = Wd ++ [p] := ⟨Wl.dropLast, Wl.getLast he, (List.dropLast_concat_getLast he).symm⟩
      have e1 : (!((Wd ++ [p]).map nV).isEmpty) = true := by simp
      rw [e1]
      refine iteT ?_
      have rp : Rch rows starts p := G.sw p (List.mem_append_right _ (List.mem_singleton.mpr rfl))
      have lp : p < rows.length := fine.rch rp
      obtain ⟨row, hrow⟩ : ∃ row, rows[p]? = some row := ⟨_, List.getElem?_eq_getElem lp⟩
      obtain ⟨q0, hq0, hrow0⟩ := hR.at_ p row hrow
      have four := fine.four row (List.mem_of_getElem? hrow)
      refine ⟨fun σ' H'' => ∃ (L2 W2 : List Nat) (y4 y5 : Option V), σ' = [some (.ref a), some (.ref b), some (.ref sF), some (.ref lW), y4, y5] ∧ GoAt w H H'' sF lW L2 W2 ∧ Go rows starts L2 W2 ∧ goM rows.length L2 W2 < goM rows.length L (Wd ++ [p]), ?_, ?_⟩
      · rintro σ' H'' ⟨L2, W2, z4, z5, e, g2, G2, lt⟩
        exact ⟨_, lt, L2, W2, z4, z5, e, g2, G2, rfl⟩
      -- place = waiting.pop()
      have last : ((Wd ++ [p]).map nV)[((Wd ++ [p]).map nV).length - 1]? = some (nV p) := by simp
      refine ⟨.ref lW, rfl, .inl ⟨rfl, _, hw⟩, lW, _, _, rfl, rfl, g.wt, last, ?_⟩
      have dl : ((Wd ++ [p]).map nV).dropLast = Wd.map nV := by simp
      rw [dl]
      have g1 : GoAt w H (upd H' lW (.lst (Wd.map nV))) sF lW L Wd := by
        obtain ⟨T, hT, memT⟩ := g.set
        exact ⟨same_put g.same g.w0, g.f0, g.w0, ⟨T, by rw [upd_ne g.ne]; exact hT, memT⟩, upd_same, g.ne⟩
      generalize upd H' lW (.lst (Wd.map nV)) = H1 at g1
      obtain ⟨T, hT, memT⟩ := g1.set
      -- if place not in found
      refine ⟨.int (p : Int), rfl, .ref sF, rfl, (p : Int), sF, T, L.length, rfl, rfl, hT, _, rfl, ?_⟩
      have small := G.small fine
      by_cases hp : p ∈ L
      · have tp : T (p : Int) = true := (memT _).mpr ⟨p, rfl, hp⟩
        rw [tp]
        exact iteF ⟨L, Wd, _, y5, rfl, g1, G.old hp, goM_old _ _ _ _⟩
      · have tp : T (p : Int) = false := by
          cases e : T (p : Int) with
          | false => rfl
          | true =>
            obtain ⟨j, ej, hj⟩ := (memT _).mp e
            exact absurd ((Int.ofNat.inj ej) ▸ hj) hp
        rw [tp]
        refine iteT ?_
        -- found.add(place)
        refine ⟨.ref sF, rfl, ⟨sF, T, _, rfl, hT⟩, .int (p : Int), rfl, sF, (p : Int), T, L.length, rfl, rfl, hT, Nat.lt_of_le_of_lt (show L.length + 1 ≤ 301 by omega) (by decide), ?_⟩
        have hrow1 : H1 q0 = some (.lst (row.map optV)) := g1.same _ _ hrow0
        have ha1 : H1 a = some (.lst (qs.map V.ref)) := g1.same _ _ ha
        have g2 : GoAt w H (upd H1 sF (SetO w sF (fun j => T j || decide (j = (p : Int))) (if T (p : Int) = true then L.length else L.length + 1))) sF lW (L ++ [p]) Wd := by
          refine ⟨same_put g1.same g1.f0, g1.f0, g1.w0, ⟨_, by rw [upd_same, tp, List.length_append, List.length_singleton]; rfl, fun k => ?_⟩, by rw [upd_ne g1.ne.symm]; exact g1.wt, g1.ne⟩
          rw [Bool.or_eq_true, decide_eq_true_eq, memT k]
          constructor
          · rintro (⟨j, e, hj⟩ | e)
            · exact ⟨j, e, List.mem_append_left _ hj⟩
            · exact ⟨p, e, List.mem_append_right _ (List.mem_singleton.mpr rfl)⟩
          · rintro ⟨j, e, hj⟩
            rcases List.mem_append.mp hj with hj | hj
            · exact .inl ⟨j, e, hj⟩
            · rw [List.mem_singleton] at hj
              exact .inr (hj ▸ e)
        -- for other in rows[place]
        have ix : atI (qs.map V.ref) (p : Int) = some (.ref q0) := atI_nat (by rw [List.getElem?_map, hq0]; rfl)
        refine ⟨.ref a, rfl, _, rfl, a, _, _, _, rfl, rfl, SqL.of (g2.same _ _ ha), ix, q0, rfl, ⟨_, SqL.of (g2.same _ _ hrow0)⟩, ?_⟩
        have wlen := G.len
        rw [List.length_append, List.length_singleton] at wlen
        refine for_list (K := K) (a := q0) (xs := row.map optV) (fun i σ H3 => ∃ y5, σ = [some (.ref a), some (.ref b), some (.ref sF), some (.ref lW), some (.int (p : Int)), y5] ∧ GoAt w H H3 sF lW (L ++ [p]) (Wd ++ (row.take i).filterMap id))
          ⟨y5, rfl, by rw [List.take_zero, List.filterMap_nil, List.append_nil]; exact g2⟩ (fun i σ H3 _ ⟨_, _, g3⟩ => SqL.of (g3.same _ _ hrow0)) ?_ ?_
        · rintro i x σ H3 hx ⟨z5, rfl, g3⟩
          rw [List.getElem?_map] at hx
          obtain ⟨o, ho, rfl⟩ : ∃ o, row[i]? = some o ∧ x = optV o := by
            cases e : row[i]? with
            | none => rw [e] at hx; cases hx
            | some o => rw [e] at hx; exact ⟨o, rfl, (Option.some.inj hx).symm⟩
          cases o with
          | none =>
            refine ⟨_, rfl, rfl, _, rfl, iteF ⟨_, rfl, ?_⟩⟩
            rw [List.take_add_one, ho, List.filterMap_append]
            simpa using g3
          | some j =>
            refine ⟨_, rfl, rfl, _, rfl, iteT ?_⟩
            have l3 : (Wd ++ (row.take i).filterMap id).length ≤ 1500 := by
              have h1 : ((row.take i).filterMap id).length ≤ row.length := Nat.le_trans (List.length_filterMap_le _ _) (by rw [List.length_take]; exact Nat.min_le_right _ _)
              rw [List.length_append]
              omega
            refine ⟨.ref lW, rfl, .inl ⟨rfl, _, SqL.of g3.wt⟩, _, rfl, lW, _, _, rfl, rfl, g3.wt, size300 (by rw [List.length_map]; omega), ?_⟩
            refine ⟨_, rfl, ?_⟩
            obtain ⟨T3, hT3, m3⟩ := g3.set
            refine ⟨same_put g3.same g3.w0, g3.f0, g3.w0, ⟨T3, by rw [upd_ne g3.ne]; exact hT3, m3⟩, ?_, g3.ne⟩
            rw [upd_same, List.take_add_one, ho, List.filterMap_append]
            simp [nV, optV]
        · rintro σ H3 ⟨z5, rfl, g3⟩
          rw [List.length_map, List.take_length] at g3
          exact ⟨_, _, _, z5, rfl, g3, G.new fine hp hrow, goM_new fine G hp hrow⟩
end
end K1

set_option Elab.async false
set_option linter.all false
set_option maxRecDepth 100000
set_option maxHeartbeats 4000000
namespace K1
open PySem PySem.Spec PyProof.Rows L2 KS KM KG
section
variable {P : Program} {w : World} {K : PySem.W.Frag} {mg : Str → Option Value} {base : Heap}
/-! ### _law_came -/
noncomputable def spCame (K : PySem.W.Frag) : Sp := fun vs H Q _ => ∃ (a b : Addr) (qs : List Addr) (rows : RowsT) (starts : List Nat), vs = [.ref a, .ref b] ∧ H a = some (.lst (qs.map V.ref)) ∧ RowsAt H qs rows ∧ H b = some (.lst (starts.map nV)) ∧ Fine rows starts ∧ rows.length ≤ 300 ∧
  ∀ H' p, Same H H' → H p = none → H' p = some (.lst ((rchI rows starts).map V.int)) → Q (.ref p) H'
theorem set_bl (B : List Bool) (j : Nat) (b : Bool) : (B.map V.bl).set j (.bl b) = (B.set j b).map V.bl := by
  rw [List.map_set]
theorem bl_at {B : List Bool} {j : Nat} {b : Bool} (h : B[j]? = some b) : atI (B.map V.bl) (j : Int) = some (.bl b) := atI_nat (by rw [List.getElem?_map, h]; rfl)
theorem get_bool {B : List Bool} {j : Nat} (h : j < B.length) : ∃ b, B[j]? = some b := ⟨_, List.getElem?_eq_getElem h⟩
theorem ok_came {f : Addr} {fd : FuncData} (F : Fun K "_law_came" "_law_came" sCame f fd) (m_range : mg "range" = none) (m_len : mg "len" = none) : FnOk P w K mg base CX0 1 f fd ["_law_rows_here", "_law_starts"] (spCame K) := by
  refine F.ok scCame (fun vs H Q E h => ?_) (fun cdv A outer s H vs Q E hr h => ?_)
  · obtain ⟨a, b, qs, rows, starts, rfl, _⟩ := h
    rfl
  · obtain ⟨a, b, qs, rows, starts, rfl, ha, hR, hb, fine, n300, q⟩ := h
    refine ⟨_, (pss_cons (ps_set (i := 2) scCame.nd rfl (.inr rfl) (pe_lc (own := [("_law_row", 6)]) (g := gName 6) (tt := tYes) rfl scCame.nd (pi_list (pv 0)) (blkOk_by (N := ["_law_rows_here", "_law_starts", "_law_came_here", "_law_one", "_law_fresh", "_law_k", "_law_row"]) (sc := defScope sCame) (by decide +kernel)) (fun _ _ _ _ _ => (pg_name (i := 6) scCame.nd rfl (.inl rfl))) (fun _ _ _ _ _ => pts_nil) (fun _ _ _ _ _ => pe_bl)))
      (pss_cons (ps_for PassesOwn.never rfl (pi_list (pv 1)) (pg_name (i := 3) scCame.nd rfl (.inl rfl)) (pss_one (ps_asg pe_bl (pg_sub (pv 2) (pv 3) set_list))))
      (pss_cons (ps_set (i := 4) scCame.nd rfl (.inl rfl) pe_bl)
      (pss_cons (ps_while PassesOwn.never (pt_val (pv 4)) (pss_cons (ps_set (i := 4) scCame.nd rfl (.inl rfl) pe_bl)
      (pss_one (ps_for PassesOwn.never rfl (pi_range1 (by rfl) m_range (pa_cons (pe_callB (lenS (K := K)) (by rfl) m_len (by decide +kernel) (pa_cons (pv 0) pa_nil)) pa_nil)) (pg_name (i := 5) scCame.nd rfl (.inl rfl)) (pss_one (ps_for PassesOwn.never rfl (pi_list (pe_ix (ixL (K := K)) (pv 0) (pv 5) (fun _ _ => rfl))) (pg_name (i := 3) scCame.nd rfl (.inl rfl)) (pss_one (ps_if (PW.pt (pw_and (pt_val (pe_ix (ixL (K := K)) (pv 2) (pv 5) (fun _ _ => rfl))) (pw_and (pt_cmpR op_notN (pv 3) pe_non (nomark _)) (pw_and1 (pt_not (pt_val (pe_ix (ixL (K := K)) (pv 2) (pv 3) (fun _ _ => rfl)))))))) (pss_cons (ps_asg pe_bl (pg_sub (pv 2) (pv 3) set_list))
      (pss_one (ps_set (i := 4) scCame.nd rfl (.inl rfl) pe_bl))) pss_nil))))))))
      (pss_one (ps_ret (pe_lc (own := [("_law_k", 5)]) (g := gName 5) rfl scCame.nd (pi_range1 (by rfl) m_range (pa_cons (pe_callB (lenS (K := K)) (by rfl) m_len (by decide +kernel) (pa_cons (pv 0) pa_nil)) pa_nil)) (blkOk_by (N := ["_law_rows_here", "_law_starts", "_law_came_here", "_law_one", "_law_fresh", "_law_k", "_law_row"]) (sc := defScope sCame) (by decide +kernel)) (fun _ _ _ _ _ => (pg_name (i := 5) scCame.nd rfl (.inl rfl))) (fun _ _ _ _ _ => pts_one (pt_val (pe_ix (ixL (K := K)) (pv 2) (pv 5) (fun _ _ => rfl)))) (fun _ _ _ _ _ => (pv 5))))))))), ?_⟩
    have hlen : (qs.map V.ref).length = rows.length := by rw [List.length_map]; exact hR.len
    have n30 : ((qs.map V.ref).length : Int) < 2 ^ 62 := by rw [hlen]; omega
    -- [False for ..]
    refine ⟨.ref a, rfl, a, rfl, ⟨_, SqL.of ha⟩, fun D nD => ?_⟩
    refine lc_list (K := K) (a := a) (xs := qs.map V.ref) (fun i H' => Same H H' ∧ H' D = some (.lst ((List.replicate i false).map V.bl))) ⟨same_new nD, upd_same⟩ (fun i H' _ ⟨s, _⟩ => SqL.of (s _ _ ha)) ?_ ?_
    · rintro i x H' hx ⟨s1, h1⟩
      have hi := (List.getElem?_eq_some_iff.mp hx).1
      refine ⟨rfl, _, h1, size300 (by rw [List.length_map, List.length_replicate]; omega), same_put s1 nD, ?_⟩
      rw [upd_same, List.replicate_succ', List.map_append]
      rfl
    rintro H1 ⟨s1, h1⟩
    rw [hlen] at h1
    -- for one in starts
    refine ⟨.ref b, rfl, b, rfl, ⟨_, SqL.of (s1 _ _ hb)⟩, ?_⟩
    refine for_list (K := K) (a := b) (xs := starts.map nV) (fun i σ H' => ∃ (y3 : Option V) (B : List Bool), σ = [some (.ref a), some (.ref b), some (.ref D), y3, none, none, none] ∧ Same H H' ∧ H' D = some (.lst (B.map V.bl)) ∧
        B.length = rows.length ∧ (∀ k : Nat, B[k]? = some true → k ∈ starts) ∧ ∀ k ∈ starts.take i, B[k]? = some true)
      ⟨none, List.replicate rows.length false, rfl, s1, h1, List.length_replicate, (fun k hk => by rw [List.getElem?_replicate] at hk; split at hk <;> cases hk), (fun k hk => by simp at hk)⟩
      (fun i σ H' _ ⟨_, _, _, s2, _⟩ => SqL.of (s2 _ _ hb)) ?_ ?_
    · rintro i x σ H' hx ⟨y3, B, rfl, s2, hB, bl, so, st⟩
      rw [List.getElem?_map] at hx
      obtain ⟨o, ho, rfl⟩ : ∃ o, starts[i]? = some o ∧ x = nV o := by
        cases e : starts[i]? with
        | none => rw [e] at hx; cases hx
        | some o => rw [e] at hx; exact ⟨o, rfl, (Option.some.inj hx).symm⟩
      have om := List.mem_of_getElem? ho
      have lo := fine.st o om
      refine ⟨_, rfl, _, rfl, D, _, _, o, rfl, rfl, hB, ixN_nat (by rw [List.length_map]; omega), ?_⟩
      refine ⟨_, B.set o true, rfl, same_put s2 nD, by rw [upd_same, set_bl], by rw [List.length_set]; exact bl, fun k hk => ?_, fun k hk => ?_⟩
      · by_cases e : o = k
        · exact e ▸ om
        · rw [List.getElem?_set_ne e] at hk
          exact so k hk
      · by_cases e : o = k
        · subst e
          rw [List.getElem?_set_self (by omega)]
        · rw [List.getElem?_set_ne e]
          rw [List.take_add_one, ho] at hk
          rcases List.mem_append.mp hk with hk | hk
          · exact st k hk
          · have e2 : k = o := by simpa using hk
            exact absurd e2.symm e
    rintro σ H2 ⟨y3, B, rfl, s2, hB, bl, so, st⟩
    rw [List.length_map, List.take_length] at st
    have C0 : Came rows starts B := ⟨bl, fun k hk => .start (so k hk), st⟩
    -- fresh = True; while fresh
    refine ⟨fun m σ H' => ∃ (B : List Bool) (fr : Bool) (y3 y5 : Option V), σ = [some (.ref a), some (.ref b), some (.ref D), y3, some (.bl fr), y5, none] ∧ Same H H' ∧ H' D = some (.lst (B.map V.bl)) ∧ Came rows starts B ∧
        (fr = false → ∃ B0, Turn rows starts B0 B false rows.length) ∧ m = 2 * nF B + (if fr = true then 1 else 0), ⟨_, B, true, y3, none, rfl, s2, hB, C0, (fun h => nomatch h), rfl⟩, ?_⟩
    rintro m σ H3 ⟨B, fr, y3, y5, rfl, s3, hB, C, over, rfl⟩
    refine ⟨.bl fr, rfl, fr, rfl, ?_⟩
    cases fr with
    | false =>
      refine iteF ?_
      obtain ⟨B0, T⟩ := over rfl
      -- return [..]
      refine ⟨.ref a, rfl, a, _, rfl, .inl (SqL.of (s3 _ _ ha)), _, rfl, by omega, n30, fun D2 nD2 => ?_⟩
      rw [Int.toNat_natCast, hlen]
      have nDD : D ≠ D2 := ne_of_none hB nD2
      refine lc_range (fun i H' => Same H H' ∧ H' D = some (.lst (B.map V.bl)) ∧ H' D2 = some (.lst ((((List.range i).filter fun k => B.getD k false).map Int.ofNat).map V.int)))
        ⟨s3.trans (same_new nD2), by rw [upd_ne nDD]; exact hB, by rw [upd_same]; rfl⟩ ?_ ?_
      · rintro i H' hi ⟨s4, h4, h5⟩
        obtain ⟨bi, hbi⟩ := get_bool (B := B) (j := i) (by rw [C.len]; exact hi)
        have gd : B.getD i false = bi := by rw [List.getD_eq_getElem?_getD, hbi]; rfl
        refine ⟨rfl, .ref D, rfl, _, rfl, D, _, _, .bl bi, rfl, rfl, SqL.of h4, by rw [Int.zero_add]; exact bl_at hbi, bi, rfl, ?_⟩
        cases bi with
        | true =>
          refine iteT ⟨_, rfl, _, h5, size300 ?_, same_put s4 (s3.free nD2), by rw [upd_ne nDD]; exact h4, ?_⟩
          · rw [List.length_map, List.length_map]
            refine Nat.le_trans (List.length_filter_le _ _) ?_
            rw [List.length_range]
            omega
          · have e1 : [i].filter (fun k => B.getD k false) = [i] := by rw [List.filter_cons, gd]; rfl
            rw [upd_same, List.range_succ, List.filter_append, List.map_append, List.map_append, e1, Int.zero_add]
            rfl
        | false =>
          refine iteF ⟨s4, h4, ?_⟩
          have e1 : [i].filter (fun k => B.getD k false) = [] := by rw [List.filter_cons, gd]; rfl
          rw [h5, List.range_succ, List.filter_append, e1, List.append_nil]
      · rintro H' ⟨s4, h4, h5⟩
        have e : ((List.range rows.length).filter fun k => B.getD k false).map Int.ofNat = rchI rows starts := is_rchI_test _ fun k hk => by
          obtain ⟨bi, hbi⟩ := get_bool (B := B) (j := k) (by rw [C.len]; exact hk)
          rw [← T.over k, List.getD_eq_getElem?_getD, hbi]
          simp
        rw [e] at h5
        exact q H' D2 s4 (s3.free nD2) h5
    | true =>
      refine iteT ⟨fun σ' H' => ∃ (B' : List Bool) (fr : Bool) (y3 y5 : Option V), σ' = [some (.ref a), some (.ref b), some (.ref D), y3, some (.bl fr), y5, none] ∧ Same H H' ∧ H' D = some (.lst (B'.map V.bl)) ∧ Turn rows starts B B' fr rows.length, ?_, ?_⟩
      · rintro σ' H' ⟨B', fr, z3, z5, rfl, s4, h4, T⟩
        cases fr with
        | true => exact ⟨2 * nF B' + 1, (by have := T.yes rfl; show _ < 2 * nF B + 1; omega), B', true, z3, z5, rfl, s4, h4, T.came, (fun h => nomatch h), rfl⟩
        | false => exact ⟨2 * nF B', (by have := T.le; show _ < 2 * nF B + 1; omega), B', false, z3, z5, rfl, s4, h4, T.came, (fun _ => ⟨B, T⟩), rfl⟩
      -- fresh = False; for k in range(len(rows))
      refine ⟨.ref a, rfl, a, _, rfl, .inl (SqL.of (s3 _ _ ha)), _, rfl, by omega, n30, ?_⟩
      rw [Int.toNat_natCast, hlen]
      refine for_range (fun k σ H' => ∃ (B' : List Bool) (fr : Bool) (y3 y5 : Option V), σ = [some (.ref a), some (.ref b), some (.ref D), y3, some (.bl fr), y5, none] ∧ Same H H' ∧ H' D = some (.lst (B'.map V.bl)) ∧ Turn rows starts B B' fr k)
        ⟨B, false, y3, y5, rfl, s3, hB, Turn.begin C⟩ ?_ (fun σ H' h => h)
      rintro k σ H' hk ⟨B', fr, z3, z5, rfl, s4, h4, T⟩
      obtain ⟨row, hrow⟩ : ∃ row, rows[k]? = some row := ⟨_, List.getElem?_eq_getElem hk⟩
      obtain ⟨q0, hq0, hrow0⟩ := hR.at_ k row hrow
      have rm := List.mem_of_getElem? hrow
      have nDq : q0 ≠ D := ne_of_none hrow0 nD
      have ix : atI (qs.map V.ref) (0 + (k : Int)) = some (.ref q0) := by
        rw [Int.zero_add]
        exact atI_nat (by rw [List.getElem?_map, hq0]; rfl)
      refine ⟨.ref a, rfl, _, rfl, a, _, _, _, rfl, rfl, SqL.of (s4 _ _ ha), ix, q0, rfl, ⟨_, SqL.of (s4 _ _ hrow0)⟩, ?_⟩
      refine for_list (K := K) (a := q0) (xs := row.map optV) (fun i σ H' => ∃ (B' : List Bool) (fr : Bool) (y3 : Option V), σ = [some (.ref a), some (.ref b), some (.ref D), y3, some (.bl fr), some (.int (0 + (k : Int))), none] ∧ Same H H' ∧ H' D = some (.lst (B'.map V.bl)) ∧ TurnR rows starts B B' fr k row i)
        ⟨B', fr, z3, rfl, s4, h4, TurnR.begin T⟩ (fun i σ H' _ ⟨_, _, _, _, s5, _⟩ => SqL.of (s5 _ _ hrow0)) ?_ ?_
      · rintro i x σ H5 hx ⟨B5, fr5, w3, rfl, s5, h5, T5⟩
        rw [List.getElem?_map] at hx
        obtain ⟨o, ho, rfl⟩ : ∃ o, row[i]? = some o ∧ x = optV o := by
          cases e : row[i]? with
          | none => rw [e] at hx; cases hx
          | some o => rw [e] at hx; exact ⟨o, rfl, (Option.some.inj hx).symm⟩
        obtain ⟨bk, hbk⟩ := get_bool (B := B5) (j := k) (by rw [T5.t.came.len]; exact hk)
        refine ⟨.ref D, rfl, _, rfl, D, _, _, .bl bk, rfl, rfl, SqL.of h5, (by rw [Int.zero_add]; exact bl_at hbk), bk, rfl, ?_⟩
        cases bk with
        | false => exact iteF (iteF ⟨B5, fr5, _, rfl, s5, h5, T5.same ho fun h => by rw [hbk] at h; cases h⟩)
        | true =>
          refine iteT ?_
          cases o with
          | none => exact ⟨_, rfl, rfl, _, rfl, iteF (iteF ⟨B5, fr5, _, rfl, s5, h5, T5.same ho fun _ j h => nomatch h⟩)⟩
          | some j =>
            have lj : j < rows.length := fine.en row rm j (List.mem_of_getElem? ho)
            obtain ⟨bj, hbj⟩ := get_bool (B := B5) (j := j) (by rw [T5.t.came.len]; exact lj)
            refine ⟨_, rfl, rfl, _, rfl, iteT ?_⟩
            refine ⟨.ref D, rfl, _, rfl, D, _, _, .bl bj, rfl, rfl, SqL.of h5, bl_at hbj, bj, rfl, ?_⟩
            cases bj with
            | true => exact iteF ⟨B5, fr5, _, rfl, s5, h5, T5.same ho fun _ j' h => by cases h; exact hbj⟩
            | false =>
              refine iteT ?_
              refine ⟨_, rfl, _, rfl, D, _, _, j, rfl, rfl, h5, ixN_nat (by rw [List.length_map, T5.t.came.len]; exact lj), ?_⟩
              exact ⟨B5.set j true, true, _, rfl, same_put s5 nD, by rw [upd_same, set_bl], T5.new hrow ho hbk hbj⟩
      · rintro σ H5 ⟨B5, fr5, w3, rfl, s5, h5, T5⟩
        rw [List.length_map] at T5
        exact ⟨B5, fr5, w3, _, rfl, s5, h5, T5.done hrow⟩
end
end K1

set_option Elab.async false
set_option linter.all false
set_option maxRecDepth 100000
set_option maxHeartbeats 4000000
namespace K1
open PySem PySem.Spec PyProof.Rows L2 KS KM KG
section
variable {P : Program} {w : World} {K : PySem.W.Frag} {mg : Str → Option Value} {base : Heap}
/-! ### _law_rows -/
structure Rown (n : Nat) (row : List (Option Nat)) : Prop where
  four : row.length ≤ 4
  lt : ∀ j : Nat, some j ∈ row → j < n
def Rowsn (n : Nat) (rows : RowsT) : Prop := ∀ row ∈ rows, Rown n row
theorem Rowsn.push {n : Nat} {rows : RowsT} {row : List (Option Nat)} (h : Rowsn n rows) (r : Rown n row) : Rowsn n (rows ++ [row]) := fun x hx => by
  rcases List.mem_append.mp hx with hx | hx
  · exact h x hx
  · rw [List.mem_singleton] at hx
    exact hx ▸ r
theorem Rown.one {n j : Nat} (h : j < n) : Rown n [some j] := ⟨(by show 1 ≤ 4; decide), fun k hk => by
  have e : k = j := by simpa using hk
  exact e ▸ h⟩
/-- rows grow at D -/
structure Grow (H0 H : Hp) (D : Addr) (n i : Nat) : Prop where
  same : Same H0 H
  ex : ∃ (qs : List Addr) (rows : RowsT), H D = some (.lst (qs.map V.ref)) ∧ RowsAt H qs rows ∧ rows.length = i ∧ Rowsn n rows ∧ ∀ q ∈ qs, q ≠ D
theorem Grow.start {H0 H : Hp} {D : Addr} {n : Nat} (s : Same H0 H) (h : H D = some (.lst [])) : Grow H0 H D n 0 :=
  ⟨s, [], [], h, RowsAt.nil, rfl, fun _ h => absurd h (by simp), fun _ h => absurd h (by simp)⟩
theorem Grow.mono {H0 H H' : Hp} {D : Addr} {n i : Nat} (g : Grow H0 H D n i) (s : Same H H') : Grow H0 H' D n i := by
  obtain ⟨s0, qs, rows, h, r, l, b, ne⟩ := g
  exact ⟨s0.trans s, qs, rows, s _ _ h, r.same s, l, b, ne⟩
/-- one row more, that stands at q -/
theorem Grow.more {H0 H : Hp} {D q : Addr} {n i : Nat} {row : List (Option Nat)} (g : Grow H0 H D n i) (d0 : H0 D = none) (hq : H q = some (.lst (row.map optV))) (r : Rown n row) (ne : q ≠ D) :
    ∃ xs : List V, H D = some (.lst xs) ∧ xs.length = i ∧ Grow H0 (upd H D (.lst (xs ++ [.ref q]))) D n (i + 1) := by
  obtain ⟨s0, qs, rows, h, ra, l, b, nes⟩ := g
  have nes2 : ∀ x ∈ qs ++ [q], x ≠ D := fun x hx => by
    rcases List.mem_append.mp hx with hx | hx
    · exact nes x hx
    · rw [List.mem_singleton] at hx
      exact hx ▸ ne
  refine ⟨qs.map V.ref, h, by rw [List.length_map, ra.len, l], same_put s0 d0, qs ++ [q], rows ++ [row], ?_, (ra.push hq).upd nes2, by rw [List.length_append, l]; rfl, b.push r, nes2⟩
  rw [upd_same, List.map_append]
  rfl
theorem fmod_small {a : Int} {n : Nat} (h : 0 < n) : ∃ j : Nat, j < n ∧ a.fmod (n : Int) = (j : Int) := by
  have e := Int.fmod_eq_emod_of_nonneg a (show (0 : Int) ≤ n by omega)
  have h1 := Int.emod_nonneg a (show (n : Int) ≠ 0 by omega)
  have h2 := Int.emod_lt_of_pos a (show (0 : Int) < n by omega)
  exact ⟨(a % (n : Int)).toNat, by omega, by rw [e]; omega⟩
def spRows (K : PySem.W.Frag) : Sp := fun vs H Q _ => ∃ (l : Addr) (ns : List Int) (n : Nat), vs = [.ref l, .int (n : Int)] ∧ SqL K H l (ns.map V.int) ∧ n ≤ 300 ∧ (cellOf ns 1 % 9 = 4 → 0 < n) ∧
  ∀ H' D, Grow H H' D n n → H D = none → Q (.ref D) H'
theorem ok_rows {f fC : Addr} {fd fdC : FuncData} (F : Fun K "_law_rows" "_law_rows" sRows f fd) (D__law_cell_at : Df P w K mg base CX0 1 "_law_cell_at" fC fdC ["_law_script", "_law_k"] (spCell K)) (m_range : mg "range" = none) (m_min : mg "min" = none) :
    FnOk P w K mg base CX0 2 f fd ["_law_script", "_law_size"] (spRows K) := by
  refine F.ok scRows (fun vs H Q E h => ?_) (fun cdv A outer s H vs Q E hr h => ?_)
  · obtain ⟨l, ns, n, rfl, _⟩ := h
    rfl
  · obtain ⟨l, ns, n, rfl, hS, n300, pos, q⟩ := h
    refine ⟨_, (pss_cons (ps_if (pt_cmpR op_eq (pe_op op_mod (pe_call D__law_cell_at.g (hr.mono (by decide)) (by rfl) D__law_cell_at.m D__law_cell_at.k D__law_cell_at.b .nil pass0 (pa_cons (pv 0) (pa_cons pe_int pa_nil))) pe_int) pe_int (nomark _)) (pss_one (ps_ret (pe_lc (own := [("_law_k", 3)]) (g := gName 3) (tt := tYes) rfl scRows.nd (pi_range1 (by rfl) m_range (pa_cons (pv 1) pa_nil)) (blkOk_by (N := ["_law_script", "_law_size", "_law_rows_here", "_law_k", "_law_cell", "_law_row", "_law_turn"]) (sc := defScope sRows) (by decide +kernel)) (fun _ _ _ _ _ => (pg_name (i := 3) scRows.nd rfl (.inl rfl))) (fun _ _ _ _ _ => pts_nil) (fun _ _ _ _ _ => (pe_lst (pa_cons (pe_callB (call_min2 rfl) (by rfl) m_min (by decide +kernel) (pa_cons (pe_op op_add (pe_op op_add (pv 3) pe_int) (pe_op op_mod (pe_op op_fdiv (pe_call D__law_cell_at.g (hr.mono (by decide)) (by rfl) D__law_cell_at.m D__law_cell_at.k D__law_cell_at.b .nil pass0 (pa_cons (pv 0) (pa_cons pe_int pa_nil))) pe_int) pe_int)) (pa_cons (pe_op op_sub (pv 1) pe_int) pa_nil))) pa_nil)))))) pss_nil)
      (pss_cons (ps_if (pt_cmpR op_eq (pe_op op_mod (pe_call D__law_cell_at.g (hr.mono (by decide)) (by rfl) D__law_cell_at.m D__law_cell_at.k D__law_cell_at.b .nil pass0 (pa_cons (pv 0) (pa_cons pe_int pa_nil))) pe_int) pe_int (nomark _)) (pss_one (ps_ret (pe_lc (own := [("_law_k", 3)]) (g := gName 3) (tt := tYes) rfl scRows.nd (pi_range1 (by rfl) m_range (pa_cons (pv 1) pa_nil)) (blkOk_by (N := ["_law_script", "_law_size", "_law_rows_here", "_law_k", "_law_cell", "_law_row", "_law_turn"]) (sc := defScope sRows) (by decide +kernel)) (fun _ _ _ _ _ => (pg_name (i := 3) scRows.nd rfl (.inl rfl))) (fun _ _ _ _ _ => pts_nil) (fun _ _ _ _ _ => (pe_lst (pa_cons (pe_op op_modN (pe_op op_add (pe_op op_add (pv 3) pe_int) (pe_op op_mod (pe_op op_fdiv (pe_call D__law_cell_at.g (hr.mono (by decide)) (by rfl) D__law_cell_at.m D__law_cell_at.k D__law_cell_at.b .nil pass0 (pa_cons (pv 0) (pa_cons pe_int pa_nil))) pe_int) pe_int)) (pv 1)) pa_nil)))))) pss_nil)
      (pss_cons (ps_set (i := 2) scRows.nd rfl (.inl rfl) (pe_lst pa_nil))
      (pss_cons (ps_for PassesOwn.never rfl (pi_range1 (by rfl) m_range (pa_cons (pv 1) pa_nil)) (pg_name (i := 3) scRows.nd rfl (.inl rfl)) (pss_cons (ps_set (i := 4) scRows.nd rfl (.inl rfl) (pe_call D__law_cell_at.g (hr.mono (by decide)) (by rfl) D__law_cell_at.m D__law_cell_at.k D__law_cell_at.b .nil pass0 (pa_cons (pv 0) (pa_cons (pe_op op_add pe_int (pv 3)) pa_nil))))
      (pss_cons (ps_set (i := 5) scRows.nd rfl (.inl rfl) (pe_lst pa_nil))
      (pss_cons (ps_for PassesOwn.never rfl (pi_range1 (by rfl) m_range (pa_cons (pe_op op_mod (pv 4) pe_int) pa_nil)) (pg_name (i := 6) scRows.nd rfl (.inl rfl)) (pss_cons (ps_set (i := 4) scRows.nd rfl (.inl rfl) (pe_op op_fdivN (pv 4) (pe_op op_add (pv 1) pe_int)))
      (pss_one (ps_if (pt_cmpR op_eq (pe_op op_modN (pv 4) (pe_op op_add (pv 1) pe_int)) (pv 1) (nomark _)) (pss_one (ps_expr (pe_bm PySem.F.plainAttrs_list PySem.F.slot_list_append PySem.F.type_list_append mt_append (pv 5) (pa_cons pe_non pa_nil)))) (pss_one (ps_expr (pe_bm PySem.F.plainAttrs_list PySem.F.slot_list_append PySem.F.type_list_append mt_append (pv 5) (pa_cons (pe_op op_modN (pv 4) (pe_op op_add (pv 1) pe_int)) pa_nil))))))))
      (pss_one (ps_expr (pe_bm PySem.F.plainAttrs_list PySem.F.slot_list_append PySem.F.type_list_append mt_append (pv 2) (pa_cons (pv 5) pa_nil))))))))
      (pss_one (ps_ret (pv 2))))))), ?_⟩
    refine ⟨_, rfl, l, ns, 1, rfl, hS, _, _, rfl, rfl, (by show (0 : Int) < 9; decide), rfl, _, rfl, ite2 (fun e4 => ?_) (fun e4 => ?_)⟩
    · have e4' : cellOf ns 1 % 9 = 4 := V.int.inj (of_decide_eq_true e4)
      have n0 := pos e4'
      refine ⟨_, rfl, _, rfl, by omega, by omega, fun D nD => ?_⟩
      rw [Int.toNat_natCast]
      refine lc_range (fun i H' => Grow H H' D n i) (Grow.start (same_new nD) upd_same) ?_ (fun H' g => q H' D g nD)
      intro i H' hi g
      obtain ⟨z, hz, bit⟩ : ∃ z : Int, cellOf ns 1 / 9 % 2 = z ∧ 0 ≤ z := ⟨_, rfl, by omega⟩
      refine ⟨rfl, _, rfl, _, _, rfl, rfl, _, rfl, l, ns, 1, rfl, g.same.seq hS, _, _, rfl, rfl, ⟨by decide, by decide⟩, _, _, rfl, rfl, (by show (0 : Int) < 2; decide), _, _, rfl, rfl, ?_⟩
      refine ⟨_, rfl, _, _, rfl, rfl, _, _, rfl, by show 1 ≤ sizeLine; decide, fun p np => ?_⟩
      rw [hz]
      obtain ⟨j, hj, ej⟩ : ∃ j : Nat, j < n ∧ (if (n : Int) - 1 < 0 + (i : Int) + 1 + z then (n : Int) - 1 else 0 + (i : Int) + 1 + z) = (j : Int) := by
        by_cases c : (n : Int) - 1 < 0 + (i : Int) + 1 + z
        · exact ⟨n - 1, by omega, by rw [if_pos c]; omega⟩
        · exact ⟨(0 + (i : Int) + 1 + z).toNat, by omega, by rw [if_neg c]; omega⟩
      rw [ej]
      have g2 := g.mono (same_new (o := .lst [V.int (j : Int)]) np)
      obtain ⟨_, _, _, hD, _⟩ := id g
      obtain ⟨xs, h1, h2, h3⟩ := g2.more (row := [some j]) nD upd_same (Rown.one hj) (ne_of_none hD np).symm
      exact ⟨xs, h1, size300 (by omega), h3⟩
    refine ⟨_, rfl, l, ns, 1, rfl, hS, _, _, rfl, rfl, (by show (0 : Int) < 3; decide), rfl, _, rfl, ite2 (fun e3 => ?_) (fun e3 => ?_)⟩
    · refine ⟨_, rfl, _, rfl, by omega, by omega, fun D nD => ?_⟩
      rw [Int.toNat_natCast]
      refine lc_range (fun i H' => Grow H H' D n i) (Grow.start (same_new nD) upd_same) ?_ (fun H' g => q H' D g nD)
      intro i H' hi g
      refine ⟨rfl, _, rfl, _, _, rfl, rfl, _, rfl, l, ns, 1, rfl, g.same.seq hS, _, _, rfl, rfl, ⟨by decide, by decide⟩, _, _, rfl, rfl, (by show (0 : Int) < 7; decide), _, _, rfl, rfl, ?_⟩
      refine ⟨_, rfl, _, _, rfl, rfl, by omega, by show 1 ≤ sizeLine; decide, fun p np => ?_⟩
      obtain ⟨j, hj, ej⟩ := fmod_small (a := 0 + (i : Int) + 1 + cellOf ns 1 / 9 % 7) (show 0 < n by omega)
      dsimp only
      rw [ej]
      have g2 := g.mono (same_new (o := .lst [V.int (j : Int)]) np)
      obtain ⟨_, _, _, hD, _⟩ := id g
      obtain ⟨xs, h1, h2, h3⟩ := g2.more (row := [some j]) nD upd_same (Rown.one hj) (ne_of_none hD np).symm
      exact ⟨xs, h1, size300 (by omega), h3⟩
    -- rows_here = []
    refine ⟨Nat.zero_le _, fun D nD => ?_⟩
    refine ⟨_, rfl, _, rfl, by omega, by omega, ?_⟩
    rw [Int.toNat_natCast]
    refine for_range (fun i σ H' => ∃ (y3 y4 y5 y6 : Option V), σ = [some (.ref l), some (.int (n : Int)), some (.ref D), y3, y4, y5, y6] ∧ Grow H H' D n i) ⟨none, none, none, none, rfl, Grow.start (same_new nD) upd_same⟩ ?_ ?_
    · rintro i σ H1 hi ⟨y3, y4, y5, y6, rfl, g⟩
      have e3i : (3 : Int) + (0 + (i : Int)) = ((3 + i : Nat) : Int) := by omega
      refine ⟨_, rfl, _, rfl, _, _, rfl, rfl, l, ns, 3 + i, congrArg (fun t : Int => [V.ref l, V.int t]) e3i, g.same.seq hS, ?_⟩
      obtain ⟨_, _, _, hD, _⟩ := id g
      refine ⟨Nat.zero_le _, fun R nR => ?_⟩
      have nDR : D ≠ R := ne_of_none hD nR
      obtain ⟨t, ht, t4⟩ : ∃ t : Nat, cellOf ns (3 + i) % 5 = (t : Int) ∧ t ≤ 4 := ⟨(cellOf ns (3 + i) % 5).toNat, by omega, by omega⟩
      refine ⟨_, rfl, _, _, rfl, rfl, (by show (0 : Int) < 5; decide), _, rfl, by omega, by omega, ?_⟩
      rw [ht, Int.toNat_natCast]
      refine for_range (fun i2 σ H' => ∃ (c : Int) (row : List (Option Nat)) (y6 : Option V), σ = [some (.ref l), some (.int (n : Int)), some (.ref D), some (.int (0 + (i : Int))), some (.int c), some (.ref R), y6] ∧
          Same H1 H' ∧ H' R = some (.lst (row.map optV)) ∧ row.length = i2 ∧ ∀ j : Nat, some j ∈ row → j < n) ⟨_, [], y6, rfl, same_new nR, upd_same, rfl, fun j hj => absurd hj (by simp)⟩ ?_ ?_
      · rintro i2 σ H2 hi2 ⟨c, row, w6, rfl, s2, hR, len, lt⟩
        obtain ⟨j, hj, ej⟩ := fmod_small (a := c.fdiv ((n : Int) + 1)) (n := n + 1) (by omega)
        rw [show ((n + 1 : Nat) : Int) = (n : Int) + 1 by omega] at ej
        refine ⟨_, rfl, _, rfl, _, _, rfl, rfl, _, _, rfl, rfl, ⟨by omega, by omega⟩, ?_⟩
        refine ⟨_, rfl, _, rfl, _, _, rfl, rfl, _, _, rfl, rfl, by omega, _, rfl, rfl, _, rfl, ?_⟩
        refine ite2 (fun ee => ?_) (fun ee => ?_)
        · refine ⟨_, rfl, .inl ⟨rfl, _, SqL.of hR⟩, R, _, _, rfl, rfl, hR, size300 (by rw [List.length_map]; omega), ?_⟩
          refine ⟨_, row ++ [none], _, rfl, same_put s2 nR, by rw [upd_same, List.map_append]; rfl, by rw [List.length_append, len]; rfl, fun k hk => ?_⟩
          rcases List.mem_append.mp hk with hk | hk
          · exact lt k hk
          · simp at hk
        · have jn : j ≠ n := fun e => ee (decide_eq_true (by show V.int ((c.fdiv ((n : Int) + 1)).fmod ((n : Int) + 1)) = V.int (n : Int); rw [ej, e]))
          refine ⟨_, rfl, .inl ⟨rfl, _, SqL.of hR⟩, _, rfl, _, rfl, _, _, rfl, rfl, _, _, rfl, rfl, by omega, R, _, _, rfl, rfl, hR, size300 (by rw [List.length_map]; omega), ?_⟩
          dsimp only
          rw [ej]
          refine ⟨_, row ++ [some j], _, rfl, same_put s2 nR, by rw [upd_same, List.map_append]; rfl, by rw [List.length_append, len]; rfl, fun k hk => ?_⟩
          rcases List.mem_append.mp hk with hk | hk
          · exact lt k hk
          · have e : k = j := by simpa using hk
            omega
      · rintro σ H2 ⟨c, row, w6, rfl, s2, hR, len, lt⟩
        obtain ⟨xs, h1, h2, h3⟩ := (g.mono s2).more nD hR ⟨by omega, lt⟩ nDR.symm
        exact ⟨_, rfl, .inl ⟨rfl, _, SqL.of h1⟩, _, rfl, D, xs, _, rfl, rfl, h1, size300 (by omega), _, _, _, _, rfl, h3⟩
    · rintro σ H1 ⟨y3, y4, y5, y6, rfl, g⟩
      exact ⟨_, rfl, q H1 D g nD⟩
end
end K1

set_option Elab.async false
set_option linter.all false
set_option maxRecDepth 100000
set_option maxHeartbeats 4000000
namespace K1
open PySem PySem.Spec PyProof.Rows L2 KS KM KG
section
variable {P : Program} {w : World} {K : PySem.W.Frag} {mg : Str → Option Value} {base : Heap}
/-! ### the law -/
def spLaw (K : PySem.W.Frag) : Sp := fun vs H Q _ => ∃ (a : Addr) (ns : List Int), vs = [.ref a] ∧ SqL K H a (ns.map V.int) ∧ ∀ H', Q (.bl true) H'
theorem plain_opt (row : List (Option Nat)) : Plain (row.map optV) := fun x hx => by
  obtain ⟨o, _, rfl⟩ := List.mem_map.mp hx
  cases o with
  | none => exact .inl rfl
  | some k => exact .inr ⟨k, rfl⟩
theorem plain_nat (l : List Nat) : Plain (l.map nV) := fun x hx => by
  obtain ⟨k, _, e⟩ := nV_mem hx
  exact .inr ⟨_, e⟩
theorem plain_int (l : List Int) : Plain (l.map V.int) := fun x hx => by
  obtain ⟨k, _, rfl⟩ := List.mem_map.mp hx
  exact .inr ⟨k, rfl⟩
theorem cut_nat (l : List Nat) (lo hi : Option Int) : ∃ m : List Nat, cutV (l.map nV) lo hi = m.map nV ∧ m.length ≤ l.length ∧ ∀ k ∈ m, k ∈ l := by
  unfold cutV
  rw [List.length_map, ← List.map_drop, ← List.map_take]
  refine ⟨_, rfl, ?_, fun k hk => List.mem_of_mem_drop (List.mem_of_mem_take hk)⟩
  rw [List.length_take, List.length_drop]
  omega
theorem ok_law {f fC fN fR fA fG : Addr} {fd fdC fdN fdR fdA fdG : FuncData} (F : Fun K "law" "law" sLaw f fd)
    (D__law_cell_at : Df P w K mg base CX0 1 "_law_cell_at" fC fdC ["_law_script", "_law_k"] (spCell K))
    (D__law_numbers : Df P w K mg base CX0 2 "_law_numbers" fN fdN ["_law_found", "_law_due"] spNumbers)
    (D__law_rows : Df P w K mg base CX0 2 "_law_rows" fR fdR ["_law_script", "_law_size"] (spRows K))
    (D__law_came : Df P w K mg base CX0 1 "_law_came" fA fdA ["_law_rows_here", "_law_starts"] (spCame K))
    (D_reach : Df P w K mg base CX0 1 "reach" fG fdG ["rows", "starts"] (spReach K))
    (m_range : mg "range" = none) (m_list : mg "list" = none) (m_len : mg "len" = none) : FnOk P w K mg base CX0 3 f fd ["_law_script"] (spLaw K) := by
  refine F.ok scLaw (fun vs H Q E h => ?_) (fun cdv A outer s H vs Q E hr h => ?_)
  · obtain ⟨a, ns, rfl, _⟩ := h
    rfl
  · obtain ⟨l, ns, rfl, hS, q⟩ := h
    refine ⟨_, (pss_cons (ps_set (i := 1) scLaw.nd rfl (.inl rfl) (pe_op op_mod (pe_call D__law_cell_at.g (hr.mono (by decide)) (by rfl) D__law_cell_at.m D__law_cell_at.k D__law_cell_at.b .nil pass0 (pa_cons (pv 0) (pa_cons pe_int pa_nil))) pe_int))
      (C8.pss_cut (ps_if (pt_cmpR op_eq (pe_op op_mod (pe_call D__law_cell_at.g (hr.mono (by decide)) (by rfl) D__law_cell_at.m D__law_cell_at.k D__law_cell_at.b .nil pass0 (pa_cons (pv 0) (pa_cons pe_int pa_nil))) pe_int) pe_int (nomark _)) (pss_one (ps_set (i := 1) scLaw.nd rfl (.inl rfl) (pe_op op_add pe_int (pe_op op_mod (pe_op op_fdiv (pe_call D__law_cell_at.g (hr.mono (by decide)) (by rfl) D__law_cell_at.m D__law_cell_at.k D__law_cell_at.b .nil pass0 (pa_cons (pv 0) (pa_cons pe_int pa_nil))) pe_int) pe_int)))) pss_nil)
      (pss_cons (ps_set (i := 2) scLaw.nd rfl (.inl rfl) (pe_call D__law_rows.g (hr.mono (by decide)) (by rfl) D__law_rows.m D__law_rows.k D__law_rows.b .nil pass0 (pa_cons (pv 0) (pa_cons (pv 1) pa_nil))))
      (pss_cons (ps_set (i := 3) scLaw.nd rfl (.inl rfl) (pe_call D__law_cell_at.g (hr.mono (by decide)) (by rfl) D__law_cell_at.m D__law_cell_at.k D__law_cell_at.b .nil pass0 (pa_cons (pv 0) (pa_cons pe_int pa_nil))))
      (pss_cons (ps_set (i := 4) scLaw.nd rfl (.inl rfl) (pe_lst pa_nil))
      (C8.pss_cut (ps_if (pt_cmpR op_gt (pv 1) pe_int (nomark _)) (pss_one (ps_set (i := 4) scLaw.nd rfl (.inl rfl) (pe_slice (slL (K := K)) (pe_lst (pa_cons (pe_op op_modN (pe_op op_fdiv (pv 3) pe_int) (pv 1)) (pa_cons (pe_op op_modN (pe_op op_fdivN (pe_op op_fdiv (pv 3) pe_int) (pv 1)) (pv 1)) (pa_cons (pe_op op_modN (pe_op op_fdiv (pv 3) pe_int) (pv 1)) pa_nil)))) po_none (po_some (pe_op op_mod (pv 3) pe_int))))) pss_nil)
      (pss_cons (ps_setLc (i := 5) (own := [("_law_row", 9)]) (g := gName 9) (tt := tYes) rfl scLaw.nd rfl rfl (sw_true rfl rfl rfl (by decide +kernel)) (pi_list (pv 2)) (blkOk_by (N := ["_law_script", "_law_size", "_law_rows_here", "_law_cell", "_law_starts", "_law_handed", "_law_begun", "_law_found", "_law_k", "_law_row"]) (sc := defScope sLaw) (by decide +kernel)) (fun _ _ _ _ _ => (pg_name (i := 9) scLaw.nd rfl (.inl rfl))) (fun _ _ _ _ _ => pts_nil) (fun _ _ _ _ _ => (pe_callTy (listOf (K := K)) (by rfl) m_list (by decide +kernel) (pa_cons (pv 9) pa_nil))))
      (pss_cons (ps_set (i := 6) scLaw.nd rfl (.inl rfl) (pe_callTy (listOf (K := K)) (by rfl) m_list (by decide +kernel) (pa_cons (pv 4) pa_nil)))
      (pss_cons (ps_set (i := 7) scLaw.nd rfl (.inl rfl) (pe_call D_reach.g (hr.mono (by decide)) (by rfl) D_reach.m D_reach.k D_reach.b .nil pass0 (pa_cons (pv 5) (pa_cons (pv 6) pa_nil))))
      (pss_cons (ps_if (pt_not (pt_val (pe_call D__law_numbers.g (hr.mono (by decide)) (by rfl) D__law_numbers.m D__law_numbers.k D__law_numbers.b .nil pass0 (pa_cons (pv 7) (pa_cons (pe_call D__law_came.g (hr.mono (by decide)) (by rfl) D__law_came.m D__law_came.k D__law_came.b .nil pass0 (pa_cons (pv 2) (pa_cons (pv 4) pa_nil))) pa_nil))))) (pss_one (ps_ret pe_bl)) pss_nil)
      (pss_cons (ps_if (PW.pt (pw_or (pt_cmpR op_ne (pe_callB (lenS (K := K)) (by rfl) m_len (by decide +kernel) (pa_cons (pv 5) pa_nil)) (pe_callB (lenS (K := K)) (by rfl) m_len (by decide +kernel) (pa_cons (pv 2) pa_nil)) (nomark _)) (pw_or1 (pt_not (pt_val (pe_call D__law_numbers.g (hr.mono (by decide)) (by rfl) D__law_numbers.m D__law_numbers.k D__law_numbers.b .nil pass0 (pa_cons (pv 6) (pa_cons (pv 4) pa_nil)))))))) (pss_one (ps_ret pe_bl)) pss_nil)
      (pss_cons (ps_for PassesOwn.never rfl (pi_range1 (by rfl) m_range (pa_cons (pe_callB (lenS (K := K)) (by rfl) m_len (by decide +kernel) (pa_cons (pv 2) pa_nil)) pa_nil)) (pg_name (i := 8) scLaw.nd rfl (.inl rfl)) (pss_one (ps_if (pt_not (pt_val (pe_call D__law_numbers.g (hr.mono (by decide)) (by rfl) D__law_numbers.m D__law_numbers.k D__law_numbers.b .nil pass0 (pa_cons (pe_ix (ixL (K := K)) (pv 5) (pv 8) (fun _ _ => rfl)) (pa_cons (pe_ix (ixL (K := K)) (pv 2) (pv 8) (fun _ _ => rfl)) pa_nil))))) (pss_one (ps_ret pe_bl)) pss_nil)))
      (pss_one (ps_ret pe_bl)))))))))))))), ?_⟩
    refine ⟨_, rfl, l, ns, 0, rfl, hS, _, _, rfl, rfl, (by show (0 : Int) < 41; decide), ?_⟩
    refine ⟨fun σ' H' => ∃ n : Nat, σ' = [some (.ref l), some (.int (n : Int)), none, none, none, none, none, none, none, none] ∧ H' = H ∧ n ≤ 300 ∧ (cellOf ns 1 % 9 = 4 → 0 < n), ?_, ?_⟩
    · refine ⟨_, rfl, l, ns, 1, rfl, hS, _, _, rfl, rfl, (by show (0 : Int) < 9; decide), rfl, _, rfl, ite2 (fun e4 => ?_) (fun e4 => ?_)⟩
      · refine ⟨_, rfl, l, ns, 0, rfl, hS, _, _, rfl, rfl, ⟨by decide, by decide⟩, _, _, rfl, rfl, (by show (0 : Int) < 300; decide), _, _, rfl, rfl, ?_⟩
        refine ⟨(1 + cellOf ns 0 / 41 % 300).toNat, ?_, rfl, by omega, fun _ => by omega⟩
        have e : (((1 + cellOf ns 0 / 41 % 300).toNat : Nat) : Int) = 1 + cellOf ns 0 / 41 % 300 := by omega
        rw [e]
        rfl
      · refine ⟨(cellOf ns 0 % 41).toNat, ?_, rfl, by omega, fun h => absurd (decide_eq_true (congrArg V.int h)) e4⟩
        have e : (((cellOf ns 0 % 41).toNat : Nat) : Int) = cellOf ns 0 % 41 := by omega
        rw [e]
        rfl
    rintro σ H1 ⟨n, rfl, rfl, n300, pos⟩
    -- rows_here
    refine ⟨_, rfl, _, rfl, l, ns, n, rfl, hS, n300, pos, fun H2 D g nD => ?_⟩
    obtain ⟨s2, qs, rows, hD, hR, rl, rb, _⟩ := g
    -- cell
    refine ⟨_, rfl, l, ns, 2, rfl, s2.seq hS, ?_⟩
    -- starts = []
    refine ⟨Nat.zero_le _, fun p0 np0 => ?_⟩
    refine ⟨fun σ' H' => ∃ (p : Addr) (st : List Nat), σ' = [some (.ref l), some (.int (n : Int)), some (.ref D), some (.int (cellOf ns 2)), some (.ref p), none, none, none, none, none] ∧ Same H2 H' ∧ H' p = some (.lst (st.map nV)) ∧ st.length ≤ 3 ∧ ∀ k ∈ st, k < n, ?_, ?_⟩
    · refine ⟨_, rfl, _, _, rfl, rfl, _, rfl, ite2 (fun e0 => ?_) (fun e0 => ?_)⟩
      · have n0 : 0 < n := by
          have := of_decide_eq_true e0
          omega
        refine ⟨_, rfl, _, _, rfl, rfl, ⟨by decide, by decide⟩, _, rfl, _, _, rfl, rfl, by omega, ?_⟩
        refine ⟨_, rfl, _, _, rfl, rfl, ⟨by decide, by decide⟩, _, rfl, _, _, rfl, rfl, ⟨by omega, by omega⟩, _, rfl, _, _, rfl, rfl, by omega, ?_⟩
        refine ⟨_, rfl, _, _, rfl, rfl, ⟨by decide, by decide⟩, _, rfl, _, _, rfl, rfl, by omega, ?_⟩
        obtain ⟨j1, h1, e1⟩ := fmod_small (a := cellOf ns 2 / 4) n0
        obtain ⟨j2, h2, e2⟩ := fmod_small (a := (cellOf ns 2 / 4).fdiv n) n0
        dsimp only
        rw [e1, e2]
        refine ⟨by show 3 ≤ sizeLine; decide, fun p1 np1 => ?_⟩
        refine ⟨_, rfl, _, _, rfl, rfl, (by show (0 : Int) < 4; decide), _, rfl, p1, _, rfl, SqL.of upd_same, fun p2 np2 => ?_⟩
        obtain ⟨m, em, lm, mm⟩ := cut_nat [j1, j2, j1] none (some (cellOf ns 2 % 4))
        have em2 : cutV [V.int (j1 : Int), V.int (j2 : Int), V.int (j1 : Int)] none (some (cellOf ns 2 % 4)) = m.map nV := em
        refine ⟨p2, m, rfl, ((same_new np0).trans (same_new np1)).trans (same_new np2), by rw [upd_same]; exact congrArg (fun z => some (HO.lst z)) em2, lm, fun k hk => ?_⟩
        have hk2 := mm k hk
        simp only [List.mem_cons, List.not_mem_nil, or_false] at hk2
        rcases hk2 with rfl | rfl | rfl <;> assumption
      · exact ⟨p0, [], rfl, same_new np0, upd_same, by decide, fun k hk => absurd hk (by simp)⟩
    rintro σ H3 ⟨p, st, rfl, s3, hp, st3, stn⟩
    have fine : Fine rows st := ⟨fun k hk => by rw [rl]; exact stn k hk, fun row hr j hj => by rw [rl]; exact (rb row hr).lt j hj, fun row hr => (rb row hr).four, st3⟩
    have hD3 := s3 _ _ hD
    have hR3 := hR.same s3
    have lq : qs.length = n := by rw [hR.len, rl]
    -- handed
    refine ⟨_, rfl, D, rfl, ⟨_, SqL.of hD3⟩, fun G nG => ?_⟩
    refine lc_list (K := K) (a := D) (xs := qs.map V.ref) (fun i H' => Same H3 H' ∧ ∃ hs : List Addr, H' G = some (.lst (hs.map V.ref)) ∧ RowsAt H' hs (rows.take i) ∧ ∀ x ∈ hs, x ≠ G)
      ⟨same_new nG, [], upd_same, RowsAt.nil, fun x hx => absurd hx (by simp)⟩ (fun i H' _ ⟨s4, _⟩ => SqL.of (s4 _ _ hD3)) ?_ ?_
    · rintro i x H4 hx ⟨s4, hs, hG, hA, ne⟩
      rw [List.getElem?_map] at hx
      obtain ⟨q0, hq0, rfl⟩ : ∃ q0, qs[i]? = some q0 ∧ x = V.ref q0 := by
        cases e : qs[i]? with
        | none => rw [e] at hx; cases hx
        | some o => rw [e] at hx; exact ⟨o, rfl, (Option.some.inj hx).symm⟩
      have hi : i < rows.length := by
        rw [← hR.len]
        exact (List.getElem?_eq_some_iff.mp hq0).1
      obtain ⟨row, hrow⟩ : ∃ row, rows[i]? = some row := ⟨_, List.getElem?_eq_getElem hi⟩
      obtain ⟨q1, hq1, hrow1⟩ := hR3.at_ i row hrow
      have eq : q1 = q0 := Option.some.inj (hq1.symm.trans hq0)
      subst eq
      refine ⟨rfl, _, rfl, q1, _, rfl, .inl (SqL.of (s4 _ _ hrow1)), fun z nz => ?_⟩
      have nGz : G ≠ z := ne_of_none hG nz
      have ls : hs.length = i := by
        rw [hA.len, List.length_take]
        omega
      refine ⟨_, by rw [upd_ne nGz]; exact hG, size300 (by rw [List.length_map]; omega), same_put (s4.trans (same_new nz)) nG, hs ++ [z], ?_, ?_, fun y hy => ?_⟩
      · rw [upd_same, List.map_append]
        rfl
      · rw [List.take_add_one, hrow]
        refine RowsAt.upd ((hA.same (same_new nz)).push upd_same) fun y hy => ?_
        rcases List.mem_append.mp hy with hy | hy
        · exact ne y hy
        · rw [List.mem_singleton] at hy
          exact hy ▸ nGz.symm
      · rcases List.mem_append.mp hy with hy | hy
        · exact ne y hy
        · rw [List.mem_singleton] at hy
          exact hy ▸ nGz.symm
    rintro H4 ⟨s4, hs, hG, hA, _⟩
    rw [List.length_map, lq, ← rl, List.take_length] at hA
    -- begun
    refine ⟨_, rfl, p, _, rfl, .inl (SqL.of (s4 _ _ hp)), fun b nb => ?_⟩
    have s5 : Same H4 (upd H4 b (.lst (st.map nV))) := same_new nb
    -- found
    refine ⟨_, rfl, _, rfl, G, b, hs, rows, st, rfl, s5 _ _ hG, hA.same s5, upd_same, fine, by omega, fun H6 r s6 nr hr6 => ?_⟩
    have s36 : Same H3 H6 := s4.trans (s5.trans s6)
    -- numbers(found, came(rows_here, starts))
    refine ⟨_, rfl, _, rfl, _, rfl, D, p, qs, rows, st, rfl, s36 _ _ hD3, hR3.same s36, s36 _ _ hp, fine, by omega, fun H7 c s7 nc hc7 => ?_⟩
    refine ⟨r, c, _, rfl, s7 _ _ hr6, hc7, plain_int _, ?_, true, rfl, iteF ?_⟩
    · rw [List.length_map]
      exact Nat.le_trans rchI_len (by omega)
    have s37 := s36.trans s7
    -- len(handed) != len(rows_here) or not numbers(begun, starts)
    refine ⟨_, rfl, G, _, rfl, .inl (SqL.of (s7 _ _ (s6 _ _ (s5 _ _ hG)))), _, rfl, D, _, rfl, .inl (SqL.of (s37 _ _ hD3)), rfl, _, rfl, ?_⟩
    have el : (hs.map V.ref).length = (qs.map V.ref).length := by rw [List.length_map, List.length_map, hA.len, hR.len]
    rw [el, decide_eq_true rfl]
    refine iteF ?_
    refine ⟨_, rfl, _, rfl, b, p, _, rfl, s7 _ _ (s6 _ _ upd_same), s37 _ _ hp, plain_nat _, by rw [List.length_map]; omega, true, rfl, iteF ?_⟩
    -- for k in range(len(rows_here))
    refine ⟨_, rfl, D, _, rfl, .inl (SqL.of (s37 _ _ hD3)), _, rfl, by omega, by rw [List.length_map]; omega, ?_⟩
    rw [Int.toNat_natCast, List.length_map, lq]
    have hA7 : RowsAt H7 hs rows := (hA.same s5).same (s6.trans s7)
    have hR7 : RowsAt H7 qs rows := hR3.same s37
    refine for_range (fun i σ H' => ∃ y8 : Option V, σ = [some (.ref l), some (.int (n : Int)), some (.ref D), some (.int (cellOf ns 2)), some (.ref p), some (.ref G), some (.ref b), some (.ref r), y8, none] ∧ H' = H7) ⟨none, rfl, rfl⟩ ?_ ?_
    · rintro i σ H' hi ⟨y8, rfl, rfl⟩
      obtain ⟨row, hrow⟩ : ∃ row, rows[i]? = some row := ⟨_, List.getElem?_eq_getElem (by rw [rl]; exact hi)⟩
      obtain ⟨q1, hq1, hrow1⟩ := hR7.at_ i row hrow
      obtain ⟨q2, hq2, hrow2⟩ := hA7.at_ i row hrow
      have ix1 : atI (qs.map V.ref) (0 + (i : Int)) = some (.ref q1) := by rw [Int.zero_add]; exact atI_nat (by rw [List.getElem?_map, hq1]; rfl)
      have ix2 : atI (hs.map V.ref) (0 + (i : Int)) = some (.ref q2) := by rw [Int.zero_add]; exact atI_nat (by rw [List.getElem?_map, hq2]; rfl)
      refine ⟨_, rfl, _, rfl, G, _, _, _, rfl, rfl, SqL.of (s7 _ _ (s6 _ _ (s5 _ _ hG))), ix2, _, rfl, _, rfl, D, _, _, _, rfl, rfl, SqL.of (s37 _ _ hD3), ix1, ?_⟩
      have r4 := fine.four row (List.mem_of_getElem? hrow)
      exact ⟨q2, q1, _, rfl, hrow2, hrow1, plain_opt _, by rw [List.length_map]; omega, true, rfl, iteF ⟨_, rfl, rfl⟩⟩
    · rintro σ H' ⟨y8, rfl, rfl⟩
      exact q _
end
end K1

set_option Elab.async false
set_option linter.all false
set_option maxRecDepth 100000
set_option maxHeartbeats 4000000
namespace K1
open PySem PySem.Spec PyProof.Rows L2 KS KM KG
/-! ### what the top has written; the head -/
theorem all_mk {l : PySem.W.OpenLaw} {w : World} {K : PySem.W.Frag} {h : Heap} {mg : Str → Option Value} {fa : Addr} (X : K.In h) (G : h.Ns mainGlobals mg) (hfa : mg "law" = some (.ref fa))
    {f_reach f__law_cell_at f__law_whole f__law_numbers f__law_rows f__law_came f_law : Addr} {od_reach an_reach od__law_cell_at an__law_cell_at od__law_whole an__law_whole od__law_numbers an__law_numbers od__law_rows an__law_rows od__law_came an__law_came od_law an_law : Option Addr} {sl_reach sl__law_cell_at sl__law_whole sl__law_numbers sl__law_rows sl__law_came sl_law : Array (Option Value)} {oc_reach kV_reach dc_reach pm_reach cd_reach ct_reach oc__law_cell_at kV__law_cell_at dc__law_cell_at pm__law_cell_at cd__law_cell_at ct__law_cell_at oc__law_whole kV__law_whole dc__law_whole pm__law_whole cd__law_whole ct__law_whole oc__law_numbers kV__law_numbers dc__law_numbers pm__law_numbers cd__law_numbers ct__law_numbers oc__law_rows kV__law_rows dc__law_rows pm__law_rows cd__law_rows ct__law_rows oc__law_came kV__law_came dc__law_came pm__law_came cd__law_came ct__law_came oc_law kV_law dc_law pm_law cd_law ct_law : Value}
    (a_reach : PySem.W.nsIn K mainGlobals "reach" = some (some (.ref f_reach)))
    (l_reach : K.lookup f_reach = some ⟨oc_reach, od_reach, .func (PySem.W.fnOf "reach" "reach" (defArgs sReach) (defBody sReach) (defScope sReach) .none kV_reach dc_reach pm_reach an_reach cd_reach ct_reach), sl_reach⟩) (c_reach : PySem.W.codeIn K cd_reach "reach" = true) (k_reach : PySem.W.keepIn K (.ref f_reach) = true)
    (a__law_cell_at : PySem.W.nsIn K mainGlobals "_law_cell_at" = some (some (.ref f__law_cell_at)))
    (l__law_cell_at : K.lookup f__law_cell_at = some ⟨oc__law_cell_at, od__law_cell_at, .func (PySem.W.fnOf "_law_cell_at" "_law_cell_at" (defArgs sCellAt) (defBody sCellAt) (defScope sCellAt) .none kV__law_cell_at dc__law_cell_at pm__law_cell_at an__law_cell_at cd__law_cell_at ct__law_cell_at), sl__law_cell_at⟩) (c__law_cell_at : PySem.W.codeIn K cd__law_cell_at "_law_cell_at" = true) (k__law_cell_at : PySem.W.keepIn K (.ref f__law_cell_at) = true)
    (a__law_whole : PySem.W.nsIn K mainGlobals "_law_whole" = some (some (.ref f__law_whole)))
    (l__law_whole : K.lookup f__law_whole = some ⟨oc__law_whole, od__law_whole, .func (PySem.W.fnOf "_law_whole" "_law_whole" (defArgs sWhole) (defBody sWhole) (defScope sWhole) .none kV__law_whole dc__law_whole pm__law_whole an__law_whole cd__law_whole ct__law_whole), sl__law_whole⟩) (c__law_whole : PySem.W.codeIn K cd__law_whole "_law_whole" = true) (k__law_whole : PySem.W.keepIn K (.ref f__law_whole) = true)
    (a__law_numbers : PySem.W.nsIn K mainGlobals "_law_numbers" = some (some (.ref f__law_numbers)))
    (l__law_numbers : K.lookup f__law_numbers = some ⟨oc__law_numbers, od__law_numbers, .func (PySem.W.fnOf "_law_numbers" "_law_numbers" (defArgs sNumbers) (defBody sNumbers) (defScope sNumbers) .none kV__law_numbers dc__law_numbers pm__law_numbers an__law_numbers cd__law_numbers ct__law_numbers), sl__law_numbers⟩) (c__law_numbers : PySem.W.codeIn K cd__law_numbers "_law_numbers" = true) (k__law_numbers : PySem.W.keepIn K (.ref f__law_numbers) = true)
    (a__law_rows : PySem.W.nsIn K mainGlobals "_law_rows" = some (some (.ref f__law_rows)))
    (l__law_rows : K.lookup f__law_rows = some ⟨oc__law_rows, od__law_rows, .func (PySem.W.fnOf "_law_rows" "_law_rows" (defArgs sRows) (defBody sRows) (defScope sRows) .none kV__law_rows dc__law_rows pm__law_rows an__law_rows cd__law_rows ct__law_rows), sl__law_rows⟩) (c__law_rows : PySem.W.codeIn K cd__law_rows "_law_rows" = true) (k__law_rows : PySem.W.keepIn K (.ref f__law_rows) = true)
    (a__law_came : PySem.W.nsIn K mainGlobals "_law_came" = some (some (.ref f__law_came)))
    (l__law_came : K.lookup f__law_came = some ⟨oc__law_came, od__law_came, .func (PySem.W.fnOf "_law_came" "_law_came" (defArgs sCame) (defBody sCame) (defScope sCame) .none kV__law_came dc__law_came pm__law_came an__law_came cd__law_came ct__law_came), sl__law_came⟩) (c__law_came : PySem.W.codeIn K cd__law_came "_law_came" = true) (k__law_came : PySem.W.keepIn K (.ref f__law_came) = true)
    (a_law : PySem.W.nsIn K mainGlobals "law" = some (some (.ref f_law)))
    (l_law : K.lookup f_law = some ⟨oc_law, od_law, .func (PySem.W.fnOf "law" "law" (defArgs sLaw) (defBody sLaw) (defScope sLaw) .none kV_law dc_law pm_law an_law cd_law ct_law), sl_law⟩) (c_law : PySem.W.codeIn K cd_law "law" = true) (k_law : PySem.W.keepIn K (.ref f_law) = true)
    (z_bool : PySem.W.nsIn K mainGlobals "bool" = some none)
    (z_int : PySem.W.nsIn K mainGlobals "int" = some none)
    (z_isinstance : PySem.W.nsIn K mainGlobals "isinstance" = some none)
    (z_len : PySem.W.nsIn K mainGlobals "len" = some none)
    (z_list : PySem.W.nsIn K mainGlobals "list" = some none)
    (z_min : PySem.W.nsIn K mainGlobals "min" = some none)
    (z_range : PySem.W.nsIn K mainGlobals "range" = some none)
    (z_set : PySem.W.nsIn K mainGlobals "set" = some none)
    (z_sorted : PySem.W.nsIn K mainGlobals "sorted" = some none) :
    ∃ fd : FuncData, (∀ (s : Shared) (v : Value), BindsTo s fd ⟨[v], []⟩ [("_law_script", v)]) ∧ ∀ base : Heap, K.In base → base.Ns mainGlobals mg → FnOk l.prog w K mg base CX0 3 fa fd ["_law_script"] (spLaw K) := by
  have e := hfa.symm.trans (PySem.W.mg_of X G a_law)
  cases e
  have F_reach := fun_mk (st := sReach) l_reach c_reach k_reach
  have b_reach := F_reach.binds (ps := ["rows", "starts"]) fun _ _ _ _ _ _ us hl => match us, hl with | [_, _], _ => rfl
  have m_reach := PySem.W.mg_of X G a_reach
  have F__law_cell_at := fun_mk (st := sCellAt) l__law_cell_at c__law_cell_at k__law_cell_at
  have b__law_cell_at := F__law_cell_at.binds (ps := ["_law_script", "_law_k"]) fun _ _ _ _ _ _ us hl => match us, hl with | [_, _], _ => rfl
  have m__law_cell_at := PySem.W.mg_of X G a__law_cell_at
  have F__law_whole := fun_mk (st := sWhole) l__law_whole c__law_whole k__law_whole
  have b__law_whole := F__law_whole.binds (ps := ["_law_found"]) fun _ _ _ _ _ _ us hl => match us, hl with | [_], _ => rfl
  have m__law_whole := PySem.W.mg_of X G a__law_whole
  have F__law_numbers := fun_mk (st := sNumbers) l__law_numbers c__law_numbers k__law_numbers
  have b__law_numbers := F__law_numbers.binds (ps := ["_law_found", "_law_due"]) fun _ _ _ _ _ _ us hl => match us, hl with | [_, _], _ => rfl
  have m__law_numbers := PySem.W.mg_of X G a__law_numbers
  have F__law_rows := fun_mk (st := sRows) l__law_rows c__law_rows k__law_rows
  have b__law_rows := F__law_rows.binds (ps := ["_law_script", "_law_size"]) fun _ _ _ _ _ _ us hl => match us, hl with | [_, _], _ => rfl
  have m__law_rows := PySem.W.mg_of X G a__law_rows
  have F__law_came := fun_mk (st := sCame) l__law_came c__law_came k__law_came
  have b__law_came := F__law_came.binds (ps := ["_law_rows_here", "_law_starts"]) fun _ _ _ _ _ _ us hl => match us, hl with | [_, _], _ => rfl
  have m__law_came := PySem.W.mg_of X G a__law_came
  have F_law := fun_mk (st := sLaw) l_law c_law k_law
  have b_law := F_law.binds (ps := ["_law_script"]) fun _ _ _ _ _ _ us hl => match us, hl with | [_], _ => rfl
  have m_law := PySem.W.mg_of X G a_law
  have m_bool := PySem.W.mg_none_of X G z_bool
  have m_int := PySem.W.mg_none_of X G z_int
  have m_isinstance := PySem.W.mg_none_of X G z_isinstance
  have m_len := PySem.W.mg_none_of X G z_len
  have m_list := PySem.W.mg_none_of X G z_list
  have m_min := PySem.W.mg_none_of X G z_min
  have m_range := PySem.W.mg_none_of X G z_range
  have m_set := PySem.W.mg_none_of X G z_set
  have m_sorted := PySem.W.mg_none_of X G z_sorted
  refine ⟨PySem.W.fnOf "law" "law" (defArgs sLaw) (defBody sLaw) (defScope sLaw) .none kV_law dc_law pm_law an_law cd_law ct_law, fun s v => .of_eq rfl, fun base _ _ => ?_⟩
  have D_cell : Df l.prog w K mg base CX0 1 "_law_cell_at" f__law_cell_at _ ["_law_script", "_law_k"] (spCell K) := ⟨ok_cell F__law_cell_at m_len, m__law_cell_at, k__law_cell_at, b__law_cell_at⟩
  have D_whole : Df l.prog w K mg base CX0 1 "_law_whole" f__law_whole _ ["_law_found"] spWhole := ⟨ok_whole F__law_whole m_isinstance m_int m_bool, m__law_whole, k__law_whole, b__law_whole⟩
  have D_numbers : Df l.prog w K mg base CX0 2 "_law_numbers" f__law_numbers _ ["_law_found", "_law_due"] spNumbers := ⟨ok_numbers F__law_numbers D_whole m_isinstance m_list m_len m_range, m__law_numbers, k__law_numbers, b__law_numbers⟩
  have D_rows : Df l.prog w K mg base CX0 2 "_law_rows" f__law_rows _ ["_law_script", "_law_size"] (spRows K) := ⟨ok_rows F__law_rows D_cell m_range m_min, m__law_rows, k__law_rows, b__law_rows⟩
  have D_came : Df l.prog w K mg base CX0 1 "_law_came" f__law_came _ ["_law_rows_here", "_law_starts"] (spCame K) := ⟨ok_came F__law_came m_range m_len, m__law_came, k__law_came, b__law_came⟩
  have D_reach : Df l.prog w K mg base CX0 1 "reach" f_reach _ ["rows", "starts"] (spReach K) := ⟨ok_reach F_reach m_set m_list m_sorted, m_reach, k_reach, b_reach⟩
  exact ok_law F_law D_cell D_numbers D_rows D_came D_reach m_range m_list m_len
end K1
open PySem PySem.W PyProof.Rows
set_option maxHeartbeats 0 in
theorem PySem.Challenge.cw_markpause_k01_reach_holds : PySem.Challenge.rw_markpause_k01_reach.Holds := by
  w_on; o_law; k_head; (case hw => w_witness2)
  k_fill
  refine L2.walk_of (l := PySem.Challenge.rw_markpause_k01_reach) (n := 63) (k := 3) (x := "_law_script") (CX := fun _ => L2.CX0) (sp := fun w => K1.spLaw _) rfl (by decide) rfl ⟨rfl, by decide, by decide⟩ (fun w h Y => PySem.W.kIn_of Y) ?F (fun _ _ a ns hl _ hS => ⟨a, ns, rfl, hS, fun _ => rfl⟩) (fun _ _ _ _ _ h => h)
  case F =>
    intro w mg fa h KX G hmg
    refine' K1.all_mk KX G hmg ?a_reach ?l_reach ?c_reach ?k_reach ?a__law_cell_at ?l__law_cell_at ?c__law_cell_at ?k__law_cell_at ?a__law_whole ?l__law_whole ?c__law_whole ?k__law_whole ?a__law_numbers ?l__law_numbers ?c__law_numbers ?k__law_numbers ?a__law_rows ?l__law_rows ?c__law_rows ?k__law_rows ?a__law_came ?l__law_came ?c__law_came ?k__law_came ?a_law ?l_law ?c_law ?k_law ?z_bool ?z_int ?z_isinstance ?z_len ?z_list ?z_min ?z_range ?z_set ?z_sorted
    (case a_reach => k_is); (case l_reach => k_is); (case c_reach => k_is); (case k_reach => k_is); (case a__law_cell_at => k_is); (case l__law_cell_at => k_is); (case c__law_cell_at => k_is); (case k__law_cell_at => k_is); (case a__law_whole => k_is); (case l__law_whole => k_is); (case c__law_whole => k_is); (case k__law_whole => k_is); (case a__law_numbers => k_is); (case l__law_numbers => k_is); (case c__law_numbers => k_is); (case k__law_numbers => k_is); (case a__law_rows => k_is); (case l__law_rows => k_is); (case c__law_rows => k_is); (case k__law_rows => k_is); (case a__law_came => k_is); (case l__law_came => k_is); (case c__law_came => k_is); (case k__law_came => k_is); (case a_law => k_is); (case l_law => k_is); (case c_law => k_is); (case k_law => k_is); (case z_bool => k_is); (case z_int => k_is); (case z_isinstance => k_is); (case z_len => k_is); (case z_list => k_is); (case z_min => k_is); (case z_range => k_is); (case z_set => k_is); (case z_sorted => k_is)

