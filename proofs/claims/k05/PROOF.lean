import PyProof.Rows.All
import Wide.All
import OpenK.AllK
import Wide.FinOn
import HandS.ForMost
import HandS.ForExc
import HandS.IsInst
import HandS.More
import HandS.SortInts
import HandS.DictComp
import HandS.Codes
import HandS.NoneIn
import HandS.TryOnly
import HandS.TryMany
import HandS.ExcOwn
import HandS.SetFor
import HandS.ExcIs
import HandS.HotCalls
import HandS.List
import PySem.Challenge.RW_markpause_k05_refused
set_option Elab.async false
set_option linter.all false
set_option maxRecDepth 100000
set_option maxHeartbeats 4000000
/-! Rules whose reading names the written part K by a letter of its own (so that they stand in a comprehension too); small facts of heaps. -/
namespace KG
open PySem PySem.Spec PyProof.Rows L2
section
variable {X : Cx} {K : PySem.W.Frag}
theorem ixL (e : X.K = K := by rfl) : IxR X (rIxL K) := by subst e; exact ix_list
theorem ixT (e : X.K = K := by rfl) : IxR X (rIxT K) := by subst e; exact ix_tup
theorem slL (e : X.K = K := by rfl) : SlR X (rSlL K) := by subst e; exact sl_list
def rLenQ (K : PySem.W.Frag) : List V → Hp → VK → Prop := fun xs H Q => ∃ p ys, xs = [.ref p] ∧ (SqL K H p ys ∨ SqT K H p ys) ∧ Q (.int ys.length) H
theorem lenS (e : X.K = K := by rfl) : CallR X (.builtin "len") (rLenQ K) := by subst e; exact call_len_seq
def rListQ (K : PySem.W.Frag) : List V → Hp → VK → Prop := fun xs H Q => ∃ p ys, xs = [.ref p] ∧ (SqL K H p ys ∨ SqT K H p ys) ∧ ∀ l, H l = none → Q (.ref l) (upd H l (.lst ys))
theorem listOf (e : X.K = K := by rfl) : CallR X (.type "list") (rListQ K) := by subst e; exact call_list_of
theorem isiK (e : X.K = K := by rfl) : CallR X (.builtin "isinstance") (rIsi K) := by subst e; exact call_isi
theorem inSeq (e : X.K = K := by rfl) : OpR X (compareOp .In) (rIn K false) := by subst e; exact op_in_seq
theorem notInSeq (e : X.K = K := by rfl) : OpR X (compareOp .NotIn) (rIn K true) := by subst e; exact op_notIn_seq
theorem eqDK (hu : X.A.units + 64 < cLine) (e : X.K = K := by rfl) : OpR X (compareOp .Eq) (rEqD K) := by subst e; exact op_eqD hu
theorem neDK (hu : X.A.units + 64 < cLine) (e : X.K = K := by rfl) : OpR X (compareOp .NotEq) (rNeD K) := by subst e; exact op_neD hu
theorem peFld {e : Expr} {ta : TE} {f : Str} {pos : Pos} (he : PE X e ta) (hb : attributeBase e f X.env (eval e X.env) = eval e X.env) (hK : X.K = K := by rfl) : PE X (.Attribute e f pos) (tFld K ta f) := by
  subst hK
  exact pe_fld he hb
end
theorem same_new {H : Hp} {p : Addr} {o : HO} (h : H p = none) : Same H (upd H p o) := fun b x e => by
  rw [upd_ne (ne_of_none e h)]
  exact e
theorem same_put {H0 H : Hp} {p : Addr} {o : HO} (s : Same H0 H) (h : H0 p = none) : Same H0 (upd H p o) := fun b x e => by
  rw [upd_ne (ne_of_none e h)]
  exact s _ _ e
theorem size2k {n : Nat} (h : n ≤ 4000) : n < sizeLine := Nat.lt_of_le_of_lt h (by decide)
theorem ixN_nat {n j : Nat} (h : j < n) : ixN n (j : Int) = some j := by
  unfold ixN
  rw [if_pos (by omega), if_pos (by omega)]
  simp
/-- a def as it stands: kept promise, name, binding -/
structure Df (P : Program) (w : World) (K : PySem.W.Frag) (mg : Str → Option Value) (base : Heap) (CX : CXT) (lv : Nat) (name : Str) (f : Addr) (fd : FuncData) (ps : List Str) (sp : Sp) : Prop where
  g : FnOk P w K mg base CX lv f fd ps sp
  m : mg name = some (.ref f)
  k : PySem.W.keepIn K (.ref f) = true
  b : Binds K fd ps []
end KG

set_option Elab.async false
set_option linter.all false
set_option maxRecDepth 100000
set_option maxHeartbeats 4000000
/-! sorted(a dict with whole numbers as keys), any number; a dict comprehension over a list. -/
namespace KS
open PySem PySem.Spec PyProof.Rows L2
def rSortedD : List V → Hp → VK → Prop := fun xs H Q => ∃ (a : Addr) (kvs : List (Key × V)) (ks : List Int), xs = [.ref a] ∧ Rd H a (.dK kvs) ∧ kvs.map (·.1) = ks.map Sum.inl ∧
    ∀ (ys : List Int) (p : Addr), ys.Perm ks → ys.Pairwise (· ≤ ·) → H p = none → Q (.ref p) (upd H p (.lst (ys.map V.int)))
theorem cr_sortedD {X : Cx} (hcalm : X.calm = true) : CallR X (.builtin "sorted") rSortedD := by
  intro pins s σ H xs us Q I r q
  obtain ⟨a, kvs, ks, ex, hd, hks, q⟩ := q
  subst ex
  obtain ⟨u, eu, rx⟩ := vals1 r
  subst eu
  cases rx
  obtain ⟨z, lo, vs, rel, dd⟩ := dk_rd I.hok hd
  obtain ⟨ep, hat⟩ := dd.dictAt
  have hkeys : vs.map (·.1) = ks.map Sum.inl := rel.keys.symm.trans hks
  have hl : vs.length = ks.length := by
    have e := congrArg List.length hkeys
    rw [List.length_map, List.length_map] at e
    exact e
  have h16 : vs.length ≤ sizeLine := by rw [← rel.length]; exact z
  refine Calls.call_function_entry PyProof.Rows.kind_sorted PyProof.Rows.plain_sorted PyProof.Rows.entry_sorted (PyProof.Rows.args_sorted1 _) ?_
  unfold Builtin.«sorted»
  refine wpAny_bind (m := checkCount "sorted" 1 1 _) (wpAny_pure ?_)
  refine wpAny_bind (PySem.W.kdu_collect (A := X.A.in1) (PySem.W.kdl_dict (knd := mixKind X.prog X.w) (kvs := vs) (ep := ep) lo) (I.ok.hd hcalm) hat h16 fun h' tk acc hk hacc => ?_)
  have hal : acc.toList.length = ks.length := by rw [Array.length_toList, hacc.1, hl]
  have hS : IntsAre acc.toList ks := ints_each hal fun j v e => by
    obtain ⟨k, x, e1, e2⟩ := hacc.2 j v (by rw [← Array.getElem?_toList]; exact e)
    have e3 : (vs.map (·.1))[j]? = some k := by rw [List.getElem?_map, e1]; rfl
    rw [hkeys, List.getElem?_map] at e3
    cases e4 : ks[j]? with
    | none => rw [e4] at e3; cases e3
    | some y =>
      rw [e4] at e3
      have e5 : Sum.inl y = k := Option.some.inj e3
      subst e5
      rcases keyIs_shape (show keyIs (Sum.inl y) v = true from e2) with ⟨i, t, ek, ev⟩ | ⟨z, t, ek, ev⟩
      · cases ek
        exact ⟨y, t, rfl, ev⟩
      · cases ek
  have I1 : Inv X pins σ H { s with heap := h', toks := tk } := I.kept hk
  have hz : acc.toList.length ≤ sizeLine := by rw [hal, ← hl]; exact h16
  refine wpAny_bind (wpAny_newList ?_ hz)
  have hoL : (h'.push (seqObj "list" acc.toList.toArray 0)).get? h'.objs.size = some (seqObj "list" acc.toList.toArray 0) := Heap.get?_push_size _ rfl
  show wpAny _ _ _ _ _ { s with heap := h'.push (seqObj "list" acc.toList.toArray 0), toks := tk }
  refine wpAny_bind (wpAny_holding (wpAny_call_entry PyProof.Rows.slot_list_sort ⟨_, hoL, rfl⟩ PyProof.Rows.entry_list_sort
    (SrtO.list_sort_ord SrtO.swo_int (s := { s with heap := h'.push (seqObj "list" acc.toList.toArray 0), toks := tk }) hoL hz (fun h2 => SrtO.ints_sortable hS h2) fun out g1 g2 => ⟨_, rfl, ?_⟩) (PyProof.Rows.args_list_sort _)))
  obtain ⟨k1, k2, k3⟩ := SrtO.ints_out hS g1 g2
  obtain ⟨e', he'⟩ := PyProof.Rows.sortedHeap_at (vs := acc.toList) (out := out.toArray) hoL
  have hlen : ((out.map SrtO.iv).map V.int).length ≤ sizeLine := by
    rw [List.length_map, k2.length_eq, ← hal]
    exact hz
  refine wpAny_pure ⟨_, rfl, .ref h'.objs.size, upd H h'.objs.size (.lst ((out.map SrtO.iv).map V.int)), I1.laid (t' := tk) (fun b u e => ?_) (Nat.le_refl _)
    (show ObjOk X.prog X.w _ _ _ (.lst ((out.map SrtO.iv).map V.int)) from ⟨hlen, out, e', vals_of_ints k1, he'⟩), rfl, q _ _ k2 k3 (I1.hok.fresh (Nat.le_refl _))⟩
  have hb : b < h'.objs.size := Heap.lt_size e
  rw [PyProof.Rows.sortedHeap_old (Nat.ne_of_lt hb) (by rw [size_push']; exact Nat.lt_succ_of_lt hb)]
  exact Heap.get?_push_of_some _ e
/-- a dict comprehension over a list that stays -/
theorem dc_list {K : PySem.W.Frag} {a : Addr} {xs : List V} {g : TG} {tt : TT} {tk tv : TE} {vs : List Nat} {σ : L2.St} {H1 : Hp} {D : Addr} {Qd : Hp → Prop} (Pv : Nat → Hp → Prop) (h0 : Pv 0 (upd H1 D (.dK []))) (hl : ∀ i H, i ≤ xs.length → Pv i H → SqL K H a xs)
    (hs : ∀ i x H, xs[i]? = some x → Pv i H → g x (wipe σ vs) H fun σ2 H2 => wipe σ2 vs = wipe σ vs ∧ tt σ2 H2 fun b H3 =>
      if b = true then tk σ2 H3 fun y H4 => tv σ2 H4 fun z H5 => ∃ kvs k, y = kV k ∧ H5 D = some (.dK kvs) ∧ kvs.length < sizeLine ∧ Pv (i + 1) (upd H5 D (.dK (putK kvs k z))) else Pv (i + 1) H3) (hd : ∀ H, Pv xs.length H → Qd H) :
    ∃ W : Nat → Nat → Hp → Prop, (∃ m, W 0 m (upd H1 D (.dK []))) ∧ ∀ i m H, W i m H →
      ((Itl K a).stop i H ∧ Qd H) ∨ ((Itl K a).go i H ∧ ∃ Nx : Hp → Prop, (∀ H', Nx H' → ∃ m', m' < m ∧ W (i + 1) m' H') ∧ ∀ x H', (Itl K a).yld i H x H' → g x (wipe σ vs) H' fun σ2 H2 => wipe σ2 vs = wipe σ vs ∧ tt σ2 H2 fun b H3 =>
        if b = true then tk σ2 H3 fun y H4 => tv σ2 H4 fun z H5 => ∃ kvs k, y = kV k ∧ H5 D = some (.dK kvs) ∧ kvs.length < sizeLine ∧ Nx (upd H5 D (.dK (putK kvs k z))) else Nx H3) := by
  refine ⟨fun i m H => m = xs.length - i ∧ i ≤ xs.length ∧ Pv i H, ⟨xs.length, by simp, Nat.zero_le _, h0⟩, ?_⟩
  rintro i m H ⟨rfl, hi, p⟩
  have q := hl i H hi p
  by_cases hlt : i < xs.length
  · refine .inr ⟨⟨xs, xs[i], q, by simp [hlt]⟩, Pv (i + 1), fun H' p' => ⟨xs.length - (i + 1), by omega, rfl, hlt, p'⟩, fun x H' y => ?_⟩
    obtain ⟨e, y⟩ := y
    subst e
    exact hs i x _ (y xs q) p
  · have e : i = xs.length := by omega
    subst e
    exact .inl ⟨⟨xs, q, Nat.le_refl _⟩, hd H p⟩
end KS

set_option linter.all false
/-! The mathematics of the heap and its collector: no Python here. -/
namespace MM
abbrev Row := List (Option Nat)
structure HS where
  hands : List (Option Nat)
  room : Nat
  rows : List Row
  keys : List Nat
  ended : Nat
  old : List Nat
  marks : List Nat
  line : List Nat
  unsw : List Nat
  snap : List Nat
def rowOf (rows : List Row) (k : Nat) : Row := rows.getD k []
abbrev HS.row (S : HS) (k : Nat) : Row := rowOf S.rows k
theorem rowOf_at {rows : List Row} {k : Nat} {row : Row} (h : rows[k]? = some row) : rowOf rows k = row := by
  unfold rowOf
  rw [List.getD_eq_getElem?_getD, h]; rfl
theorem rowOf_lt {rows : List Row} {k : Nat} (h : k < rows.length) : rows[k]? = some (rowOf rows k) := by
  unfold rowOf
  rw [List.getD_eq_getElem?_getD, List.getElem?_eq_getElem h]; rfl
theorem rowOf_ge {rows : List Row} {k : Nat} (h : rows.length ≤ k) : rowOf rows k = [] := by
  unfold rowOf
  rw [List.getD_eq_getElem?_getD, List.getElem?_eq_none h]; rfl
theorem rowOf_mem {rows : List Row} {k : Nat} (h : k < rows.length) : rowOf rows k ∈ rows := List.mem_of_getElem? (rowOf_lt h)
theorem rowOf_push {rows : List Row} {r : Row} (k : Nat) : rowOf (rows ++ [r]) k = if k = rows.length then r else rowOf rows k := by
  by_cases h : k < rows.length
  · rw [if_neg (by omega)]
    refine rowOf_at ?_
    rw [List.getElem?_append_left h]
    exact rowOf_lt h
  · by_cases e : k = rows.length
    · rw [if_pos e]
      refine rowOf_at ?_
      rw [e, List.getElem?_append_right (Nat.le_refl _), Nat.sub_self]; rfl
    · rw [if_neg e, rowOf_ge (by rw [List.length_append, List.length_singleton]; omega), rowOf_ge (by omega)]
theorem rowOf_set {rows : List Row} {b : Nat} {r : Row} (k : Nat) (hb : b < rows.length) : rowOf (rows.set b r) k = if k = b then r else rowOf rows k := by
  unfold rowOf
  rw [List.getD_eq_getElem?_getD, List.getD_eq_getElem?_getD, List.getElem?_set]
  by_cases e : b = k
  · subst e
    rw [if_pos rfl, if_pos hb, if_pos rfl]; rfl
  · rw [if_neg e, if_neg (fun z => e z.symm)]

/-! ### what can be come to -/
inductive Rc (hands : List (Option Nat)) (rows : List Row) : Nat → Prop
  | hand {k : Nat} (h : some k ∈ hands) : Rc hands rows k
  | slot {k j : Nat} (h : Rc hands rows k) (hj : some j ∈ rowOf rows k) : Rc hands rows j

/-! ### rising lists -/
theorem rising_nodup {l : List Nat} (h : l.Pairwise (· < ·)) : l.Nodup := h.imp fun h => by omega
theorem rising_ext : ∀ (l m : List Nat), l.Pairwise (· < ·) → m.Pairwise (· < ·) → (∀ k, k ∈ l ↔ k ∈ m) → l = m
  | [], [], _, _, _ => rfl
  | [], b :: m, _, _, h => absurd ((h b).mpr List.mem_cons_self) (by simp)
  | a :: l, [], _, _, h => absurd ((h a).mp List.mem_cons_self) (by simp)
  | a :: l, b :: m, hl, hm, h => by
    obtain ⟨h1, h2⟩ := List.pairwise_cons.mp hl
    obtain ⟨h3, h4⟩ := List.pairwise_cons.mp hm
    have e : a = b := by
      rcases List.mem_cons.mp ((h a).mp List.mem_cons_self) with e | e
      · exact e
      · rcases List.mem_cons.mp ((h b).mpr List.mem_cons_self) with e2 | e2
        · exact e2.symm
        · have x := h1 b e2
          have y := h3 a e
          omega
    subst e
    have e2 : l = m := rising_ext l m h2 h4 fun k => by
      have q := h k
      rw [List.mem_cons, List.mem_cons] at q
      constructor
      · intro hk
        rcases q.mp (.inr hk) with z | z
        · have := h1 k hk
          omega
        · exact z
      · intro hk
        rcases q.mpr (.inr hk) with z | z
        · have := h3 k hk
          omega
        · exact z
    rw [e2]
theorem nodup_sub : ∀ (l m : List Nat), l.Nodup → (∀ k ∈ l, k ∈ m) → l.length ≤ m.length
  | [], _, _, _ => Nat.zero_le _
  | a :: l, m, nd, h => by
    obtain ⟨h1, h2⟩ := List.nodup_cons.mp nd
    have hm := h a List.mem_cons_self
    have q : l.length ≤ (m.erase a).length := nodup_sub l (m.erase a) h2 fun k hk => by
      refine (List.mem_erase_of_ne fun (e : k = a) => h1 (e ▸ hk)).mpr (h k (List.mem_cons_of_mem _ hk))
    have := List.length_erase_of_mem hm
    have : 0 < m.length := List.length_pos_of_mem hm
    rw [List.length_cons]
    omega

/-! ### marking -/
def HS.mark (S : HS) (k : Nat) : HS := if k ∈ S.old ∧ k ∉ S.marks then { S with marks := S.marks ++ [k], line := S.line ++ [k] } else S
def HS.markO (S : HS) : Option Nat → HS
  | none => S
  | some k => S.mark k
def HS.markAll (S : HS) (l : List (Option Nat)) : HS := l.foldl HS.markO S
/-- what is marked anew, in order -/
def ext (old : List Nat) : List Nat → List (Option Nat) → List Nat
  | _, [] => []
  | m, none :: r => ext old m r
  | m, some k :: r => if k ∈ old ∧ k ∉ m then k :: ext old (m ++ [k]) r else ext old m r
theorem markAll_eq : ∀ (l : List (Option Nat)) (S : HS), S.markAll l = { S with marks := S.marks ++ ext S.old S.marks l, line := S.line ++ ext S.old S.marks l }
  | [], S => by simp [HS.markAll, ext]
  | none :: r, S => by
    show S.markAll r = _
    rw [markAll_eq r S]
    rfl
  | some k :: r, S => by
    show (S.mark k).markAll r = _
    unfold HS.mark ext
    by_cases h : k ∈ S.old ∧ k ∉ S.marks
    · rw [if_pos h, if_pos h, markAll_eq r]
      simp
    · rw [if_neg h, if_neg h, markAll_eq r]
theorem mem_ext : ∀ (l : List (Option Nat)) (old m : List Nat) (k : Nat), k ∈ ext old m l ↔ some k ∈ l ∧ k ∈ old ∧ k ∉ m
  | [], old, m, k => by simp [ext]
  | none :: r, old, m, k => by
    unfold ext
    rw [mem_ext r old m k]
    simp
  | some j :: r, old, m, k => by
    unfold ext
    by_cases h : j ∈ old ∧ j ∉ m
    · rw [if_pos h, List.mem_cons, mem_ext r old (m ++ [j]) k]
      by_cases e : k = j
      · subst e
        simp [h.1, h.2]
      · simp [e]
    · rw [if_neg h, mem_ext r old m k]
      by_cases e : k = j
      · subst e
        constructor
        · exact fun ⟨a, b⟩ => ⟨List.mem_cons_of_mem _ a, b⟩
        · exact fun ⟨_, b⟩ => absurd b h
      · simp [e]
theorem nodup_ext : ∀ (l : List (Option Nat)) (old m : List Nat), (ext old m l).Nodup
  | [], _, _ => List.nodup_nil
  | none :: r, old, m => nodup_ext r old m
  | some j :: r, old, m => by
    unfold ext
    by_cases h : j ∈ old ∧ j ∉ m
    · rw [if_pos h]
      refine List.nodup_cons.mpr ⟨fun z => ?_, nodup_ext r old _⟩
      exact ((mem_ext r old (m ++ [j]) j).mp z).2.2 (by simp)
    · rw [if_neg h]
      exact nodup_ext r old m
theorem nodup_app {l m : List Nat} (h1 : l.Nodup) (h2 : m.Nodup) (h : ∀ k ∈ m, k ∉ l) : (l ++ m).Nodup :=
  List.nodup_append.mpr ⟨h1, h2, fun a ha b hb e => by subst e; exact h a hb ha⟩

/-! ### the deeds and the pieces -/
def HS.make (S : HS) (h n : Nat) : HS := { S with hands := S.hands.set h (some S.rows.length), rows := S.rows ++ [List.replicate n none], keys := S.keys ++ [S.rows.length] }
def HS.setHand (S : HS) (h : Nat) (x : Option Nat) : HS := { S with hands := S.hands.set h x }
def HS.hand (S : HS) (h : Nat) : Option Nat := S.hands.getD h none
def HS.slot (S : HS) (b s : Nat) : Option Nat := (S.row b).getD s none
def HS.take (S : HS) (h b s : Nat) : HS := S.setHand h (S.slot b s)
def HS.share (S : HS) (h o : Nat) : HS := S.setHand h (S.hand o)
def HS.drop (S : HS) (h : Nat) : HS := S.setHand h none
def HS.write (S : HS) (b s : Nat) (x : Option Nat) : HS := { S with rows := S.rows.set b ((S.row b).set s x) }
def HS.put (S : HS) (b s o : Nat) : HS := (if S.line = [] then S else S.markO (S.slot b s)).write b s (S.hand o)
open Classical in
noncomputable def reached (hands : List (Option Nat)) (rows : List Row) : List Nat := (List.range rows.length).filter fun k => decide (Rc hands rows k)
noncomputable def HS.began (S : HS) : HS := ({ S with unsw := S.keys, old := S.keys, marks := [], line := [], snap := reached S.hands S.rows } : HS).markAll S.hands
def HS.markOn (S : HS) : HS := match S.line with
  | [] => S
  | b :: r => ({ S with line := r } : HS).markAll (S.row b)
def HS.sweepOn (S : HS) : HS × Option Nat := match S.unsw with
  | [] => (S, none)
  | b :: r => if b ∈ S.marks then ({ S with unsw := r }, none) else ({ S with unsw := r, keys := S.keys.filter fun k => decide (k ≠ b) }, some b)
def HS.endRound (S : HS) : HS := { S with old := [], marks := [], snap := [], ended := S.ended + 1 }
def HS.ends (S : HS) : HS := if S.unsw = [] then S.endRound else S
noncomputable def HS.step (S : HS) : HS × Option Nat :=
  if S.line = [] then (if S.unsw = [] then (S.began, none) else S.sweepOn) else (S.markOn, none)
noncomputable def HS.piece (S : HS) : HS × Option Nat := (S.step.1.ends, S.step.2)
noncomputable def HS.work : Nat → HS → HS × List Nat
  | 0, S => (S, [])
  | n + 1, S => ((HS.work n S).1.piece.1, (HS.work n S).2 ++ (HS.work n S).1.piece.2.toList)
def HS.phase (S : HS) : String := if S.line = [] then (if S.unsw = [] then "idle" else "sweeping") else "marking"

/-! ### the invariant -/
def Live (S : HS) (k : Nat) : Prop := k ∈ S.keys ∧ (k ∈ S.old → k ∈ S.snap)
inductive Gp (S : HS) : Nat → Prop
  | grey {g w : Nat} (hg : g ∈ S.line) (hw : some w ∈ S.row g) (h1 : w ∈ S.snap) (h2 : w ∉ S.marks) : Gp S w
  | white {v w : Nat} (hv : Gp S v) (hw : some w ∈ S.row v) (h1 : w ∈ S.snap) (h2 : w ∉ S.marks) : Gp S w
structure Good0 (S : HS) : Prop where
  hn : 1 ≤ S.hands.length ∧ S.hands.length ≤ 8
  rm : 1 ≤ S.room ∧ S.room ≤ 1000
  few : S.keys.length ≤ S.room
  rise : S.keys.Pairwise (· < ·)
  lt : ∀ k ∈ S.keys, k < S.rows.length
  four : ∀ row ∈ S.rows, row.length ≤ 4
  hl : ∀ k, some k ∈ S.hands → Live S k
  cl : ∀ k, Live S k → ∀ j, some j ∈ S.row k → Live S j
  oldr : S.old.Pairwise (· < ·)
  oldn : S.old.length ≤ 1000
  olt : ∀ k ∈ S.old, k < S.rows.length
  mks : ∀ k ∈ S.marks, k ∈ S.snap
  mkn : S.marks.Nodup
  ln : ∀ k ∈ S.line, k ∈ S.marks
  lnn : S.line.Nodup
  so : ∀ k ∈ S.snap, k ∈ S.old ∧ k ∈ S.keys
  sr : S.snap.Pairwise (· < ·)
  us : ∀ k ∈ S.unsw, k ∈ S.old ∧ k ∈ S.keys
  ur : S.unsw.Pairwise (· < ·)
  ok : ∀ k ∈ S.keys, k ∈ S.old → k ∈ S.snap ∨ k ∈ S.unsw
  gp : ∀ k ∈ S.snap, k ∉ S.marks → Gp S k
  un : S.line ≠ [] → S.unsw = S.old
structure Good (S : HS) : Prop extends Good0 S where
  idle : S.line = [] → S.unsw = [] → S.old = [] ∧ S.marks = [] ∧ S.snap = []
theorem Gp.line {S : HS} {k : Nat} (h : Gp S k) : S.line ≠ [] := by
  induction h with
  | grey hg => exact List.ne_nil_of_mem hg
  | white _ _ _ _ ih => exact ih
theorem Gp.one {S : HS} {k : Nat} (h : Gp S k) : k ∈ S.snap ∧ k ∉ S.marks := by
  cases h with
  | grey _ _ a b => exact ⟨a, b⟩
  | white _ _ a b => exact ⟨a, b⟩
theorem Good0.all {S : HS} (G : Good0 S) (h : S.line = []) {k : Nat} (hk : k ∈ S.snap) : k ∈ S.marks := Decidable.byContradiction fun n => (G.gp k hk n).line h
theorem Good0.one {S : HS} {k : Nat} (G : Good0 S) (h : k ∈ S.line) : k ∈ S.keys := (G.so _ (G.mks _ (G.ln _ h))).2
theorem Good0.rc {S : HS} (G : Good0 S) {k : Nat} (h : Rc S.hands S.rows k) : Live S k := by
  induction h with
  | hand h => exact G.hl _ h
  | slot _ hj ih => exact G.cl _ ih _ hj
theorem Good0.keysn {S : HS} (G : Good0 S) : S.keys.length ≤ 1000 := Nat.le_trans G.few G.rm.2
theorem Good0.snapn {S : HS} (G : Good0 S) : S.snap.length ≤ 1000 := Nat.le_trans (nodup_sub _ _ (rising_nodup G.sr) fun k h => (G.so k h).1) G.oldn
theorem Good0.marksn {S : HS} (G : Good0 S) : S.marks.length ≤ 1000 := Nat.le_trans (nodup_sub _ _ G.mkn G.mks) G.snapn
theorem Good0.linen {S : HS} (G : Good0 S) : S.line.length ≤ 1000 := Nat.le_trans (nodup_sub _ _ G.lnn G.ln) G.marksn
theorem Good0.unswn {S : HS} (G : Good0 S) : S.unsw.length ≤ 1000 := Nat.le_trans (nodup_sub _ _ (rising_nodup G.ur) fun k h => (G.us k h).1) G.oldn
theorem Good0.row4 {S : HS} (G : Good0 S) (k : Nat) : (S.row k).length ≤ 4 := by
  by_cases h : k < S.rows.length
  · exact G.four _ (rowOf_mem h)
  · rw [show S.row k = [] from rowOf_ge (Nat.le_of_not_lt h)]
    exact Nat.zero_le _

/-- other hands, all of them live -/
theorem Good.withHands {S : HS} (G : Good S) {hs : List (Option Nat)} (hl : hs.length = S.hands.length) (h : ∀ k, some k ∈ hs → Live S k) : Good { S with hands := hs } :=
  have up : ∀ k, Gp S k → Gp { S with hands := hs } k := fun k g => by
    induction g with
    | grey a b c d => exact .grey (S := { S with hands := hs }) a b c d
    | white _ b c d ih => exact .white (S := { S with hands := hs }) ih b c d
  { hn := by show 1 ≤ hs.length ∧ _; rw [hl]; exact G.hn
    rm := G.rm
    few := G.few
    rise := G.rise
    lt := G.lt
    four := G.four
    hl := h
    cl := G.cl
    oldr := G.oldr
    oldn := G.oldn
    olt := G.olt
    mks := G.mks
    mkn := G.mkn
    ln := G.ln
    lnn := G.lnn
    so := G.so
    sr := G.sr
    us := G.us
    ur := G.ur
    ok := G.ok
    gp := fun k a b => up k (G.gp k a b)
    un := G.un
    idle := G.idle }
theorem mem_set {hs : List (Option Nat)} {h : Nat} {x y : Option Nat} (e : y ∈ hs.set h x) : y ∈ hs ∨ y = x := List.mem_or_eq_of_mem_set e
theorem Good.setHand {S : HS} (G : Good S) {h : Nat} {x : Option Nat} (hx : ∀ k, x = some k → Live S k) : Good (S.setHand h x) :=
  G.withHands (by rw [List.length_set]) fun k e => (mem_set e).elim (G.hl k) fun z => hx k z.symm
theorem getD_mem {l : List (Option Nat)} {i k : Nat} (h : l.getD i none = some k) : some k ∈ l := by
  rw [List.getD_eq_getElem?_getD] at h
  cases e : l[i]? with
  | none => rw [e] at h; exact absurd h (by simp)
  | some y => rw [e] at h; exact List.mem_of_getElem? (e.trans (congrArg some h))
theorem Good0.handLive {S : HS} (G : Good0 S) {h k : Nat} (e : S.hand h = some k) : Live S k := G.hl k (getD_mem e)
theorem Good0.slotLive {S : HS} (G : Good0 S) {b s k : Nat} (hb : Live S b) (e : S.slot b s = some k) : Live S k := G.cl b hb k (getD_mem e)
theorem Good.take {S : HS} (G : Good S) {h b s : Nat} (hb : Live S b) : Good (S.take h b s) := G.setHand fun k e => G.slotLive hb e
theorem Good.share {S : HS} (G : Good S) {h o : Nat} : Good (S.share h o) := G.setHand fun k e => G.handLive e
theorem Good.drop {S : HS} (G : Good S) {h : Nat} : Good (S.drop h) := G.setHand fun k e => nomatch e
theorem Good.make {S : HS} (G : Good S) {h n : Nat} (hn : n ≤ 4) (hr : S.keys.length < S.room) : Good (S.make h n) := by
  have hrow : ∀ k j, some j ∈ (S.make h n).row k ↔ some j ∈ S.row k := fun k j => by
    show some j ∈ rowOf (S.rows ++ [List.replicate n none]) k ↔ _
    rw [rowOf_push]
    by_cases e : k = S.rows.length
    · rw [if_pos e, e, show S.row S.rows.length = [] from rowOf_ge (Nat.le_refl _)]
      simp [List.mem_replicate]
    · rw [if_neg e]
  have up : ∀ k, Live S k → Live (S.make h n) k := fun k ⟨a, b⟩ => ⟨List.mem_append_left _ a, b⟩
  have nk : Live (S.make h n) S.rows.length := ⟨List.mem_append_right _ (List.mem_singleton.mpr rfl), fun z => absurd (G.olt _ z) (Nat.lt_irrefl _)⟩
  have dn : ∀ k, Live (S.make h n) k → Live S k ∨ k = S.rows.length := fun k ⟨a, b⟩ => by
    rcases List.mem_append.mp a with a | a
    · exact .inl ⟨a, b⟩
    · exact .inr (List.mem_singleton.mp a)
  have ug : ∀ k, Gp S k → Gp (S.make h n) k := fun k g => by
    induction g with
    | grey a b c d => exact .grey (S := S.make h n) a ((hrow _ _).mpr b) c d
    | white _ b c d ih => exact .white (S := S.make h n) ih ((hrow _ _).mpr b) c d
  have len : (S.make h n).rows.length = S.rows.length + 1 := by show (S.rows ++ [_]).length = _; rw [List.length_append]; rfl
  exact
  { hn := by show 1 ≤ (S.hands.set h _).length ∧ (S.hands.set h _).length ≤ 8; rw [List.length_set]; exact G.hn
    rm := G.rm
    few := by show (S.keys ++ [_]).length ≤ S.room; rw [List.length_append, List.length_singleton]; omega
    rise := List.pairwise_append.mpr ⟨G.rise, List.pairwise_singleton _ _, fun a ha b hb => by rw [List.mem_singleton] at hb; subst hb; exact G.lt a ha⟩
    lt := fun k hk => by
      rw [len]
      rcases List.mem_append.mp hk with hk | hk
      · have := G.lt k hk; omega
      · rw [List.mem_singleton] at hk; omega
    four := fun row hr => by
      rcases List.mem_append.mp hr with hr | hr
      · exact G.four row hr
      · rw [List.mem_singleton] at hr; subst hr; rw [List.length_replicate]; exact hn
    hl := fun k e => by
      rcases mem_set e with e | e
      · exact up k (G.hl k e)
      · cases e; exact nk
    cl := fun k hk j hj => by
      rw [hrow] at hj
      rcases dn k hk with hk | hk
      · exact up j (G.cl k hk j hj)
      · rw [hk, show S.row S.rows.length = [] from rowOf_ge (Nat.le_refl _)] at hj
        exact absurd hj (by simp)
    oldr := G.oldr
    oldn := G.oldn
    olt := fun k hk => by rw [len]; have := G.olt k hk; omega
    mks := G.mks
    mkn := G.mkn
    ln := G.ln
    lnn := G.lnn
    so := fun k hk => ⟨(G.so k hk).1, List.mem_append_left _ (G.so k hk).2⟩
    sr := G.sr
    us := fun k hk => ⟨(G.us k hk).1, List.mem_append_left _ (G.us k hk).2⟩
    ur := G.ur
    ok := fun k hk ho => by
      rcases List.mem_append.mp hk with hk | hk
      · exact G.ok k hk ho
      · rw [List.mem_singleton] at hk; subst hk; exact absurd (G.olt _ ho) (Nat.lt_irrefl _)
    gp := fun k a b => ug k (G.gp k a b)
    un := G.un
    idle := G.idle }
theorem Good.mark {S : HS} (G : Good S) (hL : S.line ≠ []) {k : Nat} (hk : Live S k) : Good (S.mark k) := by
  unfold HS.mark
  by_cases c : k ∈ S.old ∧ k ∉ S.marks
  · rw [if_pos c]
    have ks := hk.2 c.1
    generalize hS : ({ S with marks := S.marks ++ [k], line := S.line ++ [k] } : HS) = S'
    have eM : S'.marks = S.marks ++ [k] := by rw [← hS]
    have eL : S'.line = S.line ++ [k] := by rw [← hS]
    have up : ∀ w, Gp S w → w ≠ k → Gp S' w := fun w g => by
      induction g with
      | grey a b e d =>
        intro n
        refine .grey (by rw [eL]; exact List.mem_append_left _ a) (by rw [← hS]; exact b) (by rw [← hS]; exact e) (by rw [eM]; simp [d, n])
      | @white v w _ b e d ih =>
        intro n
        by_cases q : v = k
        · subst q
          exact .grey (g := v) (by rw [eL]; simp) (by rw [← hS]; exact b) (by rw [← hS]; exact e) (by rw [eM]; simp [d, n])
        · exact .white (ih q) (by rw [← hS]; exact b) (by rw [← hS]; exact e) (by rw [eM]; simp [d, n])
    have un : S'.unsw = S'.old := by rw [← hS]; exact G.un hL
    have nl : S'.line ≠ [] := by rw [eL]; simp
    subst hS
    exact
    { hn := G.hn, rm := G.rm, few := G.few, rise := G.rise, lt := G.lt, four := G.four, hl := G.hl, cl := G.cl, oldr := G.oldr, oldn := G.oldn, olt := G.olt
      mks := fun j hj => by
        rcases List.mem_append.mp hj with hj | hj
        · exact G.mks j hj
        · rw [List.mem_singleton] at hj; subst hj; exact ks
      mkn := nodup_app G.mkn (by simp) fun j hj => by rw [List.mem_singleton] at hj; subst hj; exact c.2
      ln := fun j hj => by
        rcases List.mem_append.mp hj with hj | hj
        · exact List.mem_append_left _ (G.ln j hj)
        · exact List.mem_append_right _ hj
      lnn := nodup_app G.lnn (by simp) fun j hj => by rw [List.mem_singleton] at hj; subst hj; exact fun z => c.2 (G.ln _ z)
      so := G.so, sr := G.sr, us := G.us, ur := G.ur, ok := G.ok
      gp := fun w a b => by
        have b' : w ∉ S.marks ∧ w ≠ k := by
          have : w ∉ S.marks ++ [k] := b
          simpa using this
        exact up w (G.gp w a b'.1) b'.2
      un := fun _ => un
      idle := fun e => absurd e nl }
  · rw [if_neg c]
    exact G
theorem Good.markO {S : HS} (G : Good S) (hL : S.line ≠ []) {o : Option Nat} (ho : ∀ k, o = some k → Live S k) : Good (S.markO o) := by
  cases o with
  | none => exact G
  | some k => exact G.mark hL (ho k rfl)
theorem mem_row_set {r : Row} {s j : Nat} {x : Option Nat} (h : some j ∈ r.set s x) : some j ∈ r ∨ x = some j := (mem_set h).imp id Eq.symm
theorem mem_row_keep {r : Row} {s j : Nat} {x : Option Nat} (h : some j ∈ r) (n : r.getD s none ≠ some j) : some j ∈ r.set s x := by
  obtain ⟨i, hi⟩ := List.getElem?_of_mem h
  refine List.mem_of_getElem? (i := i) ?_
  rw [List.getElem?_set]
  by_cases e : s = i
  · subst e
    exact absurd (by rw [List.getD_eq_getElem?_getD, hi]; rfl) n
  · rw [if_neg e]
    exact hi
theorem Good.write {S : HS} (G : Good S) {b s : Nat} {x : Option Nat} (hb : Live S b) (hx : ∀ k, x = some k → Live S k) (hc : S.line ≠ [] → ∀ k, S.slot b s = some k → k ∈ S.old → k ∈ S.marks) : Good (S.write b s x) := by
  have bl := G.lt b hb.1
  have hrow : ∀ k, (S.write b s x).row k = if k = b then (S.row b).set s x else S.row k := fun k => rowOf_set k bl
  have len : (S.write b s x).rows.length = S.rows.length := by show (S.rows.set b _).length = _; rw [List.length_set]
  have keep : ∀ g w, some w ∈ S.row g → w ∈ S.snap → w ∉ S.marks → S.line ≠ [] → some w ∈ (S.write b s x).row g := fun g w hw h1 h2 hl => by
    rw [hrow]
    by_cases e : g = b
    · rw [if_pos e]
      subst e
      exact mem_row_keep hw fun z => h2 (hc hl w z (G.so w h1).1)
    · rw [if_neg e]
      exact hw
  have up : ∀ w, Gp S w → Gp (S.write b s x) w := fun w g => by
    have hl := g.line
    induction g with
    | grey a c d e => exact .grey (S := S.write b s x) a (keep _ _ c d e hl) d e
    | white _ c d e ih => exact .white (S := S.write b s x) ih (keep _ _ c d e hl) d e
  exact
  { hn := G.hn, rm := G.rm, few := G.few, rise := G.rise
    lt := fun k hk => by rw [len]; exact G.lt k hk
    four := fun row hr => by
      rcases List.mem_or_eq_of_mem_set hr with hr | hr
      · exact G.four row hr
      · subst hr; rw [List.length_set]; exact G.row4 b
    hl := G.hl
    cl := fun k hk j hj => by
      rw [hrow] at hj
      by_cases e : k = b
      · rw [if_pos e] at hj
        rcases mem_row_set hj with hj | hj
        · exact G.cl b hb j hj
        · exact hx j hj
      · rw [if_neg e] at hj
        exact G.cl k hk j hj
    oldr := G.oldr, oldn := G.oldn
    olt := fun k hk => by rw [len]; exact G.olt k hk
    mks := G.mks, mkn := G.mkn, ln := G.ln, lnn := G.lnn, so := G.so, sr := G.sr, us := G.us, ur := G.ur, ok := G.ok
    gp := fun k a c => up k (G.gp k a c)
    un := G.un, idle := G.idle }
theorem mark_fields (S : HS) (k : Nat) : (S.mark k).hands = S.hands ∧ (S.mark k).rows = S.rows ∧ (S.mark k).keys = S.keys ∧ (S.mark k).old = S.old ∧ (S.mark k).snap = S.snap ∧ (S.mark k).unsw = S.unsw ∧ (S.mark k).ended = S.ended ∧ (S.mark k).room = S.room := by
  unfold HS.mark
  split <;> exact ⟨rfl, rfl, rfl, rfl, rfl, rfl, rfl, rfl⟩
theorem markO_fields (S : HS) (k : Option Nat) : (S.markO k).hands = S.hands ∧ (S.markO k).rows = S.rows ∧ (S.markO k).keys = S.keys ∧ (S.markO k).old = S.old ∧ (S.markO k).snap = S.snap ∧ (S.markO k).unsw = S.unsw ∧ (S.markO k).ended = S.ended ∧ (S.markO k).room = S.room := by
  cases k with
  | none => exact ⟨rfl, rfl, rfl, rfl, rfl, rfl, rfl, rfl⟩
  | some k => exact mark_fields S k
theorem Good.put {S : HS} (G : Good S) {b s o : Nat} (hb : Live S b) : Good (S.put b s o) := by
  unfold HS.put
  by_cases hL : S.line = []
  · rw [if_pos hL]
    exact G.write hb (fun k e => G.handLive e) fun n => absurd hL n
  · rw [if_neg hL]
    have G2 : Good (S.markO (S.slot b s)) := G.markO hL fun k e => G.slotLive hb e
    obtain ⟨f1, f2, f3, f4, f5, f6, f7, f8⟩ := markO_fields S (S.slot b s)
    have live : ∀ k, Live S k → Live (S.markO (S.slot b s)) k := fun k ⟨a, c⟩ => ⟨by rw [f3]; exact a, by rw [f4, f5]; exact c⟩
    refine G2.write (live b hb) (fun k e => live k (G.handLive e)) fun _ k e ho => ?_
    have e' : S.slot b s = some k := by
      have : (S.markO (S.slot b s)).slot b s = S.slot b s := congrArg (fun z => (rowOf z b).getD s none) f2
      rw [← this]; exact e
    rw [f4] at ho
    rw [e']
    show k ∈ (S.mark k).marks
    unfold HS.mark
    by_cases c : k ∈ S.old ∧ k ∉ S.marks
    · rw [if_pos c]; exact List.mem_append_right _ (List.mem_singleton.mpr rfl)
    · rw [if_neg c]; exact Decidable.byContradiction fun z => c ⟨ho, z⟩

/-! ### the pieces keep it -/
theorem Good0.ends {S : HS} (G : Good0 S) : Good S.ends := by
  unfold HS.ends
  by_cases hu : S.unsw = []
  · rw [if_pos hu]
    have hl : S.line = [] := Decidable.byContradiction fun n => by
      have e := G.un n
      rw [hu] at e
      obtain ⟨k, r, ek⟩ := List.exists_cons_of_ne_nil n
      have := (G.so _ (G.mks _ (G.ln k (by rw [ek]; exact List.mem_cons_self)))).1
      rw [← e] at this
      exact absurd this (by simp)
    have live : ∀ k, Live S k ↔ k ∈ S.keys := fun k => ⟨fun h => h.1, fun h => ⟨h, fun ho => (G.ok k h ho).resolve_right (by rw [hu]; simp)⟩⟩
    have live' : ∀ k, Live S.endRound k ↔ k ∈ S.keys := fun k => ⟨fun h => h.1, fun h => ⟨h, fun ho => absurd ho (show k ∉ ([] : List Nat) by simp)⟩⟩
    exact
    { hn := G.hn, rm := G.rm, few := G.few, rise := G.rise, lt := G.lt, four := G.four
      hl := fun k e => (live' k).mpr ((live k).mp (G.hl k e))
      cl := fun k hk j hj => (live' j).mpr ((live j).mp (G.cl k ((live k).mpr ((live' k).mp hk)) j hj))
      oldr := List.Pairwise.nil
      oldn := Nat.zero_le _
      olt := fun k hk => absurd hk (show k ∉ ([] : List Nat) by simp)
      mks := fun k hk => absurd hk (show k ∉ ([] : List Nat) by simp)
      mkn := List.nodup_nil
      ln := fun k hk => by
        have hk : k ∈ S.line := hk
        rw [hl] at hk
        exact absurd hk (by simp)
      lnn := G.lnn
      so := fun k hk => absurd hk (show k ∉ ([] : List Nat) by simp)
      sr := List.Pairwise.nil
      us := fun k hk => by
        have hk : k ∈ S.unsw := hk
        rw [hu] at hk
        exact absurd hk (by simp)
      ur := G.ur
      ok := fun k _ ho => absurd ho (show k ∉ ([] : List Nat) by simp)
      gp := fun k hk => absurd hk (show k ∉ ([] : List Nat) by simp)
      un := fun n => absurd hl n
      idle := fun _ _ => ⟨rfl, rfl, rfl⟩ }
  · rw [if_neg hu]
    exact { toGood0 := G, idle := fun _ e => absurd e hu }
open Classical in
theorem mem_reached {hands : List (Option Nat)} {rows : List Row} {k : Nat} (h : Rc hands rows k → k < rows.length) : k ∈ reached hands rows ↔ Rc hands rows k := by
  unfold reached
  rw [List.mem_filter, decide_eq_true_eq, List.mem_range]
  exact ⟨fun z => z.2, fun z => ⟨h z, z⟩⟩
theorem reached_rise (hands : List (Option Nat)) (rows : List Row) : (reached hands rows).Pairwise (· < ·) := List.Pairwise.filter _ List.pairwise_lt_range
theorem Good.idle_live {S : HS} (G : Good S) (hl : S.line = []) (hu : S.unsw = []) (k : Nat) : Live S k ↔ k ∈ S.keys :=
  ⟨fun h => h.1, fun h => ⟨h, fun ho => by rw [(G.idle hl hu).1] at ho; exact absurd ho (by simp)⟩⟩
theorem Good.snap_began {S : HS} (G : Good S) (k : Nat) : k ∈ reached S.hands S.rows ↔ Rc S.hands S.rows k := mem_reached fun h => G.lt k (G.rc h).1
theorem began_eq (S : HS) : S.began = { S with unsw := S.keys, old := S.keys, marks := ext S.keys [] S.hands, line := ext S.keys [] S.hands, snap := reached S.hands S.rows } := by
  unfold HS.began
  rw [markAll_eq]
  simp
theorem Good.began {S : HS} (G : Good S) (hl : S.line = []) (hu : S.unsw = []) : Good0 S.began := by
  rw [began_eq]
  have lk := G.idle_live hl hu
  have mE : ∀ k, k ∈ ext S.keys [] S.hands ↔ some k ∈ S.hands := fun k => by
    rw [mem_ext]
    exact ⟨fun z => z.1, fun z => ⟨z, (G.hl k z).1, by simp⟩⟩
  generalize hS : ({ S with unsw := S.keys, old := S.keys, marks := ext S.keys [] S.hands, line := ext S.keys [] S.hands, snap := reached S.hands S.rows } : HS) = S'
  have ms : ∀ k, k ∈ S'.snap ↔ Rc S.hands S.rows k := fun k => by rw [← hS]; exact G.snap_began k
  have lv : ∀ k, Rc S.hands S.rows k → Live S' k := fun k h => ⟨by rw [← hS]; exact (G.rc h).1, fun _ => (ms k).mpr h⟩
  have vl : ∀ k, Live S' k → Rc S.hands S.rows k := fun k h => (ms k).mp (h.2 (by rw [← hS]; have := h.1; rw [← hS] at this; exact this))
  have gp : ∀ k, Rc S.hands S.rows k → k ∉ S'.marks → Gp S' k := fun k h => by
    induction h with
    | hand h => exact fun n => absurd (by rw [← hS]; exact (mE _).mpr h) n
    | @slot v w hv hj ih =>
      intro n
      have ws := (ms w).mpr (.slot hv hj)
      by_cases q : v ∈ S'.marks
      · exact .grey (g := v) (by rw [← hS] at q ⊢; exact q) (by rw [← hS]; exact hj) ws n
      · exact .white (ih q) (by rw [← hS]; exact hj) ws n
  have sm : ∀ k ∈ S'.marks, k ∈ S'.snap := fun k hk => (ms k).mpr (.hand ((mE k).mp (by rw [← hS] at hk; exact hk)))
  have hl' : ∀ k, some k ∈ S'.hands → Live S' k := fun k e => lv k (.hand (by rw [← hS] at e; exact e))
  have cl' : ∀ k, Live S' k → ∀ j, some j ∈ S'.row k → Live S' j := fun k hk j hj => lv j (.slot (vl k hk) (by rw [← hS] at hj; exact hj))
  have so' : ∀ k ∈ S'.snap, k ∈ S'.old ∧ k ∈ S'.keys := fun k hk => by
    have := (G.rc ((ms k).mp hk)).1
    rw [← hS]
    exact ⟨this, this⟩
  have gp' : ∀ k ∈ S'.snap, k ∉ S'.marks → Gp S' k := fun k a b => gp k ((ms k).mp a) b
  subst hS
  exact
  { hn := G.hn, rm := G.rm, few := G.few, rise := G.rise, lt := G.lt, four := G.four
    hl := hl', cl := cl', oldr := G.rise, oldn := G.keysn, olt := G.lt
    mks := sm, mkn := nodup_ext _ _ _, ln := fun k hk => hk, lnn := nodup_ext _ _ _
    so := so', sr := reached_rise _ _, us := fun k hk => ⟨hk, hk⟩, ur := G.rise, ok := fun k _ ho => .inr ho
    gp := gp', un := fun _ => rfl }
theorem Good.markOn {S : HS} (G : Good S) (hL : S.line ≠ []) : Good0 S.markOn := by
  obtain ⟨b, r, eL⟩ := List.exists_cons_of_ne_nil hL
  have eM : S.markOn = { S with marks := S.marks ++ ext S.old S.marks (S.row b), line := r ++ ext S.old S.marks (S.row b) } := by
    unfold HS.markOn
    rw [eL]
    show HS.markAll _ _ = _
    rw [markAll_eq]
  have hm := mem_ext (S.row b) S.old S.marks
  have hb := G.ln b (by rw [eL]; exact List.mem_cons_self)
  have bl : Live S b := ⟨(G.so b (G.mks b hb)).2, fun _ => G.mks b hb⟩
  have un := G.un hL
  rw [eM]
  generalize hS : ({ S with marks := S.marks ++ ext S.old S.marks (S.row b), line := r ++ ext S.old S.marks (S.row b) } : HS) = S'
  have gp : ∀ w, Gp S w → w ∉ S'.marks → Gp S' w := fun w g => by
    induction g with
    | @grey g w a c d e =>
      intro n
      rw [eL] at a
      rcases List.mem_cons.mp a with a | a
      · subst a
        exact absurd (by rw [← hS]; exact List.mem_append_right _ ((hm w).mpr ⟨c, (G.so w d).1, e⟩)) n
      · exact .grey (g := g) (by rw [← hS]; exact List.mem_append_left _ a) (by rw [← hS]; exact c) (by rw [← hS]; exact d) n
    | @white v w hv c d e ih =>
      intro n
      by_cases q : v ∈ S'.marks
      · have : v ∈ ext S.old S.marks (S.row b) := by
          rw [← hS] at q
          exact (List.mem_append.mp q).resolve_left hv.one.2
        exact .grey (g := v) (by rw [← hS]; exact List.mem_append_right _ this) (by rw [← hS]; exact c) (by rw [← hS]; exact d) n
      · exact .white (ih q) (by rw [← hS]; exact c) (by rw [← hS]; exact d) n
  have gp' : ∀ k ∈ S'.snap, k ∉ S'.marks → Gp S' k := fun k a c => gp k (G.gp k (by rw [← hS] at a; exact a) fun z => c (by rw [← hS]; exact List.mem_append_left _ z)) c
  subst hS
  exact
  { hn := G.hn, rm := G.rm, few := G.few, rise := G.rise, lt := G.lt, four := G.four, hl := G.hl, cl := G.cl, oldr := G.oldr, oldn := G.oldn, olt := G.olt
    mks := fun k hk => by
      rcases List.mem_append.mp hk with hk | hk
      · exact G.mks k hk
      · obtain ⟨a, c, _⟩ := (hm k).mp hk
        exact (G.cl b bl k a).2 c
    mkn := nodup_app G.mkn (nodup_ext _ _ _) fun k hk => ((hm k).mp hk).2.2
    ln := fun k hk => by
      rcases List.mem_append.mp hk with hk | hk
      · exact List.mem_append_left _ (G.ln k (by rw [eL]; exact List.mem_cons_of_mem _ hk))
      · exact List.mem_append_right _ hk
    lnn := by
      have nd := G.lnn
      rw [eL] at nd
      exact nodup_app (List.nodup_cons.mp nd).2 (nodup_ext _ _ _) fun k hk z => ((hm k).mp hk).2.2 (G.ln k (by rw [eL]; exact List.mem_cons_of_mem _ z))
    so := G.so, sr := G.sr, us := G.us, ur := G.ur, ok := G.ok, gp := gp', un := fun _ => un }
theorem Good.sweepOn {S : HS} (G : Good S) (hl : S.line = []) : Good0 S.sweepOn.1 := by
  unfold HS.sweepOn
  cases eU : S.unsw with
  | nil => exact G.toGood0
  | cons b r =>
    have hb := G.us b (by rw [eU]; exact List.mem_cons_self)
    have ur := G.ur
    rw [eU] at ur
    have nb : b ∉ r := fun z => by
      have := (List.pairwise_cons.mp ur).1 b z
      omega
    dsimp only
    by_cases c : b ∈ S.marks
    · rw [if_pos c]
      have gp : ∀ k ∈ S.snap, k ∉ S.marks → Gp { S with unsw := r } k := fun k a n => absurd (G.all hl a) n
      exact
      { hn := G.hn, rm := G.rm, few := G.few, rise := G.rise, lt := G.lt, four := G.four, hl := G.hl, cl := G.cl, oldr := G.oldr, oldn := G.oldn, olt := G.olt, mks := G.mks, mkn := G.mkn, ln := G.ln, lnn := G.lnn, so := G.so, sr := G.sr
        us := fun k hk => G.us k (by rw [eU]; exact List.mem_cons_of_mem _ hk)
        ur := (List.pairwise_cons.mp ur).2
        ok := fun k hk ho => by
          rcases G.ok k hk ho with z | z
          · exact .inl z
          · rw [eU] at z
            rcases List.mem_cons.mp z with z | z
            · subst z; exact .inl (G.mks _ c)
            · exact .inr z
        gp := gp
        un := fun n => absurd hl n }
    · rw [if_neg c]
      have ns : b ∉ S.snap := fun z => c (G.all hl z)
      generalize hS : ({ S with unsw := r, keys := S.keys.filter fun k => decide (k ≠ b) } : HS) = S'
      have mk : ∀ k, k ∈ S'.keys ↔ k ∈ S.keys ∧ k ≠ b := fun k => by rw [← hS]; simp [List.mem_filter]
      have lv : ∀ k, Live S k ↔ Live S' k := fun k => by
        constructor
        · rintro ⟨a, d⟩
          refine ⟨(mk k).mpr ⟨a, fun e => ns (by subst e; exact d hb.1)⟩, by rw [← hS]; exact d⟩
        · rintro ⟨a, d⟩
          exact ⟨((mk k).mp a).1, by rw [← hS] at d; exact d⟩
      have few : S'.keys.length ≤ S'.room := by rw [← hS]; exact Nat.le_trans (List.length_filter_le _ _) G.few
      have rise : S'.keys.Pairwise (· < ·) := by rw [← hS]; exact G.rise.filter _
      have so : ∀ k ∈ S'.snap, k ∈ S'.old ∧ k ∈ S'.keys := fun k hk => by
        have hk : k ∈ S.snap := by rw [← hS] at hk; exact hk
        refine ⟨by rw [← hS]; exact (G.so k hk).1, (mk k).mpr ⟨(G.so k hk).2, fun e => ns (e ▸ hk)⟩⟩
      have us : ∀ k ∈ S'.unsw, k ∈ S'.old ∧ k ∈ S'.keys := fun k hk => by
        have hk : k ∈ r := by rw [← hS] at hk; exact hk
        have := G.us k (by rw [eU]; exact List.mem_cons_of_mem _ hk)
        exact ⟨by rw [← hS]; exact this.1, (mk k).mpr ⟨this.2, fun e => nb (e ▸ hk)⟩⟩
      have ok : ∀ k ∈ S'.keys, k ∈ S'.old → k ∈ S'.snap ∨ k ∈ S'.unsw := fun k hk ho => by
        obtain ⟨a, d⟩ := (mk k).mp hk
        have := G.ok k a (by rw [← hS] at ho; exact ho)
        rw [eU] at this
        rw [← hS]
        rcases this with z | z
        · exact .inl z
        · exact .inr ((List.mem_cons.mp z).resolve_left d)
      have gp : ∀ k ∈ S'.snap, k ∉ S'.marks → Gp S' k := fun k a n => absurd (by rw [← hS] at a ⊢; exact G.all hl a) n
      have hl' : ∀ k, some k ∈ S'.hands → Live S' k := fun k e => (lv k).mp (G.hl k (by rw [← hS] at e; exact e))
      have cl' : ∀ k, Live S' k → ∀ j, some j ∈ S'.row k → Live S' j := fun k hk j hj => (lv j).mp (G.cl k ((lv k).mpr hk) j (by rw [← hS] at hj; exact hj))
      have lt' : ∀ k ∈ S'.keys, k < S'.rows.length := fun k hk => by
        have := G.lt k ((mk k).mp hk).1
        rw [← hS]; exact this
      subst hS
      exact
      { hn := G.hn, rm := G.rm, few := few, rise := rise, lt := lt', four := G.four, hl := hl', cl := cl', oldr := G.oldr, oldn := G.oldn, olt := G.olt, mks := G.mks, mkn := G.mkn, ln := G.ln, lnn := G.lnn, so := so, sr := G.sr
        us := us, ur := (List.pairwise_cons.mp ur).2, ok := ok, gp := gp, un := fun n => absurd hl n }
theorem Good.step {S : HS} (G : Good S) : Good0 S.step.1 := by
  unfold HS.step
  by_cases hl : S.line = []
  · rw [if_pos hl]
    by_cases hu : S.unsw = []
    · rw [if_pos hu]
      exact G.began hl hu
    · rw [if_neg hu]
      exact G.sweepOn hl
  · rw [if_neg hl]
    exact G.markOn hl
theorem Good.piece {S : HS} (G : Good S) : Good S.piece.1 := G.step.ends
theorem Good.work {S : HS} (G : Good S) : ∀ n, Good (HS.work n S).1
  | 0 => G
  | n + 1 => (Good.work G n).piece
def HS.new (hands room : Nat) : HS := ⟨List.replicate hands none, room, [], [], 0, [], [], [], [], []⟩
theorem Good.new {n r : Nat} (h : 1 ≤ n ∧ n ≤ 8) (hr : 1 ≤ r ∧ r ≤ 1000) : Good (HS.new n r) :=
  have no : ∀ k, k ∉ ([] : List Nat) := fun k => by simp
  { hn := by show 1 ≤ (List.replicate n none).length ∧ (List.replicate n none).length ≤ 8; rw [List.length_replicate]; exact h
    rm := hr, few := Nat.zero_le _, rise := .nil, lt := fun k z => absurd z (no k)
    four := fun r z => absurd z (show r ∉ ([] : List Row) by simp)
    hl := fun k z => absurd (List.eq_of_mem_replicate z) (by simp)
    cl := fun k z => absurd z.1 (no k)
    oldr := .nil, oldn := Nat.zero_le _, olt := fun k z => absurd z (no k), mks := fun k z => absurd z (no k), mkn := .nil, ln := fun k z => absurd z (no k), lnn := .nil
    so := fun k z => absurd z (no k), sr := .nil, us := fun k z => absurd z (no k), ur := .nil, ok := fun k z => absurd z (no k), gp := fun k z => absurd z (no k), un := fun _ => rfl
    idle := fun _ _ => ⟨rfl, rfl, rfl⟩ }
end MM

set_option Elab.async false
set_option linter.all false
set_option maxRecDepth 100000
set_option maxHeartbeats 4000000
/-! How a heap of the program stands in memory: its objects by slots, what is its own (foot), and what a store does to it. -/
namespace MP
open PySem PySem.Spec PyProof.Rows L2 MM KG
def optV : Option Nat → V
  | none => .non
  | some k => .int (k : Int)
def nV (k : Nat) : V := .int (k : Int)
def kK (k : Nat) : Key := Sum.inl (k : Int)
structure Raw where
  hands : List (Option Nat)
  room : Nat
  keys : List Nat
  row : Nat → MM.Row
  made : Nat
  ended : Nat
  old : List Nat
  marks : List Nat
  line : List Nat
  unsw : List Nat
def raw (S : HS) : Raw := ⟨S.hands, S.room, S.keys, S.row, S.rows.length, S.ended, S.old, S.marks, S.line, S.unsw⟩
inductive Sl
  | ob | hands | rows | old | marks | line | unsw | row (k : Nat)
  deriving DecidableEq
structure HA where
  dx : Addr
  f : Sl → Addr
def HA.mv (A : HA) (s : Sl) (q : Addr) : HA := ⟨A.dx, fun t => if t = s then q else A.f t⟩
def fl (a b c d e f g h i : V) : List (Str × V) := [("_hands", a), ("_room", b), ("_rows", c), ("_made", d), ("_ended", e), ("_old", f), ("_marks", g), ("_line", h), ("_unswept", i)]
section
variable (a b c d e f g h i y : V)
theorem fl_hands : (fl a b c d e f g h i).lookup ("_hands" : Str) = some a := by rfl
theorem fl_room : (fl a b c d e f g h i).lookup ("_room" : Str) = some b := by rfl
theorem fl_rows : (fl a b c d e f g h i).lookup ("_rows" : Str) = some c := by rfl
theorem fl_made : (fl a b c d e f g h i).lookup ("_made" : Str) = some d := by rfl
theorem fl_ended : (fl a b c d e f g h i).lookup ("_ended" : Str) = some e := by rfl
theorem fl_old : (fl a b c d e f g h i).lookup ("_old" : Str) = some f := by rfl
theorem fl_marks : (fl a b c d e f g h i).lookup ("_marks" : Str) = some g := by rfl
theorem fl_line : (fl a b c d e f g h i).lookup ("_line" : Str) = some h := by rfl
theorem fl_unsw : (fl a b c d e f g h i).lookup ("_unswept" : Str) = some i := by rfl
theorem fl_pmade : putF "_made" y (fl a b c d e f g h i) = fl a b c y e f g h i := by rfl
theorem fl_pended : putF "_ended" y (fl a b c d e f g h i) = fl a b c d y f g h i := by rfl
theorem fl_pold : putF "_old" y (fl a b c d e f g h i) = fl a b c d e y g h i := by rfl
theorem fl_pmarks : putF "_marks" y (fl a b c d e f g h i) = fl a b c d e f y h i := by rfl
theorem fl_punsw : putF "_unswept" y (fl a b c d e f g h i) = fl a b c d e f g h y := by rfl
end
def flds (A : HA) (R : Raw) : List (Str × V) := fl (.ref (A.f .hands)) (.int R.room) (.ref (A.f .rows)) (.int R.made) (.int R.ended) (.ref (A.f .old)) (.ref (A.f .marks)) (.ref (A.f .line)) (.ref (A.f .unsw))
def dRows (A : HA) (R : Raw) : List (Key × V) := R.keys.map fun k => (kK k, V.ref (A.f (.row k)))
def dTrue (l : List Nat) : List (Key × V) := l.map fun k => (kK k, V.bl true)
def cont (C : Addr) (A : HA) (R : Raw) : Sl → HO
  | .ob => .ins C A.dx (flds A R)
  | .hands => .lst (R.hands.map optV)
  | .rows => .dK (dRows A R)
  | .old => .dK (dTrue R.old)
  | .marks => .dK (dTrue R.marks)
  | .line => .lst (R.line.map nV)
  | .unsw => .lst (R.unsw.map nV)
  | .row k => .lst ((R.row k).map optV)
def Sl.on (R : Raw) : Sl → Prop
  | .row k => k ∈ R.keys
  | _ => True
structure HAt (C : Addr) (H : Hp) (p : Addr) (A : HA) (R : Raw) : Prop where
  p0 : A.f .ob = p
  at_ : ∀ s, s.on R → H (A.f s) = some (cont C A R s)
  inj : ∀ s t, s.on R → t.on R → A.f s = A.f t → s = t
def foot (A : HA) (R : Raw) (b : Addr) : Prop := ∃ s, s.on R ∧ A.f s = b
/-- what is not its own stays, and does not become its own -/
def Frm (H : Hp) (F : Addr → Prop) (H' : Hp) (F' : Addr → Prop) : Prop := ∀ b o, H b = some o → ¬ F b → H' b = some o ∧ ¬ F' b
theorem Frm.refl (H : Hp) (F : Addr → Prop) : Frm H F H F := fun _ _ h n => ⟨h, n⟩
theorem Frm.trans {H H1 H2 : Hp} {F F1 F2 : Addr → Prop} (a : Frm H F H1 F1) (b : Frm H1 F1 H2 F2) : Frm H F H2 F2 := fun c o h n => let ⟨x, y⟩ := a c o h n; b c o x y
theorem Frm.same {H H1 H2 : Hp} {F F1 : Addr → Prop} (a : Frm H F H1 F1) (b : Same H1 H2) : Frm H F H2 F1 := fun c o h n => let ⟨x, y⟩ := a c o h n; ⟨b c o x, y⟩
theorem Frm.put {H H1 : Hp} {F F1 : Addr → Prop} (a : Frm H F H1 F1) {q : Addr} {o : HO} (hq : F1 q) : Frm H F (upd H1 q o) F1 := fun c o' h n => by
  obtain ⟨x, y⟩ := a c o' h n
  refine ⟨?_, y⟩
  rw [upd_ne fun (e : c = q) => y (e ▸ hq)]
  exact x
/-- F1 grows by a place that was free at first -/
theorem Frm.grow {H H1 : Hp} {F F1 F2 : Addr → Prop} (a : Frm H F H1 F1) {q : Addr} (hq : H q = none) (h : ∀ b, F2 b → F1 b ∨ b = q) : Frm H F H1 F2 := fun c o' e n => by
  obtain ⟨x, y⟩ := a c o' e n
  refine ⟨x, fun z => ?_⟩
  rcases h c z with z | z
  · exact y z
  · subst z; rw [hq] at e; cases e
theorem Frm.free {H H1 : Hp} {F F1 : Addr → Prop} (a : Frm H F H1 F1) {q : Addr} (hq : H1 q = none) (n : ¬ F q) : H q = none := by
  cases e : H q with
  | none => rfl
  | some o => rw [(a q o e n).1] at hq; cases hq
section
variable {C p : Addr} {H H' : Hp} {A : HA} {R : Raw}
theorem HAt.foot_at (h : HAt C H p A R) {b : Addr} (n : foot A R b) : ∃ o, H b = some o := by
  obtain ⟨s, hs, rfl⟩ := n
  exact ⟨_, h.at_ s hs⟩
theorem HAt.fresh (h : HAt C H p A R) {q : Addr} (hq : H q = none) : ¬ foot A R q := fun n => by
  obtain ⟨o, e⟩ := h.foot_at n
  rw [hq] at e; cases e
theorem HAt.keep (h : HAt C H p A R) (k : ∀ b o, H b = some o → foot A R b → H' b = some o) : HAt C H' p A R := ⟨h.p0, fun s hs => k _ _ (h.at_ s hs) ⟨s, hs, rfl⟩, h.inj⟩
theorem HAt.same (h : HAt C H p A R) (s : Same H H') : HAt C H' p A R := h.keep fun b o e _ => s b o e
theorem HAt.out (h : HAt C H p A R) {q : Addr} {o : HO} (n : ¬ foot A R q) : HAt C (upd H q o) p A R := h.keep fun b o' e f => by
  rw [upd_ne fun (z : b = q) => n (z ▸ f)]
  exact e
theorem HAt.ob (h : HAt C H p A R) : H p = some (.ins C A.dx (flds A R)) := by
  have := h.at_ .ob trivial
  rw [h.p0] at this
  exact this
theorem HAt.hands (h : HAt C H p A R) : H (A.f .hands) = some (.lst (R.hands.map optV)) := h.at_ .hands trivial
theorem HAt.rows (h : HAt C H p A R) : H (A.f .rows) = some (.dK (dRows A R)) := h.at_ .rows trivial
theorem HAt.old (h : HAt C H p A R) : H (A.f .old) = some (.dK (dTrue R.old)) := h.at_ .old trivial
theorem HAt.marks (h : HAt C H p A R) : H (A.f .marks) = some (.dK (dTrue R.marks)) := h.at_ .marks trivial
theorem HAt.line (h : HAt C H p A R) : H (A.f .line) = some (.lst (R.line.map nV)) := h.at_ .line trivial
theorem HAt.unsw (h : HAt C H p A R) : H (A.f .unsw) = some (.lst (R.unsw.map nV)) := h.at_ .unsw trivial
theorem HAt.row (h : HAt C H p A R) {k : Nat} (hk : k ∈ R.keys) : H (A.f (.row k)) = some (.lst ((R.row k).map optV)) := h.at_ (.row k) hk
theorem HAt.foot_on (h : HAt C H p A R) {s : Sl} (hs : s.on R) : foot A R (A.f s) := ⟨s, hs, rfl⟩
theorem HAt.foot_p (h : HAt C H p A R) : foot A R p := ⟨.ob, trivial, h.p0⟩
/-- one slot's content is stored anew -/
theorem HAt.put (h : HAt C H p A R) (s : Sl) (hs : s.on R) (R' : Raw) (o : HO) (ho : cont C A R' s = o) (hon : R'.keys = R.keys) (hc : ∀ t, t ≠ s → cont C A R' t = cont C A R t) : HAt C (upd H (A.f s) o) p A R' := by
  have on : ∀ t : Sl, t.on R' ↔ t.on R := fun t => by
    cases t with
    | row k => show k ∈ R'.keys ↔ k ∈ R.keys; rw [hon]
    | _ => exact Iff.rfl
  refine ⟨h.p0, fun t ht => ?_, fun t u a b e => h.inj t u ((on t).mp a) ((on u).mp b) e⟩
  by_cases e : t = s
  · subst e
    rw [upd_same, ho]
  · rw [upd_ne fun z => e (h.inj t s ((on t).mp ht) hs z), hc t e]
    exact h.at_ t ((on t).mp ht)
theorem foot_eq {A : HA} {R R' : Raw} (hon : R'.keys = R.keys) : foot A R' = foot A R := by
  funext b
  refine propext ⟨fun ⟨t, ht, e⟩ => ⟨t, ?_, e⟩, fun ⟨t, ht, e⟩ => ⟨t, ?_, e⟩⟩
  · cases t with
    | row k => show k ∈ R.keys; rw [← hon]; exact ht
    | _ => trivial
  · cases t with
    | row k => show k ∈ R'.keys; rw [hon]; exact ht
    | _ => trivial
theorem HAt.pHands (h : HAt C H p A R) (hs : List (Option Nat)) : HAt C (upd H (A.f .hands) (.lst (hs.map optV))) p A { R with hands := hs } :=
  h.put .hands trivial _ _ rfl rfl fun t e => by cases t <;> first | rfl | exact absurd rfl e
theorem HAt.pLine (h : HAt C H p A R) (l : List Nat) : HAt C (upd H (A.f .line) (.lst (l.map nV))) p A { R with line := l } :=
  h.put .line trivial _ _ rfl rfl fun t e => by cases t <;> first | rfl | exact absurd rfl e
theorem HAt.pUnsw (h : HAt C H p A R) (l : List Nat) : HAt C (upd H (A.f .unsw) (.lst (l.map nV))) p A { R with unsw := l } :=
  h.put .unsw trivial _ _ rfl rfl fun t e => by cases t <;> first | rfl | exact absurd rfl e
theorem HAt.pMarks (h : HAt C H p A R) (l : List Nat) : HAt C (upd H (A.f .marks) (.dK (dTrue l))) p A { R with marks := l } :=
  h.put .marks trivial _ _ rfl rfl fun t e => by cases t <;> first | rfl | exact absurd rfl e
theorem HAt.pRow (h : HAt C H p A R) {k : Nat} (hk : k ∈ R.keys) (r : MM.Row) : HAt C (upd H (A.f (.row k)) (.lst (r.map optV))) p A { R with row := fun j => if j = k then r else R.row j } := by
  refine h.put (.row k) hk _ _ ?_ rfl fun t e => ?_
  · show HO.lst ((if k = k then r else R.row k).map optV) = _
    rw [if_pos rfl]
  · cases t with
    | row j =>
      show HO.lst ((if j = k then r else R.row j).map optV) = HO.lst ((R.row j).map optV)
      rw [if_neg fun (z : j = k) => e (congrArg Sl.row z)]
    | _ => rfl
theorem HAt.fMade (h : HAt C H p A R) (m : Nat) : HAt C (upd H p (.ins C A.dx (putF "_made" (.int (m : Int)) (flds A R)))) p A { R with made := m } := by
  have := h.put .ob trivial { R with made := m } (.ins C A.dx (putF "_made" (.int (m : Int)) (flds A R))) (by show HO.ins C A.dx (flds A _) = _; unfold flds; rw [fl_pmade]) rfl fun t e => by cases t <;> first | rfl | exact absurd rfl e
  rw [h.p0] at this
  exact this
theorem HAt.fEnded (h : HAt C H p A R) (m : Nat) : HAt C (upd H p (.ins C A.dx (putF "_ended" (.int (m : Int)) (flds A R)))) p A { R with ended := m } := by
  have := h.put .ob trivial { R with ended := m } (.ins C A.dx (putF "_ended" (.int (m : Int)) (flds A R))) (by show HO.ins C A.dx (flds A _) = _; unfold flds; rw [fl_pended]) rfl fun t e => by cases t <;> first | rfl | exact absurd rfl e
  rw [h.p0] at this
  exact this
theorem mv_same (A : HA) (s : Sl) (q : Addr) : (A.mv s q).f s = q := if_pos rfl
theorem mv_ne (A : HA) {s t : Sl} (q : Addr) (n : t ≠ s) : (A.mv s q).f t = A.f t := if_neg n
/-- a field gets another object -/
theorem HAt.swap (h : HAt C H p A R) (s : Sl) (hs : s.on R) (ns : s ≠ .ob) (nr : ∀ k, s ≠ .row k) {q : Addr} {o : HO} (hq : H q = some o) (nq : ¬ foot A R q) (R' : Raw) (hon : R'.keys = R.keys) (ho : cont C (A.mv s q) R' s = o) (hc : ∀ t, t ≠ s → t ≠ .ob → cont C (A.mv s q) R' t = cont C A R t)
    (fs : List (Str × V)) (hfs : fs = flds (A.mv s q) R') : HAt C (upd H p (.ins C A.dx fs)) p (A.mv s q) R' := by
  subst hfs
  have on : ∀ t : Sl, t.on R' ↔ t.on R := fun t => by
    cases t with
    | row k => show k ∈ R'.keys ↔ k ∈ R.keys; rw [hon]
    | _ => exact Iff.rfl
  refine ⟨by rw [mv_ne A q fun (e : Sl.ob = s) => ns e.symm, h.p0], fun t ht => ?_, fun t u a b e => ?_⟩
  · have ht := (on t).mp ht
    by_cases e : t = s
    · subst e
      rw [mv_same, upd_ne fun (z : q = p) => nq (z ▸ h.foot_p), ho]
      exact hq
    · by_cases e2 : t = .ob
      · subst e2
        rw [mv_ne A q e, h.p0, upd_same]
        rfl
      · rw [mv_ne A q e, upd_ne fun z => e2 (h.inj t .ob ht trivial (z.trans h.p0.symm)), hc t e e2]
        exact h.at_ t ht
  · have a := (on t).mp a
    have b := (on u).mp b
    by_cases e1 : t = s
    · by_cases e2 : u = s
      · rw [e1, e2]
      · subst e1
        rw [mv_same, mv_ne A q e2] at e
        exact absurd ⟨u, b, e.symm⟩ nq
    · by_cases e2 : u = s
      · subst e2
        rw [mv_same, mv_ne A q e1] at e
        exact absurd ⟨t, a, e⟩ nq
      · rw [mv_ne A q e1, mv_ne A q e2] at e
        exact h.inj t u a b e
theorem foot_mv {A : HA} {R R' : Raw} {s : Sl} {q b : Addr} (hon : ∀ k, k ∈ R'.keys → k ∈ R.keys ∨ s = .row k) (h : foot (A.mv s q) R' b) : foot A R b ∨ b = q := by
  obtain ⟨t, ht, e⟩ := h
  by_cases z : t = s
  · subst z
    rw [mv_same] at e
    exact .inr e.symm
  · rw [mv_ne A q z] at e
    refine .inl ⟨t, ?_, e⟩
    cases t with
    | row k => exact (hon k ht).resolve_right fun y => z y.symm
    | _ => trivial
theorem HAt.fOld (h : HAt C H p A R) {q : Addr} {l : List Nat} (hq : H q = some (.dK (dTrue l))) (nq : ¬ foot A R q) : HAt C (upd H p (.ins C A.dx (putF "_old" (.ref q) (flds A R)))) p (A.mv .old q) { R with old := l } := by
  refine h.swap .old trivial (fun e => nomatch e) (fun k e => nomatch e) hq nq { R with old := l } rfl rfl (fun t e1 e2 => ?_) _ ?_
  · cases t <;> first | rfl | exact absurd rfl e1 | exact absurd rfl e2
  · unfold flds; rw [fl_pold]; rfl
theorem HAt.fMarks (h : HAt C H p A R) {q : Addr} {l : List Nat} (hq : H q = some (.dK (dTrue l))) (nq : ¬ foot A R q) : HAt C (upd H p (.ins C A.dx (putF "_marks" (.ref q) (flds A R)))) p (A.mv .marks q) { R with marks := l } := by
  refine h.swap .marks trivial (fun e => nomatch e) (fun k e => nomatch e) hq nq { R with marks := l } rfl rfl (fun t e1 e2 => ?_) _ ?_
  · cases t <;> first | rfl | exact absurd rfl e1 | exact absurd rfl e2
  · unfold flds; rw [fl_pmarks]; rfl
theorem HAt.fUnsw (h : HAt C H p A R) {q : Addr} {l : List Nat} (hq : H q = some (.lst (l.map nV))) (nq : ¬ foot A R q) : HAt C (upd H p (.ins C A.dx (putF "_unswept" (.ref q) (flds A R)))) p (A.mv .unsw q) { R with unsw := l } := by
  refine h.swap .unsw trivial (fun e => nomatch e) (fun k e => nomatch e) hq nq { R with unsw := l } rfl rfl (fun t e1 e2 => ?_) _ ?_
  · cases t <;> first | rfl | exact absurd rfl e1 | exact absurd rfl e2
  · unfold flds; rw [fl_punsw]; rfl
/-- a row more -/
theorem HAt.addRow (h : HAt C H p A R) {q : Addr} {k : Nat} {r : MM.Row} (hq : H q = some (.lst (r.map optV))) (nq : ¬ foot A R q) (nk : k ∉ R.keys) : HAt C (upd H (A.f .rows) (.dK (dRows A R ++ [(kK k, V.ref q)]))) p (A.mv (.row k) q) { R with keys := R.keys ++ [k], row := fun j => if j = k then r else R.row j } := by
  have on : ∀ t : Sl, t ≠ .row k → t.on { R with keys := R.keys ++ [k], row := fun j => if j = k then r else R.row j } → t.on R := fun t n ht => by
    cases t with
    | row j =>
      rcases List.mem_append.mp ht with ht | ht
      · exact ht
      · rw [List.mem_singleton] at ht; exact absurd (congrArg Sl.row ht) n
    | _ => trivial
  refine ⟨(mv_ne A q fun (e : Sl.ob = .row k) => nomatch e).trans h.p0, fun t ht => ?_, fun t u a b e => ?_⟩
  · by_cases e : t = .row k
    · subst e
      rw [mv_same, upd_ne fun (z : q = A.f .rows) => nq ⟨.rows, trivial, z.symm⟩]
      show H q = some (.lst ((if k = k then r else R.row k).map optV))
      rw [if_pos rfl]
      exact hq
    · have ht' := on t e ht
      rw [mv_ne A q e]
      by_cases e2 : t = .rows
      · subst e2
        rw [upd_same]
        show some (HO.dK (dRows A R ++ [(kK k, V.ref q)])) = some (HO.dK ((R.keys ++ [k]).map fun j => (kK j, V.ref ((A.mv (.row k) q).f (.row j)))))
        rw [List.map_append]
        congr 2
        unfold dRows
        congr 1
        · refine List.map_congr_left fun j hj => ?_
          rw [mv_ne A q fun (z : Sl.row j = .row k) => nk (by cases z; exact hj)]
        · show [(kK k, V.ref q)] = [(kK k, V.ref ((A.mv (.row k) q).f (.row k)))]
          rw [mv_same]
      · rw [upd_ne fun z => e2 (h.inj t .rows ht' trivial z), h.at_ t ht']
        cases t with
        | rows => exact absurd rfl e2
        | row j =>
          show some (HO.lst ((R.row j).map optV)) = some (HO.lst ((if j = k then r else R.row j).map optV))
          rw [if_neg fun (z : j = k) => e (congrArg Sl.row z)]
        | _ => rfl
  · by_cases e1 : t = .row k
    · by_cases e2 : u = .row k
      · rw [e1, e2]
      · subst e1
        rw [mv_same, mv_ne A q e2] at e
        exact absurd ⟨u, on u e2 b, e.symm⟩ nq
    · by_cases e2 : u = .row k
      · subst e2
        rw [mv_same, mv_ne A q e1] at e
        exact absurd ⟨t, on t e1 a, e⟩ nq
      · rw [mv_ne A q e1, mv_ne A q e2] at e
        exact h.inj t u (on t e1 a) (on u e2 b) e
/-! ### the dicts -/
theorem kK_inj {j k : Nat} (h : kK j = kK k) : j = k := by
  have : ((j : Nat) : Int) = k := Sum.inl.inj h
  omega
theorem valV_map_in {f : Nat → V} : ∀ (l : List Nat) (k : Nat), valV (l.map fun j => (kK j, f j)) (kK k) = if k ∈ l then some (f k) else none
  | [], k => by simp [valV]
  | a :: l, k => by
    rw [List.map_cons]
    by_cases e : a = k
    · subst e
      rw [valV_pos rfl, if_pos List.mem_cons_self]
    · rw [valV_neg fun z => e (kK_inj z), valV_map_in l k]
      by_cases m : k ∈ l
      · rw [if_pos m, if_pos (List.mem_cons_of_mem _ m)]
      · rw [if_neg m, if_neg fun z => (List.mem_cons.mp z).elim (fun y => e y.symm) m]
theorem valV_map_no {f : Nat → V} {z : Int} : ∀ (l : List Nat), (∀ k ∈ l, ((k : Nat) : Int) ≠ z) → valV (l.map fun j => (kK j, f j)) (Sum.inl z : Key) = none
  | [], _ => by simp [valV]
  | a :: l, h => by
    rw [List.map_cons, valV_neg fun e => h a List.mem_cons_self (Sum.inl.inj e)]
    exact valV_map_no l fun k hk => h k (List.mem_cons_of_mem _ hk)
theorem valV_rows (k : Nat) : valV (dRows A R) (kK k) = if k ∈ R.keys then some (.ref (A.f (.row k))) else none := valV_map_in _ _
theorem valV_true (l : List Nat) (k : Nat) : valV (dTrue l) (kK k) = if k ∈ l then some (.bl true) else none := valV_map_in (f := fun _ => V.bl true) _ _
theorem putK_true {l : List Nat} {k : Nat} (h : k ∉ l) : putK (dTrue l) (kK k) (.bl true) = dTrue (l ++ [k]) := by
  rw [putK_new _ (by rw [valV_true, if_neg h])]
  unfold dTrue
  rw [List.map_append]; rfl
theorem dropK_rows (k : Nat) : dropK (dRows A R) (kK k) = dRows A { R with keys := R.keys.filter fun j => decide (j ≠ k) } := by
  unfold dropK dRows
  rw [List.filter_map]
  congr 1
  refine List.filter_congr fun j _ => ?_
  show decide (kK j ≠ kK k) = decide (j ≠ k)
  by_cases e : j = k
  · subst e; simp
  · have n : kK j ≠ kK k := fun z => e (kK_inj z)
    rw [decide_eq_true n, decide_eq_true e]
theorem HAt.delRow (h : HAt C H p A R) (k : Nat) : HAt C (upd H (A.f .rows) (.dK (dropK (dRows A R) (kK k)))) p A { R with keys := R.keys.filter fun j => decide (j ≠ k) } := by
  have on : ∀ t : Sl, t.on { R with keys := R.keys.filter fun j => decide (j ≠ k) } → t.on R := fun t ht => by
    cases t with
    | row j => exact (List.mem_filter.mp ht).1
    | _ => trivial
  refine ⟨h.p0, fun t ht => ?_, fun t u a b e => h.inj t u (on t a) (on u b) e⟩
  by_cases e2 : t = .rows
  · subst e2
    rw [upd_same, dropK_rows]
    rfl
  · rw [upd_ne fun z => e2 (h.inj t .rows (on t ht) trivial z), h.at_ t (on t ht)]
    cases t <;> first | rfl | exact absurd rfl e2
end
/-! ### what the callers see -/
def HeapAt (C : Addr) (H : Hp) (p : Addr) (F : Addr → Prop) (S : HS) : Prop := ∃ A, HAt C H p A (raw S) ∧ F = foot A (raw S) ∧ Good S
theorem HeapAt.out {C p : Addr} {H : Hp} {F : Addr → Prop} {S : HS} (h : HeapAt C H p F S) {q : Addr} {o : HO} (n : ¬ F q) : HeapAt C (upd H q o) p F S := by
  obtain ⟨A, h, rfl, g⟩ := h
  exact ⟨A, h.out n, rfl, g⟩
theorem HeapAt.same {C p : Addr} {H H' : Hp} {F : Addr → Prop} {S : HS} (h : HeapAt C H p F S) (s : Same H H') : HeapAt C H' p F S := by
  obtain ⟨A, h, rfl, g⟩ := h
  exact ⟨A, h.same s, rfl, g⟩
theorem HeapAt.fresh {C p : Addr} {H : Hp} {F : Addr → Prop} {S : HS} (h : HeapAt C H p F S) {q : Addr} (hq : H q = none) : ¬ F q := by
  obtain ⟨A, h, rfl, g⟩ := h
  exact h.fresh hq
theorem HeapAt.good {C p : Addr} {H : Hp} {F : Addr → Prop} {S : HS} (h : HeapAt C H p F S) : Good S := h.choose_spec.2.2
theorem HeapAt.isp {C p : Addr} {H : Hp} {F : Addr → Prop} {S : HS} (h : HeapAt C H p F S) : F p := by
  obtain ⟨A, h, rfl, g⟩ := h
  exact h.foot_p
theorem HeapAt.ob {C p : Addr} {H : Hp} {F : Addr → Prop} {S : HS} (h : HeapAt C H p F S) : ∃ dx fs, H p = some (.ins C dx fs) ∧ (∀ m : Str, m ∉ (["_hands", "_room", "_rows", "_made", "_ended", "_old", "_marks", "_line", "_unswept"] : List Str) → fs.lookup m = none) := by
  obtain ⟨A, h, rfl, g⟩ := h
  refine ⟨_, _, h.ob, fun m hm => ?_⟩
  simp only [List.mem_cons, List.not_mem_nil, or_false, not_or] at hm
  obtain ⟨h1, h2, h3, h4, h5, h6, h7, h8, h9⟩ := hm
  simp [flds, fl, List.lookup, beq_eq_false_iff_ne.mpr h1, beq_eq_false_iff_ne.mpr h2, beq_eq_false_iff_ne.mpr h3, beq_eq_false_iff_ne.mpr h4, beq_eq_false_iff_ne.mpr h5, beq_eq_false_iff_ne.mpr h6, beq_eq_false_iff_ne.mpr h7, beq_eq_false_iff_ne.mpr h8, beq_eq_false_iff_ne.mpr h9]
end MP

set_option Elab.async false
set_option linter.all false
set_option maxRecDepth 100000
set_option maxHeartbeats 4000000
namespace MP
open PySem PySem.Spec PyProof.Rows L2 MM KG
theorem iteNT {c A B : Prop} [Decidable c] (hc : ¬ c) (h : A) : if (!decide c) = true then A else B := by
  rw [decide_eq_false hc]
  exact iteT h
theorem size_of {n : Nat} (h : n ≤ 100000) : n < sizeLine := Nat.lt_of_le_of_lt h (by decide)
theorem atI_opt {l : List (Option Nat)} {h : Nat} (hh : h < l.length) : atI (l.map optV) (h : Int) = some (optV (l.getD h none)) := by
  refine atI_nat ?_
  rw [List.getElem?_map, List.getD_eq_getElem?_getD, List.getElem?_eq_getElem hh]
  rfl
theorem dget_row {C p : Addr} {H : Hp} {A : HA} {R : Raw} (hA : HAt C H p A R) {k : Nat} (hk : k ∈ R.keys) : DGet H (A.f .rows) (optV (some k)) (some (.ref (A.f (.row k)))) := by
  have := DGet.k (k := kK k) hA.rows
  rw [valV_rows, if_pos hk] at this
  exact this
/-- an exception class of the program -/
structure ExC (K : PySem.W.Frag) (mg : Str → Option Value) (x : Str) (c : Addr) : Prop where
  gP : mg x = some (.ref c)
  xP : PySem.W.excIn K c [.type "ValueError", .type "Exception", .type "BaseException", .type "object"] "ValueError.__new__" = true
  kP : PySem.W.keepIn K (.ref c) = true
  bP : PySem.W.subIn K (.ref c) (.type "BaseException") = some true
  tP : PySem.W.typeIn K (.ref c) = some (.type "type")
  iP : PySem.W.isClsIn K c = true
theorem exm_mk {K : PySem.W.Frag} {mg : Str → Option Value} {x : Str} {c : Addr} {cls : Value} {b : Bool} (T : ExC K mg x c) (h : PySem.W.subIn K cls (.ref c) = some b) : PySem.W.exmOne K cls (.ref c) = some b := by
  unfold PySem.W.exmOne
  rw [T.bP, if_pos (by decide)]
  have hi : (PySem.W.clsIn K c).isSome = true := T.iP
  show (if ((PySem.W.clsIn K c).isSome && PySem.W.typeIn K (.ref c) == some (.type "type")) = true then PySem.W.subIn K cls (.ref c) else none) = some b
  rw [T.tP, hi, if_pos (by decide)]
  exact h
structure HeapTxt (K : PySem.W.Frag) (mg : Str → Option Value) (C : Addr) : Prop where
  cl : Cls K C
  n_hands : NoAttr K C "_hands"
  n_room : NoAttr K C "_room"
  n_rows : NoAttr K C "_rows"
  n_made : NoAttr K C "_made"
  n_ended : NoAttr K C "_ended"
  n_old : NoAttr K C "_old"
  n_marks : NoAttr K C "_marks"
  n_line : NoAttr K C "_line"
  n_unsw : NoAttr K C "_unswept"
  mgC : mg "Heap" = some (.ref C)
/-- a method as it stands -/
structure Dm (P : Program) (w : World) (K : PySem.W.Frag) (mg : Str → Option Value) (base : Heap) (CX : CXT) (lv : Nat) (C : Addr) (name : Str) (f : Addr) (fd : FuncData) (ps : List Str) (sp : Sp) : Prop where
  c : Cls K C
  m : Meth K C name f
  g : FnOk P w K mg base CX lv f fd ps sp
  b : Binds K fd ps []
/-- a class that is made -/
structure Dc (P : Program) (w : World) (K : PySem.W.Frag) (mg : Str → Option Value) (base : Heap) (CX : CXT) (lv : Nat) (C : Addr) (name : Str) (f : Addr) (fd : FuncData) (ps : List Str) (sp : Sp) : Prop where
  mkk : Mk K C f
  g : FnOk P w K mg base CX lv f fd ps sp
  m : mg name = some (.ref C)
  b : Binds K fd ps []
/-- the addresses of the classes -/
structure ECs where
  noHand : Addr
  noSlot : Addr
  noRoom : Addr
  nothing : Addr
  noBox : Addr
  noWork : Addr
  noHeap : Addr
  noDeed : Addr
def okHand (S : HS) (h : Int) : Prop := 0 ≤ h ∧ h < S.hands.length
instance (S : HS) (h : Int) : Decidable (okHand S h) := by unfold okHand; exact inferInstance
/-! ### the promises of the methods -/
section
variable (C : Addr) (EC : ECs)
def spInit : Sp := fun vs H Q E => ∃ (p dx : Addr) (n r : Int), vs = [.ref p, .int n, .int r] ∧ H p = some (.ins C dx []) ∧
  if (1 ≤ n ∧ n ≤ 8) ∧ 1 ≤ r ∧ r ≤ 1000 then ∀ H' F', HeapAt C H' p F' (HS.new n.toNat r.toNat) → (∀ b o, H b = some o → b ≠ p → H' b = some o ∧ ¬ F' b) → Q .non H' else E (.ref EC.noHeap) none H
def spNeed : Sp := fun vs H Q E => ∃ (p : Addr) (A : HA) (R : Raw) (h : Int), vs = [.ref p, .int h] ∧ HAt C H p A R ∧ R.hands.length ≤ 8 ∧
  if 0 ≤ h ∧ h < R.hands.length then Q .non H else E (.ref EC.noHand) none H
def spRow : Sp := fun vs H Q E => ∃ (p : Addr) (A : HA) (R : Raw) (h : Nat) (s : Int), vs = [.ref p, .int h, .int s] ∧ HAt C H p A R ∧ R.hands.length ≤ 8 ∧ h < R.hands.length ∧
  match R.hands.getD h none with
  | none => E (.ref EC.nothing) none H
  | some k => k ∈ R.keys ∧ (R.row k).length ≤ 4 ∧ if 0 ≤ s ∧ s < (R.row k).length then Q (.ref (A.f (.row k))) H else E (.ref EC.noSlot) none H
def spMake : Sp := fun vs H Q E => ∃ (p : Addr) (F : Addr → Prop) (S : HS) (h n : Int), vs = [.ref p, .int h, .int n] ∧ HeapAt C H p F S ∧
  if okHand S h then (if 0 ≤ n ∧ n ≤ 4 then (if S.keys.length < S.room then ∀ H' F', HeapAt C H' p F' (S.make h.toNat n.toNat) → Frm H F H' F' → Q (.int S.rows.length) H' else E (.ref EC.noRoom) none H) else E (.ref EC.noSlot) none H) else E (.ref EC.noHand) none H
def spTake : Sp := fun vs H Q E => ∃ (p : Addr) (F : Addr → Prop) (S : HS) (h o s : Int), vs = [.ref p, .int h, .int o, .int s] ∧ HeapAt C H p F S ∧
  if okHand S h ∧ okHand S o then (match S.hand o.toNat with
    | none => E (.ref EC.nothing) none H
    | some k => if 0 ≤ s ∧ s < (S.row k).length then ∀ H' F', HeapAt C H' p F' (S.take h.toNat k s.toNat) → Frm H F H' F' → Q .non H' else E (.ref EC.noSlot) none H) else E (.ref EC.noHand) none H
def spPut : Sp := fun vs H Q E => ∃ (p : Addr) (F : Addr → Prop) (S : HS) (h s o : Int), vs = [.ref p, .int h, .int s, .int o] ∧ HeapAt C H p F S ∧
  if okHand S h ∧ okHand S o then (match S.hand h.toNat with
    | none => E (.ref EC.nothing) none H
    | some k => if 0 ≤ s ∧ s < (S.row k).length then ∀ H' F', HeapAt C H' p F' (S.put k s.toNat o.toNat) → Frm H F H' F' → Q .non H' else E (.ref EC.noSlot) none H) else E (.ref EC.noHand) none H
def spShare : Sp := fun vs H Q E => ∃ (p : Addr) (F : Addr → Prop) (S : HS) (h o : Int), vs = [.ref p, .int h, .int o] ∧ HeapAt C H p F S ∧
  if okHand S h ∧ okHand S o then ∀ H' F', HeapAt C H' p F' (S.share h.toNat o.toNat) → Frm H F H' F' → Q .non H' else E (.ref EC.noHand) none H
def spDrop : Sp := fun vs H Q E => ∃ (p : Addr) (F : Addr → Prop) (S : HS) (h : Int), vs = [.ref p, .int h] ∧ HeapAt C H p F S ∧
  if okHand S h then ∀ H' F', HeapAt C H' p F' (S.drop h.toNat) → Frm H F H' F' → Q .non H' else E (.ref EC.noHand) none H
def spHeld : Sp := fun vs H Q E => ∃ (p : Addr) (F : Addr → Prop) (S : HS) (h : Int), vs = [.ref p, .int h] ∧ HeapAt C H p F S ∧
  if okHand S h then Q (optV (S.hand h.toNat)) H else E (.ref EC.noHand) none H
def spLook : Sp := fun vs H Q E => ∃ (p : Addr) (F : Addr → Prop) (S : HS) (b : Int), vs = [.ref p, .int b] ∧ HeapAt C H p F S ∧
  if 0 ≤ b ∧ b.toNat ∈ S.keys then ∀ l, H l = none → Q (.ref l) (upd H l (.lst ((S.row b.toNat).map optV))) else E (.ref EC.noBox) none H
def spList (f : HS → List Nat) : Sp := fun vs H Q _ => ∃ (p : Addr) (F : Addr → Prop) (S : HS), vs = [.ref p] ∧ HeapAt C H p F S ∧ ∀ l, H l = none → Q (.ref l) (upd H l (.lst ((f S).map nV)))
def spPhase : Sp := fun vs H Q _ => ∃ (p : Addr) (A : HA) (R : Raw), vs = [.ref p] ∧ HAt C H p A R ∧ R.line.length ≤ 4000 ∧ R.unsw.length ≤ 4000 ∧ Q (.str (Str.ofString (if R.line = [] then (if R.unsw = [] then "idle" else "sweeping") else "marking"))) H
def spRounds : Sp := fun vs H Q _ => ∃ (p : Addr) (A : HA) (R : Raw), vs = [.ref p] ∧ HAt C H p A R ∧ Q (.int R.ended) H
/-- marking one -/
def Raw.mark (R : Raw) (k : Nat) : Raw := if k ∈ R.old ∧ k ∉ R.marks then { R with marks := R.marks ++ [k], line := R.line ++ [k] } else R
def Raw.markO (R : Raw) : Option Nat → Raw
  | none => R
  | some k => R.mark k
def spMark : Sp := fun vs H Q _ => ∃ (p : Addr) (A : HA) (R : Raw) (o : Option Nat), vs = [.ref p, optV o] ∧ HAt C H p A R ∧ R.marks.length ≤ 3000 ∧ R.line.length ≤ 3000 ∧ ∀ H', HAt C H' p A (R.markO o) → Frm H (foot A R) H' (foot A (R.markO o)) → Q .non H'
def Raw.marks2 (R : Raw) (l : List (Option Nat)) : Raw := { R with marks := R.marks ++ ext R.old R.marks l, line := R.line ++ ext R.old R.marks l }
def Raw.began (R : Raw) : Raw := { R with unsw := R.keys, old := R.keys, marks := ext R.keys [] R.hands, line := ext R.keys [] R.hands }
def spBegin : Sp := fun vs H Q _ => ∃ (p : Addr) (A : HA) (R : Raw), vs = [.ref p] ∧ HAt C H p A R ∧ R.marks = [] ∧ R.line = [] ∧ R.hands.length ≤ 8 ∧ R.keys.length ≤ 1000 ∧ R.keys.Pairwise (· < ·) ∧ ∀ H' A', HAt C H' p A' R.began → Frm H (foot A R) H' (foot A' R.began) → Q .non H'
def Raw.markOn (R : Raw) (b : Nat) (r : List Nat) : Raw := Raw.marks2 { R with line := r } (R.row b)
def spMarkOn : Sp := fun vs H Q _ => ∃ (p : Addr) (A : HA) (R : Raw) (b : Nat) (r : List Nat), vs = [.ref p] ∧ HAt C H p A R ∧ R.line = b :: r ∧ b ∈ R.keys ∧ R.marks.length ≤ 1000 ∧ r.length ≤ 1000 ∧ (R.row b).length ≤ 4 ∧ ∀ H', HAt C H' p A (R.markOn b r) → Frm H (foot A R) H' (foot A (R.markOn b r)) → Q .non H'
def Raw.sweepOn (R : Raw) (b : Nat) (r : List Nat) : Raw := if b ∈ R.marks then { R with unsw := r } else { R with unsw := r, keys := R.keys.filter fun k => decide (k ≠ b) }
def spSweepOn : Sp := fun vs H Q _ => ∃ (p : Addr) (A : HA) (R : Raw) (b : Nat) (r : List Nat), vs = [.ref p] ∧ HAt C H p A R ∧ R.unsw = b :: r ∧ b ∈ R.keys ∧ r.length ≤ 1000 ∧ ∀ H', HAt C H' p A (R.sweepOn b r) → Frm H (foot A R) H' (foot A (R.sweepOn b r)) → Q (if b ∈ R.marks then .non else .int b) H'
def Raw.endRound (R : Raw) : Raw := { R with old := [], marks := [], ended := R.ended + 1 }
def spEnd : Sp := fun vs H Q _ => ∃ (p : Addr) (A : HA) (R : Raw), vs = [.ref p] ∧ HAt C H p A R ∧ ∀ H' A', HAt C H' p A' R.endRound → Frm H (foot A R) H' (foot A' R.endRound) → Q .non H'
def spPiece : Sp := fun vs H Q _ => ∃ (p : Addr) (F : Addr → Prop) (S : HS), vs = [.ref p] ∧ HeapAt C H p F S ∧ ∀ H' F', HeapAt C H' p F' S.piece.1 → Frm H F H' F' → Q (optV S.piece.2) H'
def spWork : Sp := fun vs H Q E => ∃ (p : Addr) (F : Addr → Prop) (S : HS) (n : Int), vs = [.ref p, .int n] ∧ HeapAt C H p F S ∧
  if 0 ≤ n ∧ n ≤ 2500 then ∀ H' F' l, HeapAt C H' p F' (HS.work n.toNat S).1 → Frm H F H' F' → H l = none → ¬ F' l → H' l = some (.lst ((HS.work n.toNat S).2.map nV)) → Q (.ref l) H' else E (.ref EC.noWork) none H
end
theorem raw_mark (S : HS) (k : Nat) : raw (S.mark k) = (raw S).mark k := by
  unfold HS.mark Raw.mark raw
  by_cases h : k ∈ S.old ∧ k ∉ S.marks
  · rw [if_pos h, if_pos h]
  · rw [if_neg h, if_neg h]
theorem raw_markO (S : HS) (o : Option Nat) : raw (S.markO o) = (raw S).markO o := by
  cases o with
  | none => rfl
  | some k => exact raw_mark S k
theorem raw_began (S : HS) : raw S.began = (raw S).began := by rw [began_eq]; rfl
theorem raw_markOn {S : HS} {b : Nat} {r : List Nat} (h : S.line = b :: r) : raw S.markOn = (raw S).markOn b r := by
  unfold HS.markOn
  rw [h]
  show raw (HS.markAll _ _) = _
  rw [markAll_eq]
  rfl
theorem raw_sweepOn {S : HS} {b : Nat} {r : List Nat} (h : S.unsw = b :: r) : raw S.sweepOn.1 = (raw S).sweepOn b r := by
  unfold HS.sweepOn Raw.sweepOn raw
  rw [h]
  dsimp only
  split <;> rfl
theorem sweepOn_freed {S : HS} {b : Nat} {r : List Nat} (h : S.unsw = b :: r) : optV S.sweepOn.2 = if b ∈ S.marks then .non else .int b := by
  unfold HS.sweepOn
  rw [h]
  dsimp only
  split <;> rfl
theorem raw_endRound (S : HS) : raw S.endRound = (raw S).endRound := rfl
/-! ### an object that is being made -/
structure Bld (C dx p : Addr) (H0 Hi : Hp) (fs : List (Str × V)) (L : List (Addr × HO)) : Prop where
  ob : Hi p = some (.ins C dx fs)
  at_ : ∀ x ∈ L, Hi x.1 = some x.2
  new : ∀ x ∈ L, H0 x.1 = none
  nd : (L.map (·.1)).Nodup
  kp : ∀ b o, H0 b = some o → b ≠ p → Hi b = some o
  pp : H0 p ≠ none
section
variable {C dx p q : Addr} {H0 Hi : Hp} {fs : List (Str × V)} {L : List (Addr × HO)}
theorem Bld.start (h : H0 p = some (.ins C dx [])) : Bld C dx p H0 H0 [] [] := ⟨h, fun _ z => absurd z (by simp), fun _ z => absurd z (by simp), List.nodup_nil, fun _ _ e _ => e, by rw [h]; simp⟩
theorem Bld.free (h : Bld C dx p H0 Hi fs L) (n : Hi q = none) : H0 q = none := by
  cases e : H0 q with
  | none => rfl
  | some o =>
    by_cases c : q = p
    · subst c; rw [h.ob] at n; cases n
    · rw [h.kp q o e c] at n; cases n
theorem Bld.tmp {o : HO} (h : Bld C dx p H0 Hi fs L) (n : Hi q = none) : Bld C dx p H0 (upd Hi q o) fs L :=
  ⟨by rw [upd_ne (ne_of_none h.ob n)]; exact h.ob, fun x hx => by rw [upd_ne (ne_of_none (h.at_ x hx) n)]; exact h.at_ x hx, h.new, h.nd, fun b u e c => by rw [upd_ne (ne_of_none (h.kp b u e c) n)]; exact h.kp b u e c, h.pp⟩
theorem Bld.alloc {o : HO} (h : Bld C dx p H0 Hi fs L) (n : Hi q = none) : Bld C dx p H0 (upd Hi q o) fs ((q, o) :: L) := by
  have t := h.tmp (o := o) n
  refine ⟨t.ob, fun x hx => ?_, fun x hx => ?_, ?_, t.kp, h.pp⟩
  · rcases List.mem_cons.mp hx with e | hx
    · subst e; exact upd_same
    · exact t.at_ x hx
  · rcases List.mem_cons.mp hx with e | hx
    · subst e; exact h.free n
    · exact h.new x hx
  · refine List.nodup_cons.mpr ⟨fun z => ?_, h.nd⟩
    obtain ⟨x, hx, e⟩ := List.mem_map.mp z
    have := h.at_ x hx
    have e : x.1 = q := e
    rw [e, n] at this
    cases this
theorem Bld.fld (h : Bld C dx p H0 Hi fs L) (fs' : List (Str × V)) : Bld C dx p H0 (upd Hi p (.ins C dx fs')) fs' L :=
  ⟨upd_same, fun x hx => by rw [upd_ne fun (e : x.1 = p) => h.pp (e ▸ h.new x hx)]; exact h.at_ x hx, h.new, h.nd, fun b u e c => by rw [upd_ne c]; exact h.kp b u e c, h.pp⟩
end
theorem Bld.heap {C dx p qh qr qo qm ql qu : Addr} {H0 Hi : Hp} {n r : Int} (hn : 1 ≤ n ∧ n ≤ 8) (hr : 1 ≤ r ∧ r ≤ 1000)
    (h : Bld C dx p H0 Hi (fl (.ref qh) (.int r) (.ref qr) (.int 0) (.int 0) (.ref qo) (.ref qm) (.ref ql) (.ref qu)) [(qu, .lst []), (ql, .lst []), (qm, .dK []), (qo, .dK []), (qr, .dK []), (qh, .lst ((List.replicate n.toNat none).map optV))]) :
    ∃ F', HeapAt C Hi p F' (HS.new n.toNat r.toNat) ∧ ∀ b o, H0 b = some o → b ≠ p → Hi b = some o ∧ ¬ F' b := by
  let A : HA := ⟨dx, fun s => match s with
    | .ob => p
    | .hands => qh
    | .rows => qr
    | .old => qo
    | .marks => qm
    | .line => ql
    | .unsw => qu
    | .row _ => p⟩
  have nd := h.nd
  have nw := h.new
  have np : ∀ x : Addr × HO, H0 x.1 = none → x.1 ≠ p := fun x hx e => h.pp (e ▸ hx)
  have at_ := h.at_
  simp only [List.map_cons, List.map_nil, List.nodup_cons, List.mem_cons, List.not_mem_nil, or_false, not_or, List.nodup_nil, and_true, not_false_eq_true] at nd
  simp only [List.mem_cons, List.not_mem_nil, or_false, forall_eq_or_imp, forall_eq] at nw at_
  obtain ⟨u1, l1, m1, o1, r1, h1⟩ := nw
  obtain ⟨⟨a1, a2, a3, a4, a5⟩, ⟨b1, b2, b3, b4⟩, ⟨c1, c2, c3⟩, ⟨d1, d2⟩, e1⟩ := nd
  obtain ⟨g1, g2, g3, g4, g5, g6⟩ := at_
  have p1 : qu ≠ p := fun e => h.pp (e ▸ u1)
  have p2 : ql ≠ p := fun e => h.pp (e ▸ l1)
  have p3 : qm ≠ p := fun e => h.pp (e ▸ m1)
  have p4 : qo ≠ p := fun e => h.pp (e ▸ o1)
  have p5 : qr ≠ p := fun e => h.pp (e ▸ r1)
  have p6 : qh ≠ p := fun e => h.pp (e ▸ h1)
  have er : ((r.toNat : Nat) : Int) = r := by omega
  have hA : HAt C Hi p A (raw (HS.new n.toNat r.toNat)) := by
    refine ⟨rfl, fun s hs => ?_, fun s t hs ht e => ?_⟩
    · cases s with
      | ob =>
        show Hi p = some (.ins C dx (fl (.ref qh) (.int ((r.toNat : Nat) : Int)) (.ref qr) (.int 0) (.int 0) (.ref qo) (.ref qm) (.ref ql) (.ref qu)))
        rw [er]
        exact h.ob
      | row k => exact absurd hs (show k ∉ ([] : List Nat) by simp)
      | _ => assumption
    · cases s <;> cases t <;> first | rfl | exact absurd hs (show _ ∉ ([] : List Nat) by simp) | exact absurd ht (show _ ∉ ([] : List Nat) by simp) | exact absurd e (by assumption) | exact absurd e.symm (by assumption)
  refine ⟨_, ⟨A, hA, rfl, Good.new (by omega) (by omega)⟩, fun b o e c => ⟨h.kp b o e c, fun z => ?_⟩⟩
  obtain ⟨s, hs, rfl⟩ := z
  cases s with
  | ob => exact c rfl
  | row k => exact absurd hs (show k ∉ ([] : List Nat) by simp)
  | hands => rw [show A.f .hands = qh from rfl, h1] at e; cases e
  | rows => rw [show A.f .rows = qr from rfl, r1] at e; cases e
  | old => rw [show A.f .old = qo from rfl, o1] at e; cases e
  | marks => rw [show A.f .marks = qm from rfl, m1] at e; cases e
  | line => rw [show A.f .line = ql from rfl, l1] at e; cases e
  | unsw => rw [show A.f .unsw = qu from rfl, u1] at e; cases e
theorem rep_none (n : Nat) : (List.replicate n [V.non]).flatten = (List.replicate n (none : Option Nat)).map optV := by
  induction n with
  | zero => rfl
  | succ n ih =>
    rw [List.replicate_succ, List.replicate_succ, List.flatten_cons, ih, List.map_cons]
    rfl
theorem raw_make (S : HS) (h n : Nat) : raw (S.make h n) = { raw S with made := S.rows.length + 1, keys := S.keys ++ [S.rows.length], row := fun j => if j = S.rows.length then List.replicate n none else (raw S).row j, hands := S.hands.set h (some S.rows.length) } := by
  have e : (S.make h n).row = fun j => if j = S.rows.length then List.replicate n none else S.row j := funext fun j => rowOf_push j
  have e2 : (S.make h n).rows.length = S.rows.length + 1 := by show (S.rows ++ [_]).length = _; rw [List.length_append]; rfl
  show Raw.mk _ _ _ (S.make h n).row (S.make h n).rows.length _ _ _ _ _ = _
  rw [e, e2]
  rfl
theorem raw_write {S : HS} {b s : Nat} (x : Option Nat) (hb : b < S.rows.length) : raw (S.write b s x) = { raw S with row := fun j => if j = b then (S.row b).set s x else (raw S).row j } := by
  have e : (S.write b s x).row = fun j => if j = b then (S.row b).set s x else S.row j := funext fun j => rowOf_set j hb
  have e2 : (S.write b s x).rows.length = S.rows.length := by show (S.rows.set _ _).length = _; rw [List.length_set]
  show Raw.mk _ _ _ (S.write b s x).row (S.write b s x).rows.length _ _ _ _ _ = _
  rw [e, e2]
  rfl
theorem set_opt (l : List (Option Nat)) (j : Nat) (x : Option Nat) : (l.map optV).set j (optV x) = (l.set j x).map optV := by rw [List.map_set]
theorem getD_opt (l : List (Option Nat)) (j : Nat) : l.getD j none = (l[j]?).getD none := List.getD_eq_getElem?_getD ..
section
variable {C p : Addr} {H : Hp} {A : HA} {S : HS}
theorem okHand.ix {h : Int} (c : okHand S h) : ixN (S.hands.map optV).length h = some h.toNat := by
  have := ixN_nat (n := (S.hands.map optV).length) (j := h.toNat) (by rw [List.length_map]; have := c.1; have := c.2; omega)
  rw [← this]
  congr 1
  have := c.1; omega
theorem okHand.at_ {h : Int} (c : okHand S h) : atI (S.hands.map optV) h = some (optV (S.hand h.toNat)) := by
  have := atI_opt (l := S.hands) (h := h.toNat) (by have := c.1; have := c.2; omega)
  rw [show ((h.toNat : Nat) : Int) = h by have := c.1; omega] at this
  exact this
theorem HAt.setHand (hA : HAt C H p A (raw S)) {h : Nat} {x : Option Nat} (G' : Good (S.setHand h x)) : HeapAt C (upd H (A.f .hands) (.lst ((S.hands.map optV).set h (optV x)))) p (foot A (raw S)) (S.setHand h x) ∧ Frm H (foot A (raw S)) (upd H (A.f .hands) (.lst ((S.hands.map optV).set h (optV x)))) (foot A (raw S)) := by
  rw [set_opt]
  exact ⟨⟨A, hA.pHands (S.hands.set h x), rfl, G'⟩, (Frm.refl _ _).put (hA.foot_on (s := .hands) trivial)⟩
end
/-- what is tracked stays tracked -/
def Mono (H H' : Hp) : Prop := ∀ b o, H b = some o → ∃ o', H' b = some o'
theorem Mono.refl (H : Hp) : Mono H H := fun _ o h => ⟨o, h⟩
theorem Mono.put {H H1 : Hp} (m : Mono H H1) {q : Addr} {o : HO} : Mono H (upd H1 q o) := fun b u h => by
  by_cases e : b = q
  · subst e; exact ⟨o, upd_same⟩
  · rw [upd_ne e]; exact m b u h
theorem Mono.same {H H1 H2 : Hp} (m : Mono H H1) (s : Same H1 H2) : Mono H H2 := fun b o h => let ⟨u, e⟩ := m b o h; ⟨u, s _ _ e⟩
theorem Mono.free {H H1 : Hp} (m : Mono H H1) {q : Addr} (n : H1 q = none) : H q = none := by
  cases e : H q with
  | none => rfl
  | some o => obtain ⟨o', e'⟩ := m q o e; rw [n] at e'; cases e'
theorem Frm.imp {H H1 : Hp} {F F1 F2 : Addr → Prop} (a : Frm H F H1 F1) (h : ∀ b, F2 b → F1 b) : Frm H F H1 F2 := fun b o e n => let ⟨x, y⟩ := a b o e n; ⟨x, fun z => y (h b z)⟩
theorem ext_len : ∀ (l : List (Option Nat)) (old m : List Nat), (ext old m l).length ≤ l.length
  | [], _, _ => Nat.zero_le _
  | none :: r, old, m => Nat.le_succ_of_le (ext_len r old m)
  | some j :: r, old, m => by
    unfold ext
    by_cases h : j ∈ old ∧ j ∉ m
    · rw [if_pos h]
      exact Nat.succ_le_succ (ext_len r old _)
    · rw [if_neg h]
      exact Nat.le_succ_of_le (ext_len r old m)
theorem ext_cons (old m : List Nat) (k : Nat) (r : List (Option Nat)) : ext old m (some k :: r) = if k ∈ old ∧ k ∉ m then k :: ext old (m ++ [k]) r else ext old m r := by rw [ext]
theorem marks2_cons (R : Raw) (o : Option Nat) (l : List (Option Nat)) : R.marks2 (o :: l) = (R.markO o).marks2 l := by
  cases o with
  | none => rfl
  | some k =>
    show Raw.marks2 R (some k :: l) = (R.mark k).marks2 l
    unfold Raw.mark Raw.marks2
    rw [ext_cons]
    by_cases h : k ∈ R.old ∧ k ∉ R.marks
    · rw [if_pos h, if_pos h]
      simp
    · rw [if_neg h, if_neg h]
theorem marks2_app : ∀ (l m : List (Option Nat)) (R : Raw), R.marks2 (l ++ m) = (R.marks2 l).marks2 m
  | [], m, R => by
    show R.marks2 m = ({ R with marks := R.marks ++ [], line := R.line ++ [] } : Raw).marks2 m
    rw [List.append_nil, List.append_nil]
  | o :: l, m, R => by
    rw [List.cons_append, marks2_cons, marks2_cons, marks2_app l m]
theorem marks2_one (R : Raw) (o : Option Nat) : R.marks2 [o] = R.markO o := by
  rw [marks2_cons]
  show ({ R.markO o with marks := (R.markO o).marks ++ [], line := (R.markO o).line ++ [] } : Raw) = R.markO o
  rw [List.append_nil, List.append_nil]
theorem marks2_snoc {R : Raw} {l : List (Option Nat)} {i : Nat} {o : Option Nat} (h : l[i]? = some o) : R.marks2 (l.take (i + 1)) = (R.marks2 (l.take i)).markO o := by
  rw [List.take_add_one, h, marks2_app]
  exact marks2_one _ o
end MP

set_option Elab.async false
set_option linter.all false
set_option maxRecDepth 100000
set_option maxHeartbeats 4000000
/-! What a law of ours keeps beside the heap: its hands, its rows, its deeds. -/
namespace MP
open PySem PySem.Spec PyProof.Rows L2 MM KG
/-! ### rows of a law -/
structure RowsAt (H : Hp) (qs : List Addr) (rows : List MM.Row) : Prop where
  len : qs.length = rows.length
  at_ : ∀ (i : Nat) (row : MM.Row), rows[i]? = some row → ∃ q, qs[i]? = some q ∧ H q = some (.lst (row.map optV))
theorem RowsAt.keep {H H' : Hp} {qs : List Addr} {rows : List MM.Row} (h : RowsAt H qs rows) (s : ∀ b ∈ qs, ∀ o, H b = some o → H' b = some o) : RowsAt H' qs rows :=
  ⟨h.len, fun i row e => by
    obtain ⟨q, e1, e2⟩ := h.at_ i row e
    exact ⟨q, e1, s q (List.mem_of_getElem? e1) _ e2⟩⟩
theorem RowsAt.nil {H : Hp} : RowsAt H [] [] := ⟨rfl, fun i row e => by simp at e⟩
theorem RowsAt.push {H : Hp} {qs : List Addr} {rows : List MM.Row} {q : Addr} {row : MM.Row} (h : RowsAt H qs rows) (e : H q = some (.lst (row.map optV))) : RowsAt H (qs ++ [q]) (rows ++ [row]) := by
  refine ⟨by rw [List.length_append, List.length_append, h.len]; rfl, fun i r er => ?_⟩
  by_cases hi : i < rows.length
  · rw [List.getElem?_append_left hi] at er
    obtain ⟨p, e1, e2⟩ := h.at_ i r er
    exact ⟨p, by rw [List.getElem?_append_left (by rw [h.len]; exact hi)]; exact e1, e2⟩
  · have hi2 : i = rows.length := by
      have := (List.getElem?_eq_some_iff.mp er).1
      rw [List.length_append, List.length_singleton] at this
      omega
    subst hi2
    rw [List.getElem?_append_right (Nat.le_refl _), Nat.sub_self] at er
    have er' : row = r := Option.some.inj er
    subst er'
    refine ⟨q, ?_, e⟩
    rw [← h.len, List.getElem?_append_right (Nat.le_refl _), Nat.sub_self]
    rfl
theorem RowsAt.set {H : Hp} {qs : List Addr} {rows : List MM.Row} {b : Nat} {q : Addr} {row : MM.Row} (h : RowsAt H qs rows) (hq : qs[b]? = some q) (nd : qs.Nodup) : RowsAt (upd H q (.lst (row.map optV))) qs (rows.set b row) := by
  refine ⟨by rw [List.length_set]; exact h.len, fun i r er => ?_⟩
  rw [List.getElem?_set] at er
  by_cases e : b = i
  · subst e
    rw [if_pos rfl] at er
    have hb : b < rows.length := by rw [← h.len]; exact (List.getElem?_eq_some_iff.mp hq).1
    rw [if_pos hb] at er
    cases er
    exact ⟨q, hq, upd_same⟩
  · rw [if_neg e] at er
    obtain ⟨p, e1, e2⟩ := h.at_ i r er
    exact ⟨p, e1, by rw [upd_ne fun (z : p = q) => e (nd_ix nd hq (z ▸ e1))]; exact e2⟩
structure LawAt (H : Hp) (hl rl : Addr) (qs : List Addr) (hands : List (Option Nat)) (rows : List MM.Row) : Prop where
  handsA : H hl = some (.lst (hands.map optV))
  rlA : H rl = some (.lst (qs.map V.ref))
  rowsA : RowsAt H qs rows
  ne : hl ≠ rl
  nh : hl ∉ qs
  nr : rl ∉ qs
  nd : qs.Nodup
def footL (hl rl : Addr) (qs : List Addr) (b : Addr) : Prop := b = hl ∨ b = rl ∨ b ∈ qs
theorem LawAt.tracked {H : Hp} {hl rl : Addr} {qs : List Addr} {hands : List (Option Nat)} {rows : List MM.Row} (h : LawAt H hl rl qs hands rows) {b : Addr} (f : footL hl rl qs b) : ∃ o, H b = some o := by
  rcases f with rfl | rfl | f
  · exact ⟨_, h.handsA⟩
  · exact ⟨_, h.rlA⟩
  · obtain ⟨i, hi⟩ := List.getElem?_of_mem f
    have lt : i < rows.length := by rw [← h.rowsA.len]; exact (List.getElem?_eq_some_iff.mp hi).1
    obtain ⟨q, e1, e2⟩ := h.rowsA.at_ i _ (List.getElem?_eq_getElem lt)
    rw [hi] at e1; cases e1
    exact ⟨_, e2⟩
theorem LawAt.keep {H H' : Hp} {hl rl : Addr} {qs : List Addr} {hands : List (Option Nat)} {rows : List MM.Row} (h : LawAt H hl rl qs hands rows) (s : ∀ b, footL hl rl qs b → ∀ o, H b = some o → H' b = some o) : LawAt H' hl rl qs hands rows :=
  ⟨s _ (.inl rfl) _ h.handsA, s _ (.inr (.inl rfl)) _ h.rlA, h.rowsA.keep fun b hb => s b (.inr (.inr hb)), h.ne, h.nh, h.nr, h.nd⟩
theorem LawAt.row {H : Hp} {hl rl : Addr} {qs : List Addr} {hands : List (Option Nat)} {rows : List MM.Row} (h : LawAt H hl rl qs hands rows) {k : Nat} (hk : k < rows.length) : ∃ q, qs[k]? = some q ∧ H q = some (.lst ((rowOf rows k).map optV)) :=
  h.rowsA.at_ k _ (rowOf_lt hk)
/-! ### deeds -/
inductive Deed
  | make (h n : Nat)
  | take (h o s : Nat)
  | put (h s o : Nat)
  | share (h o : Nat)
  | drop (h : Nat)
def Deed.vals : Deed → List V
  | .make h n => [.str "make", .int h, .int n]
  | .take h o s => [.str "take", .int h, .int o, .int s]
  | .put h s o => [.str "put", .int h, .int s, .int o]
  | .share h o => [.str "share", .int h, .int o]
  | .drop h => [.str "drop", .int h]
/-- it can be done -/
def Valid (hands : List (Option Nat)) (rows : List MM.Row) : Deed → Prop
  | .make h n => h < hands.length ∧ n ≤ 4
  | .take h o s => h < hands.length ∧ o < hands.length ∧ ∃ k, hands.getD o none = some k ∧ k < rows.length ∧ s < (rowOf rows k).length
  | .put h s o => h < hands.length ∧ o < hands.length ∧ ∃ k, hands.getD h none = some k ∧ k < rows.length ∧ s < (rowOf rows k).length
  | .share h o => h < hands.length ∧ o < hands.length
  | .drop h => h < hands.length
/-- done by plain rows -/
def doL (hands : List (Option Nat)) (rows : List MM.Row) : Deed → List (Option Nat) × List MM.Row
  | .make h n => (hands.set h (some rows.length), rows ++ [List.replicate n none])
  | .take h o s => (hands.set h ((rowOf rows ((hands.getD o none).getD 0)).getD s none), rows)
  | .put h s o => (hands, rows.set ((hands.getD h none).getD 0) ((rowOf rows ((hands.getD h none).getD 0)).set s (hands.getD o none)))
  | .share h o => (hands.set h (hands.getD o none), rows)
  | .drop h => (hands.set h none, rows)
/-- done by the heap -/
def doS (S : HS) : Deed → HS
  | .make h n => S.make h n
  | .take h o s => S.take h ((S.hand o).getD 0) s
  | .put h s o => S.put ((S.hand h).getD 0) s o
  | .share h o => S.share h o
  | .drop h => S.drop h
def resS (S : HS) : Deed → V
  | .make _ _ => .int S.rows.length
  | _ => .non
theorem doS_is (S : HS) (d : Deed) : ((doS S d).hands, (doS S d).rows) = doL S.hands S.rows d := by
  cases d with
  | put h s o =>
    show ((S.put _ _ _).hands, (S.put _ _ _).rows) = _
    unfold HS.put
    obtain ⟨m1, m2, _⟩ := markO_fields S (S.slot ((S.hand h).getD 0) s)
    split
    · rfl
    · show ((HS.markO _ _).hands, (HS.markO _ _).rows.set _ (List.set (rowOf (HS.markO _ _).rows _) _ _)) = _
      rw [m1, m2]
      rfl
  | _ => rfl
theorem Good.doS {S : HS} (G : Good S) {d : Deed} (v : Valid S.hands S.rows d) (hr : S.keys.length < S.room) : Good (doS S d) := by
  cases d with
  | make h n => exact Good.make G v.2 hr
  | take h o s =>
    obtain ⟨_, _, k, hk, _⟩ := v
    have hk : S.hand o = some k := hk
    show Good (S.take h _ s)
    rw [hk]
    exact Good.take G (G.handLive hk)
  | put h s o =>
    obtain ⟨_, _, k, hk, _⟩ := v
    have hk : S.hand h = some k := hk
    show Good (S.put _ s o)
    rw [hk]
    exact Good.put G (G.handLive hk)
  | share h o => exact Good.share G
  | drop h => exact Good.drop G
/-! ### heap and law beside each other -/
structure Duo (C : Addr) (H : Hp) (p hl rl : Addr) (X : Addr → Prop) (S : HS) (hands : List (Option Nat)) (rows : List MM.Row) : Prop where
  ex : ∃ F qs, HeapAt C H p F S ∧ LawAt H hl rl qs hands rows ∧ (∀ b, F b → ¬ footL hl rl qs b) ∧ X = fun b => F b ∨ footL hl rl qs b
theorem HeapAt.tracked {C p : Addr} {H : Hp} {F : Addr → Prop} {S : HS} (h : HeapAt C H p F S) {b : Addr} (f : F b) : ∃ o, H b = some o := by
  obtain ⟨A, h, rfl, _⟩ := h
  exact h.foot_at f
theorem HeapAt.keep {C p : Addr} {H H' : Hp} {F : Addr → Prop} {S : HS} (h : HeapAt C H p F S) (s : ∀ b, F b → ∀ o, H b = some o → H' b = some o) : HeapAt C H' p F S := by
  obtain ⟨A, h, rfl, g⟩ := h
  exact ⟨A, h.keep fun b o e f => s b f o e, rfl, g⟩
section
variable {C p hl rl : Addr} {H H' : Hp} {X : Addr → Prop} {S : HS} {hands : List (Option Nat)} {rows : List MM.Row}
theorem Duo.tracked (D : Duo C H p hl rl X S hands rows) {b : Addr} (f : X b) : ∃ o, H b = some o := by
  obtain ⟨F, qs, h, l, _, rfl⟩ := D.ex
  rcases f with f | f
  · exact h.tracked f
  · exact l.tracked f
theorem Duo.fresh (D : Duo C H p hl rl X S hands rows) {q : Addr} (n : H q = none) : ¬ X q := fun f => by
  obtain ⟨o, e⟩ := D.tracked f
  rw [n] at e; cases e
theorem Duo.keep (D : Duo C H p hl rl X S hands rows) (s : ∀ b, X b → ∀ o, H b = some o → H' b = some o) : Duo C H' p hl rl X S hands rows := by
  obtain ⟨F, qs, h, l, d, rfl⟩ := D.ex
  exact ⟨F, qs, h.keep fun b f => s b (.inl f), l.keep fun b f => s b (.inr f), d, rfl⟩
theorem Duo.same (D : Duo C H p hl rl X S hands rows) (s : Same H H') : Duo C H' p hl rl X S hands rows := D.keep fun b _ o e => s b o e
theorem Duo.out (D : Duo C H p hl rl X S hands rows) {q : Addr} {o : HO} (n : ¬ X q) : Duo C (upd H q o) p hl rl X S hands rows := D.keep fun b f o' e => by
  rw [upd_ne fun (z : b = q) => n (z ▸ f)]
  exact e
theorem Duo.good (D : Duo C H p hl rl X S hands rows) : Good S := D.ex.choose_spec.choose_spec.1.good
theorem Duo.ob (D : Duo C H p hl rl X S hands rows) : ∃ dx fs, H p = some (.ins C dx fs) ∧ (∀ m : Str, m ∉ (["_hands", "_room", "_rows", "_made", "_ended", "_old", "_marks", "_line", "_unswept"] : List Str) → fs.lookup m = none) := by
  obtain ⟨F, qs, h, l, d, rfl⟩ := D.ex
  exact h.ob
theorem Duo.hands_at (D : Duo C H p hl rl X S hands rows) : H hl = some (.lst (hands.map optV)) := by
  obtain ⟨F, qs, h, l, d, rfl⟩ := D.ex
  exact l.handsA
theorem Duo.foot_hl (D : Duo C H p hl rl X S hands rows) : X hl := by
  obtain ⟨F, qs, h, l, d, rfl⟩ := D.ex
  exact .inr (.inl rfl)
theorem Duo.foot_rl (D : Duo C H p hl rl X S hands rows) : X rl := by
  obtain ⟨F, qs, h, l, d, rfl⟩ := D.ex
  exact .inr (.inr (.inl rfl))
/-- a step of the heap -/
theorem Duo.heap (D : Duo C H p hl rl X S hands rows) {S' : HS} : ∃ F, HeapAt C H p F S ∧ (∀ b, F b → X b) ∧ ∀ H' F', HeapAt C H' p F' S' → Frm H F H' F' → ∃ X', Duo C H' p hl rl X' S' hands rows ∧ Frm H X H' X' := by
  obtain ⟨F, qs, h, l, d, rfl⟩ := D.ex
  refine ⟨F, h, fun _ => .inl, fun H' F' h' f => ?_⟩
  have nf : ∀ b, footL hl rl qs b → ∀ o, H b = some o → H' b = some o ∧ ¬ F' b := fun b z o e => f b o e fun y => d b y z
  have l' := l.keep (H' := H') fun b z o e => (nf b z o e).1
  refine ⟨fun b => F' b ∨ footL hl rl qs b, ⟨F', qs, h', l', fun b y z => ?_, rfl⟩, fun b o e n => ?_⟩
  · obtain ⟨o, e⟩ := l.tracked z
    exact (nf b z o e).2 y
  · obtain ⟨x, y⟩ := f b o e fun z => n (.inl z)
    exact ⟨x, fun z => z.elim y fun w => n (.inr w)⟩
/-- a step of the law -/
theorem Duo.law (D : Duo C H p hl rl X S hands rows) {hands' : List (Option Nat)} {rows' : List MM.Row} : ∃ qs, LawAt H hl rl qs hands rows ∧ (∀ b, footL hl rl qs b → X b) ∧ ∀ H' qs', LawAt H' hl rl qs' hands' rows' → Frm H (footL hl rl qs) H' (footL hl rl qs') → ∃ X', Duo C H' p hl rl X' S hands' rows' ∧ Frm H X H' X' := by
  obtain ⟨F, qs, h, l, d, rfl⟩ := D.ex
  refine ⟨qs, l, fun _ => .inr, fun H' qs' l' f => ?_⟩
  have nf : ∀ b, F b → ∀ o, H b = some o → H' b = some o ∧ ¬ footL hl rl qs' b := fun b z o e => f b o e (d b z)
  have h' := h.keep (H' := H') fun b z o e => (nf b z o e).1
  refine ⟨fun b => F b ∨ footL hl rl qs' b, ⟨F, qs', h', l', fun b z y => ?_, rfl⟩, fun b o e n => ?_⟩
  · obtain ⟨o, e⟩ := h.tracked z
    exact (nf b z o e).2 y
  · obtain ⟨x, y⟩ := f b o e fun z => n (.inr z)
    exact ⟨x, fun z => z.elim (fun w => n (.inl w)) y⟩
end
/-! ### lists of deeds -/
structure DeedsAt (H : Hp) (D : Addr) (qs : List Addr) (ds : List Deed) : Prop where
  at_ : H D = some (.lst (qs.map V.ref))
  len : qs.length = ds.length
  row : ∀ (i : Nat) (d : Deed), ds[i]? = some d → ∃ q, qs[i]? = some q ∧ H q = some (.lst d.vals)
def ValidL : List (Option Nat) → List MM.Row → List Deed → Prop
  | _, _, [] => True
  | h, r, d :: ds => Valid h r d ∧ ValidL (doL h r d).1 (doL h r d).2 ds
/-- the law's numbers -/
def mixN (ns : List Int) (k : Nat) : Nat := ((cellOf ns k * 48271 + 7919 * (k : Int)) % 1000003).toNat
section
variable (C : Addr) (EC : ECs) (K : PySem.W.Frag)
def spMixedAt : Sp := fun vs H Q _ => ∃ (l : Addr) (ns : List Int) (k : Nat), vs = [.ref l, .int (k : Int)] ∧ SqL K H l (ns.map V.int) ∧ Q (.int (mixN ns k : Int)) H
def spMixed : Sp := fun vs H Q _ => ∃ (l : Addr) (ns : List Int) (m : Nat), vs = [.ref l, .int (m : Int)] ∧ SqL K H l (ns.map V.int) ∧ ns.length ≤ 63 ∧
  ∀ (H' : Hp) (D : Addr) (cells : List Nat), Same H H' → H D = none → H' D = some (.lst (cells.map nV)) → cells.length ≤ 62 → Q (.ref D) H'
def Plain (xs : List V) : Prop := ∀ x ∈ xs, x = .non ∨ ∃ i, x = .int i
def spNumbers : Sp := fun vs H Q _ => ∃ (a b : Addr) (xs : List V), vs = [.ref a, .ref b] ∧ H a = some (.lst xs) ∧ H b = some (.lst xs) ∧ Plain xs ∧ xs.length ≤ 3000 ∧ Q (.bl true) H
def spWhole : Sp := fun vs H Q _ => ∃ i, vs = [.int i] ∧ Q (.bl true) H
def spDeeds : Sp := fun vs H Q _ => ∃ (c : Nat) (hl rl : Addr) (qs : List Addr) (hands : List (Option Nat)) (rows : List MM.Row), vs = [.int (c : Int), .ref hl, .ref rl] ∧ LawAt H hl rl qs hands rows ∧ 1 ≤ hands.length ∧ hands.length ≤ 8 ∧ (∀ k, some k ∈ hands → k < rows.length) ∧ (∀ row ∈ rows, row.length ≤ 4) ∧
  ∀ H' D qs' ds, Same H H' → H D = none → (∀ q ∈ qs', H q = none) → DeedsAt H' D qs' ds → ValidL hands rows ds → ds.length ≤ 2 → Q (.ref D) H'
def spDone : Sp := fun vs H Q _ => ∃ (q hl rl : Addr) (qs : List Addr) (hands : List (Option Nat)) (rows : List MM.Row) (d : Deed), vs = [.ref q, .ref hl, .ref rl] ∧ H q = some (.lst d.vals) ∧ LawAt H hl rl qs hands rows ∧ ¬ footL hl rl qs q ∧ Valid hands rows d ∧ rows.length ≤ 2000 ∧
  ∀ H' qs', LawAt H' hl rl qs' (doL hands rows d).1 (doL hands rows d).2 → Frm H (footL hl rl qs) H' (footL hl rl qs') → Q .non H'
def spAsked : Sp := fun vs H Q _ => ∃ (p q : Addr) (F : Addr → Prop) (S : HS) (d : Deed), vs = [.ref p, .ref q] ∧ HeapAt C H p F S ∧ H q = some (.lst d.vals) ∧ ¬ F q ∧ Valid S.hands S.rows d ∧ S.keys.length < S.room ∧
  ∀ H' F', HeapAt C H' p F' (doS S d) → Frm H F H' F' → Q (resS S d) H'
/-- a told list is as it is due; it is cleared -/
def spCleared : Sp := fun vs H Q _ => ∃ (a b : Addr) (xs : List V), vs = [.ref a, .ref b] ∧ H a = some (.lst xs) ∧ H b = some (.lst xs) ∧ Plain xs ∧ xs.length ≤ 3000 ∧ Q (.bl true) (upd H a (.lst []))
def spHolds : Sp := fun vs H Q _ => ∃ (p hl rl : Addr) (X : Addr → Prop) (S : HS), vs = [.ref p, .ref hl, .ref rl] ∧ Duo C H p hl rl X S S.hands S.rows ∧ ∀ H', Same H H' → Q (.bl true) H'
end
theorem plain_opt (row : List (Option Nat)) : Plain (row.map optV) := fun x hx => by
  obtain ⟨o, _, rfl⟩ := List.mem_map.mp hx
  cases o with
  | none => exact .inl rfl
  | some k => exact .inr ⟨k, rfl⟩
theorem plain_nat (l : List Nat) : Plain (l.map nV) := fun x hx => by
  obtain ⟨k, _, rfl⟩ := List.mem_map.mp hx
  exact .inr ⟨k, rfl⟩
theorem Duo.lists {C p hl rl : Addr} {H : Hp} {X : Addr → Prop} {S : HS} (D : Duo C H p hl rl X S S.hands S.rows) : ∃ qs, LawAt H hl rl qs S.hands S.rows ∧ 1 ≤ S.hands.length ∧ S.hands.length ≤ 8 ∧ (∀ k, some k ∈ S.hands → k < S.rows.length) ∧ (∀ row ∈ S.rows, row.length ≤ 4) := by
  obtain ⟨F, qs, h, l, dj, rfl⟩ := D.ex
  have G := h.good
  exact ⟨qs, l, G.hn.1, G.hn.2, fun j e => G.lt j (G.hl j e).1, G.four⟩
theorem doS_hands (S : HS) (d : Deed) : (doL S.hands S.rows d).1 = (doS S d).hands := congrArg Prod.fst (doS_is S d).symm
theorem doS_rows (S : HS) (d : Deed) : (doL S.hands S.rows d).2 = (doS S d).rows := congrArg Prod.snd (doS_is S d).symm
theorem put_fields (S : HS) (b s o : Nat) : (S.put b s o).keys = S.keys ∧ (S.put b s o).room = S.room ∧ (S.put b s o).unsw = S.unsw ∧ (S.put b s o).ended = S.ended ∧ (S.put b s o).old = S.old ∧ (S.put b s o).snap = S.snap := by
  unfold HS.put
  split
  · exact ⟨rfl, rfl, rfl, rfl, rfl, rfl⟩
  · obtain ⟨m1, m2, m3, m4, m5, m6, m7, m8⟩ := markO_fields S (S.slot b s)
    exact ⟨m3, m8, m6, m7, m4, m5⟩
theorem doS_fields (S : HS) (d : Deed) : (doS S d).room = S.room ∧ (doS S d).unsw = S.unsw ∧ (doS S d).ended = S.ended ∧ (doS S d).old = S.old ∧ (doS S d).snap = S.snap ∧ S.rows.length ≤ (doS S d).rows.length ∧ (doS S d).rows.length ≤ S.rows.length + 1 ∧ (doS S d).keys.length ≤ S.keys.length + 1 ∧ (doS S d).hands.length = S.hands.length := by
  cases d with
  | make h n =>
    refine ⟨rfl, rfl, rfl, rfl, rfl, ?_, ?_, ?_, ?_⟩
    · show _ ≤ (S.rows ++ [_]).length
      rw [List.length_append]; omega
    · show (S.rows ++ [_]).length ≤ _
      rw [List.length_append]; exact Nat.le_refl _
    · show (S.keys ++ [_]).length ≤ _
      rw [List.length_append]; exact Nat.le_refl _
    · show (S.hands.set _ _).length = _
      rw [List.length_set]
  | put h s o =>
    obtain ⟨a, b, c, d, e, f⟩ := put_fields S ((S.hand h).getD 0) s o
    have x := doS_is S (.put h s o)
    have y : (doS S (.put h s o)).rows = _ := congrArg Prod.snd x
    have z : (doS S (.put h s o)).hands = _ := congrArg Prod.fst x
    refine ⟨b, c, d, e, f, ?_, ?_, Nat.le_succ_of_le (Nat.le_of_eq (congrArg List.length a)), ?_⟩
    · rw [y]; show _ ≤ (S.rows.set _ _).length; rw [List.length_set]; exact Nat.le_refl _
    · rw [y]; show (S.rows.set _ _).length ≤ _; rw [List.length_set]; omega
    · rw [z]; rfl
  | take h o s => exact ⟨rfl, rfl, rfl, rfl, rfl, Nat.le_refl _, Nat.le_succ _, Nat.le_succ _, by show (S.hands.set _ _).length = _; rw [List.length_set]⟩
  | share h o => exact ⟨rfl, rfl, rfl, rfl, rfl, Nat.le_refl _, Nat.le_succ _, Nat.le_succ _, by show (S.hands.set _ _).length = _; rw [List.length_set]⟩
  | drop h => exact ⟨rfl, rfl, rfl, rfl, rfl, Nat.le_refl _, Nat.le_succ _, Nat.le_succ _, by show (S.hands.set _ _).length = _; rw [List.length_set]⟩
theorem keysLe {S : HS} (G : Good S) : S.keys.length ≤ S.rows.length := by
  have := nodup_sub S.keys (List.range S.rows.length) (rising_nodup G.rise) fun k hk => List.mem_range.mpr (G.lt k hk)
  rwa [List.length_range] at this
def spLaw (K : PySem.W.Frag) : Sp := fun vs H Q _ => ∃ (a : Addr) (ns : List Int), vs = [.ref a] ∧ SqL K H a (ns.map V.int) ∧ ns.length ≤ 63 ∧ ∀ H', Q (.bl true) H'
theorem Duo.start {C p hl rl : Addr} {H H2 : Hp} {F : Addr → Prop} {n r : Nat} (h : HeapAt C H p F (HS.new n r)) (s : Same H H2) (e1 : H2 hl = some (.lst ((List.replicate n (none : Option Nat)).map optV))) (e2 : H2 rl = some (.lst [])) (ne : hl ≠ rl) (n1 : H hl = none) (n2 : H rl = none) :
    ∃ X, Duo C H2 p hl rl X (HS.new n r) (HS.new n r).hands (HS.new n r).rows ∧ ∀ b o, H b = some o → ¬ F b → H2 b = some o ∧ ¬ X b := by
  refine ⟨fun b => F b ∨ footL hl rl [] b, ⟨F, [], h.same s, ⟨e1, e2, RowsAt.nil, ne, by simp, by simp, .nil⟩, fun b y z => ?_, rfl⟩, fun b o e n => ⟨s b o e, fun z => ?_⟩⟩
  · obtain ⟨o, e⟩ := h.tracked y
    rcases z with rfl | rfl | z
    · rw [n1] at e; cases e
    · rw [n2] at e; cases e
    · exact absurd z (by simp)
  · rcases z with z | z | z | z
    · exact n z
    · subst z; rw [n1] at e; cases e
    · subst z; rw [n2] at e; cases e
    · exact absurd z (by simp)
theorem Duo.made {C p hl rl : Addr} {H : Hp} {X : Addr → Prop} {S : HS} (D : Duo C H p hl rl X S S.hands S.rows) : ∃ qs : List Addr, H rl = some (.lst (qs.map V.ref)) ∧ qs.length = S.rows.length ∧ ∀ k, k < S.rows.length → ∃ q, qs[k]? = some q ∧ H q = some (.lst ((S.row k).map optV)) := by
  obtain ⟨F, qs, h, l, dj, rfl⟩ := D.ex
  exact ⟨qs, l.rlA, l.rowsA.len, fun k hk => l.row hk⟩
theorem DeedsAt.nth {H : Hp} {L : Addr} {qs : List Addr} {ds : List Deed} (h : DeedsAt H L qs ds) {i : Nat} {x : V} (e : (qs.map V.ref)[i]? = some x) : ∃ q d, x = V.ref q ∧ q ∈ qs ∧ ds[i]? = some d ∧ H q = some (.lst d.vals) ∧ ds.drop i = d :: ds.drop (i + 1) := by
  rw [List.getElem?_map] at e
  cases eq : qs[i]? with
  | none => rw [eq] at e; cases e
  | some q =>
    rw [eq] at e
    cases e
    have hi : i < ds.length := by rw [← h.len]; exact (List.getElem?_eq_some_iff.mp eq).1
    obtain ⟨q', e1, e2⟩ := h.row i _ (List.getElem?_eq_getElem hi)
    rw [eq] at e1; cases e1
    exact ⟨q, ds[i], rfl, List.mem_of_getElem? eq, List.getElem?_eq_getElem hi, e2, List.drop_eq_getElem_cons hi⟩
theorem deed_first (d : Deed) : ∃ (s : Str) (r : List V), d.vals = .str s :: r ∧ (s = "make" ↔ ∃ h n, d = .make h n) ∧ (s = "put" ↔ ∃ h x o, d = .put h x o) := by
  cases d with
  | make h n => exact ⟨_, _, rfl, ⟨fun _ => ⟨h, n, rfl⟩, fun _ => rfl⟩, ⟨fun e => absurd e (by decide), fun ⟨_, _, _, e⟩ => nomatch e⟩⟩
  | take h o s => exact ⟨_, _, rfl, ⟨fun e => absurd e (by decide), fun ⟨_, _, e⟩ => nomatch e⟩, ⟨fun e => absurd e (by decide), fun ⟨_, _, _, e⟩ => nomatch e⟩⟩
  | put h s o => exact ⟨_, _, rfl, ⟨fun e => absurd e (by decide), fun ⟨_, _, e⟩ => nomatch e⟩, ⟨fun _ => ⟨h, s, o, rfl⟩, fun _ => rfl⟩⟩
  | share h o => exact ⟨_, _, rfl, ⟨fun e => absurd e (by decide), fun ⟨_, _, e⟩ => nomatch e⟩, ⟨fun e => absurd e (by decide), fun ⟨_, _, _, e⟩ => nomatch e⟩⟩
  | drop h => exact ⟨_, _, rfl, ⟨fun e => absurd e (by decide), fun ⟨_, _, e⟩ => nomatch e⟩, ⟨fun e => absurd e (by decide), fun ⟨_, _, _, e⟩ => nomatch e⟩⟩
/-- the collector has never worked -/
structure Calm (S : HS) : Prop where
  room : S.room = 1000
  keys : S.keys = List.range S.rows.length
  unsw : S.unsw = []
  line : S.line = []
  ended : S.ended = 0
theorem Calm.doS {S : HS} (c : Calm S) (d : Deed) : Calm (MP.doS S d) := by
  obtain ⟨a, b, e, _⟩ := doS_fields S d
  have nu : (MP.doS S d).unsw = [] := b.trans c.unsw
  have ne : (MP.doS S d).ended = 0 := e.trans c.ended
  have nr : (MP.doS S d).room = 1000 := a.trans c.room
  cases d with
  | make h n =>
    refine ⟨nr, ?_, nu, c.line, ne⟩
    show S.keys ++ [S.rows.length] = List.range (S.rows ++ [_]).length
    rw [c.keys, List.length_append, List.length_singleton, List.range_succ]
  | put h s o =>
    have e : MP.doS S (.put h s o) = S.write ((S.hand h).getD 0) s (S.hand o) := by show S.put _ _ _ = _; unfold HS.put; rw [if_pos c.line]
    refine ⟨nr, ?_, nu, ?_, ne⟩
    · rw [e]
      show S.keys = List.range (S.rows.set _ _).length
      rw [List.length_set]
      exact c.keys
    · rw [e]; exact c.line
  | take h o s => exact ⟨nr, c.keys, nu, c.line, ne⟩
  | share h o => exact ⟨nr, c.keys, nu, c.line, ne⟩
  | drop h => exact ⟨nr, c.keys, nu, c.line, ne⟩
def spChain (C : Addr) : Sp := fun vs H Q _ => ∃ (p hl rl : Addr) (X : Addr → Prop) (S : HS) (n : Nat), vs = [.ref p, .ref hl, .ref rl, .int (n : Int)] ∧ Duo C H p hl rl X S S.hands S.rows ∧ 2 ≤ S.hands.length ∧ n ≤ 100 ∧ S.rows.length + n ≤ 900 ∧ Calm S ∧
  ∀ H' X' S', Duo C H' p hl rl X' S' S'.hands S'.rows → Frm H X H' X' → Calm S' → S'.hands.length = S.hands.length → S'.rows.length ≤ S.rows.length + n → Q .non H'
theorem chain_valid {hands : List (Option Nat)} (rows : List MM.Row) (k : Nat) (h : 2 ≤ hands.length) : ValidL hands rows [.make 1 (1 + k % 4), .put 1 (k % 4) 0, .share 0 1] := by
  have m : k % 4 < 4 := Nat.mod_lt _ (by decide)
  have e1 : rowOf (rows ++ [List.replicate (1 + k % 4) none]) rows.length = List.replicate (1 + k % 4) none := by rw [rowOf_push, if_pos rfl]
  have e2 : (hands.set 1 (some rows.length)).getD 1 none = some rows.length := by
    rw [List.getD_eq_getElem?_getD, List.getElem?_set, if_pos rfl, if_pos (by omega)]
    rfl
  refine ⟨⟨by omega, by omega⟩, ⟨?_, ?_, rows.length, e2, ?_, ?_⟩, ⟨?_, ?_⟩, trivial⟩
  · show 1 < (hands.set _ _).length; rw [List.length_set]; omega
  · show 0 < (hands.set _ _).length; rw [List.length_set]; omega
  · show _ < (rows ++ [_]).length; rw [List.length_append, List.length_singleton]; omega
  · show k % 4 < (rowOf (rows ++ [List.replicate (1 + k % 4) none]) rows.length).length
    rw [e1, List.length_replicate]; omega
  · show 0 < (hands.set _ _).length; rw [List.length_set]; omega
  · show 1 < (hands.set _ _).length; rw [List.length_set]; omega
/-! ### lists of numbers compared -/
def dN (k : Nat) : PyData := .int (k : Int)
def dI (l : List Nat) : PyData := .list (l.map dN)
theorem dpAll_nats {K : PySem.W.Frag} {H : Hp} : ∀ l : List Nat, DpAll K H (l.map nV) (l.map dN)
  | [] => .nil
  | k :: l => .cons (.int _) (dpAll_nats l)
theorem dp_nats {K : PySem.W.Frag} {H : Hp} {a : Addr} {l : List Nat} (h : SqL K H a (l.map nV)) : Dp K H (.ref a) (dI l) := .lst h (dpAll_nats l)
theorem lay_nats : ∀ l : List Nat, PyData.canLayAll0 (l.map dN) = true
  | [] => by simp [PyData.canLayAll0]
  | k :: l => by
    rw [List.map_cons, PyData.canLayAll0, lay_nats l]
    simp [PyData.canLay0, dN]
theorem depth_nats : ∀ l : List Nat, PyData.depthAll (l.map dN) = 0
  | [] => by simp [PyData.depthAll]
  | k :: l => by
    rw [List.map_cons, PyData.depthAll, depth_nats l]
    simp [PyData.depth, dN]
theorem shaped_nats (l : List Nat) : SeqAt.shaped (dI l) = true := by
  unfold SeqAt.shaped dI
  rw [PyData.canLay0, PyData.depth, lay_nats, depth_nats]
  rfl
theorem eqv_nats : ∀ l m : List Nat, PyData.eqvAll (l.map dN) (m.map dN) = decide (l = m)
  | [], [] => by simp [PyData.eqvAll]
  | [], b :: m => by simp [PyData.eqvAll]
  | a :: l, [] => by simp [PyData.eqvAll]
  | a :: l, b :: m => by
    rw [List.map_cons, List.map_cons, PyData.eqvAll, eqv_nats l m]
    unfold dN
    rw [PyData.eqv]
    by_cases h : a = b
    · subst h
      simp
    · have : ((a : Int) == (b : Int)) = false := by simp; omega
      rw [this]
      simp [h]
theorem eqv_dI (l m : List Nat) : PyData.eqv (dI l) (dI m) = decide (l = m) := by
  unfold dI
  rw [PyData.eqv]
  exact eqv_nats l m
/-! ### the work leaves the hands and the rows -/
theorem step_fields (S : HS) : S.step.1.hands = S.hands ∧ S.step.1.rows = S.rows ∧ S.step.1.room = S.room := by
  unfold HS.step
  split
  · split
    · rw [began_eq]; exact ⟨rfl, rfl, rfl⟩
    · unfold HS.sweepOn
      split
      · exact ⟨rfl, rfl, rfl⟩
      · split <;> exact ⟨rfl, rfl, rfl⟩
  · unfold HS.markOn
    split
    · exact ⟨rfl, rfl, rfl⟩
    · rw [markAll_eq]; exact ⟨rfl, rfl, rfl⟩
theorem piece_fields (S : HS) : S.piece.1.hands = S.hands ∧ S.piece.1.rows = S.rows ∧ S.piece.1.room = S.room := by
  obtain ⟨a, b, c⟩ := step_fields S
  show S.step.1.ends.hands = _ ∧ S.step.1.ends.rows = _ ∧ S.step.1.ends.room = _
  unfold HS.ends
  split
  · exact ⟨a, b, c⟩
  · exact ⟨a, b, c⟩
theorem work_fields (S : HS) : ∀ n, (HS.work n S).1.hands = S.hands ∧ (HS.work n S).1.rows = S.rows ∧ (HS.work n S).1.room = S.room
  | 0 => ⟨rfl, rfl, rfl⟩
  | n + 1 => by
    obtain ⟨a, b, c⟩ := work_fields S n
    obtain ⟨x, y, z⟩ := piece_fields (HS.work n S).1
    exact ⟨x.trans a, y.trans b, z.trans c⟩
/-! ### lists of deeds, one more behind -/
def doAll : List (Option Nat) → List MM.Row → List Deed → List (Option Nat) × List MM.Row
  | h, r, [] => (h, r)
  | h, r, d :: ds => doAll (doL h r d).1 (doL h r d).2 ds
theorem validL_snoc : ∀ (ds : List Deed) (h : List (Option Nat)) (r : List MM.Row) (d : Deed), ValidL h r ds → Valid (doAll h r ds).1 (doAll h r ds).2 d → ValidL h r (ds ++ [d])
  | [], h, r, d, _, v => ⟨v, trivial⟩
  | e :: ds, h, r, d, v, w => ⟨v.1, validL_snoc ds _ _ d v.2 w⟩
theorem doAll_snoc : ∀ (ds : List Deed) (h : List (Option Nat)) (r : List MM.Row) (d : Deed), doAll h r (ds ++ [d]) = doL (doAll h r ds).1 (doAll h r ds).2 d
  | [], h, r, d => rfl
  | e :: ds, h, r, d => doAll_snoc ds _ _ d
def spSeveral : Sp := fun vs H Q _ => ∃ (c : Nat) (hl rl : Addr) (qs : List Addr) (hands : List (Option Nat)) (rows : List MM.Row), vs = [.int (c : Int), .ref hl, .ref rl] ∧ LawAt H hl rl qs hands rows ∧ 1 ≤ hands.length ∧ hands.length ≤ 8 ∧ (∀ k, Rc hands rows k → k < rows.length) ∧ (∀ row ∈ rows, row.length ≤ 4) ∧
  ∀ H' D qs' ds, Same H H' → H D = none → (∀ q ∈ qs', H q = none) → DeedsAt H' D qs' ds → ValidL hands rows ds → ds.length ≤ 10 → Q (.ref D) H'
def spLooked (C : Addr) : Sp := fun vs H Q _ => ∃ (p : Addr) (F : Addr → Prop) (S : HS) (b : Nat), vs = [.ref p, .int (b : Int)] ∧ HeapAt C H p F S ∧ b ∈ S.keys ∧ ∀ l, H l = none → Q (.ref l) (upd H l (.lst ((S.row b).map optV)))
/-- the deeds are asked of the heap and done by the law -/
def spSeen (C : Addr) : Sp := fun vs H Q _ => ∃ (p hl rl Ld : Addr) (X : Addr → Prop) (S : HS) (qs : List Addr) (ds : List Deed), vs = [.ref p, .ref Ld, .ref hl, .ref rl] ∧ Duo C H p hl rl X S S.hands S.rows ∧ DeedsAt H Ld qs ds ∧ ¬ X Ld ∧ (∀ q ∈ qs, ¬ X q) ∧ ValidL S.hands S.rows ds ∧ S.room = 1000 ∧ S.rows.length + ds.length ≤ 990 ∧
  ∀ H' X' S', Duo C H' p hl rl X' S' S'.hands S'.rows → Frm H X H' X' → S'.room = 1000 → S'.rows.length ≤ S.rows.length + ds.length → Q (.bl true) H'
theorem DeedsAt.push {H H' : Hp} {L L' q : Addr} {qs : List Addr} {ds : List Deed} {d : Deed} (h : DeedsAt H L qs ds) (hL : H' L' = some (.lst ((qs ++ [q]).map V.ref))) (k : ∀ x ∈ qs, ∀ u, H x = some u → H' x = some u) (hq : H' q = some (.lst d.vals)) : DeedsAt H' L' (qs ++ [q]) (ds ++ [d]) := by
  refine ⟨hL, by rw [List.length_append, List.length_append, h.len]; rfl, fun i e he => ?_⟩
  by_cases hi : i < ds.length
  · rw [List.getElem?_append_left hi] at he
    obtain ⟨q', x, y⟩ := h.row i e he
    exact ⟨q', by rw [List.getElem?_append_left (by rw [h.len]; exact hi)]; exact x, k q' (List.mem_of_getElem? x) _ y⟩
  · have := (List.getElem?_eq_some_iff.mp he).1
    rw [List.length_append, List.length_singleton] at this
    have ei : i = ds.length := by omega
    subst ei
    rw [List.getElem?_append_right (Nat.le_refl _), Nat.sub_self] at he
    cases he
    exact ⟨q, by rw [← h.len, List.getElem?_append_right (Nat.le_refl _), Nat.sub_self]; rfl, hq⟩
theorem Frm.seq {K : PySem.W.Frag} {H H' : Hp} {X X' : Addr → Prop} {l : Addr} {xs : List V} (f : Frm H X H' X') (h : SqL K H l xs) (n : ∀ o, H l = some o → ¬ X l) : SqL K H' l xs ∧ ∀ o, H' l = some o → (∃ o, H l = some o) → ¬ X' l := by
  rcases h with (h | ⟨o, h⟩) | h
  · exact ⟨.inl (.inl (f _ _ h (n _ h)).1), fun _ _ _ => (f _ _ h (n _ h)).2⟩
  · exact ⟨.inl (.inr ⟨o, (f _ _ h (n _ h)).1⟩), fun _ _ _ => (f _ _ h (n _ h)).2⟩
  · exact ⟨.inr h, fun _ _ ⟨o, e⟩ => (f _ _ e (n _ e)).2⟩
theorem Duo.work {C p hl rl : Addr} {H : Hp} {X : Addr → Prop} {S : HS} {n : Nat} (D : Duo C H p hl rl X (HS.work n S).1 S.hands S.rows) : Duo C H p hl rl X (HS.work n S).1 (HS.work n S).1.hands (HS.work n S).1.rows := by
  obtain ⟨a, b, _⟩ := work_fields S n
  rw [a, b]
  exact D
theorem tabD {c : Nat} (h : c % 10 < 7) : ∃ t : Nat, atI ([V.int 0, V.int 1, V.int 2, V.int 3, V.int 5, V.int 6, V.int 7] : List V) ((c : Int) % 10) = some (V.int (t : Int)) := by
  rw [show ((c : Int) % 10) = ((c % 10 : Nat) : Int) by omega]
  generalize c % 10 = j at h
  match j, h with
  | 0, _ => exact ⟨0, rfl⟩
  | 1, _ => exact ⟨1, rfl⟩
  | 2, _ => exact ⟨2, rfl⟩
  | 3, _ => exact ⟨3, rfl⟩
  | 4, _ => exact ⟨5, rfl⟩
  | 5, _ => exact ⟨6, rfl⟩
  | 6, _ => exact ⟨7, rfl⟩
end MP

set_option linter.all false
/-! Going through the boxes first come first. -/
namespace MM
theorem ext_consS (old m : List Nat) (k : Nat) (r : List (Option Nat)) : ext old m (some k :: r) = if k ∈ old ∧ k ∉ m then k :: ext old (m ++ [k]) r else ext old m r := by rw [ext]
theorem ext_app : ∀ (l r : List (Option Nat)) (old m : List Nat), ext old m (l ++ r) = ext old m l ++ ext old (m ++ ext old m l) r
  | [], r, old, m => by
    show ext old m r = [] ++ ext old (m ++ []) r
    rw [List.append_nil, List.nil_append]
  | none :: l, r, old, m => ext_app l r old m
  | some k :: l, r, old, m => by
    rw [List.cons_append, ext_consS, ext_consS]
    by_cases h : k ∈ old ∧ k ∉ m
    · rw [if_pos h, if_pos h, ext_app l r old (m ++ [k])]
      simp
    · rw [if_neg h, if_neg h, ext_app l r old m]
theorem ext_snoc {l : List (Option Nat)} {old m : List Nat} {k : Nat} : ext old m (l ++ [some k]) = ext old m l ++ (if k ∈ old ∧ k ∉ m ++ ext old m l then [k] else []) := by
  rw [ext_app, ext_consS]
  rfl
theorem ext_snocN {l : List (Option Nat)} {old m : List Nat} : ext old m (l ++ [none]) = ext old m l := by
  rw [ext_app]
  show _ ++ [] = _
  rw [List.append_nil]
def bfs (old : List Nat) (hands : List (Option Nat)) (rows : List Row) : Nat → List Nat
  | 0 => ext old [] hands
  | n + 1 => match (bfs old hands rows n)[n]? with
    | some b => bfs old hands rows n ++ ext old (bfs old hands rows n) (rowOf rows b)
    | none => bfs old hands rows n
section
variable {old : List Nat} {hands : List (Option Nat)} {rows : List Row}
theorem bfs_some {n b : Nat} (h : (bfs old hands rows n)[n]? = some b) : bfs old hands rows (n + 1) = bfs old hands rows n ++ ext old (bfs old hands rows n) (rowOf rows b) := by
  show (match (bfs old hands rows n)[n]? with | some b => _ | none => _) = _
  rw [h]
theorem bfs_none {n : Nat} (h : (bfs old hands rows n).length ≤ n) : bfs old hands rows (n + 1) = bfs old hands rows n := by
  show (match (bfs old hands rows n)[n]? with | some b => _ | none => _) = _
  rw [List.getElem?_eq_none h]
theorem bfs_nodup : ∀ n, (bfs old hands rows n).Nodup
  | 0 => nodup_ext _ _ _
  | n + 1 => by
    by_cases h : n < (bfs old hands rows n).length
    · rw [bfs_some (List.getElem?_eq_getElem h)]
      exact nodup_app (bfs_nodup n) (nodup_ext _ _ _) fun k hk => ((mem_ext _ _ _ k).mp hk).2.2
    · rw [bfs_none (Nat.le_of_not_lt h)]
      exact bfs_nodup n
theorem bfs_old : ∀ n k, k ∈ bfs old hands rows n → k ∈ old
  | 0, k, hk => ((mem_ext _ _ _ k).mp hk).2.1
  | n + 1, k, hk => by
    by_cases h : n < (bfs old hands rows n).length
    · rw [bfs_some (List.getElem?_eq_getElem h)] at hk
      rcases List.mem_append.mp hk with hk | hk
      · exact bfs_old n k hk
      · exact ((mem_ext _ _ _ k).mp hk).2.1
    · rw [bfs_none (Nat.le_of_not_lt h)] at hk
      exact bfs_old n k hk
theorem bfs_len (n : Nat) : (bfs old hands rows n).length ≤ old.length := nodup_sub _ _ (bfs_nodup n) (bfs_old n)
theorem bfs_pre (n : Nat) : ∃ r, bfs old hands rows (n + 1) = bfs old hands rows n ++ r := by
  by_cases h : n < (bfs old hands rows n).length
  · exact ⟨_, bfs_some (List.getElem?_eq_getElem h)⟩
  · exact ⟨[], by rw [bfs_none (Nat.le_of_not_lt h), List.append_nil]⟩
theorem bfs_pre' (n : Nat) : ∀ m, ∃ r, bfs old hands rows (n + m) = bfs old hands rows n ++ r
  | 0 => ⟨[], by rw [Nat.add_zero, List.append_nil]⟩
  | m + 1 => by
    obtain ⟨r, hr⟩ := bfs_pre' n m
    obtain ⟨r2, h2⟩ := bfs_pre (old := old) (hands := hands) (rows := rows) (n + m)
    exact ⟨r ++ r2, by rw [← Nat.add_assoc, h2, hr, List.append_assoc]⟩
theorem bfs_stop {n : Nat} (h : (bfs old hands rows n).length ≤ n) : ∀ m, bfs old hands rows (n + m) = bfs old hands rows n
  | 0 => rfl
  | m + 1 => by
    have ih := bfs_stop h m
    rw [← Nat.add_assoc, bfs_none (by rw [ih]; omega), ih]
def came (old : List Nat) (hands : List (Option Nat)) (rows : List Row) : List Nat := bfs old hands rows old.length
theorem came_is {n : Nat} (h : (bfs old hands rows n).length ≤ n) : came old hands rows = bfs old hands rows n := by
  unfold came
  by_cases c : n ≤ old.length
  · have := bfs_stop h (old.length - n)
    rwa [show n + (old.length - n) = old.length by omega] at this
  · have h2 : (bfs old hands rows old.length).length ≤ old.length := bfs_len _
    have := bfs_stop h2 (n - old.length)
    rw [show old.length + (n - old.length) = n by omega] at this
    exact this.symm
/-- while it goes on, the place is there -/
theorem bfs_on {n : Nat} (h : n < (came old hands rows).length) : n < (bfs old hands rows n).length := by
  by_cases c : n < (bfs old hands rows n).length
  · exact c
  · rw [came_is (Nat.le_of_not_lt c)] at h
    exact h
theorem bfs_at {n b : Nat} (h : (came old hands rows)[n]? = some b) : (bfs old hands rows n)[n]? = some b := by
  have hn := (List.getElem?_eq_some_iff.mp h).1
  have h1 := bfs_on hn
  have h2 : n ≤ old.length := Nat.le_trans (Nat.le_of_lt h1) (bfs_len n)
  obtain ⟨r, hr⟩ := bfs_pre' (old := old) (hands := hands) (rows := rows) n (old.length - n)
  rw [show n + (old.length - n) = old.length by omega] at hr
  unfold came at h
  rw [hr, List.getElem?_append_left h1] at h
  exact h
theorem bfs_end : (bfs old hands rows (came old hands rows).length).length ≤ (came old hands rows).length := by
  by_cases c : (came old hands rows).length < (bfs old hands rows (came old hands rows).length).length
  · have h2 : (came old hands rows).length ≤ old.length := bfs_len _
    obtain ⟨r, hr⟩ := bfs_pre' (old := old) (hands := hands) (rows := rows) (came old hands rows).length (old.length - (came old hands rows).length)
    rw [show (came old hands rows).length + (old.length - (came old hands rows).length) = old.length by omega] at hr
    have : (came old hands rows).length = _ := congrArg List.length hr
    rw [List.length_append] at this
    omega
  · exact Nat.le_of_not_lt c
theorem came_end : bfs old hands rows (came old hands rows).length = came old hands rows := (came_is bfs_end).symm
theorem came_nodup : (came old hands rows).Nodup := bfs_nodup _
theorem bfs_rc (ho : ∀ k, Rc hands rows k → k ∈ old) : ∀ n k, k ∈ bfs old hands rows n → Rc hands rows k
  | 0, k, hk => .hand ((mem_ext _ _ _ k).mp hk).1
  | n + 1, k, hk => by
    by_cases h : n < (bfs old hands rows n).length
    · rw [bfs_some (List.getElem?_eq_getElem h)] at hk
      rcases List.mem_append.mp hk with hk | hk
      · exact bfs_rc ho n k hk
      · exact .slot (bfs_rc ho n _ (List.getElem_mem h)) ((mem_ext _ _ _ k).mp hk).1
    · rw [bfs_none (Nat.le_of_not_lt h)] at hk
      exact bfs_rc ho n k hk
theorem bfs_closed : ∀ n i b, i < n → (bfs old hands rows n)[i]? = some b → ∀ j, some j ∈ rowOf rows b → j ∈ old → j ∈ bfs old hands rows n
  | 0, i, b, h, _, _, _, _ => absurd h (Nat.not_lt_zero _)
  | n + 1, i, b, hi, hb, j, hj, ho => by
    by_cases h : n < (bfs old hands rows n).length
    · have e := bfs_some (old := old) (hands := hands) (rows := rows) (List.getElem?_eq_getElem h)
      by_cases c : i = n
      · subst c
        rw [e, List.getElem?_append_left h, List.getElem?_eq_getElem h] at hb
        cases hb
        rw [e]
        by_cases m : j ∈ bfs old hands rows i
        · exact List.mem_append_left _ m
        · exact List.mem_append_right _ ((mem_ext _ _ _ j).mpr ⟨hj, ho, m⟩)
      · rw [e, List.getElem?_append_left (by omega)] at hb
        rw [e]
        exact List.mem_append_left _ (bfs_closed n i b (by omega) hb j hj ho)
    · have e := bfs_none (old := old) (hands := hands) (rows := rows) (Nat.le_of_not_lt h)
      rw [e] at hb ⊢
      have := (List.getElem?_eq_some_iff.mp hb).1
      exact bfs_closed n i b (by omega) hb j hj ho
theorem hand_bfs (ho : ∀ k, Rc hands rows k → k ∈ old) : ∀ n k, some k ∈ hands → k ∈ bfs old hands rows n
  | 0, k, hk => (mem_ext _ _ _ k).mpr ⟨hk, ho k (.hand hk), by simp⟩
  | n + 1, k, hk => by
    obtain ⟨r, hr⟩ := bfs_pre (old := old) (hands := hands) (rows := rows) n
    rw [hr]
    exact List.mem_append_left _ (hand_bfs ho n k hk)
theorem mem_came (ho : ∀ k, Rc hands rows k → k ∈ old) {k : Nat} : k ∈ came old hands rows ↔ Rc hands rows k := by
  constructor
  · exact bfs_rc ho _ k
  · intro h
    induction h with
    | hand h => exact hand_bfs ho _ _ h
    | @slot v w hv hj ih =>
      obtain ⟨i, hi⟩ := List.getElem?_of_mem ih
      have hlt : i < old.length := Nat.lt_of_lt_of_le (List.getElem?_eq_some_iff.mp hi).1 (bfs_len _)
      exact bfs_closed old.length i v hlt hi w hj (ho w (.slot hv hj))
/-- it does not matter what may be come to besides -/
theorem ext_old {old old2 : List Nat} : ∀ (l : List (Option Nat)) (m : List Nat), (∀ k, some k ∈ l → (k ∈ old ↔ k ∈ old2)) → ext old m l = ext old2 m l
  | [], m, _ => rfl
  | none :: r, m, h => ext_old r m fun k hk => h k (List.mem_cons_of_mem _ hk)
  | some j :: r, m, h => by
    rw [ext_consS, ext_consS]
    have hj := h j List.mem_cons_self
    by_cases c : j ∈ old ∧ j ∉ m
    · rw [if_pos c, if_pos ⟨hj.mp c.1, c.2⟩, ext_old r _ fun k hk => h k (List.mem_cons_of_mem _ hk)]
    · rw [if_neg c, if_neg fun z => c ⟨hj.mpr z.1, z.2⟩, ext_old r _ fun k hk => h k (List.mem_cons_of_mem _ hk)]
theorem bfs_old2 {old2 : List Nat} (h1 : ∀ k, Rc hands rows k → k ∈ old) (h2 : ∀ k, Rc hands rows k → k ∈ old2) : ∀ n, bfs old hands rows n = bfs old2 hands rows n
  | 0 => ext_old _ _ fun k hk => ⟨fun _ => h2 k (.hand hk), fun _ => h1 k (.hand hk)⟩
  | n + 1 => by
    have ih := bfs_old2 h1 h2 n
    by_cases h : n < (bfs old hands rows n).length
    · rw [bfs_some (List.getElem?_eq_getElem h)]
      have hb := bfs_rc h1 n _ (List.getElem_mem h)
      have e : (bfs old2 hands rows n)[n]? = some ((bfs old hands rows n)[n]) := by rw [← ih]; exact List.getElem?_eq_getElem h
      rw [bfs_some e, ← ih]
      congr 1
      exact ext_old _ _ fun k hk => ⟨fun _ => h2 k (.slot hb hk), fun _ => h1 k (.slot hb hk)⟩
    · rw [bfs_none (Nat.le_of_not_lt h), bfs_none (by rw [← ih]; exact Nat.le_of_not_lt h), ih]
theorem came_old2 {old2 : List Nat} (h1 : ∀ k, Rc hands rows k → k ∈ old) (h2 : ∀ k, Rc hands rows k → k ∈ old2) : came old hands rows = came old2 hands rows := by
  have e := bfs_old2 h1 h2 (came old hands rows).length
  rw [came_end] at e
  rw [e]
  refine (came_is ?_).symm
  rw [← e]
  exact Nat.le_refl _
end
end MM

set_option Elab.async false
set_option linter.all false
set_option maxRecDepth 100000
set_option maxHeartbeats 4000000
/-! Rules of our own: xs[i] += e; a method's or a class's call whose error is caught around. -/
namespace MP
open PySem PySem.Spec PyProof.Rows L2 MM KG
section
variable {X : Cx}
def rGetN (K : PySem.W.Frag) : V → V → Hp → VK → Prop := fun o i H Q => ∃ p xs k v, o = .ref p ∧ i = .int ((k : Nat) : Int) ∧ SqL K H p xs ∧ xs[k]? = some v ∧ Q v H
theorem get_list : PGet X (rGetN X.K) := by
  intro pins s σ H x y v u Q I rx ry h
  obtain ⟨p, xs, k, z, rfl, rfl, hq, he, q⟩ := h
  cases rx
  obtain ⟨t, rfl⟩ := ry
  obtain ⟨its, r, pl, hz⟩ := I.list hq
  obtain ⟨w, ew, rw'⟩ := r.get he
  have hl := r.length
  have hn := line63
  have hk := (List.getElem?_eq_some_iff.mp he).1
  refine wpAny_getItem_list pl.isList (by omega) (by omega) ?_ ⟨z, H, I, rw', q⟩
  rw [Int.toNat_natCast]
  simpa using ew
end
section
variable {X : Cx} {CX : CXT} {k : Nat} {f C : Addr} {fd : FuncData} {ps : List Str} {sp : Sp} {E : L2.St → XK} {x m : Str} {p pos apos : Pos} {e o : Expr} {es : List Expr} {ta : TE} {t : TA}
def tMethAt (C : Addr) (m : Str) (sp : Sp) (E : L2.St → XK) (ta : TE) (t : TA) : TE := fun σ H Q => ta σ H fun x H1 => ∃ a dx fs, x = .ref a ∧ H1 a = some (.ins C dx fs) ∧ fs.lookup m = none ∧ t σ H1 fun vs H2 => sp (x :: vs) H2 Q (E σ)
theorem pe_methAt {pl : Sem Bool} (he : PE X o ta) (c : Cls X.K C) (hm : Meth X.K C m f) (F : FnOk X.prog X.w X.K X.mg X.base CX k f fd ps sp) (hr : Room k X.A) (hb : Binds X.K fd ps []) (hx : ∀ σ, PassesAt CX X σ (E σ)) (ha : PA X (e :: es) t)
    (hst : starEach (e :: es) X.env = (false, eval e X.env) :: starEach es X.env := by rfl) (hpl : (backTo pos (starEach es X.env)).any (·.1) = false := by rfl)
    (ht : eval (.Call (.Attribute o m apos) (e :: es) [] pos) X.env = (do
      let ov ← eval o X.env
      standAt apos.atName
      let (f, first) ← holding [ov] (getMethod ov m pl)
      callWith pos f first (backTo pos (starEach (e :: es) X.env)) (backToKw pos (keywordEach [] X.env))) := by rfl) :
    PE X (.Call (.Attribute o m apos) (e :: es) [] pos) (tMethAt C m sp E ta t) := by
  refine ⟨fun pins s σ H Q I h => ?_⟩
  refine PySem.W.methodCall_KW (pl := pl) (thn (he.run pins s σ H _ I h) fun u s1 ⟨x, H1, I1, rx, a, dx, fs, ex, ea, l, q⟩ => ?_) ht
  subst ex
  obtain rfl : u = Value.ref a := rx
  refine getmeth_ok I1 ea c hm l ?_
  refine PySem.W.callWith_K (first := [.ref a]) (h₀ := X.base) I.ok.mod.kin hm.kp (thn (ha.run pos pins s1 σ H1 _ I1 q) fun us s2 ⟨vs, H2, I2, r, q2⟩ => ⟨I2.kIn, ?_⟩) hst hpl
  exact run_fnS (us := .ref a :: us) (vs := .ref a :: vs) F hr hb (hx σ) I2 (.cons rfl r) q2
end
end MP

set_option linter.all false
/-! When a round ends and what it frees: what is left of it, told ahead. -/
namespace MM
/-- how many pieces of marking are left -/
def left (S : HS) : Nat := S.snap.length + S.line.length - S.marks.length
open Classical in
/-- what is left of the round: a piece of marking (none), or a box to be looked at, and whether it is freed -/
noncomputable def planOf (S : HS) : List (Option (Nat × Bool)) := List.replicate (left S) none ++ S.unsw.map fun b => some (b, decide (b ∉ S.snap))
theorem len_eq {l m : List Nat} (h1 : l.Nodup) (h2 : m.Nodup) (h : ∀ k, k ∈ l ↔ k ∈ m) : l.length = m.length :=
  Nat.le_antisymm (nodup_sub _ _ h1 fun k hk => (h k).mp hk) (nodup_sub _ _ h2 fun k hk => (h k).mpr hk)
theorem Good0.marks_le {S : HS} (G : Good0 S) : S.marks.length ≤ S.snap.length := nodup_sub _ _ G.mkn G.mks
theorem Good0.line_le {S : HS} (G : Good0 S) : S.line.length ≤ S.marks.length := nodup_sub _ _ G.lnn G.ln
theorem Good0.left_sweep {S : HS} (G : Good0 S) (h : S.line = []) : left S = 0 := by
  unfold left
  have : S.snap.length = S.marks.length := len_eq (rising_nodup G.sr) G.mkn fun k => ⟨fun hk => G.all h hk, fun hk => G.mks k hk⟩
  rw [h, this]
  simp
theorem Good0.left_mark {S : HS} (G : Good0 S) (h : S.line ≠ []) : 0 < left S := by
  unfold left
  have := G.marks_le
  have : 0 < S.line.length := List.length_pos_iff.mpr h
  omega
theorem Good.plan_idle {S : HS} (G : Good S) : planOf S = [] ↔ S.line = [] ∧ S.unsw = [] := by
  unfold planOf
  constructor
  · intro h
    rw [List.append_eq_nil_iff] at h
    have hu : S.unsw = [] := List.map_eq_nil_iff.mp h.2
    have hl : left S = 0 := by
      have := congrArg List.length h.1
      rwa [List.length_replicate] at this
    refine ⟨Decidable.byContradiction fun n => ?_, hu⟩
    have := G.left_mark n
    omega
  · rintro ⟨hl, hu⟩
    rw [hu, G.left_sweep hl]
    rfl
theorem Good0.old_ne {S : HS} (G : Good0 S) (h : S.line ≠ []) : S.unsw ≠ [] := fun hu => by
  have e := G.un h
  rw [hu] at e
  obtain ⟨k, r, ek⟩ := List.exists_cons_of_ne_nil h
  have := (G.so _ (G.mks _ (G.ln k (by rw [ek]; exact List.mem_cons_self)))).1
  rw [← e] at this
  exact absurd this (by simp)
/-- the list told when a round begins -/
noncomputable def planNew (cs keys : List Nat) : List (Option (Nat × Bool)) := List.replicate cs.length none ++ keys.map fun b => some (b, decide (b ∉ cs))
theorem ends_plan (S : HS) (G : Good0 S) : planOf S.ends = planOf S ∧ S.ends.keys = S.keys ∧ S.ends.ended = S.ended + (if planOf S.ends = [] then 1 else 0) := by
  unfold HS.ends
  by_cases hu : S.unsw = []
  · rw [if_pos hu]
    have hl : S.line = [] := Decidable.byContradiction fun n => G.old_ne n hu
    have e1 : planOf S = [] := by unfold planOf; rw [hu, G.left_sweep hl]; rfl
    have e2 : planOf S.endRound = [] := by
      unfold planOf left HS.endRound
      dsimp only
      rw [hu, hl]
      rfl
    refine ⟨by rw [e1, e2], rfl, ?_⟩
    rw [if_pos e2]
    rfl
  · rw [if_neg hu]
    refine ⟨rfl, rfl, ?_⟩
    rw [if_neg]
    · rfl
    · unfold planOf
      intro h
      rw [List.append_eq_nil_iff] at h
      exact hu (List.map_eq_nil_iff.mp h.2)
theorem Good.piece_new {S : HS} (G : Good S) {cs : List Nat} (hcs : cs.Nodup) (hm : ∀ k, k ∈ cs ↔ Rc S.hands S.rows k) (hp : planOf S = []) :
    planOf S.piece.1 = planNew cs S.keys ∧ S.piece.2 = none ∧ S.piece.1.keys = S.keys ∧ S.piece.1.ended = S.ended + (if planOf S.piece.1 = [] then 1 else 0) := by
  obtain ⟨hl, hu⟩ := G.plan_idle.mp hp
  have es : S.step = (S.began, none) := by unfold HS.step; rw [if_pos hl, if_pos hu]
  have G1 := G.began hl hu
  obtain ⟨p1, p2, p3⟩ := ends_plan S.began G1
  have e1 : S.piece.1 = S.began.ends := by show S.step.1.ends = _; rw [es]
  have e2 : S.piece.2 = none := by show S.step.2 = _; rw [es]
  have ek : S.began.keys = S.keys := by rw [began_eq]
  have ee : S.began.ended = S.ended := by rw [began_eq]
  refine ⟨?_, e2, ?_, ?_⟩
  · rw [e1, p1]
    have hs : ∀ k, k ∈ S.began.snap ↔ k ∈ cs := fun k => by
      rw [began_eq]
      exact (G.snap_began k).trans (hm k).symm
    have hlen : S.began.snap.length = cs.length := len_eq (rising_nodup G1.sr) hcs hs
    have hleft : left S.began = cs.length := by
      unfold left
      rw [hlen]
      rw [began_eq]
      dsimp only
      omega
    unfold planOf planNew
    rw [hleft]
    congr 1
    have : S.began.unsw = S.keys := by rw [began_eq]
    rw [this]
    refine List.map_congr_left fun b _ => ?_
    congr 2
    exact decide_eq_decide.mpr (not_congr (hs b))
  · rw [e1, p2, ek]
  · rw [e1, p3, ee]
def planFreed : Option (Nat × Bool) → Option Nat
  | some (b, true) => some b
  | _ => none
def planKeys (keys : List Nat) : Option (Nat × Bool) → List Nat
  | some (b, true) => keys.filter fun k => decide (k ≠ b)
  | _ => keys
theorem Good.piece_old {S : HS} (G : Good S) {x : Option (Nat × Bool)} {r : List (Option (Nat × Bool))} (hp : planOf S = x :: r) :
    planOf S.piece.1 = r ∧ S.piece.2 = planFreed x ∧ S.piece.1.keys = planKeys S.keys x ∧ S.piece.1.ended = S.ended + (if planOf S.piece.1 = [] then 1 else 0) ∧ (∀ b f, x = some (b, f) → b ∈ S.keys) := by
  have ni : ¬ (S.line = [] ∧ S.unsw = []) := fun z => by rw [G.plan_idle.mpr z] at hp; cases hp
  by_cases hl : S.line = []
  · have hu : S.unsw ≠ [] := fun z => ni ⟨hl, z⟩
    have es : S.step = S.sweepOn := by unfold HS.step; rw [if_pos hl, if_neg hu]
    obtain ⟨b, r', eu⟩ := List.exists_cons_of_ne_nil hu
    have G1 := G.sweepOn hl
    obtain ⟨p1, p2, p3⟩ := ends_plan S.sweepOn.1 G1
    have e1 : S.piece.1 = S.sweepOn.1.ends := by show S.step.1.ends = _; rw [es]
    have e2 : S.piece.2 = S.sweepOn.2 := by show S.step.2 = _; rw [es]
    have hx : planOf S = some (b, decide (b ∉ S.snap)) :: r'.map fun c => some (c, decide (c ∉ S.snap)) := by
      unfold planOf
      rw [G.left_sweep hl, eu]
      rfl
    rw [hx] at hp
    injection hp with hp1 hp2
    subst hp1 hp2
    have hbk := (G.us b (by rw [eu]; exact List.mem_cons_self)).2
    have hms : b ∈ S.marks ↔ b ∈ S.snap := ⟨G.mks b, fun z => G.all hl z⟩
    have hl' : S.sweepOn.1.line = [] := by
      unfold HS.sweepOn
      rw [eu]
      dsimp only
      split <;> exact hl
    have hu' : S.sweepOn.1.unsw = r' := by
      unfold HS.sweepOn
      rw [eu]
      dsimp only
      split <;> rfl
    have hs' : S.sweepOn.1.snap = S.snap := by
      unfold HS.sweepOn
      rw [eu]
      dsimp only
      split <;> rfl
    have ee : S.sweepOn.1.ended = S.ended := by
      unfold HS.sweepOn
      rw [eu]
      dsimp only
      split <;> rfl
    refine ⟨?_, ?_, ?_, ?_, fun c f e => ?_⟩
    · rw [e1, p1]
      unfold planOf
      rw [G1.left_sweep hl', hu', hs']
      rfl
    · rw [e2]
      unfold HS.sweepOn
      rw [eu]
      dsimp only
      by_cases c : b ∈ S.marks
      · have d : decide (b ∉ S.snap) = false := decide_eq_false (fun z => z (hms.mp c))
        rw [if_pos c, d]
        rfl
      · have d : decide (b ∉ S.snap) = true := decide_eq_true (fun z => c (hms.mpr z))
        rw [if_neg c, d]
        rfl
    · rw [e1, p2]
      unfold HS.sweepOn
      rw [eu]
      dsimp only
      by_cases c : b ∈ S.marks
      · have d : decide (b ∉ S.snap) = false := decide_eq_false (fun z => z (hms.mp c))
        rw [if_pos c, d]
        rfl
      · have d : decide (b ∉ S.snap) = true := decide_eq_true (fun z => c (hms.mpr z))
        rw [if_neg c, d]
        rfl
    · rw [e1, p3, ee]
    · cases e; exact hbk
  · have es : S.step = (S.markOn, none) := by unfold HS.step; rw [if_neg hl]
    have G1 := G.markOn hl
    obtain ⟨p1, p2, p3⟩ := ends_plan S.markOn G1
    have e1 : S.piece.1 = S.markOn.ends := by show S.step.1.ends = _; rw [es]
    have e2 : S.piece.2 = none := by show S.step.2 = _; rw [es]
    obtain ⟨b, r', eL⟩ := List.exists_cons_of_ne_nil hl
    have eM : S.markOn = { S with marks := S.marks ++ ext S.old S.marks (S.row b), line := r' ++ ext S.old S.marks (S.row b) } := by
      unfold HS.markOn
      rw [eL]
      show HS.markAll _ _ = _
      rw [markAll_eq]
    have hpos := G.left_mark hl
    have hleft : left S.markOn + 1 = left S := by
      have h1 := G1.marks_le
      rw [eM] at h1 ⊢
      unfold left at hpos ⊢
      rw [eL] at hpos ⊢
      dsimp only at h1 ⊢
      rw [List.length_append] at h1
      rw [List.length_append, List.length_append, List.length_cons]
      omega
    have hx : planOf S = none :: planOf S.markOn := by
      unfold planOf
      rw [← hleft, List.replicate_succ]
      rw [eM]
      rfl
    rw [hx] at hp
    injection hp with hp1 hp2
    subst hp1 hp2
    refine ⟨by rw [e1, p1], e2, ?_, ?_, fun c f e => nomatch e⟩
    · rw [e1, p2, eM]
      rfl
    · rw [e1, p3, eM]
/-! ### the work -/
theorem step_keys (S : HS) : ∀ k ∈ S.piece.1.keys, k ∈ S.keys := fun k hk => by
  have hk : k ∈ S.step.1.ends.keys := hk
  have : S.step.1.ends.keys = S.step.1.keys := by unfold HS.ends; split <;> rfl
  rw [this] at hk
  unfold HS.step at hk
  split at hk
  · split at hk
    · rw [began_eq] at hk; exact hk
    · unfold HS.sweepOn at hk
      split at hk
      · exact hk
      · split at hk
        · exact hk
        · exact (List.mem_filter.mp hk).1
  · unfold HS.markOn at hk
    split at hk
    · exact hk
    · rw [markAll_eq] at hk; exact hk
theorem piece_gone (S : HS) : ∀ b, S.piece.2 = some b → b ∉ S.piece.1.keys := fun b hb hk => by
  have hb : S.step.2 = some b := hb
  have hk : b ∈ S.step.1.ends.keys := hk
  have : S.step.1.ends.keys = S.step.1.keys := by unfold HS.ends; split <;> rfl
  rw [this] at hk
  unfold HS.step at hk hb
  split at hb
  · rename_i h1
    rw [if_pos h1] at hk
    split at hb
    · cases hb
    · rename_i h2
      rw [if_neg h2] at hk
      unfold HS.sweepOn at hk hb
      split at hb
      · cases hb
      · rename_i c r e
        split at hb
        · cases hb
        · rename_i h3
          cases hb
          rw [e] at hk
          dsimp only at hk
          rw [if_neg h3] at hk
          have := (List.mem_filter.mp hk).2
          simp at this
  · cases hb
theorem work_gone (S : HS) : ∀ n, (∀ k ∈ (HS.work n S).1.keys, k ∈ S.keys) ∧ ∀ b ∈ (HS.work n S).2, b ∉ (HS.work n S).1.keys
  | 0 => ⟨fun k hk => hk, fun b hb => absurd hb (show b ∉ ([] : List Nat) by simp)⟩
  | n + 1 => by
    obtain ⟨h1, h2⟩ := work_gone S n
    refine ⟨fun k hk => h1 k (step_keys _ k hk), fun b hb hk => ?_⟩
    rcases List.mem_append.mp (show b ∈ (HS.work n S).2 ++ (HS.work n S).1.piece.2.toList from hb) with hb | hb
    · exact h2 b hb (step_keys _ b hk)
    · rw [Option.mem_toList] at hb
      exact piece_gone _ b hb hk
/-! ### deeds leave the round -/
theorem mark_left (S : HS) (k : Nat) : left (S.mark k) = left S := by
  unfold HS.mark
  split
  · unfold left
    dsimp only
    rw [List.length_append, List.length_append]
    simp
    omega
  · rfl
theorem markO_left (S : HS) (o : Option Nat) : left (S.markO o) = left S := by
  cases o with
  | none => rfl
  | some k => exact mark_left S k
theorem put_plan (S : HS) (b s o : Nat) : planOf (S.put b s o) = planOf S := by
  unfold HS.put
  split
  · rfl
  · have e : left ((S.markO (S.slot b s)).write b s (S.hand o)) = left S := markO_left S _
    unfold planOf
    rw [e]
    obtain ⟨m1, m2, m3, m4, m5, m6, m7, m8⟩ := markO_fields S (S.slot b s)
    show _ ++ (S.markO (S.slot b s)).unsw.map (fun c => some (c, decide (c ∉ (S.markO (S.slot b s)).snap))) = _
    rw [m5, m6]
end MM

set_option Elab.async false
set_option linter.all false
set_option maxRecDepth 100000
set_option maxHeartbeats 4000000
/-! A law's plan of a round, and its lists of numbers. -/
namespace MP
open PySem PySem.Spec PyProof.Rows L2 MM KG
/-! ### in, not in, remove over numbers -/
theorem inV_nats (b : Nat) : ∀ l : List Nat, inV (nV b) (l.map nV) = decide (b ∈ l)
  | [] => by simp [inV]
  | a :: l => by
    have ih := inV_nats b l
    unfold inV at ih ⊢
    rw [List.map_cons, List.any_cons, ih]
    show (((a : Int) == (b : Int)) || decide (b ∈ l)) = decide (b ∈ a :: l)
    by_cases h : b = a
    · subst h; simp
    · have : ((a : Int) == (b : Int)) = false := by simp; omega
      rw [this]
      simp [h]
theorem flat_nats (l : List Nat) : (l.map nV).all flatV = true := by
  rw [List.all_eq_true]
  intro x hx
  obtain ⟨k, _, rfl⟩ := List.mem_map.mp hx
  rfl
theorem erase_filter : ∀ (l : List Nat) (j b : Nat), l.Nodup → l[j]? = some b → l.eraseIdx j = l.filter fun k => decide (k ≠ b)
  | [], j, b, _, h => by simp at h
  | a :: l, 0, b, nd, h => by
    cases h
    obtain ⟨n1, n2⟩ := List.nodup_cons.mp nd
    rw [List.eraseIdx_zero, List.tail_cons, List.filter_cons, if_neg (by simp)]
    symm
    rw [List.filter_eq_self]
    intro k hk
    simp
    exact fun e => n1 (e ▸ hk)
  | a :: l, j + 1, b, nd, h => by
    obtain ⟨n1, n2⟩ := List.nodup_cons.mp nd
    have hb : b ∈ l := List.mem_of_getElem? h
    have : a ≠ b := fun e => n1 (e ▸ hb)
    rw [List.eraseIdx_cons_succ, List.filter_cons, if_pos (by simpa using this), erase_filter l j b n2 h]
theorem rem_data {ks : List Nat} {b : Nat} (nd : ks.Nodup) (hb : b ∈ ks) : ∃ (ns : List Int) (j : Nat), ks.map nV = ns.map V.int ∧ ns[j]? = some (b : Int) ∧ (∀ m : Nat, m < j → ns[m]? ≠ some (b : Int)) ∧ (ns.eraseIdx j).map V.int = (ks.filter fun k => decide (k ≠ b)).map nV := by
  obtain ⟨j, hj⟩ := List.getElem?_of_mem hb
  refine ⟨ks.map Int.ofNat, j, by rw [List.map_map]; rfl, by rw [List.getElem?_map, hj]; rfl, fun m hm z => ?_, ?_⟩
  · rw [List.getElem?_map] at z
    cases em : ks[m]? with
    | none => rw [em] at z; cases z
    | some c =>
      rw [em] at z
      have : c = b := by have := Option.some.inj z; exact Int.ofNat.inj this
      subst this
      have := nd_ix nd em hj
      omega
  · rw [← erase_filter ks j b nd hj, ← erase_mapI]
    have : ∀ (l : List Nat) (j : Nat), ((l.map Int.ofNat).map V.int).eraseIdx j = (l.eraseIdx j).map nV := fun l => by
      induction l with
      | nil => intro j; simp
      | cons a r ih =>
        intro j
        cases j with
        | zero => simp; exact fun _ _ => rfl
        | succ j =>
          have := ih j
          simp at this ⊢
          exact ⟨rfl, this⟩
    exact this ks j
/-! ### the plan's items -/
inductive ItemsAt (H : Hp) (N : Addr → Prop) : List V → List (Option (Nat × Bool)) → Prop
  | nil : ItemsAt H N [] []
  | non {vs : List V} {xs : List (Option (Nat × Bool))} (r : ItemsAt H N vs xs) : ItemsAt H N (.non :: vs) (none :: xs)
  | one {q : Addr} {k : Nat} {f : Bool} {vs : List V} {xs : List (Option (Nat × Bool))} (h : H q = some (.lst [.int (k : Int), .bl f])) (n : N q) (r : ItemsAt H N vs xs) : ItemsAt H N (.ref q :: vs) (some (k, f) :: xs)
theorem ItemsAt.keep {H H' : Hp} {N N' : Addr → Prop} {vs : List V} {xs : List (Option (Nat × Bool))} (h : ItemsAt H N vs xs) (k : ∀ q o, H q = some o → N q → H' q = some o ∧ N' q) : ItemsAt H' N' vs xs := by
  induction h with
  | nil => exact .nil
  | non r ih => exact .non ih
  | one h n r ih =>
    obtain ⟨a, b⟩ := k _ _ h n
    exact .one a b ih
theorem ItemsAt.app {H : Hp} {N : Addr → Prop} {vs ws : List V} {xs ys : List (Option (Nat × Bool))} (h : ItemsAt H N vs xs) (g : ItemsAt H N ws ys) : ItemsAt H N (vs ++ ws) (xs ++ ys) := by
  induction h with
  | nil => exact g
  | non r ih => exact .non ih
  | one h n r ih => exact .one h n ih
theorem ItemsAt.nones {H : Hp} {N : Addr → Prop} : ∀ n, ItemsAt H N (List.replicate n .non) (List.replicate n none)
  | 0 => .nil
  | n + 1 => .non (ItemsAt.nones n)
theorem ItemsAt.len {H : Hp} {N : Addr → Prop} {vs : List V} {xs : List (Option (Nat × Bool))} (h : ItemsAt H N vs xs) : vs.length = xs.length := by
  induction h with
  | nil => rfl
  | non r ih => rw [List.length_cons, List.length_cons, ih]
  | one h n r ih => rw [List.length_cons, List.length_cons, ih]
def dItem : Option (Nat × Bool) → PyData
  | none => .none
  | some (k, f) => .list [.int (k : Int), .bool f]
theorem ItemsAt.dp {K : PySem.W.Frag} {H : Hp} {N : Addr → Prop} {vs : List V} {xs : List (Option (Nat × Bool))} (h : ItemsAt H N vs xs) : DpAll K H vs (xs.map dItem) := by
  induction h with
  | nil => exact .nil
  | non r ih => exact .cons .non ih
  | one h n r ih => exact .cons (.lst (SqL.of h) (.cons (.int _) (.cons (.bl _) .nil))) ih
theorem lay_items : ∀ xs : List (Option (Nat × Bool)), PyData.canLayAll0 (xs.map dItem) = true
  | [] => by simp [PyData.canLayAll0]
  | none :: xs => by
    rw [List.map_cons, PyData.canLayAll0, lay_items xs]
    simp [PyData.canLay0, dItem]
  | some (k, f) :: xs => by
    rw [List.map_cons, PyData.canLayAll0, lay_items xs]
    simp [PyData.canLay0, dItem, PyData.canLayAll0]
theorem depth_items : ∀ xs : List (Option (Nat × Bool)), PyData.depthAll (xs.map dItem) ≤ 1
  | [] => by simp [PyData.depthAll]
  | none :: xs => by
    have ih := depth_items xs
    rw [List.map_cons, PyData.depthAll]
    simp [PyData.depth, dItem]
    exact ih
  | some (k, f) :: xs => by
    have ih := depth_items xs
    rw [List.map_cons, PyData.depthAll]
    simp [PyData.depth, dItem, PyData.depthAll]
    omega
theorem shaped_items (xs : List (Option (Nat × Bool))) : SeqAt.shaped (.list (xs.map dItem)) = true := by
  unfold SeqAt.shaped
  rw [PyData.canLay0, PyData.depth, lay_items]
  have := depth_items xs
  simp
  omega
theorem eqv_items (xs : List (Option (Nat × Bool))) : PyData.eqv (.list (xs.map dItem)) (dI []) = decide (xs = []) := by
  unfold dI
  rw [PyData.eqv]
  cases xs with
  | nil => simp [PyData.eqvAll]
  | cons x xs => simp [PyData.eqvAll]
/-! ### the law's round -/
def footZ (Pl pq T : Addr) (b : Addr) : Prop := b = Pl ∨ b = pq ∨ b = T
structure RoundAt (H : Hp) (X : Addr → Prop) (Pl pq T : Addr) (items : List (Option (Nat × Bool))) (ended : Nat) (keys : List Nat) : Prop where
  pl : H Pl = some (.lst [.ref pq, .int (ended : Int)])
  its : ∃ vs, H pq = some (.lst vs) ∧ ItemsAt H (fun q => ¬ X q ∧ ¬ footZ Pl pq T q) vs items
  th : H T = some (.lst (keys.map nV))
  nx : ∀ b, footZ Pl pq T b → ¬ X b
  n1 : Pl ≠ pq
  n2 : Pl ≠ T
  n3 : pq ≠ T
section
variable {H H' : Hp} {X X' : Addr → Prop} {Pl pq T : Addr} {items : List (Option (Nat × Bool))} {ended : Nat} {keys : List Nat}
theorem RoundAt.frm (h : RoundAt H X Pl pq T items ended keys) (f : Frm H X H' X') : RoundAt H' X' Pl pq T items ended keys := by
  obtain ⟨vs, hv, hi⟩ := h.its
  have g1 := f _ _ h.pl (h.nx _ (.inl rfl))
  have g2 := f _ _ hv (h.nx _ (.inr (.inl rfl)))
  have g3 := f _ _ h.th (h.nx _ (.inr (.inr rfl)))
  exact ⟨g1.1, ⟨vs, g2.1, hi.keep fun q o e n => let ⟨a, b⟩ := f q o e n.1; ⟨a, b, n.2⟩⟩, g3.1, fun b z => by
    rcases z with rfl | rfl | rfl
    · exact g1.2
    · exact g2.2
    · exact g3.2, h.n1, h.n2, h.n3⟩
theorem RoundAt.same (h : RoundAt H X Pl pq T items ended keys) (s : Same H H') : RoundAt H' X Pl pq T items ended keys := h.frm fun b o e n => ⟨s b o e, n⟩
theorem RoundAt.tracked (h : RoundAt H X Pl pq T items ended keys) {b : Addr} (z : footZ Pl pq T b) : ∃ o, H b = some o := by
  obtain ⟨vs, hv, hi⟩ := h.its
  rcases z with rfl | rfl | rfl
  · exact ⟨_, h.pl⟩
  · exact ⟨_, hv⟩
  · exact ⟨_, h.th⟩
/-- what is X's own is stored -/
theorem RoundAt.inX (h : RoundAt H X Pl pq T items ended keys) {q : Addr} {o : HO} (n : X q) : RoundAt (upd H q o) X Pl pq T items ended keys := by
  obtain ⟨vs, hv, hi⟩ := h.its
  have ne : ∀ b, footZ Pl pq T b → b ≠ q := fun b z e => h.nx b z (e ▸ n)
  exact ⟨by rw [upd_ne (ne _ (.inl rfl))]; exact h.pl, ⟨vs, by rw [upd_ne (ne _ (.inr (.inl rfl)))]; exact hv, hi.keep fun q' o' e m => ⟨by rw [upd_ne fun (z : q' = q) => m.1 (z ▸ n)]; exact e, m⟩⟩, by rw [upd_ne (ne _ (.inr (.inr rfl)))]; exact h.th, h.nx, h.n1, h.n2, h.n3⟩
theorem RoundAt.mono (h : RoundAt H X Pl pq T items ended keys) (m : ∀ b, X' b → X b) : RoundAt H X' Pl pq T items ended keys := by
  obtain ⟨vs, hv, hi⟩ := h.its
  exact ⟨h.pl, ⟨vs, hv, hi.keep fun q o e n => ⟨e, fun z => n.1 (m _ z), n.2⟩⟩, h.th, fun b z y => h.nx b z (m _ y), h.n1, h.n2, h.n3⟩
/-- a new address joins X -/
theorem RoundAt.more (h : RoundAt H X Pl pq T items ended keys) {q : Addr} {o : HO} (n : H q = none) : RoundAt (upd H q o) (fun b => X b ∨ b = q) Pl pq T items ended keys := by
  obtain ⟨vs, hv, hi⟩ := h.its
  have ne : ∀ b, footZ Pl pq T b → b ≠ q := fun b z e => by
    obtain ⟨o, e'⟩ := h.tracked z
    rw [e, n] at e'; cases e'
  refine ⟨by rw [upd_ne (ne _ (.inl rfl))]; exact h.pl, ⟨vs, by rw [upd_ne (ne _ (.inr (.inl rfl)))]; exact hv, hi.keep fun q' o' e m => ?_⟩, by rw [upd_ne (ne _ (.inr (.inr rfl)))]; exact h.th, fun b z y => y.elim (h.nx b z) (ne b z), h.n1, h.n2, h.n3⟩
  have nq : q' ≠ q := fun z => by rw [z, n] at e; cases e
  exact ⟨by rw [upd_ne nq]; exact e, fun y => y.elim m.1 nq, m.2⟩
/-- what is there is stored anew -/
theorem RoundAt.setT (h : RoundAt H X Pl pq T items ended keys) (keys' : List Nat) : RoundAt (upd H T (.lst (keys'.map nV))) X Pl pq T items ended keys' := by
  obtain ⟨vs, hv, hi⟩ := h.its
  exact ⟨by rw [upd_ne h.n2]; exact h.pl, ⟨vs, by rw [upd_ne h.n3]; exact hv, hi.keep fun q o e n => ⟨by rw [upd_ne fun (z : q = T) => n.2 (.inr (.inr z))]; exact e, n⟩⟩, upd_same, h.nx, h.n1, h.n2, h.n3⟩
/-- a round more has ended -/
theorem RoundAt.setE (h : RoundAt H X Pl pq T items ended keys) (e' : Nat) : RoundAt (upd H Pl (.lst [.ref pq, .int (e' : Int)])) X Pl pq T items e' keys := by
  obtain ⟨vs, hv, hi⟩ := h.its
  exact ⟨upd_same, ⟨vs, by rw [upd_ne h.n1.symm]; exact hv, hi.keep fun q o e n => ⟨by rw [upd_ne fun (z : q = Pl) => n.2 (.inl z)]; exact e, n⟩⟩, by rw [upd_ne h.n2.symm]; exact h.th, h.nx, h.n1, h.n2, h.n3⟩
/-- a step is taken -/
theorem RoundAt.pop {x : Option (Nat × Bool)} {v : V} {vs : List V} (h : RoundAt H X Pl pq T (x :: items) ended keys) (hv : H pq = some (.lst (v :: vs))) : RoundAt (upd H pq (.lst vs)) X Pl pq T items ended keys := by
  obtain ⟨vs', hv', hi⟩ := h.its
  rw [hv] at hv'
  cases hv'
  have hi' : ItemsAt H (fun q => ¬ X q ∧ ¬ footZ Pl pq T q) vs items := by
    cases hi with
    | non r => exact r
    | one h n r => exact r
  exact ⟨by rw [upd_ne h.n1]; exact h.pl, ⟨vs, upd_same, hi'.keep fun q o e n => ⟨by rw [upd_ne fun (z : q = pq) => n.2 (.inr (.inl z))]; exact e, n⟩⟩, by rw [upd_ne h.n3.symm]; exact h.th, h.nx, h.n1, h.n2, h.n3⟩
end
open Classical in
theorem plan_doS (S : HS) (d : Deed) : planOf (doS S d) = planOf S := by
  cases d with
  | put h s o => exact put_plan S _ s o
  | _ => rfl
theorem keys_doS (S : HS) (d : Deed) (h : ∀ h n, d ≠ .make h n) : (doS S d).keys = S.keys := by
  cases d with
  | make h' n => exact absurd rfl (h h' n)
  | put h s o => exact (put_fields S _ s o).1
  | _ => rfl
open Classical in
theorem phase_plan {S : HS} (G : Good S) : decide (V.str (Str.ofString (if (raw S).line = [] then (if (raw S).unsw = [] then "idle" else "sweeping") else "marking")) = V.str "idle") = decide (planOf S = []) := by
  have e := G.plan_idle
  by_cases h1 : S.line = []
  · by_cases h2 : S.unsw = []
    · rw [show (if (raw S).line = [] then (if (raw S).unsw = [] then "idle" else "sweeping") else "marking") = "idle" from (if_pos h1).trans (if_pos h2), decide_eq_true rfl, decide_eq_true (e.mpr ⟨h1, h2⟩)]
    · rw [show (if (raw S).line = [] then (if (raw S).unsw = [] then "idle" else "sweeping") else "marking") = "sweeping" from (if_pos h1).trans (if_neg h2), decide_eq_false (by decide), decide_eq_false fun z => h2 (e.mp z).2]
  · rw [show (if (raw S).line = [] then (if (raw S).unsw = [] then "idle" else "sweeping") else "marking") = "marking" from if_neg h1, decide_eq_false (by decide), decide_eq_false fun z => h1 (e.mp z).1]
theorem work_len (S : HS) : ∀ n, (HS.work n S).2.length ≤ n
  | 0 => Nat.le_refl _
  | n + 1 => by
    show ((HS.work n S).2 ++ (HS.work n S).1.piece.2.toList).length ≤ n + 1
    rw [List.length_append]
    have := work_len S n
    have : (HS.work n S).1.piece.2.toList.length ≤ 1 := by cases (HS.work n S).1.piece.2 <;> simp
    omega
end MP

set_option Elab.async false
set_option linter.all false
set_option maxRecDepth 100000
set_option maxHeartbeats 4000000
/-! A round alone: no deed between its pieces. -/
namespace MP
open PySem PySem.Spec PyProof.Rows L2 MM KG
/-- while it marks: behind j pieces more -/
noncomputable def stM (S : HS) (j : Nat) : HS := { S with unsw := S.keys, old := S.keys, marks := bfs S.keys S.hands S.rows j, line := (bfs S.keys S.hands S.rows j).drop j, snap := reached S.hands S.rows }
section
variable {S : HS}
theorem stM_begin (h1 : S.line = []) (h2 : S.unsw = []) (hk : S.keys ≠ []) : S.piece = (stM S 0, none) := by
  unfold HS.piece HS.step
  rw [if_pos h1, if_pos h2]
  show (S.began.ends, none) = _
  rw [began_eq]
  unfold HS.ends
  rw [if_neg hk]
  rfl
theorem stM_on {j : Nat} (hk : S.keys ≠ []) (hj : j < (came S.keys S.hands S.rows).length) : (stM S j).piece = (stM S (j + 1), none) := by
  have h1 := bfs_on hj
  have el : (stM S j).line = (bfs S.keys S.hands S.rows j)[j] :: (bfs S.keys S.hands S.rows j).drop (j + 1) := List.drop_eq_getElem_cons h1
  have ne : (stM S j).line ≠ [] := by rw [el]; exact List.cons_ne_nil _ _
  unfold HS.piece HS.step
  rw [if_neg ne]
  show ((stM S j).markOn.ends, none) = _
  unfold HS.markOn
  rw [el]
  show (HS.ends (HS.markAll { stM S j with line := (bfs S.keys S.hands S.rows j).drop (j + 1) } ((stM S j).row (bfs S.keys S.hands S.rows j)[j])), none) = _
  rw [markAll_eq]
  unfold HS.ends
  rw [if_neg (show ¬ ((stM S j).unsw = []) from hk)]
  have eb := bfs_some (old := S.keys) (hands := S.hands) (rows := S.rows) (List.getElem?_eq_getElem h1)
  have e1 : (bfs S.keys S.hands S.rows (j + 1)).drop (j + 1) = (bfs S.keys S.hands S.rows j).drop (j + 1) ++ ext S.keys (bfs S.keys S.hands S.rows j) (rowOf S.rows (bfs S.keys S.hands S.rows j)[j]) := by
    rw [eb, List.drop_append_of_le_length h1]
  unfold stM
  rw [e1, eb]
theorem stM_head {j b : Nat} (hb : (came S.keys S.hands S.rows)[j]? = some b) : (stM S j).line = b :: (bfs S.keys S.hands S.rows j).drop (j + 1) ∧ bfs S.keys S.hands S.rows (j + 1) = bfs S.keys S.hands S.rows j ++ ext S.keys (bfs S.keys S.hands S.rows j) (rowOf S.rows b) ∧ (stM S (j + 1)).line = (bfs S.keys S.hands S.rows j).drop (j + 1) ++ ext S.keys (bfs S.keys S.hands S.rows j) (rowOf S.rows b) := by
  have h0 := bfs_at hb
  obtain ⟨h1, h2⟩ := List.getElem?_eq_some_iff.mp h0
  have eb := bfs_some (old := S.keys) (hands := S.hands) (rows := S.rows) h0
  refine ⟨?_, eb, ?_⟩
  · show (bfs S.keys S.hands S.rows j).drop j = _
    rw [List.drop_eq_getElem_cons h1, h2]
  · show (bfs S.keys S.hands S.rows (j + 1)).drop (j + 1) = _
    rw [eb, List.drop_append_of_le_length h1]
theorem stM_end : (stM S (came S.keys S.hands S.rows).length).marks = came S.keys S.hands S.rows ∧ (stM S (came S.keys S.hands S.rows).length).line = [] := by
  refine ⟨came_end, ?_⟩
  show (bfs S.keys S.hands S.rows _).drop _ = []
  rw [came_end]
  exact List.drop_length
theorem sweep_piece {b : Nat} {r : List Nat} (h1 : S.line = []) (hu : S.unsw = b :: r) : S.piece = ((({ S with unsw := r, keys := if b ∈ S.marks then S.keys else S.keys.filter fun k => decide (k ≠ b) } : HS).ends), if b ∈ S.marks then none else some b) := by
  unfold HS.piece HS.step
  rw [if_pos h1, if_neg (by rw [hu]; exact List.cons_ne_nil _ _)]
  unfold HS.sweepOn
  rw [hu]
  by_cases c : b ∈ S.marks
  · simp [c]
  · simp [c]
theorem work_one : HS.work 1 S = (S.piece.1, S.piece.2.toList) := by
  show (S.piece.1, [] ++ S.piece.2.toList) = _
  rw [List.nil_append]
end
theorem ne_items (l m : List Nat) : PyData.eqv (dI l) (dI m) = decide (l = m) := eqv_dI l m
end MP

set_option Elab.async false
set_option linter.all false
set_option maxRecDepth 100000
set_option maxHeartbeats 4000000
/-! A chain of boxes with one slot each, held by two hands; and whole rounds. -/
namespace MP
open PySem PySem.Spec PyProof.Rows L2 MM KG
theorem work_cons (S : HS) : ∀ n, HS.work (n + 1) S = ((HS.work n S.piece.1).1, S.piece.2.toList ++ (HS.work n S.piece.1).2)
  | 0 => by
    show (S.piece.1, [] ++ S.piece.2.toList) = (S.piece.1, S.piece.2.toList ++ [])
    rw [List.append_nil, List.nil_append]
  | n + 1 => by
    show ((HS.work (n + 1) S).1.piece.1, (HS.work (n + 1) S).2 ++ (HS.work (n + 1) S).1.piece.2.toList) = _
    rw [work_cons S n]
    show _ = ((HS.work n S.piece.1).1.piece.1, S.piece.2.toList ++ ((HS.work n S.piece.1).2 ++ (HS.work n S.piece.1).1.piece.2.toList))
    rw [List.append_assoc]
theorem work_plan : ∀ (r : List (Option (Nat × Bool))) (S : HS), Good S → planOf S = r → r ≠ [] → planOf (HS.work r.length S).1 = [] ∧ (HS.work r.length S).2 = r.filterMap planFreed ∧ (HS.work r.length S).1.keys = r.foldl planKeys S.keys ∧ (HS.work r.length S).1.ended = S.ended + 1
  | [], _, _, _, n => absurd rfl n
  | x :: r, S, G, hp, _ => by
    obtain ⟨p1, p2, p3, p4, _⟩ := G.piece_old hp
    rw [List.length_cons, work_cons, List.foldl_cons, ← p3]
    have ef : (x :: r).filterMap planFreed = S.piece.2.toList ++ r.filterMap planFreed := by
      rw [List.filterMap_cons, p2]
      cases planFreed x <;> rfl
    rw [ef]
    by_cases hr : r = []
    · subst hr
      rw [p1, if_pos rfl] at p4
      refine ⟨p1, rfl, rfl, p4⟩
    · obtain ⟨q1, q2, q3, q4⟩ := work_plan r S.piece.1 G.piece p1 hr
      rw [p1, if_neg hr] at p4
      exact ⟨q1, by rw [q2], q3, by rw [q4, p4]⟩
/-- a whole round -/
theorem work_round {S : HS} (G : Good S) {cs : List Nat} (hcs : cs.Nodup) (hm : ∀ k, k ∈ cs ↔ Rc S.hands S.rows k) (hp : planOf S = []) :
    planOf (HS.work ((planNew cs S.keys).length + 1) S).1 = [] ∧ (HS.work ((planNew cs S.keys).length + 1) S).2 = (planNew cs S.keys).filterMap planFreed ∧ (HS.work ((planNew cs S.keys).length + 1) S).1.keys = (planNew cs S.keys).foldl planKeys S.keys ∧ (HS.work ((planNew cs S.keys).length + 1) S).1.ended = S.ended + 1 := by
  obtain ⟨p1, p2, p3, p4⟩ := G.piece_new hcs hm hp
  rw [work_cons, p2]
  by_cases hr : planNew cs S.keys = []
  · rw [p1, hr, if_pos rfl] at p4
    rw [hr]
    rw [hr] at p1
    exact ⟨p1, rfl, p3, p4⟩
  · obtain ⟨q1, q2, q3, q4⟩ := work_plan _ S.piece.1 G.piece p1 hr
    rw [p1, if_neg hr] at p4
    exact ⟨q1, by rw [q2]; rfl, by rw [q3, p3], by rw [q4, p4]⟩
theorem plan_stay (cs keys : List Nat) (h : ∀ k ∈ keys, k ∈ cs) : (planNew cs keys).length = cs.length + keys.length ∧ (planNew cs keys).filterMap planFreed = [] ∧ ∀ ks, (planNew cs keys).foldl planKeys ks = ks := by
  unfold planNew
  refine ⟨by rw [List.length_append, List.length_replicate, List.length_map], ?_, fun ks => ?_⟩
  · rw [List.filterMap_eq_nil_iff]
    intro x hx
    rcases List.mem_append.mp hx with z | z
    · rw [List.eq_of_mem_replicate z]; rfl
    · obtain ⟨b, hb, rfl⟩ := List.mem_map.mp z
      rw [decide_eq_false fun n => n (h b hb)]; rfl
  · have : ∀ (l : List (Option (Nat × Bool))), (∀ x ∈ l, x = none ∨ ∃ b, x = some (b, false)) → l.foldl planKeys ks = ks := by
      intro l
      induction l with
      | nil => intro _; rfl
      | cons x l ih =>
        intro hx
        rw [List.foldl_cons]
        have e : planKeys ks x = ks := by
          rcases hx x List.mem_cons_self with rfl | ⟨b, rfl⟩ <;> rfl
        rw [e]
        exact ih fun y hy => hx y (List.mem_cons_of_mem _ hy)
    refine this _ fun x hx => ?_
    rcases List.mem_append.mp hx with z | z
    · exact .inl (List.eq_of_mem_replicate z)
    · obtain ⟨b, hb, rfl⟩ := List.mem_map.mp z
      rw [decide_eq_false fun n => n (h b hb)]
      exact .inr ⟨b, rfl⟩
theorem plan_all (keys : List Nat) : (planNew [] keys).length = keys.length ∧ (planNew [] keys).filterMap planFreed = keys ∧ (planNew [] keys).foldl planKeys keys = [] := by
  have e : planNew [] keys = keys.map fun b => some (b, true) := by
    unfold planNew
    simp
  rw [e]
  refine ⟨List.length_map _, ?_, ?_⟩
  · rw [List.filterMap_map]
    exact (congrArg (fun f => List.filterMap f keys) (funext fun b => rfl : (planFreed ∘ fun b => some (b, true)) = some)).trans List.filterMap_some
  · have : ∀ (l ks : List Nat), (∀ k ∈ ks, k ∈ l) → (l.map fun b => some (b, true)).foldl planKeys ks = [] := by
      intro l
      induction l with
      | nil =>
        intro ks h
        exact List.eq_nil_iff_forall_not_mem.mpr fun k hk => nomatch h k hk
      | cons b l ih =>
        intro ks h
        rw [List.map_cons, List.foldl_cons]
        refine ih _ fun k hk => ?_
        have hk2 := List.mem_filter.mp hk
        rcases List.mem_cons.mp (h k hk2.1) with z | z
        · exact absurd z (of_decide_eq_true hk2.2)
        · exact z
    exact this keys keys fun k hk => hk
/-! ### the chain -/
def ch : Nat → List (Option Nat)
  | 0 => [none, none]
  | k + 1 => (ch k).set (k % 2) (some k)
def chRow (j : Nat) : MM.Row := [if j = 0 then none else some (j - 1)]
structure Ch (k room : Nat) (S : HS) : Prop where
  hands : S.hands = ch k
  rows : S.rows = (List.range k).map chRow
  keys : S.keys = List.range k
  line : S.line = []
  unsw : S.unsw = []
  ended : S.ended = 0
  rm : S.room = room
theorem ch_len : ∀ k, (ch k).length = 2
  | 0 => rfl
  | k + 1 => by rw [ch, List.length_set, ch_len k]
theorem ch_last : ∀ k, (ch k).getD ((k + 1) % 2) none = if k = 0 then none else some (k - 1)
  | 0 => rfl
  | k + 1 => by
    rw [ch, List.getD_eq_getElem?_getD, show (k + 1 + 1) % 2 = k % 2 by omega, List.getElem?_set_self (by rw [ch_len]; omega)]
    rfl
theorem Ch.rlen {k room : Nat} {S : HS} (c : Ch k room S) : S.rows.length = k := by rw [c.rows, List.length_map, List.length_range]
theorem Ch.row {k room j : Nat} {S : HS} (c : Ch k room S) (h : j < k) : S.row j = chRow j := by
  refine rowOf_at ?_
  rw [c.rows, List.getElem?_map, List.getElem?_range h]
  rfl
theorem Ch.start (room : Nat) : Ch 0 room (HS.new 2 room) := ⟨rfl, rfl, rfl, rfl, rfl, rfl, rfl⟩
theorem Ch.next {k room : Nat} {S : HS} (c : Ch k room S) : Ch (k + 1) room ((S.make (k % 2) 1).put k 0 (1 - k % 2)) := by
  have hl : (S.make (k % 2) 1).line = [] := c.line
  have e : (S.make (k % 2) 1).put k 0 (1 - k % 2) = (S.make (k % 2) 1).write k 0 ((S.make (k % 2) 1).hand (1 - k % 2)) := by
    unfold HS.put
    rw [if_pos hl]
  have eh : (S.make (k % 2) 1).hands = ch (k + 1) := by
    show S.hands.set (k % 2) (some S.rows.length) = _
    rw [c.rlen, c.hands]
    rfl
  have eo : (S.make (k % 2) 1).hand (1 - k % 2) = if k = 0 then none else some (k - 1) := by
    unfold HS.hand
    rw [eh, ch, List.getD_eq_getElem?_getD, List.getElem?_set_ne (by omega), ← List.getD_eq_getElem?_getD, ← ch_last k, show (k + 1) % 2 = 1 - k % 2 by omega]
  rw [e, eo]
  refine ⟨eh, ?_, ?_, c.line, c.unsw, c.ended, c.rm⟩
  · show (S.rows ++ [List.replicate 1 none]).set k (((S.make (k % 2) 1).row k).set 0 _) = _
    have er : (S.make (k % 2) 1).row k = [none] := by
      show rowOf (S.rows ++ [[none]]) k = [none]
      rw [rowOf_push, if_pos c.rlen.symm]
    rw [er, List.range_succ, List.map_append, ← c.rows]
    rw [List.set_append_right _ _ (Nat.le_of_eq c.rlen), c.rlen, Nat.sub_self]
    rfl
  · show S.keys ++ [S.rows.length] = _
    rw [c.keys, c.rlen, List.range_succ]
/-- all are come to while the last is held -/
theorem ch_reach {hands : List (Option Nat)} {n : Nat} (h : some n ∈ hands) : ∀ d, d ≤ n → Rc hands ((List.range (n + 1)).map chRow) (n - d)
  | 0, _ => .hand h
  | d + 1, hd => by
    have ih := ch_reach h d (by omega)
    refine .slot ih ?_
    have : rowOf ((List.range (n + 1)).map chRow) (n - d) = chRow (n - d) := by
      refine rowOf_at ?_
      rw [List.getElem?_map, List.getElem?_range (by omega)]
      rfl
    rw [this]
    unfold chRow
    rw [if_neg (by omega), show n - d - 1 = n - (d + 1) by omega]
    exact List.mem_cons_self
theorem no_reach {hands : List (Option Nat)} {rows : List MM.Row} (h : ∀ k, some k ∉ hands) {k : Nat} (r : Rc hands rows k) : False := by
  induction r with
  | hand e => exact h _ e
  | slot _ _ ih => exact ih
structure Idle (n room e : Nat) (keys : List Nat) (S : HS) : Prop where
  hl : S.hands.length = 2
  rlen : S.rows.length = n
  keys : S.keys = keys
  line : S.line = []
  unsw : S.unsw = []
  ended : S.ended = e
  rm : S.room = room
theorem Ch.idle {n room : Nat} {S : HS} (c : Ch n room S) : Idle n room 0 (List.range n) S := ⟨by rw [c.hands, ch_len], c.rlen, c.keys, c.line, c.unsw, c.ended, c.rm⟩
theorem Idle.drop {n room e h : Nat} {ks : List Nat} {S : HS} (c : Idle n room e ks S) : Idle n room e ks (S.drop h) := ⟨by show (S.hands.set h none).length = 2; rw [List.length_set, c.hl], c.rlen, c.keys, c.line, c.unsw, c.ended, c.rm⟩
theorem Ch.held {n room : Nat} {S : HS} (c : Ch n room S) (hn : 0 < n) : ∀ k ∈ List.range n, Rc (S.drop (n % 2)).hands (S.drop (n % 2)).rows k := by
  intro k hk
  have hk := List.mem_range.mp hk
  have hm : some (n - 1) ∈ (S.drop (n % 2)).hands := by
    show some (n - 1) ∈ S.hands.set (n % 2) none
    have h1 := ch_last n
    rw [if_neg (by omega), List.getD_eq_getElem?_getD] at h1
    refine List.mem_of_getElem? (i := (n + 1) % 2) ?_
    rw [List.getElem?_set_ne (by omega), c.hands]
    cases e : (ch n)[(n + 1) % 2]? with
    | none => rw [e] at h1; cases h1
    | some o => rw [e] at h1; exact congrArg some h1
  have := ch_reach hm (n - 1 - k) (by omega)
  rw [show n - 1 + 1 = n by omega, show n - 1 - (n - 1 - k) = k by omega, ← c.rows] at this
  exact this
theorem Idle.round {n room e N : Nat} {ks cs : List Nat} {S : HS} (c : Idle n room e ks S) (G : Good S) (hcs : cs.Nodup) (hm : ∀ k, k ∈ cs ↔ Rc S.hands S.rows k) (hN : N = (planNew cs ks).length + 1) :
    Idle n room (e + 1) ((planNew cs ks).foldl planKeys ks) (HS.work N S).1 ∧ (HS.work N S).2 = (planNew cs ks).filterMap planFreed := by
  have hp : planOf S = [] := G.plan_idle.mpr ⟨c.line, c.unsw⟩
  obtain ⟨q1, q2, q3, q4⟩ := work_round G hcs hm hp
  rw [c.keys, ← hN] at q1 q2 q3 q4
  obtain ⟨w1, w2, w3⟩ := work_fields S N
  obtain ⟨i1, i2⟩ := (G.work N).plan_idle.mp q1
  exact ⟨⟨by rw [w1, c.hl], by rw [w2, c.rlen], q3, i1, i2, by rw [q4, c.ended], by rw [w3, c.rm]⟩, q2⟩
/-- the first round: all stay -/
theorem Idle.stay {n room : Nat} {S : HS} (c : Idle n room 0 (List.range n) S) (G : Good S) (hr : ∀ k ∈ List.range n, Rc S.hands S.rows k) : Idle n room 1 (List.range n) (HS.work (1 + n + n) S).1 ∧ (HS.work (1 + n + n) S).2 = [] := by
  obtain ⟨p1, p2, p3⟩ := plan_stay (List.range n) (List.range n) fun _ h => h
  have := c.round (cs := List.range n) (N := 1 + n + n) G List.nodup_range (fun k => ⟨hr k, fun h => c.keys ▸ (G.rc h).1⟩) (by rw [p1, List.length_range]; omega)
  rw [p3, p2] at this
  exact this
/-- the second: none stays -/
theorem Idle.gone {n room : Nat} {S : HS} (c : Idle n room 1 (List.range n) S) (G : Good S) (h0 : ∀ k, some k ∉ S.hands) : Idle n room 2 [] (HS.work (1 + n) S).1 ∧ (HS.work (1 + n) S).2 = List.range n := by
  obtain ⟨p1, p2, p3⟩ := plan_all (List.range n)
  have := c.round (cs := []) (N := 1 + n) G List.nodup_nil (fun k => ⟨(fun h => nomatch h), fun h => (no_reach h0 h).elim⟩) (by rw [p1, List.length_range]; omega)
  rw [p3, p2] at this
  exact this
theorem both_dropped {S : HS} (h : S.hands.length = 2) : ∀ k, some k ∉ ((S.drop 0).drop 1).hands := by
  intro k hk
  have e : ((S.drop 0).drop 1).hands = [none, none] := by
    show (S.hands.set 0 none).set 1 none = _
    match hh : S.hands, h with
    | [a, b], _ => rfl
  rw [e] at hk
  simp at hk
end MP
namespace MP
open PySem PySem.Spec PyProof.Rows L2 MM KG
theorem plan_freed (cs keys : List Nat) : (planNew cs keys).filterMap planFreed = keys.filter fun k => decide (k ∉ cs) := by
  unfold planNew
  rw [List.filterMap_append]
  have e1 : (List.replicate cs.length (none : Option (Nat × Bool))).filterMap planFreed = [] := by
    rw [List.filterMap_eq_nil_iff]
    intro x hx
    rw [List.eq_of_mem_replicate hx]; rfl
  rw [e1, List.nil_append, List.filterMap_map]
  induction keys with
  | nil => rfl
  | cons b l ih =>
    rw [List.filterMap_cons, List.filter_cons]
    by_cases c : b ∈ cs
    · have h1 : decide (b ∉ cs) = false := decide_eq_false fun n => n c
      simp only [Function.comp, h1, planFreed]
      exact ih
    · have h1 : decide (b ∉ cs) = true := decide_eq_true c
      simp only [Function.comp, h1, planFreed, if_true]
      exact congrArg (b :: ·) ih
theorem plan_keys (cs : List Nat) (keys : List Nat) : (planNew cs keys).foldl planKeys keys = keys.filter fun k => decide (k ∈ cs) := by
  unfold planNew
  rw [List.foldl_append]
  have e1 : ∀ (n : Nat) (ks : List Nat), (List.replicate n (none : Option (Nat × Bool))).foldl planKeys ks = ks := by
    intro n
    induction n with
    | zero => intro ks; rfl
    | succ n ih => intro ks; rw [List.replicate_succ, List.foldl_cons]; exact ih ks
  rw [e1]
  have key : ∀ (l ks : List Nat), (l.map fun b => some (b, decide (b ∉ cs))).foldl planKeys ks = ks.filter fun k => decide (k ∈ cs ∨ k ∉ l) := by
    intro l
    induction l with
    | nil => intro ks; exact (List.filter_eq_self.mpr fun k _ => decide_eq_true (.inr (by simp))).symm
    | cons b l ih =>
      intro ks
      rw [List.map_cons, List.foldl_cons, ih]
      by_cases c : b ∈ cs
      · have h1 : decide (b ∉ cs) = false := decide_eq_false fun n => n c
        rw [h1]
        show ks.filter _ = ks.filter _
        refine List.filter_congr fun k _ => decide_eq_decide.mpr ?_
        constructor
        · rintro (h | h)
          · exact .inl h
          · by_cases e : k = b
            · exact .inl (e ▸ c)
            · exact .inr fun z => (List.mem_cons.mp z).elim e h
        · rintro (h | h)
          · exact .inl h
          · exact .inr fun z => h (List.mem_cons_of_mem _ z)
      · have h1 : decide (b ∉ cs) = true := decide_eq_true c
        rw [h1]
        show (ks.filter fun k => decide (k ≠ b)).filter _ = ks.filter _
        rw [List.filter_filter]
        refine List.filter_congr fun k _ => ?_
        rw [← Bool.decide_and]
        refine decide_eq_decide.mpr ?_
        constructor
        · rintro ⟨h | h, n⟩
          · exact .inl h
          · exact .inr fun z => (List.mem_cons.mp z).elim n h
        · rintro (h | h)
          · exact ⟨.inl h, fun e => c (e ▸ h)⟩
          · exact ⟨.inr fun z => h (List.mem_cons_of_mem _ z), fun e => h (e ▸ List.mem_cons_self)⟩
  rw [key]
  refine List.filter_congr fun k hk => decide_eq_decide.mpr ⟨fun h => h.elim id fun n => absurd hk n, .inl⟩
theorem flat_reach {hands : List (Option Nat)} {rows : List MM.Row} (h : ∀ r ∈ rows, r = []) {k : Nat} : Rc hands rows k ↔ some k ∈ hands := by
  constructor
  · intro r
    induction r with
    | hand e => exact e
    | @slot v w hv hw ih =>
      exfalso
      by_cases c : v < rows.length
      · rw [h _ (rowOf_mem c)] at hw
        cases hw
      · rw [rowOf_ge (Nat.le_of_not_lt c)] at hw
        cases hw
  · exact .hand
end MP

set_option Elab.async false
set_option linter.all false
set_option maxRecDepth 100000
set_option maxHeartbeats 4000000
/-! Rules of our own: a class's making whose error is caught around; a suite read under what is known of the error. -/
namespace MP
open PySem PySem.Spec PyProof.Rows L2 MM KG
section
variable {X : Cx} {CX : CXT} {k : Nat} {f C : Addr} {fd : FuncData} {ps : List Str} {sp : Sp} {E : L2.St → XK} {x : Str} {p pos : Pos} {e : Expr} {es : List Expr} {t : TA}
theorem run_makeAt {pins : List (Addr × Obj)} {σ : L2.St} {H : Hp} {s : Shared} {Q : VK} {us : List Value} {vs : List V} (M : Mk X.K C f) (F : FnOk X.prog X.w X.K X.mg X.base CX k f fd ps sp) (hr : Room (k + 1) X.A) (hb : Binds X.K fd ps [])
    (hx : PassesAt CX X σ (E σ)) (I : Inv X pins σ H s) (r : Vals vs us)
    (h : ∀ x dx, H x = none → H dx = none → dx ≠ x → sp (.ref x :: vs) (upd (upd H dx (.own x)) x (.ins C dx [])) (fun v H2 => v = .non ∧ Q (.ref x) H2) (E σ)) :
    wpAny (model X.prog X.w) X.A (call (.ref C) us) (EP X pins σ Q) X.xe s := by
  have hq := h (s.heap.objs.size + 1) s.heap.objs.size (I.hok.fresh (Nat.le_succ _)) (I.hok.fresh (Nat.le_refl _)) (Nat.ne_of_lt (Nat.lt_succ_self _))
  have I2 := Inv.made (C := C) I
  have r2 : Vals (V.ref (s.heap.objs.size + 1) :: vs) (Value.ref (s.heap.objs.size + 1) :: us) := .cons rfl r
  have hl : (Value.ref (s.heap.objs.size + 1) :: us).length = ps.length := by
    have e := r2.length
    rw [F.len _ _ _ _ hq] at e
    exact e.symm
  have b := hb _ (Value.ref (s.heap.objs.size + 1) :: us) I2.kIn (by rw [List.append_nil]; exact hl)
  rw [List.append_nil] at b
  refine wpAny_call (make_map (f := f) I.kIn M.makes M.init (beq_iff_eq.mp M.fn) (codeAny_mono (F.run _ X.stack _ _ ⟨Value.ref (s.heap.objs.size + 1) :: us, []⟩ (Value.ref (s.heap.objs.size + 1) :: us) _ _ (E σ) (hr.make C us [])
    (I2.env0.make C us []) b r2 hq) fun r s' hq' => ?_))
  cases r with
  | error e => exact hx pins _ _ e s' I2 hq'
  | ok fl =>
    cases fl with
    | ret u =>
      obtain ⟨v, H', I3, rv, ev, q3⟩ := I2.after hq'
      subst ev
      exact ⟨rv, ⟨V.ref (s.heap.objs.size + 1), H', I3, rfl, q3⟩⟩
    | next => exact False.elim hq'
    | brk => exact False.elim hq'
    | cont => exact False.elim hq'
def tMakeAt (C : Addr) (sp : Sp) (E : L2.St → XK) (t : TA) : TE := fun σ H Q => t σ H fun vs H1 => ∀ x dx, H1 x = none → H1 dx = none → dx ≠ x → sp (.ref x :: vs) (upd (upd H1 dx (.own x)) x (.ins C dx [])) (fun v H2 => v = .non ∧ Q (.ref x) H2) (E σ)
theorem pe_makeAt (M : Mk X.K C f) (F : FnOk X.prog X.w X.K X.mg X.base CX k f fd ps sp) (hr : Room (k + 1) X.A) (hg : Gl X x) (hm : X.mg x = some (.ref C)) (hb : Binds X.K fd ps []) (hx : ∀ σ, PassesAt CX X σ (E σ))
    (ha : PA X (e :: es) t) (hdb : (x == ("__debug__" : Str)) = false := by decide) (he : starEach (e :: es) X.env = (false, eval e X.env) :: starEach es X.env := by rfl) (hpl : (backTo pos (starEach es X.env)).any (·.1) = false := by rfl) :
    PE X (.Call (.Name x p) (e :: es) [] pos) (tMakeAt C sp E t) := by
  refine ⟨fun pins s σ H Q I h => ?_⟩
  refine wpAny_Call_Name_kw (ld_glob I hg hm ?_ hdb)
  refine PySem.W.callWith_K (h₀ := X.base) I.ok.mod.kin M.kp (thn (ha.run pos pins s σ H _ I h) fun us s1 ⟨vs, H1, I1, r, q⟩ => ⟨I1.kIn, ?_⟩) he hpl
  exact run_makeAt M F hr hb (hx σ) I1 r q
theorem pss_when {X : Cx} {p : Prop} {b : List Stmt} {t : TS} (h : p → PSs X b t) : PSs X b (fun D σ H => p ∧ t D σ H) := ⟨fun pins s σ H D I q => (h q.1).run pins s σ H D I q.2⟩
end
end MP

set_option Elab.async false
set_option linter.all false
set_option maxRecDepth 100000
set_option maxHeartbeats 2000000
/-! The end of a walk over a list while an exception is handled. -/
namespace HotX
open PySem PySem.Spec PyProof.Rows
section
variable {prog : Program} {w : World} {A : Around} {E : Value → Shared → Prop} {s : Shared}
theorem pyNext_list_end_hot {it l x1 : Addr} {i : Nat} {items : Array Value} {Q : Option Value → Shared → Prop} (hot : HotAt A x1 s.heap) (hne : x1 ≠ it)
    (hit : s.heap.IsListIter it l i) (hl : s.heap.IsList l items) (hx : items[i]? = none)
    (hQ : ∀ h', Heap.ExtBut it s.heap h' → Q none { s with heap := h' }) : wpAny (model prog w) A (pyNext (.ref it)) Q E s := by
  obtain ⟨o, ho, hc, hd⟩ := id hit
  obtain ⟨ol, hol, _, nl, hdl⟩ := hl
  obtain ⟨hh, o1, vs1, h1, d1, c1⟩ := hot
  unfold pyNext
  refine wpAny_bind (wpAny_attempt (wpAny_callSpecial?_slot (name := Str.ofString "__next__") hit.typeIs slot_listiter_next
    (wpAny_call_entry slot_listiter_next hit.typeIs entry_listiter_next ?_ (args_listiter_next _))))
  show wpAny _ _ (field (.ref it) 0 >>= _) _ _ s
  refine wpAny_bind (wpAny_field ho hd (x := .ref l) rfl ?_)
  show wpAny _ _ (if (Value.ref l == Value.none) = true then _ else _) _ _ s
  rw [if_neg (show ¬ ((Value.ref l == Value.none) = true) from Bool.false_ne_true)]
  show wpAny _ _ (field (.ref it) 1 >>= _) _ _ s
  refine wpAny_bind (wpAny_field ho hd (x := .int i 0) rfl ?_)
  show wpAny _ _ (seqItems? (.ref l) >>= _) _ _ s
  refine wpAny_bind (wpAny_seqItems hol hdl ?_)
  simp only [Int.toNat_natCast, hx]
  refine wpAny_bind (wpAny_rule (wpAny_bind (wpAny_setField ho hd (by simp) ?_)))
  show wpAny _ _ (newExc (.type "StopIteration") [] >>= _) _ _ _
  refine wpAny_bind ?_
  simp only [newExc, newTuple]
  refine wpAny_bind (wpAny_newObj_type ?_ (by size_fits))
  refine wpAny_bind (m := firstArgMember _ _) (wpAny_of_eq (a := Value.none) (by first | rfl | (simp only [firstArgMember]; rfl)) ?_)
  refine wpAny_newObj_type ?_ (by size_fits)
  have h1' : ∀ f, (s.heap.update it f).get? x1 = some o1 := fun f => (Heap.get?_update_other _ _ hne.symm).trans h1
  refine raiseNew_hot ⟨hh, o1, vs1, Heap.get?_push_of_some _ (Heap.get?_push_of_some _ (h1' _)), d1, c1⟩ (Nat.ne_of_lt (Heap.lt_size (Heap.get?_push_of_some _ (h1' _)))) (Heap.get?_push_size _ rfl) rfl (by first | (simp; done) | (simp; omega) | (simp only [Array.size_append]; simp; omega)) ?_
  refine wpAny_bind (wpAny_isInstance (T := "StopIteration") (b := true) ⟨_, Heap.get?_update_self _ (Heap.get?_push_size _ rfl) rfl, rfl⟩ isSubtype_stop ?_)
  refine wpAny_pure (hQ _ ?_)
  intro b ob hb e
  have e1 : ∀ f, (s.heap.update it f).get? b = some ob := fun f => (Heap.get?_update_other _ _ (Ne.symm hb)).trans e
  rw [Heap.get?_update_other _ _ (Nat.ne_of_gt (Heap.lt_size (Heap.get?_push_of_some _ (e1 _))))]
  exact Heap.get?_push_of_some _ (Heap.get?_push_of_some _ (e1 _))
theorem walks_listHot {prog : Program} {w : World} {A : Around} {x1 : Addr} {o : Obj} {vs : Array Value} (hh : A.handled = some (.ref x1)) (hd : o.data = .fields vs) (h2 : vs[2]? = some .none) (I ax : Addr) (hne : ax ≠ I) (hx : x1 ≠ I) (items : Array Value) :
    Walks prog w A I [I, ax, x1] [I] items.size (fun i v => items[i]? = some v) (fun i h => (h.IsListIter I ax i ∧ h.IsList ax items) ∧ h.get? x1 = some o) where
  sub := fun b hb => by simp at hb; simp [hb]
  frame := fun _ _ _ st hk => ⟨⟨st.1.1.at fun o e => hk I (by simp) o e, st.1.2.at fun o e => hk ax (by simp) o e⟩, hk x1 (by simp) o st.2⟩
  item := fun i s Q E hi st hQ => by
    refine wpAny_pyNext_list_item st.1.1 st.1.2 (x := items[i]) (by simp [hi]) fun h' hit' hs' => ?_
    exact hQ _ h' s.toks (by simp [hi]) ⟨⟨hit', st.1.2.extBut hs'.extBut hne⟩, hs'.extBut x1 o hx st.2⟩ fun b o hb e => hs'.extBut b o (fun h => hb (by simp [h])) e
  done := fun s Q E st hQ => pyNext_list_end_hot (x1 := x1) ⟨hh, o, vs, st.2, hd, h2⟩ hx st.1.1 st.1.2 (by simp) fun h' he' => hQ h' s.toks fun b o hb e => he' b o (fun h => hb (by simp [h])) e
  self := fun _ _ _ _ st hQ => wpAny_pyIter_listiter st.1.1 hQ
end
end HotX
namespace MP
open PySem PySem.Spec PyProof.Rows L2 HotX
theorem kit_of {K : PySem.W.Frag} {A C : Addr} {b : Bool} (hs : PySem.W.subIn K (.ref A) (.ref A) = some true) (h : PySem.W.subIn K (.ref A) (.ref C) = some b) (ht : PySem.W.typeIn K (.ref C) = some (.type "type")) (hi : PySem.W.isClsIn K C = true) :
    PySem.W.kitOne K (.ref A) (.ref C) = some b := by
  unfold PySem.W.kitOne
  by_cases e : (Value.ref A == Value.ref C) = true
  · have e' : A = C := by
      have := beq_iff_eq.mp e
      injection this
    subst e'
    rw [hs] at h
    exact (if_pos e).trans h
  · rw [if_neg e]
    unfold PySem.W.kitCls
    have : ((PySem.W.clsIn K C).isSome && PySem.W.typeIn K (.ref C) == some (.type "type")) = true := by
      rw [ht, show (PySem.W.clsIn K C).isSome = true from hi]
      rfl
    exact (if_pos this).trans h
theorem kit_ofT {K : PySem.W.Frag} {A : Addr} {T : String} {b : Bool} (h : PySem.W.subIn K (.ref A) (.type T) = some b) (m : PySem.W.kitMeta T = true) : PySem.W.kitOne K (.ref A) (.type T) = some b := by
  unfold PySem.W.kitOne
  rw [if_neg (by simp)]
  unfold PySem.W.kitCls
  exact (if_pos m).trans h
theorem takesN0 {X : Cx} : L2N.Takes X (fun _ _ _ _ => False) := fun _ _ x => by
  obtain ⟨_, _, _, _, _, _, _, _, _, _, _, _, _, _, _, _, z⟩ := x
  exact z.elim
section
variable {P : Program} {w : World} {K : PySem.W.Frag} {mg : Str → Option Value} {base : Heap}
/-- as Fun.okX, over errors whose context is None -/
theorem okN {x qual : Str} {st : Stmt} {f : Addr} {fd : FuncData} {N ps : List Str} {k : Nat} {sp : Sp} (F : Fun K x qual st f fd) (S : FnScope N ps (defScope st)) (len : ∀ vs H Q E, sp vs H Q E → vs.length = ps.length)
    (hbody : ∀ (cdv : Value) (A : Around) (outer : List Env) (s : Shared) (H : Hp) (vs : List V) (Q : VK) (E : XK), Room k (A.deeper (envOfC qual (defScope st) s.heap.objs.size f cdv)) → sp vs H Q E →
      ∃ t, PSs (cxOf (L2N.CX P w) P w K mg base N qual (defScope st) f cdv A outer s H E) (defBody st) t ∧ t { nx := fun _ H' => Q .non H', rt := Q } (start N vs) H) : FnOk P w K mg base (L2N.CX P w) (k + 1) f fd ps sp := by
  obtain ⟨oc, od, kV, doc, pm, an, cdv, ct, osl, rfl, lk, hcd⟩ := F.ex
  exact fn_of lk hcd S len fun A outer s H vs Q E hr hsp => hbody cdv A outer s H vs Q E hr hsp
end
section
variable {X : Cx}
theorem cr_any_hot {K : PySem.W.Frag} (hK : X.K = K) (hc : L2H.HotC X) : CallR X (.builtin "any") (rAny K) := by
  subst hK
  intro pins s σ H vs us Q I r h
  obtain ⟨a, bs, rfl, hs, q⟩ := h
  obtain ⟨its, rv, hl, _⟩ := I.list hs
  rw [Vals.ref1 r]
  have hb := rv.bls
  obtain ⟨p, ⟨hh, v1, e1, c1⟩, hp⟩ := hc
  have px := (I.pin p (List.mem_append_left _ hp)).1
  refine call_any_walk (iter_any hl.isList fun s₂ e2 st hne => ?_)
  subst e2
  refine ⟨_, _, _, _, _, _, _, rfl, walks_listHot (A := X.A.in1) (x1 := p.1) (o := p.2) hh e1 c1 _ a hne (Nat.ne_of_lt (Heap.lt_size px)) its.toArray, ⟨st, Heap.get?_push_of_some _ px⟩, truth_bools hb, fun h' tk hk => ?_⟩
  refine ⟨.bl _, H, I.kept fun b o eo => hk b o (fun hmem => ?_) (Heap.get?_push_of_some _ eo), ?_, q⟩
  · rcases List.mem_cons.mp hmem with e1 | hmem
    · exact absurd (e1 ▸ Heap.lt_size eo) (Nat.lt_irrefl _)
    · cases hmem
  · show Value.bool _ = Value.bool _
    rw [← L2.any_range, hb, List.size_toArray, List.length_map]
end
end MP

set_option Elab.async false
set_option linter.all false
set_option maxRecDepth 100000
set_option maxHeartbeats 4000000
/-! While an error is handled: sorted(a dict), list comprehensions, defs. -/
namespace HotX
open PySem PySem.Spec PyProof.Rows PySem.Calls PyProof.V PySem.W
theorem HotAt.push {A : Around} {x1 : Addr} {h : Heap} (x : HotAt A x1 h) (o : Obj) : HotAt A x1 (h.push o) := by
  obtain ⟨a, ob, vs, b, c, d⟩ := x
  exact ⟨a, ob, vs, Heap.get?_push_of_some _ b, c, d⟩
section
variable {prog : Program} {w : World} {K : Type} [DecidableEq K] {knd : KeyKind prog w K} {A : Around} {E : Value → Shared → Prop} {s : Shared}
theorem pyNext_dict_end_hot {x1 it d : Addr} {i ep : Nat} {kvs : List (K × Value)} {Q : Option Value → Shared → Prop} (hot : HotAt A x1 s.heap) (hne : x1 ≠ it) (hit : s.heap.IsKeyIter it d i kvs.length ep)
    (hm : s.heap.DictAt knd d kvs ep) (hx : kvs[i]? = none)
    (hQ : ∀ h', Heap.ExtBut it s.heap h' → Q none { s with heap := h' }) : wpAny (model prog w) A (pyNext (.ref it)) Q E s := by
  obtain ⟨o, ho, hc, hd⟩ := id hit
  obtain ⟨od, es, hod, hcd, hdd, hk, hp, hn⟩ := id hm
  obtain ⟨hh, o1, vs1, h1, d1, c1⟩ := hot
  unfold pyNext
  refine wpAny_bind (wpAny_attempt (wpAny_callSpecial?_slot (name := Str.ofString "__next__") hit.typeIs PySem.F.slot_dict_keyiterator_next
    (wpAny_call_entry PySem.F.slot_dict_keyiterator_next hit.typeIs PySem.F.entry_dict_keyiterator_next ?_ (PySem.F.args_dict_keyiterator_next_1 _))))
  refine wpAny_bind (wpAny_pure ?_)
  refine wpAny_bind ?_
  refine wpAny_bind ?_
  first | refine wpAny_bind (wpAny_typeNameOfWhole_keyiter hit.typeIs (wpAny_pure ?_)) | refine wpAny_bind (wpAny_typeNameOf_keyiter hit.typeIs (wpAny_pure ?_))
  refine wpAny_bind (wpAny_fieldsOf ho hd ?_)
  have hown : Builtin.Dict_items.ownsTuple "dict_keyiterator" = false := by decide
  simp only [hown, Bool.false_eq_true, if_false]
  show wpAny _ _ (if (Value.ref d == Value.none) = true then _ else _) _ _ s
  rw [if_neg (show ¬ ((Value.ref d == Value.none) = true) from Bool.false_ne_true)]
  refine wpAny_bind (wpAny_pure ?_)
  refine wpAny_bind (wpAny_dictEntries hod hdd ?_)
  have hsz : es.size = kvs.length := by rw [← hp.length]; simp
  rw [if_neg (by rw [hsz]; simp)]
  refine wpAny_bind (wpAny_pure ?_)
  refine wpAny_bind (wpAny_dictEpoch hod hdd ?_)
  rw [if_neg (by simp)]
  refine wpAny_pure ?_
  have hge : es.size ≤ i := by rw [hsz]; simpa using hx
  simp only [show ¬ ((i : Int) < 0) from by omega, if_false, Int.toNat_natCast, Array.getElem?_eq_none hge]
  refine wpAny_bind ?_
  first | refine wpAny_bind (wpAny_typeNameOfWhole_keyiter hit.typeIs (wpAny_pure ?_)) | refine wpAny_bind (wpAny_typeNameOf_keyiter hit.typeIs (wpAny_pure ?_))
  show wpAny _ _ (setField (.ref it) 0 .none >>= _) _ _ s
  refine wpAny_bind (wpAny_setField ho hd (by simp) ?_)
  show wpAny _ _ (newExc (.type "StopIteration") [] >>= _) _ _ _
  refine wpAny_bind ?_
  simp only [newExc, newTuple]
  refine wpAny_bind (wpAny_newObj_type ?_ (by size_fits))
  refine wpAny_bind (m := firstArgMember _ _) (wpAny_of_eq (a := Value.none) (by first | rfl | (simp only [firstArgMember]; rfl)) ?_)
  refine wpAny_newObj_type ?_ (by size_fits)
  have h1' : ∀ f, (s.heap.update it f).get? x1 = some o1 := fun f => (Heap.get?_update_other _ _ hne.symm).trans h1
  refine raiseNew_hot ⟨hh, o1, vs1, Heap.get?_push_of_some _ (Heap.get?_push_of_some _ (h1' _)), d1, c1⟩ (Nat.ne_of_lt (Heap.lt_size (Heap.get?_push_of_some _ (h1' _)))) (Heap.get?_push_size _ rfl) rfl (by first | (simp; done) | (simp; omega) | (simp only [Array.size_append]; simp; omega)) ?_
  refine wpAny_bind (wpAny_isInstance (T := "StopIteration") (b := true) ⟨_, Heap.get?_update_self _ (Heap.get?_push_size _ rfl) rfl, rfl⟩ isSubtype_stop ?_)
  refine wpAny_pure (hQ _ ?_)
  intro b ob hb e
  have e1 : ∀ f, (s.heap.update it f).get? b = some ob := fun f => (Heap.get?_update_other _ _ (Ne.symm hb)).trans e
  rw [Heap.get?_update_other _ _ (Nat.ne_of_gt (Heap.lt_size (Heap.get?_push_of_some _ (e1 _))))]
  exact Heap.get?_push_of_some _ (Heap.get?_push_of_some _ (e1 _))

theorem walks_dictKeysHot {x1 : Addr} {o : Obj} {vs : Array Value} (hh : A.handled = some (.ref x1)) (hd : o.data = .fields vs) (h2 : vs[2]? = some .none) (I d : Addr) (hne : d ≠ I) (hx : x1 ≠ I) (kvs : List (K × Value)) (ep : Nat) :
    Walks prog w A I [I, d, x1] [I] kvs.length (fun i v => ∃ k x, kvs[i]? = some (k, x) ∧ knd.is k v = true) (fun i h => (h.IsKeyIter I d i kvs.length ep ∧ h.DictAt knd d kvs ep) ∧ h.get? x1 = some o) where
  sub := fun b hb => by simp at hb; simp [hb]
  frame := fun _ _ _ st hk => ⟨⟨st.1.1.at fun o e => hk I (by simp) o e, st.1.2.at' fun o e => hk d (by simp) o e⟩, hk x1 (by simp) o st.2⟩
  item := fun i s Q E hi st hQ => by
    obtain ⟨⟨k, x⟩, hx'⟩ : ∃ p, kvs[i]? = some p := ⟨kvs[i], by simp [hi]⟩
    refine wpAny_pyNext_dict_item st.1.1 st.1.2 hx' fun key h' hkey hit' hs' => ?_
    exact hQ key h' s.toks ⟨k, x, hx', hkey⟩ ⟨⟨hit', st.1.2.extBut hs'.extBut hne⟩, hs'.extBut x1 o hx st.2⟩ fun b o hb e => hs'.extBut b o (fun h => hb (by simp [h])) e
  done := fun s Q E st hQ => pyNext_dict_end_hot (x1 := x1) ⟨hh, o, vs, st.2, hd, h2⟩ hx st.1.1 st.1.2 (by simp) fun h' he' => hQ h' s.toks fun b o hb e => he' b o (fun h => hb (by simp [h])) e
  self := fun _ _ _ _ st hQ => wpAny_pyIter_keyiter st.1.1 hQ
end
structure KdlSrcH (x1 : Addr) (prog : Program) (w : World) (T : String) (r d : Addr) (n : Nat) (P : Nat → Value → Prop) (OK : Heap → Prop) : Prop where
  type : ∀ s : Shared, OK s.heap → s.TypeIs (.ref r) T
  there : ∀ h : Heap, OK h → r < h.objs.size ∧ d < h.objs.size ∧ x1 < h.objs.size
  keep : ∀ h h' : Heap, OK h → (∀ b, b = r ∨ b = d ∨ b = x1 → ∀ o, h.get? b = some o → h'.get? b = some o) → OK h'
  notList : (Value.type T == Value.type "list") = false
  notTuple : (Value.type T == Value.type "tuple") = false
  hint : ∀ (A : Around) (E : Value → Shared → Prop) (s : Shared) (Q : Bool → Shared → Prop), OK s.heap → Q false s → wpAny (model prog w) A (Builtin.List.listLengthHint (.ref r)) Q E s
  iter : ∀ (A : Around) (s : Shared), HotAt A x1 s.heap → OK s.heap → ∃ (oI : Obj) (St : Nat → Heap → Prop),
    (∀ (E : Value → Shared → Prop) (Q : Value → Shared → Prop), Q (.ref s.heap.objs.size) { s with heap := s.heap.push oI } → wpAny (model prog w) A (pyIter (.ref r)) Q E s) ∧
    Walks prog w A s.heap.objs.size [s.heap.objs.size, d, x1] [s.heap.objs.size] n P St ∧ St 0 (s.heap.push oI)
section
variable {prog : Program} {w : World} {A : Around} {E : Value → Shared → Prop} {s : Shared} {T : String} {r d : Addr} {n : Nat} {P : Nat → Value → Prop} {OK : Heap → Prop}
theorem kdl_extendH {x1 : Addr} {R : Result → Shared → Prop} (K : KdlSrcH x1 prog w T r d n P OK) (hh : HotAt A.in1 x1 s.heap) (hok : OK s.heap) (S : Addr) (hSr : S ≠ r) (hSd : S ≠ d) (hSx : S ≠ x1) (res : Value) (c₀ : Nat) (hS : s.heap.get? S = some { cls := .type "list", data := .seq #[] c₀ })
    (hR : ∀ h' tk acc' c', (∀ b o, b ≠ S → s.heap.get? b = some o → h'.get? b = some o) → h'.get? S = some { cls := .type "list", dict := none, data := .seq acc' c', slots := #[] } → ItemsOf P acc' n → R (.ok (.ret res)) { s with heap := h', toks := tk }) (hn : n ≤ sizeLine) :
    wpAny (model prog w) A.in1 (Builtin.List.listExtendWith (.ref S) (.ref r) res)
      (fun fin s' => match fin with | .done f => R (.ok f) s' | .again c' => c'.quiet = true ∧ codeAny (model prog w) A c' R s') (fun e s' => R (.error e) s') s := by
  have hSI : S ≠ s.heap.objs.size := Nat.ne_of_lt (Heap.lt_size hS)
  have hSf : S ∉ [s.heap.objs.size, d, x1] := by simp only [List.mem_cons, List.not_mem_nil, or_false, not_or]; exact ⟨hSI, hSd, hSx⟩
  obtain ⟨oI, St, hit, W, st⟩ := K.iter A.in1 s hh hok
  have key : ∀ (h : Heap) (c₁ tk : Nat), St 0 h → (∀ b o, b ≠ S → s.heap.get? b = some o → h.get? b = some o) →
      h.get? S = some { cls := .type "list", data := .seq #[] c₁ } → codeAny (model prog w) A (.builtin "list.extend.loop" ⟨[.ref S, .ref s.heap.objs.size, res], []⟩) R { s with heap := h, toks := tk } := by
    intro h c₁ tk hst hk hS₁
    refine codeAny_extend_loopS W.toS hn S hSf res n 0 _ #[] c₁ rfl (Nat.zero_le _) hst hS₁ (ItemsOf.nil _) fun s' acc' c' hm hS' hacc => ?_
    rw [Moved.eq_with hm]
    refine hR s'.heap s'.toks acc' c' (fun b o hb e => hm.heap b o (fun hmem => ?_) (hk b o hb e)) hS' hacc
    rcases List.mem_cons.mp hmem with e' | hmem
    · exact hb e'
    · exact absurd (Heap.lt_size e) (by rw [List.mem_singleton.mp hmem]; exact Nat.lt_irrefl _)
  unfold Builtin.List.listExtendWith
  refine wpAny_bind (wpAny_typeOf (T := T) (K.type s hok) ?_)
  have h1 : Builtin.List.listSameRef (.ref S) (.ref r) = false := by simp [Builtin.List.listSameRef, hSr]
  simp only [h1, K.notList, K.notTuple, Bool.or_false, Bool.false_eq_true, if_false]
  refine wpAny_bind (hit _ _ ?_)
  have hS₁ := Heap.get?_push_of_some oI hS
  refine wpAny_bind (wpAny_holding (K.hint _ _ _ _ (K.keep _ _ hok fun b _ o e => Heap.get?_push_of_some _ e) ?_))
  refine wpAny_ite_split (fun _ => ?_) (fun _ => wpAny_pure ⟨plainId_quiet PySem.F.plain_extend_loop _, key _ c₀ _ st (fun b o _ e => Heap.get?_push_of_some _ e) hS₁⟩)
  refine wpAny_bind (wpAny_rule ?_)
  refine wpAny_bind ?_
  show wpAny _ _ (updateSeq S (·.push .none) >>= fun _ => updateSeq S (·.pop)) _ _ _
  refine wpAny_bind (wpAny_updateSeq hS₁ rfl ?_)
  have hS₂ := Heap.get?_update_self (Obj.mapSeq (·.push Value.none)) hS₁ rfl
  refine wpAny_updateSeq (hz := by seq_fits) hS₂ rfl ?_
  have hS₃ := Heap.get?_update_self (Obj.mapSeq (·.pop)) hS₂ rfl
  refine wpAny_pure ⟨plainId_quiet PySem.F.plain_extend_loop _, key _ _ _ ?_ (fun b o hb e => ?_) hS₃⟩
  · refine W.frame 0 _ _ st fun b hb o e => ?_
    have hbS : b ≠ S := fun h => hSf (h ▸ hb)
    exact (Heap.get?_update_other _ _ (Ne.symm hbS)).trans ((Heap.get?_update_other _ _ (Ne.symm hbS)).trans e)
  · exact (Heap.get?_update_other _ _ (Ne.symm hb)).trans ((Heap.get?_update_other _ _ (Ne.symm hb)).trans (Heap.get?_push_of_some _ e))
theorem kdu_collectH {x1 : Addr} {R : List Value → Shared → Prop} (K : KdlSrcH x1 prog w T r d n P OK) (hh : HotAt A.in1 x1 s.heap) (hok : OK s.heap) (hn : n ≤ sizeLine)
    (h : ∀ (h' : Heap) (tk : Nat) (acc : Array Value), (∀ b o, s.heap.get? b = some o → h'.get? b = some o) → ItemsOf P acc n → R acc.toList { s with heap := h', toks := tk }) :
    wpAny (model prog w) A (collect (.ref r)) R E s := by
  have hlt := K.there _ hok
  unfold collect
  refine wpAny_bind (wpAny_runValue (codeAny_builtin entry_proto_collect' ?_))
  rw [Around.under_plainId PySem.F.plain_proto_collect _]
  show wpAny _ A.in1 (newList [] >>= fun l => again (.builtin "list.__iadd__" ⟨[l, .ref r], []⟩)) _ _ s
  refine wpAny_bind (wpAny_newObj_type ?_)
  refine wpAny_pure ⟨plainId_quiet PySem.F.plain_list_iadd _, codeAny_builtin entry_list_iadd' ?_⟩
  rw [Around.under_plainId PySem.F.plain_list_iadd _]
  have hS₁ : (s.heap.push { cls := .type "list", data := .seq ([] : List Value).toArray }).get? s.heap.objs.size = some { cls := .type "list", data := .seq #[] } := Heap.get?_push_size _ rfl
  show wpAny _ A.in1 (Builtin.List.listExtendWith (.ref s.heap.objs.size) (.ref r) (.ref s.heap.objs.size)) _ _ _
  have key := kdl_extendH (x1 := x1) (A := A) (s := { s with heap := s.heap.push { cls := .type "list", data := .seq ([] : List Value).toArray } })
    (R := fun (q : Result) (s' : Shared) => ∃ (h' : Heap) (tk : Nat) (acc' : Array Value) (c' : Nat), q = .ok (.ret (.ref s.heap.objs.size)) ∧ s' = { s with heap := h', toks := tk } ∧
      (∀ b o, s.heap.get? b = some o → h'.get? b = some o) ∧ h'.get? s.heap.objs.size = some { cls := .type "list", dict := none, data := .seq acc' c', slots := #[] } ∧ ItemsOf P acc' n)
    K (hh.push _) (K.keep _ _ hok fun b _ o e => Heap.get?_push_of_some _ e) s.heap.objs.size (Nat.ne_of_gt hlt.1) (Nat.ne_of_gt hlt.2.1) (Nat.ne_of_gt hlt.2.2) (.ref s.heap.objs.size) 0 hS₁
    (fun h' tk acc' c' hk hS' hacc => ⟨h', tk, acc', c', rfl, rfl, fun b o e => hk b o (Nat.ne_of_lt (Heap.lt_size e)) (Heap.get?_push_of_some _ e), hS', hacc⟩) hn
  refine wpAny_mono key (fun fin s' x => ?_) fun e s' x => ?_
  · cases fin with
    | done f =>
      obtain ⟨h', tk, acc', c', e, rfl, hk, hS', hacc⟩ := x
      cases e
      show wpAny _ A (load s.heap.objs.size >>= _) _ _ _
      refine wpAny_bind (wpAny_load hS' ?_)
      exact wpAny_pure (h h' tk acc' hk hacc)
    | again c₁ =>
      refine ⟨x.1, codeAny_mono x.2 fun q s₂ y => ?_⟩
      obtain ⟨h', tk, acc', c', rfl, rfl, hk, hS', hacc⟩ := y
      show wpAny _ A (load s.heap.objs.size >>= _) _ _ _
      refine wpAny_bind (wpAny_load hS' ?_)
      exact wpAny_pure (h h' tk acc' hk hacc)
  · obtain ⟨_, _, _, _, e', _⟩ := x
    cases e'

end
section
variable {prog : Program} {w : World} {K : Type} [DecidableEq K] {knd : KeyKind prog w K} {d : Addr} {kvs : List (K × Value)} {ep : Nat}
theorem kdl_dictH {x1 : Addr} {o : Obj} (lo : (d == sysModules) = false) : KdlSrcH x1 prog w "dict" d d kvs.length (fun i v => ∃ k x, kvs[i]? = some (k, x) ∧ knd.is k v = true) (fun h => h.DictAt knd d kvs ep ∧ h.get? x1 = some o) where
  type := fun _ hm => hm.1.dictOf.typeIs
  there := fun _ hm => ⟨hm.1.lt_size, hm.1.lt_size, Heap.lt_size hm.2⟩
  keep := fun _ _ hm hk => ⟨hm.1.at' fun o e => hk d (.inl rfl) o e, hk x1 (.inr (.inr rfl)) o hm.2⟩
  notList := by decide
  notTuple := by decide
  hint := fun _ _ _ _ hm hq => kdl_hint_dict hm.1.dictOf.typeIs hq
  iter := fun _ _ hh hm => by
    obtain ⟨h1, o', vs, h2, h3, h4⟩ := hh
    have eo : o' = o := by
      rw [hm.2] at h2
      exact (Option.some.inj h2).symm
    subst eo
    exact ⟨_, _, (fun _ _ hq => wpAny_pyIter_dict lo hm.1 hq), walks_dictKeysHot h1 h3 h4 _ d (Nat.ne_of_lt hm.1.lt_size) (Nat.ne_of_lt (Heap.lt_size hm.2)) kvs ep, ⟨⟨⟨_, Heap.get?_push_size _ rfl, rfl, rfl⟩, hm.1.push _⟩, Heap.get?_push_of_some _ hm.2⟩⟩
end
end HotX
namespace MP
open PySem PySem.Spec PyProof.Rows L2 HotX
theorem cr_sortedDH {X : Cx} (hcalm : L2H.HotC X) : CallR X (.builtin "sorted") KS.rSortedD := by
  intro pins s σ H xs us Q I r q
  obtain ⟨a, kvs, ks, ex, hd, hks, q⟩ := q
  subst ex
  obtain ⟨p0, ⟨hh0, v0, e0, c0⟩, hp0⟩ := hcalm
  have P0 := (I.pin p0 (List.mem_append_left _ hp0)).1
  obtain ⟨u, eu, rx⟩ := vals1 r
  subst eu
  cases rx
  obtain ⟨z, lo, vs, rel, dd⟩ := dk_rd I.hok hd
  obtain ⟨ep, hat⟩ := dd.dictAt
  have hkeys : vs.map (·.1) = ks.map Sum.inl := rel.keys.symm.trans hks
  have hl : vs.length = ks.length := by
    have e := congrArg List.length hkeys
    rw [List.length_map, List.length_map] at e
    exact e
  have h16 : vs.length ≤ sizeLine := by rw [← rel.length]; exact z
  refine Calls.call_function_entry PyProof.Rows.kind_sorted PyProof.Rows.plain_sorted PyProof.Rows.entry_sorted (PyProof.Rows.args_sorted1 _) ?_
  unfold Builtin.«sorted»
  refine wpAny_bind (m := checkCount "sorted" 1 1 _) (wpAny_pure ?_)
  refine wpAny_bind (HotX.kdu_collectH (A := X.A.in1) (HotX.kdl_dictH (x1 := p0.1) (o := p0.2) (knd := mixKind X.prog X.w) (kvs := vs) (ep := ep) lo) ⟨hh0, p0.2, v0, P0, e0, c0⟩ ⟨hat, P0⟩ h16 fun h' tk acc hk hacc => ?_)
  have hal : acc.toList.length = ks.length := by rw [Array.length_toList, hacc.1, hl]
  have hS : IntsAre acc.toList ks := ints_each hal fun j v e => by
    obtain ⟨k, x, e1, e2⟩ := hacc.2 j v (by rw [← Array.getElem?_toList]; exact e)
    have e3 : (vs.map (·.1))[j]? = some k := by rw [List.getElem?_map, e1]; rfl
    rw [hkeys, List.getElem?_map] at e3
    cases e4 : ks[j]? with
    | none => rw [e4] at e3; cases e3
    | some y =>
      rw [e4] at e3
      have e5 : Sum.inl y = k := Option.some.inj e3
      subst e5
      rcases keyIs_shape (show keyIs (Sum.inl y) v = true from e2) with ⟨i, t, ek, ev⟩ | ⟨z, t, ek, ev⟩
      · cases ek
        exact ⟨y, t, rfl, ev⟩
      · cases ek
  have I1 : Inv X pins σ H { s with heap := h', toks := tk } := I.kept hk
  have hz : acc.toList.length ≤ sizeLine := by rw [hal, ← hl]; exact h16
  refine wpAny_bind (wpAny_newList ?_ hz)
  have hoL : (h'.push (seqObj "list" acc.toList.toArray 0)).get? h'.objs.size = some (seqObj "list" acc.toList.toArray 0) := Heap.get?_push_size _ rfl
  show wpAny _ _ _ _ _ { s with heap := h'.push (seqObj "list" acc.toList.toArray 0), toks := tk }
  refine wpAny_bind (wpAny_holding (wpAny_call_entry PyProof.Rows.slot_list_sort ⟨_, hoL, rfl⟩ PyProof.Rows.entry_list_sort
    (SrtO.list_sort_ord SrtO.swo_int (s := { s with heap := h'.push (seqObj "list" acc.toList.toArray 0), toks := tk }) hoL hz (fun h2 => SrtO.ints_sortable hS h2) fun out g1 g2 => ⟨_, rfl, ?_⟩) (PyProof.Rows.args_list_sort _)))
  obtain ⟨k1, k2, k3⟩ := SrtO.ints_out hS g1 g2
  obtain ⟨e', he'⟩ := PyProof.Rows.sortedHeap_at (vs := acc.toList) (out := out.toArray) hoL
  have hlen : ((out.map SrtO.iv).map V.int).length ≤ sizeLine := by
    rw [List.length_map, k2.length_eq, ← hal]
    exact hz
  refine wpAny_pure ⟨_, rfl, .ref h'.objs.size, upd H h'.objs.size (.lst ((out.map SrtO.iv).map V.int)), I1.laid (t' := tk) (fun b u e => ?_) (Nat.le_refl _)
    (show ObjOk X.prog X.w _ _ _ (.lst ((out.map SrtO.iv).map V.int)) from ⟨hlen, out, e', vals_of_ints k1, he'⟩), rfl, q _ _ k2 k3 (I1.hok.fresh (Nat.le_refl _))⟩
  have hb : b < h'.objs.size := Heap.lt_size e
  rw [PyProof.Rows.sortedHeap_old (Nat.ne_of_lt hb) (by rw [size_push']; exact Nat.lt_succ_of_lt hb)]
  exact Heap.get?_push_of_some _ e
end MP

set_option Elab.async false
set_option linter.all false
set_option maxRecDepth 100000
set_option maxHeartbeats 4000000

namespace MP
open PySem PySem.Spec PyProof.Rows L2 HotX
/-- a comprehension's block that keeps the handled exception in sight -/
abbrev blkH (X : Cx) (p0 : Addr × Obj) (s : Shared) (H : Hp) (scope : Scope) (cenv : Env) (fp : List Addr) : Cx := { X.blk s H scope cenv fp with pn := [p0] }
theorem with_pin {X : Cx} {p0 : Addr × Obj} {σ : L2.St} {H : Hp} {s : Shared} (I : Inv X [] σ H s) (hpn : X.pn = []) (h1 : s.heap.get? p0.1 = some p0.2) (h2 : H p0.1 = none) (h3 : p0.1 ≠ X.env.locals) (h4 : p0.1 ∉ X.fs) (h5 : ∀ v, p0.2.data ≠ .cell v) :
    Inv { X with pn := [p0] } [] σ H s := by
  have ok := I.ok
  refine ⟨⟨ok.mod, ok.kind, ok.glob, ok.blt, ok.above, ok.inj, ok.has, ok.cab, ok.hd, ok.frames, ok.stk, ok.exf, ok.bs, ok.bsz, ok.noex, ok.exfs, ok.funs, ok.frf⟩, I.os, I.bare, I.base, I.loc, I.cell, I.free, I.freeC, fun p hp => ?_, I.hok, I.len⟩
  have e : p = p0 := by simpa using (show p ∈ [p0] ++ ([] : List (Addr × Obj)) from hp)
  rw [e]
  exact ⟨h1, h2, h3, h4, h5⟩
section
variable {X : Cx}
theorem lc_coreH {p0 : Addr × Obj} {pins : List (Addr × Obj)} {s : Shared} {σ : L2.St} {H : Hp} {Q : VK} {elt tg iter : Expr} {ifs : List Expr} {scope : Scope} {own : List (Str × Nat)} {pos pos' : Pos} {wi : TI} {g : TG} {tt : TT} {te : TE} {use : Option (Value → Sem Unit)} {Qf : Value → Shared → Prop}
    (hc : X.calm = false) (hot : L2H.Hot1 X.A p0) (hp0 : p0 ∈ X.pn) (hN : X.N.Nodup) (I : Inv X pins σ H s) (hi : L2H.PIH X tg iter wi) (ok : BlkOk X.N X.env.scope scope own)
    (hg : ∀ (s : Shared) (H : Hp) (C : Addr) (cl : List (Str × Addr)) (fp : List Addr), PG (blkH X p0 s H scope (compEnvC scope cl C X.env) fp) tg g) (ht : ∀ (s : Shared) (H : Hp) (C : Addr) (cl : List (Str × Addr)) (fp : List Addr), PTs (blkH X p0 s H scope (compEnvC scope cl C X.env) fp) ifs tt)
    (he : ∀ (s : Shared) (H : Hp) (C : Addr) (cl : List (Str × Addr)) (fp : List Addr), PE (blkH X p0 s H scope (compEnvC scope cl C X.env) fp) elt te) (hs : ∀ x, foldedSetIterable iter X.env x = pure x)
    (h : tLc wi g tt te (own.map (·.2)) σ H Q)
    (hRR : ∀ D C s' m H', Inv X pins σ H' s' → Q (.ref D) H' → s'.heap.Ns C m → FpOk X pins H' C → compPost (model X.prog X.w) X.A X.xe use Qf (.ref D) C (.ok .next) s') :
    wpAny (model X.prog X.w) X.A (comprehension (.ListComp elt [⟨tg, iter, ifs, 0⟩] scope pos) scope X.env pos' (newList []) false (eval iter X.env) use) Qf X.xe s := by
  have hfree : ∀ y ∈ scope.names, y.2 = .free → ∃ c, X.env.cells.lookup y.1 = some c := fun y hy e => by
    rcases ok.free y hy e with k | k
    · exact I.ok.has _ (.inl k)
    · exact I.ok.has _ (.inr k)
  refine wpAny_comprehension_free (use := use) rfl hs (closure_ok hfree) ok.kind (fun y hy e => by rw [ok.uniq y hy, e])
    (thn (hi.run pins s σ H _ I h) fun xv s1 hx => thn hx fun itv s2 h2 => ?_)
  obtain ⟨it, fp, tn, J, H2, e, I2, T, st2, f2, q⟩ := h2
  subst e
  refine wpAny_newObj_type (newEnv_comp ?_) (by show 0 ≤ sizeLine; decide)
  generalize hD : s2.heap.objs.size = D
  have hDn : H2 D = none := I2.hok.fresh (Nat.le_of_eq hD)
  obtain ⟨W, ⟨m0, w0⟩, turn⟩ := q D hDn
  -- the new list
  generalize hs3 : ({ s2 with heap := s2.heap.push { cls := .type "list", data := .seq ([] : List Value).toArray } } : Shared) = s3
  have I3 : Inv X pins σ (upd H2 D (.lst [])) s3 := by
    rw [← hs3]
    refine I2.laid (t' := s2.toks) (fun b o e => Heap.get?_push_of_some _ e) (Nat.le_of_eq hD) ⟨Nat.zero_le _, [], 0, .nil, ?_⟩
    rw [← hD]
    exact Heap.get?_push_size _ rfl
  have h3 : s3.heap = s2.heap.push { cls := .type "list", data := .seq ([] : List Value).toArray } := by rw [← hs3]
  have sz : ∀ b ∈ fp, b < s2.heap.objs.size := fun b hb => by
    obtain ⟨o, e, _⟩ := T.obj _ _ st2 b hb
    exact Heap.lt_size e
  have f3 : ∀ b ∈ fp, FpOk X pins (upd H2 D (.lst [])) b ∧ b < s3.heap.objs.size := fun b hb => by
    have hlt := sz b hb
    refine ⟨⟨?_, (f2 b hb).2⟩, by rw [h3, Heap.size_push]; exact Nat.lt_succ_of_lt hlt⟩
    rw [upd_ne (by rw [← hD]; exact Nat.ne_of_lt hlt)]
    exact (f2 b hb).1
  have st3 : tn 0 s3.heap := T.keep _ _ _ st2 fun b _ o e => by rw [h3]; exact Heap.get?_push_of_some _ e
  have P0 := I3.pin p0 (List.mem_append_left _ hp0)
  have I4 := with_pin (p0 := p0) (block_start I3 ok hN f3) rfl (pushCells_keeps _ _ _ _ (Heap.get?_push_of_some _ P0.1)) P0.2.1 (Nat.ne_of_lt (Heap.lt_size P0.1)) (fun hm => (List.mem_cons.mp (I3.stkSub p0.1 hm)).elim P0.2.2.1 P0.2.2.2.1) P0.2.2.2.2
  have pg := hg s3 (upd H2 D (.lst [])) s3.heap.objs.size (cellsFrom (s3.heap.objs.size + 1) scope.names (cloFrom X.env.cells scope.names [])) fp
  have pt := ht s3 (upd H2 D (.lst [])) s3.heap.objs.size (cellsFrom (s3.heap.objs.size + 1) scope.names (cloFrom X.env.cells scope.names [])) fp
  have pe := he s3 (upd H2 D (.lst [])) s3.heap.objs.size (cellsFrom (s3.heap.objs.size + 1) scope.names (cloFrom X.env.cells scope.names [])) fp
  show codeAny _ _ (.compStart (.ListComp elt [⟨tg, iter, ifs, 0⟩] scope pos) 0 (.ref it) (.ref D) (compEnvC scope (cellsFrom (s3.heap.objs.size + 1) scope.names (cloFrom X.env.cells scope.names [])) s3.heap.objs.size X.env)) (compPost (model X.prog X.w) X.A X.xe use Qf (.ref D) s3.heap.objs.size) { s3 with heap := pushCells (s3.heap.push { cls := .type "dict", data := .dict #[] }) scope.names }
  have nfp : ∀ b ∈ fp, (upd H2 D (.lst [])) b = none := fun b hb => (f3 b hb).1.1
  generalize hce : compEnvC scope (cellsFrom (s3.heap.objs.size + 1) scope.names (cloFrom X.env.cells scope.names [])) s3.heap.objs.size X.env = ce at I4 pg pt pe ⊢
  have cL : ce.locals = s3.heap.objs.size := by subst hce; rfl
  generalize hH3 : upd H2 D (.lst []) = H3 at I3 I4 pg pt pe w0 nfp f3
  generalize hs4 : ({ s3 with heap := pushCells (s3.heap.push { cls := .type "dict", data := .dict #[] }) scope.names } : Shared) = s4 at I4 ⊢
  have st4 : tn 0 s4.heap := T.keep _ _ _ st3 fun b _ o e => by rw [← hs4]; exact pushCells_keeps _ _ _ _ (Heap.get?_push_of_some _ e)
  have stat : ∀ {σ' : L2.St} {H' : Hp} {s' : Shared}, Inv (blkH X p0 s3 H3 scope ce fp) [] σ' H' s' → (∀ b ∈ fp, H' b = none) → ∀ b ∈ fp, FpOk (blkH X p0 s3 H3 scope ce fp) [] H' b := fun {σ' H' s'} I' hn b hb =>
    ⟨hn b hb, (I'.ok.exf b hb).1, I'.ok.exfs b hb, .inl hb, fun x c e => (I'.ok.exf b hb).2 x c e, fun p hp => by
      have e : p = p0 := by simpa using (show p ∈ [p0] ++ ([] : List (Addr × Obj)) from hp)
      rw [e]
      exact (f3 b hb).1.2.2.2.2.2 p0 (List.mem_append_left _ hp0)⟩
  have loop : codeAny (model X.prog X.w) X.A (.compLoop (.ListComp elt [⟨tg, iter, ifs, 0⟩] scope pos) 0 (.ref it) (.ref D) ce) (compPost (model X.prog X.w) X.A X.xe use Qf (.ref D) s3.heap.objs.size) s4 := by
    refine compLoop_any (fun n s' => ∃ i H', Inv (blkH X p0 s3 H3 scope ce fp) [] (wipe σ (own.map (·.2))) H' s' ∧ tn i s'.heap ∧ (∀ b ∈ fp, H' b = none) ∧ W i n H') ?_ m0 ⟨0, H3, I4, st4, nfp, w0⟩
    rintro n s5 ⟨i, H5, I5, st5, n5, w5⟩
    rcases turn i n H5 w5 with ⟨stop, qq⟩ | ⟨go, Nx, hNx, step⟩
    · have td := T.done (blkH X p0 s3 H3 scope ce fp) rfl rfl rfl ⟨p0, hot, List.mem_cons_self⟩ i [] s5 _ H5 (fun _ _ => False) I5 (stat I5 n5) st5 stop
      refine thnF td fun r s6 ⟨hr, I6⟩ => ?_
      subst hr
      -- back in the def's context
      have I7 : Inv X pins σ H5 s6 := I3.call' (ch := fp) I6.os I6.base I6.hok I6.bare fun b hb => ⟨(f3 b hb).1.2.2.2.1, (f3 b hb).1.2.1, (f3 b hb).1.2.2.2.2.1, (f3 b hb).1.2.2.2.2.2⟩
      have nC : H5 s3.heap.objs.size = none := by
        have z : H5 ce.locals = none := I6.free
        rw [cL] at z
        exact z
      obtain ⟨m, hn, _⟩ := I6.loc
      have hn : s6.heap.Ns ce.locals m := hn
      rw [cL] at hn
      exact hRR D s3.heap.objs.size s6 m H5 I7 qq hn (I3.fpOk (Nat.le_refl _) nC)
    · have ti := T.item (blkH X p0 s3 H3 scope ce fp) rfl rfl rfl ⟨p0, hot, List.mem_cons_self⟩ i [] s5 _ H5 (fun _ _ => False) I5 (stat I5 n5) st5 go
      refine thnF ti fun r s6 ⟨u, hr, h6⟩ => ?_
      subst hr
      refine thnF h6 fun _ s7 ⟨x, H7, I7, r7, y7, st7, n7⟩ => ?_
      have I7' := I7.pinned (stat I7 n7) (T.obj _ _ st7)
      refine thnF (pg.run _ s7 _ H7 x u _ I7' r7 (step x H7 y7)) fun _ s8 ⟨σ8, H8, I8, hw8, q8⟩ => ?_
      refine thnF (pt.run _ s8 σ8 H8 _ I8 q8) fun b s9 ⟨H9, I9, q9⟩ => ?_
      -- the turn's end
      have fin : ∀ {s' : Shared} {H' : Hp}, Inv (blkH X p0 s3 H3 scope ce fp) ([] ++ pinsAt fp s7.heap) σ8 H' s' → Nx H' → ∃ m, m < n ∧ ∃ i H', Inv (blkH X p0 s3 H3 scope ce fp) [] (wipe σ (own.map (·.2))) H' s' ∧ tn i s'.heap ∧ (∀ b ∈ fp, H' b = none) ∧ W i m H' := fun {s' H'} I' nx => by
        obtain ⟨m', hm, w'⟩ := hNx H' nx
        have pin' : ∀ b ∈ fp, ∀ o, s7.heap.get? b = some o → s'.heap.get? b = some o ∧ H' b = none := fun b hb o e =>
          let z := I'.pin (b, o) (List.mem_append_right _ (List.mem_append_right _ (mem_pinsAt hb e)))
          ⟨z.1, z.2.1⟩
        have hl : (wipe σ (own.map (·.2))).length = σ8.length := by rw [← hw8, wipe_length]
        refine ⟨m', hm, i + 1, H', (I'.unpinned (pins := [])).weak hl (fun j v e => ?_), T.keep _ _ _ st7 fun b hb o e => (pin' b hb o e).1, fun b hb => ?_, w'⟩
        · rw [← hw8] at e
          exact (wipe_some e).1
        · obtain ⟨o, e, _⟩ := T.obj _ _ st7 b hb
          exact (pin' b hb o e).2
      cases b with
      | false =>
        simp only [Bool.false_eq_true, if_false] at q9 ⊢
        exact fin I9 q9
      | true =>
        simp only [if_true] at q9 ⊢
        refine thnF (pe.run _ s9 σ8 H9 _ I9 q9) fun z s10 ⟨yv, H10, I10, r10, acc, hD10, hz10, nx⟩ => ?_
        exact app_ok (X := blkH X p0 s3 H3 scope ce fp) I10 hD10 hz10 r10 fun s11 I11 => fin I11 nx
  exact codeAny_compStart_list loop (T.self X.A 0 _ _ _ st4 loop)
theorem pe_lcH {p0 : Addr × Obj} {elt tg iter : Expr} {ifs : List Expr} {scope : Scope} {own : List (Str × Nat)} {pos : Pos} {wi : TI} {g : TG} {tt : TT} {te : TE} (hc : X.calm = false) (hot : L2H.Hot1 X.A p0) (hp0 : p0 ∈ X.pn) (hN : X.N.Nodup) (hi : L2H.PIH X tg iter wi) (ok : BlkOk X.N X.env.scope scope own)
    (hg : ∀ (s : Shared) (H : Hp) (C : Addr) (cl : List (Str × Addr)) (fp : List Addr), PG (blkH X p0 s H scope (compEnvC scope cl C X.env) fp) tg g) (ht : ∀ (s : Shared) (H : Hp) (C : Addr) (cl : List (Str × Addr)) (fp : List Addr), PTs (blkH X p0 s H scope (compEnvC scope cl C X.env) fp) ifs tt)
    (he : ∀ (s : Shared) (H : Hp) (C : Addr) (cl : List (Str × Addr)) (fp : List Addr), PE (blkH X p0 s H scope (compEnvC scope cl C X.env) fp) elt te) (hs : ∀ x, foldedSetIterable iter X.env x = pure x := by intro _; rfl) :
    PE X (.ListComp elt [⟨tg, iter, ifs, 0⟩] scope pos) (tLc wi g tt te (own.map (·.2))) := by
  refine ⟨fun pins s σ H Q I h => ?_⟩
  rw [eval_ListComp]
  refine lc_coreH hc hot hp0 hN I hi ok hg ht he hs h fun D C s' m H' I' q hn f => ⟨m, hn, fun h'' sb => ?_⟩
  obtain ⟨f0, f1, f2, f3, f4, f5⟩ := f
  exact ⟨.ref D, H', I'.turned (t' := s'.toks) (fun b o hb e => (sb.2 b hb).trans e) f0 f1 f3 f4 f5, rfl, q⟩
end
end MP
namespace MP
open PySem PySem.Spec PyProof.Rows L2 MM KG HotX
section
variable {P : Program} {w : World} {K : PySem.W.Frag} {mg : Str → Option Value} {base : Heap}
/-- a def that is called while an error is handled -/
theorem okH {x qual : Str} {st : Stmt} {f : Addr} {fd : FuncData} {N ps : List Str} {k : Nat} {sp : Sp} (F : Fun K x qual st f fd) (S : FnScope N ps (defScope st)) (len : ∀ vs H Q E, sp vs H Q E → vs.length = ps.length)
    (hbody : ∀ (cdv : Value) (A : Around) (outer : List Env) (s : Shared) (H : Hp) (vs : List V) (Q : VK) (E : XK) (p : Addr × Obj), L2H.Hot1 (A.deeper (envOfC qual (defScope st) s.heap.objs.size f cdv)) p → L2H.RoomH k (A.deeper (envOfC qual (defScope st) s.heap.objs.size f cdv)) → sp vs H Q E →
      ∃ t, PSs (L2H.cxH CX0 P w K mg base N qual (defScope st) f cdv A outer s H E p) (defBody st) t ∧ t { nx := fun _ H' => Q .non H', rt := Q } (start N vs) H) : L2H.FnH P w K mg base CX0 (k + 1) f fd ps sp := by
  obtain ⟨oc, od, kV, doc, pm, an, cdv, ct, osl, rfl, lk, hcd⟩ := F.ex
  exact L2H.fn_ofH lk hcd S len fun A outer s H vs Q E p hot hr hsp => hbody cdv A outer s H vs Q E p hot hr hsp
structure DfH (P : Program) (w : World) (K : PySem.W.Frag) (mg : Str → Option Value) (base : Heap) (CX : CXT) (lv : Nat) (name : Str) (f : Addr) (fd : FuncData) (ps : List Str) (sp : Sp) : Prop where
  g : L2H.FnH P w K mg base CX lv f fd ps sp
  m : mg name = some (.ref f)
  k : PySem.W.keepIn K (.ref f) = true
  b : Binds K fd ps []
structure DmH (P : Program) (w : World) (K : PySem.W.Frag) (mg : Str → Option Value) (base : Heap) (CX : CXT) (lv : Nat) (C : Addr) (name : Str) (f : Addr) (fd : FuncData) (ps : List Str) (sp : Sp) : Prop where
  c : Cls K C
  m : Meth K C name f
  g : L2H.FnH P w K mg base CX lv f fd ps sp
  b : Binds K fd ps []
theorem passN {X : Cx} : Passes (L2N.CX X.prog X.w) X E0 := fun _ _ _ _ _ _ _ h => by
  obtain ⟨_, _, _, _, _, _, _, _, _, _, _, _, z⟩ := h
  exact z.elim
theorem hu_ofH {A : Around} {k : Nat} (hr : L2H.RoomH k A) : A.units + 1 < cLine := by have := hr.un; omega
theorem passH0 {X : Cx} : ∀ σ, PassesAt CX0 X σ ((fun _ => E0 : L2.St → XK) σ) := fun _ _ _ _ _ _ _ h => h.elim
end
section
variable {X : Cx} {CX : CXT} {k : Nat} {f C : Addr} {fd : FuncData} {ps : List Str} {sp : Sp} {E : L2.St → XK} {m : Str} {pos apos : Pos} {o : Expr} {ta : TE}
theorem pe_meth0H {pl : Sem Bool} (he : PE X o ta) (c : Cls X.K C) (hm : Meth X.K C m f) (F : L2H.FnH X.prog X.w X.K X.mg X.base CX k f fd ps sp) (hr : L2H.RoomH k X.A) (hc : L2H.HotC X) (hb : Binds X.K fd ps []) (hx : ∀ σ, PassesAt CX X σ (E σ))
    (ht : eval (.Call (.Attribute o m apos) [] [] pos) X.env = (do
      let ov ← eval o X.env
      standAt apos.atName
      let (f, first) ← holding [ov] (getMethod ov m pl)
      callWith pos f first (backTo pos (starEach [] X.env)) (backToKw pos (keywordEach [] X.env))) := by rfl) :
    PE X (.Call (.Attribute o m apos) [] [] pos) (L2H.tMethH C m sp E ta tNil) := by
  refine ⟨fun pins s σ H Q I h => ?_⟩
  refine PySem.W.methodCall_KW (pl := pl) (thn (he.run pins s σ H _ I h) fun u s1 ⟨x, H1, I1, rx, a, dx, fs, ex, ea, l, q⟩ => ?_) ht
  subst ex
  obtain rfl : u = Value.ref a := rx
  refine getmeth_ok I1 ea c hm l ?_
  exact PySem.W.callWith_K0 (first := [.ref a]) I1.kIn hm.kp (L2H.run_fnH (us := [.ref a]) (vs := [.ref a]) F hr hc hb (hx σ) I1 (.cons rfl .nil) q)
end
end MP

set_option Elab.async false
set_option linter.all false
set_option maxRecDepth 100000
set_option maxHeartbeats 4000000
/-! A def that is handed the error that is handled. -/
namespace MP
open PySem PySem.Spec PyProof.Rows L2 HotX L2H
structure FnHp (P : Program) (w : World) (K : PySem.W.Frag) (mg : Str → Option Value) (base : Heap) (CX : CXT) (k : Nat) (f : Addr) (fd : FuncData) (ps : List Str) (sp : Addr × Obj → Sp) : Prop where
  len : ∀ p vs H Q E, sp p vs H Q E → vs.length = ps.length
  run : ∀ (A : Around) (outer : List Env) (s : Shared) (H : Hp) (args : Args) (us : List Value) (vs : List V) (Q : VK) (E : XK) (p : Addr × Obj), RoomH k A → Hot1 A p → PinOk outer H s p → Env0 P w K mg base A outer s H → BindsTo s fd args (ps.zip us) → Vals vs us → sp p vs H Q E →
    codeAny (model P w) A (.call (.ref f) args) (CR CX outer P w H s Q E) s
theorem fn_ofHp {CX : CXT} {P : Program} {w : World} {K : PySem.W.Frag} {mg : Str → Option Value} {base : Heap} {k : Nat} {f : Addr} {name qual : Str} {params : Arguments} {body : List Stmt} {scope : Scope} {dV kV doc pm cdv ct oc : Value} {an od : Option Addr}
    {osl : Array (Option Value)} {N ps : List Str} {sp : Addr × Obj → Sp} (lk : K.lookup f = some ⟨oc, od, .func (PySem.W.fnOf name qual params body scope dV kV doc pm an cdv ct), osl⟩) (hcd : PySem.W.codeIn K cdv qual = true) (S : FnScope N ps scope)
    (len : ∀ p vs H Q E, sp p vs H Q E → vs.length = ps.length)
    (hbody : ∀ (A : Around) (outer : List Env) (s : Shared) (H : Hp) (vs : List V) (Q : VK) (E : XK) (p : Addr × Obj), Hot1 A p → RoomH k (A.deeper (envOfC qual scope s.heap.objs.size f cdv)) → sp p vs H Q E →
      ∃ t, PSs (L2H.cxH CX P w K mg base N qual scope f cdv A outer s H E p) body t ∧ t { nx := fun _ H' => Q .non H', rt := Q } (L2.start N vs) H) :
    FnHp P w K mg base CX (k + 1) f (PySem.W.fnOf name qual params body scope dV kV doc pm an cdv ct) ps sp := by
  refine ⟨len, fun A outer s H args us vs Q E p hr hot hpin e0 hb r hsp => ?_⟩
  have hl := len _ _ _ _ _ hsp
  have KX : K.In s.heap := e0.mod.kin.keeps fun b o e => (e0.bs b o e).1
  have lim : s.heap.NoLimit := e0.mod.nolimit.keeps fun b o e => (e0.bs b o e).1
  have hkind : ∀ y ∈ ps.zip us, scope.names.lookup y.1 = some .local ∨ (scope.names.lookup y.1 = some .cell ∧ ((cellsFrom (s.heap.objs.size + 1) scope.names []).lookup y.1).isSome = true) := fun ⟨n, v⟩ hy => by
    rcases S.par n (List.of_mem_zip hy).1 with q | q
    · exact .inl q
    · exact .inr ⟨q, PySem.W.cellsFrom_some _ _ _ (.inl q)⟩
  refine codeAny_call_function hr.depth (KX _ _ lk) rfl S.co S.gen rfl (PySem.W.codeRec_of KX hcd) (hb _ _ _ _ ?_)
  refine wpAny_newFunctionEnv_cells S.kind hkind fun env he s1 x => ?_
  subst he
  refine ⟨lim.keeps x.toInCall.keep, codeAny_func ?_⟩
  obtain ⟨t, ht, hq⟩ := hbody A outer s H vs Q E p hot (hr.deeper _) hsp
  have I : Inv (L2H.cxH CX P w K mg base N qual scope f cdv A outer s H E p) [] (L2.start N vs) H s1 := L2H.inv_startH S hpin e0 hl r x
  refine wpAny_mono (ht.run [] s1 (L2.start N vs) H _ I hq) (fun fl s' hs => ?_) fun e s' hs => hs
  have fin : ∀ {σ' : L2.St} {H' : Hp} {v : V} {u : Value}, Inv (L2H.cxH CX P w K mg base N qual scope f cdv A outer s H E p) [] σ' H' s' → RelV v u → Q v H' → CE outer P w H s Q u s' :=
    fun {σ' H' v u} J rv q => ⟨v, H', J.os, J.bare, J.base, J.hok, rv, q⟩
  cases fl with
  | ret u =>
    obtain ⟨v, σ', H', J, rv, q⟩ := hs
    exact fin J rv q
  | next =>
    obtain ⟨σ', H', J, q⟩ := hs
    exact fin (v := V.non) (u := Value.none) J rfl q
  | brk =>
    obtain ⟨_, _, _, q⟩ := hs
    exact False.elim q
  | cont =>
    obtain ⟨_, _, _, q⟩ := hs
    exact False.elim q

section
variable {X : Cx} {CX : CXT} {k : Nat} {f C : Addr} {fd : FuncData} {ps : List Str} {sp : Addr × Obj → Sp} {p : Addr × Obj} {E : L2.St → XK} {x m : Str} {q pos apos : Pos} {e o : Expr} {es : List Expr} {ta : TE} {t : TA}
theorem run_fnHp {pins : List (Addr × Obj)} {σ : L2.St} {H : Hp} {s : Shared} {Q : VK} {us : List Value} {vs : List V} (F : FnHp X.prog X.w X.K X.mg X.base CX k f fd ps sp) (hr : RoomH k X.A) (hot : Hot1 X.A p) (hp : p ∈ X.pn) (hb : Binds X.K fd ps []) (hx : PassesAt CX X σ (E σ))
    (I : Inv X pins σ H s) (r : Vals vs us) (h : sp p vs H Q (E σ)) : wpAny (model X.prog X.w) X.A (call (.ref f) us) (EP X pins σ Q) X.xe s := by
  have hl : us.length = ps.length := by rw [← r.length]; exact F.len _ _ _ _ _ h
  have b := hb s us I.kIn (by rw [List.append_nil]; exact hl)
  rw [List.append_nil] at b
  have P1 := I.pin p (List.mem_append_left _ hp)
  have hpin : PinOk X.stack H s p := ⟨P1.1, P1.2.1, fun hm => (List.mem_cons.mp (I.stkSub p.1 hm)).elim P1.2.2.1 P1.2.2.2.1, P1.2.2.2.2⟩
  refine wpAny_call (codeAny_mono (F.run X.A X.stack s H ⟨us, []⟩ us vs Q (E σ) p hr hot hpin I.env0 b r h) fun r s' hq => ?_)
  cases r with
  | error e => exact hx pins H s e s' I hq
  | ok fl =>
    cases fl with
    | ret u => exact I.after hq
    | next => exact False.elim hq
    | brk => exact False.elim hq
    | cont => exact False.elim hq
theorem pe_callHp (F : FnHp X.prog X.w X.K X.mg X.base CX k f fd ps sp) (hr : RoomH k X.A) (hot : Hot1 X.A p) (hp : p ∈ X.pn) (hg : Gl X x) (hm : X.mg x = some (.ref f)) (hk : PySem.W.keepIn X.K (.ref f) = true) (hb : Binds X.K fd ps []) (hx : ∀ σ, PassesAt CX X σ (E σ))
    (ha : PA X (e :: es) t) (hdb : (x == ("__debug__" : Str)) = false := by decide) (he : starEach (e :: es) X.env = (false, eval e X.env) :: starEach es X.env := by rfl) (hpl : (backTo pos (starEach es X.env)).any (·.1) = false := by rfl) :
    PE X (.Call (.Name x q) (e :: es) [] pos) (tCallS (sp p) E t) := by
  refine ⟨fun pins s σ H Q I h => ?_⟩
  refine wpAny_Call_Name_kw (ld_glob I hg hm ?_ hdb)
  refine PySem.W.callWith_K (h₀ := X.base) I.ok.mod.kin hk (thn (ha.run pos pins s σ H _ I h) fun us s1 ⟨vs, H1, I1, r, q⟩ => ⟨I1.kIn, ?_⟩) he hpl
  exact run_fnHp F hr hot hp hb (hx σ) I1 r q
end
theorem call_isEp {X : Cx} {a D : Addr} {oe : Obj} (hp : (a, oe) ∈ X.pn) (C : ExcC X.K D) (hz : Zc (.ref D) none oe) (hf : ∃ vs, oe.data = .fields vs) : CallR X (.builtin "isinstance") (rIsE X.K D a) := by
  intro pins s σ H xs us Q I r h
  obtain ⟨c, cv, b, rfl, hcv, e, q⟩ := h
  cases r with
  | cons rx rr =>
    cases rr with
    | cons rt rr =>
      cases rr
      cases rx
      have ec := hcv _ rt
      subst ec
      obtain ⟨hget, _⟩ := I.pin (a, oe) (List.mem_append_left _ hp)
      obtain ⟨vs, hv⟩ := hf
      have J : PySem.W.InstAt s.heap a oe D none := by
        obtain ⟨oc, od, oda, osl⟩ := oe
        obtain ⟨h1, h2⟩ := hz
        dsimp only at h1 h2 hv
        subst h1 h2 hv
        exact ⟨hget, rfl, rfl, trivial⟩
      exact PySem.W.kia_one (PySem.W.handS_kitx_exc C.hg C.hk C.hs C.hd C.ha C.hn C.ht C.hm) I.kIn J e (fun z => nomatch z) fun tk => ⟨.bl b, H, I.kept (t' := tk) fun _ _ z => z, rfl, q⟩
end MP
namespace MP
open PySem PySem.Spec PyProof.Rows L2 MM KG HotX L2H
section
variable {P : Program} {w : World} {K : PySem.W.Frag} {mg : Str → Option Value} {base : Heap}
theorem okHp {x qual : Str} {st : Stmt} {f : Addr} {fd : FuncData} {N ps : List Str} {k : Nat} {sp : Addr × Obj → Sp} (F : Fun K x qual st f fd) (S : FnScope N ps (defScope st)) (len : ∀ p vs H Q E, sp p vs H Q E → vs.length = ps.length)
    (hbody : ∀ (cdv : Value) (A : Around) (outer : List Env) (s : Shared) (H : Hp) (vs : List V) (Q : VK) (E : XK) (p : Addr × Obj), Hot1 (A.deeper (envOfC qual (defScope st) s.heap.objs.size f cdv)) p → RoomH k (A.deeper (envOfC qual (defScope st) s.heap.objs.size f cdv)) → sp p vs H Q E →
      ∃ t, PSs (cxH CX0 P w K mg base N qual (defScope st) f cdv A outer s H E p) (defBody st) t ∧ t { nx := fun _ H' => Q .non H', rt := Q } (start N vs) H) : FnHp P w K mg base CX0 (k + 1) f fd ps sp := by
  obtain ⟨oc, od, kV, doc, pm, an, cdv, ct, osl, rfl, lk, hcd⟩ := F.ex
  exact fn_ofHp lk hcd S len fun A outer s H vs Q E p hot hr hsp => hbody cdv A outer s H vs Q E p hot hr hsp
structure DfHp (P : Program) (w : World) (K : PySem.W.Frag) (mg : Str → Option Value) (base : Heap) (CX : CXT) (lv : Nat) (name : Str) (f : Addr) (fd : FuncData) (ps : List Str) (sp : Addr × Obj → Sp) : Prop where
  g : FnHp P w K mg base CX lv f fd ps sp
  m : mg name = some (.ref f)
  k : PySem.W.keepIn K (.ref f) = true
  b : Binds K fd ps []
end
end MP

set_option Elab.async false
set_option linter.all false
set_option pp.maxSteps 700
set_option maxRecDepth 100000
set_option maxHeartbeats 4000000
namespace MK
open PySem PySem.Spec PyProof.Rows L2 MM KG MP
def topS (i : Nat) : Stmt := PySem.Challenge.pw_markpause_k05_refused.main.body.getD i (.Pass ⟨0, 0, 0, 0⟩)
abbrev sHeapInit : Stmt := inClass (topS 15) 0
abbrev sHeapMake : Stmt := inClass (topS 15) 1
abbrev sHeapTake : Stmt := inClass (topS 15) 2
abbrev sHeapPut : Stmt := inClass (topS 15) 3
abbrev sHeapShare : Stmt := inClass (topS 15) 4
abbrev sHeapDrop : Stmt := inClass (topS 15) 5
abbrev sHeapHeld : Stmt := inClass (topS 15) 6
abbrev sHeapLook : Stmt := inClass (topS 15) 7
abbrev sHeapBoxes : Stmt := inClass (topS 15) 8
abbrev sHeapWork : Stmt := inClass (topS 15) 9
abbrev sHeapPhase : Stmt := inClass (topS 15) 10
abbrev sHeapMarked : Stmt := inClass (topS 15) 11
abbrev sHeapWaiting : Stmt := inClass (topS 15) 12
abbrev sHeapRounds : Stmt := inClass (topS 15) 13
abbrev sHeapDoPiece : Stmt := inClass (topS 15) 14
abbrev sHeapBeginRound : Stmt := inClass (topS 15) 15
abbrev sHeapMarkOn : Stmt := inClass (topS 15) 16
abbrev sHeapSweepOn : Stmt := inClass (topS 15) 17
abbrev sHeapEndRound : Stmt := inClass (topS 15) 18
abbrev sHeapMark : Stmt := inClass (topS 15) 19
abbrev sHeapNeedHand : Stmt := inClass (topS 15) 20
abbrev sHeapRowWith : Stmt := inClass (topS 15) 21
abbrev sCellAt : Stmt := topS 17
abbrev sWhole : Stmt := topS 18
abbrev sNumbers : Stmt := topS 19
abbrev sKinds : Stmt := topS 20
abbrev sDue : Stmt := topS 21
abbrev sAsked : Stmt := topS 22
abbrev sLaid : Stmt := topS 23
abbrev sAll : Stmt := topS 24
abbrev sLaw : Stmt := topS 25
theorem scHeapInit : FnScope ["self", "hands", "room"] ["self", "hands", "room"] (defScope sHeapInit) := ⟨rfl, rfl, rfl, by decide +kernel, rfl, by decide +kernel, by decide +kernel⟩
theorem scHeapMake : FnScope ["self", "hand", "slots", "box"] ["self", "hand", "slots"] (defScope sHeapMake) := ⟨rfl, rfl, rfl, by decide +kernel, rfl, by decide +kernel, by decide +kernel⟩
theorem scHeapTake : FnScope ["self", "hand", "other", "slot", "row"] ["self", "hand", "other", "slot"] (defScope sHeapTake) := ⟨rfl, rfl, rfl, by decide +kernel, rfl, by decide +kernel, by decide +kernel⟩
theorem scHeapPut : FnScope ["self", "hand", "slot", "other", "row"] ["self", "hand", "slot", "other"] (defScope sHeapPut) := ⟨rfl, rfl, rfl, by decide +kernel, rfl, by decide +kernel, by decide +kernel⟩
theorem scHeapShare : FnScope ["self", "hand", "other"] ["self", "hand", "other"] (defScope sHeapShare) := ⟨rfl, rfl, rfl, by decide +kernel, rfl, by decide +kernel, by decide +kernel⟩
theorem scHeapDrop : FnScope ["self", "hand"] ["self", "hand"] (defScope sHeapDrop) := ⟨rfl, rfl, rfl, by decide +kernel, rfl, by decide +kernel, by decide +kernel⟩
theorem scHeapHeld : FnScope ["self", "hand"] ["self", "hand"] (defScope sHeapHeld) := ⟨rfl, rfl, rfl, by decide +kernel, rfl, by decide +kernel, by decide +kernel⟩
theorem scHeapLook : FnScope ["self", "box"] ["self", "box"] (defScope sHeapLook) := ⟨rfl, rfl, rfl, by decide +kernel, rfl, by decide +kernel, by decide +kernel⟩
theorem scHeapBoxes : FnScope ["self"] ["self"] (defScope sHeapBoxes) := ⟨rfl, rfl, rfl, by decide +kernel, rfl, by decide +kernel, by decide +kernel⟩
theorem scHeapWork : FnScope ["self", "pieces", "freed", "_", "box"] ["self", "pieces"] (defScope sHeapWork) := ⟨rfl, rfl, rfl, by decide +kernel, rfl, by decide +kernel, by decide +kernel⟩
theorem scHeapPhase : FnScope ["self"] ["self"] (defScope sHeapPhase) := ⟨rfl, rfl, rfl, by decide +kernel, rfl, by decide +kernel, by decide +kernel⟩
theorem scHeapMarked : FnScope ["self"] ["self"] (defScope sHeapMarked) := ⟨rfl, rfl, rfl, by decide +kernel, rfl, by decide +kernel, by decide +kernel⟩
theorem scHeapWaiting : FnScope ["self"] ["self"] (defScope sHeapWaiting) := ⟨rfl, rfl, rfl, by decide +kernel, rfl, by decide +kernel, by decide +kernel⟩
theorem scHeapRounds : FnScope ["self"] ["self"] (defScope sHeapRounds) := ⟨rfl, rfl, rfl, by decide +kernel, rfl, by decide +kernel, by decide +kernel⟩
theorem scHeapDoPiece : FnScope ["self", "freed", "phase"] ["self"] (defScope sHeapDoPiece) := ⟨rfl, rfl, rfl, by decide +kernel, rfl, by decide +kernel, by decide +kernel⟩
theorem scHeapBeginRound : FnScope ["self", "box"] ["self"] (defScope sHeapBeginRound) := ⟨rfl, rfl, rfl, by decide +kernel, rfl, by decide +kernel, by decide +kernel⟩
theorem scHeapMarkOn : FnScope ["self", "box", "inner"] ["self"] (defScope sHeapMarkOn) := ⟨rfl, rfl, rfl, by decide +kernel, rfl, by decide +kernel, by decide +kernel⟩
theorem scHeapSweepOn : FnScope ["self", "box"] ["self"] (defScope sHeapSweepOn) := ⟨rfl, rfl, rfl, by decide +kernel, rfl, by decide +kernel, by decide +kernel⟩
theorem scHeapEndRound : FnScope ["self"] ["self"] (defScope sHeapEndRound) := ⟨rfl, rfl, rfl, by decide +kernel, rfl, by decide +kernel, by decide +kernel⟩
theorem scHeapMark : FnScope ["self", "box"] ["self", "box"] (defScope sHeapMark) := ⟨rfl, rfl, rfl, by decide +kernel, rfl, by decide +kernel, by decide +kernel⟩
theorem scHeapNeedHand : FnScope ["self", "hand"] ["self", "hand"] (defScope sHeapNeedHand) := ⟨rfl, rfl, rfl, by decide +kernel, rfl, by decide +kernel, by decide +kernel⟩
theorem scHeapRowWith : FnScope ["self", "hand", "slot", "box", "row"] ["self", "hand", "slot"] (defScope sHeapRowWith) := ⟨rfl, rfl, rfl, by decide +kernel, rfl, by decide +kernel, by decide +kernel⟩
theorem scCellAt : FnScope ["_law_script", "_law_k"] ["_law_script", "_law_k"] (defScope sCellAt) := ⟨rfl, rfl, rfl, by decide +kernel, rfl, by decide +kernel, by decide +kernel⟩
theorem scWhole : FnScope ["_law_found"] ["_law_found"] (defScope sWhole) := ⟨rfl, rfl, rfl, by decide +kernel, rfl, by decide +kernel, by decide +kernel⟩
theorem scNumbers : FnScope ["_law_found", "_law_due_here", "_law_k"] ["_law_found", "_law_due_here"] (defScope sNumbers) := ⟨rfl, rfl, rfl, by decide +kernel, rfl, by decide +kernel, by decide +kernel⟩
theorem scKinds : FnScope ["_law_e", "_law_kinds_here", "_law_k"] ["_law_e"] (defScope sKinds) := ⟨rfl, rfl, rfl, by decide +kernel, rfl, by decide +kernel, by decide +kernel⟩
theorem scDue : FnScope ["_law_deed", "_law_slots", "_law_many", "_law_room", "_law_total", "_law_word", "_law_hand"] ["_law_deed", "_law_slots", "_law_many", "_law_room", "_law_total"] (defScope sDue) := ⟨rfl, rfl, rfl, by decide +kernel, rfl, by decide +kernel, by decide +kernel⟩
theorem scAsked : FnScope ["_law_heap", "_law_deed", "_law_word"] ["_law_heap", "_law_deed"] (defScope sAsked) := ⟨rfl, rfl, rfl, by decide +kernel, rfl, by decide +kernel, by decide +kernel⟩
theorem scLaid : FnScope ["_law_heap", "_law_slots", "_law_cells", "_law_k"] ["_law_heap", "_law_slots", "_law_cells"] (defScope sLaid) := ⟨rfl, rfl, rfl, by decide +kernel, rfl, by decide +kernel, by decide +kernel⟩
theorem scAll : FnScope ["_law_heap", "_law_many", "_law_total", "_law_rows", "_law_k"] ["_law_heap", "_law_many", "_law_total"] (defScope sAll) := ⟨rfl, rfl, rfl, by decide +kernel, rfl, by decide +kernel, by decide +kernel⟩
theorem scLaw : FnScope ["_law_script", "_law_many", "_law_slots", "_law_total", "_law_room", "_law_heap", "_law_words", "_law_word", "_law_numbers_here", "_law_far", "_law_deed", "_law_due_here", "_law_before", "_law_phase", "_law_e", "_law_after", "_law_k"] ["_law_script"] (defScope sLaw) := ⟨rfl, rfl, rfl, by decide +kernel, rfl, by decide +kernel, by decide +kernel⟩
end MK

set_option Elab.async false
set_option linter.all false
set_option pp.maxSteps 700
set_option maxRecDepth 100000
set_option maxHeartbeats 4000000
namespace MK
open PySem PySem.Spec PyProof.Rows L2 MM KG MP
section
variable {P : Program} {w : World} {K : PySem.W.Frag} {mg : Str → Option Value} {base : Heap} {C : Addr} {EC : ECs}
theorem ok_need {f : Addr} {fd : FuncData} (F : Fun K "_need_hand" "Heap._need_hand" sHeapNeedHand f fd) (T : HeapTxt K mg C) (T_NoHand : ExC K mg "NoHand" EC.noHand) (m_len : mg "len" = none) : FnOk P w K mg base (L2N.CX P w) 1 f fd ["self", "hand"] (spNeed C EC) := by
  refine okN F scHeapNeedHand (fun vs H Q E h => ?_) (fun cdv A outer s H vs Q E hr h => ?_)
  · obtain ⟨p, A, R, h, rfl, _⟩ := h
    rfl
  · obtain ⟨p, A, R, h, rfl, hA, h8, q⟩ := h
    refine ⟨_, (pss_one (ps_if (pt_not (pt_chain op_le op_lt pe_int (pv 1) (pe_callB (lenS (K := K)) (by rfl) m_len (by decide +kernel) (pa_cons (peFld (K := K) (pv 0) rfl) pa_nil)))) (pss_one (L2N.ps_raise rfl (L2N.takes_of rfl rfl rfl rfl) (L2N.pmk_own PySem.F.excBase_ValueError T_NoHand.xP T_NoHand.gP T_NoHand.kP (raises_own T_NoHand.bP T_NoHand.tP) rfl))) pss_nil)), ?_⟩
    refine ⟨_, rfl, _, _, rfl, rfl, _, rfl, ite2 (fun e => ?_) (fun e => ?_)⟩
    · refine ⟨_, rfl, p, C, _, _, _, rfl, hA.ob, T.cl, T.n_hands, rfl, A.f .hands, _, rfl, .inl (SqL.of hA.hands), _, _, rfl, rfl, _, rfl, ?_⟩
      rw [List.length_map]
      by_cases c : h < R.hands.length
      · rw [if_pos ⟨of_decide_eq_true e, c⟩] at q
        exact iteNS c q
      · rw [if_neg fun z => c z.2] at q
        exact iteNT c q
    · rw [if_neg fun z => e (decide_eq_true z.1)] at q
      exact ⟨_, rfl, iteT q⟩
theorem ok_row {f : Addr} {fd : FuncData} (F : Fun K "_row_with" "Heap._row_with" sHeapRowWith f fd) (T : HeapTxt K mg C) (T_NothingHeld : ExC K mg "NothingHeld" EC.nothing) (T_NoSlot : ExC K mg "NoSlot" EC.noSlot) (m_len : mg "len" = none) : FnOk P w K mg base (L2N.CX P w) 1 f fd ["self", "hand", "slot"] (spRow C EC) := by
  refine okN F scHeapRowWith (fun vs H Q E h => ?_) (fun cdv A outer s H vs Q E hr h => ?_)
  · obtain ⟨p, A, R, h, s, rfl, _⟩ := h
    rfl
  · obtain ⟨p, A, R, h, s, rfl, hA, h8, hh, q⟩ := h
    have hu := hu_of hr
    refine ⟨_, (pss_cons (ps_set (i := 3) scHeapRowWith.nd rfl (.inl rfl) (pe_ix (ixL (K := K)) (peFld (K := K) (pv 0) rfl) (pv 1) (fun _ _ => rfl)))
      (pss_cons (ps_if (pt_cmpR op_isN (pv 3) pe_non (nomark _)) (pss_one (L2N.ps_raise rfl (L2N.takes_of rfl rfl rfl rfl) (L2N.pmk_own PySem.F.excBase_ValueError T_NothingHeld.xP T_NothingHeld.gP T_NothingHeld.kP (raises_own T_NothingHeld.bP T_NothingHeld.tP) rfl))) pss_nil)
      (pss_cons (ps_set (i := 4) scHeapRowWith.nd rfl (.inl rfl) (pe_dget hu (peFld (K := K) (pv 0) rfl) (pv 3) (fun _ _ => rfl)))
      (pss_cons (ps_if (pt_not (pt_chain op_le op_lt pe_int (pv 2) (pe_callB (lenS (K := K)) (by rfl) m_len (by decide +kernel) (pa_cons (pv 4) pa_nil)))) (pss_one (L2N.ps_raise rfl (L2N.takes_of rfl rfl rfl rfl) (L2N.pmk_own PySem.F.excBase_ValueError T_NoSlot.xP T_NoSlot.gP T_NoSlot.kP (raises_own T_NoSlot.bP T_NoSlot.tP) rfl))) pss_nil)
      (pss_one (ps_ret (pv 4))))))), ?_⟩
    refine ⟨_, rfl, p, C, _, _, _, rfl, hA.ob, T.cl, T.n_hands, rfl, _, rfl, A.f .hands, _, _, optV (R.hands.getD h none), rfl, rfl, SqL.of hA.hands, atI_opt hh, ?_⟩
    cases e : R.hands.getD h none with
    | none =>
      rw [e] at q
      exact ⟨_, rfl, rfl, _, rfl, iteT q⟩
    | some k =>
      rw [e] at q
      obtain ⟨hk, h4, q⟩ := q
      refine ⟨_, rfl, rfl, _, rfl, iteF ?_⟩
      refine ⟨_, rfl, p, C, _, _, _, rfl, hA.ob, T.cl, T.n_rows, rfl, _, rfl, A.f .rows, .ref (A.f (.row k)), rfl, dget_row hA hk, ?_⟩
      refine ⟨_, rfl, _, _, rfl, rfl, _, rfl, ite2 (fun e => ?_) (fun e => ?_)⟩
      · refine ⟨_, rfl, A.f (.row k), _, rfl, .inl (SqL.of (hA.row hk)), _, _, rfl, rfl, _, rfl, ?_⟩
        rw [List.length_map]
        by_cases c : s < (R.row k).length
        · rw [if_pos ⟨of_decide_eq_true e, c⟩] at q
          exact iteNS c ⟨_, rfl, q⟩
        · rw [if_neg fun z => c z.2] at q
          exact iteNT c q
      · rw [if_neg fun z => e (decide_eq_true z.1)] at q
        exact ⟨_, rfl, iteT q⟩
theorem ok_phase {f : Addr} {fd : FuncData} (F : Fun K "phase" "Heap.phase" sHeapPhase f fd) (T : HeapTxt K mg C) : FnOk P w K mg base CX0 1 f fd ["self"] (spPhase C) := by
  refine F.ok scHeapPhase (fun vs H Q E h => ?_) (fun cdv A outer s H vs Q E hr h => ?_)
  · obtain ⟨p, A, R, rfl, _⟩ := h
    rfl
  · obtain ⟨p, A, R, rfl, hA, h1, h2, q⟩ := h
    refine ⟨_, (pss_cons (ps_if (pt_truth (peFld (K := K) (pv 0) rfl) (by intro _; rfl)) (pss_one (ps_ret pe_str)) pss_nil)
      (pss_cons (ps_if (pt_truth (peFld (K := K) (pv 0) rfl) (by intro _; rfl)) (pss_one (ps_ret pe_str)) pss_nil)
      (pss_one (ps_ret pe_str)))), ?_⟩
    refine ⟨_, rfl, p, C, _, _, _, rfl, hA.ob, T.cl, T.n_line, rfl, !R.line.isEmpty, .inl ⟨_, SqL.of hA.line, by rw [List.isEmpty_map]⟩, ?_⟩
    by_cases e : R.line = []
    · rw [if_pos e] at q
      rw [e]
      refine iteF ?_
      refine ⟨_, rfl, p, C, _, _, _, rfl, hA.ob, T.cl, T.n_unsw, rfl, !R.unsw.isEmpty, .inl ⟨_, SqL.of hA.unsw, by rw [List.isEmpty_map]⟩, ?_⟩
      by_cases e2 : R.unsw = []
      · rw [if_pos e2] at q
        rw [e2]
        exact iteF q
      · rw [if_neg e2] at q
        rw [show (!R.unsw.isEmpty) = true by simp [e2]]
        exact iteT q
    · rw [if_neg e] at q
      rw [show (!R.line.isEmpty) = true by simp [e]]
      exact iteT q
theorem ok_mark {f : Addr} {fd : FuncData} (F : Fun K "_mark" "Heap._mark" sHeapMark f fd) (T : HeapTxt K mg C) : FnOk P w K mg base CX0 1 f fd ["self", "box"] (spMark C) := by
  refine F.ok scHeapMark (fun vs H Q E h => ?_) (fun cdv A outer s H vs Q E hr h => ?_)
  · obtain ⟨p, A, R, o, rfl, _⟩ := h
    rfl
  · obtain ⟨p, A, R, o, rfl, hA, h1, h2, q⟩ := h
    have hu := hu_of hr
    refine ⟨_, (pss_one (ps_if (PW.pt (pw_and (pt_cmp (pc_dinN hu (pv 1) (peFld (K := K) (pv 0) rfl))) (pw_and1 (pt_cmp (pc_dnotin hu (pv 1) (peFld (K := K) (pv 0) rfl)))))) (pss_cons (ps_dput hu (peFld (K := K) (pv 0) rfl) (pv 1) pe_bl rfl)
      (pss_one (ps_expr (pe_bm PySem.F.plainAttrs_list PySem.F.slot_list_append PySem.F.type_list_append mt_append (peFld (K := K) (pv 0) rfl) (pa_cons (pv 1) pa_nil))))) pss_nil)), ?_⟩
    cases o with
    | none =>
      refine ⟨_, rfl, _, rfl, p, C, _, _, _, rfl, hA.ob, T.cl, T.n_old, rfl, .inr ⟨A.f .old, _, rfl, rfl, .inl hA.old, ?_⟩⟩
      exact ⟨_, rfl, iteF (iteF (q H hA (Frm.refl _ _)))⟩
    | some k =>
      refine ⟨_, rfl, _, rfl, p, C, _, _, _, rfl, hA.ob, T.cl, T.n_old, rfl, .inl ⟨A.f .old, _, rfl, DGet.k (k := kK k) hA.old, ?_⟩⟩
      rw [valV_true]
      by_cases c1 : k ∈ R.old
      · rw [if_pos c1]
        refine ⟨_, rfl, iteT ?_⟩
        refine ⟨_, rfl, _, rfl, p, C, _, _, _, rfl, hA.ob, T.cl, T.n_marks, rfl, A.f .marks, _, rfl, DGet.k (k := kK k) hA.marks, ?_⟩
        rw [valV_true]
        by_cases c2 : k ∈ R.marks
        · rw [if_pos c2]
          refine ⟨_, rfl, iteF ?_⟩
          have e : R.markO (some k) = R := if_neg fun z => z.2 c2
          rw [e] at q
          exact q H hA (Frm.refl _ _)
        · rw [if_neg c2]
          refine ⟨_, rfl, iteT ?_⟩
          have e : R.markO (some k) = { R with marks := R.marks ++ [k], line := R.line ++ [k] } := if_pos ⟨c1, c2⟩
          rw [e] at q
          refine ⟨_, rfl, p, C, _, _, _, rfl, hA.ob, T.cl, T.n_marks, rfl, _, rfl, A.f .marks, _, rfl, DPut.k (k := kK k) hA.marks (size_of (by unfold dTrue; rw [List.length_map]; omega)), ?_⟩
          rw [putK_true c2]
          have a1 := hA.pMarks (R.marks ++ [k])
          have fr := (Frm.refl H (foot A R)).put (o := .dK (dTrue (R.marks ++ [k]))) (hA.foot_on (s := .marks) trivial)
          generalize upd H (A.f .marks) (.dK (dTrue (R.marks ++ [k]))) = H1 at a1 fr
          refine ⟨_, rfl, p, C, _, _, _, rfl, a1.ob, T.cl, T.n_line, rfl, .inl ⟨rfl, _, SqL.of a1.line⟩, _, rfl, A.f .line, _, _, rfl, rfl, a1.line, size_of (by rw [List.length_map]; show R.line.length ≤ _; omega), ?_⟩
          have a2 := a1.pLine (R.line ++ [k])
          rw [List.map_append] at a2
          refine q _ a2 ?_
          exact fr.put (hA.foot_on (s := .line) trivial)
      · rw [if_neg c1]
        refine ⟨_, rfl, iteF (iteF ?_)⟩
        have e : R.markO (some k) = R := if_neg fun z => c1 z.1
        rw [e] at q
        exact q H hA (Frm.refl _ _)
theorem ok_rounds {f : Addr} {fd : FuncData} (F : Fun K "rounds" "Heap.rounds" sHeapRounds f fd) (T : HeapTxt K mg C) : FnOk P w K mg base CX0 1 f fd ["self"] (spRounds C) := by
  refine F.ok scHeapRounds (fun vs H Q E h => ?_) (fun cdv A outer s H vs Q E hr h => ?_)
  · obtain ⟨p, A, R, rfl, _⟩ := h
    rfl
  · obtain ⟨p, A, R, rfl, hA, q⟩ := h
    exact ⟨_, (pss_one (ps_ret (peFld (K := K) (pv 0) rfl))), _, rfl, p, C, _, _, _, rfl, hA.ob, T.cl, T.n_ended, rfl, q⟩
end
end MK

set_option Elab.async false
set_option linter.all false
set_option pp.maxSteps 700
set_option maxRecDepth 100000
set_option maxHeartbeats 4000000
namespace MK
open PySem PySem.Spec PyProof.Rows L2 MM KG MP
section
variable {P : Program} {w : World} {K : PySem.W.Frag} {mg : Str → Option Value} {base : Heap} {C : Addr} {EC : ECs}
theorem ok_init {f : Addr} {fd : FuncData} {t8 t1000 : Tok} (F : Fun K "__init__" "Heap.__init__" sHeapInit f fd) (T : HeapTxt K mg C) (T_NoHeap : ExC K mg "NoHeap" EC.noHeap) (m_MOST_HANDS : mg "MOST_HANDS" = some (.int 8 t8)) (m_MOST_ROOM : mg "MOST_ROOM" = some (.int 1000 t1000)) : FnOk P w K mg base (L2N.CX P w) 1 f fd ["self", "hands", "room"] (spInit C EC) := by
  refine okN F scHeapInit (fun vs H Q E h => ?_) (fun cdv A outer s H vs Q E hr h => ?_)
  · obtain ⟨p, dx, n, r, rfl, _⟩ := h
    rfl
  · obtain ⟨p, dx, n, r, rfl, hp, q⟩ := h
    refine ⟨_, (pss_cons (ps_if (pt_not (pt_chain op_le op_le pe_int (pv 1) (pe_glob (v := .int 8) (by rfl) m_MOST_HANDS ⟨_, rfl⟩))) (pss_one (L2N.ps_raise rfl (L2N.takes_of rfl rfl rfl rfl) (L2N.pmk_own PySem.F.excBase_ValueError T_NoHeap.xP T_NoHeap.gP T_NoHeap.kP (raises_own T_NoHeap.bP T_NoHeap.tP) rfl))) pss_nil)
      (pss_cons (ps_if (pt_not (pt_chain op_le op_le pe_int (pv 2) (pe_glob (v := .int 1000) (by rfl) m_MOST_ROOM ⟨_, rfl⟩))) (pss_one (L2N.ps_raise rfl (L2N.takes_of rfl rfl rfl rfl) (L2N.pmk_own PySem.F.excBase_ValueError T_NoHeap.xP T_NoHeap.gP T_NoHeap.kP (raises_own T_NoHeap.bP T_NoHeap.tP) rfl))) pss_nil)
      (pss_cons (ps_fld (pv 0) (pe_op op_rep (pe_lst (pa_cons pe_non pa_nil)) (pv 1)) rfl)
      (pss_cons (ps_fld (pv 0) (pv 2) rfl)
      (pss_cons (ps_fld (pv 0) pe_dnewK rfl)
      (pss_cons (ps_fld (pv 0) pe_int rfl)
      (pss_cons (ps_fld (pv 0) pe_int rfl)
      (pss_cons (ps_fld (pv 0) pe_dnewK rfl)
      (pss_cons (ps_fld (pv 0) pe_dnewK rfl)
      (pss_cons (ps_fld (pv 0) (pe_lst pa_nil) rfl)
      (pss_one (ps_fld (pv 0) (pe_lst pa_nil) rfl)))))))))))), ?_⟩
    by_cases c1 : 1 ≤ n ∧ n ≤ 8
    · refine ⟨_, rfl, _, _, rfl, rfl, _, rfl, ?_⟩
      rw [decide_eq_true c1.1]
      refine iteT ⟨_, _, rfl, rfl, _, rfl, iteNS c1.2 ?_⟩
      by_cases c2 : 1 ≤ r ∧ r ≤ 1000
      · rw [if_pos ⟨c1, c2⟩] at q
        refine ⟨_, rfl, _, _, rfl, rfl, _, rfl, ?_⟩
        rw [decide_eq_true c2.1]
        refine iteT ⟨_, _, rfl, rfl, _, rfl, iteNS c2.2 ?_⟩
        have B := Bld.start hp
        refine ⟨by show 1 ≤ sizeLine; decide, fun t nt => ?_⟩
        have B := B.tmp (o := .lst [.non]) nt
        refine ⟨_, rfl, t, n, _, rfl, rfl, upd_same, by omega, by omega, by show 1 * n.toNat ≤ sizeLine; exact Nat.le_of_lt (size_of (by omega)), fun qh nh => ?_⟩
        have B := B.alloc (o := .lst (List.replicate n.toNat [V.non]).flatten) nh
        generalize upd (upd H t _) qh _ = H1 at B
        refine ⟨_, rfl, p, C, _, _, rfl, B.ob, T.cl, T.n_hands, by show 0 < 1000; decide, ?_⟩
        have B := B.fld [("_hands", .ref qh)]
        refine ⟨_, rfl, _, rfl, p, C, _, _, rfl, B.ob, T.cl, T.n_room, by show 1 < 1000; decide, ?_⟩
        have B := B.fld [("_hands", .ref qh), ("_room", .int r)]
        refine fun qr nr => ?_
        have B := B.alloc (o := .dK []) nr
        refine ⟨_, rfl, p, C, _, _, rfl, B.ob, T.cl, T.n_rows, by show 2 < 1000; decide, ?_⟩
        have B := B.fld [("_hands", .ref qh), ("_room", .int r), ("_rows", .ref qr)]
        refine ⟨_, rfl, p, C, _, _, rfl, B.ob, T.cl, T.n_made, by show 3 < 1000; decide, ?_⟩
        have B := B.fld [("_hands", .ref qh), ("_room", .int r), ("_rows", .ref qr), ("_made", .int 0)]
        refine ⟨_, rfl, p, C, _, _, rfl, B.ob, T.cl, T.n_ended, by show 4 < 1000; decide, ?_⟩
        have B := B.fld [("_hands", .ref qh), ("_room", .int r), ("_rows", .ref qr), ("_made", .int 0), ("_ended", .int 0)]
        refine fun qo no => ?_
        have B := B.alloc (o := .dK []) no
        refine ⟨_, rfl, p, C, _, _, rfl, B.ob, T.cl, T.n_old, by show 5 < 1000; decide, ?_⟩
        have B := B.fld [("_hands", .ref qh), ("_room", .int r), ("_rows", .ref qr), ("_made", .int 0), ("_ended", .int 0), ("_old", .ref qo)]
        refine fun qm nm => ?_
        have B := B.alloc (o := .dK []) nm
        refine ⟨_, rfl, p, C, _, _, rfl, B.ob, T.cl, T.n_marks, by show 6 < 1000; decide, ?_⟩
        have B := B.fld [("_hands", .ref qh), ("_room", .int r), ("_rows", .ref qr), ("_made", .int 0), ("_ended", .int 0), ("_old", .ref qo), ("_marks", .ref qm)]
        refine ⟨Nat.zero_le _, fun ql nl => ?_⟩
        have B := B.alloc (o := .lst []) nl
        refine ⟨_, rfl, p, C, _, _, rfl, B.ob, T.cl, T.n_line, by show 7 < 1000; decide, ?_⟩
        have B := B.fld [("_hands", .ref qh), ("_room", .int r), ("_rows", .ref qr), ("_made", .int 0), ("_ended", .int 0), ("_old", .ref qo), ("_marks", .ref qm), ("_line", .ref ql)]
        refine ⟨Nat.zero_le _, fun qu nu => ?_⟩
        have B := B.alloc (o := .lst []) nu
        refine ⟨_, rfl, p, C, _, _, rfl, B.ob, T.cl, T.n_unsw, by show 8 < 1000; decide, ?_⟩
        have B := B.fld (fl (.ref qh) (.int r) (.ref qr) (.int 0) (.int 0) (.ref qo) (.ref qm) (.ref ql) (.ref qu))
        rw [rep_none] at B
        obtain ⟨F', h1, h2⟩ := B.heap c1 c2
        exact q _ F' h1 h2
      · rw [if_neg fun z => c2 z.2] at q
        refine ⟨_, rfl, _, _, rfl, rfl, _, rfl, ite2 (fun e => ?_) (fun e => ?_)⟩
        · exact ⟨_, _, rfl, rfl, _, rfl, iteNT (fun z => c2 ⟨of_decide_eq_true e, z⟩) q⟩
        · exact ⟨_, rfl, iteT q⟩
    · rw [if_neg fun z => c1 z.1] at q
      refine ⟨_, rfl, _, _, rfl, rfl, _, rfl, ite2 (fun e => ?_) (fun e => ?_)⟩
      · exact ⟨_, _, rfl, rfl, _, rfl, iteNT (fun z => c1 ⟨of_decide_eq_true e, z⟩) q⟩
      · exact ⟨_, rfl, iteT q⟩
end
end MK

set_option Elab.async false
set_option linter.all false
set_option pp.maxSteps 700
set_option maxRecDepth 100000
set_option maxHeartbeats 4000000
namespace MK
open PySem PySem.Spec PyProof.Rows L2 MM KG MP
section
variable {P : Program} {w : World} {K : PySem.W.Frag} {mg : Str → Option Value} {base : Heap} {C : Addr} {EC : ECs}
theorem ok_make {f fN : Addr} {fd fdN : FuncData} {t4 : Tok} (F : Fun K "make" "Heap.make" sHeapMake f fd) (T : HeapTxt K mg C) (D__need_hand : Dm P w K mg base (L2N.CX P w) 1 C "_need_hand" fN fdN ["self", "hand"] (spNeed C EC))
    (T_NoSlot : ExC K mg "NoSlot" EC.noSlot) (T_NoRoom : ExC K mg "NoRoom" EC.noRoom) (m_MOST_SLOTS : mg "MOST_SLOTS" = some (.int 4 t4)) (m_len : mg "len" = none) : FnOk P w K mg base (L2N.CX P w) 2 f fd ["self", "hand", "slots"] (spMake C EC) := by
  refine okN F scHeapMake (fun vs H Q E h => ?_) (fun cdv A outer s H vs Q E hr h => ?_)
  · obtain ⟨p, F, S, h, n, rfl, _⟩ := h
    rfl
  · obtain ⟨p, F, S, h, n, rfl, ⟨A, hA, rfl, G⟩, q⟩ := h
    have hu := hu_of hr
    refine ⟨_, (pss_cons (ps_expr (pe_meth (pv 0) D__need_hand.c D__need_hand.m D__need_hand.g (hr.mono (by decide)) D__need_hand.b .nil (L2N.passes_call (L2N.takes_of rfl rfl rfl rfl) (fun _ _ _ _ h => h)) (pa_cons (pv 1) pa_nil)))
      (pss_cons (ps_if (pt_not (pt_chain op_le op_le pe_int (pv 2) (pe_glob (v := .int 4) (by rfl) m_MOST_SLOTS ⟨_, rfl⟩))) (pss_one (L2N.ps_raise rfl (L2N.takes_of rfl rfl rfl rfl) (L2N.pmk_own PySem.F.excBase_ValueError T_NoSlot.xP T_NoSlot.gP T_NoSlot.kP (raises_own T_NoSlot.bP T_NoSlot.tP) rfl))) pss_nil)
      (pss_cons (ps_if (pt_cmpR op_ge (pe_callB call_lenD (by rfl) m_len (by decide +kernel) (pa_cons (peFld (K := K) (pv 0) rfl) pa_nil)) (peFld (K := K) (pv 0) rfl) (nomark _)) (pss_one (L2N.ps_raise rfl (L2N.takes_of rfl rfl rfl rfl) (L2N.pmk_own PySem.F.excBase_ValueError T_NoRoom.xP T_NoRoom.gP T_NoRoom.kP (raises_own T_NoRoom.bP T_NoRoom.tP) rfl))) pss_nil)
      (pss_cons (ps_set (i := 3) scHeapMake.nd rfl (.inl rfl) (peFld (K := K) (pv 0) rfl))
      (pss_cons (ps_fldaug (pv 0) pe_int in_add)
      (pss_cons (ps_dput hu (peFld (K := K) (pv 0) rfl) (pv 3) (pe_op op_rep (pe_lst (pa_cons pe_non pa_nil)) (pv 2)) rfl)
      (pss_cons (ps_asg (pv 3) (pg_sub (peFld (K := K) (pv 0) rfl) (pv 1) set_list))
      (pss_one (ps_ret (pv 3)))))))))), ?_⟩
    refine ⟨_, rfl, p, A.dx, _, rfl, hA.ob, rfl, _, rfl, p, A, raw S, h, rfl, hA, G.hn.2, ?_⟩
    by_cases c : okHand S h
    · rw [if_pos c] at q
      refine (if_pos c).mpr ?_
      by_cases c2 : 0 ≤ n ∧ n ≤ 4
      · rw [if_pos c2] at q
        refine ⟨_, rfl, _, _, rfl, rfl, _, rfl, ?_⟩
        rw [decide_eq_true c2.1]
        refine iteT ⟨_, _, rfl, rfl, _, rfl, iteNS c2.2 ?_⟩
        refine ⟨_, rfl, p, C, _, _, _, rfl, hA.ob, T.cl, T.n_rows, rfl, A.f .rows, _, rfl, hA.rows, _, rfl, p, C, _, _, _, rfl, hA.ob, T.cl, T.n_room, rfl, _, _, rfl, rfl, _, rfl, ?_⟩
        have el : (dRows A (raw S)).length = S.keys.length := by unfold dRows; rw [List.length_map]; rfl
        by_cases c3 : S.keys.length < S.room
        · rw [if_pos c3] at q
          rw [decide_eq_false (by rw [el]; show ¬ ((S.keys.length : Int) ≥ (S.room : Int)); omega)]
          refine iteF ?_
          refine ⟨_, rfl, p, C, _, _, _, rfl, hA.ob, T.cl, T.n_made, rfl, ?_⟩
          refine ⟨_, rfl, p, C, _, _, _, rfl, hA.ob, T.cl, T.n_made, rfl, _, _, rfl, rfl, A.dx, _, hA.ob, by show 9 < 1000; decide, ?_⟩
          have a1 := hA.fMade (S.rows.length + 1)
          have f1 := (Frm.refl H (foot A (raw S))).put (o := .ins C A.dx (putF "_made" (.int ((S.rows.length + 1 : Nat) : Int)) (flds A (raw S)))) hA.foot_p
          have e1 : ((raw S).made : Int) + 1 = ((S.rows.length + 1 : Nat) : Int) := rfl
          rw [e1]
          generalize upd H p _ = H1 at a1 f1
          refine ⟨by show 1 ≤ sizeLine; decide, fun t nt => ?_⟩
          have a2 := a1.same (same_new (o := .lst [.non]) nt)
          have f2 := f1.same (same_new (o := .lst [.non]) nt)
          refine ⟨_, rfl, t, n, _, rfl, rfl, upd_same, by omega, by omega, by show 1 * n.toNat ≤ sizeLine; exact Nat.le_of_lt (size_of (by omega)), fun qr nr => ?_⟩
          generalize upd H1 t _ = H2 at a2 f2 nr
          have nqH : H qr = none := f2.free nr (a2.fresh nr)
          have a3 := a2.same (same_new (o := .lst (List.replicate n.toNat [V.non]).flatten) nr)
          have f3 := f2.same (same_new (o := .lst (List.replicate n.toNat [V.non]).flatten) nr)
          have hq : (upd H2 qr (.lst (List.replicate n.toNat [V.non]).flatten)) qr = some (.lst ((List.replicate n.toNat (none : Option Nat)).map optV)) := by rw [upd_same, rep_none]
          have nf : ¬ foot A (raw S) qr := a2.fresh nr
          generalize upd H2 qr _ = H3 at a3 f3 hq
          have nk : S.rows.length ∉ S.keys := fun z => Nat.lt_irrefl _ (G.lt _ z)
          refine ⟨_, rfl, p, C, _, _, _, rfl, a3.ob, T.cl, T.n_rows, rfl, _, rfl, A.f .rows, _, rfl, DPut.k (k := kK S.rows.length) a3.rows (size_of (by unfold dRows; rw [List.length_map]; exact Nat.le_trans G.keysn (by decide))), ?_⟩
          rw [putK_new _ (by rw [valV_rows]; exact if_neg nk)]
          have a4 := a3.addRow (k := S.rows.length) hq nf nk
          have f4 := ((f3.put (o := .dK (dRows A { raw S with made := S.rows.length + 1 } ++ [(kK S.rows.length, V.ref qr)])) (hA.foot_on (s := .rows) trivial)).grow nqH fun b z => foot_mv (R := raw S) (s := .row S.rows.length) (q := qr) (R' := { raw S with made := S.rows.length + 1, keys := S.keys ++ [S.rows.length], row := fun j => if j = S.rows.length then List.replicate n.toNat none else (raw S).row j }) (fun k hk => (List.mem_append.mp hk).imp id fun y => by rw [List.mem_singleton.mp y]) z)
          generalize upd H3 (A.f .rows) _ = H4 at a4 f4
          generalize A.mv (.row S.rows.length) qr = A' at a4 f4
          have hlen : h.toNat < S.hands.length := by have := c.2; have := c.1; omega
          have hix : ixN (S.hands.map optV).length h = some h.toNat := by
            have := ixN_nat (n := (S.hands.map optV).length) (j := h.toNat) (by rw [List.length_map]; exact hlen)
            rw [← this]
            congr 1
            have := c.1; omega
          refine ⟨_, rfl, _, rfl, p, C, _, _, _, rfl, a4.ob, T.cl, T.n_hands, rfl, _, rfl, A'.f .hands, _, _, h.toNat, rfl, rfl, a4.hands, hix, ?_⟩
          have es : (S.hands.map optV).set h.toNat (.int ((S.rows.length : Nat) : Int)) = (S.hands.set h.toNat (some S.rows.length)).map optV := set_opt _ _ (some _)
          have a5 := a4.pHands (S.hands.set h.toNat (some S.rows.length))
          have f5 := f4.put (o := .lst ((S.hands.set h.toNat (some S.rows.length)).map optV)) (a4.foot_on (s := .hands) trivial)
          refine ⟨_, rfl, q _ (foot A' (raw (S.make h.toNat n.toNat))) ⟨A', ?_, rfl, G.make (by omega) c3⟩ ?_⟩
          · rw [raw_make]
            dsimp only [raw]
            rw [es]
            exact a5
          · rw [raw_make]
            dsimp only [raw]
            rw [es]
            exact f5
        · rw [if_neg c3] at q
          rw [decide_eq_true (by rw [el]; show (S.keys.length : Int) ≥ (S.room : Int); omega)]
          exact iteT q
      · rw [if_neg c2] at q
        refine ⟨_, rfl, _, _, rfl, rfl, _, rfl, ite2 (fun e => ?_) (fun e => ?_)⟩
        · exact ⟨_, _, rfl, rfl, _, rfl, iteNT (fun z => c2 ⟨of_decide_eq_true e, z⟩) q⟩
        · exact ⟨_, rfl, iteT q⟩
    · rw [if_neg c] at q
      exact (if_neg c).mpr q
theorem ok_share {f fN : Addr} {fd fdN : FuncData} (F : Fun K "share" "Heap.share" sHeapShare f fd) (T : HeapTxt K mg C) (D__need_hand : Dm P w K mg base (L2N.CX P w) 1 C "_need_hand" fN fdN ["self", "hand"] (spNeed C EC)) : FnOk P w K mg base (L2N.CX P w) 2 f fd ["self", "hand", "other"] (spShare C EC) := by
  refine okN F scHeapShare (fun vs H Q E h => ?_) (fun cdv A outer s H vs Q E hr h => ?_)
  · obtain ⟨p, F, S, h, o, rfl, _⟩ := h
    rfl
  · obtain ⟨p, F, S, h, o, rfl, ⟨A, hA, rfl, G⟩, q⟩ := h
    refine ⟨_, (pss_cons (ps_expr (pe_meth (pv 0) D__need_hand.c D__need_hand.m D__need_hand.g (hr.mono (by decide)) D__need_hand.b .nil (L2N.passes_call (L2N.takes_of rfl rfl rfl rfl) (fun _ _ _ _ h => h)) (pa_cons (pv 1) pa_nil)))
      (pss_cons (ps_expr (pe_meth (pv 0) D__need_hand.c D__need_hand.m D__need_hand.g (hr.mono (by decide)) D__need_hand.b .nil (L2N.passes_call (L2N.takes_of rfl rfl rfl rfl) (fun _ _ _ _ h => h)) (pa_cons (pv 2) pa_nil)))
      (pss_one (ps_asg (pe_ix (ixL (K := K)) (peFld (K := K) (pv 0) rfl) (pv 2) (fun _ _ => rfl)) (pg_sub (peFld (K := K) (pv 0) rfl) (pv 1) set_list))))), ?_⟩
    refine ⟨_, rfl, p, A.dx, _, rfl, hA.ob, rfl, _, rfl, p, A, raw S, h, rfl, hA, G.hn.2, ?_⟩
    by_cases c1 : okHand S h
    · refine (if_pos c1).mpr ⟨_, rfl, p, A.dx, _, rfl, hA.ob, rfl, _, rfl, p, A, raw S, o, rfl, hA, G.hn.2, ?_⟩
      by_cases c2 : okHand S o
      · rw [if_pos ⟨c1, c2⟩] at q
        refine (if_pos c2).mpr ?_
        refine ⟨_, rfl, p, C, _, _, _, rfl, hA.ob, T.cl, T.n_hands, rfl, _, rfl, A.f .hands, _, _, optV (S.hand o.toNat), rfl, rfl, SqL.of hA.hands, c2.at_, ?_⟩
        refine ⟨_, rfl, p, C, _, _, _, rfl, hA.ob, T.cl, T.n_hands, rfl, _, rfl, A.f .hands, _, _, h.toNat, rfl, rfl, hA.hands, c1.ix, ?_⟩
        obtain ⟨a, b⟩ := hA.setHand (h := h.toNat) (x := S.hand o.toNat) G.share
        exact q _ _ a b
      · rw [if_neg fun z => c2 z.2] at q
        exact (if_neg c2).mpr q
    · rw [if_neg fun z => c1 z.1] at q
      exact (if_neg c1).mpr q
theorem ok_drop {f fN : Addr} {fd fdN : FuncData} (F : Fun K "drop" "Heap.drop" sHeapDrop f fd) (T : HeapTxt K mg C) (D__need_hand : Dm P w K mg base (L2N.CX P w) 1 C "_need_hand" fN fdN ["self", "hand"] (spNeed C EC)) : FnOk P w K mg base (L2N.CX P w) 2 f fd ["self", "hand"] (spDrop C EC) := by
  refine okN F scHeapDrop (fun vs H Q E h => ?_) (fun cdv A outer s H vs Q E hr h => ?_)
  · obtain ⟨p, F, S, h, rfl, _⟩ := h
    rfl
  · obtain ⟨p, F, S, h, rfl, ⟨A, hA, rfl, G⟩, q⟩ := h
    refine ⟨_, (pss_cons (ps_expr (pe_meth (pv 0) D__need_hand.c D__need_hand.m D__need_hand.g (hr.mono (by decide)) D__need_hand.b .nil (L2N.passes_call (L2N.takes_of rfl rfl rfl rfl) (fun _ _ _ _ h => h)) (pa_cons (pv 1) pa_nil)))
      (pss_one (ps_asg pe_non (pg_sub (peFld (K := K) (pv 0) rfl) (pv 1) set_list)))), ?_⟩
    refine ⟨_, rfl, p, A.dx, _, rfl, hA.ob, rfl, _, rfl, p, A, raw S, h, rfl, hA, G.hn.2, ?_⟩
    by_cases c1 : okHand S h
    · rw [if_pos c1] at q
      refine (if_pos c1).mpr ?_
      refine ⟨_, rfl, p, C, _, _, _, rfl, hA.ob, T.cl, T.n_hands, rfl, _, rfl, A.f .hands, _, _, h.toNat, rfl, rfl, hA.hands, c1.ix, ?_⟩
      obtain ⟨a, b⟩ := hA.setHand (h := h.toNat) (x := none) G.drop
      exact q _ _ a b
    · rw [if_neg c1] at q
      exact (if_neg c1).mpr q
theorem ok_held {f fN : Addr} {fd fdN : FuncData} (F : Fun K "held" "Heap.held" sHeapHeld f fd) (T : HeapTxt K mg C) (D__need_hand : Dm P w K mg base (L2N.CX P w) 1 C "_need_hand" fN fdN ["self", "hand"] (spNeed C EC)) : FnOk P w K mg base (L2N.CX P w) 2 f fd ["self", "hand"] (spHeld C EC) := by
  refine okN F scHeapHeld (fun vs H Q E h => ?_) (fun cdv A outer s H vs Q E hr h => ?_)
  · obtain ⟨p, F, S, h, rfl, _⟩ := h
    rfl
  · obtain ⟨p, F, S, h, rfl, ⟨A, hA, rfl, G⟩, q⟩ := h
    refine ⟨_, (pss_cons (ps_expr (pe_meth (pv 0) D__need_hand.c D__need_hand.m D__need_hand.g (hr.mono (by decide)) D__need_hand.b .nil (L2N.passes_call (L2N.takes_of rfl rfl rfl rfl) (fun _ _ _ _ h => h)) (pa_cons (pv 1) pa_nil)))
      (pss_one (ps_ret (pe_ix (ixL (K := K)) (peFld (K := K) (pv 0) rfl) (pv 1) (fun _ _ => rfl))))), ?_⟩
    refine ⟨_, rfl, p, A.dx, _, rfl, hA.ob, rfl, _, rfl, p, A, raw S, h, rfl, hA, G.hn.2, ?_⟩
    by_cases c1 : okHand S h
    · rw [if_pos c1] at q
      refine (if_pos c1).mpr ?_
      exact ⟨_, rfl, p, C, _, _, _, rfl, hA.ob, T.cl, T.n_hands, rfl, _, rfl, A.f .hands, _, _, optV (S.hand h.toNat), rfl, rfl, SqL.of hA.hands, c1.at_, q⟩
    · rw [if_neg c1] at q
      exact (if_neg c1).mpr q
theorem ok_take {f fN fR : Addr} {fd fdN fdR : FuncData} (F : Fun K "take" "Heap.take" sHeapTake f fd) (T : HeapTxt K mg C) (D__need_hand : Dm P w K mg base (L2N.CX P w) 1 C "_need_hand" fN fdN ["self", "hand"] (spNeed C EC))
    (D__row_with : Dm P w K mg base (L2N.CX P w) 1 C "_row_with" fR fdR ["self", "hand", "slot"] (spRow C EC)) : FnOk P w K mg base (L2N.CX P w) 2 f fd ["self", "hand", "other", "slot"] (spTake C EC) := by
  refine okN F scHeapTake (fun vs H Q E h => ?_) (fun cdv A outer s H vs Q E hr h => ?_)
  · obtain ⟨p, F, S, h, o, s, rfl, _⟩ := h
    rfl
  · obtain ⟨p, F, S, h, o, s, rfl, ⟨A, hA, rfl, G⟩, q⟩ := h
    refine ⟨_, (pss_cons (ps_expr (pe_meth (pv 0) D__need_hand.c D__need_hand.m D__need_hand.g (hr.mono (by decide)) D__need_hand.b .nil (L2N.passes_call (L2N.takes_of rfl rfl rfl rfl) (fun _ _ _ _ h => h)) (pa_cons (pv 1) pa_nil)))
      (pss_cons (ps_expr (pe_meth (pv 0) D__need_hand.c D__need_hand.m D__need_hand.g (hr.mono (by decide)) D__need_hand.b .nil (L2N.passes_call (L2N.takes_of rfl rfl rfl rfl) (fun _ _ _ _ h => h)) (pa_cons (pv 2) pa_nil)))
      (pss_cons (ps_set (i := 4) scHeapTake.nd rfl (.inl rfl) (pe_meth (pv 0) D__row_with.c D__row_with.m D__row_with.g (hr.mono (by decide)) D__row_with.b .nil (L2N.passes_call (L2N.takes_of rfl rfl rfl rfl) (fun _ _ _ _ h => h)) (pa_cons (pv 2) (pa_cons (pv 3) pa_nil))))
      (pss_one (ps_asg (pe_ix (ixL (K := K)) (pv 4) (pv 3) (fun _ _ => rfl)) (pg_sub (peFld (K := K) (pv 0) rfl) (pv 1) set_list)))))), ?_⟩
    refine ⟨_, rfl, p, A.dx, _, rfl, hA.ob, rfl, _, rfl, p, A, raw S, h, rfl, hA, G.hn.2, ?_⟩
    by_cases c1 : okHand S h
    · refine (if_pos c1).mpr ⟨_, rfl, p, A.dx, _, rfl, hA.ob, rfl, _, rfl, p, A, raw S, o, rfl, hA, G.hn.2, ?_⟩
      by_cases c2 : okHand S o
      · rw [if_pos ⟨c1, c2⟩] at q
        obtain ⟨on, rfl⟩ := Int.eq_ofNat_of_zero_le c2.1
        have hon : on < S.hands.length := by have := c2.2; omega
        refine (if_pos c2).mpr ⟨_, rfl, p, A.dx, _, rfl, hA.ob, rfl, _, rfl, _, rfl, p, A, raw S, on, s, rfl, hA, G.hn.2, hon, ?_⟩
        have e0 : (raw S).hands.getD on none = S.hand on := rfl
        rw [Int.toNat_natCast] at q
        rw [e0]
        cases e : S.hand on with
        | none => rw [e] at q; exact q
        | some k =>
          rw [e] at q
          have lk := G.handLive e
          refine ⟨lk.1, G.row4 k, ?_⟩
          by_cases c3 : 0 ≤ s ∧ s < (S.row k).length
          · replace q := (if_pos c3).mp q
            obtain ⟨sn, rfl⟩ := Int.eq_ofNat_of_zero_le c3.1
            refine (if_pos c3).mpr ?_
            refine ⟨_, rfl, _, rfl, A.f (.row k), _, _, optV (S.slot k sn), rfl, rfl, SqL.of (hA.row (k := k) lk.1), atI_opt (l := S.row k) (by have := c3.2; omega), ?_⟩
            refine ⟨_, rfl, p, C, _, _, _, rfl, hA.ob, T.cl, T.n_hands, rfl, _, rfl, A.f .hands, _, _, h.toNat, rfl, rfl, hA.hands, c1.ix, ?_⟩
            rw [Int.toNat_natCast] at q
            obtain ⟨a, b⟩ := hA.setHand (h := h.toNat) (x := S.slot k sn) (G.take lk)
            exact q _ _ a b
          · replace q := (if_neg c3).mp q
            exact (if_neg c3).mpr q
      · rw [if_neg fun z => c2 z.2] at q
        exact (if_neg c2).mpr q
    · rw [if_neg fun z => c1 z.1] at q
      exact (if_neg c1).mpr q
theorem ok_put {f fN fR fP fM : Addr} {fd fdN fdR fdP fdM : FuncData} (F : Fun K "put" "Heap.put" sHeapPut f fd) (T : HeapTxt K mg C) (D__need_hand : Dm P w K mg base (L2N.CX P w) 1 C "_need_hand" fN fdN ["self", "hand"] (spNeed C EC))
    (D__row_with : Dm P w K mg base (L2N.CX P w) 1 C "_row_with" fR fdR ["self", "hand", "slot"] (spRow C EC)) (D_phase : Dm P w K mg base CX0 1 C "phase" fP fdP ["self"] (spPhase C)) (D__mark : Dm P w K mg base CX0 1 C "_mark" fM fdM ["self", "box"] (spMark C)) : FnOk P w K mg base (L2N.CX P w) 2 f fd ["self", "hand", "slot", "other"] (spPut C EC) := by
  refine okN F scHeapPut (fun vs H Q E h => ?_) (fun cdv A outer s H vs Q E hr h => ?_)
  · obtain ⟨p, F, S, h, s, o, rfl, _⟩ := h
    rfl
  · obtain ⟨p, F, S, h, s, o, rfl, ⟨A, hA, rfl, G⟩, q⟩ := h
    refine ⟨_, (pss_cons (ps_expr (pe_meth (pv 0) D__need_hand.c D__need_hand.m D__need_hand.g (hr.mono (by decide)) D__need_hand.b .nil (L2N.passes_call (L2N.takes_of rfl rfl rfl rfl) (fun _ _ _ _ h => h)) (pa_cons (pv 1) pa_nil)))
      (pss_cons (ps_expr (pe_meth (pv 0) D__need_hand.c D__need_hand.m D__need_hand.g (hr.mono (by decide)) D__need_hand.b .nil (L2N.passes_call (L2N.takes_of rfl rfl rfl rfl) (fun _ _ _ _ h => h)) (pa_cons (pv 3) pa_nil)))
      (pss_cons (ps_set (i := 4) scHeapPut.nd rfl (.inl rfl) (pe_meth (pv 0) D__row_with.c D__row_with.m D__row_with.g (hr.mono (by decide)) D__row_with.b .nil (L2N.passes_call (L2N.takes_of rfl rfl rfl rfl) (fun _ _ _ _ h => h)) (pa_cons (pv 1) (pa_cons (pv 2) pa_nil))))
      (pss_cons (ps_if (pt_cmpR op_eq (pe_meth0 (pv 0) D_phase.c D_phase.m D_phase.g (hr.mono (by decide)) D_phase.b .nil pass0) pe_str (nomark _)) (pss_one (ps_expr (pe_meth (pv 0) D__mark.c D__mark.m D__mark.g (hr.mono (by decide)) D__mark.b .nil pass0 (pa_cons (pe_ix (ixL (K := K)) (pv 4) (pv 2) (fun _ _ => rfl)) pa_nil)))) pss_nil)
      (pss_one (ps_asg (pe_ix (ixL (K := K)) (peFld (K := K) (pv 0) rfl) (pv 3) (fun _ _ => rfl)) (pg_sub (pv 4) (pv 2) set_list))))))), ?_⟩
    refine ⟨_, rfl, p, A.dx, _, rfl, hA.ob, rfl, _, rfl, p, A, raw S, h, rfl, hA, G.hn.2, ?_⟩
    by_cases c1 : okHand S h
    · refine (if_pos c1).mpr ⟨_, rfl, p, A.dx, _, rfl, hA.ob, rfl, _, rfl, p, A, raw S, o, rfl, hA, G.hn.2, ?_⟩
      by_cases c2 : okHand S o
      · rw [if_pos ⟨c1, c2⟩] at q
        obtain ⟨hn, rfl⟩ := Int.eq_ofNat_of_zero_le c1.1
        have hon : hn < S.hands.length := by have := c1.2; omega
        refine (if_pos c2).mpr ⟨_, rfl, p, A.dx, _, rfl, hA.ob, rfl, _, rfl, _, rfl, p, A, raw S, hn, s, rfl, hA, G.hn.2, hon, ?_⟩
        have e0 : (raw S).hands.getD hn none = S.hand hn := rfl
        rw [Int.toNat_natCast] at q
        rw [e0]
        cases e : S.hand hn with
        | none => rw [e] at q; exact q
        | some k =>
          rw [e] at q
          have lk := G.handLive e
          refine ⟨lk.1, G.row4 k, ?_⟩
          by_cases c3 : 0 ≤ s ∧ s < (S.row k).length
          · replace q := (if_pos c3).mp q
            obtain ⟨sn, rfl⟩ := Int.eq_ofNat_of_zero_le c3.1
            refine (if_pos c3).mpr ?_
            have hsn : sn < (S.row k).length := by have := c3.2; omega
            rw [Int.toNat_natCast] at q
            refine ⟨_, rfl, p, A.dx, _, rfl, hA.ob, rfl, p, A, raw S, rfl, hA, Nat.le_trans G.linen (by decide), Nat.le_trans G.unswn (by decide), rfl, _, rfl, ?_⟩
            -- the store itself, behind the marking
            have fin : ∀ (S1 : HS) (H1 : Hp), HAt C H1 p A (raw S1) → Frm H (foot A (raw S)) H1 (foot A (raw S1)) → S1.hands = S.hands → S1.rows = S.rows → S1.keys = S.keys → S.put k sn o.toNat = S1.write k sn (S.hand o.toNat) →
                HAt C (upd H1 (A.f (.row k)) (.lst (((S.row k).map optV).set sn (optV (S.hand o.toNat))))) p A (raw (S.put k sn o.toNat)) ∧ Frm H (foot A (raw S)) (upd H1 (A.f (.row k)) (.lst (((S.row k).map optV).set sn (optV (S.hand o.toNat))))) (foot A (raw (S.put k sn o.toNat))) := fun S1 H1 a f e1 e2 e3 e4 => by
              have er : S1.row k = S.row k := by show rowOf S1.rows k = _; rw [e2]
              have hk1 : k ∈ (raw S1).keys := by show k ∈ S1.keys; rw [e3]; exact lk.1
              rw [e4, raw_write _ (by rw [e2]; exact G.lt k lk.1), set_opt, er]
              exact ⟨a.pRow hk1 _, f.put (a.foot_on (s := .row k) hk1)⟩
            by_cases hL : S.line = []
            · have e5 : S.put k sn o.toNat = S.write k sn (S.hand o.toNat) := by unfold HS.put; rw [if_pos hL]
              refine ite2 (fun z => ?_) (fun _ => ?_)
              · rw [show (raw S).line = [] from hL, if_pos rfl] at z
                exfalso
                split at z <;> exact absurd z (by decide)
              obtain ⟨a, b⟩ := fin S H hA (Frm.refl _ _) rfl rfl rfl e5
              refine ⟨_, rfl, p, C, _, _, _, rfl, hA.ob, T.cl, T.n_hands, rfl, _, rfl, A.f .hands, _, _, optV (S.hand o.toNat), rfl, rfl, SqL.of hA.hands, c2.at_, ?_⟩
              refine ⟨_, rfl, _, rfl, A.f (.row k), _, _, sn, rfl, rfl, hA.row (k := k) lk.1, ixN_nat (by rw [List.length_map]; exact hsn), ?_⟩
              exact q _ _ ⟨A, a, rfl, G.put lk⟩ b
            · have e5 : S.put k sn o.toNat = (S.markO (S.slot k sn)).write k sn (S.hand o.toNat) := by unfold HS.put; rw [if_neg hL]
              refine ite2 (fun _ => ?_) (fun z => ?_)
              rotate_left
              · rw [show (if (raw S).line = [] then (if (raw S).unsw = [] then "idle" else "sweeping") else "marking") = "marking" from if_neg hL] at z
                exact absurd (decide_eq_true rfl) z
              refine ⟨_, rfl, p, A.dx, _, rfl, hA.ob, rfl, _, rfl, _, rfl, A.f (.row k), _, _, optV (S.slot k sn), rfl, rfl, SqL.of (hA.row (k := k) lk.1), atI_opt (l := S.row k) hsn, ?_⟩
              refine ⟨p, A, raw S, S.slot k sn, rfl, hA, Nat.le_trans G.marksn (by decide), Nat.le_trans G.linen (by decide), fun H1 a1 f1 => ?_⟩
              obtain ⟨m1, m2, m3, m4, m5, m6, m7, m8⟩ := markO_fields S (S.slot k sn)
              rw [← raw_markO] at a1 f1
              obtain ⟨a, b⟩ := fin _ H1 a1 f1 m1 m2 m3 e5
              have hh : H1 (A.f .hands) = some (.lst (S.hands.map optV)) := by rw [← m1]; exact a1.hands
              refine ⟨_, rfl, p, C, _, _, _, rfl, a1.ob, T.cl, T.n_hands, rfl, _, rfl, A.f .hands, _, _, optV (S.hand o.toNat), rfl, rfl, SqL.of hh, c2.at_, ?_⟩
              have hrow : H1 (A.f (.row k)) = some (.lst ((S.row k).map optV)) := by
                have := a1.row (k := k) (by show k ∈ (S.markO _).keys; rw [m3]; exact lk.1)
                rw [show (raw (S.markO (S.slot k sn))).row k = S.row k by show rowOf (S.markO (S.slot k sn)).rows k = _; rw [m2]] at this
                exact this
              refine ⟨_, rfl, _, rfl, A.f (.row k), _, _, sn, rfl, rfl, hrow, ixN_nat (by rw [List.length_map]; exact hsn), ?_⟩
              exact q _ _ ⟨A, a, rfl, G.put lk⟩ b
          · replace q := (if_neg c3).mp q
            exact (if_neg c3).mpr q
      · rw [if_neg fun z => c2 z.2] at q
        exact (if_neg c2).mpr q
    · rw [if_neg fun z => c1 z.1] at q
      exact (if_neg c1).mpr q
end
end MK

set_option Elab.async false
set_option linter.all false
set_option pp.maxSteps 700
set_option maxRecDepth 100000
set_option maxHeartbeats 4000000
namespace MK
open PySem PySem.Spec PyProof.Rows L2 MM KG MP
section
variable {P : Program} {w : World} {K : PySem.W.Frag} {mg : Str → Option Value} {base : Heap} {C : Addr} {EC : ECs}
theorem ok_look {f : Addr} {fd : FuncData} (F : Fun K "look" "Heap.look" sHeapLook f fd) (T : HeapTxt K mg C) (T_NoBox : ExC K mg "NoBox" EC.noBox) (m_list : mg "list" = none) : FnOk P w K mg base (L2N.CX P w) 1 f fd ["self", "box"] (spLook C EC) := by
  refine okN F scHeapLook (fun vs H Q E h => ?_) (fun cdv A outer s H vs Q E hr h => ?_)
  · obtain ⟨p, F, S, b, rfl, _⟩ := h
    rfl
  · obtain ⟨p, F, S, b, rfl, ⟨A, hA, rfl, G⟩, q⟩ := h
    have hu := hu_of hr
    refine ⟨_, (pss_cons (ps_if (pt_cmp (pc_dnotin hu (pv 1) (peFld (K := K) (pv 0) rfl))) (pss_one (L2N.ps_raise rfl (L2N.takes_of rfl rfl rfl rfl) (L2N.pmk_own PySem.F.excBase_ValueError T_NoBox.xP T_NoBox.gP T_NoBox.kP (raises_own T_NoBox.bP T_NoBox.tP) rfl))) pss_nil)
      (pss_one (ps_ret (pe_callTy (listOf (K := K)) (by rfl) m_list (by decide +kernel) (pa_cons (pe_dget hu (peFld (K := K) (pv 0) rfl) (pv 1) (fun _ _ => rfl)) pa_nil))))), ?_⟩
    refine ⟨_, rfl, _, rfl, p, C, _, _, _, rfl, hA.ob, T.cl, T.n_rows, rfl, A.f .rows, _, rfl, DGet.k (k := Sum.inl b) hA.rows, ?_⟩
    by_cases c : 0 ≤ b ∧ b.toNat ∈ S.keys
    · replace q := (if_pos c).mp q
      obtain ⟨bn, rfl⟩ := Int.eq_ofNat_of_zero_le c.1
      rw [Int.toNat_natCast] at q
      have hk : bn ∈ (raw S).keys := c.2
      rw [show valV (dRows A (raw S)) (Sum.inl (bn : Int)) = some (.ref (A.f (.row bn))) from (valV_rows bn).trans (if_pos hk)]
      refine ⟨_, rfl, iteF ?_⟩
      exact ⟨_, rfl, p, C, _, _, _, rfl, hA.ob, T.cl, T.n_rows, rfl, _, rfl, A.f .rows, _, rfl, dget_row hA hk, A.f (.row bn), _, rfl, .inl (SqL.of (hA.row hk)), q⟩
    · replace q := (if_neg c).mp q
      rw [show valV (dRows A (raw S)) (Sum.inl b) = none from valV_map_no _ fun k hk e => c ⟨by omega, by rw [← e, Int.toNat_natCast]; exact hk⟩]
      exact ⟨_, rfl, iteT q⟩
theorem sorted_nats {ys : List Int} {ks : List Nat} (h : ks.Nodup) (p : ys.Perm (ks.map Int.ofNat)) (s : ys.Pairwise (· ≤ ·)) : ys.Pairwise (· < ·) ∧ ∀ k : Int, k ∈ ys ↔ ∃ j ∈ ks, k = (j : Int) := by
  have nd : ys.Nodup := p.nodup_iff.mpr (List.Pairwise.map _ (fun a b e z => e (Int.ofNat.inj z)) h)
  refine ⟨(List.pairwise_and_iff.mpr ⟨s, nd⟩).imp fun ⟨a, b⟩ => by omega, fun k => ?_⟩
  rw [p.mem_iff, List.mem_map]
  exact ⟨fun ⟨j, a, b⟩ => ⟨j, a, b.symm⟩, fun ⟨j, a, b⟩ => ⟨j, a, b.symm⟩⟩
theorem rising_ints : ∀ (l m : List Int), l.Pairwise (· < ·) → m.Pairwise (· < ·) → (∀ k, k ∈ l ↔ k ∈ m) → l = m
  | [], [], _, _, _ => rfl
  | [], b :: m, _, _, h => absurd ((h b).mpr List.mem_cons_self) (by simp)
  | a :: l, [], _, _, h => absurd ((h a).mp List.mem_cons_self) (by simp)
  | a :: l, b :: m, hl, hm, h => by
    obtain ⟨h1, h2⟩ := List.pairwise_cons.mp hl
    obtain ⟨h3, h4⟩ := List.pairwise_cons.mp hm
    have e : a = b := by
      rcases List.mem_cons.mp ((h a).mp List.mem_cons_self) with e | e
      · exact e
      · rcases List.mem_cons.mp ((h b).mpr List.mem_cons_self) with e2 | e2
        · exact e2.symm
        · have x := h1 b e2
          have y := h3 a e
          omega
    subst e
    have e2 : l = m := rising_ints l m h2 h4 fun k => by
      have q := h k
      rw [List.mem_cons, List.mem_cons] at q
      constructor
      · intro hk
        rcases q.mp (.inr hk) with z | z
        · have := h1 k hk
          omega
        · exact z
      · intro hk
        rcases q.mpr (.inr hk) with z | z
        · have := h3 k hk
          omega
        · exact z
    rw [e2]
/-- the sorted keys are the rising list of the same members -/
theorem sorted_is {ys : List Int} {ks rs : List Nat} (h : ks.Nodup) (p : ys.Perm (ks.map Int.ofNat)) (s : ys.Pairwise (· ≤ ·)) (hr : rs.Pairwise (· < ·)) (hm : ∀ k, k ∈ rs ↔ k ∈ ks) : ys.map V.int = rs.map nV := by
  obtain ⟨a, b⟩ := sorted_nats h p s
  have : ys = rs.map Int.ofNat := rising_ints _ _ a (List.pairwise_map.mpr (hr.imp fun h => Int.ofNat_lt.mpr h)) fun k => by
    rw [b, List.mem_map]
    exact ⟨fun ⟨j, c, d⟩ => ⟨j, (hm j).mpr c, d.symm⟩, fun ⟨j, c, d⟩ => ⟨j, (hm j).mp c, d.symm⟩⟩
  rw [this, List.map_map]
  rfl
theorem ok_boxes {f : Addr} {fd : FuncData} (F : Fun K "boxes" "Heap.boxes" sHeapBoxes f fd) (T : HeapTxt K mg C) (m_sorted : mg "sorted" = none) : FnOk P w K mg base CX0 1 f fd ["self"] (spList C HS.keys) := by
  refine F.ok scHeapBoxes (fun vs H Q E h => ?_) (fun cdv A outer s H vs Q E hr h => ?_)
  · obtain ⟨p, F, S, rfl, _⟩ := h
    rfl
  · obtain ⟨p, F, S, rfl, ⟨A, hA, rfl, G⟩, q⟩ := h
    refine ⟨_, (pss_one (ps_ret (pe_callB (KS.cr_sortedD rfl) (by rfl) m_sorted (by decide +kernel) (pa_cons (peFld (K := K) (pv 0) rfl) pa_nil)))), ?_⟩
    refine ⟨_, rfl, p, C, _, _, _, rfl, hA.ob, T.cl, T.n_rows, rfl, A.f .rows, _, S.keys.map Int.ofNat, rfl, .inl hA.rows, ?_, fun ys l pm so nl => ?_⟩
    · unfold dRows; rw [List.map_map, List.map_map]; rfl
    · have := q l nl
      rw [← sorted_is (rising_nodup G.rise) pm so G.rise (fun _ => Iff.rfl)] at this
      exact this
/-- the marked ones, rising -/
def sortN (l : List Nat) : List Nat := l.mergeSort (fun a b => decide (a ≤ b))
theorem sortN_rise {l : List Nat} (h : l.Nodup) : (sortN l).Pairwise (· < ·) := by
  have s : (sortN l).Pairwise (fun a b => decide (a ≤ b) = true) := List.pairwise_mergeSort (fun a b c h1 h2 => by simp only [decide_eq_true_eq] at *; omega) (fun a b => by simp only [Bool.or_eq_true, decide_eq_true_eq]; omega) l
  have nd : (sortN l).Nodup := (List.mergeSort_perm l _).nodup_iff.mpr h
  refine (List.pairwise_and_iff.mpr ⟨s, nd⟩).imp fun ⟨a, b⟩ => ?_
  simp only [decide_eq_true_eq] at a
  omega
theorem mem_sortN {l : List Nat} {k : Nat} : k ∈ sortN l ↔ k ∈ l := (List.mergeSort_perm l _).mem_iff
theorem ok_marked {f : Addr} {fd : FuncData} (F : Fun K "marked" "Heap.marked" sHeapMarked f fd) (T : HeapTxt K mg C) (m_sorted : mg "sorted" = none) : FnOk P w K mg base CX0 1 f fd ["self"] (spList C fun S => sortN S.marks) := by
  refine F.ok scHeapMarked (fun vs H Q E h => ?_) (fun cdv A outer s H vs Q E hr h => ?_)
  · obtain ⟨p, F, S, rfl, _⟩ := h
    rfl
  · obtain ⟨p, F, S, rfl, ⟨A, hA, rfl, G⟩, q⟩ := h
    refine ⟨_, (pss_one (ps_ret (pe_callB (KS.cr_sortedD rfl) (by rfl) m_sorted (by decide +kernel) (pa_cons (peFld (K := K) (pv 0) rfl) pa_nil)))), ?_⟩
    refine ⟨_, rfl, p, C, _, _, _, rfl, hA.ob, T.cl, T.n_marks, rfl, A.f .marks, _, S.marks.map Int.ofNat, rfl, .inl hA.marks, ?_, fun ys l pm so nl => ?_⟩
    · unfold dTrue; rw [List.map_map, List.map_map]; rfl
    · have := q l nl
      rw [← sorted_is G.mkn pm so (sortN_rise G.mkn) (fun _ => mem_sortN)] at this
      exact this
theorem ok_waiting {f : Addr} {fd : FuncData} (F : Fun K "waiting" "Heap.waiting" sHeapWaiting f fd) (T : HeapTxt K mg C) (m_list : mg "list" = none) : FnOk P w K mg base CX0 1 f fd ["self"] (spList C HS.line) := by
  refine F.ok scHeapWaiting (fun vs H Q E h => ?_) (fun cdv A outer s H vs Q E hr h => ?_)
  · obtain ⟨p, F, S, rfl, _⟩ := h
    rfl
  · obtain ⟨p, F, S, rfl, ⟨A, hA, rfl, G⟩, q⟩ := h
    refine ⟨_, (pss_one (ps_ret (pe_callTy (listOf (K := K)) (by rfl) m_list (by decide +kernel) (pa_cons (peFld (K := K) (pv 0) rfl) pa_nil)))), ?_⟩
    exact ⟨_, rfl, p, C, _, _, _, rfl, hA.ob, T.cl, T.n_line, rfl, A.f .line, _, rfl, .inl (SqL.of hA.line), q⟩
theorem ok_end {f : Addr} {fd : FuncData} (F : Fun K "_end_round" "Heap._end_round" sHeapEndRound f fd) (T : HeapTxt K mg C) : FnOk P w K mg base CX0 1 f fd ["self"] (spEnd C) := by
  refine F.ok scHeapEndRound (fun vs H Q E h => ?_) (fun cdv A outer s H vs Q E hr h => ?_)
  · obtain ⟨p, A, R, rfl, _⟩ := h
    rfl
  · obtain ⟨p, A, R, rfl, hA, q⟩ := h
    refine ⟨_, (pss_cons (ps_fld (pv 0) pe_dnewK rfl)
      (pss_cons (ps_fld (pv 0) pe_dnewK rfl)
      (pss_one (ps_fldaug (pv 0) pe_int in_add)))), ?_⟩
    refine fun q1 n1 => ?_
    have f0 := (Frm.refl H (foot A R)).same (same_new (o := .dK []) n1)
    have a1 := hA.same (same_new (o := .dK []) n1)
    have m1 := (Mono.refl H).put (q := q1) (o := .dK [])
    have h1 : (upd H q1 (.dK [])) q1 = some (.dK (dTrue [])) := upd_same
    have nf := hA.fresh n1
    generalize upd H q1 (.dK []) = H1 at f0 a1 h1 m1
    refine ⟨_, rfl, p, C, _, _, rfl, a1.ob, T.cl, T.n_old, by show 9 < 1000; decide, ?_⟩
    have a2 := a1.fOld h1 nf
    have f2 := (f0.put (o := .ins C A.dx (putF "_old" (.ref q1) (flds A R))) hA.foot_p).grow n1 fun b z => foot_mv (A := A) (R := R) (s := .old) (q := q1) (R' := { R with old := [] }) (fun k hk => .inl hk) z
    have m2 := m1.put (q := p) (o := .ins C A.dx (putF "_old" (.ref q1) (flds A R)))
    generalize upd H1 p _ = H2 at a2 f2 m2
    generalize A.mv .old q1 = A2 at a2 f2
    refine fun q2 n2 => ?_
    have n2H := m2.free n2
    have f3 := f2.same (same_new (o := .dK []) n2)
    have a3 := a2.same (same_new (o := .dK []) n2)
    have h3 : (upd H2 q2 (.dK [])) q2 = some (.dK (dTrue [])) := upd_same
    have nf2 := a2.fresh n2
    generalize upd H2 q2 (.dK []) = H3 at f3 a3 h3
    refine ⟨_, rfl, p, C, _, _, rfl, a3.ob, T.cl, T.n_marks, by show 9 < 1000; decide, ?_⟩
    have a4 := a3.fMarks h3 nf2
    have f4 := (f3.put (o := .ins C A2.dx (putF "_marks" (.ref q2) (flds A2 { R with old := [] }))) a2.foot_p).grow n2H fun b z => foot_mv (A := A2) (R := { R with old := [] }) (s := .marks) (q := q2) (R' := { R with old := [], marks := [] }) (fun k hk => .inl hk) z
    generalize upd H3 p _ = H4 at a4 f4
    generalize A2.mv .marks q2 = A4 at a4 f4
    refine ⟨_, rfl, p, C, _, _, _, rfl, a4.ob, T.cl, T.n_ended, rfl, _, _, rfl, rfl, A4.dx, _, a4.ob, by show 9 < 1000; decide, ?_⟩
    exact q _ A4 (a4.fEnded (R.ended + 1)) (f4.put a4.foot_p)
theorem popN {l : List Nat} {b : Nat} {r : List Nat} (h : l = b :: r) : (l.map nV)[0]? = some (.int (b : Int)) ∧ (l.map nV).eraseIdx 0 = r.map nV ∧ seqIndex? 0 (l.map nV).length = some 0 := by
  subst h
  exact ⟨rfl, rfl, by simp [seqIndex?]⟩
theorem ok_sweep {f : Addr} {fd : FuncData} (F : Fun K "_sweep_on" "Heap._sweep_on" sHeapSweepOn f fd) (T : HeapTxt K mg C) : FnOk P w K mg base CX0 1 f fd ["self"] (spSweepOn C) := by
  refine F.ok scHeapSweepOn (fun vs H Q E h => ?_) (fun cdv A outer s H vs Q E hr h => ?_)
  · obtain ⟨p, A, R, b, r, rfl, _⟩ := h
    rfl
  · obtain ⟨p, A, R, b, r, rfl, hA, eU, hb, hlen, q⟩ := h
    have hu := hu_of hr
    obtain ⟨x1, x2, x3⟩ := popN eU
    refine ⟨_, (pss_cons (ps_set (i := 1) scHeapSweepOn.nd rfl (.inl rfl) (pe_bm PySem.F.plainAttrs_list PySem.F.slot_list_pop PySem.F.type_list_pop mt_popAt (peFld (K := K) (pv 0) rfl) (pa_cons pe_int pa_nil)))
      (pss_cons (ps_if (pt_cmp (pc_din hu (pv 1) (peFld (K := K) (pv 0) rfl))) (pss_one (ps_ret pe_non)) pss_nil)
      (pss_cons (ps_ddel (peFld (K := K) (pv 0) rfl) (pv 1))
      (pss_one (ps_ret (pv 1)))))), ?_⟩
    refine ⟨_, rfl, p, C, _, _, _, rfl, hA.ob, T.cl, T.n_unsw, rfl, .inl ⟨rfl, _, SqL.of hA.unsw⟩, A.f .unsw, _, _, 0, _, rfl, rfl, hA.unsw, by decide, by decide, x3, x1, ?_⟩
    rw [x2]
    have a1 := hA.pUnsw r
    have f1 := (Frm.refl H (foot A R)).put (o := .lst (r.map nV)) (hA.foot_on (s := .unsw) trivial)
    generalize upd H (A.f .unsw) _ = H1 at a1 f1
    refine ⟨_, rfl, _, rfl, p, C, _, _, _, rfl, a1.ob, T.cl, T.n_marks, rfl, A.f .marks, _, rfl, DGet.k (k := kK b) a1.marks, ?_⟩
    rw [valV_true]
    by_cases c : b ∈ R.marks
    · have e : R.sweepOn b r = { R with unsw := r } := if_pos c
      rw [e, if_pos c] at q
      rw [show (if b ∈ ({ R with unsw := r } : Raw).marks then some (V.bl true) else none) = some (V.bl true) from if_pos c]
      exact ⟨_, rfl, iteT (q _ a1 f1)⟩
    · have e : R.sweepOn b r = { R with unsw := r, keys := R.keys.filter fun k => decide (k ≠ b) } := if_neg c
      rw [e, if_neg c] at q
      rw [show (if b ∈ ({ R with unsw := r } : Raw).marks then some (V.bl true) else none) = none from if_neg c]
      refine ⟨_, rfl, iteF ?_⟩
      refine ⟨_, rfl, p, C, _, _, _, rfl, a1.ob, T.cl, T.n_rows, rfl, _, rfl, A.f .rows, _, kK b, rfl, a1.rows, rfl, ?_, ?_⟩
      · rw [valV_rows, if_pos hb]
        rfl
      · refine ⟨_, rfl, q _ (a1.delRow b) ?_⟩
        exact (f1.put (a1.foot_on (s := .rows) trivial)).imp fun x z => z.elim fun t ⟨ht, e⟩ => ⟨t, (by cases t <;> first | exact (List.mem_filter.mp ht).1 | trivial), e⟩
theorem ok_markOn {f fM : Addr} {fd fdM : FuncData} (F : Fun K "_mark_on" "Heap._mark_on" sHeapMarkOn f fd) (T : HeapTxt K mg C) (D__mark : Dm P w K mg base CX0 1 C "_mark" fM fdM ["self", "box"] (spMark C)) : FnOk P w K mg base CX0 2 f fd ["self"] (spMarkOn C) := by
  refine F.ok scHeapMarkOn (fun vs H Q E h => ?_) (fun cdv A outer s H vs Q E hr h => ?_)
  · obtain ⟨p, A, R, b, r, rfl, _⟩ := h
    rfl
  · obtain ⟨p, A, R, b, r, rfl, hA, eL, hb, hm, hl, h4, q⟩ := h
    have hu := hu_of hr
    obtain ⟨x1, x2, x3⟩ := popN eL
    refine ⟨_, (pss_cons (ps_set (i := 1) scHeapMarkOn.nd rfl (.inl rfl) (pe_bm PySem.F.plainAttrs_list PySem.F.slot_list_pop PySem.F.type_list_pop mt_popAt (peFld (K := K) (pv 0) rfl) (pa_cons pe_int pa_nil)))
      (pss_one (ps_for PassesOwn.never rfl (pi_list (pe_dget hu (peFld (K := K) (pv 0) rfl) (pv 1) (fun _ _ => rfl))) (pg_name (i := 2) scHeapMarkOn.nd rfl (.inl rfl)) (pss_one (ps_expr (pe_meth (pv 0) D__mark.c D__mark.m D__mark.g (hr.mono (by decide)) D__mark.b .nil pass0 (pa_cons (pv 2) pa_nil))))))), ?_⟩
    refine ⟨_, rfl, p, C, _, _, _, rfl, hA.ob, T.cl, T.n_line, rfl, .inl ⟨rfl, _, SqL.of hA.line⟩, A.f .line, _, _, 0, _, rfl, rfl, hA.line, by decide, by decide, x3, x1, ?_⟩
    rw [x2]
    have a1 := hA.pLine r
    have f1 := (Frm.refl H (foot A R)).put (o := .lst (r.map nV)) (hA.foot_on (s := .line) trivial)
    generalize upd H (A.f .line) _ = H1 at a1 f1
    refine ⟨_, rfl, p, C, _, _, _, rfl, a1.ob, T.cl, T.n_rows, rfl, _, rfl, A.f .rows, _, rfl, dget_row a1 (k := b) hb, _, rfl, ⟨_, SqL.of (a1.row (k := b) hb)⟩, ?_⟩
    refine for_list (K := K) (a := A.f (.row b)) (xs := (R.row b).map optV) (fun i σ H' => ∃ y, σ = [some (.ref p), some (.int (b : Int)), y] ∧ HAt C H' p A (Raw.marks2 { R with line := r } ((R.row b).take i)) ∧ Frm H (foot A R) H' (foot A (Raw.marks2 { R with line := r } ((R.row b).take i)))) ⟨_, rfl, ?_, ?_⟩ (fun i σ H' _ ⟨y, _, a, _⟩ => SqL.of (a.row (k := b) hb)) ?_ ?_
    · rw [List.take_zero]
      show HAt C H1 p A { R with marks := R.marks ++ [], line := r ++ [] }
      rw [List.append_nil, List.append_nil]
      exact a1
    · exact f1
    · rintro i x σ H' hx ⟨y, rfl, a, fr⟩
      rw [List.getElem?_map] at hx
      obtain ⟨o, ho, rfl⟩ : ∃ o, (R.row b)[i]? = some o ∧ x = optV o := by
        cases e : (R.row b)[i]? with
        | none => rw [e] at hx; cases hx
        | some o => rw [e] at hx; exact ⟨o, rfl, (Option.some.inj hx).symm⟩
      have l4 := ext_len ((R.row b).take i) R.old R.marks
      have lt : ((R.row b).take i).length ≤ 4 := Nat.le_trans (by rw [List.length_take]; exact Nat.min_le_right _ _) h4
      refine ⟨_, rfl, p, A.dx, _, rfl, a.ob, rfl, _, rfl, p, A, _, o, rfl, a, ?_, ?_, fun H2 a2 f2 => ?_⟩
      · show (R.marks ++ ext R.old R.marks _).length ≤ 3000
        rw [List.length_append]; omega
      · show (r ++ ext R.old R.marks _).length ≤ 3000
        rw [List.length_append]; omega
      · rw [← marks2_snoc ho] at a2 f2
        exact ⟨_, rfl, a2, fr.trans f2⟩
    · rintro σ H' ⟨y, rfl, a, fr⟩
      rw [List.length_map, List.take_length] at a fr
      exact q _ a fr
end
end MK

set_option Elab.async false
set_option linter.all false
set_option pp.maxSteps 700
set_option maxRecDepth 100000
set_option maxHeartbeats 4000000
namespace MK
open PySem PySem.Spec PyProof.Rows L2 MM KG MP
section
variable {P : Program} {w : World} {K : PySem.W.Frag} {mg : Str → Option Value} {base : Heap} {C : Addr} {EC : ECs}
theorem ok_begin {f fM : Addr} {fd fdM : FuncData} (F : Fun K "_begin_round" "Heap._begin_round" sHeapBeginRound f fd) (T : HeapTxt K mg C) (D__mark : Dm P w K mg base CX0 1 C "_mark" fM fdM ["self", "box"] (spMark C)) (m_sorted : mg "sorted" = none) : FnOk P w K mg base CX0 2 f fd ["self"] (spBegin C) := by
  refine F.ok scHeapBeginRound (fun vs H Q E h => ?_) (fun cdv A outer s H vs Q E hr h => ?_)
  · obtain ⟨p, A, R, rfl, _⟩ := h
    rfl
  · obtain ⟨p, A, R, rfl, hA, eM, eL, h8, hk, rise, q⟩ := h
    refine ⟨_, (pss_cons (ps_fld (pv 0) (pe_callB (KS.cr_sortedD rfl) (by rfl) m_sorted (by decide +kernel) (pa_cons (peFld (K := K) (pv 0) rfl) pa_nil)) rfl)
      (pss_cons (ps_fld (pv 0) (pe_dc (own := [("box", 1)]) (g := gName 1) (tt := tYes) rfl scHeapBeginRound.nd (pi_list (peFld (K := K) (pv 0) rfl)) (blkOk_by (N := ["self", "box"]) (sc := defScope sHeapBeginRound) (by decide +kernel)) (fun _ _ _ _ _ => (pg_name (i := 1) scHeapBeginRound.nd rfl (.inl rfl))) (fun _ _ _ _ _ => pts_nil) (fun _ _ _ _ _ => (pv 1)) (fun _ _ _ _ _ => pe_bl)) rfl)
      (pss_one (ps_for PassesOwn.never rfl (pi_list (peFld (K := K) (pv 0) rfl)) (pg_name (i := 1) scHeapBeginRound.nd rfl (.inl rfl)) (pss_one (ps_expr (pe_meth (pv 0) D__mark.c D__mark.m D__mark.g (hr.mono (by decide)) D__mark.b .nil pass0 (pa_cons (pv 1) pa_nil)))))))), ?_⟩
    refine ⟨_, rfl, p, C, _, _, _, rfl, hA.ob, T.cl, T.n_rows, rfl, A.f .rows, _, R.keys.map Int.ofNat, rfl, .inl hA.rows, ?_, fun ys l pm so nl => ?_⟩
    · unfold dRows; rw [List.map_map, List.map_map]; rfl
    rw [sorted_is (rising_nodup rise) pm so rise (fun _ => Iff.rfl)]
    have f0 := (Frm.refl H (foot A R)).same (same_new (o := .lst (R.keys.map nV)) nl)
    have a1 := hA.same (same_new (o := .lst (R.keys.map nV)) nl)
    have m1 := (Mono.refl H).put (q := l) (o := .lst (R.keys.map nV))
    have h1 : (upd H l (.lst (R.keys.map nV))) l = some (.lst (R.keys.map nV)) := upd_same
    have nf := hA.fresh nl
    generalize upd H l (.lst (R.keys.map nV)) = H1 at f0 a1 h1 m1
    refine ⟨_, rfl, p, C, _, _, rfl, a1.ob, T.cl, T.n_unsw, by show 9 < 1000; decide, ?_⟩
    have a2 := a1.fUnsw h1 nf
    have f2 := (f0.put (o := .ins C A.dx (putF "_unswept" (.ref l) (flds A R))) hA.foot_p).grow nl fun b z => foot_mv (A := A) (R := R) (s := .unsw) (q := l) (R' := { R with unsw := R.keys }) (fun k hk => .inl hk) z
    have m2 := m1.put (q := p) (o := .ins C A.dx (putF "_unswept" (.ref l) (flds A R)))
    generalize upd H1 p _ = H2 at a2 f2 m2
    generalize A.mv .unsw l = A2 at a2 f2
    refine ⟨_, rfl, p, C, _, _, _, rfl, a2.ob, T.cl, T.n_unsw, rfl, A2.f .unsw, rfl, ⟨_, SqL.of a2.unsw⟩, fun D nD => ?_⟩
    have nDH := m2.free nD
    have nfD := a2.fresh nD
    refine KS.dc_list (K := K) (a := A2.f .unsw) (xs := R.keys.map nV) (fun i H' => HAt C H' p A2 { R with unsw := R.keys } ∧ Frm H (foot A R) H' (foot A2 { R with unsw := R.keys }) ∧ H' D = some (.dK (dTrue (R.keys.take i))))
      ⟨a2.same (same_new nD), f2.same (same_new nD), upd_same⟩ (fun i H' _ ⟨a, _⟩ => SqL.of a.unsw) ?_ ?_
    · rintro i x H' hx ⟨a, fr, hD⟩
      rw [List.getElem?_map] at hx
      obtain ⟨k, ho, rfl⟩ : ∃ k, R.keys[i]? = some k ∧ x = nV k := by
        cases e : R.keys[i]? with
        | none => rw [e] at hx; cases hx
        | some o => rw [e] at hx; exact ⟨o, rfl, (Option.some.inj hx).symm⟩
      have nk : k ∉ R.keys.take i := fun z => by
        have nd := rising_nodup rise
        rw [← List.take_append_drop i R.keys] at nd
        refine (List.nodup_append.mp nd).2.2 k z k ?_ rfl
        obtain ⟨hi, e⟩ := List.getElem?_eq_some_iff.mp ho
        rw [List.drop_eq_getElem_cons hi, e]
        exact List.mem_cons_self
      have lt : (R.keys.take i).length ≤ 1000 := Nat.le_trans (by rw [List.length_take]; exact Nat.min_le_right _ _) hk
      refine ⟨rfl, _, rfl, _, kK k, rfl, hD, size_of (by unfold dTrue; rw [List.length_map]; omega), ?_⟩
      rw [putK_true nk]
      refine ⟨a.out nfD, ?_, ?_⟩
      · refine fun b o e n => ?_
        obtain ⟨x, y⟩ := fr b o e n
        refine ⟨?_, y⟩
        rw [upd_ne fun (z : b = D) => by rw [z, nDH] at e; cases e]
        exact x
      · rw [upd_same, List.take_add_one, ho]
        rfl
    rintro H3 ⟨a3, f3, h3⟩
    rw [List.length_map, List.take_length] at h3
    refine ⟨_, rfl, p, C, _, _, rfl, a3.ob, T.cl, T.n_old, by show 9 < 1000; decide, ?_⟩
    have a4 := a3.fOld h3 nfD
    have f4 := (f3.put (o := .ins C A2.dx (putF "_old" (.ref D) (flds A2 { R with unsw := R.keys }))) a2.foot_p).grow nDH fun b z => foot_mv (A := A2) (R := { R with unsw := R.keys }) (s := .old) (q := D) (R' := { R with unsw := R.keys, old := R.keys }) (fun k hk => .inl hk) z
    generalize upd H3 p _ = H4 at a4 f4
    generalize A2.mv .old D = A4 at a4 f4
    refine ⟨_, rfl, p, C, _, _, _, rfl, a4.ob, T.cl, T.n_hands, rfl, A4.f .hands, rfl, ⟨_, SqL.of a4.hands⟩, ?_⟩
    refine for_list (K := K) (a := A4.f .hands) (xs := R.hands.map optV) (fun i σ H' => ∃ y, σ = [some (.ref p), y] ∧ HAt C H' p A4 (Raw.marks2 { R with unsw := R.keys, old := R.keys } (R.hands.take i)) ∧ Frm H (foot A R) H' (foot A4 (Raw.marks2 { R with unsw := R.keys, old := R.keys } (R.hands.take i)))) ⟨_, rfl, ?_, ?_⟩ (fun i σ H' _ ⟨y, _, a, _⟩ => SqL.of a.hands) ?_ ?_
    · rw [List.take_zero]
      show HAt C H4 p A4 { R with unsw := R.keys, old := R.keys, marks := R.marks ++ [], line := R.line ++ [] }
      rw [List.append_nil, List.append_nil]
      exact a4
    · exact f4
    · rintro i x σ H' hx ⟨y, rfl, a, fr⟩
      rw [List.getElem?_map] at hx
      obtain ⟨o, ho, rfl⟩ : ∃ o, R.hands[i]? = some o ∧ x = optV o := by
        cases e : R.hands[i]? with
        | none => rw [e] at hx; cases hx
        | some o => rw [e] at hx; exact ⟨o, rfl, (Option.some.inj hx).symm⟩
      have l4 := ext_len (R.hands.take i) R.keys R.marks
      have lt : (R.hands.take i).length ≤ 8 := Nat.le_trans (by rw [List.length_take]; exact Nat.min_le_right _ _) h8
      refine ⟨_, rfl, p, A4.dx, _, rfl, a.ob, rfl, _, rfl, p, A4, _, o, rfl, a, ?_, ?_, fun H2 a2 f2 => ?_⟩
      · show (R.marks ++ ext R.keys R.marks _).length ≤ 3000
        rw [List.length_append, eM, List.length_nil]; rw [eM] at l4; omega
      · show (R.line ++ ext R.keys R.marks _).length ≤ 3000
        rw [List.length_append, eL, List.length_nil]; omega
      · rw [← marks2_snoc (R := { R with unsw := R.keys, old := R.keys }) ho] at a2 f2
        exact ⟨_, rfl, a2, fr.trans f2⟩
    · rintro σ H' ⟨y, rfl, a, fr⟩
      have e : Raw.marks2 { R with unsw := R.keys, old := R.keys } R.hands = R.began := by
        unfold Raw.marks2 Raw.began
        dsimp only
        rw [eM, eL]
        rfl
      rw [List.length_map, List.take_length, e] at a fr
      exact q _ A4 a fr
theorem ok_piece {f fP fB fO fS fE : Addr} {fd fdP fdB fdO fdS fdE : FuncData} (F : Fun K "_do_piece" "Heap._do_piece" sHeapDoPiece f fd) (T : HeapTxt K mg C) (D_phase : Dm P w K mg base CX0 1 C "phase" fP fdP ["self"] (spPhase C)) (D__begin_round : Dm P w K mg base CX0 2 C "_begin_round" fB fdB ["self"] (spBegin C))
    (D__mark_on : Dm P w K mg base CX0 2 C "_mark_on" fO fdO ["self"] (spMarkOn C)) (D__sweep_on : Dm P w K mg base CX0 1 C "_sweep_on" fS fdS ["self"] (spSweepOn C)) (D__end_round : Dm P w K mg base CX0 1 C "_end_round" fE fdE ["self"] (spEnd C)) : FnOk P w K mg base CX0 3 f fd ["self"] (spPiece C) := by
  refine F.ok scHeapDoPiece (fun vs H Q E h => ?_) (fun cdv A outer s H vs Q E hr h => ?_)
  · obtain ⟨p, F, S, rfl, _⟩ := h
    rfl
  · obtain ⟨p, F, S, rfl, ⟨A, hA, rfl, G⟩, q⟩ := h
    refine ⟨_, (pss_cons (ps_set (i := 1) scHeapDoPiece.nd rfl (.inl rfl) pe_non)
      (pss_cons (ps_set (i := 2) scHeapDoPiece.nd rfl (.inl rfl) (pe_meth0 (pv 0) D_phase.c D_phase.m D_phase.g (hr.mono (by decide)) D_phase.b .nil pass0))
      (C8.pss_cut (ps_if (pt_cmpR op_eq (pv 2) pe_str (nomark _)) (pss_one (ps_expr (pe_meth0 (pv 0) D__begin_round.c D__begin_round.m D__begin_round.g (hr.mono (by decide)) D__begin_round.b .nil pass0))) (pss_one (ps_if (pt_cmpR op_eq (pv 2) pe_str (nomark _)) (pss_one (ps_expr (pe_meth0 (pv 0) D__mark_on.c D__mark_on.m D__mark_on.g (hr.mono (by decide)) D__mark_on.b .nil pass0))) (pss_one (ps_set (i := 1) scHeapDoPiece.nd rfl (.inl rfl) (pe_meth0 (pv 0) D__sweep_on.c D__sweep_on.m D__sweep_on.g (hr.mono (by decide)) D__sweep_on.b .nil pass0))))))
      (pss_cons (ps_if (pt_not (pt_truth (peFld (K := K) (pv 0) rfl) (by intro _; rfl))) (pss_one (ps_expr (pe_meth0 (pv 0) D__end_round.c D__end_round.m D__end_round.g (hr.mono (by decide)) D__end_round.b .nil pass0))) pss_nil)
      (pss_one (ps_ret (pv 1))))))), ?_⟩
    refine ⟨_, rfl, p, A.dx, _, rfl, hA.ob, rfl, p, A, raw S, rfl, hA, Nat.le_trans G.linen (by decide), Nat.le_trans G.unswn (by decide), ?_⟩
    refine ⟨fun σ' H' => ∃ A1 y, σ' = [some (.ref p), some (optV S.step.2), y] ∧ HAt C H' p A1 (raw S.step.1) ∧ Frm H (foot A (raw S)) H' (foot A1 (raw S.step.1)), ?_, ?_⟩
    · by_cases hL : S.line = []
      · by_cases hU : S.unsw = []
        · rw [show (if (raw S).line = [] then (if (raw S).unsw = [] then "idle" else "sweeping") else "marking") = "idle" from (if_pos hL).trans (if_pos hU)]
          refine ⟨_, rfl, rfl, _, rfl, ite2 (fun _ => ?_) (fun z => absurd (decide_eq_true rfl) z)⟩
          have e : S.step = (S.began, none) := by unfold HS.step; rw [if_pos hL, if_pos hU]
          rw [e]
          refine ⟨_, rfl, p, A.dx, _, rfl, hA.ob, rfl, p, A, raw S, rfl, hA, (G.idle hL hU).2.1, hL, G.hn.2, G.keysn, G.rise, fun H' A' a fr => ?_⟩
          rw [← raw_began] at a fr
          exact ⟨A', _, rfl, a, fr⟩
        · rw [show (if (raw S).line = [] then (if (raw S).unsw = [] then "idle" else "sweeping") else "marking") = "sweeping" from (if_pos hL).trans (if_neg hU)]
          refine ⟨_, rfl, rfl, _, rfl, ite2 (fun z => absurd z (by decide)) (fun _ => ?_)⟩
          refine ⟨_, rfl, rfl, _, rfl, ite2 (fun z => absurd z (by decide)) (fun _ => ?_)⟩
          have e : S.step = S.sweepOn := by unfold HS.step; rw [if_pos hL, if_neg hU]
          rw [e]
          obtain ⟨b, r, eU⟩ := List.exists_cons_of_ne_nil hU
          have hl := G.unswn
          rw [eU, List.length_cons] at hl
          refine ⟨_, rfl, p, A.dx, _, rfl, hA.ob, rfl, p, A, raw S, b, r, rfl, hA, eU, (G.us b (by rw [eU]; exact List.mem_cons_self)).2, by omega, fun H' a fr => ?_⟩
          rw [← raw_sweepOn eU] at a fr
          refine ⟨A, some (.str "sweeping"), ?_, a, fr⟩
          rw [sweepOn_freed eU]
          rfl
      · rw [show (if (raw S).line = [] then (if (raw S).unsw = [] then "idle" else "sweeping") else "marking") = "marking" from if_neg hL]
        refine ⟨_, rfl, rfl, _, rfl, ite2 (fun z => absurd z (by decide)) (fun _ => ?_)⟩
        refine ⟨_, rfl, rfl, _, rfl, ite2 (fun _ => ?_) (fun z => absurd (decide_eq_true rfl) z)⟩
        have e : S.step = (S.markOn, none) := by unfold HS.step; rw [if_neg hL]
        rw [e]
        obtain ⟨b, r, eL⟩ := List.exists_cons_of_ne_nil hL
        have hl := G.linen
        rw [eL, List.length_cons] at hl
        refine ⟨_, rfl, p, A.dx, _, rfl, hA.ob, rfl, p, A, raw S, b, r, rfl, hA, eL, G.one (by rw [eL]; exact List.mem_cons_self), G.marksn, by omega, G.row4 b, fun H' a fr => ?_⟩
        rw [← raw_markOn eL] at a fr
        exact ⟨A, _, rfl, a, fr⟩
    rintro σ1 H1 ⟨A1, y, rfl, a1, f1⟩
    refine ⟨_, rfl, p, C, _, _, _, rfl, a1.ob, T.cl, T.n_unsw, rfl, !S.step.1.unsw.isEmpty, .inl ⟨_, SqL.of a1.unsw, by rw [List.isEmpty_map]; rfl⟩, ?_⟩
    by_cases hU : S.step.1.unsw = []
    · have e : S.piece = (S.step.1.endRound, S.step.2) := by unfold HS.piece HS.ends; rw [if_pos hU]
      have G2 := G.piece
      rw [e] at q G2
      rw [hU]
      refine iteT ?_
      refine ⟨_, rfl, p, A1.dx, _, rfl, a1.ob, rfl, p, A1, raw S.step.1, rfl, a1, fun H2 A2 a2 f2 => ?_⟩
      exact ⟨_, rfl, q H2 _ ⟨A2, a2, rfl, G2⟩ (f1.trans f2)⟩
    · have e : S.piece = (S.step.1, S.step.2) := by unfold HS.piece HS.ends; rw [if_neg hU]
      have G2 := G.piece
      rw [e] at q G2
      rw [show (!S.step.1.unsw.isEmpty) = true by simp [hU]]
      exact iteF ⟨_, rfl, q H1 _ ⟨A1, a1, rfl, G2⟩ f1⟩
theorem ok_work {f fP : Addr} {fd fdP : FuncData} {t2500 : Tok} (F : Fun K "work" "Heap.work" sHeapWork f fd) (T : HeapTxt K mg C) (T_NoWork : ExC K mg "NoWork" EC.noWork) (D__do_piece : Dm P w K mg base CX0 3 C "_do_piece" fP fdP ["self"] (spPiece C)) (m_MOST_PIECES : mg "MOST_PIECES" = some (.int 2500 t2500)) (m_range : mg "range" = none) : FnOk P w K mg base (L2N.CX P w) 4 f fd ["self", "pieces"] (spWork C EC) := by
  refine okN F scHeapWork (fun vs H Q E h => ?_) (fun cdv A outer s H vs Q E hr h => ?_)
  · obtain ⟨p, F, S, n, rfl, _⟩ := h
    rfl
  · obtain ⟨p, F, S, n, rfl, hS, q⟩ := h
    refine ⟨_, (pss_cons (ps_if (pt_not (pt_chain op_le op_le pe_int (pv 1) (pe_glob (v := .int 2500) (by rfl) m_MOST_PIECES ⟨_, rfl⟩))) (pss_one (L2N.ps_raise rfl (L2N.takes_of rfl rfl rfl rfl) (L2N.pmk_own PySem.F.excBase_ValueError T_NoWork.xP T_NoWork.gP T_NoWork.kP (raises_own T_NoWork.bP T_NoWork.tP) rfl))) pss_nil)
      (pss_cons (ps_set (i := 2) scHeapWork.nd rfl (.inl rfl) (pe_lst pa_nil))
      (pss_cons (ps_for (passes_of rfl) rfl (pi_range1 (by rfl) m_range (pa_cons (pv 1) pa_nil)) (pg_name (i := 3) scHeapWork.nd rfl (.inl rfl)) (pss_cons (ps_set (i := 4) scHeapWork.nd rfl (.inl rfl) (pe_meth0 (pv 0) D__do_piece.c D__do_piece.m D__do_piece.g (hr.mono (by decide)) D__do_piece.b .nil pass0))
      (pss_one (ps_if (pt_cmpR op_notN (pv 4) pe_non (nomark _)) (pss_one (ps_expr (pe_bm PySem.F.plainAttrs_list PySem.F.slot_list_append PySem.F.type_list_append mt_append (pv 2) (pa_cons (pv 4) pa_nil)))) pss_nil))))
      (pss_one (ps_ret (pv 2)))))), ?_⟩
    by_cases c : 0 ≤ n ∧ n ≤ 2500
    · replace q := (if_pos c).mp q
      refine ⟨_, rfl, _, _, rfl, rfl, _, rfl, ?_⟩
      rw [decide_eq_true c.1]
      refine iteT ⟨_, _, rfl, rfl, _, rfl, iteNS c.2 ?_⟩
      refine ⟨Nat.zero_le _, fun l nl => ?_⟩
      obtain ⟨m, rfl⟩ := Int.eq_ofNat_of_zero_le c.1
      rw [Int.toNat_natCast] at q
      refine ⟨_, rfl, (m : Int), rfl, by omega, by omega, ?_⟩
      rw [Int.toNat_natCast]
      refine for_range (fun i σ H' => ∃ y3 y4 F', σ = [some (.ref p), some (.int (m : Int)), some (.ref l), y3, y4] ∧ HeapAt C H' p F' (HS.work i S).1 ∧ Frm H F H' F' ∧ ¬ F' l ∧ H' l = some (.lst ((HS.work i S).2.map nV)) ∧ (HS.work i S).2.length ≤ i)
        ⟨none, none, F, rfl, hS.same (same_new nl), (Frm.refl H F).same (same_new nl), hS.fresh nl, upd_same, Nat.le_refl _⟩ ?_ ?_
      · rintro i σ H' hi ⟨y3, y4, F', rfl, h1, f1, nF, hl, len⟩
        obtain ⟨dx, fs, hob, hno⟩ := h1.ob
        refine ⟨_, rfl, p, dx, _, rfl, hob, hno _ (by decide), p, F', (HS.work i S).1, rfl, h1, fun H2 F2 h2 f2 => ?_⟩
        obtain ⟨hl2, nF2⟩ := f2 l _ hl nF
        have e : (HS.work (i + 1) S).1 = (HS.work i S).1.piece.1 := rfl
        have e2 : (HS.work (i + 1) S).2 = (HS.work i S).2 ++ (HS.work i S).1.piece.2.toList := rfl
        rw [e, e2]
        cases ez : (HS.work i S).1.piece.2 with
        | none =>
          refine ⟨_, rfl, rfl, _, rfl, iteF ?_⟩
          exact ⟨_, _, F2, rfl, h2, f1.trans f2, nF2, by rw [show (none : Option Nat).toList = [] from rfl, List.append_nil]; exact hl2, by rw [show (none : Option Nat).toList = [] from rfl, List.append_nil]; omega⟩
        | some k =>
          refine ⟨_, rfl, rfl, _, rfl, iteT ?_⟩
          refine ⟨_, rfl, .inl ⟨rfl, _, SqL.of hl2⟩, _, rfl, l, _, _, rfl, rfl, hl2, size_of (by rw [List.length_map]; omega), ?_⟩
          refine ⟨_, _, F2, rfl, h2.out nF2, ?_, nF2, ?_, ?_⟩
          · refine fun b o e n => ?_
            obtain ⟨x, y⟩ := (f1.trans f2) b o e n
            refine ⟨?_, y⟩
            rw [upd_ne fun (z : b = l) => by rw [z, nl] at e; cases e]
            exact x
          · rw [upd_same, List.map_append]
            rfl
          · rw [List.length_append]
            show _ + 1 ≤ _
            omega
      · rintro σ H' ⟨y3, y4, F', rfl, h1, f1, nF, hl, len⟩
        exact ⟨_, rfl, q H' F' l h1 f1 nl nF hl⟩
    · replace q := (if_neg c).mp q
      refine ⟨_, rfl, _, _, rfl, rfl, _, rfl, ite2 (fun e => ?_) (fun e => ?_)⟩
      · exact ⟨_, _, rfl, rfl, _, rfl, iteNT (fun z => c ⟨of_decide_eq_true e, z⟩) q⟩
      · exact ⟨_, rfl, iteT q⟩
end
end MK

set_option Elab.async false
set_option linter.all false
set_option pp.maxSteps 700
set_option maxRecDepth 100000
set_option maxHeartbeats 4000000
namespace MK
open PySem PySem.Spec PyProof.Rows L2 MM KG MP L2H
section
variable {P : Program} {w : World} {K : PySem.W.Frag} {mg : Str → Option Value} {base : Heap} {C : Addr} {EC : ECs}
def spNeedH (C : Addr) : Sp := fun vs H Q _ => ∃ (p : Addr) (A : HA) (R : Raw) (h : Int), vs = [.ref p, .int h] ∧ HAt C H p A R ∧ R.hands.length ≤ 8 ∧ (0 ≤ h ∧ h < R.hands.length) ∧ Q .non H
def spHeldH (C : Addr) : Sp := fun vs H Q _ => ∃ (p : Addr) (F : Addr → Prop) (S : HS) (h : Int), vs = [.ref p, .int h] ∧ HeapAt C H p F S ∧ okHand S h ∧ Q (optV (S.hand h.toNat)) H
def spLookH (C : Addr) : Sp := fun vs H Q _ => ∃ (p : Addr) (F : Addr → Prop) (S : HS) (b : Int), vs = [.ref p, .int b] ∧ HeapAt C H p F S ∧ (0 ≤ b ∧ b.toNat ∈ S.keys) ∧ ∀ l, H l = none → Q (.ref l) (upd H l (.lst ((S.row b.toNat).map optV)))
theorem ok_needH {f : Addr} {fd : FuncData} (F : Fun K "_need_hand" "Heap._need_hand" sHeapNeedHand f fd) (T : HeapTxt K mg C) (m_len : mg "len" = none) : FnH P w K mg base CX0 1 f fd ["self", "hand"] (spNeedH C) := by
  refine okH F scHeapNeedHand (fun vs H Q E h => ?_) (fun cdv A outer s H vs Q E p0 hot hr h => ?_)
  · obtain ⟨p, A, R, h, rfl, _⟩ := h
    rfl
  · obtain ⟨p, A, R, h, rfl, hA, h8, c, q⟩ := h
    refine ⟨_, (pss_one (ps_if (pt_not (pt_chain op_le op_lt pe_int (pv 1) (pe_callB (lenS (K := K)) (by rfl) m_len (by decide +kernel) (pa_cons (peFld (K := K) (pv 0) rfl) pa_nil)))) (pss_one ps_never) pss_nil)), ?_⟩
    refine ⟨_, rfl, _, _, rfl, rfl, _, rfl, ite2 (fun e => ?_) (fun e => absurd (decide_eq_true c.1) e)⟩
    refine ⟨_, rfl, p, C, _, _, _, rfl, hA.ob, T.cl, T.n_hands, rfl, A.f .hands, _, rfl, .inl (SqL.of hA.hands), _, _, rfl, rfl, _, rfl, ?_⟩
    rw [List.length_map]
    exact iteNS c.2 q
theorem ok_heldH {f fN : Addr} {fd fdN : FuncData} (F : Fun K "held" "Heap.held" sHeapHeld f fd) (T : HeapTxt K mg C) (D__need_hand : DmH P w K mg base CX0 1 C "_need_hand" fN fdN ["self", "hand"] (spNeedH C)) : FnH P w K mg base CX0 2 f fd ["self", "hand"] (spHeldH C) := by
  refine okH F scHeapHeld (fun vs H Q E h => ?_) (fun cdv A outer s H vs Q E p0 hot hr h => ?_)
  · obtain ⟨p, F, S, h, rfl, _⟩ := h
    rfl
  · obtain ⟨p, F, S, h, rfl, ⟨A, hA, rfl, G⟩, c1, q⟩ := h
    refine ⟨_, (pss_cons (ps_expr (pe_methH (pv 0) D__need_hand.c D__need_hand.m D__need_hand.g (hr.mono (by decide)) ⟨_, hot, List.mem_cons_self⟩ D__need_hand.b passH0 (pa_cons (pv 1) pa_nil)))
      (pss_one (ps_ret (pe_ix (ixL (K := K)) (peFld (K := K) (pv 0) rfl) (pv 1) (fun _ _ => rfl))))), ?_⟩
    refine ⟨_, rfl, p, A.dx, _, rfl, hA.ob, rfl, _, rfl, p, A, raw S, h, rfl, hA, G.hn.2, c1, ?_⟩
    exact ⟨_, rfl, p, C, _, _, _, rfl, hA.ob, T.cl, T.n_hands, rfl, _, rfl, A.f .hands, _, _, optV (S.hand h.toNat), rfl, rfl, SqL.of hA.hands, c1.at_, q⟩
theorem ok_lookH {f : Addr} {fd : FuncData} (F : Fun K "look" "Heap.look" sHeapLook f fd) (T : HeapTxt K mg C) (m_list : mg "list" = none) : FnH P w K mg base CX0 1 f fd ["self", "box"] (spLookH C) := by
  refine okH F scHeapLook (fun vs H Q E h => ?_) (fun cdv A outer s H vs Q E p0 hot hr h => ?_)
  · obtain ⟨p, F, S, b, rfl, _⟩ := h
    rfl
  · obtain ⟨p, F, S, b, rfl, ⟨A, hA, rfl, G⟩, c, q⟩ := h
    have hu := hu_ofH hr
    refine ⟨_, (pss_cons (ps_if (pt_cmp (pc_dnotin hu (pv 1) (peFld (K := K) (pv 0) rfl))) (pss_one ps_never) pss_nil)
      (pss_one (ps_ret (pe_callTy (listOf (K := K)) (by rfl) m_list (by decide +kernel) (pa_cons (pe_dget hu (peFld (K := K) (pv 0) rfl) (pv 1) (fun _ _ => rfl)) pa_nil))))), ?_⟩
    refine ⟨_, rfl, _, rfl, p, C, _, _, _, rfl, hA.ob, T.cl, T.n_rows, rfl, A.f .rows, _, rfl, DGet.k (k := Sum.inl b) hA.rows, ?_⟩
    obtain ⟨bn, rfl⟩ := Int.eq_ofNat_of_zero_le c.1
    rw [Int.toNat_natCast] at q
    have hk : bn ∈ (raw S).keys := c.2
    rw [show valV (dRows A (raw S)) (Sum.inl (bn : Int)) = some (.ref (A.f (.row bn))) from (valV_rows bn).trans (if_pos hk)]
    refine ⟨_, rfl, iteF ?_⟩
    exact ⟨_, rfl, p, C, _, _, _, rfl, hA.ob, T.cl, T.n_rows, rfl, _, rfl, A.f .rows, _, rfl, dget_row hA hk, A.f (.row bn), _, rfl, .inl (SqL.of (hA.row hk)), q⟩
theorem ok_boxesH {f : Addr} {fd : FuncData} (F : Fun K "boxes" "Heap.boxes" sHeapBoxes f fd) (T : HeapTxt K mg C) (m_sorted : mg "sorted" = none)   : L2H.FnH P w K mg base CX0 1 f fd ["self"] (spList C HS.keys) := by
  refine okH F scHeapBoxes (fun vs H Q E h => ?_) (fun cdv A outer s H vs Q E p0 hot hr h => ?_)
  · obtain ⟨p, F, S, rfl, _⟩ := h
    rfl
  · obtain ⟨p, F, S, rfl, ⟨A, hA, rfl, G⟩, q⟩ := h
    refine ⟨_, (pss_one (ps_ret (pe_callB (cr_sortedDH ⟨_, hot, List.mem_cons_self⟩) (by rfl) m_sorted (by decide +kernel) (pa_cons (peFld (K := K) (pv 0) rfl) pa_nil)))), ?_⟩
    refine ⟨_, rfl, p, C, _, _, _, rfl, hA.ob, T.cl, T.n_rows, rfl, A.f .rows, _, S.keys.map Int.ofNat, rfl, .inl hA.rows, ?_, fun ys l pm so nl => ?_⟩
    · unfold dRows; rw [List.map_map, List.map_map]; rfl
    · have := q l nl
      rw [← sorted_is (rising_nodup G.rise) pm so G.rise (fun _ => Iff.rfl)] at this
      exact this
theorem ok_markedH {f : Addr} {fd : FuncData} (F : Fun K "marked" "Heap.marked" sHeapMarked f fd) (T : HeapTxt K mg C) (m_sorted : mg "sorted" = none)   : L2H.FnH P w K mg base CX0 1 f fd ["self"] (spList C fun S => sortN S.marks) := by
  refine okH F scHeapMarked (fun vs H Q E h => ?_) (fun cdv A outer s H vs Q E p0 hot hr h => ?_)
  · obtain ⟨p, F, S, rfl, _⟩ := h
    rfl
  · obtain ⟨p, F, S, rfl, ⟨A, hA, rfl, G⟩, q⟩ := h
    refine ⟨_, (pss_one (ps_ret (pe_callB (cr_sortedDH ⟨_, hot, List.mem_cons_self⟩) (by rfl) m_sorted (by decide +kernel) (pa_cons (peFld (K := K) (pv 0) rfl) pa_nil)))), ?_⟩
    refine ⟨_, rfl, p, C, _, _, _, rfl, hA.ob, T.cl, T.n_marks, rfl, A.f .marks, _, S.marks.map Int.ofNat, rfl, .inl hA.marks, ?_, fun ys l pm so nl => ?_⟩
    · unfold dTrue; rw [List.map_map, List.map_map]; rfl
    · have := q l nl
      rw [← sorted_is G.mkn pm so (sortN_rise G.mkn) (fun _ => mem_sortN)] at this
      exact this
theorem ok_waitingH {f : Addr} {fd : FuncData} (F : Fun K "waiting" "Heap.waiting" sHeapWaiting f fd) (T : HeapTxt K mg C) (m_list : mg "list" = none)   : L2H.FnH P w K mg base CX0 1 f fd ["self"] (spList C HS.line) := by
  refine okH F scHeapWaiting (fun vs H Q E h => ?_) (fun cdv A outer s H vs Q E p0 hot hr h => ?_)
  · obtain ⟨p, F, S, rfl, _⟩ := h
    rfl
  · obtain ⟨p, F, S, rfl, ⟨A, hA, rfl, G⟩, q⟩ := h
    refine ⟨_, (pss_one (ps_ret (pe_callTy (listOf (K := K)) (by rfl) m_list (by decide +kernel) (pa_cons (peFld (K := K) (pv 0) rfl) pa_nil)))), ?_⟩
    exact ⟨_, rfl, p, C, _, _, _, rfl, hA.ob, T.cl, T.n_line, rfl, A.f .line, _, rfl, .inl (SqL.of hA.line), q⟩
theorem ok_roundsH {f : Addr} {fd : FuncData} (F : Fun K "rounds" "Heap.rounds" sHeapRounds f fd) (T : HeapTxt K mg C)   : L2H.FnH P w K mg base CX0 1 f fd ["self"] (spRounds C) := by
  refine okH F scHeapRounds (fun vs H Q E h => ?_) (fun cdv A outer s H vs Q E p0 hot hr h => ?_)
  · obtain ⟨p, A, R, rfl, _⟩ := h
    rfl
  · obtain ⟨p, A, R, rfl, hA, q⟩ := h
    exact ⟨_, (pss_one (ps_ret (peFld (K := K) (pv 0) rfl))), _, rfl, p, C, _, _, _, rfl, hA.ob, T.cl, T.n_ended, rfl, q⟩
theorem ok_phaseH {f : Addr} {fd : FuncData} (F : Fun K "phase" "Heap.phase" sHeapPhase f fd) (T : HeapTxt K mg C)   : L2H.FnH P w K mg base CX0 1 f fd ["self"] (spPhase C) := by
  refine okH F scHeapPhase (fun vs H Q E h => ?_) (fun cdv A outer s H vs Q E p0 hot hr h => ?_)
  · obtain ⟨p, A, R, rfl, _⟩ := h
    rfl
  · obtain ⟨p, A, R, rfl, hA, h1, h2, q⟩ := h
    refine ⟨_, (pss_cons (ps_if (pt_truth (peFld (K := K) (pv 0) rfl) (by intro _; rfl)) (pss_one (ps_ret pe_str)) pss_nil)
      (pss_cons (ps_if (pt_truth (peFld (K := K) (pv 0) rfl) (by intro _; rfl)) (pss_one (ps_ret pe_str)) pss_nil)
      (pss_one (ps_ret pe_str)))), ?_⟩
    refine ⟨_, rfl, p, C, _, _, _, rfl, hA.ob, T.cl, T.n_line, rfl, !R.line.isEmpty, .inl ⟨_, SqL.of hA.line, by rw [List.isEmpty_map]⟩, ?_⟩
    by_cases e : R.line = []
    · rw [if_pos e] at q
      rw [e]
      refine iteF ?_
      refine ⟨_, rfl, p, C, _, _, _, rfl, hA.ob, T.cl, T.n_unsw, rfl, !R.unsw.isEmpty, .inl ⟨_, SqL.of hA.unsw, by rw [List.isEmpty_map]⟩, ?_⟩
      by_cases e2 : R.unsw = []
      · rw [if_pos e2] at q
        rw [e2]
        exact iteF q
      · rw [if_neg e2] at q
        rw [show (!R.unsw.isEmpty) = true by simp [e2]]
        exact iteT q
    · rw [if_neg e] at q
      rw [show (!R.line.isEmpty) = true by simp [e]]
      exact iteT q
end
end MK

set_option Elab.async false
set_option linter.all false
set_option pp.maxSteps 700
set_option maxRecDepth 100000
set_option maxHeartbeats 4000000
namespace MK
open PySem PySem.Spec PyProof.Rows L2 MM KG MP
section
variable {P : Program} {w : World} {K : PySem.W.Frag} {mg : Str → Option Value} {base : Heap} {C : Addr} {EC : ECs}
theorem ok_cell {f : Addr} {fd : FuncData} (F : Fun K "_law_cell_at" "_law_cell_at" sCellAt f fd) (m_len : mg "len" = none) : FnOk P w K mg base CX0 1 f fd ["_law_script", "_law_k"] (spCell K) := by
  refine F.ok scCellAt (fun vs H Q E h => ?_) (fun cdv A outer s H vs Q E hr h => ?_)
  · obtain ⟨l, ns, j, rfl, _⟩ := h
    rfl
  · obtain ⟨l, ns, j, rfl, hS, q⟩ := h
    refine ⟨_, (pss_cons (ps_if (pt_cmpR op_lt (pv 1) (pe_callB (lenS (K := K)) (by rfl) m_len (by decide +kernel) (pa_cons (pv 0) pa_nil)) (nomark _)) (pss_one (ps_ret (pe_ix (ixL (K := K)) (pv 0) (pv 1) (fun _ _ => rfl)))) pss_nil)
      (pss_one (ps_ret pe_int))), ?_⟩
    refine ⟨_, rfl, _, rfl, l, _, rfl, .inl hS, _, _, rfl, rfl, _, rfl, ite2 (fun e => ?_) (fun e => ?_)⟩
    · have e1 := of_decide_eq_true e
      rw [List.length_map] at e1
      exact ⟨_, rfl, _, rfl, l, _, _, _, rfl, rfl, hS, atI_cell (by omega), q⟩
    · have e2 : cellOf ns j = 0 := cell_out fun z => e (decide_eq_true (by rw [List.length_map]; omega))
      rw [e2] at q
      exact q
theorem ok_whole {f : Addr} {fd : FuncData} (F : Fun K "_law_whole" "_law_whole" sWhole f fd) (m_isinstance : mg "isinstance" = none) (m_int : mg "int" = none) (m_bool : mg "bool" = none) : FnOk P w K mg base CX0 1 f fd ["_law_found"] spWhole := by
  refine F.ok scWhole (fun vs H Q E h => ?_) (fun cdv A outer s H vs Q E hr h => ?_)
  · obtain ⟨i, rfl, _⟩ := h
    rfl
  · obtain ⟨i, rfl, q⟩ := h
    refine ⟨_, (pss_one (ps_ret (pe_and (pe_callB (isiK (K := K)) (by rfl) m_isinstance (by decide +kernel) (pa_cons (pv 0) (pa_cons (pe_bltn (v := .ty "int") (by rfl) m_int (by decide +kernel) rfl) pa_nil))) (pe_one (pe_not (pe_callB (isiK (K := K)) (by rfl) m_isinstance (by decide +kernel) (pa_cons (pv 0) (pa_cons (pe_bltn (v := .ty "bool") (by rfl) m_bool (by decide +kernel) rfl) pa_nil)))))))), ?_⟩
    refine ⟨_, rfl, .int i, .ty "int", _, _, true, rfl, .ty _, .base (.int i), kit_ty (by decide +kernel), true, rfl, iteT ?_⟩
    exact ⟨_, rfl, .int i, .ty "bool", _, _, false, rfl, .ty _, .base (.int i), kit_ty (by decide +kernel), false, rfl, q⟩
theorem ok_numbers {f fW : Addr} {fd fdW : FuncData} (F : Fun K "_law_numbers" "_law_numbers" sNumbers f fd) (D__law_whole : Df P w K mg base CX0 1 "_law_whole" fW fdW ["_law_found"] spWhole)
    (m_isinstance : mg "isinstance" = none) (m_list : mg "list" = none) (m_len : mg "len" = none) (m_range : mg "range" = none) : FnOk P w K mg base CX0 2 f fd (["_law_found", "_law_due_here"]) spNumbers := by
  refine F.ok scNumbers (fun vs H Q E h => ?_) (fun cdv A outer s H vs Q E hr h => ?_)
  · obtain ⟨a, b, xs, rfl, _⟩ := h
    rfl
  · obtain ⟨a, b, xs, rfl, ha, hb, pl, len, q⟩ := h
    refine ⟨_, (pss_cons (ps_if (PW.pt (pw_or (pt_not (pt_val (pe_callB (isiK (K := K)) (by rfl) m_isinstance (by decide +kernel) (pa_cons (pv 0) (pa_cons (pe_bltn (v := .ty "list") (by rfl) m_list (by decide +kernel) rfl) pa_nil))))) (pw_or1 (pt_cmpR op_ne (pe_callB (lenS (K := K)) (by rfl) m_len (by decide +kernel) (pa_cons (pv 0) pa_nil)) (pe_callB (lenS (K := K)) (by rfl) m_len (by decide +kernel) (pa_cons (pv 1) pa_nil)) (nomark _))))) (pss_one (ps_ret pe_bl)) pss_nil)
      (pss_cons (ps_for PassesOwn.never rfl (pi_range1 (by rfl) m_range (pa_cons (pe_callB (lenS (K := K)) (by rfl) m_len (by decide +kernel) (pa_cons (pv 1) pa_nil)) pa_nil)) (pg_name (i := 2) scNumbers.nd rfl (.inl rfl)) (pss_cons (ps_if (PW.pt (pw_and (pt_cmpR op_isN (pe_ix (ixL (K := K)) (pv 1) (pv 2) (fun _ _ => rfl)) pe_non (nomark _)) (pw_and1 (pt_cmpR op_notN (pe_ix (ixL (K := K)) (pv 0) (pv 2) (fun _ _ => rfl)) pe_non (nomark _))))) (pss_one (ps_ret pe_bl)) pss_nil)
      (pss_one (ps_if (PW.pt (pw_and (pt_cmpR op_notN (pe_ix (ixL (K := K)) (pv 1) (pv 2) (fun _ _ => rfl)) pe_non (nomark _)) (pw_and1 (PW.pt (pw_or (pt_not (pt_val (pe_call D__law_whole.g (hr.mono (by decide)) (by rfl) D__law_whole.m D__law_whole.k D__law_whole.b .nil pass0 (pa_cons (pe_ix (ixL (K := K)) (pv 0) (pv 2) (fun _ _ => rfl)) pa_nil)))) (pw_or1 (pt_cmpR op_ne (pe_ix (ixL (K := K)) (pv 0) (pv 2) (fun _ _ => rfl)) (pe_ix (ixL (K := K)) (pv 1) (pv 2) (fun _ _ => rfl)) (nomark _)))))))) (pss_one (ps_ret pe_bl)) pss_nil))))
      (pss_one (ps_ret pe_bl)))), ?_⟩
    have sa : SqL K H a xs := SqL.of ha
    have sb : SqL K H b xs := SqL.of hb
    refine ⟨_, rfl, .ref a, .ty "list", _, _, true, rfl, .ty _, .base (.lst ha), kit_ty (by decide +kernel), true, rfl, iteF ?_⟩
    refine ⟨_, rfl, a, xs, rfl, .inl sa, _, rfl, b, xs, rfl, .inl sb, rfl, _, rfl, ?_⟩
    rw [decide_eq_true rfl]
    refine iteF ?_
    refine ⟨_, rfl, b, xs, rfl, .inl sb, (xs.length : Int), rfl, by omega, by have := size2k (n := xs.length) (by omega); unfold sizeLine at this; omega, ?_⟩
    rw [Int.toNat_natCast]
    refine for_range (fun i σ H' => ∃ z, σ = [some (.ref a), some (.ref b), z] ∧ H' = H) ⟨none, rfl, rfl⟩ ?_ ?_
    · rintro i σ H' hi ⟨z, rfl, rfl⟩
      have ex : xs[i]? = some xs[i] := List.getElem?_eq_getElem hi
      have pi := pl _ (List.getElem_mem hi)
      generalize xs[i] = x at ex pi
      have ax : atI xs (0 + (i : Int)) = some x := by
        rw [Int.zero_add]
        exact atI_nat ex
      rcases pi with rfl | ⟨v, rfl⟩
      · refine ⟨_, rfl, _, rfl, b, xs, _, _, rfl, rfl, sb, ax, rfl, _, rfl, iteT ?_⟩
        refine ⟨_, rfl, _, rfl, a, xs, _, _, rfl, rfl, sa, ax, rfl, _, rfl, iteF ?_⟩
        refine ⟨_, rfl, _, rfl, b, xs, _, _, rfl, rfl, sb, ax, rfl, _, rfl, iteF ?_⟩
        exact iteF ⟨_, rfl, rfl⟩
      · refine ⟨_, rfl, _, rfl, b, xs, _, _, rfl, rfl, sb, ax, rfl, _, rfl, iteF (iteF ?_)⟩
        refine ⟨_, rfl, _, rfl, b, xs, _, _, rfl, rfl, sb, ax, rfl, _, rfl, iteT ?_⟩
        refine ⟨_, rfl, _, rfl, a, xs, _, _, rfl, rfl, sa, ax, v, rfl, true, rfl, iteF ?_⟩
        refine ⟨_, rfl, _, rfl, a, xs, _, _, rfl, rfl, sa, ax, _, rfl, _, rfl, b, xs, _, _, rfl, rfl, sb, ax, rfl, _, rfl, ?_⟩
        rw [decide_eq_true rfl]
        exact iteF ⟨_, rfl, rfl⟩
    · rintro σ H' ⟨z, rfl, rfl⟩
      exact q
end
end MK

set_option Elab.async false
set_option linter.all false
set_option pp.maxSteps 700
set_option maxRecDepth 100000
set_option maxHeartbeats 4000000
namespace MK
open PySem PySem.Spec PyProof.Rows L2 MM KG MP
section
variable {P : Program} {w : World} {K : PySem.W.Frag} {mg : Str → Option Value} {base : Heap} {C : Addr} {EC : ECs}
/-- all that is told of a heap -/
def rowsOf (S : HS) (total : Nat) : List (List V) := [S.hands.map optV, S.keys.map nV, (sortN S.marks).map nV, S.line.map nV, [V.int ((S.ended : Nat) : Int)]] ++ (List.range total).map fun k => (S.row k).map optV
def RowsV (H : Hp) (R : Addr) (X : List (List V)) : Prop := ∃ qs : List Addr, H R = some (.lst (qs.map V.ref)) ∧ qs.length = X.length ∧ ∀ (i : Nat) (q : Addr) (x : List V), qs[i]? = some q → X[i]? = some x → H q = some (.lst x)
def spAll (C : Addr) : Sp := fun vs H Q _ => ∃ (p : Addr) (F : Addr → Prop) (S : HS) (total : Nat), vs = [.ref p, .int ((S.hands.length : Nat) : Int), .int ((total : Nat) : Int)] ∧ HeapAt C H p F S ∧ total ≤ 12 ∧ (∀ k, k < total → k ∈ S.keys) ∧
  ∀ H' R, Same H H' → H R = none → RowsV H' R (rowsOf S total) → Q (.ref R) H'
theorem ok_all {f fh fb fm fw fr fl : Addr} {fd fdh fdb fdm fdw fdr fdl : FuncData} (F : Fun K "_law_all" "_law_all" sAll f fd) (D_held : Dm P w K mg base (L2N.CX P w) 2 C "held" fh fdh ["self", "hand"] (spHeld C EC)) (D_boxes : Dm P w K mg base CX0 1 C "boxes" fb fdb ["self"] (spList C HS.keys))
    (D_marked : Dm P w K mg base CX0 1 C "marked" fm fdm ["self"] (spList C fun S => sortN S.marks)) (D_waiting : Dm P w K mg base CX0 1 C "waiting" fw fdw ["self"] (spList C HS.line)) (D_rounds : Dm P w K mg base CX0 1 C "rounds" fr fdr ["self"] (spRounds C)) (D_look : Dm P w K mg base (L2N.CX P w) 1 C "look" fl fdl ["self", "box"] (spLook C EC)) (m_range : mg "range" = none) : FnOk P w K mg base CX0 3 f fd ["_law_heap", "_law_many", "_law_total"] (spAll C) := by
  refine F.ok scAll (fun vs H Q E h => ?_) (fun cdv A outer s H vs Q E hr h => ?_)
  · obtain ⟨p, F, S, total, rfl, _⟩ := h
    rfl
  · obtain ⟨p, F, S, total, rfl, hS, t12, hk, q⟩ := h
    refine ⟨_, (pss_cons (ps_set (i := 3) scAll.nd rfl (.inl rfl) (pe_lst (pa_cons (pe_lc (own := [("_law_k", 4)]) (g := gName 4) (tt := tYes) rfl scAll.nd (pi_range1 (by rfl) m_range (pa_cons (pv 1) pa_nil)) (blkOk_by (N := ["_law_heap", "_law_many", "_law_total", "_law_rows", "_law_k"]) (sc := defScope sAll) (by decide +kernel)) (fun _ _ _ _ _ => (pg_name (i := 4) scAll.nd rfl (.inl rfl))) (fun _ _ _ _ _ => pts_nil) (fun _ _ _ _ _ => (pe_meth (pv 0) D_held.c D_held.m D_held.g (hr.mono (by decide)) D_held.b .nil passN (pa_cons (pv 4) pa_nil)))) (pa_cons (pe_meth0 (pv 0) D_boxes.c D_boxes.m D_boxes.g (hr.mono (by decide)) D_boxes.b .nil pass0) (pa_cons (pe_meth0 (pv 0) D_marked.c D_marked.m D_marked.g (hr.mono (by decide)) D_marked.b .nil pass0) (pa_cons (pe_meth0 (pv 0) D_waiting.c D_waiting.m D_waiting.g (hr.mono (by decide)) D_waiting.b .nil pass0) (pa_cons (pe_lst (pa_cons (pe_meth0 (pv 0) D_rounds.c D_rounds.m D_rounds.g (hr.mono (by decide)) D_rounds.b .nil pass0) pa_nil)) pa_nil)))))))
      (pss_one (ps_ret (pe_op op_cat (pv 3) (pe_lc (own := [("_law_k", 4)]) (g := gName 4) (tt := tYes) rfl scAll.nd (pi_range1 (by rfl) m_range (pa_cons (pv 2) pa_nil)) (blkOk_by (N := ["_law_heap", "_law_many", "_law_total", "_law_rows", "_law_k"]) (sc := defScope sAll) (by decide +kernel)) (fun _ _ _ _ _ => (pg_name (i := 4) scAll.nd rfl (.inl rfl))) (fun _ _ _ _ _ => pts_nil) (fun _ _ _ _ _ => (pe_meth (pv 0) D_look.c D_look.m D_look.g (hr.mono (by decide)) D_look.b .nil passN (pa_cons (pv 4) pa_nil)))))))), ?_⟩
    have hn8 := hS.good.hn.2
    refine ⟨_, rfl, ((S.hands.length : Nat) : Int), rfl, by omega, by omega, fun R1 n1 => ?_⟩
    rw [Int.toNat_natCast]
    refine lc_range (lo := 0) (n := S.hands.length) (fun i H' => Same H H' ∧ H' R1 = some (.lst ((S.hands.take i).map optV))) ⟨same_new n1, upd_same⟩ ?_ ?_
    · rintro i H' hi ⟨s1, hR⟩
      have h1 := hS.same s1
      obtain ⟨dx, fs, hob, hno⟩ := h1.ob
      have ok : okHand S (0 + (i : Int)) := ⟨by omega, by omega⟩
      refine ⟨rfl, _, rfl, p, dx, _, rfl, hob, hno _ (by decide), _, rfl, p, F, S, 0 + (i : Int), rfl, h1, ?_⟩
      refine (if_pos ok).mpr ⟨_, hR, size_of (by rw [List.length_map, List.length_take]; omega), same_put s1 n1, ?_⟩
      rw [upd_same, List.take_add_one, List.getElem?_eq_getElem hi, List.map_append]
      have e : S.hand i = S.hands[i] := by unfold HS.hand; rw [List.getD_eq_getElem?_getD, List.getElem?_eq_getElem hi]; rfl
      rw [show (0 + (i : Int)).toNat = i by omega, e]
      rfl
    rintro H1 ⟨s1, g1⟩
    rw [List.take_length] at g1
    have h1 := hS.same s1
    obtain ⟨dx, fs, hob, hno⟩ := h1.ob
    refine ⟨_, rfl, p, dx, _, rfl, hob, hno _ (by decide), p, F, S, rfl, h1, fun R2 n2 => ?_⟩
    have s2 : Same H1 (upd H1 R2 (.lst (S.keys.map nV))) := same_new n2
    have g2 : (upd H1 R2 (.lst (S.keys.map nV))) R2 = some (.lst (S.keys.map nV)) := upd_same
    generalize upd H1 R2 (.lst (S.keys.map nV)) = H2 at s2 g2
    have h2 := h1.same s2
    obtain ⟨dx, fs, hob, hno⟩ := h2.ob
    refine ⟨_, rfl, p, dx, _, rfl, hob, hno _ (by decide), p, F, S, rfl, h2, fun R3 n3 => ?_⟩
    have s3 : Same H2 (upd H2 R3 (.lst ((sortN S.marks).map nV))) := same_new n3
    have g3 : (upd H2 R3 (.lst ((sortN S.marks).map nV))) R3 = some (.lst ((sortN S.marks).map nV)) := upd_same
    generalize upd H2 R3 (.lst ((sortN S.marks).map nV)) = H3 at s3 g3
    have h3 := h2.same s3
    obtain ⟨dx, fs, hob, hno⟩ := h3.ob
    refine ⟨_, rfl, p, dx, _, rfl, hob, hno _ (by decide), p, F, S, rfl, h3, fun R4 n4 => ?_⟩
    have s4 : Same H3 (upd H3 R4 (.lst (S.line.map nV))) := same_new n4
    have g4 : (upd H3 R4 (.lst (S.line.map nV))) R4 = some (.lst (S.line.map nV)) := upd_same
    generalize upd H3 R4 (.lst (S.line.map nV)) = H4 at s4 g4
    have h4 := h3.same s4
    obtain ⟨dx, fs, hob, hno⟩ := h4.ob
    have h4c := h4
    obtain ⟨A4, a4, e4, G4⟩ := h4c
    refine ⟨_, rfl, p, dx, _, rfl, hob, hno _ (by decide), p, A4, raw S, rfl, a4, (by decide : 1 ≤ sizeLine), fun R5 n5 => ?_⟩
    have s5 : Same H4 (upd H4 R5 (.lst [V.int ((raw S).ended : Int)])) := same_new n5
    have g5 : (upd H4 R5 (.lst [V.int ((raw S).ended : Int)])) R5 = some (.lst [V.int ((S.ended : Nat) : Int)]) := upd_same
    generalize upd H4 R5 (.lst [V.int ((raw S).ended : Int)]) = H5 at s5 g5
    refine ⟨(by show 5 ≤ sizeLine; decide), fun D nD => ?_⟩
    have s6 : Same H5 (upd H5 D (.lst [V.ref R1, V.ref R2, V.ref R3, V.ref R4, V.ref R5])) := same_new nD
    have g6 : (upd H5 D (.lst [V.ref R1, V.ref R2, V.ref R3, V.ref R4, V.ref R5])) D = some (.lst [V.ref R1, V.ref R2, V.ref R3, V.ref R4, V.ref R5]) := upd_same
    generalize upd H5 D (.lst [V.ref R1, V.ref R2, V.ref R3, V.ref R4, V.ref R5]) = H6 at s6 g6
    have h6 := (h4.same s5).same s6
    refine ⟨_, rfl, _, rfl, ((total : Nat) : Int), rfl, by omega, by omega, fun R7 n7 => ?_⟩
    rw [Int.toNat_natCast]
    refine lc_range (lo := 0) (n := total) (fun i H' => Same H6 H' ∧ ∃ qs : List Addr, H' R7 = some (.lst (qs.map V.ref)) ∧ qs.length = i ∧ ∀ j q, qs[j]? = some q → q ≠ R7 ∧ H' q = some (.lst ((S.row j).map optV))) ⟨same_new n7, [], upd_same, rfl, fun j q e => by simp at e⟩ ?_ ?_
    · rintro i H' hi ⟨s7, qs, hR, lq, hq⟩
      have h7 := h6.same s7
      obtain ⟨dx, fs, hob, hno⟩ := h7.ob
      have ok : 0 ≤ (0 + (i : Int)) ∧ (0 + (i : Int)).toNat ∈ S.keys := ⟨by omega, by rw [show (0 + (i : Int)).toNat = i by omega]; exact hk i hi⟩
      refine ⟨rfl, _, rfl, p, dx, _, rfl, hob, hno _ (by decide), _, rfl, p, F, S, 0 + (i : Int), rfl, h7, ?_⟩
      refine (if_pos ok).mpr fun z nz => ?_
      rw [show (0 + (i : Int)).toNat = i by omega]
      have nz7 : z ≠ R7 := fun e => by rw [e, hR] at nz; cases nz
      have sz := same_new (o := .lst ((S.row i).map optV)) nz
      refine ⟨_, sz _ _ hR, size_of (by rw [List.length_map]; omega), fun b o e => ?_, qs ++ [z], ?_, by rw [List.length_append, lq]; rfl, fun j y e => ?_⟩
      · have n7b : b ≠ R7 := fun eb => by rw [eb, n7] at e; cases e
        rw [upd_ne n7b]
        exact sz _ _ (s7 _ _ e)
      · rw [upd_same, List.map_append]
        rfl
      · by_cases hj : j < qs.length
        · rw [List.getElem?_append_left hj] at e
          obtain ⟨a, b⟩ := hq j y e
          exact ⟨a, by rw [upd_ne a]; exact sz _ _ b⟩
        · have hj2 : j = qs.length := by
            have := (List.getElem?_eq_some_iff.mp e).1
            rw [List.length_append] at this
            simp only [List.length_cons, List.length_nil] at this
            omega
          subst hj2
          rw [List.getElem?_append_right (Nat.le_refl _), Nat.sub_self] at e
          have e' : z = y := Option.some.inj e
          subst e'
          exact ⟨nz7, by rw [upd_ne nz7, upd_same, lq]⟩
    rintro H7 ⟨s7, qs, hR7, lq, hq⟩
    refine ⟨D, R7, _, _, rfl, rfl, s7 _ _ g6, hR7, ?_, fun R nR => ?_⟩
    · rw [List.length_map]
      exact Nat.le_of_lt (size_of (by show 5 + qs.length ≤ _; omega))
    have s8 : Same H7 (upd H7 R (.lst ([V.ref R1, V.ref R2, V.ref R3, V.ref R4, V.ref R5] ++ qs.map V.ref))) := same_new nR
    have s67 := s7.trans s8
    have s57 := s6.trans s67
    have s47 := s5.trans s57
    have s37 := s4.trans s47
    have s27 := s3.trans s37
    have s17 := s2.trans s27
    refine q _ R (s1.trans s17) ((s1.trans (s2.trans (s3.trans (s4.trans (s5.trans (s6.trans s7)))))).free nR) ⟨[R1, R2, R3, R4, R5] ++ qs, ?_, ?_, fun i y x e1 e2 => ?_⟩
    · rw [upd_same, List.map_append]
      rfl
    · rw [List.length_append, lq]
      unfold rowsOf
      rw [List.length_append, List.length_map, List.length_range]
      rfl
    · unfold rowsOf at e2
      by_cases hi : i < 5
      · rw [List.getElem?_append_left hi] at e1 e2
        have : i = 0 ∨ i = 1 ∨ i = 2 ∨ i = 3 ∨ i = 4 := by omega
        rcases this with rfl | rfl | rfl | rfl | rfl
        · have a := Option.some.inj e1; have b := Option.some.inj e2; subst a b; exact s17 _ _ g1
        · have a := Option.some.inj e1; have b := Option.some.inj e2; subst a b; exact s27 _ _ g2
        · have a := Option.some.inj e1; have b := Option.some.inj e2; subst a b; exact s37 _ _ g3
        · have a := Option.some.inj e1; have b := Option.some.inj e2; subst a b; exact s47 _ _ g4
        · have a := Option.some.inj e1; have b := Option.some.inj e2; subst a b; exact s57 _ _ g5
      · rw [List.getElem?_append_right (by show 5 ≤ i; omega)] at e1 e2
        have l5 : ([R1, R2, R3, R4, R5] : List Addr).length = 5 := rfl
        have l5' : ([S.hands.map optV, S.keys.map nV, (sortN S.marks).map nV, S.line.map nV, [V.int ((S.ended : Nat) : Int)]] : List (List V)).length = 5 := rfl
        rw [l5] at e1
        rw [l5', List.getElem?_map] at e2
        obtain ⟨a, b⟩ := hq _ _ e1
        have hlt := (List.getElem?_eq_some_iff.mp e1).1
        rw [List.getElem?_range (by omega)] at e2
        have e2' := Option.some.inj e2
        subst e2'
        exact s8 _ _ b
end
end MK

set_option Elab.async false
set_option linter.all false
set_option pp.maxSteps 700
set_option maxRecDepth 100000
set_option maxHeartbeats 4000000
namespace MK
open PySem PySem.Spec PyProof.Rows L2 MM KG MP L2H
section
variable {P : Program} {w : World} {K : PySem.W.Frag} {mg : Str → Option Value} {base : Heap} {C : Addr} {EC : ECs}
theorem ok_wholeH {f : Addr} {fd : FuncData} (F : Fun K "_law_whole" "_law_whole" sWhole f fd) (m_isinstance : mg "isinstance" = none) (m_int : mg "int" = none) (m_bool : mg "bool" = none) : FnH P w K mg base CX0 1 f fd ["_law_found"] spWhole := by
  refine okH F scWhole (fun vs H Q E h => ?_) (fun cdv A outer s H vs Q E p0 hot hr h => ?_)
  · obtain ⟨i, rfl, _⟩ := h
    rfl
  · obtain ⟨i, rfl, q⟩ := h
    refine ⟨_, (pss_one (ps_ret (pe_and (pe_callB (isiK (K := K)) (by rfl) m_isinstance (by decide +kernel) (pa_cons (pv 0) (pa_cons (pe_bltn (v := .ty "int") (by rfl) m_int (by decide +kernel) rfl) pa_nil))) (pe_one (pe_not (pe_callB (isiK (K := K)) (by rfl) m_isinstance (by decide +kernel) (pa_cons (pv 0) (pa_cons (pe_bltn (v := .ty "bool") (by rfl) m_bool (by decide +kernel) rfl) pa_nil)))))))), ?_⟩
    refine ⟨_, rfl, .int i, .ty "int", _, _, true, rfl, .ty _, .base (.int i), kit_ty (by decide +kernel), true, rfl, iteT ?_⟩
    exact ⟨_, rfl, .int i, .ty "bool", _, _, false, rfl, .ty _, .base (.int i), kit_ty (by decide +kernel), false, rfl, q⟩
theorem ok_numbersH {f fW : Addr} {fd fdW : FuncData} (F : Fun K "_law_numbers" "_law_numbers" sNumbers f fd) (D__law_whole : DfH P w K mg base CX0 1 "_law_whole" fW fdW ["_law_found"] spWhole)
    (m_isinstance : mg "isinstance" = none) (m_list : mg "list" = none) (m_len : mg "len" = none) (m_range : mg "range" = none) : FnH P w K mg base CX0 2 f fd (["_law_found", "_law_due_here"]) spNumbers := by
  refine okH F scNumbers (fun vs H Q E h => ?_) (fun cdv A outer s H vs Q E p0 hot hr h => ?_)
  · obtain ⟨a, b, xs, rfl, _⟩ := h
    rfl
  · obtain ⟨a, b, xs, rfl, ha, hb, pl, len, q⟩ := h
    refine ⟨_, (pss_cons (ps_if (PW.pt (pw_or (pt_not (pt_val (pe_callB (isiK (K := K)) (by rfl) m_isinstance (by decide +kernel) (pa_cons (pv 0) (pa_cons (pe_bltn (v := .ty "list") (by rfl) m_list (by decide +kernel) rfl) pa_nil))))) (pw_or1 (pt_cmpR op_ne (pe_callB (lenS (K := K)) (by rfl) m_len (by decide +kernel) (pa_cons (pv 0) pa_nil)) (pe_callB (lenS (K := K)) (by rfl) m_len (by decide +kernel) (pa_cons (pv 1) pa_nil)) (nomark _))))) (pss_one (ps_ret pe_bl)) pss_nil)
      (pss_cons (ps_forH (passes_of rfl) ⟨_, hot, List.mem_cons_self⟩ (pi_range1H (by rfl) m_range (pa_cons (pe_callB (lenS (K := K)) (by rfl) m_len (by decide +kernel) (pa_cons (pv 1) pa_nil)) pa_nil)) (pg_name (i := 2) scNumbers.nd rfl (.inl rfl)) (pss_cons (ps_if (PW.pt (pw_and (pt_cmpR op_isN (pe_ix (ixL (K := K)) (pv 1) (pv 2) (fun _ _ => rfl)) pe_non (nomark _)) (pw_and1 (pt_cmpR op_notN (pe_ix (ixL (K := K)) (pv 0) (pv 2) (fun _ _ => rfl)) pe_non (nomark _))))) (pss_one (ps_ret pe_bl)) pss_nil)
      (pss_one (ps_if (PW.pt (pw_and (pt_cmpR op_notN (pe_ix (ixL (K := K)) (pv 1) (pv 2) (fun _ _ => rfl)) pe_non (nomark _)) (pw_and1 (PW.pt (pw_or (pt_not (pt_val (pe_callH D__law_whole.g (hr.mono (by decide)) ⟨_, hot, List.mem_cons_self⟩ (by rfl) D__law_whole.m D__law_whole.k D__law_whole.b passH0 (pa_cons (pe_ix (ixL (K := K)) (pv 0) (pv 2) (fun _ _ => rfl)) pa_nil)))) (pw_or1 (pt_cmpR op_ne (pe_ix (ixL (K := K)) (pv 0) (pv 2) (fun _ _ => rfl)) (pe_ix (ixL (K := K)) (pv 1) (pv 2) (fun _ _ => rfl)) (nomark _)))))))) (pss_one (ps_ret pe_bl)) pss_nil))))
      (pss_one (ps_ret pe_bl)))), ?_⟩
    have sa : SqL K H a xs := SqL.of ha
    have sb : SqL K H b xs := SqL.of hb
    refine ⟨_, rfl, .ref a, .ty "list", _, _, true, rfl, .ty _, .base (.lst ha), kit_ty (by decide +kernel), true, rfl, iteF ?_⟩
    refine ⟨_, rfl, a, xs, rfl, .inl sa, _, rfl, b, xs, rfl, .inl sb, rfl, _, rfl, ?_⟩
    rw [decide_eq_true rfl]
    refine iteF ?_
    refine ⟨_, rfl, b, xs, rfl, .inl sb, (xs.length : Int), rfl, by omega, by have := size2k (n := xs.length) (by omega); unfold sizeLine at this; omega, ?_⟩
    rw [Int.toNat_natCast]
    refine for_range (fun i σ H' => ∃ z, σ = [some (.ref a), some (.ref b), z] ∧ H' = H) ⟨none, rfl, rfl⟩ ?_ ?_
    · rintro i σ H' hi ⟨z, rfl, rfl⟩
      have ex : xs[i]? = some xs[i] := List.getElem?_eq_getElem hi
      have pi := pl _ (List.getElem_mem hi)
      generalize xs[i] = x at ex pi
      have ax : atI xs (0 + (i : Int)) = some x := by
        rw [Int.zero_add]
        exact atI_nat ex
      rcases pi with rfl | ⟨v, rfl⟩
      · refine ⟨_, rfl, _, rfl, b, xs, _, _, rfl, rfl, sb, ax, rfl, _, rfl, iteT ?_⟩
        refine ⟨_, rfl, _, rfl, a, xs, _, _, rfl, rfl, sa, ax, rfl, _, rfl, iteF ?_⟩
        refine ⟨_, rfl, _, rfl, b, xs, _, _, rfl, rfl, sb, ax, rfl, _, rfl, iteF ?_⟩
        exact iteF ⟨_, rfl, rfl⟩
      · refine ⟨_, rfl, _, rfl, b, xs, _, _, rfl, rfl, sb, ax, rfl, _, rfl, iteF (iteF ?_)⟩
        refine ⟨_, rfl, _, rfl, b, xs, _, _, rfl, rfl, sb, ax, rfl, _, rfl, iteT ?_⟩
        refine ⟨_, rfl, _, rfl, a, xs, _, _, rfl, rfl, sa, ax, v, rfl, true, rfl, iteF ?_⟩
        refine ⟨_, rfl, _, rfl, a, xs, _, _, rfl, rfl, sa, ax, _, rfl, _, rfl, b, xs, _, _, rfl, rfl, sb, ax, rfl, _, rfl, ?_⟩
        rw [decide_eq_true rfl]
        exact iteF ⟨_, rfl, rfl⟩
    · rintro σ H' ⟨z, rfl, rfl⟩
      exact q
theorem ok_allH {f fh fb fm fw fr fl : Addr} {fd fdh fdb fdm fdw fdr fdl : FuncData} (F : Fun K "_law_all" "_law_all" sAll f fd) (D_held : DmH P w K mg base CX0 2 C "held" fh fdh ["self", "hand"] (spHeldH C)) (D_boxes : DmH P w K mg base CX0 1 C "boxes" fb fdb ["self"] (spList C HS.keys))
    (D_marked : DmH P w K mg base CX0 1 C "marked" fm fdm ["self"] (spList C fun S => sortN S.marks)) (D_waiting : DmH P w K mg base CX0 1 C "waiting" fw fdw ["self"] (spList C HS.line)) (D_rounds : DmH P w K mg base CX0 1 C "rounds" fr fdr ["self"] (spRounds C)) (D_look : DmH P w K mg base CX0 1 C "look" fl fdl ["self", "box"] (spLookH C)) (m_range : mg "range" = none) : FnH P w K mg base CX0 3 f fd ["_law_heap", "_law_many", "_law_total"] (spAll C) := by
  refine okH F scAll (fun vs H Q E h => ?_) (fun cdv A outer s H vs Q E p0 hot hr h => ?_)
  · obtain ⟨p, F, S, total, rfl, _⟩ := h
    rfl
  · obtain ⟨p, F, S, total, rfl, hS, t12, hk, q⟩ := h
    refine ⟨_, (pss_cons (ps_set (i := 3) scAll.nd rfl (.inl rfl) (pe_lst (pa_cons (pe_lcH (own := [("_law_k", 4)]) (g := gName 4) (tt := tYes) rfl hot List.mem_cons_self scAll.nd (pi_range1H (by rfl) m_range (pa_cons (pv 1) pa_nil)) (blkOk_by (N := ["_law_heap", "_law_many", "_law_total", "_law_rows", "_law_k"]) (sc := defScope sAll) (by decide +kernel)) (fun _ _ _ _ _ => (pg_name (i := 4) scAll.nd rfl (.inl rfl))) (fun _ _ _ _ _ => pts_nil) (fun _ _ _ _ _ => (pe_methH (pv 0) D_held.c D_held.m D_held.g (hr.mono (by decide)) ⟨_, hot, List.mem_cons_self⟩ D_held.b passH0 (pa_cons (pv 4) pa_nil)))) (pa_cons (pe_meth0H (pv 0) D_boxes.c D_boxes.m D_boxes.g (hr.mono (by decide)) ⟨_, hot, List.mem_cons_self⟩ D_boxes.b passH0) (pa_cons (pe_meth0H (pv 0) D_marked.c D_marked.m D_marked.g (hr.mono (by decide)) ⟨_, hot, List.mem_cons_self⟩ D_marked.b passH0) (pa_cons (pe_meth0H (pv 0) D_waiting.c D_waiting.m D_waiting.g (hr.mono (by decide)) ⟨_, hot, List.mem_cons_self⟩ D_waiting.b passH0) (pa_cons (pe_lst (pa_cons (pe_meth0H (pv 0) D_rounds.c D_rounds.m D_rounds.g (hr.mono (by decide)) ⟨_, hot, List.mem_cons_self⟩ D_rounds.b passH0) pa_nil)) pa_nil)))))))
      (pss_one (ps_ret (pe_op op_cat (pv 3) (pe_lcH (own := [("_law_k", 4)]) (g := gName 4) (tt := tYes) rfl hot List.mem_cons_self scAll.nd (pi_range1H (by rfl) m_range (pa_cons (pv 2) pa_nil)) (blkOk_by (N := ["_law_heap", "_law_many", "_law_total", "_law_rows", "_law_k"]) (sc := defScope sAll) (by decide +kernel)) (fun _ _ _ _ _ => (pg_name (i := 4) scAll.nd rfl (.inl rfl))) (fun _ _ _ _ _ => pts_nil) (fun _ _ _ _ _ => (pe_methH (pv 0) D_look.c D_look.m D_look.g (hr.mono (by decide)) ⟨_, hot, List.mem_cons_self⟩ D_look.b passH0 (pa_cons (pv 4) pa_nil)))))))), ?_⟩
    have hn8 := hS.good.hn.2
    refine ⟨_, rfl, ((S.hands.length : Nat) : Int), rfl, by omega, by omega, fun R1 n1 => ?_⟩
    rw [Int.toNat_natCast]
    refine lc_range (lo := 0) (n := S.hands.length) (fun i H' => Same H H' ∧ H' R1 = some (.lst ((S.hands.take i).map optV))) ⟨same_new n1, upd_same⟩ ?_ ?_
    · rintro i H' hi ⟨s1, hR⟩
      have h1 := hS.same s1
      obtain ⟨dx, fs, hob, hno⟩ := h1.ob
      have ok : okHand S (0 + (i : Int)) := ⟨by omega, by omega⟩
      refine ⟨rfl, _, rfl, p, dx, _, rfl, hob, hno _ (by decide), _, rfl, p, F, S, 0 + (i : Int), rfl, h1, ok, _, hR, size_of (by rw [List.length_map, List.length_take]; omega), same_put s1 n1, ?_⟩
      rw [upd_same, List.take_add_one, List.getElem?_eq_getElem hi, List.map_append]
      have e : S.hand i = S.hands[i] := by unfold HS.hand; rw [List.getD_eq_getElem?_getD, List.getElem?_eq_getElem hi]; rfl
      rw [show (0 + (i : Int)).toNat = i by omega, e]
      rfl
    rintro H1 ⟨s1, g1⟩
    rw [List.take_length] at g1
    have h1 := hS.same s1
    obtain ⟨dx, fs, hob, hno⟩ := h1.ob
    refine ⟨_, rfl, p, dx, _, rfl, hob, hno _ (by decide), p, F, S, rfl, h1, fun R2 n2 => ?_⟩
    have s2 : Same H1 (upd H1 R2 (.lst (S.keys.map nV))) := same_new n2
    have g2 : (upd H1 R2 (.lst (S.keys.map nV))) R2 = some (.lst (S.keys.map nV)) := upd_same
    generalize upd H1 R2 (.lst (S.keys.map nV)) = H2 at s2 g2
    have h2 := h1.same s2
    obtain ⟨dx, fs, hob, hno⟩ := h2.ob
    refine ⟨_, rfl, p, dx, _, rfl, hob, hno _ (by decide), p, F, S, rfl, h2, fun R3 n3 => ?_⟩
    have s3 : Same H2 (upd H2 R3 (.lst ((sortN S.marks).map nV))) := same_new n3
    have g3 : (upd H2 R3 (.lst ((sortN S.marks).map nV))) R3 = some (.lst ((sortN S.marks).map nV)) := upd_same
    generalize upd H2 R3 (.lst ((sortN S.marks).map nV)) = H3 at s3 g3
    have h3 := h2.same s3
    obtain ⟨dx, fs, hob, hno⟩ := h3.ob
    refine ⟨_, rfl, p, dx, _, rfl, hob, hno _ (by decide), p, F, S, rfl, h3, fun R4 n4 => ?_⟩
    have s4 : Same H3 (upd H3 R4 (.lst (S.line.map nV))) := same_new n4
    have g4 : (upd H3 R4 (.lst (S.line.map nV))) R4 = some (.lst (S.line.map nV)) := upd_same
    generalize upd H3 R4 (.lst (S.line.map nV)) = H4 at s4 g4
    have h4 := h3.same s4
    obtain ⟨dx, fs, hob, hno⟩ := h4.ob
    have h4c := h4
    obtain ⟨A4, a4, e4, G4⟩ := h4c
    refine ⟨_, rfl, p, dx, _, rfl, hob, hno _ (by decide), p, A4, raw S, rfl, a4, (by decide : 1 ≤ sizeLine), fun R5 n5 => ?_⟩
    have s5 : Same H4 (upd H4 R5 (.lst [V.int ((raw S).ended : Int)])) := same_new n5
    have g5 : (upd H4 R5 (.lst [V.int ((raw S).ended : Int)])) R5 = some (.lst [V.int ((S.ended : Nat) : Int)]) := upd_same
    generalize upd H4 R5 (.lst [V.int ((raw S).ended : Int)]) = H5 at s5 g5
    refine ⟨(by show 5 ≤ sizeLine; decide), fun D nD => ?_⟩
    have s6 : Same H5 (upd H5 D (.lst [V.ref R1, V.ref R2, V.ref R3, V.ref R4, V.ref R5])) := same_new nD
    have g6 : (upd H5 D (.lst [V.ref R1, V.ref R2, V.ref R3, V.ref R4, V.ref R5])) D = some (.lst [V.ref R1, V.ref R2, V.ref R3, V.ref R4, V.ref R5]) := upd_same
    generalize upd H5 D (.lst [V.ref R1, V.ref R2, V.ref R3, V.ref R4, V.ref R5]) = H6 at s6 g6
    have h6 := (h4.same s5).same s6
    refine ⟨_, rfl, _, rfl, ((total : Nat) : Int), rfl, by omega, by omega, fun R7 n7 => ?_⟩
    rw [Int.toNat_natCast]
    refine lc_range (lo := 0) (n := total) (fun i H' => Same H6 H' ∧ ∃ qs : List Addr, H' R7 = some (.lst (qs.map V.ref)) ∧ qs.length = i ∧ ∀ j q, qs[j]? = some q → q ≠ R7 ∧ H' q = some (.lst ((S.row j).map optV))) ⟨same_new n7, [], upd_same, rfl, fun j q e => by simp at e⟩ ?_ ?_
    · rintro i H' hi ⟨s7, qs, hR, lq, hq⟩
      have h7 := h6.same s7
      obtain ⟨dx, fs, hob, hno⟩ := h7.ob
      have ok : 0 ≤ (0 + (i : Int)) ∧ (0 + (i : Int)).toNat ∈ S.keys := ⟨by omega, by rw [show (0 + (i : Int)).toNat = i by omega]; exact hk i hi⟩
      refine ⟨rfl, _, rfl, p, dx, _, rfl, hob, hno _ (by decide), _, rfl, p, F, S, 0 + (i : Int), rfl, h7, ok, fun z nz => ?_⟩
      rw [show (0 + (i : Int)).toNat = i by omega]
      have nz7 : z ≠ R7 := fun e => by rw [e, hR] at nz; cases nz
      have sz := same_new (o := .lst ((S.row i).map optV)) nz
      refine ⟨_, sz _ _ hR, size_of (by rw [List.length_map]; omega), fun b o e => ?_, qs ++ [z], ?_, by rw [List.length_append, lq]; rfl, fun j y e => ?_⟩
      · have n7b : b ≠ R7 := fun eb => by rw [eb, n7] at e; cases e
        rw [upd_ne n7b]
        exact sz _ _ (s7 _ _ e)
      · rw [upd_same, List.map_append]
        rfl
      · by_cases hj : j < qs.length
        · rw [List.getElem?_append_left hj] at e
          obtain ⟨a, b⟩ := hq j y e
          exact ⟨a, by rw [upd_ne a]; exact sz _ _ b⟩
        · have hj2 : j = qs.length := by
            have := (List.getElem?_eq_some_iff.mp e).1
            rw [List.length_append] at this
            simp only [List.length_cons, List.length_nil] at this
            omega
          subst hj2
          rw [List.getElem?_append_right (Nat.le_refl _), Nat.sub_self] at e
          have e' : z = y := Option.some.inj e
          subst e'
          exact ⟨nz7, by rw [upd_ne nz7, upd_same, lq]⟩
    rintro H7 ⟨s7, qs, hR7, lq, hq⟩
    refine ⟨D, R7, _, _, rfl, rfl, s7 _ _ g6, hR7, ?_, fun R nR => ?_⟩
    · rw [List.length_map]
      exact Nat.le_of_lt (size_of (by show 5 + qs.length ≤ _; omega))
    have s8 : Same H7 (upd H7 R (.lst ([V.ref R1, V.ref R2, V.ref R3, V.ref R4, V.ref R5] ++ qs.map V.ref))) := same_new nR
    have s67 := s7.trans s8
    have s57 := s6.trans s67
    have s47 := s5.trans s57
    have s37 := s4.trans s47
    have s27 := s3.trans s37
    have s17 := s2.trans s27
    refine q _ R (s1.trans s17) ((s1.trans (s2.trans (s3.trans (s4.trans (s5.trans (s6.trans s7)))))).free nR) ⟨[R1, R2, R3, R4, R5] ++ qs, ?_, ?_, fun i y x e1 e2 => ?_⟩
    · rw [upd_same, List.map_append]
      rfl
    · rw [List.length_append, lq]
      unfold rowsOf
      rw [List.length_append, List.length_map, List.length_range]
      rfl
    · unfold rowsOf at e2
      by_cases hi : i < 5
      · rw [List.getElem?_append_left hi] at e1 e2
        have : i = 0 ∨ i = 1 ∨ i = 2 ∨ i = 3 ∨ i = 4 := by omega
        rcases this with rfl | rfl | rfl | rfl | rfl
        · have a := Option.some.inj e1; have b := Option.some.inj e2; subst a b; exact s17 _ _ g1
        · have a := Option.some.inj e1; have b := Option.some.inj e2; subst a b; exact s27 _ _ g2
        · have a := Option.some.inj e1; have b := Option.some.inj e2; subst a b; exact s37 _ _ g3
        · have a := Option.some.inj e1; have b := Option.some.inj e2; subst a b; exact s47 _ _ g4
        · have a := Option.some.inj e1; have b := Option.some.inj e2; subst a b; exact s57 _ _ g5
      · rw [List.getElem?_append_right (by show 5 ≤ i; omega)] at e1 e2
        have l5 : ([R1, R2, R3, R4, R5] : List Addr).length = 5 := rfl
        have l5' : ([S.hands.map optV, S.keys.map nV, (sortN S.marks).map nV, S.line.map nV, [V.int ((S.ended : Nat) : Int)]] : List (List V)).length = 5 := rfl
        rw [l5] at e1
        rw [l5', List.getElem?_map] at e2
        obtain ⟨a, b⟩ := hq _ _ e1
        have hlt := (List.getElem?_eq_some_iff.mp e1).1
        rw [List.getElem?_range (by omega)] at e2
        have e2' := Option.some.inj e2
        subst e2'
        exact s8 _ _ b
end
end MK

set_option Elab.async false
set_option linter.all false
set_option pp.maxSteps 700
set_option maxRecDepth 100000
set_option maxHeartbeats 4000000
namespace MK
open PySem PySem.Spec PyProof.Rows L2 MM KG MP L2H
section
variable {P : Program} {w : World} {K : PySem.W.Frag} {mg : Str → Option Value} {base : Heap} {C : Addr} {EC : ECs}
/-- which of the eight classes the error at D's class is of -/
structure KindsOf (K : PySem.W.Frag) (EC : ECs) (D : Addr) (bs : List Bool) : Prop where
  len : bs.length = 8
  t0 : PySem.W.kitOne K (.ref D) (.ref EC.noHand) = some (bs.getD 0 false)
  t1 : PySem.W.kitOne K (.ref D) (.ref EC.noSlot) = some (bs.getD 1 false)
  t2 : PySem.W.kitOne K (.ref D) (.ref EC.noRoom) = some (bs.getD 2 false)
  t3 : PySem.W.kitOne K (.ref D) (.ref EC.nothing) = some (bs.getD 3 false)
  t4 : PySem.W.kitOne K (.ref D) (.ref EC.noBox) = some (bs.getD 4 false)
  t5 : PySem.W.kitOne K (.ref D) (.ref EC.noWork) = some (bs.getD 5 false)
  t6 : PySem.W.kitOne K (.ref D) (.ref EC.noHeap) = some (bs.getD 6 false)
  t7 : PySem.W.kitOne K (.ref D) (.ref EC.noDeed) = some (bs.getD 7 false)

def kindsL (bs : List Bool) : List Nat := (List.range 8).filter fun k => bs.getD k false
def spKinds (K : PySem.W.Frag) (EC : ECs) : Addr × Obj → Sp := fun p vs H Q _ => vs = [.ref p.1] ∧ ∃ (D : Addr) (bs : List Bool), Zc (.ref D) none p.2 ∧ (∃ vs, p.2.data = .fields vs) ∧ ExcC K D ∧ KindsOf K EC D bs ∧
  ∀ H' R, Same H H' → H' R = some (.lst ((kindsL bs).map nV)) → Q (.ref R) H'
theorem ok_kinds {f : Addr} {fd : FuncData} (F : Fun K "_law_kinds" "_law_kinds" sKinds f fd) (T_NoHand : ExC K mg "NoHand" EC.noHand) (T_NoSlot : ExC K mg "NoSlot" EC.noSlot) (T_NoRoom : ExC K mg "NoRoom" EC.noRoom) (T_NothingHeld : ExC K mg "NothingHeld" EC.nothing) (T_NoBox : ExC K mg "NoBox" EC.noBox) (T_NoWork : ExC K mg "NoWork" EC.noWork) (T_NoHeap : ExC K mg "NoHeap" EC.noHeap) (T_NoDeed : ExC K mg "NoDeed" EC.noDeed) (m_isinstance : mg "isinstance" = none) (m_range : mg "range" = none) : FnHp P w K mg base CX0 1 f fd ["_law_e"] (spKinds K EC) := by
  refine okHp F scKinds (fun p vs H Q E h => ?_) (fun cdv A outer s H vs Q E p0 hot hr h => ?_)
  · obtain ⟨rfl, _⟩ := h
    rfl
  · obtain ⟨rfl, D, bs, hz, hf, EX, ⟨bl, t0, t1, t2, t3, t4, t5, t6, t7⟩, q⟩ := h
    refine ⟨_, (pss_cons (ps_set (i := 1) scKinds.nd rfl (.inr rfl) (pe_lst (pa_cons (pe_callB (call_isEp (a := p0.1) (oe := p0.2) List.mem_cons_self EX hz hf) (by rfl) m_isinstance (by decide +kernel) (pa_cons (pv 0) (pa_cons (pe_glob (v := .ref EC.noHand) (by rfl) T_NoHand.gP rfl) pa_nil))) (pa_cons (pe_callB (call_isEp (a := p0.1) (oe := p0.2) List.mem_cons_self EX hz hf) (by rfl) m_isinstance (by decide +kernel) (pa_cons (pv 0) (pa_cons (pe_glob (v := .ref EC.noSlot) (by rfl) T_NoSlot.gP rfl) pa_nil))) (pa_cons (pe_callB (call_isEp (a := p0.1) (oe := p0.2) List.mem_cons_self EX hz hf) (by rfl) m_isinstance (by decide +kernel) (pa_cons (pv 0) (pa_cons (pe_glob (v := .ref EC.noRoom) (by rfl) T_NoRoom.gP rfl) pa_nil))) (pa_cons (pe_callB (call_isEp (a := p0.1) (oe := p0.2) List.mem_cons_self EX hz hf) (by rfl) m_isinstance (by decide +kernel) (pa_cons (pv 0) (pa_cons (pe_glob (v := .ref EC.nothing) (by rfl) T_NothingHeld.gP rfl) pa_nil))) pa_nil))))))
      (pss_cons (ps_set (i := 1) scKinds.nd rfl (.inr rfl) (pe_op op_cat (pv 1) (pe_lst (pa_cons (pe_callB (call_isEp (a := p0.1) (oe := p0.2) List.mem_cons_self EX hz hf) (by rfl) m_isinstance (by decide +kernel) (pa_cons (pv 0) (pa_cons (pe_glob (v := .ref EC.noBox) (by rfl) T_NoBox.gP rfl) pa_nil))) (pa_cons (pe_callB (call_isEp (a := p0.1) (oe := p0.2) List.mem_cons_self EX hz hf) (by rfl) m_isinstance (by decide +kernel) (pa_cons (pv 0) (pa_cons (pe_glob (v := .ref EC.noWork) (by rfl) T_NoWork.gP rfl) pa_nil))) (pa_cons (pe_callB (call_isEp (a := p0.1) (oe := p0.2) List.mem_cons_self EX hz hf) (by rfl) m_isinstance (by decide +kernel) (pa_cons (pv 0) (pa_cons (pe_glob (v := .ref EC.noHeap) (by rfl) T_NoHeap.gP rfl) pa_nil))) (pa_cons (pe_callB (call_isEp (a := p0.1) (oe := p0.2) List.mem_cons_self EX hz hf) (by rfl) m_isinstance (by decide +kernel) (pa_cons (pv 0) (pa_cons (pe_glob (v := .ref EC.noDeed) (by rfl) T_NoDeed.gP rfl) pa_nil))) pa_nil)))))))
      (pss_one (ps_ret (pe_lcH (own := [("_law_k", 2)]) (g := gName 2) rfl hot List.mem_cons_self scKinds.nd (pi_range1H (by rfl) m_range (pa_cons pe_int pa_nil)) (blkOk_by (N := ["_law_e", "_law_kinds_here", "_law_k"]) (sc := defScope sKinds) (by decide +kernel)) (fun _ _ _ _ _ => (pg_name (i := 2) scKinds.nd rfl (.inl rfl))) (fun _ _ _ _ _ => pts_one (pt_val (pe_ix (ixL (K := K)) (pv 1) (pv 2) (fun _ _ => rfl)))) (fun _ _ _ _ _ => (pv 2))))))), ?_⟩
    obtain ⟨b0, b1, b2, b3, b4, b5, b6, b7, rfl⟩ : ∃ b0 b1 b2 b3 b4 b5 b6 b7, bs = [b0, b1, b2, b3, b4, b5, b6, b7] := by
      match bs, bl with
      | [b0, b1, b2, b3, b4, b5, b6, b7], _ => exact ⟨b0, b1, b2, b3, b4, b5, b6, b7, rfl⟩
    refine ⟨_, rfl, .ref EC.noHand, .ref EC.noHand, b0, rfl, fun _ h => h, t0, _, rfl, .ref EC.noSlot, .ref EC.noSlot, b1, rfl, fun _ h => h, t1, _, rfl, .ref EC.noRoom, .ref EC.noRoom, b2, rfl, fun _ h => h, t2, _, rfl, .ref EC.nothing, .ref EC.nothing, b3, rfl, fun _ h => h, t3, (by show 4 ≤ sizeLine; decide), fun x nx => ?_⟩
    have s1 : Same H (upd H x (.lst [V.bl b0, V.bl b1, V.bl b2, V.bl b3])) := same_new nx
    have g1 : (upd H x (.lst [V.bl b0, V.bl b1, V.bl b2, V.bl b3])) x = some (.lst [V.bl b0, V.bl b1, V.bl b2, V.bl b3]) := upd_same
    generalize upd H x (.lst [V.bl b0, V.bl b1, V.bl b2, V.bl b3]) = H1 at s1 g1
    refine ⟨_, rfl, _, rfl, .ref EC.noBox, .ref EC.noBox, b4, rfl, fun _ h => h, t4, _, rfl, .ref EC.noWork, .ref EC.noWork, b5, rfl, fun _ h => h, t5, _, rfl, .ref EC.noHeap, .ref EC.noHeap, b6, rfl, fun _ h => h, t6, _, rfl, .ref EC.noDeed, .ref EC.noDeed, b7, rfl, fun _ h => h, t7, (by show 4 ≤ sizeLine; decide), fun y ny => ?_⟩
    have s2 : Same H1 (upd H1 y (.lst [V.bl b4, V.bl b5, V.bl b6, V.bl b7])) := same_new ny
    have g2 : (upd H1 y (.lst [V.bl b4, V.bl b5, V.bl b6, V.bl b7])) y = some (.lst [V.bl b4, V.bl b5, V.bl b6, V.bl b7]) := upd_same
    generalize upd H1 y (.lst [V.bl b4, V.bl b5, V.bl b6, V.bl b7]) = H2 at s2 g2
    refine ⟨x, y, _, _, rfl, rfl, s2 _ _ g1, g2, (by show 4 + 4 ≤ sizeLine; decide), fun z nz => ?_⟩
    have s3 : Same H2 (upd H2 z (.lst ([V.bl b0, V.bl b1, V.bl b2, V.bl b3] ++ [V.bl b4, V.bl b5, V.bl b6, V.bl b7]))) := same_new nz
    have g3 : (upd H2 z (.lst ([V.bl b0, V.bl b1, V.bl b2, V.bl b3] ++ [V.bl b4, V.bl b5, V.bl b6, V.bl b7]))) z = some (.lst ([b0, b1, b2, b3, b4, b5, b6, b7].map V.bl)) := upd_same
    generalize upd H2 z (.lst ([V.bl b0, V.bl b1, V.bl b2, V.bl b3] ++ [V.bl b4, V.bl b5, V.bl b6, V.bl b7])) = H3 at s3 g3
    have s03 := s1.trans (s2.trans s3)
    generalize [b0, b1, b2, b3, b4, b5, b6, b7] = bs at g3 q bl
    refine ⟨8, rfl, by decide, by decide, fun R nR => ?_⟩
    refine lc_range (lo := 0) (n := 8) (fun i H' => Same H3 H' ∧ H' R = some (.lst (((List.range i).filter fun k => bs.getD k false).map nV))) ⟨same_new nR, upd_same⟩ ?_ ?_
    · rintro i H' hi ⟨s4, hR⟩
      have at_ : atI (bs.map V.bl) (0 + (i : Int)) = some (V.bl (bs.getD i false)) := by
        rw [Int.zero_add]
        refine atI_nat ?_
        rw [List.getElem?_map, List.getElem?_eq_getElem (by omega), List.getD_eq_getElem?_getD, List.getElem?_eq_getElem (by omega)]
        rfl
      refine ⟨rfl, _, rfl, _, rfl, z, _, _, _, rfl, rfl, SqL.of (s4 _ _ g3), at_, _, rfl, ?_⟩
      have fl : ((List.range i).filter fun k => bs.getD k false).length ≤ 8 := Nat.le_trans (List.length_filter_le _ _) (by rw [List.length_range]; omega)
      rw [List.range_succ, List.filter_append]
      cases c : bs.getD i false with
      | true =>
        refine iteT ⟨_, rfl, _, hR, size_of (by rw [List.length_map]; omega), same_put s4 nR, ?_⟩
        rw [upd_same, List.map_append]
        simp only [List.filter_cons, c, if_true, List.filter_nil, List.map_cons, List.map_nil]
        rw [Int.zero_add]
        rfl
      | false =>
        refine iteF ⟨s4, ?_⟩
        rw [hR]
        simp only [List.filter_cons, c, List.filter_nil, List.append_nil, Bool.false_eq_true, if_false]
    · rintro H4 ⟨s4, hR⟩
      exact q H4 R (s03.trans s4) hR
end
end MK

set_option Elab.async false
set_option linter.all false
set_option pp.maxSteps 700
set_option maxRecDepth 100000
set_option maxHeartbeats 4000000
namespace MK
open PySem PySem.Spec PyProof.Rows L2 MM KG MP
section
variable {P : Program} {w : World} {K : PySem.W.Frag} {mg : Str → Option Value} {base : Heap} {C : Addr} {EC : ECs}
theorem beq_str (x p : Str) : (p == x) = decide (x = p) := by
  by_cases h : x = p
  · subst h
    rw [decide_eq_true rfl]
    exact beq_self_eq_true x
  · rw [decide_eq_false h]
    exact beq_false_of_ne (Ne.symm h)
theorem in2 (x a b : Str) : inV (V.str x) [V.str a, V.str b] = decide (x = a ∨ x = b) := by
  show ((a == x) || ((b == x) || false)) = _
  rw [beq_str, beq_str, Bool.or_false, Bool.decide_or]
theorem in3 (x a b c : Str) : inV (V.str x) [V.str a, V.str b, V.str c] = decide (x = a ∨ x = b ∨ x = c) := by
  show ((a == x) || ((b == x) || ((c == x) || false))) = _
  rw [beq_str, beq_str, beq_str, Bool.or_false, Bool.decide_or, Bool.decide_or]
section
variable (u : Str) (a b c : Int) (slots : List Int) (many room total : Int)
abbrev inH (x : Int) : Prop := 0 ≤ x ∧ x < many
def hd6 : Int := if u = ("put" : Str) then a else b
def d8 : Option Nat := if u = ("work" : Str) ∧ ¬ (0 ≤ c ∧ c ≤ 2500) then some 5 else none
def d7 : Option Nat := if u = ("look" : Str) ∧ ¬ (0 ≤ c ∧ c < total) then some 4 else d8 u c
def d6 : Option Nat := if u = ("take" : Str) ∨ u = ("put" : Str) then (if (slots.length : Int) ≤ hd6 u a b then some 3 else if 0 ≤ c ∧ c < slots.getD (hd6 u a b).toNat 0 then d7 u c total else some 1) else d7 u c total
def d5 : Option Nat := if u = ("make" : Str) ∧ room ≤ total then some 2 else d6 u a b c slots total
def d4 : Option Nat := if u = ("make" : Str) ∧ ¬ (0 ≤ c ∧ c ≤ 4) then some 1 else d5 u a b c slots room total
def d3 : Option Nat := if (u = ("take" : Str) ∨ u = ("put" : Str)) ∧ ¬ (inH many a ∧ inH many b) then some 0 else d4 u a b c slots room total
def d2 : Option Nat := if u = ("share" : Str) ∧ ¬ (inH many a ∧ inH many b) then some 0 else d3 u a b c slots many room total
def d1 : Option Nat := if (u = ("make" : Str) ∨ u = ("held" : Str) ∨ u = ("drop" : Str)) ∧ ¬ inH many a then some 0 else d2 u a b c slots many room total
end
def spDue5 : Sp := fun vs H Q _ => ∃ (q sl : Addr) (u : Str) (a b c : Int) (slots : List Int) (many room total : Int), vs = [.ref q, .ref sl, .int many, .int room, .int total] ∧ H q = some (.lst [.str u, .int a, .int b, .int c]) ∧ H sl = some (.lst (slots.map V.int)) ∧ slots.length ≤ 8 ∧
  ∀ H' R, Same H H' → H R = none → H' R = some (.lst ((d1 u a b c slots many room total).toList.map nV)) → Q (.ref R) H'
theorem ok_due {f : Addr} {fd : FuncData} (F : Fun K "_law_due" "_law_due" sDue f fd) (m_len : mg "len" = none) : FnOk P w K mg base CX0 1 f fd ["_law_deed", "_law_slots", "_law_many", "_law_room", "_law_total"] spDue5 := by
  refine F.ok scDue (fun vs H Q E h => ?_) (fun cdv A outer s H vs Q E hr h => ?_)
  · obtain ⟨q, sl, u, a, b, c, slots, many, room, total, rfl, _⟩ := h
    rfl
  · obtain ⟨q, sl, u, a, b, c, slots, many, room, total, rfl, hq, hs, l8, k⟩ := h
    refine ⟨_, (pss_cons (ps_set (i := 5) scDue.nd rfl (.inl rfl) (pe_ix (ixL (K := K)) (pv 0) pe_int (fun _ _ => rfl)))
      (C8.pss_cut (ps_if (PW.pt (pw_and (pt_cmpR op_in_seq (pv 5) (pe_tup (pa_cons pe_str (pa_cons pe_str (pa_cons pe_str pa_nil)))) (by rfl)) (pw_and1 (pt_not (pt_chain op_le op_lt pe_int (pe_ix (ixL (K := K)) (pv 0) pe_int (fun _ _ => rfl)) (pv 2)))))) (pss_one (ps_ret (pe_lst (pa_cons pe_int pa_nil)))) pss_nil)
      (C8.pss_cut (ps_if (PW.pt (pw_and (pt_cmpR op_eq (pv 5) pe_str (nomark _)) (pw_and1 (pt_not (PW.pt (pw_and (pt_chain op_le op_lt pe_int (pe_ix (ixL (K := K)) (pv 0) pe_int (fun _ _ => rfl)) (pv 2)) (pw_and1 (pt_chain op_le op_lt pe_int (pe_ix (ixL (K := K)) (pv 0) pe_int (fun _ _ => rfl)) (pv 2))))))))) (pss_one (ps_ret (pe_lst (pa_cons pe_int pa_nil)))) pss_nil)
      (C8.pss_cut (ps_if (PW.pt (pw_and (pt_cmpR op_in_seq (pv 5) (pe_tup (pa_cons pe_str (pa_cons pe_str pa_nil))) (by rfl)) (pw_and1 (pt_not (PW.pt (pw_and (pt_chain op_le op_lt pe_int (pe_ix (ixL (K := K)) (pv 0) pe_int (fun _ _ => rfl)) (pv 2)) (pw_and1 (pt_chain op_le op_lt pe_int (pe_ix (ixL (K := K)) (pv 0) pe_int (fun _ _ => rfl)) (pv 2))))))))) (pss_one (ps_ret (pe_lst (pa_cons pe_int pa_nil)))) pss_nil)
      (C8.pss_cut (ps_if (PW.pt (pw_and (pt_cmpR op_eq (pv 5) pe_str (nomark _)) (pw_and1 (pt_not (pt_chain op_le op_le pe_int (pe_ix (ixL (K := K)) (pv 0) pe_int (fun _ _ => rfl)) pe_int))))) (pss_one (ps_ret (pe_lst (pa_cons pe_int pa_nil)))) pss_nil)
      (C8.pss_cut (ps_if (PW.pt (pw_and (pt_cmpR op_eq (pv 5) pe_str (nomark _)) (pw_and1 (pt_cmpR op_ge (pv 4) (pv 3) (nomark _))))) (pss_one (ps_ret (pe_lst (pa_cons pe_int pa_nil)))) pss_nil)
      (C8.pss_cut (ps_if (pt_cmpR op_in_seq (pv 5) (pe_tup (pa_cons pe_str (pa_cons pe_str pa_nil))) (by rfl)) (pss_cons (ps_set (i := 6) scDue.nd rfl (.inl rfl) (pe_ix (ixL (K := K)) (pv 0) pe_int (fun _ _ => rfl)))
      (C8.pss_cut (ps_if (pt_cmpR op_eq (pv 5) pe_str (nomark _)) (pss_one (ps_set (i := 6) scDue.nd rfl (.inl rfl) (pe_ix (ixL (K := K)) (pv 0) pe_int (fun _ _ => rfl)))) pss_nil)
      (pss_cons (ps_if (pt_cmpR op_ge (pv 6) (pe_callB (lenS (K := K)) (by rfl) m_len (by decide +kernel) (pa_cons (pv 1) pa_nil)) (nomark _)) (pss_one (ps_ret (pe_lst (pa_cons pe_int pa_nil)))) pss_nil)
      (pss_one (ps_if (pt_not (pt_chain op_le op_lt pe_int (pe_ix (ixL (K := K)) (pv 0) pe_int (fun _ _ => rfl)) (pe_ix (ixL (K := K)) (pv 1) (pv 6) (fun _ _ => rfl)))) (pss_one (ps_ret (pe_lst (pa_cons pe_int pa_nil)))) pss_nil))))) pss_nil)
      (C8.pss_cut (ps_if (PW.pt (pw_and (pt_cmpR op_eq (pv 5) pe_str (nomark _)) (pw_and1 (pt_not (pt_chain op_le op_lt pe_int (pe_ix (ixL (K := K)) (pv 0) pe_int (fun _ _ => rfl)) (pv 4)))))) (pss_one (ps_ret (pe_lst (pa_cons pe_int pa_nil)))) pss_nil)
      (C8.pss_cut (ps_if (PW.pt (pw_and (pt_cmpR op_eq (pv 5) pe_str (nomark _)) (pw_and1 (pt_not (pt_chain op_le op_le pe_int (pe_ix (ixL (K := K)) (pv 0) pe_int (fun _ _ => rfl)) pe_int))))) (pss_one (ps_ret (pe_lst (pa_cons pe_int pa_nil)))) pss_nil)
      (pss_one (ps_ret (pe_lst pa_nil)))))))))))), ?_⟩
    generalize hD : d1 u a b c slots many room total = D at k
    have ret : ∀ (H' : Hp) (n : Nat), Same H H' → D = some n → ∀ R, H' R = none → Q (.ref R) (upd H' R (.lst [V.int ((n : Nat) : Int)])) := fun H' n s e R nR => k _ R (s.trans (same_new nR)) (s.free nR) (by rw [upd_same, e]; rfl)
    have i1 : ∀ H', Same H H' → SqL K H' q [.str u, .int a, .int b, .int c] := fun H' s => SqL.of (s _ _ hq)
    refine ⟨_, rfl, q, _, 0, V.str u, rfl, rfl, i1 H (Same.refl H), atI_nat (j := 0) rfl, ?_⟩
    -- hands of a make, a held, a drop
    refine ⟨fun σ' H' => σ' = [some (.ref q), some (.ref sl), some (.int many), some (.int room), some (.int total), some (.str u), none] ∧ Same H H' ∧ D = d2 u a b c slots many room total, ?_, ?_⟩
    · refine ⟨_, rfl, (by show 3 ≤ sizeLine; decide), fun T nT => ?_⟩
      have s1 : Same H (upd H T (.tup [V.str "make", V.str "held", V.str "drop"])) := same_new nT
      refine ⟨T, _, rfl, .inr (SqT.of upd_same), rfl, rfl, _, rfl, ?_⟩
      rw [show (if false = true then !inV (V.str u) [V.str "make", V.str "held", V.str "drop"] else inV (V.str u) [V.str "make", V.str "held", V.str "drop"]) = inV (V.str u) [V.str "make", V.str "held", V.str "drop"] from rfl, in3]
      generalize upd H T (.tup [V.str "make", V.str "held", V.str "drop"]) = H1 at s1
      unfold d1 at hD
      by_cases m : u = ("make" : Str) ∨ u = ("held" : Str) ∨ u = ("drop" : Str)
      · rw [decide_eq_true m]
        refine iteT ⟨_, rfl, q, _, 1, V.int a, rfl, rfl, i1 _ s1, atI_nat (j := 1) rfl, _, _, rfl, rfl, _, rfl, ite2 (fun e => ?_) (fun e => ?_)⟩
        · refine ⟨_, rfl, _, _, rfl, rfl, _, rfl, ?_⟩
          by_cases e2 : a < many
          · refine iteNS e2 ⟨rfl, s1, ?_⟩
            rw [← hD, if_neg (fun h => h.2 ⟨of_decide_eq_true e, e2⟩)]
          · refine iteNT e2 ⟨(by show 1 ≤ sizeLine; decide), fun R nR => ret H1 0 s1 ?_ R nR⟩
            rw [← hD, if_pos ⟨m, fun h => e2 h.2⟩]
        · refine ⟨_, rfl, iteT ⟨(by show 1 ≤ sizeLine; decide), fun R nR => ret H1 0 s1 ?_ R nR⟩⟩
          rw [← hD, if_pos ⟨m, fun h => e (decide_eq_true h.1)⟩]
      · rw [decide_eq_false m]
        refine iteF ⟨rfl, s1, ?_⟩
        rw [← hD, if_neg (fun h => m h.1)]
    rintro σ1 H1 ⟨rfl, s1, hD1⟩
    -- hands of a share
    refine ⟨fun σ' H' => σ' = [some (.ref q), some (.ref sl), some (.int many), some (.int room), some (.int total), some (.str u), none] ∧ Same H H' ∧ D = d3 u a b c slots many room total, ?_, ?_⟩
    · unfold d2 at hD1
      refine ⟨_, rfl, rfl, _, rfl, ?_⟩
      by_cases m : u = ("share" : Str)
      · rw [decide_eq_true (congrArg V.str m)]
        have bad : ¬ (inH many a ∧ inH many b) → D = some 0 := fun h => by rw [hD1, if_pos ⟨m, h⟩]
        have bd : ∀ (h : ¬ (inH many a ∧ inH many b)) R, H1 R = none → Q (.ref R) (upd H1 R (.lst [V.int ((0 : Nat) : Int)])) := fun h R nR => ret H1 0 s1 (bad h) R nR
        refine iteT ⟨_, rfl, q, _, 1, V.int a, rfl, rfl, i1 _ s1, atI_nat (j := 1) rfl, _, _, rfl, rfl, _, rfl, ite2 (fun e => ?_) (fun e => ?_)⟩
        · refine ⟨_, rfl, _, _, rfl, rfl, _, rfl, ite2 (fun e2 => ?_) (fun e2 => iteT ⟨(by show 1 ≤ sizeLine; decide), bd fun h => e2 (decide_eq_true h.1.2)⟩)⟩
          refine ⟨_, rfl, q, _, 2, V.int b, rfl, rfl, i1 _ s1, atI_nat (j := 2) rfl, _, _, rfl, rfl, _, rfl, ite2 (fun e3 => ?_) (fun e3 => ?_)⟩
          · refine ⟨_, rfl, _, _, rfl, rfl, _, rfl, ?_⟩
            by_cases e4 : b < many
            · refine iteNS e4 ⟨rfl, s1, ?_⟩
              rw [hD1, if_neg (fun h => h.2 ⟨⟨of_decide_eq_true e, of_decide_eq_true e2⟩, of_decide_eq_true e3, e4⟩)]
            · exact iteNT e4 ⟨(by show 1 ≤ sizeLine; decide), bd fun h => e4 h.2.2⟩
          · exact ⟨_, rfl, iteT ⟨(by show 1 ≤ sizeLine; decide), bd fun h => e3 (decide_eq_true h.2.1)⟩⟩
        · exact ⟨_, rfl, iteF (iteT ⟨(by show 1 ≤ sizeLine; decide), bd fun h => e (decide_eq_true h.1.1)⟩)⟩
      · rw [decide_eq_false (fun h => m (V.str.inj h))]
        refine iteF ⟨rfl, s1, ?_⟩
        rw [hD1, if_neg (fun h => m h.1)]
    rintro σ2 H2 ⟨rfl, s2, hD2⟩
    -- hands of a take, a put
    refine ⟨fun σ' H' => σ' = [some (.ref q), some (.ref sl), some (.int many), some (.int room), some (.int total), some (.str u), none] ∧ Same H H' ∧ D = d4 u a b c slots room total ∧ ((u = ("take" : Str) ∨ u = ("put" : Str)) → 0 ≤ a ∧ 0 ≤ b), ?_, ?_⟩
    · unfold d3 at hD2
      refine ⟨_, rfl, (by show 2 ≤ sizeLine; decide), fun T nT => ?_⟩
      have s3 : Same H (upd H2 T (.tup [V.str "take", V.str "put"])) := s2.trans (same_new nT)
      refine ⟨T, _, rfl, .inr (SqT.of upd_same), rfl, rfl, _, rfl, ?_⟩
      rw [show (if false = true then !inV (V.str u) [V.str "take", V.str "put"] else inV (V.str u) [V.str "take", V.str "put"]) = inV (V.str u) [V.str "take", V.str "put"] from rfl, in2]
      generalize upd H2 T (.tup [V.str "take", V.str "put"]) = H1 at s3
      by_cases m : u = ("take" : Str) ∨ u = ("put" : Str)
      · rw [decide_eq_true m]
        have bd : ∀ (h : ¬ (inH many a ∧ inH many b)) R, H1 R = none → Q (.ref R) (upd H1 R (.lst [V.int ((0 : Nat) : Int)])) := fun h R nR => ret H1 0 s3 (by rw [hD2, if_pos ⟨m, h⟩]) R nR
        refine iteT ⟨_, rfl, q, _, 1, V.int a, rfl, rfl, i1 _ s3, atI_nat (j := 1) rfl, _, _, rfl, rfl, _, rfl, ite2 (fun e => ?_) (fun e => ?_)⟩
        · refine ⟨_, rfl, _, _, rfl, rfl, _, rfl, ite2 (fun e2 => ?_) (fun e2 => iteT ⟨(by show 1 ≤ sizeLine; decide), bd fun h => e2 (decide_eq_true h.1.2)⟩)⟩
          refine ⟨_, rfl, q, _, 2, V.int b, rfl, rfl, i1 _ s3, atI_nat (j := 2) rfl, _, _, rfl, rfl, _, rfl, ite2 (fun e3 => ?_) (fun e3 => ?_)⟩
          · refine ⟨_, rfl, _, _, rfl, rfl, _, rfl, ?_⟩
            by_cases e4 : b < many
            · refine iteNS e4 ⟨rfl, s3, ?_, fun _ => ⟨of_decide_eq_true e, of_decide_eq_true e3⟩⟩
              rw [hD2, if_neg (fun h => h.2 ⟨⟨of_decide_eq_true e, of_decide_eq_true e2⟩, of_decide_eq_true e3, e4⟩)]
            · exact iteNT e4 ⟨(by show 1 ≤ sizeLine; decide), bd fun h => e4 h.2.2⟩
          · exact ⟨_, rfl, iteT ⟨(by show 1 ≤ sizeLine; decide), bd fun h => e3 (decide_eq_true h.2.1)⟩⟩
        · exact ⟨_, rfl, iteF (iteT ⟨(by show 1 ≤ sizeLine; decide), bd fun h => e (decide_eq_true h.1.1)⟩)⟩
      · rw [decide_eq_false m]
        refine iteF ⟨rfl, s3, ?_, fun h => absurd h m⟩
        rw [hD2, if_neg (fun h => m h.1)]
    rintro σ3 H3 ⟨rfl, s3, hD3, hp⟩
    -- a make's slots
    refine ⟨fun σ' H' => σ' = [some (.ref q), some (.ref sl), some (.int many), some (.int room), some (.int total), some (.str u), none] ∧ Same H H' ∧ D = d5 u a b c slots room total, ?_, ?_⟩
    · unfold d4 at hD3
      refine ⟨_, rfl, rfl, _, rfl, ?_⟩
      by_cases m : u = ("make" : Str)
      · rw [decide_eq_true (congrArg V.str m)]
        have bd : ∀ (h : ¬ (0 ≤ c ∧ c ≤ 4)) R, H3 R = none → Q (.ref R) (upd H3 R (.lst [V.int ((1 : Nat) : Int)])) := fun h R nR => ret H3 1 s3 (by rw [hD3, if_pos ⟨m, h⟩]) R nR
        refine iteT ⟨_, rfl, q, _, 3, V.int c, rfl, rfl, i1 _ s3, atI_nat (j := 3) rfl, _, _, rfl, rfl, _, rfl, ite2 (fun e => ?_) (fun e => ?_)⟩
        · refine ⟨_, _, rfl, rfl, _, rfl, ?_⟩
          by_cases e4 : c ≤ 4
          · refine iteNS e4 ⟨rfl, s3, ?_⟩
            rw [hD3, if_neg (fun h => h.2 ⟨of_decide_eq_true e, e4⟩)]
          · exact iteNT e4 ⟨(by show 1 ≤ sizeLine; decide), bd fun h => e4 h.2⟩
        · exact ⟨_, rfl, iteT ⟨(by show 1 ≤ sizeLine; decide), bd fun h => e (decide_eq_true h.1)⟩⟩
      · rw [decide_eq_false (fun h => m (V.str.inj h))]
        refine iteF ⟨rfl, s3, ?_⟩
        rw [hD3, if_neg (fun h => m h.1)]
    rintro σ4 H4 ⟨rfl, s4, hD4⟩
    -- room
    refine ⟨fun σ' H' => σ' = [some (.ref q), some (.ref sl), some (.int many), some (.int room), some (.int total), some (.str u), none] ∧ Same H H' ∧ D = d6 u a b c slots total, ?_, ?_⟩
    · unfold d5 at hD4
      refine ⟨_, rfl, rfl, _, rfl, ?_⟩
      by_cases m : u = ("make" : Str)
      · rw [decide_eq_true (congrArg V.str m)]
        refine iteT ⟨_, rfl, _, rfl, _, _, rfl, rfl, _, rfl, ite2 (fun e => ?_) (fun e => ?_)⟩
        · exact ⟨(by show 1 ≤ sizeLine; decide), fun R nR => ret H4 2 s4 (by rw [hD4, if_pos ⟨m, of_decide_eq_true e⟩]) R nR⟩
        · refine ⟨rfl, s4, ?_⟩
          rw [hD4, if_neg (fun h => e (decide_eq_true h.2))]
      · rw [decide_eq_false (fun h => m (V.str.inj h))]
        refine iteF ⟨rfl, s4, ?_⟩
        rw [hD4, if_neg (fun h => m h.1)]
    rintro σ5 H5 ⟨rfl, s5, hD5⟩
    -- what the hand's box has
    refine ⟨fun σ' H' => ∃ y : Option V, σ' = [some (.ref q), some (.ref sl), some (.int many), some (.int room), some (.int total), some (.str u), y] ∧ Same H H' ∧ D = d7 u c total, ?_, ?_⟩
    · unfold d6 at hD5
      refine ⟨_, rfl, (by show 2 ≤ sizeLine; decide), fun T nT => ?_⟩
      have s6 : Same H (upd H5 T (.tup [V.str "take", V.str "put"])) := s5.trans (same_new nT)
      refine ⟨T, _, rfl, .inr (SqT.of upd_same), rfl, rfl, _, rfl, ?_⟩
      rw [show (if false = true then !inV (V.str u) [V.str "take", V.str "put"] else inV (V.str u) [V.str "take", V.str "put"]) = inV (V.str u) [V.str "take", V.str "put"] from rfl, in2]
      generalize upd H5 T (.tup [V.str "take", V.str "put"]) = H1 at s6
      by_cases m : u = ("take" : Str) ∨ u = ("put" : Str)
      · rw [decide_eq_true m]
        rw [if_pos m] at hD5
        obtain ⟨a0, b0⟩ := hp m
        refine iteT ⟨_, rfl, q, _, 2, V.int b, rfl, rfl, i1 _ s6, atI_nat (j := 2) rfl, ?_⟩
        refine ⟨fun σ' H' => σ' = [some (.ref q), some (.ref sl), some (.int many), some (.int room), some (.int total), some (.str u), some (.int (hd6 u a b))] ∧ H' = H1, ?_, ?_⟩
        · refine ⟨_, rfl, rfl, _, rfl, ?_⟩
          by_cases m2 : u = ("put" : Str)
          · rw [decide_eq_true (congrArg V.str m2)]
            refine iteT ⟨_, rfl, q, _, 1, V.int a, rfl, rfl, i1 _ s6, atI_nat (j := 1) rfl, ?_, rfl⟩
            unfold hd6
            rw [if_pos m2]
            rfl
          · rw [decide_eq_false (fun h => m2 (V.str.inj h))]
            refine iteF ⟨?_, rfl⟩
            unfold hd6
            rw [if_neg m2]
            rfl
        rintro σ6 H6 ⟨rfl, rfl⟩
        have h0 : 0 ≤ hd6 u a b := by unfold hd6; split <;> assumption
        generalize hd6 u a b = hd at hD5 h0
        refine ⟨_, rfl, _, rfl, sl, _, rfl, .inl (SqL.of (s6 _ _ hs)), _, _, rfl, rfl, _, rfl, ite2 (fun e => ?_) (fun e => ?_)⟩
        · refine ⟨(by show 1 ≤ sizeLine; decide), fun R nR => ret H6 3 s6 ?_ R nR⟩
          rw [hD5, if_pos (by have := of_decide_eq_true e; rw [List.length_map] at this; exact this)]
        · have e' : ¬ (slots.length : Int) ≤ hd := fun h => e (decide_eq_true (by rw [List.length_map]; exact h))
          rw [if_neg e'] at hD5
          obtain ⟨n, rfl⟩ := Int.eq_ofNat_of_zero_le h0
          rw [Int.toNat_natCast] at hD5
          have hn : n < slots.length := by omega
          have at_ : atI (slots.map V.int) ((n : Nat) : Int) = some (V.int (slots.getD n 0)) := by
            refine atI_nat ?_
            rw [List.getElem?_map, List.getElem?_eq_getElem hn, List.getD_eq_getElem?_getD, List.getElem?_eq_getElem hn]
            rfl
          have bd : ∀ (h : ¬ (0 ≤ c ∧ c < slots.getD n 0)) R, H6 R = none → Q (.ref R) (upd H6 R (.lst [V.int ((1 : Nat) : Int)])) := fun h R nR => ret H6 1 s6 (by rw [hD5, if_neg h]) R nR
          refine ⟨_, rfl, q, _, 3, V.int c, rfl, rfl, i1 _ s6, atI_nat (j := 3) rfl, _, _, rfl, rfl, _, rfl, ite2 (fun e1 => ?_) (fun e1 => ?_)⟩
          · refine ⟨_, rfl, _, rfl, sl, _, _, _, rfl, rfl, SqL.of (s6 _ _ hs), at_, _, _, rfl, rfl, _, rfl, ?_⟩
            by_cases e4 : c < slots.getD n 0
            · refine iteNS e4 ⟨_, rfl, s6, ?_⟩
              rw [hD5, if_pos ⟨of_decide_eq_true e1, e4⟩]
            · exact iteNT e4 ⟨(by show 1 ≤ sizeLine; decide), bd fun h => e4 h.2⟩
          · exact ⟨_, rfl, iteT ⟨(by show 1 ≤ sizeLine; decide), bd fun h => e1 (decide_eq_true h.1)⟩⟩
      · rw [decide_eq_false m]
        refine iteF ⟨_, rfl, s6, ?_⟩
        rw [hD5, if_neg m]
    rintro σ6 H6 ⟨y, rfl, s6, hD6⟩
    -- a look's box
    refine ⟨fun σ' H' => σ' = [some (.ref q), some (.ref sl), some (.int many), some (.int room), some (.int total), some (.str u), y] ∧ Same H H' ∧ D = d8 u c, ?_, ?_⟩
    · unfold d7 at hD6
      refine ⟨_, rfl, rfl, _, rfl, ?_⟩
      by_cases m : u = ("look" : Str)
      · rw [decide_eq_true (congrArg V.str m)]
        have bd : ∀ (h : ¬ (0 ≤ c ∧ c < total)) R, H6 R = none → Q (.ref R) (upd H6 R (.lst [V.int ((4 : Nat) : Int)])) := fun h R nR => ret H6 4 s6 (by rw [hD6, if_pos ⟨m, h⟩]) R nR
        refine iteT ⟨_, rfl, q, _, 3, V.int c, rfl, rfl, i1 _ s6, atI_nat (j := 3) rfl, _, _, rfl, rfl, _, rfl, ite2 (fun e => ?_) (fun e => ?_)⟩
        · refine ⟨_, rfl, _, _, rfl, rfl, _, rfl, ?_⟩
          by_cases e4 : c < total
          · refine iteNS e4 ⟨rfl, s6, ?_⟩
            rw [hD6, if_neg (fun h => h.2 ⟨of_decide_eq_true e, e4⟩)]
          · exact iteNT e4 ⟨(by show 1 ≤ sizeLine; decide), bd fun h => e4 h.2⟩
        · exact ⟨_, rfl, iteT ⟨(by show 1 ≤ sizeLine; decide), bd fun h => e (decide_eq_true h.1)⟩⟩
      · rw [decide_eq_false (fun h => m (V.str.inj h))]
        refine iteF ⟨rfl, s6, ?_⟩
        rw [hD6, if_neg (fun h => m h.1)]
    rintro σ7 H7 ⟨rfl, s7, hD7⟩
    -- a count of pieces
    refine ⟨fun σ' H' => σ' = [some (.ref q), some (.ref sl), some (.int many), some (.int room), some (.int total), some (.str u), y] ∧ Same H H' ∧ D = none, ?_, ?_⟩
    · unfold d8 at hD7
      refine ⟨_, rfl, rfl, _, rfl, ?_⟩
      by_cases m : u = ("work" : Str)
      · rw [decide_eq_true (congrArg V.str m)]
        have bd : ∀ (h : ¬ (0 ≤ c ∧ c ≤ 2500)) R, H7 R = none → Q (.ref R) (upd H7 R (.lst [V.int ((5 : Nat) : Int)])) := fun h R nR => ret H7 5 s7 (by rw [hD7, if_pos ⟨m, h⟩]) R nR
        refine iteT ⟨_, rfl, q, _, 3, V.int c, rfl, rfl, i1 _ s7, atI_nat (j := 3) rfl, _, _, rfl, rfl, _, rfl, ite2 (fun e => ?_) (fun e => ?_)⟩
        · refine ⟨_, _, rfl, rfl, _, rfl, ?_⟩
          by_cases e4 : c ≤ 2500
          · refine iteNS e4 ⟨rfl, s7, ?_⟩
            rw [hD7, if_neg (fun h => h.2 ⟨of_decide_eq_true e, e4⟩)]
          · exact iteNT e4 ⟨(by show 1 ≤ sizeLine; decide), bd fun h => e4 h.2⟩
        · exact ⟨_, rfl, iteT ⟨(by show 1 ≤ sizeLine; decide), bd fun h => e (decide_eq_true h.1)⟩⟩
      · rw [decide_eq_false (fun h => m (V.str.inj h))]
        refine iteF ⟨rfl, s7, ?_⟩
        rw [hD7, if_neg (fun h => m h.1)]
    rintro σ8 H8 ⟨rfl, s8, hD8⟩
    refine ⟨Nat.zero_le _, fun R nR => k _ R (s8.trans (same_new nR)) (s8.free nR) ?_⟩
    rw [upd_same, hD8]
    rfl
end
end MK

set_option Elab.async false
set_option linter.all false
set_option pp.maxSteps 700
set_option maxRecDepth 100000
set_option maxHeartbeats 4000000
namespace MK
open PySem PySem.Spec PyProof.Rows L2 MM KG MP
section
variable {P : Program} {w : World} {K : PySem.W.Frag} {mg : Str → Option Value} {base : Heap} {C : Addr} {EC : ECs}
def ecAt (EC : ECs) : Nat → Addr
  | 0 => EC.noHand
  | 1 => EC.noSlot
  | 2 => EC.noRoom
  | 3 => EC.nothing
  | 4 => EC.noBox
  | 5 => EC.noWork
  | 6 => EC.noHeap
  | _ => EC.noDeed
/-- the slot of the box that hand h holds -/
def slotted (S : HS) (a b h c : Int) : Option Nat :=
  if okHand S a ∧ okHand S b then (match S.hand h.toNat with
    | none => some 3
    | some k => if 0 ≤ c ∧ c < (S.row k).length then none else some 1) else some 0
/-- what the heap refuses a deed for -/
def refusal (S : HS) (u : Str) (a b c : Int) : Option Nat :=
  if u = ("make" : Str) then (if okHand S a then (if 0 ≤ c ∧ c ≤ 4 then (if S.keys.length < S.room then none else some 2) else some 1) else some 0)
  else if u = ("take" : Str) then slotted S a b b c
  else if u = ("put" : Str) then slotted S a b a c
  else if u = ("share" : Str) then (if okHand S a ∧ okHand S b then none else some 0)
  else if u = ("drop" : Str) then (if okHand S a then none else some 0)
  else if u = ("held" : Str) then (if okHand S a then none else some 0)
  else if u = ("look" : Str) then (if 0 ≤ c ∧ c.toNat ∈ S.keys then none else some 4)
  else if 0 ≤ c ∧ c ≤ 2500 then none else some 5
def spAsked5 (C : Addr) (EC : ECs) : Sp := fun vs H Q E => ∃ (p q : Addr) (F : Addr → Prop) (S : HS) (u : Str) (a b c : Int), vs = [.ref p, .ref q] ∧ HeapAt C H p F S ∧ H q = some (.lst [.str u, .int a, .int b, .int c]) ∧
  (refusal S u a b c = none → ∀ H', (∀ x o, H x = some o → ¬ F x → H' x = some o) → Q .non H') ∧ (∀ n, refusal S u a b c = some n → E (.ref (ecAt EC n)) none H)
theorem ok_asked5 {f f1 f2 f3 f4 f5 f6 f7 f8 : Addr} {fd d1 d2 d3 d4 d5 d6 d7 d8 : FuncData} (F : Fun K "_law_asked" "_law_asked" sAsked f fd) (D_make : Dm P w K mg base (L2N.CX P w) 2 C "make" f1 d1 ["self", "hand", "slots"] (spMake C EC)) (D_take : Dm P w K mg base (L2N.CX P w) 2 C "take" f2 d2 ["self", "hand", "other", "slot"] (spTake C EC))
    (D_put : Dm P w K mg base (L2N.CX P w) 2 C "put" f3 d3 ["self", "hand", "slot", "other"] (spPut C EC)) (D_share : Dm P w K mg base (L2N.CX P w) 2 C "share" f4 d4 ["self", "hand", "other"] (spShare C EC)) (D_drop : Dm P w K mg base (L2N.CX P w) 2 C "drop" f5 d5 ["self", "hand"] (spDrop C EC))
    (D_held : Dm P w K mg base (L2N.CX P w) 2 C "held" f6 d6 ["self", "hand"] (spHeld C EC)) (D_look : Dm P w K mg base (L2N.CX P w) 1 C "look" f7 d7 ["self", "box"] (spLook C EC)) (D_work : Dm P w K mg base (L2N.CX P w) 4 C "work" f8 d8 ["self", "pieces"] (spWork C EC)) : FnOk P w K mg base (L2N.CX P w) 5 f fd ["_law_heap", "_law_deed"] (spAsked5 C EC) := by
  refine okN F scAsked (fun vs H Q E h => ?_) (fun cdv A outer s H vs Q E hr h => ?_)
  · obtain ⟨p, q, F, S, u, a, b, c, rfl, _⟩ := h
    rfl
  · obtain ⟨p, q, F, S, u, a, b, c, rfl, hS, hq, qy, qn⟩ := h
    refine ⟨_, (pss_cons (ps_set (i := 2) scAsked.nd rfl (.inl rfl) (pe_ix (ixL (K := K)) (pv 1) pe_int (fun _ _ => rfl)))
      (pss_one (ps_if (pt_cmpR op_eq (pv 2) pe_str (nomark _)) (pss_one (ps_expr (pe_meth (pv 0) D_make.c D_make.m D_make.g (hr.mono (by decide)) D_make.b .nil (L2N.passes_call (L2N.takes_of rfl rfl rfl rfl) (fun _ _ _ _ h => h)) (pa_cons (pe_ix (ixL (K := K)) (pv 1) pe_int (fun _ _ => rfl)) (pa_cons (pe_ix (ixL (K := K)) (pv 1) pe_int (fun _ _ => rfl)) pa_nil))))) (pss_one (ps_if (pt_cmpR op_eq (pv 2) pe_str (nomark _)) (pss_one (ps_expr (pe_meth (pv 0) D_take.c D_take.m D_take.g (hr.mono (by decide)) D_take.b .nil (L2N.passes_call (L2N.takes_of rfl rfl rfl rfl) (fun _ _ _ _ h => h)) (pa_cons (pe_ix (ixL (K := K)) (pv 1) pe_int (fun _ _ => rfl)) (pa_cons (pe_ix (ixL (K := K)) (pv 1) pe_int (fun _ _ => rfl)) (pa_cons (pe_ix (ixL (K := K)) (pv 1) pe_int (fun _ _ => rfl)) pa_nil)))))) (pss_one (ps_if (pt_cmpR op_eq (pv 2) pe_str (nomark _)) (pss_one (ps_expr (pe_meth (pv 0) D_put.c D_put.m D_put.g (hr.mono (by decide)) D_put.b .nil (L2N.passes_call (L2N.takes_of rfl rfl rfl rfl) (fun _ _ _ _ h => h)) (pa_cons (pe_ix (ixL (K := K)) (pv 1) pe_int (fun _ _ => rfl)) (pa_cons (pe_ix (ixL (K := K)) (pv 1) pe_int (fun _ _ => rfl)) (pa_cons (pe_ix (ixL (K := K)) (pv 1) pe_int (fun _ _ => rfl)) pa_nil)))))) (pss_one (ps_if (pt_cmpR op_eq (pv 2) pe_str (nomark _)) (pss_one (ps_expr (pe_meth (pv 0) D_share.c D_share.m D_share.g (hr.mono (by decide)) D_share.b .nil (L2N.passes_call (L2N.takes_of rfl rfl rfl rfl) (fun _ _ _ _ h => h)) (pa_cons (pe_ix (ixL (K := K)) (pv 1) pe_int (fun _ _ => rfl)) (pa_cons (pe_ix (ixL (K := K)) (pv 1) pe_int (fun _ _ => rfl)) pa_nil))))) (pss_one (ps_if (pt_cmpR op_eq (pv 2) pe_str (nomark _)) (pss_one (ps_expr (pe_meth (pv 0) D_drop.c D_drop.m D_drop.g (hr.mono (by decide)) D_drop.b .nil (L2N.passes_call (L2N.takes_of rfl rfl rfl rfl) (fun _ _ _ _ h => h)) (pa_cons (pe_ix (ixL (K := K)) (pv 1) pe_int (fun _ _ => rfl)) pa_nil)))) (pss_one (ps_if (pt_cmpR op_eq (pv 2) pe_str (nomark _)) (pss_one (ps_expr (pe_meth (pv 0) D_held.c D_held.m D_held.g (hr.mono (by decide)) D_held.b .nil (L2N.passes_call (L2N.takes_of rfl rfl rfl rfl) (fun _ _ _ _ h => h)) (pa_cons (pe_ix (ixL (K := K)) (pv 1) pe_int (fun _ _ => rfl)) pa_nil)))) (pss_one (ps_if (pt_cmpR op_eq (pv 2) pe_str (nomark _)) (pss_one (ps_expr (pe_meth (pv 0) D_look.c D_look.m D_look.g (hr.mono (by decide)) D_look.b .nil (L2N.passes_call (L2N.takes_of rfl rfl rfl rfl) (fun _ _ _ _ h => h)) (pa_cons (pe_ix (ixL (K := K)) (pv 1) pe_int (fun _ _ => rfl)) pa_nil)))) (pss_one (ps_expr (pe_meth (pv 0) D_work.c D_work.m D_work.g (hr.mono (by decide)) D_work.b .nil (L2N.passes_call (L2N.takes_of rfl rfl rfl rfl) (fun _ _ _ _ h => h)) (pa_cons (pe_ix (ixL (K := K)) (pv 1) pe_int (fun _ _ => rfl)) pa_nil))))))))))))))))))), ?_⟩
    obtain ⟨dx, fs, hob, hno⟩ := hS.ob
    have i1 : SqL K H q [.str u, .int a, .int b, .int c] := SqL.of hq
    have go : ∀ {H' : Hp} {F' : Addr → Prop}, Frm H F H' F' → refusal S u a b c = none → Q .non H' := fun fr e => qy e _ fun x o e n => (fr x o e n).1
    refine ⟨_, rfl, q, _, 0, V.str u, rfl, rfl, i1, atI_nat (j := 0) rfl, ?_⟩
    refine ⟨_, rfl, rfl, _, rfl, ?_⟩
    unfold refusal at qn go
    by_cases m1 : u = ("make" : Str)
    · rw [decide_eq_true (congrArg V.str m1)]
      simp only [if_pos m1] at qn go
      refine iteT ⟨_, rfl, p, dx, _, rfl, hob, hno _ (by decide), _, rfl, q, _, 1, V.int a, rfl, rfl, i1, atI_nat (j := 1) rfl, _, rfl, q, _, 3, V.int c, rfl, rfl, i1, atI_nat (j := 3) rfl, p, F, S, a, c, rfl, hS, ?_⟩
      by_cases c1 : okHand S a
      · simp only [if_pos c1] at qn go ⊢
        by_cases c2 : 0 ≤ c ∧ c ≤ 4
        · simp only [if_pos c2] at qn go ⊢
          by_cases c3 : S.keys.length < S.room
          · simp only [if_pos c3] at qn go ⊢
            exact fun H' F' h' fr => go fr trivial
          · simp only [if_neg c3] at qn ⊢
            exact qn 2 rfl
        · simp only [if_neg c2] at qn ⊢
          exact qn 1 rfl
      · simp only [if_neg c1] at qn ⊢
        exact qn 0 rfl
    rw [decide_eq_false (fun h => m1 (V.str.inj h))]
    simp only [if_neg m1] at qn go
    refine iteF ⟨_, rfl, rfl, _, rfl, ?_⟩
    by_cases m2 : u = ("take" : Str)
    · rw [decide_eq_true (congrArg V.str m2)]
      simp only [if_pos m2] at qn go
      unfold slotted at qn go
      refine iteT ⟨_, rfl, p, dx, _, rfl, hob, hno _ (by decide), _, rfl, q, _, 1, V.int a, rfl, rfl, i1, atI_nat (j := 1) rfl, _, rfl, q, _, 2, V.int b, rfl, rfl, i1, atI_nat (j := 2) rfl, _, rfl, q, _, 3, V.int c, rfl, rfl, i1, atI_nat (j := 3) rfl, p, F, S, a, b, c, rfl, hS, ?_⟩
      by_cases c1 : okHand S a ∧ okHand S b
      · simp only [if_pos c1] at qn go ⊢
        cases hh : S.hand (b).toNat with
        | none =>
          rw [hh] at qn
          exact qn 3 rfl
        | some k =>
          rw [hh] at qn go
          dsimp only at qn go ⊢
          by_cases c3 : 0 ≤ c ∧ c < (S.row k).length
          · simp only [if_pos c3] at qn go ⊢
            exact fun H' F' h' fr => go fr trivial
          · simp only [if_neg c3] at qn ⊢
            exact qn 1 rfl
      · simp only [if_neg c1] at qn ⊢
        exact qn 0 rfl
    rw [decide_eq_false (fun h => m2 (V.str.inj h))]
    simp only [if_neg m2] at qn go
    refine iteF ⟨_, rfl, rfl, _, rfl, ?_⟩
    by_cases m3 : u = ("put" : Str)
    · rw [decide_eq_true (congrArg V.str m3)]
      simp only [if_pos m3] at qn go
      unfold slotted at qn go
      refine iteT ⟨_, rfl, p, dx, _, rfl, hob, hno _ (by decide), _, rfl, q, _, 1, V.int a, rfl, rfl, i1, atI_nat (j := 1) rfl, _, rfl, q, _, 3, V.int c, rfl, rfl, i1, atI_nat (j := 3) rfl, _, rfl, q, _, 2, V.int b, rfl, rfl, i1, atI_nat (j := 2) rfl, p, F, S, a, c, b, rfl, hS, ?_⟩
      by_cases c1 : okHand S a ∧ okHand S b
      · simp only [if_pos c1] at qn go ⊢
        cases hh : S.hand (a).toNat with
        | none =>
          rw [hh] at qn
          exact qn 3 rfl
        | some k =>
          rw [hh] at qn go
          dsimp only at qn go ⊢
          by_cases c3 : 0 ≤ c ∧ c < (S.row k).length
          · simp only [if_pos c3] at qn go ⊢
            exact fun H' F' h' fr => go fr trivial
          · simp only [if_neg c3] at qn ⊢
            exact qn 1 rfl
      · simp only [if_neg c1] at qn ⊢
        exact qn 0 rfl
    rw [decide_eq_false (fun h => m3 (V.str.inj h))]
    simp only [if_neg m3] at qn go
    refine iteF ⟨_, rfl, rfl, _, rfl, ?_⟩
    by_cases m4 : u = ("share" : Str)
    · rw [decide_eq_true (congrArg V.str m4)]
      simp only [if_pos m4] at qn go
      refine iteT ⟨_, rfl, p, dx, _, rfl, hob, hno _ (by decide), _, rfl, q, _, 1, V.int a, rfl, rfl, i1, atI_nat (j := 1) rfl, _, rfl, q, _, 2, V.int b, rfl, rfl, i1, atI_nat (j := 2) rfl, p, F, S, a, b, rfl, hS, ?_⟩
      by_cases c1 : okHand S a ∧ okHand S b
      · simp only [if_pos c1] at qn go ⊢
        exact fun H' F' h' fr => go fr trivial
      · simp only [if_neg c1] at qn ⊢
        exact qn 0 rfl
    rw [decide_eq_false (fun h => m4 (V.str.inj h))]
    simp only [if_neg m4] at qn go
    refine iteF ⟨_, rfl, rfl, _, rfl, ?_⟩
    by_cases m5 : u = ("drop" : Str)
    · rw [decide_eq_true (congrArg V.str m5)]
      simp only [if_pos m5] at qn go
      refine iteT ⟨_, rfl, p, dx, _, rfl, hob, hno _ (by decide), _, rfl, q, _, 1, V.int a, rfl, rfl, i1, atI_nat (j := 1) rfl, p, F, S, a, rfl, hS, ?_⟩
      by_cases c1 : okHand S a
      · simp only [if_pos c1] at qn go ⊢
        exact fun H' F' h' fr => go fr trivial
      · simp only [if_neg c1] at qn ⊢
        exact qn 0 rfl
    rw [decide_eq_false (fun h => m5 (V.str.inj h))]
    simp only [if_neg m5] at qn go
    refine iteF ⟨_, rfl, rfl, _, rfl, ?_⟩
    by_cases m6 : u = ("held" : Str)
    · rw [decide_eq_true (congrArg V.str m6)]
      simp only [if_pos m6] at qn go
      refine iteT ⟨_, rfl, p, dx, _, rfl, hob, hno _ (by decide), _, rfl, q, _, 1, V.int a, rfl, rfl, i1, atI_nat (j := 1) rfl, p, F, S, a, rfl, hS, ?_⟩
      by_cases c1 : okHand S a
      · simp only [if_pos c1] at qn go ⊢
        exact go (Frm.refl H F) trivial
      · simp only [if_neg c1] at qn ⊢
        exact qn 0 rfl
    rw [decide_eq_false (fun h => m6 (V.str.inj h))]
    simp only [if_neg m6] at qn go
    refine iteF ⟨_, rfl, rfl, _, rfl, ?_⟩
    by_cases m7 : u = ("look" : Str)
    · rw [decide_eq_true (congrArg V.str m7)]
      simp only [if_pos m7] at qn go
      refine iteT ⟨_, rfl, p, dx, _, rfl, hob, hno _ (by decide), _, rfl, q, _, 3, V.int c, rfl, rfl, i1, atI_nat (j := 3) rfl, p, F, S, c, rfl, hS, ?_⟩
      by_cases c1 : 0 ≤ c ∧ c.toNat ∈ S.keys
      · simp only [if_pos c1] at qn go ⊢
        exact fun z nz => go (F' := F) (fun x o e n => ⟨(same_new nz) _ _ e, n⟩) trivial
      · simp only [if_neg c1] at qn ⊢
        exact qn 4 rfl
    rw [decide_eq_false (fun h => m7 (V.str.inj h))]
    simp only [if_neg m7] at qn go
    refine iteF ⟨_, rfl, p, dx, _, rfl, hob, hno _ (by decide), _, rfl, q, _, 3, V.int c, rfl, rfl, i1, atI_nat (j := 3) rfl, p, F, S, c, rfl, hS, ?_⟩
    by_cases c1 : 0 ≤ c ∧ c ≤ 2500
    · simp only [if_pos c1] at qn go ⊢
      exact fun H' F' l h' fr n1 n2 n3 => go fr trivial
    · simp only [if_neg c1] at qn ⊢
      exact qn 5 rfl
end
end MK

set_option Elab.async false
set_option linter.all false
set_option pp.maxSteps 700
set_option maxRecDepth 100000
set_option maxHeartbeats 4000000
namespace MK
open PySem PySem.Spec PyProof.Rows L2 MM KG MP
section
variable {P : Program} {w : World} {K : PySem.W.Frag} {mg : Str → Option Value} {base : Heap} {C : Addr} {EC : ECs}
/-- after m boxes: box j in hand j, with as many slots as asked (none for box 0) -/
structure LaidM (S : HS) (slots : List Nat) (many room m : Nat) : Prop where
  hlen : S.hands.length = many
  rm : S.room = room
  rl : S.rows.length = m
  keys : S.keys = List.range m
  hand : ∀ h, h < many → S.hand h = if h < m then some h else none
  row0 : (S.row 0).length = 0
  row : ∀ j, 1 ≤ j → j < m → (S.row j).length = slots.getD j 0
  line : S.line = []
  unsw : S.unsw = []
/-- the whole of it -/
structure Laid (S : HS) (slots : List Nat) (many room : Nat) : Prop where
  hlen : S.hands.length = many
  rm : S.room = room
  keys : S.keys = List.range (slots.length + if slots = [] then 0 else 1)
  held : ∀ h, h < slots.length → ∃ k, S.hand h = some k ∧ (S.row k).length = slots.getD h 0
  free : ∀ h, slots.length ≤ h → S.hand h = none
  line : S.line = []
  unsw : S.unsw = []
theorem hand_set {S : HS} {h x : Nat} {y : Option Nat} (hx : x < S.hands.length) : ({ S with hands := S.hands.set h y } : HS).hand x = if h = x then y else S.hand x := by
  unfold HS.hand
  rw [List.getD_eq_getElem?_getD, List.getD_eq_getElem?_getD]
  show ((S.hands.set h y)[x]?).getD none = _
  rw [List.getElem?_set]
  by_cases e : h = x
  · subst e
    simp [hx]
  · simp [e]
theorem hand_ge {S : HS} {h : Nat} (hh : S.hands.length ≤ h) : S.hand h = none := by
  unfold HS.hand
  rw [List.getD_eq_getElem?_getD, List.getElem?_eq_none hh]
  rfl
/-- one more box, with n slots, in hand m -/
theorem LaidM.make {S : HS} {slots : List Nat} {many room m : Nat} (L : LaidM S slots many room m) (m1 : 1 ≤ m) (hm : m < many) : LaidM (S.make m (slots.getD m 0)) slots many room (m + 1) where
  hlen := by show (S.hands.set _ _).length = _; rw [List.length_set]; exact L.hlen
  rm := L.rm
  rl := by show (S.rows ++ [_]).length = _; rw [List.length_append, L.rl]; rfl
  keys := by show S.keys ++ [S.rows.length] = _; rw [L.keys, L.rl, List.range_succ]
  hand := fun h hh => by
    have e := hand_set (S := S) (h := m) (x := h) (y := some S.rows.length) (by rw [L.hlen]; exact hh)
    show (({ S with hands := S.hands.set m (some S.rows.length) } : HS)).hand h = _
    rw [e, L.hand h hh, L.rl]
    by_cases e1 : m = h
    · subst e1
      rw [if_pos rfl, if_pos (by omega)]
    · rw [if_neg e1]
      by_cases e2 : h < m
      · rw [if_pos e2, if_pos (by omega)]
      · rw [if_neg e2, if_neg (by omega)]
  row0 := by
    show (rowOf (S.rows ++ [_]) 0).length = 0
    rw [rowOf_push, if_neg (by rw [L.rl]; omega)]
    exact L.row0
  row := fun j j1 jm => by
    show (rowOf (S.rows ++ [_]) j).length = _
    rw [rowOf_push]
    by_cases e : j = S.rows.length
    · rw [if_pos e, List.length_replicate, e, L.rl]
    · rw [if_neg e]
      exact L.row j j1 (by rw [L.rl] at e; omega)
  line := L.line
  unsw := L.unsw
/-- something laid into a slot: nothing that is told here changes -/
theorem LaidM.put {S : HS} {slots : List Nat} {many room m : Nat} (L : LaidM S slots many room m) (b s o : Nat) : LaidM (S.put b s o) slots many room m := by
  have e : S.put b s o = S.write b s (S.hand o) := by
    unfold HS.put
    rw [if_pos L.line]
  rw [e]
  have rw_ : ∀ j, ((S.write b s (S.hand o)).row j).length = (S.row j).length := fun j => by
    show (rowOf (S.rows.set b ((S.row b).set s (S.hand o))) j).length = _
    unfold HS.row
    by_cases hj : j < S.rows.length
    · by_cases e1 : b = j
      · subst e1
        rw [rowOf_at (row := (rowOf S.rows b).set s (S.hand o)) (by rw [List.getElem?_set]; simp [hj])]
        rw [List.length_set]
      · rw [rowOf_at (row := rowOf S.rows j) (by rw [List.getElem?_set]; simp [e1]; exact rowOf_lt hj)]
    · rw [rowOf_ge (by rw [List.length_set]; omega), rowOf_ge (by omega)]
  exact ⟨L.hlen, L.rm, by show (S.rows.set _ _).length = _; rw [List.length_set]; exact L.rl, L.keys, L.hand, (rw_ 0).trans L.row0, fun j j1 jm => (rw_ j).trans (L.row j j1 jm), L.line, L.unsw⟩
/-- the last box, in hand 0 -/
theorem LaidM.last {S : HS} {slots : List Nat} {many room : Nat} (L : LaidM S slots many room slots.length) (ne : slots ≠ []) (hm : slots.length ≤ many) : Laid (S.make 0 (slots.getD 0 0)) slots many room where
  hlen := by show (S.hands.set _ _).length = _; rw [List.length_set]; exact L.hlen
  rm := L.rm
  keys := by show S.keys ++ [S.rows.length] = _; rw [if_neg ne, L.keys, L.rl, List.range_succ]
  held := fun h hh => by
    have e := hand_set (S := S) (h := 0) (x := h) (y := some S.rows.length) (by rw [L.hlen]; omega)
    have e' : (S.make 0 (slots.getD 0 0)).hand h = if 0 = h then some S.rows.length else S.hand h := e
    by_cases h0 : h = 0
    · subst h0
      refine ⟨S.rows.length, by rw [e', if_pos rfl], ?_⟩
      show (rowOf (S.rows ++ [_]) _).length = _
      rw [rowOf_push, if_pos rfl, List.length_replicate]
    · refine ⟨h, by rw [e', if_neg (by omega), L.hand h (by omega), if_pos hh], ?_⟩
      show (rowOf (S.rows ++ [_]) _).length = _
      rw [rowOf_push, if_neg (by rw [L.rl]; omega)]
      exact L.row h (by omega) hh
  free := fun h hh => by
    by_cases hm2 : h < many
    · have e := hand_set (S := S) (h := 0) (x := h) (y := some S.rows.length) (by rw [L.hlen]; omega)
      have e' : (S.make 0 (slots.getD 0 0)).hand h = if 0 = h then some S.rows.length else S.hand h := e
      have : 0 < slots.length := List.length_pos_iff.mpr ne
      rw [e', if_neg (by omega), L.hand h hm2, if_neg (by omega)]
    · exact hand_ge (by show (S.hands.set _ _).length ≤ _; rw [List.length_set, L.hlen]; omega)
  line := L.line
  unsw := L.unsw
theorem LaidM.first {slots : List Nat} {many room : Nat} (hm : 1 ≤ many) : LaidM ((HS.new many room).make 0 0) slots many room 1 where
  hlen := by show ((List.replicate many none).set _ _).length = _; rw [List.length_set, List.length_replicate]
  rm := rfl
  rl := rfl
  keys := rfl
  hand := fun h hh => by
    have e := hand_set (S := HS.new many room) (h := 0) (x := h) (y := some 0) (by show h < (List.replicate many none).length; rw [List.length_replicate]; exact hh)
    show (({ HS.new many room with hands := (HS.new many room).hands.set 0 (some 0) } : HS)).hand h = _
    rw [e]
    by_cases h0 : h = 0
    · subst h0; rfl
    · rw [if_neg (by omega), if_neg (by omega)]
      unfold HS.hand
      show (List.replicate many none).getD h none = none
      rw [List.getD_eq_getElem?_getD, List.getElem?_replicate]
      split <;> rfl
  row0 := rfl
  row := fun j j1 jm => by omega
  line := rfl
  unsw := rfl
theorem Laid.empty {many room : Nat} : Laid (HS.new many room) [] many room where
  hlen := by show (List.replicate many none).length = _; rw [List.length_replicate]
  rm := rfl
  keys := rfl
  held := fun h hh => by simp at hh
  free := fun h _ => by
    unfold HS.hand
    show (List.replicate many none).getD h none = none
    rw [List.getD_eq_getElem?_getD, List.getElem?_replicate]
    split <;> rfl
  line := rfl
  unsw := rfl
/-- the deeds that build the heap -/
def spLaid (C : Addr) : Sp := fun vs H Q _ => ∃ (p sl cl : Addr) (F : Addr → Prop) (slots : List Nat) (cells : List Int) (many room : Nat), vs = [.ref p, .ref sl, .ref cl] ∧ HeapAt C H p F (HS.new many room) ∧ H sl = some (.lst (slots.map nV)) ∧ ¬ F sl ∧ H cl = some (.lst (cells.map V.int)) ∧ ¬ F cl ∧
  slots.length ≤ many ∧ slots.length + 1 ≤ 12 ∧ (∀ k ∈ slots, k ≤ 4) ∧ (slots ≠ [] → slots.length + 1 ≤ room) ∧ cells.length = slots.length ∧
  ∀ H' F' S', HeapAt C H' p F' S' → (∀ x o, H x = some o → ¬ F x → H' x = some o ∧ ¬ F' x) → Laid S' slots many room → Q .non H'
theorem ok_laid {f f1 f2 : Addr} {fd d1 d2 : FuncData} (F : Fun K "_law_laid" "_law_laid" sLaid f fd) (D_make : Dm P w K mg base (L2N.CX P w) 2 C "make" f1 d1 ["self", "hand", "slots"] (spMake C EC)) (D_put : Dm P w K mg base (L2N.CX P w) 2 C "put" f2 d2 ["self", "hand", "slot", "other"] (spPut C EC)) (m_len : mg "len" = none) (m_range : mg "range" = none) :
    FnOk P w K mg base CX0 3 f fd ["_law_heap", "_law_slots", "_law_cells"] (spLaid C) := by
  refine F.ok scLaid (fun vs H Q E h => ?_) (fun cdv A outer s H vs Q E hr h => ?_)
  · obtain ⟨p, sl, cl, F, slots, cells, many, room, rfl, _⟩ := h
    rfl
  · obtain ⟨p, sl, cl, F, slots, cells, many, room, rfl, hS, hsl, nsl, hcl, ncl, lm, l12, s4, lr, lc, k⟩ := h
    refine ⟨_, (pss_cons (ps_if (pt_cmpR (eqDK (K := K) hr.units) (pv 1) (pe_lst pa_nil) (nomark _)) (pss_one ps_retN) pss_nil)
      (pss_cons (ps_expr (pe_meth (pv 0) D_make.c D_make.m D_make.g (hr.mono (by decide)) D_make.b .nil passN (pa_cons pe_int (pa_cons pe_int pa_nil))))
      (pss_cons (ps_for PassesOwn.never rfl (pi_range2 (by rfl) m_range (pa_cons pe_int (pa_cons (pe_callB (lenS (K := K)) (by rfl) m_len (by decide +kernel) (pa_cons (pv 1) pa_nil)) pa_nil))) (pg_name (i := 3) scLaid.nd rfl (.inl rfl)) (pss_cons (ps_expr (pe_meth (pv 0) D_make.c D_make.m D_make.g (hr.mono (by decide)) D_make.b .nil passN (pa_cons (pv 3) (pa_cons (pe_ix (ixL (K := K)) (pv 1) (pv 3) (fun _ _ => rfl)) pa_nil))))
      (pss_one (ps_if (pt_cmpR op_gt (pe_ix (ixL (K := K)) (pv 1) (pv 3) (fun _ _ => rfl)) pe_int (nomark _)) (pss_one (ps_expr (pe_meth (pv 0) D_put.c D_put.m D_put.g (hr.mono (by decide)) D_put.b .nil passN (pa_cons (pv 3) (pa_cons (pe_op op_mod (pe_ix (ixL (K := K)) (pv 2) (pv 3) (fun _ _ => rfl)) (pe_ix (ixL (K := K)) (pv 1) (pv 3) (fun _ _ => rfl))) (pa_cons pe_int pa_nil)))))) pss_nil))))
      (pss_one (ps_expr (pe_meth (pv 0) D_make.c D_make.m D_make.g (hr.mono (by decide)) D_make.b .nil passN (pa_cons pe_int (pa_cons (pe_ix (ixL (K := K)) (pv 1) pe_int (fun _ _ => rfl)) pa_nil)))))))), ?_⟩
    refine ⟨_, rfl, Nat.zero_le _, fun e0 ne0 => ?_⟩
    have s1 : Same H (upd H e0 (.lst [])) := same_new ne0
    refine ⟨dI slots, dI [], dp_nats (SqL.of (s1 _ _ hsl)), dp_nats (SqL.of upd_same), shaped_nats _, shaped_nats _, _, rfl, ?_⟩
    rw [eqv_dI]
    generalize upd H e0 (.lst []) = H1 at s1
    have h1 := hS.same s1
    have hn8 := h1.good.hn
    have hml : many = (HS.new many room).hands.length := by show many = (List.replicate many none).length; rw [List.length_replicate]
    rw [← hml] at hn8
    by_cases c : slots = []
    · rw [decide_eq_true c]
      subst c
      exact iteT (k H1 F _ h1 (fun x o e n => ⟨s1 _ _ e, n⟩) Laid.empty)
    rw [decide_eq_false c]
    have lp : 0 < slots.length := List.length_pos_iff.mpr c
    obtain ⟨dx, fs, hob, hno⟩ := h1.ob
    refine iteF ⟨_, rfl, p, dx, _, rfl, hob, hno _ (by decide), p, F, _, 0, 0, rfl, h1, ?_⟩
    have ok0 : ∀ {S : HS}, S.hands.length = many → okHand S 0 := fun e => ⟨by decide, by rw [e]; omega⟩
    refine (if_pos (ok0 hml.symm)).mpr ((if_pos ⟨by decide, by decide⟩).mpr ((if_pos ?_).mpr fun H2 F2 h2 f2 => ?_))
    · show 0 < room
      have := lr c
      omega
    refine ⟨_, rfl, sl, _, rfl, .inl (SqL.of ((f2 _ _ (s1 _ _ hsl) nsl).1)), ?_⟩
    have l63 : ((slots.map nV).length : Nat) = slots.length := List.length_map _
    refine ⟨1, ((slots.map nV).length : Int), rfl, ⟨by decide, by decide, by rw [l63]; omega, by rw [l63]; omega⟩, ?_⟩
    rw [l63, show (((slots.length : Nat) : Int) - 1).toNat = slots.length - 1 by omega]
    refine for_range (lo := 1) (n := slots.length - 1) (fun i σ H' => ∃ y F' S', σ = [some (.ref p), some (.ref sl), some (.ref cl), y] ∧ HeapAt C H' p F' S' ∧ LaidM S' slots many room (i + 1) ∧ Frm H1 F H' F') ⟨none, F2, _, rfl, h2, LaidM.first (by omega), f2⟩ ?_ ?_
    · rintro i σ H3 hi ⟨y, F3, S3, rfl, h3, L3, f3⟩
      obtain ⟨dx, fs, hob, hno⟩ := h3.ob
      have hk : i + 1 < slots.length := by omega
      have hsl3 := (f3 _ _ (s1 _ _ hsl) nsl)
      have hcl3 := (f3 _ _ (s1 _ _ hcl) ncl)
      have ei : (1 : Int) + (i : Int) = ((i + 1 : Nat) : Int) := by omega
      have ats : atI (slots.map nV) (1 + (i : Int)) = some (V.int ((slots.getD (i + 1) 0 : Nat) : Int)) := by
        rw [ei]
        refine atI_nat ?_
        rw [List.getElem?_map, List.getElem?_eq_getElem hk, List.getD_eq_getElem?_getD, List.getElem?_eq_getElem hk]
        rfl
      have s4' : slots.getD (i + 1) 0 ≤ 4 := by
        rw [List.getD_eq_getElem?_getD, List.getElem?_eq_getElem hk]
        exact s4 _ (List.getElem_mem hk)
      have okm : okHand S3 (1 + (i : Int)) := ⟨by omega, by rw [L3.hlen]; omega⟩
      refine ⟨_, rfl, p, dx, _, rfl, hob, hno _ (by decide), _, rfl, _, rfl, _, rfl, sl, _, _, _, rfl, rfl, SqL.of hsl3.1, ats, p, F3, S3, 1 + (i : Int), ((slots.getD (i + 1) 0 : Nat) : Int), rfl, h3, ?_⟩
      refine (if_pos okm).mpr ((if_pos ⟨by omega, by omega⟩).mpr ((if_pos ?_).mpr fun H4 F4 h4 f4 => ?_))
      · rw [L3.keys, L3.rm, List.length_range]
        have := lr c
        omega
      have L4 := L3.make (by omega) (by omega)
      rw [show (1 + (i : Int)).toNat = i + 1 by omega, Int.toNat_natCast] at h4
      have f34 := f3.trans f4
      have hsl4 := (f34 _ _ (s1 _ _ hsl) nsl)
      have hcl4 := (f34 _ _ (s1 _ _ hcl) ncl)
      refine ⟨_, rfl, _, rfl, sl, _, _, _, rfl, rfl, SqL.of hsl4.1, ats, _, _, rfl, rfl, _, rfl, ite2 (fun e => ?_) (fun e => ⟨_, F4, _, rfl, h4, L4, f34⟩)⟩
      have pos : 0 < slots.getD (i + 1) 0 := by have := of_decide_eq_true e; omega
      obtain ⟨dx, fs, hob, hno⟩ := h4.ob
      have hkc : i + 1 < cells.length := by omega
      have atc : atI (cells.map V.int) (1 + (i : Int)) = some (V.int cells[i + 1]) := by
        rw [ei]
        refine atI_nat ?_
        rw [List.getElem?_map, List.getElem?_eq_getElem hkc]
        rfl
      have hl4 : (S3.make (i + 1) (slots.getD (i + 1) 0)).hands.length = many := L4.hlen
      have hnd : (S3.make (i + 1) (slots.getD (i + 1) 0)).hand (i + 1) = some (i + 1) := (L4.hand (i + 1) (by omega)).trans (if_pos (by omega))
      have rln : ((S3.make (i + 1) (slots.getD (i + 1) 0)).row (i + 1)).length = slots.getD (i + 1) 0 := L4.row (i + 1) (by omega) (by omega)
      refine ⟨_, rfl, p, dx, _, rfl, hob, hno _ (by decide), _, rfl, _, rfl, _, rfl, cl, _, _, _, rfl, rfl, SqL.of hcl4.1, atc, _, rfl, _, rfl, sl, _, _, _, rfl, rfl, SqL.of hsl4.1, ats, _, _, rfl, rfl, (by show (0 : Int) < ((slots.getD (i + 1) 0 : Nat) : Int); omega), p, F4, _, 1 + (i : Int), _, 0, rfl, h4, ?_⟩
      refine (if_pos ⟨⟨by omega, by rw [hl4]; omega⟩, ⟨by decide, by rw [hl4]; omega⟩⟩).mpr ?_
      rw [show (1 + (i : Int)).toNat = i + 1 by omega, hnd]
      have em0 : 0 ≤ cells[i + 1] % ((slots.getD (i + 1) 0 : Nat) : Int) := Int.emod_nonneg _ (by omega)
      have em1 : cells[i + 1] % ((slots.getD (i + 1) 0 : Nat) : Int) < ((slots.getD (i + 1) 0 : Nat) : Int) := Int.emod_lt_of_pos _ (by omega)
      refine (if_pos ⟨em0, by rw [rln]; exact em1⟩).mpr fun H5 F5 h5 f5 => ?_
      exact ⟨_, F5, _, rfl, h5, L4.put _ _ _, f34.trans f5⟩
    · rintro σ H3 ⟨y, F3, S3, rfl, h3, L3, f3⟩
      rw [show slots.length - 1 + 1 = slots.length by omega] at L3
      obtain ⟨dx, fs, hob, hno⟩ := h3.ob
      have hsl3 := (f3 _ _ (s1 _ _ hsl) nsl)
      have at0 : atI (slots.map nV) 0 = some (V.int ((slots.getD 0 0 : Nat) : Int)) := by
        refine atI_nat (j := 0) ?_
        rw [List.getElem?_map, List.getElem?_eq_getElem lp, List.getD_eq_getElem?_getD, List.getElem?_eq_getElem lp]
        rfl
      have s40 : slots.getD 0 0 ≤ 4 := by
        rw [List.getD_eq_getElem?_getD, List.getElem?_eq_getElem lp]
        exact s4 _ (List.getElem_mem lp)
      refine ⟨_, rfl, p, dx, _, rfl, hob, hno _ (by decide), _, rfl, sl, _, _, _, rfl, rfl, SqL.of hsl3.1, at0, p, F3, S3, 0, ((slots.getD 0 0 : Nat) : Int), rfl, h3, ?_⟩
      refine (if_pos (ok0 L3.hlen)).mpr ((if_pos ⟨by omega, by omega⟩).mpr ((if_pos ?_).mpr fun H4 F4 h4 f4 => ?_))
      · rw [L3.keys, L3.rm, List.length_range]
        have := lr c
        omega
      rw [Int.toNat_natCast] at h4
      have f14 := f3.trans f4
      exact k H4 F4 _ h4 (fun x o e n => f14 x o (s1 _ _ e) n) (L3.last c lm)
end
end MK

set_option Elab.async false
set_option linter.all false
set_option pp.maxSteps 700
set_option maxRecDepth 100000
set_option maxHeartbeats 4000000
namespace MK
open PySem PySem.Spec PyProof.Rows L2 MM KG MP
theorem ne_make_take : (("make" : Str) = ("take" : Str)) = False := eq_false (by decide +kernel)
theorem ne_make_put : (("make" : Str) = ("put" : Str)) = False := eq_false (by decide +kernel)
theorem ne_make_share : (("make" : Str) = ("share" : Str)) = False := eq_false (by decide +kernel)
theorem ne_make_drop : (("make" : Str) = ("drop" : Str)) = False := eq_false (by decide +kernel)
theorem ne_make_held : (("make" : Str) = ("held" : Str)) = False := eq_false (by decide +kernel)
theorem ne_make_look : (("make" : Str) = ("look" : Str)) = False := eq_false (by decide +kernel)
theorem ne_make_work : (("make" : Str) = ("work" : Str)) = False := eq_false (by decide +kernel)
theorem ne_take_make : (("take" : Str) = ("make" : Str)) = False := eq_false (by decide +kernel)
theorem ne_take_put : (("take" : Str) = ("put" : Str)) = False := eq_false (by decide +kernel)
theorem ne_take_share : (("take" : Str) = ("share" : Str)) = False := eq_false (by decide +kernel)
theorem ne_take_drop : (("take" : Str) = ("drop" : Str)) = False := eq_false (by decide +kernel)
theorem ne_take_held : (("take" : Str) = ("held" : Str)) = False := eq_false (by decide +kernel)
theorem ne_take_look : (("take" : Str) = ("look" : Str)) = False := eq_false (by decide +kernel)
theorem ne_take_work : (("take" : Str) = ("work" : Str)) = False := eq_false (by decide +kernel)
theorem ne_put_make : (("put" : Str) = ("make" : Str)) = False := eq_false (by decide +kernel)
theorem ne_put_take : (("put" : Str) = ("take" : Str)) = False := eq_false (by decide +kernel)
theorem ne_put_share : (("put" : Str) = ("share" : Str)) = False := eq_false (by decide +kernel)
theorem ne_put_drop : (("put" : Str) = ("drop" : Str)) = False := eq_false (by decide +kernel)
theorem ne_put_held : (("put" : Str) = ("held" : Str)) = False := eq_false (by decide +kernel)
theorem ne_put_look : (("put" : Str) = ("look" : Str)) = False := eq_false (by decide +kernel)
theorem ne_put_work : (("put" : Str) = ("work" : Str)) = False := eq_false (by decide +kernel)
theorem ne_share_make : (("share" : Str) = ("make" : Str)) = False := eq_false (by decide +kernel)
theorem ne_share_take : (("share" : Str) = ("take" : Str)) = False := eq_false (by decide +kernel)
theorem ne_share_put : (("share" : Str) = ("put" : Str)) = False := eq_false (by decide +kernel)
theorem ne_share_drop : (("share" : Str) = ("drop" : Str)) = False := eq_false (by decide +kernel)
theorem ne_share_held : (("share" : Str) = ("held" : Str)) = False := eq_false (by decide +kernel)
theorem ne_share_look : (("share" : Str) = ("look" : Str)) = False := eq_false (by decide +kernel)
theorem ne_share_work : (("share" : Str) = ("work" : Str)) = False := eq_false (by decide +kernel)
theorem ne_drop_make : (("drop" : Str) = ("make" : Str)) = False := eq_false (by decide +kernel)
theorem ne_drop_take : (("drop" : Str) = ("take" : Str)) = False := eq_false (by decide +kernel)
theorem ne_drop_put : (("drop" : Str) = ("put" : Str)) = False := eq_false (by decide +kernel)
theorem ne_drop_share : (("drop" : Str) = ("share" : Str)) = False := eq_false (by decide +kernel)
theorem ne_drop_held : (("drop" : Str) = ("held" : Str)) = False := eq_false (by decide +kernel)
theorem ne_drop_look : (("drop" : Str) = ("look" : Str)) = False := eq_false (by decide +kernel)
theorem ne_drop_work : (("drop" : Str) = ("work" : Str)) = False := eq_false (by decide +kernel)
theorem ne_held_make : (("held" : Str) = ("make" : Str)) = False := eq_false (by decide +kernel)
theorem ne_held_take : (("held" : Str) = ("take" : Str)) = False := eq_false (by decide +kernel)
theorem ne_held_put : (("held" : Str) = ("put" : Str)) = False := eq_false (by decide +kernel)
theorem ne_held_share : (("held" : Str) = ("share" : Str)) = False := eq_false (by decide +kernel)
theorem ne_held_drop : (("held" : Str) = ("drop" : Str)) = False := eq_false (by decide +kernel)
theorem ne_held_look : (("held" : Str) = ("look" : Str)) = False := eq_false (by decide +kernel)
theorem ne_held_work : (("held" : Str) = ("work" : Str)) = False := eq_false (by decide +kernel)
theorem ne_look_make : (("look" : Str) = ("make" : Str)) = False := eq_false (by decide +kernel)
theorem ne_look_take : (("look" : Str) = ("take" : Str)) = False := eq_false (by decide +kernel)
theorem ne_look_put : (("look" : Str) = ("put" : Str)) = False := eq_false (by decide +kernel)
theorem ne_look_share : (("look" : Str) = ("share" : Str)) = False := eq_false (by decide +kernel)
theorem ne_look_drop : (("look" : Str) = ("drop" : Str)) = False := eq_false (by decide +kernel)
theorem ne_look_held : (("look" : Str) = ("held" : Str)) = False := eq_false (by decide +kernel)
theorem ne_look_work : (("look" : Str) = ("work" : Str)) = False := eq_false (by decide +kernel)
theorem ne_work_make : (("work" : Str) = ("make" : Str)) = False := eq_false (by decide +kernel)
theorem ne_work_take : (("work" : Str) = ("take" : Str)) = False := eq_false (by decide +kernel)
theorem ne_work_put : (("work" : Str) = ("put" : Str)) = False := eq_false (by decide +kernel)
theorem ne_work_share : (("work" : Str) = ("share" : Str)) = False := eq_false (by decide +kernel)
theorem ne_work_drop : (("work" : Str) = ("drop" : Str)) = False := eq_false (by decide +kernel)
theorem ne_work_held : (("work" : Str) = ("held" : Str)) = False := eq_false (by decide +kernel)
theorem ne_work_look : (("work" : Str) = ("look" : Str)) = False := eq_false (by decide +kernel)

/-- what stays of it while the collector begins -/
structure Held (S : HS) (slots : List Nat) (many room : Nat) : Prop where
  hlen : S.hands.length = many
  rm : S.room = room
  keys : S.keys = List.range (slots.length + if slots = [] then 0 else 1)
  held : ∀ h, h < slots.length → ∃ k, S.hand h = some k ∧ (S.row k).length = slots.getD h 0
  free : ∀ h, slots.length ≤ h → S.hand h = none
theorem Laid.held' {S : HS} {slots : List Nat} {many room : Nat} (L : Laid S slots many room) : Held S slots many room := ⟨L.hlen, L.rm, L.keys, L.held, L.free⟩
theorem Laid.work {S : HS} {slots : List Nat} {many room n : Nat} (L : Laid S slots many room) (h : n = 0 ∨ n = 1) : Held (HS.work n S).1 slots many room := by
  rcases h with rfl | rfl
  · exact L.held'
  · show Held (HS.work 0 S).1.piece.1 slots many room
    show Held S.piece.1 slots many room
    have e : S.step.1 = S.began := by
      unfold HS.step
      rw [if_pos L.line, if_pos L.unsw]
    have pe : S.piece.1 = S.began.ends := by
      unfold HS.piece
      rw [e]
    rw [pe]
    have b1 : S.began.hands = S.hands ∧ S.began.room = S.room ∧ S.began.keys = S.keys ∧ S.began.rows = S.rows := by
      unfold HS.began
      rw [markAll_eq]
      exact ⟨rfl, rfl, rfl, rfl⟩
    have e1 : S.began.ends.hands = S.began.hands ∧ S.began.ends.room = S.began.room ∧ S.began.ends.keys = S.began.keys ∧ S.began.ends.rows = S.began.rows := by
      unfold HS.ends
      split
      · exact ⟨rfl, rfl, rfl, rfl⟩
      · exact ⟨rfl, rfl, rfl, rfl⟩
    have hh : ∀ h, S.began.ends.hand h = S.hand h := fun h => by
      unfold HS.hand
      rw [e1.1, b1.1]
    have hr : ∀ k, S.began.ends.row k = S.row k := fun k => by
      show rowOf S.began.ends.rows k = rowOf S.rows k
      rw [e1.2.2.2, b1.2.2.2]
    exact ⟨by rw [e1.1, b1.1]; exact L.hlen, by rw [e1.2.1, b1.2.1]; exact L.rm, by rw [e1.2.2.1, b1.2.2.1]; exact L.keys, fun h hl => by
      obtain ⟨k, a, b⟩ := L.held h hl
      exact ⟨k, (hh h).trans a, by rw [hr]; exact b⟩, fun h hl => (hh h).trans (L.free h hl)⟩
section
variable {S : HS} {slots : List Nat} {many room : Nat} (a b c : Int)
theorem okH_iff (h : S.hands.length = many) (x : Int) : okHand S x ↔ inH ((many : Nat) : Int) x := by
  unfold okHand
  rw [h]
/-- the slots of the box that hand h holds -/
theorem slotted_eq (L : Held S slots many room) {h : Int} (hh : (inH ((many : Nat) : Int) a ∧ inH ((many : Nat) : Int) b) → 0 ≤ h) :
    slotted S a b h c = if inH ((many : Nat) : Int) a ∧ inH ((many : Nat) : Int) b then (if ((slots.map fun n => ((n : Nat) : Int)).length : Int) ≤ h then some 3 else if 0 ≤ c ∧ c < (slots.map fun n => ((n : Nat) : Int)).getD h.toNat 0 then none else some 1) else some 0 := by
  unfold slotted
  simp only [okH_iff L.hlen]
  by_cases c1 : inH ((many : Nat) : Int) a ∧ inH ((many : Nat) : Int) b
  · rw [if_pos c1, if_pos c1]
    obtain ⟨n, rfl⟩ := Int.eq_ofNat_of_zero_le (hh c1)
    rw [Int.toNat_natCast, List.length_map]
    by_cases c2 : n < slots.length
    · obtain ⟨k, e1, e2⟩ := L.held n c2
      rw [e1, if_neg (show ¬ ((slots.length : Nat) : Int) ≤ ((n : Nat) : Int) by omega)]
      have e3 : (slots.map fun n => ((n : Nat) : Int)).getD n 0 = (((S.row k).length : Nat) : Int) := by
        rw [e2, List.getD_eq_getElem?_getD, List.getElem?_map, List.getElem?_eq_getElem c2, List.getD_eq_getElem?_getD, List.getElem?_eq_getElem c2]
        rfl
      rw [e3]
    · rw [L.free n (by omega), if_pos (show ((slots.length : Nat) : Int) ≤ ((n : Nat) : Int) by omega)]
  · rw [if_neg c1, if_neg c1]
theorem due_make (slots : List Int) (many room total : Int) : d1 "make" a b c slots many room total = if inH many a then (if 0 ≤ c ∧ c ≤ 4 then (if room ≤ total then some 2 else none) else some 1) else some 0 := by
  simp only [d1, d2, d3, d4, d5, d6, d7, d8, hd6, ne_make_take, ne_make_put, ne_make_share, ne_make_drop, ne_make_held, ne_make_look, ne_make_work, true_or, or_true, or_false, false_or, true_and, false_and, if_true, if_false, not_false_eq_true]
  by_cases h1 : inH many a <;> by_cases h2 : 0 ≤ c ∧ c ≤ 4 <;> simp [h1, h2]
theorem due_take (slots : List Int) (many room total : Int) : d1 "take" a b c slots many room total = if inH many a ∧ inH many b then (if (slots.length : Int) ≤ b then some 3 else if 0 ≤ c ∧ c < slots.getD (b).toNat 0 then none else some 1) else some 0 := by
  simp only [d1, d2, d3, d4, d5, d6, d7, d8, hd6, ne_take_make, ne_take_put, ne_take_share, ne_take_drop, ne_take_held, ne_take_look, ne_take_work, true_or, or_true, or_false, false_or, true_and, false_and, if_true, if_false, not_false_eq_true]
  by_cases h1 : inH many a ∧ inH many b <;> simp [h1]
theorem due_put (slots : List Int) (many room total : Int) : d1 "put" a b c slots many room total = if inH many a ∧ inH many b then (if (slots.length : Int) ≤ a then some 3 else if 0 ≤ c ∧ c < slots.getD (a).toNat 0 then none else some 1) else some 0 := by
  simp only [d1, d2, d3, d4, d5, d6, d7, d8, hd6, ne_put_make, ne_put_take, ne_put_share, ne_put_drop, ne_put_held, ne_put_look, ne_put_work, true_or, or_true, or_false, false_or, true_and, false_and, if_true, if_false, not_false_eq_true]
  by_cases h1 : inH many a ∧ inH many b <;> simp [h1]
theorem due_share (slots : List Int) (many room total : Int) : d1 "share" a b c slots many room total = if inH many a ∧ inH many b then none else some 0 := by
  simp only [d1, d2, d3, d4, d5, d6, d7, d8, hd6, ne_share_make, ne_share_take, ne_share_put, ne_share_drop, ne_share_held, ne_share_look, ne_share_work, true_or, or_true, or_false, false_or, true_and, false_and, if_true, if_false, not_false_eq_true]
  by_cases h1 : inH many a ∧ inH many b <;> simp [h1]
theorem due_drop (slots : List Int) (many room total : Int) : d1 "drop" a b c slots many room total = if inH many a then none else some 0 := by
  simp only [d1, d2, d3, d4, d5, d6, d7, d8, hd6, ne_drop_make, ne_drop_take, ne_drop_put, ne_drop_share, ne_drop_held, ne_drop_look, ne_drop_work, true_or, or_true, or_false, false_or, true_and, false_and, if_true, if_false, not_false_eq_true]
  by_cases h1 : inH many a <;> simp [h1]
theorem due_held (slots : List Int) (many room total : Int) : d1 "held" a b c slots many room total = if inH many a then none else some 0 := by
  simp only [d1, d2, d3, d4, d5, d6, d7, d8, hd6, ne_held_make, ne_held_take, ne_held_put, ne_held_share, ne_held_drop, ne_held_look, ne_held_work, true_or, or_true, or_false, false_or, true_and, false_and, if_true, if_false, not_false_eq_true]
  by_cases h1 : inH many a <;> simp [h1]
theorem due_look (slots : List Int) (many room total : Int) : d1 "look" a b c slots many room total = if 0 ≤ c ∧ c < total then none else some 4 := by
  simp only [d1, d2, d3, d4, d5, d6, d7, d8, hd6, ne_look_make, ne_look_take, ne_look_put, ne_look_share, ne_look_drop, ne_look_held, ne_look_work, true_or, or_true, or_false, false_or, true_and, false_and, if_true, if_false, not_false_eq_true]
  by_cases h1 : 0 ≤ c ∧ c < total <;> simp [h1]
theorem due_work (slots : List Int) (many room total : Int) : d1 "work" a b c slots many room total = if 0 ≤ c ∧ c ≤ 2500 then none else some 5 := by
  simp only [d1, d2, d3, d4, d5, d6, d7, d8, hd6, ne_work_make, ne_work_take, ne_work_put, ne_work_share, ne_work_drop, ne_work_held, ne_work_look, true_or, or_true, or_false, false_or, true_and, false_and, if_true, if_false, not_false_eq_true]
  by_cases h1 : 0 ≤ c ∧ c ≤ 2500 <;> simp [h1]
/-- the words of the deeds that are asked -/
def wordsL : List Str := ["make", "take", "put", "share", "drop", "held", "look", "work"]
/-- the law's due is what the heap refuses -/
theorem due_is (L : Held S slots many room) {u : Str} (hu : u ∈ wordsL) : d1 u a b c (slots.map fun n => ((n : Nat) : Int)) ((many : Nat) : Int) ((room : Nat) : Int) (((slots.length + if slots = [] then 0 else 1 : Nat)) : Int) = refusal S u a b c := by
  have kl : S.keys.length = slots.length + if slots = [] then 0 else 1 := by rw [L.keys, List.length_range]
  generalize slots.length + (if slots = [] then 0 else 1) = total at kl
  have km : ∀ k, k ∈ S.keys ↔ k < S.keys.length := fun k => by rw [L.keys, List.length_range, List.mem_range]
  rw [kl] at km
  have hu' : u = "make" ∨ u = "take" ∨ u = "put" ∨ u = "share" ∨ u = "drop" ∨ u = "held" ∨ u = "look" ∨ u = "work" := by simpa [wordsL] using hu
  rcases hu' with rfl | rfl | rfl | rfl | rfl | rfl | rfl | rfl
  · rw [due_make]
    unfold refusal
    simp only [ne_make_take, ne_make_put, ne_make_share, ne_make_drop, ne_make_held, ne_make_look, ne_make_work, if_true, if_false]
    simp only [okH_iff L.hlen, kl, L.rm]
    by_cases h1 : inH ((many : Nat) : Int) a
    · rw [if_pos h1, if_pos h1]
      by_cases h2 : 0 ≤ c ∧ c ≤ 4
      · rw [if_pos h2, if_pos h2]
        by_cases h3 : total < room
        · rw [if_pos h3, if_neg (by omega)]
        · rw [if_neg h3, if_pos (by omega)]
      · rw [if_neg h2, if_neg h2]
    · rw [if_neg h1, if_neg h1]
  · rw [due_take]
    unfold refusal
    simp only [ne_take_make, ne_take_put, ne_take_share, ne_take_drop, ne_take_held, ne_take_look, ne_take_work, if_true, if_false]
    exact (slotted_eq a b c L fun h => h.2.1).symm
  · rw [due_put]
    unfold refusal
    simp only [ne_put_make, ne_put_take, ne_put_share, ne_put_drop, ne_put_held, ne_put_look, ne_put_work, if_true, if_false]
    exact (slotted_eq a b c L fun h => h.1.1).symm
  · rw [due_share]
    unfold refusal
    simp only [ne_share_make, ne_share_take, ne_share_put, ne_share_drop, ne_share_held, ne_share_look, ne_share_work, if_true, if_false]
    simp only [okH_iff L.hlen]
  · rw [due_drop]
    unfold refusal
    simp only [ne_drop_make, ne_drop_take, ne_drop_put, ne_drop_share, ne_drop_held, ne_drop_look, ne_drop_work, if_true, if_false]
    simp only [okH_iff L.hlen]
  · rw [due_held]
    unfold refusal
    simp only [ne_held_make, ne_held_take, ne_held_put, ne_held_share, ne_held_drop, ne_held_look, ne_held_work, if_true, if_false]
    simp only [okH_iff L.hlen]
  · rw [due_look]
    unfold refusal
    simp only [ne_look_make, ne_look_take, ne_look_put, ne_look_share, ne_look_drop, ne_look_held, ne_look_work, if_true, if_false]
    have : (0 ≤ c ∧ c < ((total : Nat) : Int)) ↔ (0 ≤ c ∧ c.toNat ∈ S.keys) := by
      rw [km]
      constructor
      · rintro ⟨x, y⟩
        exact ⟨x, by omega⟩
      · rintro ⟨x, y⟩
        exact ⟨x, by omega⟩
    simp only [this]
  · rw [due_work]
    unfold refusal
    simp only [ne_work_make, ne_work_take, ne_work_put, ne_work_share, ne_work_drop, ne_work_held, ne_work_look, if_true, if_false]
end
end MK

set_option Elab.async false
set_option linter.all false
set_option pp.maxSteps 700
set_option maxRecDepth 100000
set_option maxHeartbeats 8000000
namespace MK
open PySem PySem.Spec PyProof.Rows L2 MM KG MP L2H
def addrOf : Value → Addr
  | .ref a => a
  | _ => 0
abbrev words8 : List V := [.str "make", .str "take", .str "put", .str "share", .str "drop", .str "held", .str "look", .str "work"]
theorem word8 (x : Int) : ∃ u : Str, u ∈ wordsL ∧ atI words8 (x % 8) = some (V.str u) := by
  have : x % 8 = 0 ∨ x % 8 = 1 ∨ x % 8 = 2 ∨ x % 8 = 3 ∨ x % 8 = 4 ∨ x % 8 = 5 ∨ x % 8 = 6 ∨ x % 8 = 7 := by omega
  rcases this with h | h | h | h | h | h | h | h
  · rw [h]; exact ⟨"make", by simp [wordsL], rfl⟩
  · rw [h]; exact ⟨"take", by simp [wordsL], rfl⟩
  · rw [h]; exact ⟨"put", by simp [wordsL], rfl⟩
  · rw [h]; exact ⟨"share", by simp [wordsL], rfl⟩
  · rw [h]; exact ⟨"drop", by simp [wordsL], rfl⟩
  · rw [h]; exact ⟨"held", by simp [wordsL], rfl⟩
  · rw [h]; exact ⟨"look", by simp [wordsL], rfl⟩
  · rw [h]; exact ⟨"work", by simp [wordsL], rfl⟩
theorem rows_plain {S : HS} (G : Good S) {total : Nat} {x : List V} (h : x ∈ rowsOf S total) : Plain x ∧ x.length ≤ 3000 := by
  unfold rowsOf at h
  rcases List.mem_append.mp h with h | h
  · have h' : x = S.hands.map optV ∨ x = S.keys.map nV ∨ x = (sortN S.marks).map nV ∨ x = S.line.map nV ∨ x = [V.int ((S.ended : Nat) : Int)] := by simpa using h
    rcases h' with rfl | rfl | rfl | rfl | rfl
    · exact ⟨plain_opt _, by rw [List.length_map]; have := G.hn; omega⟩
    · exact ⟨plain_nat _, by rw [List.length_map]; have := G.keysn; omega⟩
    · exact ⟨plain_nat _, by rw [List.length_map]; have := G.marksn; unfold sortN; rw [List.length_mergeSort]; omega⟩
    · exact ⟨plain_nat _, by rw [List.length_map]; have := G.linen; omega⟩
    · exact ⟨plain_nat [S.ended], by show 1 ≤ 3000; decide⟩
  · obtain ⟨k, hk, rfl⟩ := List.mem_map.mp h
    refine ⟨plain_opt _, ?_⟩
    rw [List.length_map]
    by_cases hk : k < S.rows.length
    · have := G.four _ (rowOf_mem hk)
      show (rowOf S.rows k).length ≤ 3000
      omega
    · show (rowOf S.rows k).length ≤ 3000
      rw [rowOf_ge (by omega)]
      decide
theorem refusal_le {S : HS} {u : Str} {a b c : Int} {n : Nat} (h : refusal S u a b c = some n) : n ≤ 5 := by
  unfold refusal slotted at h
  repeat' split at h
  all_goals first | (injection h with h; omega) | (injection h)
theorem pe_impl {X : Cx} {e : Expr} {t t' : TE} (h : PE X e t) (i : ∀ σ H Q, t' σ H Q → t σ H Q) : PE X e t' := ⟨fun pins s σ H Q I q => h.run pins s σ H Q I (i _ _ _ q)⟩
/-- kinds, of the error at a whose class stands at D -/
def spKindsA (K : PySem.W.Frag) (EC : ECs) (a D : Addr) : Sp := fun vs H Q _ => vs = [.ref a] ∧ ∃ bs : List Bool, KindsOf K EC D bs ∧ ∀ H' R, Same H H' → H' R = some (.lst ((kindsL bs).map nV)) → Q (.ref R) H'
theorem kinds_imp {K : PySem.W.Frag} {EC : ECs} {a : Addr} {oe : Obj} {cls : Value} {d : Option Addr} {i : Nat} {E : L2.St → XK} (h1 : cls = .ref (addrOf cls)) (h2 : d = none) (h3 : ExcC K (addrOf cls)) (hz : L2N.Zn cls d oe) (hf : ∃ vs, oe.data = .fields vs) :
    ∀ σ H Q, tCallS (spKindsA K EC a (addrOf cls)) E (tCons (tVar i) tNil) σ H Q → tCallS (spKinds K EC (a, oe)) E (tCons (tVar i) tNil) σ H Q := by
  rintro σ H Q ⟨v, hv, h, bs, kb, k⟩
  refine ⟨v, hv, h, addrOf cls, bs, ?_, hf, h3, kb, k⟩
  have z := hz.zc
  rw [h2] at z
  rw [h1] at z
  exact z
section
variable {P : Program} {w : World} {K : PySem.W.Frag} {mg : Str → Option Value} {base : Heap} {C : Addr} {EC : ECs}
theorem ok_law {f fI fa fl fw fd' fal fp fas falh fnh fk fph cHE : Addr} {fd fdI fda fdl fdw fdd fdal fdp fdas fdalh fdnh fdk fdph : FuncData} (F : Fun K "law" "law" sLaw f fd)
    (D_Heap : Dc P w K mg base (L2N.CX P w) 1 C "Heap" fI fdI ["self", "hands", "room"] (spInit C EC)) (D__law_cell_at : Df P w K mg base CX0 1 "_law_cell_at" fa fda ["_law_script", "_law_k"] (spCell K)) (D__law_laid : Df P w K mg base CX0 3 "_law_laid" fl fdl ["_law_heap", "_law_slots", "_law_cells"] (spLaid C))
    (D_work : Dm P w K mg base (L2N.CX P w) 4 C "work" fw fdw ["self", "pieces"] (spWork C EC)) (D__law_due : Df P w K mg base CX0 1 "_law_due" fd' fdd ["_law_deed", "_law_slots", "_law_many", "_law_room", "_law_total"] spDue5) (D__law_all : Df P w K mg base CX0 3 "_law_all" fal fdal ["_law_heap", "_law_many", "_law_total"] (spAll C))
    (D_phase : Dm P w K mg base CX0 1 C "phase" fp fdp ["self"] (spPhase C)) (D__law_asked : Df P w K mg base (L2N.CX P w) 5 "_law_asked" fas fdas ["_law_heap", "_law_deed"] (spAsked5 C EC))
    (D__law_allH : DfH P w K mg base CX0 3 "_law_all" falh fdalh ["_law_heap", "_law_many", "_law_total"] (spAll C)) (D__law_numbersH : DfH P w K mg base CX0 2 "_law_numbers" fnh fdnh (["_law_found", "_law_due_here"]) spNumbers) (D__law_kinds : DfHp P w K mg base CX0 1 "_law_kinds" fk fdk ["_law_e"] (spKinds K EC))
    (D_phaseH : DmH P w K mg base CX0 1 C "phase" fph fdph ["self"] (spPhase C))
    (T_HeapError : ExC K mg "HeapError" cHE) (EX : ∀ n, n ≤ 5 → ExcC K (ecAt EC n) ∧ PySem.W.subIn K (.ref (ecAt EC n)) (.ref cHE) = some true ∧ PySem.W.kitOne K (.ref (ecAt EC n)) (.type "ValueError") = some true ∧ ∃ bs, KindsOf K EC (ecAt EC n) bs ∧ kindsL bs = [n])
    (m_isinstance : mg "isinstance" = none) (m_range : mg "range" = none) (m_len : mg "len" = none) (m_min : mg "min" = none) (m_max : mg "max" = none) (m_int : mg "int" = none) (m_ValueError : mg "ValueError" = none) : FnOk P w K mg base CX0 6 f fd ["_law_script"] (spLaw K) := by
  refine F.ok scLaw (fun vs H Q E h => ?_) (fun cdv Aenv outer s H vs Q E hr h => ?_)
  · obtain ⟨a, ns, rfl, _⟩ := h
    rfl
  · obtain ⟨l, ns, rfl, hS, n63, k⟩ := h
    refine ⟨_, (pss_cons (ps_set (i := 1) scLaw.nd rfl (.inl rfl) (pe_op op_add pe_int (pe_op op_mod (pe_call D__law_cell_at.g (hr.mono (by decide)) (by rfl) D__law_cell_at.m D__law_cell_at.k D__law_cell_at.b .nil pass0 (pa_cons (pv 0) (pa_cons pe_int pa_nil))) pe_int)))
      (pss_cons (ps_setLc (i := 2) (own := [("_law_k", 16)]) (g := gName 16) (tt := tYes) rfl scLaw.nd rfl rfl (sw_true rfl rfl rfl (by decide +kernel)) (pi_range1 (by rfl) m_range (pa_cons (pe_callB (call_min2 rfl) (by rfl) m_min (by decide +kernel) (pa_cons (pv 1) (pa_cons (pe_op op_mod (pe_call D__law_cell_at.g (hr.mono (by decide)) (by rfl) D__law_cell_at.m D__law_cell_at.k D__law_cell_at.b .nil pass0 (pa_cons (pv 0) (pa_cons pe_int pa_nil))) pe_int) pa_nil))) pa_nil)) (blkOk_by (N := ["_law_script", "_law_many", "_law_slots", "_law_total", "_law_room", "_law_heap", "_law_words", "_law_word", "_law_numbers_here", "_law_far", "_law_deed", "_law_due_here", "_law_before", "_law_phase", "_law_e", "_law_after", "_law_k"]) (sc := defScope sLaw) (by decide +kernel)) (fun _ _ _ _ _ => (pg_name (i := 16) scLaw.nd rfl (.inl rfl))) (fun _ _ _ _ _ => pts_nil) (fun _ _ _ _ _ => (pe_op op_mod (pe_call D__law_cell_at.g (hr.mono (by decide)) (by rfl) D__law_cell_at.m D__law_cell_at.k D__law_cell_at.b .nil pass0 (pa_cons (pv 0) (pa_cons (pe_op op_add pe_int (pv 16)) pa_nil))) pe_int)))
      (pss_cons (ps_set (i := 3) scLaw.nd rfl (.inl rfl) (pe_op op_add (pe_callB (lenS (K := K)) (by rfl) m_len (by decide +kernel) (pa_cons (pv 2) pa_nil)) (pe_callTy call_int1 (by rfl) m_int (by decide +kernel) (pa_cons (pe_cmpR (neDK (K := K) hr.units) (pv 2) (pe_lst pa_nil) (nomark _)) pa_nil))))
      (pss_cons (ps_set (i := 4) scLaw.nd rfl (.inl rfl) (pe_callB (call_max2 rfl) (by rfl) m_max (by decide +kernel) (pa_cons pe_int (pa_cons (pe_op op_add (pv 3) (pe_op op_mod (pe_op op_fdiv (pe_call D__law_cell_at.g (hr.mono (by decide)) (by rfl) D__law_cell_at.m D__law_cell_at.k D__law_cell_at.b .nil pass0 (pa_cons (pv 0) (pa_cons pe_int pa_nil))) pe_int) pe_int)) pa_nil))))
      (pss_cons (ps_set (i := 5) scLaw.nd rfl (.inl rfl) (pe_make D_Heap.mkk D_Heap.g (hr.mono (by decide)) (by rfl) D_Heap.m D_Heap.b .nil passN (pa_cons (pv 1) (pa_cons (pv 4) pa_nil))))
      (pss_cons (ps_expr (pe_call D__law_laid.g (hr.mono (by decide)) (by rfl) D__law_laid.m D__law_laid.k D__law_laid.b .nil pass0 (pa_cons (pv 5) (pa_cons (pv 2) (pa_cons (pe_lc (own := [("_law_k", 16)]) (g := gName 16) (tt := tYes) rfl scLaw.nd (pi_range1 (by rfl) m_range (pa_cons (pe_callB (lenS (K := K)) (by rfl) m_len (by decide +kernel) (pa_cons (pv 2) pa_nil)) pa_nil)) (blkOk_by (N := ["_law_script", "_law_many", "_law_slots", "_law_total", "_law_room", "_law_heap", "_law_words", "_law_word", "_law_numbers_here", "_law_far", "_law_deed", "_law_due_here", "_law_before", "_law_phase", "_law_e", "_law_after", "_law_k"]) (sc := defScope sLaw) (by decide +kernel)) (fun _ _ _ _ _ => (pg_name (i := 16) scLaw.nd rfl (.inl rfl))) (fun _ _ _ _ _ => pts_nil) (fun _ _ _ _ _ => (pe_call D__law_cell_at.g (hr.mono (by decide)) (by rfl) D__law_cell_at.m D__law_cell_at.k D__law_cell_at.b .nil pass0 (pa_cons (pv 0) (pa_cons (pe_op op_add pe_int (pv 16)) pa_nil))))) pa_nil)))))
      (pss_cons (ps_expr (pe_meth (pv 5) D_work.c D_work.m D_work.g (hr.mono (by decide)) D_work.b .nil passN (pa_cons (pe_op op_mod (pe_call D__law_cell_at.g (hr.mono (by decide)) (by rfl) D__law_cell_at.m D__law_cell_at.k D__law_cell_at.b .nil pass0 (pa_cons (pv 0) (pa_cons pe_int pa_nil))) pe_int) pa_nil)))
      (pss_cons (ps_set (i := 6) scLaw.nd rfl (.inl rfl) (pe_lst (pa_cons pe_str (pa_cons pe_str (pa_cons pe_str (pa_cons pe_str (pa_cons pe_str (pa_cons pe_str (pa_cons pe_str (pa_cons pe_str pa_nil))))))))))
      (pss_cons (ps_set (i := 7) scLaw.nd rfl (.inl rfl) (pe_ix (ixL (K := K)) (pv 6) (pe_op op_mod (pe_op op_fdiv (pe_call D__law_cell_at.g (hr.mono (by decide)) (by rfl) D__law_cell_at.m D__law_cell_at.k D__law_cell_at.b .nil pass0 (pa_cons (pv 0) (pa_cons pe_int pa_nil))) pe_int) pe_int) (fun _ _ => rfl)))
      (pss_cons (ps_set (i := 8) scLaw.nd rfl (.inl rfl) (pe_lst (pa_cons (pe_op op_sub (pe_op op_mod (pe_call D__law_cell_at.g (hr.mono (by decide)) (by rfl) D__law_cell_at.m D__law_cell_at.k D__law_cell_at.b .nil pass0 (pa_cons (pv 0) (pa_cons pe_int pa_nil))) (pe_op op_add (pv 1) pe_int)) pe_int) (pa_cons (pe_op op_sub (pe_op op_mod (pe_call D__law_cell_at.g (hr.mono (by decide)) (by rfl) D__law_cell_at.m D__law_cell_at.k D__law_cell_at.b .nil pass0 (pa_cons (pv 0) (pa_cons pe_int pa_nil))) (pe_op op_add (pv 1) pe_int)) pe_int) pa_nil))))
      (pss_cons (ps_expr (pe_bm PySem.F.plainAttrs_list PySem.F.slot_list_append PySem.F.type_list_append mt_append (pv 8) (pa_cons (pe_op op_sub (pe_op op_mod (pe_call D__law_cell_at.g (hr.mono (by decide)) (by rfl) D__law_cell_at.m D__law_cell_at.k D__law_cell_at.b .nil pass0 (pa_cons (pv 0) (pa_cons pe_int pa_nil))) pe_int) pe_int) pa_nil)))
      (C8.pss_cut (ps_if (pt_cmpR op_eq (pv 7) pe_str (nomark _)) (pss_one (ps_asg (pe_op op_sub (pe_op op_mod (pe_call D__law_cell_at.g (hr.mono (by decide)) (by rfl) D__law_cell_at.m D__law_cell_at.k D__law_cell_at.b .nil pass0 (pa_cons (pv 0) (pa_cons pe_int pa_nil))) (pe_op op_add (pv 3) pe_int)) pe_int) (pg_sub (pv 8) pe_int set_list))) pss_nil)
      (C8.pss_cut (ps_if (pt_cmpR op_eq (pv 7) pe_str (nomark _)) (pss_one (ps_asg (pe_ix (ixL (K := K)) (pe_lst (pa_cons pe_int (pa_cons (pe_un un_neg pe_int) (pa_cons pe_int (pa_cons (pe_op op_add pe_int (pe_op op_mod (pe_op op_fdiv (pe_call D__law_cell_at.g (hr.mono (by decide)) (by rfl) D__law_cell_at.m D__law_cell_at.k D__law_cell_at.b .nil pass0 (pa_cons (pv 0) (pa_cons pe_int pa_nil))) pe_int) pe_int)) (pa_cons (pe_un un_neg pe_int) (pa_cons pe_int pa_nil))))))) (pe_op op_mod (pe_call D__law_cell_at.g (hr.mono (by decide)) (by rfl) D__law_cell_at.m D__law_cell_at.k D__law_cell_at.b .nil pass0 (pa_cons (pv 0) (pa_cons pe_int pa_nil))) pe_int) (fun _ _ => rfl)) (pg_sub (pv 8) pe_int set_list))) pss_nil)
      (pss_cons (ps_set (i := 9) scLaw.nd rfl (.inl rfl) (pe_call D__law_cell_at.g (hr.mono (by decide)) (by rfl) D__law_cell_at.m D__law_cell_at.k D__law_cell_at.b .nil pass0 (pa_cons (pv 0) (pa_cons pe_int pa_nil))))
      (C8.pss_cut (ps_if (pt_cmpR op_eq (pe_op op_mod (pv 9) pe_int) pe_int (nomark _)) (pss_one (ps_asg (pe_op op_add (pe_ix (ixL (K := K)) (pe_lst (pa_cons (pe_op op_pow pe_int pe_int) (pa_cons (pe_op op_sub pe_int (pe_op op_pow pe_int pe_int)) pa_nil))) (pe_op op_mod (pe_op op_fdiv (pv 9) pe_int) pe_int) (fun _ _ => rfl)) (pe_op op_mod (pe_op op_fdiv (pv 9) pe_int) pe_int)) (pg_sub (pv 8) (pe_op op_mod (pe_op op_fdiv (pv 9) pe_int) pe_int) set_list))) pss_nil)
      (pss_cons (ps_set (i := 10) scLaw.nd rfl (.inl rfl) (pe_op op_cat (pe_lst (pa_cons (pv 7) pa_nil)) (pv 8)))
      (pss_cons (ps_set (i := 11) scLaw.nd rfl (.inl rfl) (pe_call D__law_due.g (hr.mono (by decide)) (by rfl) D__law_due.m D__law_due.k D__law_due.b .nil pass0 (pa_cons (pv 10) (pa_cons (pv 2) (pa_cons (pv 1) (pa_cons (pv 4) (pa_cons (pv 3) pa_nil)))))))
      (pss_cons (ps_set (i := 12) scLaw.nd rfl (.inl rfl) (pe_call D__law_all.g (hr.mono (by decide)) (by rfl) D__law_all.m D__law_all.k D__law_all.b .nil pass0 (pa_cons (pv 5) (pa_cons (pv 1) (pa_cons (pv 3) pa_nil)))))
      (pss_cons (ps_set (i := 13) scLaw.nd rfl (.inl rfl) (pe_meth0 (pv 5) D_phase.c D_phase.m D_phase.g (hr.mono (by decide)) D_phase.b .nil pass0))
      (pss_cons (L2N.ps_try_as (i := 14) rfl rfl scLaw.nd rfl rfl ⟨by rfl, by decide, .inl T_HeapError.gP⟩ MP.takesN0 (fun W pn xe tk _ => (pss_one (ps_expr (pe_callS D__law_asked.g (hr.mono (by decide)) (by rfl) D__law_asked.m D__law_asked.k D__law_asked.b (fun σ => L2N.passAt tk σ) (pa_cons (pv 5) (pa_cons (pv 10) pa_nil)))))) (fun a oe cls d pn hz hf => pss_when (p := cls = .ref (addrOf cls) ∧ d = none ∧ ExcC K (addrOf cls)) fun hw => (pss_cons (ps_set (i := 15) scLaw.nd rfl (.inl rfl) (pe_callH D__law_allH.g (L2H.RoomH.mono (k := 5) ⟨hr.dp, hr.un⟩ (by decide)) ⟨_, ⟨rfl, hf.imp fun vs h => ⟨h, hz.2.2 vs h⟩⟩, List.mem_cons_self⟩ (by rfl) D__law_allH.m D__law_allH.k D__law_allH.b passH0 (pa_cons (pv 5) (pa_cons (pv 1) (pa_cons (pv 3) pa_nil)))))
      (pss_cons (ps_forH PassesOwn.never ⟨_, ⟨rfl, hf.imp fun vs h => ⟨h, hz.2.2 vs h⟩⟩, List.mem_cons_self⟩ (pi_range1H (by rfl) m_range (pa_cons (pe_callB (lenS (K := K)) (by rfl) m_len (by decide +kernel) (pa_cons (pv 12) pa_nil)) pa_nil)) (pg_name (i := 16) scLaw.nd rfl (.inl rfl)) (pss_one (ps_if (pt_not (pt_val (pe_callH D__law_numbersH.g (L2H.RoomH.mono (k := 5) ⟨hr.dp, hr.un⟩ (by decide)) ⟨_, ⟨rfl, hf.imp fun vs h => ⟨h, hz.2.2 vs h⟩⟩, List.mem_cons_self⟩ (by rfl) D__law_numbersH.m D__law_numbersH.k D__law_numbersH.b passH0 (pa_cons (pe_ix (ixL (K := K)) (pv 15) (pv 16) (fun _ _ => rfl)) (pa_cons (pe_ix (ixL (K := K)) (pv 12) (pv 16) (fun _ _ => rfl)) pa_nil))))) (pss_one (ps_ret pe_bl)) pss_nil)))
      (pss_one (ps_ret (pe_and (pe_cmpR (neDK (K := K) hr.units) (pv 11) (pe_lst pa_nil) (nomark _)) (pe_and (pe_cmpR (eqDK (K := K) hr.units) (pe_impl (pe_callHp D__law_kinds.g (L2H.RoomH.mono (k := 5) ⟨hr.dp, hr.un⟩ (by decide)) ⟨rfl, hf.imp fun vs h => ⟨h, hz.2.2 vs h⟩⟩ List.mem_cons_self (by rfl) D__law_kinds.m D__law_kinds.k D__law_kinds.b passH0 (pa_cons (pv 14) pa_nil)) (kinds_imp hw.1 hw.2.1 hw.2.2 hz hf)) (pv 11) (nomark _)) (pe_and (pe_callB (call_isE hw.2.2 (by have h := hz.zc; rw [hw.2.1] at h; rw [hw.1] at h; exact h) hf) (by rfl) m_isinstance (by decide +kernel) (pa_cons (pv 14) (pa_cons (pe_bltn (v := .ty "ValueError") (by rfl) m_ValueError (by decide +kernel) rfl) pa_nil))) (pe_one (pe_cmpR op_eq (pe_meth0H (pv 5) D_phaseH.c D_phaseH.m D_phaseH.g (L2H.RoomH.mono (k := 5) ⟨hr.dp, hr.un⟩ (by decide)) ⟨_, ⟨rfl, hf.imp fun vs h => ⟨h, hz.2.2 vs h⟩⟩, List.mem_cons_self⟩ D_phaseH.b passH0) (pv 13) (nomark _))))))))))))
      (pss_one (ps_ret (pe_cmpR (eqDK (K := K) hr.units) (pv 11) (pe_lst pa_nil) (nomark _)))))))))))))))))))))))), ?_⟩
    -- many, the slots
    refine ⟨_, rfl, l, ns, 0, rfl, hS, _, _, rfl, rfl, (by show (0 : Int) < 8; decide), _, _, rfl, rfl, ?_⟩
    obtain ⟨M, hM, m1, m8⟩ : ∃ M : Nat, 1 + cellOf ns 0 % 8 = (M : Int) ∧ 1 ≤ M ∧ M ≤ 8 := ⟨(1 + cellOf ns 0 % 8).toNat, by omega, by omega, by omega⟩
    dsimp only
    rw [hM]
    refine ⟨_, rfl, _, rfl, l, ns, 1, rfl, hS, _, _, rfl, rfl, (by show (0 : Int) < 6; decide), _, _, rfl, ?_⟩
    obtain ⟨n, hn, nM, n5⟩ : ∃ n : Nat, (if cellOf ns 1 % 6 < (M : Int) then cellOf ns 1 % 6 else (M : Int)) = (n : Int) ∧ n ≤ M ∧ n ≤ 5 := by
      refine ⟨(if cellOf ns 1 % 6 < (M : Int) then cellOf ns 1 % 6 else (M : Int)).toNat, ?_, ?_, ?_⟩ <;> split <;> omega
    rw [hn]
    refine ⟨_, rfl, by omega, by omega, fun sl nsl => ?_⟩
    rw [Int.toNat_natCast]
    refine lc_range (lo := 0) (n := n) (fun i H' => Same H H' ∧ H' sl = some (.lst (((List.range i).map fun k => (cellOf ns (3 + k) % 5).toNat).map nV))) ⟨same_new nsl, upd_same⟩ ?_ ?_
    · rintro i H' hi ⟨s1, hR⟩
      refine ⟨rfl, _, rfl, _, rfl, _, _, rfl, rfl, l, ns, 3 + i, congrArg (fun z => [V.ref l, V.int z]) (by omega), s1.seq hS, _, _, rfl, rfl, (by show (0 : Int) < 5; decide), _, hR, size_of (by rw [List.length_map, List.length_map, List.length_range]; omega), same_put s1 nsl, ?_⟩
      rw [upd_same, List.range_succ, List.map_append, List.map_append]
      have h0 : 0 ≤ cellOf ns (3 + i) % 5 := Int.emod_nonneg _ (by decide)
      show some (HO.lst (_ ++ [V.int (cellOf ns (3 + i) % 5)])) = some (HO.lst (_ ++ [V.int ((cellOf ns (3 + i) % 5).toNat : Int)]))
      rw [Int.toNat_of_nonneg h0]
    rintro H1 ⟨s1, hsl⟩
    obtain ⟨slots, eS, lS, f4⟩ : ∃ slots : List Nat, ((List.range n).map fun k => (cellOf ns (3 + k) % 5).toNat) = slots ∧ slots.length = n ∧ ∀ k ∈ slots, k ≤ 4 := by
      refine ⟨_, rfl, by rw [List.length_map, List.length_range], fun k hk => ?_⟩
      obtain ⟨j, _, rfl⟩ := List.mem_map.mp hk
      have h1 : cellOf ns (3 + j) % 5 < 5 := Int.emod_lt_of_pos _ (by decide)
      omega
    rw [eS] at hsl
    subst lS
    -- total, room
    refine ⟨_, rfl, sl, _, rfl, .inl (SqL.of hsl), _, rfl, Nat.zero_le _, fun e0 ne0 => ?_⟩
    have s2 : Same H1 (upd H1 e0 (.lst [])) := same_new ne0
    refine ⟨dI slots, dI [], dp_nats (SqL.of (s2 _ _ hsl)), dp_nats (SqL.of upd_same), shaped_nats _, shaped_nats _, .inr ⟨_, rfl, _, _, rfl, rfl, ?_⟩⟩
    rw [eqv_dI]
    generalize upd H1 e0 (.lst []) = H2 at s2
    have hsl2 := s2 _ _ hsl
    have s02 := s1.trans s2
    obtain ⟨total, eT, t6, tS⟩ : ∃ total : Nat, total = slots.length + (if slots = [] then 0 else 1) ∧ total ≤ 6 ∧ slots.length ≤ total := ⟨_, rfl, by split <;> omega, by omega⟩
    have eT2 : ((slots.map nV).length : Int) + (if (!decide (slots = [])) = true then 1 else 0) = ((total : Nat) : Int) := by
      rw [List.length_map, eT]
      by_cases c : slots = []
      · simp [c]
      · simp [c]
    dsimp only
    rw [eT2]
    refine ⟨_, rfl, _, rfl, l, ns, 1, rfl, s02.seq hS, _, _, rfl, rfl, ⟨by decide, by decide⟩, _, _, rfl, rfl, (by show (0 : Int) < 3; decide), _, _, rfl, rfl, _, _, rfl, ?_⟩
    obtain ⟨x3, hx3⟩ : ∃ x, cellOf ns 1 / 6 % 3 = x := ⟨_, rfl⟩
    have x30 : 0 ≤ cellOf ns 1 / 6 % 3 := Int.emod_nonneg _ (by decide)
    have x31 : cellOf ns 1 / 6 % 3 < 3 := Int.emod_lt_of_pos _ (by decide)
    dsimp only
    rw [hx3] at x30 x31 ⊢
    obtain ⟨R, hR, r1, r2, r3⟩ : ∃ R : Nat, (if ((total : Nat) : Int) + x3 > 1 then ((total : Nat) : Int) + x3 else 1) = (R : Int) ∧ 1 ≤ R ∧ total ≤ R ∧ R ≤ 1000 := by
      refine ⟨(if ((total : Nat) : Int) + x3 > 1 then ((total : Nat) : Int) + x3 else 1).toNat, ?_, ?_, ?_, ?_⟩ <;> split <;> omega
    rw [hR]
    -- the heap
    refine ⟨_, rfl, _, rfl, fun p dx np ndx ne => ⟨p, dx, (M : Int), (R : Int), rfl, upd_same, (if_pos ⟨by omega, by omega⟩).mpr fun H3 F3 h3 kp => ⟨rfl, ?_⟩⟩⟩
    rw [Int.toNat_natCast, Int.toNat_natCast] at h3
    have kp' : ∀ b o, H2 b = some o → H3 b = some o ∧ ¬ F3 b := fun b o e => kp b o (by rw [upd_ne (ne_of_none e np), upd_ne (ne_of_none e ndx)]; exact e) (ne_of_none e np)
    have s3 : Same H2 H3 := fun b o e => (kp' b o e).1
    have s03 := s02.trans s3
    have hsl3 := kp' _ _ hsl2
    -- what is laid
    refine ⟨_, rfl, _, rfl, _, rfl, sl, _, rfl, .inl (SqL.of hsl3.1), _, rfl, by rw [List.length_map]; omega, by rw [List.length_map]; omega, fun cl ncl => ?_⟩
    rw [List.length_map, Int.toNat_natCast]
    refine lc_range (lo := 0) (n := slots.length) (fun i H' => Same H3 H' ∧ H' cl = some (.lst (((List.range i).map fun k => cellOf ns (8 + k)).map V.int))) ⟨same_new ncl, upd_same⟩ ?_ ?_
    · rintro i H' hi ⟨s4, hR⟩
      refine ⟨rfl, _, rfl, _, rfl, _, _, rfl, rfl, l, ns, 8 + i, congrArg (fun z => [V.ref l, V.int z]) (by omega), (s03.trans s4).seq hS, _, hR, size_of (by rw [List.length_map, List.length_map, List.length_range]; omega), same_put s4 ncl, ?_⟩
      rw [upd_same, List.range_succ, List.map_append, List.map_append]
      rfl
    rintro H4 ⟨s4, hcl⟩
    have h4 := h3.same s4
    have ncl3 := h3.fresh ncl
    refine ⟨p, sl, cl, F3, slots, _, M, R, rfl, h4, s4 _ _ hsl3.1, hsl3.2, hcl, ncl3, nM, by omega, f4, fun c => by rw [if_neg c] at eT; omega, by rw [List.length_map, List.length_range], fun H5 F5 S5 h5 f5 L5 => ?_⟩
    have s04 : Same H H4 := s03.trans s4
    have n3 : ∀ b o, H b = some o → ¬ F3 b := fun b o e => (kp' b o (s02 b o e)).2
    have s05 : Same H H5 := fun b o e => (f5 b o (s04 b o e) (n3 b o e)).1
    have n5' : ∀ b o, H b = some o → ¬ F5 b := fun b o e => (f5 b o (s04 b o e) (n3 b o e)).2
    have hsl5 := f5 _ _ (s4 _ _ hsl3.1) hsl3.2
    obtain ⟨dx5, fs5, hob5, hno5⟩ := h5.ob
    have w0 : 0 ≤ cellOf ns 2 % 2 := Int.emod_nonneg _ (by decide)
    have w1 : cellOf ns 2 % 2 < 2 := Int.emod_lt_of_pos _ (by decide)
    refine ⟨_, rfl, p, dx5, _, rfl, hob5, hno5 _ (by decide), _, rfl, l, ns, 2, rfl, s05.seq hS, _, _, rfl, rfl, (by show (0 : Int) < 2; decide), p, F5, S5, _, rfl, h5, (if_pos ⟨w0, by omega⟩).mpr fun H6 F6 z h6 f6 nz nFz gz => ?_⟩
    have L6 := L5.work (n := (cellOf ns 2 % 2).toNat) (by omega)
    generalize (HS.work (cellOf ns 2 % 2).toNat S5).1 = S6 at h6 L6
    have s06 : Same H H6 := fun b o e => (f6 b o (s05 b o e) (n5' b o e)).1
    have n6 : ∀ b o, H b = some o → ¬ F6 b := fun b o e => (f6 b o (s05 b o e) (n5' b o e)).2
    have hsl6 := f6 _ _ hsl5.1 hsl5.2
    clear gz nz nFz
    -- the word
    refine ⟨(by show 8 ≤ sizeLine; decide), fun wl nwl => ?_⟩
    have s7 : Same H6 (upd H6 wl (.lst words8)) := same_new nwl
    have gwl : (upd H6 wl (.lst words8)) wl = some (.lst words8) := upd_same
    generalize upd H6 wl (.lst words8) = H7 at s7 gwl
    have s07 := s06.trans s7
    have h7 := h6.same s7
    obtain ⟨u, hu, hat⟩ := word8 (cellOf ns 2 / 2)
    refine ⟨_, rfl, _, rfl, l, ns, 2, rfl, s07.seq hS, _, _, rfl, rfl, ⟨by decide, by decide⟩, _, _, rfl, rfl, (by show (0 : Int) < 8; decide), wl, _, _, V.str u, rfl, rfl, SqL.of gwl, hat, ?_⟩
    -- the numbers
    refine ⟨_, rfl, l, ns, 13, rfl, s07.seq hS, _, rfl, _, _, rfl, rfl, _, _, rfl, rfl, (by show (0 : Int) < (M : Int) + 2; omega), _, _, rfl, rfl, _, rfl, l, ns, 14, rfl, s07.seq hS, _, rfl, _, _, rfl, rfl, _, _, rfl, rfl, (by show (0 : Int) < (M : Int) + 2; omega), _, _, rfl, rfl, (by show 2 ≤ sizeLine; decide), fun nq nnq => ?_⟩
    have gq7 : ∀ x y : V, (upd H7 nq (.lst [x, y])) nq = some (.lst [x, y]) := fun x y => upd_same
    have s8 : ∀ x y : V, Same H7 (upd H7 nq (.lst [x, y])) := fun x y => same_new nnq
    refine ⟨_, rfl, .inl ⟨rfl, _, SqL.of (gq7 _ _)⟩, _, rfl, l, ns, 15, rfl, (s07.trans (s8 _ _)).seq hS, _, _, rfl, rfl, (by show (0 : Int) < 8; decide), _, _, rfl, rfl, nq, _, _, rfl, rfl, gq7 _ _, size_of (by show 2 ≤ 100000; decide), ?_⟩
    refine ⟨fun σ' H' => ∃ a b c : Int, σ' = [some (.ref l), some (.int (M : Int)), some (.ref sl), some (.int (total : Int)), some (.int (R : Int)), some (.ref p), some (.ref wl), some (.str u), some (.ref nq), none, none, none, none, none, none, none, none] ∧ H' nq = some (.lst [.int a, .int b, .int c]) ∧ Same H7 H', ?_, ?_⟩
    · have g8 : (upd (upd H7 nq (.lst [V.int (cellOf ns 13 % ((M : Int) + 2) - 1), V.int (cellOf ns 14 % ((M : Int) + 2) - 1)])) nq (.lst ([V.int (cellOf ns 13 % ((M : Int) + 2) - 1), V.int (cellOf ns 14 % ((M : Int) + 2) - 1)] ++ [V.int (cellOf ns 15 % 8 - 2)]))) nq = some (.lst [V.int (cellOf ns 13 % ((M : Int) + 2) - 1), V.int (cellOf ns 14 % ((M : Int) + 2) - 1), V.int (cellOf ns 15 % 8 - 2)]) := upd_same
      have s9 : Same H7 (upd (upd H7 nq (.lst [V.int (cellOf ns 13 % ((M : Int) + 2) - 1), V.int (cellOf ns 14 % ((M : Int) + 2) - 1)])) nq (.lst ([V.int (cellOf ns 13 % ((M : Int) + 2) - 1), V.int (cellOf ns 14 % ((M : Int) + 2) - 1)] ++ [V.int (cellOf ns 15 % 8 - 2)]))) := same_put (s8 _ _) nnq
      refine ⟨_, rfl, rfl, _, rfl, ite2 (fun _ => ?_) (fun _ => ⟨(cellOf ns 13 % ((M : Int) + 2) - 1), (cellOf ns 14 % ((M : Int) + 2) - 1), (cellOf ns 15 % 8 - 2), rfl, g8, s9⟩)⟩
      refine ⟨_, rfl, l, ns, 15, rfl, (s07.trans s9).seq hS, _, rfl, _, _, rfl, rfl, _, _, rfl, rfl, (by show (0 : Int) < (total : Int) + 2; omega), _, _, rfl, rfl, _, rfl, nq, _, 2, 2, rfl, rfl, g8, rfl, ?_⟩
      exact ⟨(cellOf ns 13 % ((M : Int) + 2) - 1), (cellOf ns 14 % ((M : Int) + 2) - 1), _, rfl, upd_same, same_put s9 nnq⟩
    rintro σ1 H1' ⟨a1, b1, c1, rfl, g1, s1'⟩
    refine ⟨fun σ' H' => ∃ a b c : Int, σ' = [some (.ref l), some (.int (M : Int)), some (.ref sl), some (.int (total : Int)), some (.int (R : Int)), some (.ref p), some (.ref wl), some (.str u), some (.ref nq), none, none, none, none, none, none, none, none] ∧ H' nq = some (.lst [.int a, .int b, .int c]) ∧ Same H7 H', ?_, ?_⟩
    · refine ⟨_, rfl, rfl, _, rfl, ite2 (fun _ => ?_) (fun _ => ⟨a1, b1, c1, rfl, g1, s1'⟩)⟩
      obtain ⟨v, hv⟩ : ∃ v : Int, atI [V.int 0, V.int (-1), V.int 2501, V.int (2501 + cellOf ns 15 / 5 % 7500), V.int (-3), V.int 2500] (cellOf ns 15 % 6) = some (V.int v) := by
        have : cellOf ns 15 % 6 = 0 ∨ cellOf ns 15 % 6 = 1 ∨ cellOf ns 15 % 6 = 2 ∨ cellOf ns 15 % 6 = 3 ∨ cellOf ns 15 % 6 = 4 ∨ cellOf ns 15 % 6 = 5 := by omega
        rcases this with h | h | h | h | h | h <;> (rw [h]; exact ⟨_, rfl⟩)
      refine ⟨_, rfl, _, rfl, l, ns, 15, rfl, (s07.trans s1').seq hS, _, _, rfl, rfl, ⟨by decide, by decide⟩, _, _, rfl, rfl, (by show (0 : Int) < 7500; decide), _, _, rfl, rfl, _, rfl, (by show 6 ≤ sizeLine; decide), fun tq ntq => ?_⟩
      have gt : (upd H1' tq (.lst [V.int 0, V.int (-1), V.int 2501, V.int (2501 + cellOf ns 15 / 5 % 7500), V.int (-3), V.int 2500])) tq = some (.lst [V.int 0, V.int (-1), V.int 2501, V.int (2501 + cellOf ns 15 / 5 % 7500), V.int (-3), V.int 2500]) := upd_same
      have st : Same H1' (upd H1' tq (.lst [V.int 0, V.int (-1), V.int 2501, V.int (2501 + cellOf ns 15 / 5 % 7500), V.int (-3), V.int 2500])) := same_new ntq
      generalize upd H1' tq (.lst [V.int 0, V.int (-1), V.int 2501, V.int (2501 + cellOf ns 15 / 5 % 7500), V.int (-3), V.int 2500]) = H2' at gt st
      have s2' := s1'.trans st
      refine ⟨_, rfl, l, ns, 15, rfl, (s07.trans s2').seq hS, _, _, rfl, rfl, (by show (0 : Int) < 6; decide), tq, _, _, V.int v, rfl, rfl, SqL.of gt, hv, _, rfl, nq, _, 2, 2, rfl, rfl, st _ _ g1, rfl, ?_⟩
      exact ⟨a1, b1, v, rfl, upd_same, same_put s2' nnq⟩
    rintro σ2 H2' ⟨a2, b2, c2, rfl, g2, s2'⟩
    refine ⟨_, rfl, l, ns, 16, rfl, (s07.trans s2').seq hS, ?_⟩
    refine ⟨fun σ' H' => ∃ a b c : Int, σ' = [some (.ref l), some (.int (M : Int)), some (.ref sl), some (.int (total : Int)), some (.int (R : Int)), some (.ref p), some (.ref wl), some (.str u), some (.ref nq), some (.int (cellOf ns 16)), none, none, none, none, none, none, none] ∧ H' nq = some (.lst [.int a, .int b, .int c]) ∧ Same H7 H', ?_, ?_⟩
    · refine ⟨_, rfl, _, _, rfl, rfl, (by show (0 : Int) < 4; decide), rfl, _, rfl, ite2 (fun _ => ?_) (fun _ => ⟨a2, b2, c2, rfl, g2, s2'⟩)⟩
      obtain ⟨v, hv⟩ : ∃ v : Int, atI [V.int (10 ^ (30 : Int).toNat), V.int (0 - 10 ^ (30 : Int).toNat)] (cellOf ns 16 / 12 % 2) = some (V.int v) := by
        have : cellOf ns 16 / 12 % 2 = 0 ∨ cellOf ns 16 / 12 % 2 = 1 := by omega
        rcases this with h | h <;> (rw [h]; exact ⟨_, rfl⟩)
      refine ⟨10, 30, rfl, rfl, ⟨by decide, by decide, by decide⟩, 10, 30, rfl, rfl, ⟨by decide, by decide, by decide⟩, 0, _, rfl, rfl, (by show 2 ≤ sizeLine; decide), fun tq ntq => ?_⟩
      have gt : (upd H2' tq (.lst [V.int (10 ^ (30 : Int).toNat), V.int (0 - 10 ^ (30 : Int).toNat)])) tq = some (.lst [V.int (10 ^ (30 : Int).toNat), V.int (0 - 10 ^ (30 : Int).toNat)]) := upd_same
      have st : Same H2' (upd H2' tq (.lst [V.int (10 ^ (30 : Int).toNat), V.int (0 - 10 ^ (30 : Int).toNat)])) := same_new ntq
      generalize upd H2' tq (.lst [V.int (10 ^ (30 : Int).toNat), V.int (0 - 10 ^ (30 : Int).toNat)]) = H3' at gt st
      have s3' := s2'.trans st
      obtain ⟨j, hj, j3⟩ : ∃ j : Nat, cellOf ns 16 / 4 % 3 = (j : Int) ∧ j < 3 := ⟨(cellOf ns 16 / 4 % 3).toNat, by omega, by omega⟩
      have ij : ixN ([V.int a2, V.int b2, V.int c2] : List V).length (cellOf ns 16 / 4 % 3) = some j := by
        rw [hj]
        unfold ixN
        rw [if_pos (by omega), if_pos (by show (j : Int) < 3; omega), Int.toNat_natCast]
      refine ⟨_, rfl, _, _, rfl, rfl, ⟨by decide, by decide⟩, _, _, rfl, rfl, (by show (0 : Int) < 2; decide), tq, _, _, V.int v, rfl, rfl, SqL.of gt, hv, _, rfl, _, _, rfl, rfl, ⟨by decide, by decide⟩, _, _, rfl, rfl, (by show (0 : Int) < 9; decide), _, _, rfl, rfl, _, rfl, _, rfl, _, _, rfl, rfl, ⟨by decide, by decide⟩, _, _, rfl, rfl, (by show (0 : Int) < 3; decide), nq, _, _, j, rfl, rfl, st _ _ g2, ij, ?_⟩
      have sp := fun o => same_put (o := o) s3' nnq
      match j, j3 with
      | 0, _ => exact ⟨_, b2, c2, rfl, upd_same, sp _⟩
      | 1, _ => exact ⟨a2, _, c2, rfl, upd_same, sp _⟩
      | 2, _ => exact ⟨a2, b2, _, rfl, upd_same, sp _⟩
    rintro σ3 H8 ⟨a, b, c, rfl, g8, s78⟩
    have s08 := s07.trans s78
    have h8 := h7.same s78
    have hsl8 := s78 _ _ (s7 _ _ hsl6.1)
    -- the deed
    refine ⟨_, rfl, (by show 1 ≤ sizeLine; decide), fun w1q nw1 => ?_⟩
    have t1 : Same H8 (upd H8 w1q (.lst [V.str u])) := same_new nw1
    have gw : (upd H8 w1q (.lst [V.str u])) w1q = some (.lst [V.str u]) := upd_same
    have g8' := t1 _ _ g8
    generalize upd H8 w1q (.lst [V.str u]) = H9 at t1 gw g8'
    refine ⟨_, rfl, w1q, nq, _, _, rfl, rfl, gw, g8', (by show 1 + 3 ≤ sizeLine; decide), fun dq ndq => ?_⟩
    have t2 : Same H9 (upd H9 dq (.lst ([V.str u] ++ [V.int a, V.int b, V.int c]))) := same_new ndq
    have gd : (upd H9 dq (.lst ([V.str u] ++ [V.int a, V.int b, V.int c]))) dq = some (.lst [V.str u, V.int a, V.int b, V.int c]) := upd_same
    generalize upd H9 dq (.lst ([V.str u] ++ [V.int a, V.int b, V.int c])) = H10 at t2 gd
    have t12 := t1.trans t2
    have h10 := h8.same t12
    have hsl10 := t12 _ _ hsl8
    have emap : (slots.map fun n => ((n : Nat) : Int)).map V.int = slots.map nV := by rw [List.map_map]; rfl
    have ndF : ¬ F6 dq := (h8.same t1).fresh ndq
    refine ⟨_, rfl, _, rfl, _, rfl, _, rfl, _, rfl, dq, sl, u, a, b, c, slots.map (fun n => ((n : Nat) : Int)), (M : Int), (R : Int), (total : Int), rfl, gd, (by rw [emap]; exact hsl10), by rw [List.length_map]; omega, fun H11 R1 t3 nR10 gR => ?_⟩
    rw [eT, due_is a b c L6 hu] at gR
    have h11 := h10.same t3
    have gd11 := t3 _ _ gd
    -- all that is told
    have h11l : ((S6.hands.length : Nat) : Int) = (M : Int) := by rw [L6.hlen]
    have hkeys : ∀ k, k < total → k ∈ S6.keys := fun k hk => by rw [L6.keys, ← eT]; exact List.mem_range.mpr hk
    refine ⟨_, rfl, _, rfl, _, rfl, p, F6, S6, total, by rw [h11l]; rfl, h11, by omega, hkeys, fun H12 B t4 nB rB => ?_⟩
    have h12 := h11.same t4
    have gR12 := t4 _ _ gR
    have gd12 := t4 _ _ gd11
    -- the phase
    obtain ⟨A12, a12, e12, G12⟩ := h12
    have h12 : HeapAt C H12 p F6 S6 := ⟨A12, a12, e12, G12⟩
    obtain ⟨dx, fs, hob, hno⟩ := h12.ob
    refine ⟨_, rfl, p, dx, _, rfl, hob, hno _ (by decide), p, A12, raw S6, rfl, a12, Nat.le_trans G12.linen (by decide), Nat.le_trans G12.unswn (by decide), ?_⟩
    generalize hPH : Str.ofString (if (raw S6).line = [] then (if (raw S6).unsw = [] then "idle" else "sweeping") else "marking") = PH
    -- the deed, tried
    refine ⟨_, rfl, _, rfl, p, dq, F6, S6, u, a, b, c, rfl, h12, gd12, fun e H' kp => ?_, fun n e => ?_⟩
    · -- it isn't refused
      have nRF : ¬ F6 R1 := h10.fresh nR10
      have gR' := kp _ _ gR12 nRF
      refine ⟨_, rfl, Nat.zero_le _, fun e1 ne1 => ?_⟩
      have t5 : Same H' (upd H' e1 (.lst [])) := same_new ne1
      refine ⟨dI (refusal S6 u a b c).toList, dI [], dp_nats (SqL.of (t5 _ _ gR')), dp_nats (SqL.of upd_same), shaped_nats _, shaped_nats _, ?_⟩
      rw [eqv_dI, e]
      exact k _
    · -- it is
      have n5e := refusal_le e
      obtain ⟨EXn, sub, kitV, bs, kb, kl⟩ := EX n n5e
      refine ⟨true, exm_mk T_HeapError sub, fun _ a' ha' => ⟨⟨rfl, rfl, EXn⟩, ?_⟩, fun q => nomatch q⟩
      refine ⟨_, rfl, _, rfl, _, rfl, p, F6, S6, total, by rw [h11l], h12, by omega, hkeys, fun H13 A' t5 nA rA => ?_⟩
      obtain ⟨qb, gB, lB, rB'⟩ := rB
      obtain ⟨qa, gA, lA, rA'⟩ := rA
      have gB13 := t5 _ _ gB
      refine ⟨_, rfl, B, _, rfl, .inl (SqL.of gB13), ((qb.map V.ref).length : Int), rfl, by omega, by rw [List.length_map, lB]; unfold rowsOf; rw [List.length_append, List.length_map, List.length_range]; show ((5 + total : Nat) : Int) < _; omega, ?_⟩
      rw [List.length_map, Int.toNat_natCast]
      refine for_range (fun i σ H' => ∃ y, σ = [some (.ref l), some (.int (M : Int)), some (.ref sl), some (.int (total : Int)), some (.int (R : Int)), some (.ref p), some (.ref wl), some (.str u), some (.ref nq), some (.int (cellOf ns 16)), some (.ref dq), some (.ref R1), some (.ref B), some (.str PH), some (.ref a'), some (.ref A'), y] ∧ H' = H13) ⟨none, rfl, rfl⟩ ?_ ?_
      · rintro i σ H' hi ⟨y, rfl, rfl⟩
        have ex : ∃ x, (rowsOf S6 total)[i]? = some x := ⟨_, List.getElem?_eq_getElem (by rw [← lB]; exact hi)⟩
        obtain ⟨x, hx⟩ := ex
        obtain ⟨pl, xl⟩ := rows_plain G12 (List.mem_of_getElem? hx)
        have hb := List.getElem?_eq_getElem hi
        have ha : qa[i]? = some (qa[i]'(by rw [lA, ← lB]; exact hi)) := List.getElem?_eq_getElem (by rw [lA, ← lB]; exact hi)
        have atB : atI (qb.map V.ref) (0 + (i : Int)) = some (V.ref qb[i]) := by
          rw [Int.zero_add]
          refine atI_nat ?_
          rw [List.getElem?_map, hb]
          rfl
        have atA : atI (qa.map V.ref) (0 + (i : Int)) = some (V.ref (qa[i]'(by rw [lA, ← lB]; exact hi))) := by
          rw [Int.zero_add]
          refine atI_nat ?_
          rw [List.getElem?_map, ha]
          rfl
        refine ⟨_, rfl, _, rfl, A', _, _, _, rfl, rfl, SqL.of gA, atA, _, rfl, _, rfl, B, _, _, _, rfl, rfl, SqL.of gB13, atB, _, _, x, rfl, rA' i _ x ha hx, t5 _ _ (rB' i _ x hb hx), pl, xl, true, rfl, iteF ⟨_, rfl, rfl⟩⟩
      · rintro σ H' ⟨y, rfl, rfl⟩
        have gR13 := t5 _ _ gR12
        refine ⟨_, rfl, Nat.zero_le _, fun e1 ne1 => ?_⟩
        have t6 : Same H' (upd H' e1 (.lst [])) := same_new ne1
        refine ⟨dI (refusal S6 u a b c).toList, dI [], dp_nats (SqL.of (t6 _ _ gR13)), dp_nats (SqL.of upd_same), shaped_nats _, shaped_nats _, ?_⟩
        rw [eqv_dI, e]
        refine ⟨_, rfl, iteT ?_⟩
        generalize upd H' e1 (.lst []) = H14 at t6
        refine ⟨_, rfl, rfl, bs, kb, fun H15 K' t7 gK => ?_⟩
        refine ⟨_, rfl, dI (kindsL bs), dI (refusal S6 u a b c).toList, dp_nats (SqL.of gK), dp_nats (SqL.of (t7 _ _ (t6 _ _ gR13))), shaped_nats _, shaped_nats _, ?_⟩
        rw [eqv_dI, e, kl, show decide ([n] = (some n).toList) = true from decide_eq_true rfl]
        refine ⟨_, rfl, iteT ?_⟩
        refine ⟨_, rfl, .ty "ValueError", .type "ValueError", true, rfl, fun _ h => h, kitV, _, rfl, iteT ?_⟩
        have h15 := ((h12.same t5).same t6).same t7
        obtain ⟨A15, a15, e15, G15⟩ := h15
        obtain ⟨dx, fs, hob, hno⟩ := (((h12.same t5).same t6).same t7).ob
        refine ⟨_, rfl, p, dx, _, rfl, hob, hno _ (by decide), p, A15, raw S6, rfl, a15, Nat.le_trans G15.linen (by decide), Nat.le_trans G15.unswn (by decide), ?_⟩
        rw [hPH]
        refine ⟨_, rfl, rfl, ?_⟩
        rw [decide_eq_true rfl]
        exact k _
end
end MK

set_option Elab.async false
set_option linter.all false
set_option pp.maxSteps 700
set_option maxRecDepth 100000
set_option maxHeartbeats 4000000
namespace MK
open PySem PySem.Spec PyProof.Rows L2 MM KG MP
/-! ### what the top has written; the head -/
theorem all_mk {l : PySem.W.OpenLaw} {w : World} {K : PySem.W.Frag} {h : Heap} {mg : Str → Option Value} {fa : Addr} (X : K.In h) (G : h.Ns mainGlobals mg) (hfa : mg "law" = some (.ref fa))
    {C_HeapError C_NoHand C_NoSlot C_NoRoom C_NothingHeld C_NoBox C_NoWork C_NoHeap C_NoDeed C_Heap : Addr} {f_Heap___init__ f_Heap_make f_Heap_take f_Heap_put f_Heap_share f_Heap_drop f_Heap_held f_Heap_look f_Heap_boxes f_Heap_work f_Heap_phase f_Heap_marked f_Heap_waiting f_Heap_rounds f_Heap__do_piece f_Heap__begin_round f_Heap__mark_on f_Heap__sweep_on f_Heap__end_round f_Heap__mark f_Heap__need_hand f_Heap__row_with f__law_cell_at f__law_whole f__law_numbers f__law_kinds f__law_due f__law_asked f__law_laid f__law_all f_law : Addr} {od_Heap___init__ an_Heap___init__ od_Heap_make an_Heap_make od_Heap_take an_Heap_take od_Heap_put an_Heap_put od_Heap_share an_Heap_share od_Heap_drop an_Heap_drop od_Heap_held an_Heap_held od_Heap_look an_Heap_look od_Heap_boxes an_Heap_boxes od_Heap_work an_Heap_work od_Heap_phase an_Heap_phase od_Heap_marked an_Heap_marked od_Heap_waiting an_Heap_waiting od_Heap_rounds an_Heap_rounds od_Heap__do_piece an_Heap__do_piece od_Heap__begin_round an_Heap__begin_round od_Heap__mark_on an_Heap__mark_on od_Heap__sweep_on an_Heap__sweep_on od_Heap__end_round an_Heap__end_round od_Heap__mark an_Heap__mark od_Heap__need_hand an_Heap__need_hand od_Heap__row_with an_Heap__row_with od__law_cell_at an__law_cell_at od__law_whole an__law_whole od__law_numbers an__law_numbers od__law_kinds an__law_kinds od__law_due an__law_due od__law_asked an__law_asked od__law_laid an__law_laid od__law_all an__law_all od_law an_law : Option Addr} {sl_Heap___init__ sl_Heap_make sl_Heap_take sl_Heap_put sl_Heap_share sl_Heap_drop sl_Heap_held sl_Heap_look sl_Heap_boxes sl_Heap_work sl_Heap_phase sl_Heap_marked sl_Heap_waiting sl_Heap_rounds sl_Heap__do_piece sl_Heap__begin_round sl_Heap__mark_on sl_Heap__sweep_on sl_Heap__end_round sl_Heap__mark sl_Heap__need_hand sl_Heap__row_with sl__law_cell_at sl__law_whole sl__law_numbers sl__law_kinds sl__law_due sl__law_asked sl__law_laid sl__law_all sl_law : Array (Option Value)} {oc_Heap___init__ kV_Heap___init__ dc_Heap___init__ pm_Heap___init__ cd_Heap___init__ ct_Heap___init__ oc_Heap_make kV_Heap_make dc_Heap_make pm_Heap_make cd_Heap_make ct_Heap_make oc_Heap_take kV_Heap_take dc_Heap_take pm_Heap_take cd_Heap_take ct_Heap_take oc_Heap_put kV_Heap_put dc_Heap_put pm_Heap_put cd_Heap_put ct_Heap_put oc_Heap_share kV_Heap_share dc_Heap_share pm_Heap_share cd_Heap_share ct_Heap_share oc_Heap_drop kV_Heap_drop dc_Heap_drop pm_Heap_drop cd_Heap_drop ct_Heap_drop oc_Heap_held kV_Heap_held dc_Heap_held pm_Heap_held cd_Heap_held ct_Heap_held oc_Heap_look kV_Heap_look dc_Heap_look pm_Heap_look cd_Heap_look ct_Heap_look oc_Heap_boxes kV_Heap_boxes dc_Heap_boxes pm_Heap_boxes cd_Heap_boxes ct_Heap_boxes oc_Heap_work kV_Heap_work dc_Heap_work pm_Heap_work cd_Heap_work ct_Heap_work oc_Heap_phase kV_Heap_phase dc_Heap_phase pm_Heap_phase cd_Heap_phase ct_Heap_phase oc_Heap_marked kV_Heap_marked dc_Heap_marked pm_Heap_marked cd_Heap_marked ct_Heap_marked oc_Heap_waiting kV_Heap_waiting dc_Heap_waiting pm_Heap_waiting cd_Heap_waiting ct_Heap_waiting oc_Heap_rounds kV_Heap_rounds dc_Heap_rounds pm_Heap_rounds cd_Heap_rounds ct_Heap_rounds oc_Heap__do_piece kV_Heap__do_piece dc_Heap__do_piece pm_Heap__do_piece cd_Heap__do_piece ct_Heap__do_piece oc_Heap__begin_round kV_Heap__begin_round dc_Heap__begin_round pm_Heap__begin_round cd_Heap__begin_round ct_Heap__begin_round oc_Heap__mark_on kV_Heap__mark_on dc_Heap__mark_on pm_Heap__mark_on cd_Heap__mark_on ct_Heap__mark_on oc_Heap__sweep_on kV_Heap__sweep_on dc_Heap__sweep_on pm_Heap__sweep_on cd_Heap__sweep_on ct_Heap__sweep_on oc_Heap__end_round kV_Heap__end_round dc_Heap__end_round pm_Heap__end_round cd_Heap__end_round ct_Heap__end_round oc_Heap__mark kV_Heap__mark dc_Heap__mark pm_Heap__mark cd_Heap__mark ct_Heap__mark oc_Heap__need_hand kV_Heap__need_hand dc_Heap__need_hand pm_Heap__need_hand cd_Heap__need_hand ct_Heap__need_hand oc_Heap__row_with kV_Heap__row_with dc_Heap__row_with pm_Heap__row_with cd_Heap__row_with ct_Heap__row_with oc__law_cell_at kV__law_cell_at dc__law_cell_at pm__law_cell_at cd__law_cell_at ct__law_cell_at oc__law_whole kV__law_whole dc__law_whole pm__law_whole cd__law_whole ct__law_whole oc__law_numbers kV__law_numbers dc__law_numbers pm__law_numbers cd__law_numbers ct__law_numbers oc__law_kinds kV__law_kinds dc__law_kinds pm__law_kinds cd__law_kinds ct__law_kinds oc__law_due kV__law_due dc__law_due pm__law_due cd__law_due ct__law_due oc__law_asked kV__law_asked dc__law_asked pm__law_asked cd__law_asked ct__law_asked oc__law_laid kV__law_laid dc__law_laid pm__law_laid cd__law_laid ct__law_laid oc__law_all kV__law_all dc__law_all pm__law_all cd__law_all ct__law_all oc_law kV_law dc_law pm_law cd_law ct_law : Value} {tN_MOST_HANDS tN_MOST_ROOM tN_MOST_SLOTS tN_MOST_PIECES : Tok}
    (aC_HeapError : PySem.W.nsIn K mainGlobals "HeapError" = some (some (.ref C_HeapError)))
    (xC_HeapError : PySem.W.excIn K C_HeapError [.type "ValueError", .type "Exception", .type "BaseException", .type "object"] "ValueError.__new__" = true) (kC_HeapError : PySem.W.keepIn K (.ref C_HeapError) = true) (bC_HeapError : PySem.W.subIn K (.ref C_HeapError) (.type "BaseException") = some true) (tC_HeapError : PySem.W.typeIn K (.ref C_HeapError) = some (.type "type")) (iC_HeapError : PySem.W.isClsIn K C_HeapError = true)
    (aC_NoHand : PySem.W.nsIn K mainGlobals "NoHand" = some (some (.ref C_NoHand)))
    (xC_NoHand : PySem.W.excIn K C_NoHand [.type "ValueError", .type "Exception", .type "BaseException", .type "object"] "ValueError.__new__" = true) (kC_NoHand : PySem.W.keepIn K (.ref C_NoHand) = true) (bC_NoHand : PySem.W.subIn K (.ref C_NoHand) (.type "BaseException") = some true) (tC_NoHand : PySem.W.typeIn K (.ref C_NoHand) = some (.type "type")) (iC_NoHand : PySem.W.isClsIn K C_NoHand = true)
    (aC_NoSlot : PySem.W.nsIn K mainGlobals "NoSlot" = some (some (.ref C_NoSlot)))
    (xC_NoSlot : PySem.W.excIn K C_NoSlot [.type "ValueError", .type "Exception", .type "BaseException", .type "object"] "ValueError.__new__" = true) (kC_NoSlot : PySem.W.keepIn K (.ref C_NoSlot) = true) (bC_NoSlot : PySem.W.subIn K (.ref C_NoSlot) (.type "BaseException") = some true) (tC_NoSlot : PySem.W.typeIn K (.ref C_NoSlot) = some (.type "type")) (iC_NoSlot : PySem.W.isClsIn K C_NoSlot = true)
    (aC_NoRoom : PySem.W.nsIn K mainGlobals "NoRoom" = some (some (.ref C_NoRoom)))
    (xC_NoRoom : PySem.W.excIn K C_NoRoom [.type "ValueError", .type "Exception", .type "BaseException", .type "object"] "ValueError.__new__" = true) (kC_NoRoom : PySem.W.keepIn K (.ref C_NoRoom) = true) (bC_NoRoom : PySem.W.subIn K (.ref C_NoRoom) (.type "BaseException") = some true) (tC_NoRoom : PySem.W.typeIn K (.ref C_NoRoom) = some (.type "type")) (iC_NoRoom : PySem.W.isClsIn K C_NoRoom = true)
    (aC_NothingHeld : PySem.W.nsIn K mainGlobals "NothingHeld" = some (some (.ref C_NothingHeld)))
    (xC_NothingHeld : PySem.W.excIn K C_NothingHeld [.type "ValueError", .type "Exception", .type "BaseException", .type "object"] "ValueError.__new__" = true) (kC_NothingHeld : PySem.W.keepIn K (.ref C_NothingHeld) = true) (bC_NothingHeld : PySem.W.subIn K (.ref C_NothingHeld) (.type "BaseException") = some true) (tC_NothingHeld : PySem.W.typeIn K (.ref C_NothingHeld) = some (.type "type")) (iC_NothingHeld : PySem.W.isClsIn K C_NothingHeld = true)
    (aC_NoBox : PySem.W.nsIn K mainGlobals "NoBox" = some (some (.ref C_NoBox)))
    (xC_NoBox : PySem.W.excIn K C_NoBox [.type "ValueError", .type "Exception", .type "BaseException", .type "object"] "ValueError.__new__" = true) (kC_NoBox : PySem.W.keepIn K (.ref C_NoBox) = true) (bC_NoBox : PySem.W.subIn K (.ref C_NoBox) (.type "BaseException") = some true) (tC_NoBox : PySem.W.typeIn K (.ref C_NoBox) = some (.type "type")) (iC_NoBox : PySem.W.isClsIn K C_NoBox = true)
    (aC_NoWork : PySem.W.nsIn K mainGlobals "NoWork" = some (some (.ref C_NoWork)))
    (xC_NoWork : PySem.W.excIn K C_NoWork [.type "ValueError", .type "Exception", .type "BaseException", .type "object"] "ValueError.__new__" = true) (kC_NoWork : PySem.W.keepIn K (.ref C_NoWork) = true) (bC_NoWork : PySem.W.subIn K (.ref C_NoWork) (.type "BaseException") = some true) (tC_NoWork : PySem.W.typeIn K (.ref C_NoWork) = some (.type "type")) (iC_NoWork : PySem.W.isClsIn K C_NoWork = true)
    (aC_NoHeap : PySem.W.nsIn K mainGlobals "NoHeap" = some (some (.ref C_NoHeap)))
    (xC_NoHeap : PySem.W.excIn K C_NoHeap [.type "ValueError", .type "Exception", .type "BaseException", .type "object"] "ValueError.__new__" = true) (kC_NoHeap : PySem.W.keepIn K (.ref C_NoHeap) = true) (bC_NoHeap : PySem.W.subIn K (.ref C_NoHeap) (.type "BaseException") = some true) (tC_NoHeap : PySem.W.typeIn K (.ref C_NoHeap) = some (.type "type")) (iC_NoHeap : PySem.W.isClsIn K C_NoHeap = true)
    (aC_NoDeed : PySem.W.nsIn K mainGlobals "NoDeed" = some (some (.ref C_NoDeed)))
    (xC_NoDeed : PySem.W.excIn K C_NoDeed [.type "ValueError", .type "Exception", .type "BaseException", .type "object"] "ValueError.__new__" = true) (kC_NoDeed : PySem.W.keepIn K (.ref C_NoDeed) = true) (bC_NoDeed : PySem.W.subIn K (.ref C_NoDeed) (.type "BaseException") = some true) (tC_NoDeed : PySem.W.typeIn K (.ref C_NoDeed) = some (.type "type")) (iC_NoDeed : PySem.W.isClsIn K C_NoDeed = true)
    (aC_Heap : PySem.W.nsIn K mainGlobals "Heap" = some (some (.ref C_Heap)))
    (pg_Heap : PySem.W.plainGet K C_Heap Str.empty = true) (hd_Heap : PySem.W.hasDictIn K C_Heap = true) (po_Heap : PySem.W.plainOver K C_Heap = true) (sa_Heap : PySem.W.findIn K (.ref C_Heap) "__setattr__" = some (some (.builtin "object.__setattr__"))) (mk_Heap : PySem.W.makesIn K C_Heap = true) (kc_Heap : PySem.W.keepIn K (.ref C_Heap) = true)
    (n_hands : PySem.W.findIn K (.ref C_Heap) "_hands" = some none)
    (n_room : PySem.W.findIn K (.ref C_Heap) "_room" = some none)
    (n_rows : PySem.W.findIn K (.ref C_Heap) "_rows" = some none)
    (n_made : PySem.W.findIn K (.ref C_Heap) "_made" = some none)
    (n_ended : PySem.W.findIn K (.ref C_Heap) "_ended" = some none)
    (n_old : PySem.W.findIn K (.ref C_Heap) "_old" = some none)
    (n_marks : PySem.W.findIn K (.ref C_Heap) "_marks" = some none)
    (n_line : PySem.W.findIn K (.ref C_Heap) "_line" = some none)
    (n_unswept : PySem.W.findIn K (.ref C_Heap) "_unswept" = some none)
    (sub_NoHand_HeapError : PySem.W.subIn K (.ref C_NoHand) (.ref C_HeapError) = some true)
    (sub_NoSlot_HeapError : PySem.W.subIn K (.ref C_NoSlot) (.ref C_HeapError) = some true)
    (sub_NoRoom_HeapError : PySem.W.subIn K (.ref C_NoRoom) (.ref C_HeapError) = some true)
    (sub_NothingHeld_HeapError : PySem.W.subIn K (.ref C_NothingHeld) (.ref C_HeapError) = some true)
    (sub_NoBox_HeapError : PySem.W.subIn K (.ref C_NoBox) (.ref C_HeapError) = some true)
    (sub_NoWork_HeapError : PySem.W.subIn K (.ref C_NoWork) (.ref C_HeapError) = some true)
    (sub_NoHand_NoHand : PySem.W.subIn K (.ref C_NoHand) (.ref C_NoHand) = some true)
    (sub_NoHand_NoSlot : PySem.W.subIn K (.ref C_NoHand) (.ref C_NoSlot) = some false)
    (sub_NoHand_NoRoom : PySem.W.subIn K (.ref C_NoHand) (.ref C_NoRoom) = some false)
    (sub_NoHand_NothingHeld : PySem.W.subIn K (.ref C_NoHand) (.ref C_NothingHeld) = some false)
    (sub_NoHand_NoBox : PySem.W.subIn K (.ref C_NoHand) (.ref C_NoBox) = some false)
    (sub_NoHand_NoWork : PySem.W.subIn K (.ref C_NoHand) (.ref C_NoWork) = some false)
    (sub_NoHand_NoHeap : PySem.W.subIn K (.ref C_NoHand) (.ref C_NoHeap) = some false)
    (sub_NoHand_NoDeed : PySem.W.subIn K (.ref C_NoHand) (.ref C_NoDeed) = some false)
    (sub_NoSlot_NoHand : PySem.W.subIn K (.ref C_NoSlot) (.ref C_NoHand) = some false)
    (sub_NoSlot_NoSlot : PySem.W.subIn K (.ref C_NoSlot) (.ref C_NoSlot) = some true)
    (sub_NoSlot_NoRoom : PySem.W.subIn K (.ref C_NoSlot) (.ref C_NoRoom) = some false)
    (sub_NoSlot_NothingHeld : PySem.W.subIn K (.ref C_NoSlot) (.ref C_NothingHeld) = some false)
    (sub_NoSlot_NoBox : PySem.W.subIn K (.ref C_NoSlot) (.ref C_NoBox) = some false)
    (sub_NoSlot_NoWork : PySem.W.subIn K (.ref C_NoSlot) (.ref C_NoWork) = some false)
    (sub_NoSlot_NoHeap : PySem.W.subIn K (.ref C_NoSlot) (.ref C_NoHeap) = some false)
    (sub_NoSlot_NoDeed : PySem.W.subIn K (.ref C_NoSlot) (.ref C_NoDeed) = some false)
    (sub_NoRoom_NoHand : PySem.W.subIn K (.ref C_NoRoom) (.ref C_NoHand) = some false)
    (sub_NoRoom_NoSlot : PySem.W.subIn K (.ref C_NoRoom) (.ref C_NoSlot) = some false)
    (sub_NoRoom_NoRoom : PySem.W.subIn K (.ref C_NoRoom) (.ref C_NoRoom) = some true)
    (sub_NoRoom_NothingHeld : PySem.W.subIn K (.ref C_NoRoom) (.ref C_NothingHeld) = some false)
    (sub_NoRoom_NoBox : PySem.W.subIn K (.ref C_NoRoom) (.ref C_NoBox) = some false)
    (sub_NoRoom_NoWork : PySem.W.subIn K (.ref C_NoRoom) (.ref C_NoWork) = some false)
    (sub_NoRoom_NoHeap : PySem.W.subIn K (.ref C_NoRoom) (.ref C_NoHeap) = some false)
    (sub_NoRoom_NoDeed : PySem.W.subIn K (.ref C_NoRoom) (.ref C_NoDeed) = some false)
    (sub_NothingHeld_NoHand : PySem.W.subIn K (.ref C_NothingHeld) (.ref C_NoHand) = some false)
    (sub_NothingHeld_NoSlot : PySem.W.subIn K (.ref C_NothingHeld) (.ref C_NoSlot) = some false)
    (sub_NothingHeld_NoRoom : PySem.W.subIn K (.ref C_NothingHeld) (.ref C_NoRoom) = some false)
    (sub_NothingHeld_NothingHeld : PySem.W.subIn K (.ref C_NothingHeld) (.ref C_NothingHeld) = some true)
    (sub_NothingHeld_NoBox : PySem.W.subIn K (.ref C_NothingHeld) (.ref C_NoBox) = some false)
    (sub_NothingHeld_NoWork : PySem.W.subIn K (.ref C_NothingHeld) (.ref C_NoWork) = some false)
    (sub_NothingHeld_NoHeap : PySem.W.subIn K (.ref C_NothingHeld) (.ref C_NoHeap) = some false)
    (sub_NothingHeld_NoDeed : PySem.W.subIn K (.ref C_NothingHeld) (.ref C_NoDeed) = some false)
    (sub_NoBox_NoHand : PySem.W.subIn K (.ref C_NoBox) (.ref C_NoHand) = some false)
    (sub_NoBox_NoSlot : PySem.W.subIn K (.ref C_NoBox) (.ref C_NoSlot) = some false)
    (sub_NoBox_NoRoom : PySem.W.subIn K (.ref C_NoBox) (.ref C_NoRoom) = some false)
    (sub_NoBox_NothingHeld : PySem.W.subIn K (.ref C_NoBox) (.ref C_NothingHeld) = some false)
    (sub_NoBox_NoBox : PySem.W.subIn K (.ref C_NoBox) (.ref C_NoBox) = some true)
    (sub_NoBox_NoWork : PySem.W.subIn K (.ref C_NoBox) (.ref C_NoWork) = some false)
    (sub_NoBox_NoHeap : PySem.W.subIn K (.ref C_NoBox) (.ref C_NoHeap) = some false)
    (sub_NoBox_NoDeed : PySem.W.subIn K (.ref C_NoBox) (.ref C_NoDeed) = some false)
    (sub_NoWork_NoHand : PySem.W.subIn K (.ref C_NoWork) (.ref C_NoHand) = some false)
    (sub_NoWork_NoSlot : PySem.W.subIn K (.ref C_NoWork) (.ref C_NoSlot) = some false)
    (sub_NoWork_NoRoom : PySem.W.subIn K (.ref C_NoWork) (.ref C_NoRoom) = some false)
    (sub_NoWork_NothingHeld : PySem.W.subIn K (.ref C_NoWork) (.ref C_NothingHeld) = some false)
    (sub_NoWork_NoBox : PySem.W.subIn K (.ref C_NoWork) (.ref C_NoBox) = some false)
    (sub_NoWork_NoWork : PySem.W.subIn K (.ref C_NoWork) (.ref C_NoWork) = some true)
    (sub_NoWork_NoHeap : PySem.W.subIn K (.ref C_NoWork) (.ref C_NoHeap) = some false)
    (sub_NoWork_NoDeed : PySem.W.subIn K (.ref C_NoWork) (.ref C_NoDeed) = some false)
    (sub_NoHand_ValueError : PySem.W.subIn K (.ref C_NoHand) (.type "ValueError") = some true)
    (sub_NoSlot_ValueError : PySem.W.subIn K (.ref C_NoSlot) (.type "ValueError") = some true)
    (sub_NoRoom_ValueError : PySem.W.subIn K (.ref C_NoRoom) (.type "ValueError") = some true)
    (sub_NothingHeld_ValueError : PySem.W.subIn K (.ref C_NothingHeld) (.type "ValueError") = some true)
    (sub_NoBox_ValueError : PySem.W.subIn K (.ref C_NoBox) (.type "ValueError") = some true)
    (sub_NoWork_ValueError : PySem.W.subIn K (.ref C_NoWork) (.type "ValueError") = some true)
    (e0_NoHand : PySem.W.findIn K (.ref C_NoHand) "__getattribute__" = some (some (.builtin "BaseException.__getattribute__")))
    (e1_NoHand : PySem.W.findIn K (.ref C_NoHand) "__getattr__" = some none)
    (e2_NoHand : PySem.W.subIn K (.ref C_NoHand) (.type "BaseException") = some true)
    (e3_NoHand : PySem.W.hasDictIn K C_NoHand = true)
    (e4_NoHand : PySem.W.findIn K (.ref C_NoHand) "__class__" = some (some (.builtin "object.__class__")))
    (e5_NoHand : PySem.W.specialIn K (.builtin "object.__class__") "__get__" = some (some (.builtin "getset_descriptor.__get__"))) (e6_NoHand : PySem.W.takesIn K (.builtin "object.__class__") = some true) (e7_NoHand : PySem.W.mroIn K C_NoHand (.type "object") = some true)
    (e0_NoSlot : PySem.W.findIn K (.ref C_NoSlot) "__getattribute__" = some (some (.builtin "BaseException.__getattribute__")))
    (e1_NoSlot : PySem.W.findIn K (.ref C_NoSlot) "__getattr__" = some none)
    (e2_NoSlot : PySem.W.subIn K (.ref C_NoSlot) (.type "BaseException") = some true)
    (e3_NoSlot : PySem.W.hasDictIn K C_NoSlot = true)
    (e4_NoSlot : PySem.W.findIn K (.ref C_NoSlot) "__class__" = some (some (.builtin "object.__class__")))
    (e5_NoSlot : PySem.W.specialIn K (.builtin "object.__class__") "__get__" = some (some (.builtin "getset_descriptor.__get__"))) (e6_NoSlot : PySem.W.takesIn K (.builtin "object.__class__") = some true) (e7_NoSlot : PySem.W.mroIn K C_NoSlot (.type "object") = some true)
    (e0_NoRoom : PySem.W.findIn K (.ref C_NoRoom) "__getattribute__" = some (some (.builtin "BaseException.__getattribute__")))
    (e1_NoRoom : PySem.W.findIn K (.ref C_NoRoom) "__getattr__" = some none)
    (e2_NoRoom : PySem.W.subIn K (.ref C_NoRoom) (.type "BaseException") = some true)
    (e3_NoRoom : PySem.W.hasDictIn K C_NoRoom = true)
    (e4_NoRoom : PySem.W.findIn K (.ref C_NoRoom) "__class__" = some (some (.builtin "object.__class__")))
    (e5_NoRoom : PySem.W.specialIn K (.builtin "object.__class__") "__get__" = some (some (.builtin "getset_descriptor.__get__"))) (e6_NoRoom : PySem.W.takesIn K (.builtin "object.__class__") = some true) (e7_NoRoom : PySem.W.mroIn K C_NoRoom (.type "object") = some true)
    (e0_NothingHeld : PySem.W.findIn K (.ref C_NothingHeld) "__getattribute__" = some (some (.builtin "BaseException.__getattribute__")))
    (e1_NothingHeld : PySem.W.findIn K (.ref C_NothingHeld) "__getattr__" = some none)
    (e2_NothingHeld : PySem.W.subIn K (.ref C_NothingHeld) (.type "BaseException") = some true)
    (e3_NothingHeld : PySem.W.hasDictIn K C_NothingHeld = true)
    (e4_NothingHeld : PySem.W.findIn K (.ref C_NothingHeld) "__class__" = some (some (.builtin "object.__class__")))
    (e5_NothingHeld : PySem.W.specialIn K (.builtin "object.__class__") "__get__" = some (some (.builtin "getset_descriptor.__get__"))) (e6_NothingHeld : PySem.W.takesIn K (.builtin "object.__class__") = some true) (e7_NothingHeld : PySem.W.mroIn K C_NothingHeld (.type "object") = some true)
    (e0_NoBox : PySem.W.findIn K (.ref C_NoBox) "__getattribute__" = some (some (.builtin "BaseException.__getattribute__")))
    (e1_NoBox : PySem.W.findIn K (.ref C_NoBox) "__getattr__" = some none)
    (e2_NoBox : PySem.W.subIn K (.ref C_NoBox) (.type "BaseException") = some true)
    (e3_NoBox : PySem.W.hasDictIn K C_NoBox = true)
    (e4_NoBox : PySem.W.findIn K (.ref C_NoBox) "__class__" = some (some (.builtin "object.__class__")))
    (e5_NoBox : PySem.W.specialIn K (.builtin "object.__class__") "__get__" = some (some (.builtin "getset_descriptor.__get__"))) (e6_NoBox : PySem.W.takesIn K (.builtin "object.__class__") = some true) (e7_NoBox : PySem.W.mroIn K C_NoBox (.type "object") = some true)
    (e0_NoWork : PySem.W.findIn K (.ref C_NoWork) "__getattribute__" = some (some (.builtin "BaseException.__getattribute__")))
    (e1_NoWork : PySem.W.findIn K (.ref C_NoWork) "__getattr__" = some none)
    (e2_NoWork : PySem.W.subIn K (.ref C_NoWork) (.type "BaseException") = some true)
    (e3_NoWork : PySem.W.hasDictIn K C_NoWork = true)
    (e4_NoWork : PySem.W.findIn K (.ref C_NoWork) "__class__" = some (some (.builtin "object.__class__")))
    (e5_NoWork : PySem.W.specialIn K (.builtin "object.__class__") "__get__" = some (some (.builtin "getset_descriptor.__get__"))) (e6_NoWork : PySem.W.takesIn K (.builtin "object.__class__") = some true) (e7_NoWork : PySem.W.mroIn K C_NoWork (.type "object") = some true)
    (aN_MOST_HANDS : PySem.W.nsIn K mainGlobals "MOST_HANDS" = some (some (.int 8 tN_MOST_HANDS)))
    (aN_MOST_ROOM : PySem.W.nsIn K mainGlobals "MOST_ROOM" = some (some (.int 1000 tN_MOST_ROOM)))
    (aN_MOST_SLOTS : PySem.W.nsIn K mainGlobals "MOST_SLOTS" = some (some (.int 4 tN_MOST_SLOTS)))
    (aN_MOST_PIECES : PySem.W.nsIn K mainGlobals "MOST_PIECES" = some (some (.int 2500 tN_MOST_PIECES)))
    (a_Heap___init__ : PySem.W.findIn K (.ref C_Heap) "__init__" = some (some (.ref f_Heap___init__))) (i_Heap___init__ : PySem.W.isFn K (.ref f_Heap___init__) = true)
    (l_Heap___init__ : K.lookup f_Heap___init__ = some ⟨oc_Heap___init__, od_Heap___init__, .func (PySem.W.fnOf "__init__" "Heap.__init__" (defArgs sHeapInit) (defBody sHeapInit) (defScope sHeapInit) .none kV_Heap___init__ dc_Heap___init__ pm_Heap___init__ an_Heap___init__ cd_Heap___init__ ct_Heap___init__), sl_Heap___init__⟩) (c_Heap___init__ : PySem.W.codeIn K cd_Heap___init__ "Heap.__init__" = true) (k_Heap___init__ : PySem.W.keepIn K (.ref f_Heap___init__) = true)
    (a_Heap_make : PySem.W.findIn K (.ref C_Heap) "make" = some (some (.ref f_Heap_make))) (i_Heap_make : PySem.W.isFn K (.ref f_Heap_make) = true)
    (l_Heap_make : K.lookup f_Heap_make = some ⟨oc_Heap_make, od_Heap_make, .func (PySem.W.fnOf "make" "Heap.make" (defArgs sHeapMake) (defBody sHeapMake) (defScope sHeapMake) .none kV_Heap_make dc_Heap_make pm_Heap_make an_Heap_make cd_Heap_make ct_Heap_make), sl_Heap_make⟩) (c_Heap_make : PySem.W.codeIn K cd_Heap_make "Heap.make" = true) (k_Heap_make : PySem.W.keepIn K (.ref f_Heap_make) = true)
    (a_Heap_take : PySem.W.findIn K (.ref C_Heap) "take" = some (some (.ref f_Heap_take))) (i_Heap_take : PySem.W.isFn K (.ref f_Heap_take) = true)
    (l_Heap_take : K.lookup f_Heap_take = some ⟨oc_Heap_take, od_Heap_take, .func (PySem.W.fnOf "take" "Heap.take" (defArgs sHeapTake) (defBody sHeapTake) (defScope sHeapTake) .none kV_Heap_take dc_Heap_take pm_Heap_take an_Heap_take cd_Heap_take ct_Heap_take), sl_Heap_take⟩) (c_Heap_take : PySem.W.codeIn K cd_Heap_take "Heap.take" = true) (k_Heap_take : PySem.W.keepIn K (.ref f_Heap_take) = true)
    (a_Heap_put : PySem.W.findIn K (.ref C_Heap) "put" = some (some (.ref f_Heap_put))) (i_Heap_put : PySem.W.isFn K (.ref f_Heap_put) = true)
    (l_Heap_put : K.lookup f_Heap_put = some ⟨oc_Heap_put, od_Heap_put, .func (PySem.W.fnOf "put" "Heap.put" (defArgs sHeapPut) (defBody sHeapPut) (defScope sHeapPut) .none kV_Heap_put dc_Heap_put pm_Heap_put an_Heap_put cd_Heap_put ct_Heap_put), sl_Heap_put⟩) (c_Heap_put : PySem.W.codeIn K cd_Heap_put "Heap.put" = true) (k_Heap_put : PySem.W.keepIn K (.ref f_Heap_put) = true)
    (a_Heap_share : PySem.W.findIn K (.ref C_Heap) "share" = some (some (.ref f_Heap_share))) (i_Heap_share : PySem.W.isFn K (.ref f_Heap_share) = true)
    (l_Heap_share : K.lookup f_Heap_share = some ⟨oc_Heap_share, od_Heap_share, .func (PySem.W.fnOf "share" "Heap.share" (defArgs sHeapShare) (defBody sHeapShare) (defScope sHeapShare) .none kV_Heap_share dc_Heap_share pm_Heap_share an_Heap_share cd_Heap_share ct_Heap_share), sl_Heap_share⟩) (c_Heap_share : PySem.W.codeIn K cd_Heap_share "Heap.share" = true) (k_Heap_share : PySem.W.keepIn K (.ref f_Heap_share) = true)
    (a_Heap_drop : PySem.W.findIn K (.ref C_Heap) "drop" = some (some (.ref f_Heap_drop))) (i_Heap_drop : PySem.W.isFn K (.ref f_Heap_drop) = true)
    (l_Heap_drop : K.lookup f_Heap_drop = some ⟨oc_Heap_drop, od_Heap_drop, .func (PySem.W.fnOf "drop" "Heap.drop" (defArgs sHeapDrop) (defBody sHeapDrop) (defScope sHeapDrop) .none kV_Heap_drop dc_Heap_drop pm_Heap_drop an_Heap_drop cd_Heap_drop ct_Heap_drop), sl_Heap_drop⟩) (c_Heap_drop : PySem.W.codeIn K cd_Heap_drop "Heap.drop" = true) (k_Heap_drop : PySem.W.keepIn K (.ref f_Heap_drop) = true)
    (a_Heap_held : PySem.W.findIn K (.ref C_Heap) "held" = some (some (.ref f_Heap_held))) (i_Heap_held : PySem.W.isFn K (.ref f_Heap_held) = true)
    (l_Heap_held : K.lookup f_Heap_held = some ⟨oc_Heap_held, od_Heap_held, .func (PySem.W.fnOf "held" "Heap.held" (defArgs sHeapHeld) (defBody sHeapHeld) (defScope sHeapHeld) .none kV_Heap_held dc_Heap_held pm_Heap_held an_Heap_held cd_Heap_held ct_Heap_held), sl_Heap_held⟩) (c_Heap_held : PySem.W.codeIn K cd_Heap_held "Heap.held" = true) (k_Heap_held : PySem.W.keepIn K (.ref f_Heap_held) = true)
    (a_Heap_look : PySem.W.findIn K (.ref C_Heap) "look" = some (some (.ref f_Heap_look))) (i_Heap_look : PySem.W.isFn K (.ref f_Heap_look) = true)
    (l_Heap_look : K.lookup f_Heap_look = some ⟨oc_Heap_look, od_Heap_look, .func (PySem.W.fnOf "look" "Heap.look" (defArgs sHeapLook) (defBody sHeapLook) (defScope sHeapLook) .none kV_Heap_look dc_Heap_look pm_Heap_look an_Heap_look cd_Heap_look ct_Heap_look), sl_Heap_look⟩) (c_Heap_look : PySem.W.codeIn K cd_Heap_look "Heap.look" = true) (k_Heap_look : PySem.W.keepIn K (.ref f_Heap_look) = true)
    (a_Heap_boxes : PySem.W.findIn K (.ref C_Heap) "boxes" = some (some (.ref f_Heap_boxes))) (i_Heap_boxes : PySem.W.isFn K (.ref f_Heap_boxes) = true)
    (l_Heap_boxes : K.lookup f_Heap_boxes = some ⟨oc_Heap_boxes, od_Heap_boxes, .func (PySem.W.fnOf "boxes" "Heap.boxes" (defArgs sHeapBoxes) (defBody sHeapBoxes) (defScope sHeapBoxes) .none kV_Heap_boxes dc_Heap_boxes pm_Heap_boxes an_Heap_boxes cd_Heap_boxes ct_Heap_boxes), sl_Heap_boxes⟩) (c_Heap_boxes : PySem.W.codeIn K cd_Heap_boxes "Heap.boxes" = true) (k_Heap_boxes : PySem.W.keepIn K (.ref f_Heap_boxes) = true)
    (a_Heap_work : PySem.W.findIn K (.ref C_Heap) "work" = some (some (.ref f_Heap_work))) (i_Heap_work : PySem.W.isFn K (.ref f_Heap_work) = true)
    (l_Heap_work : K.lookup f_Heap_work = some ⟨oc_Heap_work, od_Heap_work, .func (PySem.W.fnOf "work" "Heap.work" (defArgs sHeapWork) (defBody sHeapWork) (defScope sHeapWork) .none kV_Heap_work dc_Heap_work pm_Heap_work an_Heap_work cd_Heap_work ct_Heap_work), sl_Heap_work⟩) (c_Heap_work : PySem.W.codeIn K cd_Heap_work "Heap.work" = true) (k_Heap_work : PySem.W.keepIn K (.ref f_Heap_work) = true)
    (a_Heap_phase : PySem.W.findIn K (.ref C_Heap) "phase" = some (some (.ref f_Heap_phase))) (i_Heap_phase : PySem.W.isFn K (.ref f_Heap_phase) = true)
    (l_Heap_phase : K.lookup f_Heap_phase = some ⟨oc_Heap_phase, od_Heap_phase, .func (PySem.W.fnOf "phase" "Heap.phase" (defArgs sHeapPhase) (defBody sHeapPhase) (defScope sHeapPhase) .none kV_Heap_phase dc_Heap_phase pm_Heap_phase an_Heap_phase cd_Heap_phase ct_Heap_phase), sl_Heap_phase⟩) (c_Heap_phase : PySem.W.codeIn K cd_Heap_phase "Heap.phase" = true) (k_Heap_phase : PySem.W.keepIn K (.ref f_Heap_phase) = true)
    (a_Heap_marked : PySem.W.findIn K (.ref C_Heap) "marked" = some (some (.ref f_Heap_marked))) (i_Heap_marked : PySem.W.isFn K (.ref f_Heap_marked) = true)
    (l_Heap_marked : K.lookup f_Heap_marked = some ⟨oc_Heap_marked, od_Heap_marked, .func (PySem.W.fnOf "marked" "Heap.marked" (defArgs sHeapMarked) (defBody sHeapMarked) (defScope sHeapMarked) .none kV_Heap_marked dc_Heap_marked pm_Heap_marked an_Heap_marked cd_Heap_marked ct_Heap_marked), sl_Heap_marked⟩) (c_Heap_marked : PySem.W.codeIn K cd_Heap_marked "Heap.marked" = true) (k_Heap_marked : PySem.W.keepIn K (.ref f_Heap_marked) = true)
    (a_Heap_waiting : PySem.W.findIn K (.ref C_Heap) "waiting" = some (some (.ref f_Heap_waiting))) (i_Heap_waiting : PySem.W.isFn K (.ref f_Heap_waiting) = true)
    (l_Heap_waiting : K.lookup f_Heap_waiting = some ⟨oc_Heap_waiting, od_Heap_waiting, .func (PySem.W.fnOf "waiting" "Heap.waiting" (defArgs sHeapWaiting) (defBody sHeapWaiting) (defScope sHeapWaiting) .none kV_Heap_waiting dc_Heap_waiting pm_Heap_waiting an_Heap_waiting cd_Heap_waiting ct_Heap_waiting), sl_Heap_waiting⟩) (c_Heap_waiting : PySem.W.codeIn K cd_Heap_waiting "Heap.waiting" = true) (k_Heap_waiting : PySem.W.keepIn K (.ref f_Heap_waiting) = true)
    (a_Heap_rounds : PySem.W.findIn K (.ref C_Heap) "rounds" = some (some (.ref f_Heap_rounds))) (i_Heap_rounds : PySem.W.isFn K (.ref f_Heap_rounds) = true)
    (l_Heap_rounds : K.lookup f_Heap_rounds = some ⟨oc_Heap_rounds, od_Heap_rounds, .func (PySem.W.fnOf "rounds" "Heap.rounds" (defArgs sHeapRounds) (defBody sHeapRounds) (defScope sHeapRounds) .none kV_Heap_rounds dc_Heap_rounds pm_Heap_rounds an_Heap_rounds cd_Heap_rounds ct_Heap_rounds), sl_Heap_rounds⟩) (c_Heap_rounds : PySem.W.codeIn K cd_Heap_rounds "Heap.rounds" = true) (k_Heap_rounds : PySem.W.keepIn K (.ref f_Heap_rounds) = true)
    (a_Heap__do_piece : PySem.W.findIn K (.ref C_Heap) "_do_piece" = some (some (.ref f_Heap__do_piece))) (i_Heap__do_piece : PySem.W.isFn K (.ref f_Heap__do_piece) = true)
    (l_Heap__do_piece : K.lookup f_Heap__do_piece = some ⟨oc_Heap__do_piece, od_Heap__do_piece, .func (PySem.W.fnOf "_do_piece" "Heap._do_piece" (defArgs sHeapDoPiece) (defBody sHeapDoPiece) (defScope sHeapDoPiece) .none kV_Heap__do_piece dc_Heap__do_piece pm_Heap__do_piece an_Heap__do_piece cd_Heap__do_piece ct_Heap__do_piece), sl_Heap__do_piece⟩) (c_Heap__do_piece : PySem.W.codeIn K cd_Heap__do_piece "Heap._do_piece" = true) (k_Heap__do_piece : PySem.W.keepIn K (.ref f_Heap__do_piece) = true)
    (a_Heap__begin_round : PySem.W.findIn K (.ref C_Heap) "_begin_round" = some (some (.ref f_Heap__begin_round))) (i_Heap__begin_round : PySem.W.isFn K (.ref f_Heap__begin_round) = true)
    (l_Heap__begin_round : K.lookup f_Heap__begin_round = some ⟨oc_Heap__begin_round, od_Heap__begin_round, .func (PySem.W.fnOf "_begin_round" "Heap._begin_round" (defArgs sHeapBeginRound) (defBody sHeapBeginRound) (defScope sHeapBeginRound) .none kV_Heap__begin_round dc_Heap__begin_round pm_Heap__begin_round an_Heap__begin_round cd_Heap__begin_round ct_Heap__begin_round), sl_Heap__begin_round⟩) (c_Heap__begin_round : PySem.W.codeIn K cd_Heap__begin_round "Heap._begin_round" = true) (k_Heap__begin_round : PySem.W.keepIn K (.ref f_Heap__begin_round) = true)
    (a_Heap__mark_on : PySem.W.findIn K (.ref C_Heap) "_mark_on" = some (some (.ref f_Heap__mark_on))) (i_Heap__mark_on : PySem.W.isFn K (.ref f_Heap__mark_on) = true)
    (l_Heap__mark_on : K.lookup f_Heap__mark_on = some ⟨oc_Heap__mark_on, od_Heap__mark_on, .func (PySem.W.fnOf "_mark_on" "Heap._mark_on" (defArgs sHeapMarkOn) (defBody sHeapMarkOn) (defScope sHeapMarkOn) .none kV_Heap__mark_on dc_Heap__mark_on pm_Heap__mark_on an_Heap__mark_on cd_Heap__mark_on ct_Heap__mark_on), sl_Heap__mark_on⟩) (c_Heap__mark_on : PySem.W.codeIn K cd_Heap__mark_on "Heap._mark_on" = true) (k_Heap__mark_on : PySem.W.keepIn K (.ref f_Heap__mark_on) = true)
    (a_Heap__sweep_on : PySem.W.findIn K (.ref C_Heap) "_sweep_on" = some (some (.ref f_Heap__sweep_on))) (i_Heap__sweep_on : PySem.W.isFn K (.ref f_Heap__sweep_on) = true)
    (l_Heap__sweep_on : K.lookup f_Heap__sweep_on = some ⟨oc_Heap__sweep_on, od_Heap__sweep_on, .func (PySem.W.fnOf "_sweep_on" "Heap._sweep_on" (defArgs sHeapSweepOn) (defBody sHeapSweepOn) (defScope sHeapSweepOn) .none kV_Heap__sweep_on dc_Heap__sweep_on pm_Heap__sweep_on an_Heap__sweep_on cd_Heap__sweep_on ct_Heap__sweep_on), sl_Heap__sweep_on⟩) (c_Heap__sweep_on : PySem.W.codeIn K cd_Heap__sweep_on "Heap._sweep_on" = true) (k_Heap__sweep_on : PySem.W.keepIn K (.ref f_Heap__sweep_on) = true)
    (a_Heap__end_round : PySem.W.findIn K (.ref C_Heap) "_end_round" = some (some (.ref f_Heap__end_round))) (i_Heap__end_round : PySem.W.isFn K (.ref f_Heap__end_round) = true)
    (l_Heap__end_round : K.lookup f_Heap__end_round = some ⟨oc_Heap__end_round, od_Heap__end_round, .func (PySem.W.fnOf "_end_round" "Heap._end_round" (defArgs sHeapEndRound) (defBody sHeapEndRound) (defScope sHeapEndRound) .none kV_Heap__end_round dc_Heap__end_round pm_Heap__end_round an_Heap__end_round cd_Heap__end_round ct_Heap__end_round), sl_Heap__end_round⟩) (c_Heap__end_round : PySem.W.codeIn K cd_Heap__end_round "Heap._end_round" = true) (k_Heap__end_round : PySem.W.keepIn K (.ref f_Heap__end_round) = true)
    (a_Heap__mark : PySem.W.findIn K (.ref C_Heap) "_mark" = some (some (.ref f_Heap__mark))) (i_Heap__mark : PySem.W.isFn K (.ref f_Heap__mark) = true)
    (l_Heap__mark : K.lookup f_Heap__mark = some ⟨oc_Heap__mark, od_Heap__mark, .func (PySem.W.fnOf "_mark" "Heap._mark" (defArgs sHeapMark) (defBody sHeapMark) (defScope sHeapMark) .none kV_Heap__mark dc_Heap__mark pm_Heap__mark an_Heap__mark cd_Heap__mark ct_Heap__mark), sl_Heap__mark⟩) (c_Heap__mark : PySem.W.codeIn K cd_Heap__mark "Heap._mark" = true) (k_Heap__mark : PySem.W.keepIn K (.ref f_Heap__mark) = true)
    (a_Heap__need_hand : PySem.W.findIn K (.ref C_Heap) "_need_hand" = some (some (.ref f_Heap__need_hand))) (i_Heap__need_hand : PySem.W.isFn K (.ref f_Heap__need_hand) = true)
    (l_Heap__need_hand : K.lookup f_Heap__need_hand = some ⟨oc_Heap__need_hand, od_Heap__need_hand, .func (PySem.W.fnOf "_need_hand" "Heap._need_hand" (defArgs sHeapNeedHand) (defBody sHeapNeedHand) (defScope sHeapNeedHand) .none kV_Heap__need_hand dc_Heap__need_hand pm_Heap__need_hand an_Heap__need_hand cd_Heap__need_hand ct_Heap__need_hand), sl_Heap__need_hand⟩) (c_Heap__need_hand : PySem.W.codeIn K cd_Heap__need_hand "Heap._need_hand" = true) (k_Heap__need_hand : PySem.W.keepIn K (.ref f_Heap__need_hand) = true)
    (a_Heap__row_with : PySem.W.findIn K (.ref C_Heap) "_row_with" = some (some (.ref f_Heap__row_with))) (i_Heap__row_with : PySem.W.isFn K (.ref f_Heap__row_with) = true)
    (l_Heap__row_with : K.lookup f_Heap__row_with = some ⟨oc_Heap__row_with, od_Heap__row_with, .func (PySem.W.fnOf "_row_with" "Heap._row_with" (defArgs sHeapRowWith) (defBody sHeapRowWith) (defScope sHeapRowWith) .none kV_Heap__row_with dc_Heap__row_with pm_Heap__row_with an_Heap__row_with cd_Heap__row_with ct_Heap__row_with), sl_Heap__row_with⟩) (c_Heap__row_with : PySem.W.codeIn K cd_Heap__row_with "Heap._row_with" = true) (k_Heap__row_with : PySem.W.keepIn K (.ref f_Heap__row_with) = true)
    (a__law_cell_at : PySem.W.nsIn K mainGlobals "_law_cell_at" = some (some (.ref f__law_cell_at)))
    (l__law_cell_at : K.lookup f__law_cell_at = some ⟨oc__law_cell_at, od__law_cell_at, .func (PySem.W.fnOf "_law_cell_at" "_law_cell_at" (defArgs sCellAt) (defBody sCellAt) (defScope sCellAt) .none kV__law_cell_at dc__law_cell_at pm__law_cell_at an__law_cell_at cd__law_cell_at ct__law_cell_at), sl__law_cell_at⟩) (c__law_cell_at : PySem.W.codeIn K cd__law_cell_at "_law_cell_at" = true) (k__law_cell_at : PySem.W.keepIn K (.ref f__law_cell_at) = true)
    (a__law_whole : PySem.W.nsIn K mainGlobals "_law_whole" = some (some (.ref f__law_whole)))
    (l__law_whole : K.lookup f__law_whole = some ⟨oc__law_whole, od__law_whole, .func (PySem.W.fnOf "_law_whole" "_law_whole" (defArgs sWhole) (defBody sWhole) (defScope sWhole) .none kV__law_whole dc__law_whole pm__law_whole an__law_whole cd__law_whole ct__law_whole), sl__law_whole⟩) (c__law_whole : PySem.W.codeIn K cd__law_whole "_law_whole" = true) (k__law_whole : PySem.W.keepIn K (.ref f__law_whole) = true)
    (a__law_numbers : PySem.W.nsIn K mainGlobals "_law_numbers" = some (some (.ref f__law_numbers)))
    (l__law_numbers : K.lookup f__law_numbers = some ⟨oc__law_numbers, od__law_numbers, .func (PySem.W.fnOf "_law_numbers" "_law_numbers" (defArgs sNumbers) (defBody sNumbers) (defScope sNumbers) .none kV__law_numbers dc__law_numbers pm__law_numbers an__law_numbers cd__law_numbers ct__law_numbers), sl__law_numbers⟩) (c__law_numbers : PySem.W.codeIn K cd__law_numbers "_law_numbers" = true) (k__law_numbers : PySem.W.keepIn K (.ref f__law_numbers) = true)
    (a__law_kinds : PySem.W.nsIn K mainGlobals "_law_kinds" = some (some (.ref f__law_kinds)))
    (l__law_kinds : K.lookup f__law_kinds = some ⟨oc__law_kinds, od__law_kinds, .func (PySem.W.fnOf "_law_kinds" "_law_kinds" (defArgs sKinds) (defBody sKinds) (defScope sKinds) .none kV__law_kinds dc__law_kinds pm__law_kinds an__law_kinds cd__law_kinds ct__law_kinds), sl__law_kinds⟩) (c__law_kinds : PySem.W.codeIn K cd__law_kinds "_law_kinds" = true) (k__law_kinds : PySem.W.keepIn K (.ref f__law_kinds) = true)
    (a__law_due : PySem.W.nsIn K mainGlobals "_law_due" = some (some (.ref f__law_due)))
    (l__law_due : K.lookup f__law_due = some ⟨oc__law_due, od__law_due, .func (PySem.W.fnOf "_law_due" "_law_due" (defArgs sDue) (defBody sDue) (defScope sDue) .none kV__law_due dc__law_due pm__law_due an__law_due cd__law_due ct__law_due), sl__law_due⟩) (c__law_due : PySem.W.codeIn K cd__law_due "_law_due" = true) (k__law_due : PySem.W.keepIn K (.ref f__law_due) = true)
    (a__law_asked : PySem.W.nsIn K mainGlobals "_law_asked" = some (some (.ref f__law_asked)))
    (l__law_asked : K.lookup f__law_asked = some ⟨oc__law_asked, od__law_asked, .func (PySem.W.fnOf "_law_asked" "_law_asked" (defArgs sAsked) (defBody sAsked) (defScope sAsked) .none kV__law_asked dc__law_asked pm__law_asked an__law_asked cd__law_asked ct__law_asked), sl__law_asked⟩) (c__law_asked : PySem.W.codeIn K cd__law_asked "_law_asked" = true) (k__law_asked : PySem.W.keepIn K (.ref f__law_asked) = true)
    (a__law_laid : PySem.W.nsIn K mainGlobals "_law_laid" = some (some (.ref f__law_laid)))
    (l__law_laid : K.lookup f__law_laid = some ⟨oc__law_laid, od__law_laid, .func (PySem.W.fnOf "_law_laid" "_law_laid" (defArgs sLaid) (defBody sLaid) (defScope sLaid) .none kV__law_laid dc__law_laid pm__law_laid an__law_laid cd__law_laid ct__law_laid), sl__law_laid⟩) (c__law_laid : PySem.W.codeIn K cd__law_laid "_law_laid" = true) (k__law_laid : PySem.W.keepIn K (.ref f__law_laid) = true)
    (a__law_all : PySem.W.nsIn K mainGlobals "_law_all" = some (some (.ref f__law_all)))
    (l__law_all : K.lookup f__law_all = some ⟨oc__law_all, od__law_all, .func (PySem.W.fnOf "_law_all" "_law_all" (defArgs sAll) (defBody sAll) (defScope sAll) .none kV__law_all dc__law_all pm__law_all an__law_all cd__law_all ct__law_all), sl__law_all⟩) (c__law_all : PySem.W.codeIn K cd__law_all "_law_all" = true) (k__law_all : PySem.W.keepIn K (.ref f__law_all) = true)
    (a_law : PySem.W.nsIn K mainGlobals "law" = some (some (.ref f_law)))
    (l_law : K.lookup f_law = some ⟨oc_law, od_law, .func (PySem.W.fnOf "law" "law" (defArgs sLaw) (defBody sLaw) (defScope sLaw) .none kV_law dc_law pm_law an_law cd_law ct_law), sl_law⟩) (c_law : PySem.W.codeIn K cd_law "law" = true) (k_law : PySem.W.keepIn K (.ref f_law) = true)
    (z_ValueError : PySem.W.nsIn K mainGlobals "ValueError" = some none)
    (z_bool : PySem.W.nsIn K mainGlobals "bool" = some none)
    (z_int : PySem.W.nsIn K mainGlobals "int" = some none)
    (z_isinstance : PySem.W.nsIn K mainGlobals "isinstance" = some none)
    (z_len : PySem.W.nsIn K mainGlobals "len" = some none)
    (z_list : PySem.W.nsIn K mainGlobals "list" = some none)
    (z_max : PySem.W.nsIn K mainGlobals "max" = some none)
    (z_min : PySem.W.nsIn K mainGlobals "min" = some none)
    (z_range : PySem.W.nsIn K mainGlobals "range" = some none)
    (z_sorted : PySem.W.nsIn K mainGlobals "sorted" = some none) :
    ∃ fd : FuncData, (∀ (s : Shared) (v : Value), BindsTo s fd ⟨[v], []⟩ [("_law_script", v)]) ∧ ∀ base : Heap, K.In base → base.Ns mainGlobals mg → FnOk l.prog w K mg base CX0 6 fa fd ["_law_script"] (spLaw K) := by
  have e := hfa.symm.trans (PySem.W.mg_of X G a_law)
  cases e
  have mC_HeapError := PySem.W.mg_of X G aC_HeapError
  have T_HeapError : ExC K mg "HeapError" C_HeapError := ⟨mC_HeapError, xC_HeapError, kC_HeapError, bC_HeapError, tC_HeapError, iC_HeapError⟩
  have mC_NoHand := PySem.W.mg_of X G aC_NoHand
  have T_NoHand : ExC K mg "NoHand" C_NoHand := ⟨mC_NoHand, xC_NoHand, kC_NoHand, bC_NoHand, tC_NoHand, iC_NoHand⟩
  have mC_NoSlot := PySem.W.mg_of X G aC_NoSlot
  have T_NoSlot : ExC K mg "NoSlot" C_NoSlot := ⟨mC_NoSlot, xC_NoSlot, kC_NoSlot, bC_NoSlot, tC_NoSlot, iC_NoSlot⟩
  have mC_NoRoom := PySem.W.mg_of X G aC_NoRoom
  have T_NoRoom : ExC K mg "NoRoom" C_NoRoom := ⟨mC_NoRoom, xC_NoRoom, kC_NoRoom, bC_NoRoom, tC_NoRoom, iC_NoRoom⟩
  have mC_NothingHeld := PySem.W.mg_of X G aC_NothingHeld
  have T_NothingHeld : ExC K mg "NothingHeld" C_NothingHeld := ⟨mC_NothingHeld, xC_NothingHeld, kC_NothingHeld, bC_NothingHeld, tC_NothingHeld, iC_NothingHeld⟩
  have mC_NoBox := PySem.W.mg_of X G aC_NoBox
  have T_NoBox : ExC K mg "NoBox" C_NoBox := ⟨mC_NoBox, xC_NoBox, kC_NoBox, bC_NoBox, tC_NoBox, iC_NoBox⟩
  have mC_NoWork := PySem.W.mg_of X G aC_NoWork
  have T_NoWork : ExC K mg "NoWork" C_NoWork := ⟨mC_NoWork, xC_NoWork, kC_NoWork, bC_NoWork, tC_NoWork, iC_NoWork⟩
  have mC_NoHeap := PySem.W.mg_of X G aC_NoHeap
  have T_NoHeap : ExC K mg "NoHeap" C_NoHeap := ⟨mC_NoHeap, xC_NoHeap, kC_NoHeap, bC_NoHeap, tC_NoHeap, iC_NoHeap⟩
  have mC_NoDeed := PySem.W.mg_of X G aC_NoDeed
  have T_NoDeed : ExC K mg "NoDeed" C_NoDeed := ⟨mC_NoDeed, xC_NoDeed, kC_NoDeed, bC_NoDeed, tC_NoDeed, iC_NoDeed⟩
  have mC_Heap := PySem.W.mg_of X G aC_Heap
  have T : HeapTxt K mg C_Heap := ⟨⟨pg_Heap, hd_Heap, po_Heap, sa_Heap⟩, n_hands, n_room, n_rows, n_made, n_ended, n_old, n_marks, n_line, n_unswept, mC_Heap⟩
  have kit_NoHand_NoHand := MP.kit_of sub_NoHand_NoHand sub_NoHand_NoHand tC_NoHand iC_NoHand
  have kit_NoHand_NoSlot := MP.kit_of sub_NoHand_NoHand sub_NoHand_NoSlot tC_NoSlot iC_NoSlot
  have kit_NoHand_NoRoom := MP.kit_of sub_NoHand_NoHand sub_NoHand_NoRoom tC_NoRoom iC_NoRoom
  have kit_NoHand_NothingHeld := MP.kit_of sub_NoHand_NoHand sub_NoHand_NothingHeld tC_NothingHeld iC_NothingHeld
  have kit_NoHand_NoBox := MP.kit_of sub_NoHand_NoHand sub_NoHand_NoBox tC_NoBox iC_NoBox
  have kit_NoHand_NoWork := MP.kit_of sub_NoHand_NoHand sub_NoHand_NoWork tC_NoWork iC_NoWork
  have kit_NoHand_NoHeap := MP.kit_of sub_NoHand_NoHand sub_NoHand_NoHeap tC_NoHeap iC_NoHeap
  have kit_NoHand_NoDeed := MP.kit_of sub_NoHand_NoHand sub_NoHand_NoDeed tC_NoDeed iC_NoDeed
  have kit_NoSlot_NoHand := MP.kit_of sub_NoSlot_NoSlot sub_NoSlot_NoHand tC_NoHand iC_NoHand
  have kit_NoSlot_NoSlot := MP.kit_of sub_NoSlot_NoSlot sub_NoSlot_NoSlot tC_NoSlot iC_NoSlot
  have kit_NoSlot_NoRoom := MP.kit_of sub_NoSlot_NoSlot sub_NoSlot_NoRoom tC_NoRoom iC_NoRoom
  have kit_NoSlot_NothingHeld := MP.kit_of sub_NoSlot_NoSlot sub_NoSlot_NothingHeld tC_NothingHeld iC_NothingHeld
  have kit_NoSlot_NoBox := MP.kit_of sub_NoSlot_NoSlot sub_NoSlot_NoBox tC_NoBox iC_NoBox
  have kit_NoSlot_NoWork := MP.kit_of sub_NoSlot_NoSlot sub_NoSlot_NoWork tC_NoWork iC_NoWork
  have kit_NoSlot_NoHeap := MP.kit_of sub_NoSlot_NoSlot sub_NoSlot_NoHeap tC_NoHeap iC_NoHeap
  have kit_NoSlot_NoDeed := MP.kit_of sub_NoSlot_NoSlot sub_NoSlot_NoDeed tC_NoDeed iC_NoDeed
  have kit_NoRoom_NoHand := MP.kit_of sub_NoRoom_NoRoom sub_NoRoom_NoHand tC_NoHand iC_NoHand
  have kit_NoRoom_NoSlot := MP.kit_of sub_NoRoom_NoRoom sub_NoRoom_NoSlot tC_NoSlot iC_NoSlot
  have kit_NoRoom_NoRoom := MP.kit_of sub_NoRoom_NoRoom sub_NoRoom_NoRoom tC_NoRoom iC_NoRoom
  have kit_NoRoom_NothingHeld := MP.kit_of sub_NoRoom_NoRoom sub_NoRoom_NothingHeld tC_NothingHeld iC_NothingHeld
  have kit_NoRoom_NoBox := MP.kit_of sub_NoRoom_NoRoom sub_NoRoom_NoBox tC_NoBox iC_NoBox
  have kit_NoRoom_NoWork := MP.kit_of sub_NoRoom_NoRoom sub_NoRoom_NoWork tC_NoWork iC_NoWork
  have kit_NoRoom_NoHeap := MP.kit_of sub_NoRoom_NoRoom sub_NoRoom_NoHeap tC_NoHeap iC_NoHeap
  have kit_NoRoom_NoDeed := MP.kit_of sub_NoRoom_NoRoom sub_NoRoom_NoDeed tC_NoDeed iC_NoDeed
  have kit_NothingHeld_NoHand := MP.kit_of sub_NothingHeld_NothingHeld sub_NothingHeld_NoHand tC_NoHand iC_NoHand
  have kit_NothingHeld_NoSlot := MP.kit_of sub_NothingHeld_NothingHeld sub_NothingHeld_NoSlot tC_NoSlot iC_NoSlot
  have kit_NothingHeld_NoRoom := MP.kit_of sub_NothingHeld_NothingHeld sub_NothingHeld_NoRoom tC_NoRoom iC_NoRoom
  have kit_NothingHeld_NothingHeld := MP.kit_of sub_NothingHeld_NothingHeld sub_NothingHeld_NothingHeld tC_NothingHeld iC_NothingHeld
  have kit_NothingHeld_NoBox := MP.kit_of sub_NothingHeld_NothingHeld sub_NothingHeld_NoBox tC_NoBox iC_NoBox
  have kit_NothingHeld_NoWork := MP.kit_of sub_NothingHeld_NothingHeld sub_NothingHeld_NoWork tC_NoWork iC_NoWork
  have kit_NothingHeld_NoHeap := MP.kit_of sub_NothingHeld_NothingHeld sub_NothingHeld_NoHeap tC_NoHeap iC_NoHeap
  have kit_NothingHeld_NoDeed := MP.kit_of sub_NothingHeld_NothingHeld sub_NothingHeld_NoDeed tC_NoDeed iC_NoDeed
  have kit_NoBox_NoHand := MP.kit_of sub_NoBox_NoBox sub_NoBox_NoHand tC_NoHand iC_NoHand
  have kit_NoBox_NoSlot := MP.kit_of sub_NoBox_NoBox sub_NoBox_NoSlot tC_NoSlot iC_NoSlot
  have kit_NoBox_NoRoom := MP.kit_of sub_NoBox_NoBox sub_NoBox_NoRoom tC_NoRoom iC_NoRoom
  have kit_NoBox_NothingHeld := MP.kit_of sub_NoBox_NoBox sub_NoBox_NothingHeld tC_NothingHeld iC_NothingHeld
  have kit_NoBox_NoBox := MP.kit_of sub_NoBox_NoBox sub_NoBox_NoBox tC_NoBox iC_NoBox
  have kit_NoBox_NoWork := MP.kit_of sub_NoBox_NoBox sub_NoBox_NoWork tC_NoWork iC_NoWork
  have kit_NoBox_NoHeap := MP.kit_of sub_NoBox_NoBox sub_NoBox_NoHeap tC_NoHeap iC_NoHeap
  have kit_NoBox_NoDeed := MP.kit_of sub_NoBox_NoBox sub_NoBox_NoDeed tC_NoDeed iC_NoDeed
  have kit_NoWork_NoHand := MP.kit_of sub_NoWork_NoWork sub_NoWork_NoHand tC_NoHand iC_NoHand
  have kit_NoWork_NoSlot := MP.kit_of sub_NoWork_NoWork sub_NoWork_NoSlot tC_NoSlot iC_NoSlot
  have kit_NoWork_NoRoom := MP.kit_of sub_NoWork_NoWork sub_NoWork_NoRoom tC_NoRoom iC_NoRoom
  have kit_NoWork_NothingHeld := MP.kit_of sub_NoWork_NoWork sub_NoWork_NothingHeld tC_NothingHeld iC_NothingHeld
  have kit_NoWork_NoBox := MP.kit_of sub_NoWork_NoWork sub_NoWork_NoBox tC_NoBox iC_NoBox
  have kit_NoWork_NoWork := MP.kit_of sub_NoWork_NoWork sub_NoWork_NoWork tC_NoWork iC_NoWork
  have kit_NoWork_NoHeap := MP.kit_of sub_NoWork_NoWork sub_NoWork_NoHeap tC_NoHeap iC_NoHeap
  have kit_NoWork_NoDeed := MP.kit_of sub_NoWork_NoWork sub_NoWork_NoDeed tC_NoDeed iC_NoDeed
  have kit_NoHand_ValueError := MP.kit_ofT sub_NoHand_ValueError (by decide +kernel)
  have kit_NoSlot_ValueError := MP.kit_ofT sub_NoSlot_ValueError (by decide +kernel)
  have kit_NoRoom_ValueError := MP.kit_ofT sub_NoRoom_ValueError (by decide +kernel)
  have kit_NothingHeld_ValueError := MP.kit_ofT sub_NothingHeld_ValueError (by decide +kernel)
  have kit_NoBox_ValueError := MP.kit_ofT sub_NoBox_ValueError (by decide +kernel)
  have kit_NoWork_ValueError := MP.kit_ofT sub_NoWork_ValueError (by decide +kernel)
  have EX_NoHand : ExcC K C_NoHand := ⟨e0_NoHand, e1_NoHand, e2_NoHand, e3_NoHand, e4_NoHand, e5_NoHand, e6_NoHand, e7_NoHand⟩
  have EX_NoSlot : ExcC K C_NoSlot := ⟨e0_NoSlot, e1_NoSlot, e2_NoSlot, e3_NoSlot, e4_NoSlot, e5_NoSlot, e6_NoSlot, e7_NoSlot⟩
  have EX_NoRoom : ExcC K C_NoRoom := ⟨e0_NoRoom, e1_NoRoom, e2_NoRoom, e3_NoRoom, e4_NoRoom, e5_NoRoom, e6_NoRoom, e7_NoRoom⟩
  have EX_NothingHeld : ExcC K C_NothingHeld := ⟨e0_NothingHeld, e1_NothingHeld, e2_NothingHeld, e3_NothingHeld, e4_NothingHeld, e5_NothingHeld, e6_NothingHeld, e7_NothingHeld⟩
  have EX_NoBox : ExcC K C_NoBox := ⟨e0_NoBox, e1_NoBox, e2_NoBox, e3_NoBox, e4_NoBox, e5_NoBox, e6_NoBox, e7_NoBox⟩
  have EX_NoWork : ExcC K C_NoWork := ⟨e0_NoWork, e1_NoWork, e2_NoWork, e3_NoWork, e4_NoWork, e5_NoWork, e6_NoWork, e7_NoWork⟩
  have m_MOST_HANDS := PySem.W.mg_of X G aN_MOST_HANDS
  have m_MOST_ROOM := PySem.W.mg_of X G aN_MOST_ROOM
  have m_MOST_SLOTS := PySem.W.mg_of X G aN_MOST_SLOTS
  have m_MOST_PIECES := PySem.W.mg_of X G aN_MOST_PIECES
  have F_Heap___init__ := fun_mk (st := sHeapInit) l_Heap___init__ c_Heap___init__ k_Heap___init__
  have b_Heap___init__ := F_Heap___init__.binds (ps := ["self", "hands", "room"]) fun _ _ _ _ _ _ us hl => match us, hl with | [_, _, _], _ => rfl
  have F_Heap_make := fun_mk (st := sHeapMake) l_Heap_make c_Heap_make k_Heap_make
  have b_Heap_make := F_Heap_make.binds (ps := ["self", "hand", "slots"]) fun _ _ _ _ _ _ us hl => match us, hl with | [_, _, _], _ => rfl
  have F_Heap_take := fun_mk (st := sHeapTake) l_Heap_take c_Heap_take k_Heap_take
  have b_Heap_take := F_Heap_take.binds (ps := ["self", "hand", "other", "slot"]) fun _ _ _ _ _ _ us hl => match us, hl with | [_, _, _, _], _ => rfl
  have F_Heap_put := fun_mk (st := sHeapPut) l_Heap_put c_Heap_put k_Heap_put
  have b_Heap_put := F_Heap_put.binds (ps := ["self", "hand", "slot", "other"]) fun _ _ _ _ _ _ us hl => match us, hl with | [_, _, _, _], _ => rfl
  have F_Heap_share := fun_mk (st := sHeapShare) l_Heap_share c_Heap_share k_Heap_share
  have b_Heap_share := F_Heap_share.binds (ps := ["self", "hand", "other"]) fun _ _ _ _ _ _ us hl => match us, hl with | [_, _, _], _ => rfl
  have F_Heap_drop := fun_mk (st := sHeapDrop) l_Heap_drop c_Heap_drop k_Heap_drop
  have b_Heap_drop := F_Heap_drop.binds (ps := ["self", "hand"]) fun _ _ _ _ _ _ us hl => match us, hl with | [_, _], _ => rfl
  have F_Heap_held := fun_mk (st := sHeapHeld) l_Heap_held c_Heap_held k_Heap_held
  have b_Heap_held := F_Heap_held.binds (ps := ["self", "hand"]) fun _ _ _ _ _ _ us hl => match us, hl with | [_, _], _ => rfl
  have F_Heap_look := fun_mk (st := sHeapLook) l_Heap_look c_Heap_look k_Heap_look
  have b_Heap_look := F_Heap_look.binds (ps := ["self", "box"]) fun _ _ _ _ _ _ us hl => match us, hl with | [_, _], _ => rfl
  have F_Heap_boxes := fun_mk (st := sHeapBoxes) l_Heap_boxes c_Heap_boxes k_Heap_boxes
  have b_Heap_boxes := F_Heap_boxes.binds (ps := ["self"]) fun _ _ _ _ _ _ us hl => match us, hl with | [_], _ => rfl
  have F_Heap_work := fun_mk (st := sHeapWork) l_Heap_work c_Heap_work k_Heap_work
  have b_Heap_work := F_Heap_work.binds (ps := ["self", "pieces"]) fun _ _ _ _ _ _ us hl => match us, hl with | [_, _], _ => rfl
  have F_Heap_phase := fun_mk (st := sHeapPhase) l_Heap_phase c_Heap_phase k_Heap_phase
  have b_Heap_phase := F_Heap_phase.binds (ps := ["self"]) fun _ _ _ _ _ _ us hl => match us, hl with | [_], _ => rfl
  have F_Heap_marked := fun_mk (st := sHeapMarked) l_Heap_marked c_Heap_marked k_Heap_marked
  have b_Heap_marked := F_Heap_marked.binds (ps := ["self"]) fun _ _ _ _ _ _ us hl => match us, hl with | [_], _ => rfl
  have F_Heap_waiting := fun_mk (st := sHeapWaiting) l_Heap_waiting c_Heap_waiting k_Heap_waiting
  have b_Heap_waiting := F_Heap_waiting.binds (ps := ["self"]) fun _ _ _ _ _ _ us hl => match us, hl with | [_], _ => rfl
  have F_Heap_rounds := fun_mk (st := sHeapRounds) l_Heap_rounds c_Heap_rounds k_Heap_rounds
  have b_Heap_rounds := F_Heap_rounds.binds (ps := ["self"]) fun _ _ _ _ _ _ us hl => match us, hl with | [_], _ => rfl
  have F_Heap__do_piece := fun_mk (st := sHeapDoPiece) l_Heap__do_piece c_Heap__do_piece k_Heap__do_piece
  have b_Heap__do_piece := F_Heap__do_piece.binds (ps := ["self"]) fun _ _ _ _ _ _ us hl => match us, hl with | [_], _ => rfl
  have F_Heap__begin_round := fun_mk (st := sHeapBeginRound) l_Heap__begin_round c_Heap__begin_round k_Heap__begin_round
  have b_Heap__begin_round := F_Heap__begin_round.binds (ps := ["self"]) fun _ _ _ _ _ _ us hl => match us, hl with | [_], _ => rfl
  have F_Heap__mark_on := fun_mk (st := sHeapMarkOn) l_Heap__mark_on c_Heap__mark_on k_Heap__mark_on
  have b_Heap__mark_on := F_Heap__mark_on.binds (ps := ["self"]) fun _ _ _ _ _ _ us hl => match us, hl with | [_], _ => rfl
  have F_Heap__sweep_on := fun_mk (st := sHeapSweepOn) l_Heap__sweep_on c_Heap__sweep_on k_Heap__sweep_on
  have b_Heap__sweep_on := F_Heap__sweep_on.binds (ps := ["self"]) fun _ _ _ _ _ _ us hl => match us, hl with | [_], _ => rfl
  have F_Heap__end_round := fun_mk (st := sHeapEndRound) l_Heap__end_round c_Heap__end_round k_Heap__end_round
  have b_Heap__end_round := F_Heap__end_round.binds (ps := ["self"]) fun _ _ _ _ _ _ us hl => match us, hl with | [_], _ => rfl
  have F_Heap__mark := fun_mk (st := sHeapMark) l_Heap__mark c_Heap__mark k_Heap__mark
  have b_Heap__mark := F_Heap__mark.binds (ps := ["self", "box"]) fun _ _ _ _ _ _ us hl => match us, hl with | [_, _], _ => rfl
  have F_Heap__need_hand := fun_mk (st := sHeapNeedHand) l_Heap__need_hand c_Heap__need_hand k_Heap__need_hand
  have b_Heap__need_hand := F_Heap__need_hand.binds (ps := ["self", "hand"]) fun _ _ _ _ _ _ us hl => match us, hl with | [_, _], _ => rfl
  have F_Heap__row_with := fun_mk (st := sHeapRowWith) l_Heap__row_with c_Heap__row_with k_Heap__row_with
  have b_Heap__row_with := F_Heap__row_with.binds (ps := ["self", "hand", "slot"]) fun _ _ _ _ _ _ us hl => match us, hl with | [_, _, _], _ => rfl
  have F__law_cell_at := fun_mk (st := sCellAt) l__law_cell_at c__law_cell_at k__law_cell_at
  have b__law_cell_at := F__law_cell_at.binds (ps := ["_law_script", "_law_k"]) fun _ _ _ _ _ _ us hl => match us, hl with | [_, _], _ => rfl
  have m__law_cell_at := PySem.W.mg_of X G a__law_cell_at
  have F__law_whole := fun_mk (st := sWhole) l__law_whole c__law_whole k__law_whole
  have b__law_whole := F__law_whole.binds (ps := ["_law_found"]) fun _ _ _ _ _ _ us hl => match us, hl with | [_], _ => rfl
  have m__law_whole := PySem.W.mg_of X G a__law_whole
  have F__law_numbers := fun_mk (st := sNumbers) l__law_numbers c__law_numbers k__law_numbers
  have b__law_numbers := F__law_numbers.binds (ps := ["_law_found", "_law_due_here"]) fun _ _ _ _ _ _ us hl => match us, hl with | [_, _], _ => rfl
  have m__law_numbers := PySem.W.mg_of X G a__law_numbers
  have F__law_kinds := fun_mk (st := sKinds) l__law_kinds c__law_kinds k__law_kinds
  have b__law_kinds := F__law_kinds.binds (ps := ["_law_e"]) fun _ _ _ _ _ _ us hl => match us, hl with | [_], _ => rfl
  have m__law_kinds := PySem.W.mg_of X G a__law_kinds
  have F__law_due := fun_mk (st := sDue) l__law_due c__law_due k__law_due
  have b__law_due := F__law_due.binds (ps := ["_law_deed", "_law_slots", "_law_many", "_law_room", "_law_total"]) fun _ _ _ _ _ _ us hl => match us, hl with | [_, _, _, _, _], _ => rfl
  have m__law_due := PySem.W.mg_of X G a__law_due
  have F__law_asked := fun_mk (st := sAsked) l__law_asked c__law_asked k__law_asked
  have b__law_asked := F__law_asked.binds (ps := ["_law_heap", "_law_deed"]) fun _ _ _ _ _ _ us hl => match us, hl with | [_, _], _ => rfl
  have m__law_asked := PySem.W.mg_of X G a__law_asked
  have F__law_laid := fun_mk (st := sLaid) l__law_laid c__law_laid k__law_laid
  have b__law_laid := F__law_laid.binds (ps := ["_law_heap", "_law_slots", "_law_cells"]) fun _ _ _ _ _ _ us hl => match us, hl with | [_, _, _], _ => rfl
  have m__law_laid := PySem.W.mg_of X G a__law_laid
  have F__law_all := fun_mk (st := sAll) l__law_all c__law_all k__law_all
  have b__law_all := F__law_all.binds (ps := ["_law_heap", "_law_many", "_law_total"]) fun _ _ _ _ _ _ us hl => match us, hl with | [_, _, _], _ => rfl
  have m__law_all := PySem.W.mg_of X G a__law_all
  have F_law := fun_mk (st := sLaw) l_law c_law k_law
  have b_law := F_law.binds (ps := ["_law_script"]) fun _ _ _ _ _ _ us hl => match us, hl with | [_], _ => rfl
  have m_law := PySem.W.mg_of X G a_law
  have m_ValueError := PySem.W.mg_none_of X G z_ValueError
  have m_bool := PySem.W.mg_none_of X G z_bool
  have m_int := PySem.W.mg_none_of X G z_int
  have m_isinstance := PySem.W.mg_none_of X G z_isinstance
  have m_len := PySem.W.mg_none_of X G z_len
  have m_list := PySem.W.mg_none_of X G z_list
  have m_max := PySem.W.mg_none_of X G z_max
  have m_min := PySem.W.mg_none_of X G z_min
  have m_range := PySem.W.mg_none_of X G z_range
  have m_sorted := PySem.W.mg_none_of X G z_sorted
  refine ⟨PySem.W.fnOf "law" "law" (defArgs sLaw) (defBody sLaw) (defScope sLaw) .none kV_law dc_law pm_law an_law cd_law ct_law, fun s v => .of_eq rfl, fun base _ _ => ?_⟩
  let EC : ECs := ⟨C_NoHand, C_NoSlot, C_NoRoom, C_NothingHeld, C_NoBox, C_NoWork, C_NoHeap, C_NoDeed⟩
  have D__need_hand : Dm l.prog w K mg base (L2N.CX l.prog w) 1 C_Heap "_need_hand" f_Heap__need_hand _ ["self", "hand"] (spNeed C_Heap EC) := ⟨T.cl, ⟨a_Heap__need_hand, i_Heap__need_hand, k_Heap__need_hand⟩, ok_need F_Heap__need_hand T T_NoHand m_len, b_Heap__need_hand⟩
  have D__row_with : Dm l.prog w K mg base (L2N.CX l.prog w) 1 C_Heap "_row_with" f_Heap__row_with _ ["self", "hand", "slot"] (spRow C_Heap EC) := ⟨T.cl, ⟨a_Heap__row_with, i_Heap__row_with, k_Heap__row_with⟩, ok_row F_Heap__row_with T T_NothingHeld T_NoSlot m_len, b_Heap__row_with⟩
  have D_phase : Dm l.prog w K mg base CX0 1 C_Heap "phase" f_Heap_phase _ ["self"] (spPhase C_Heap) := ⟨T.cl, ⟨a_Heap_phase, i_Heap_phase, k_Heap_phase⟩, ok_phase F_Heap_phase T, b_Heap_phase⟩
  have D__mark : Dm l.prog w K mg base CX0 1 C_Heap "_mark" f_Heap__mark _ ["self", "box"] (spMark C_Heap) := ⟨T.cl, ⟨a_Heap__mark, i_Heap__mark, k_Heap__mark⟩, ok_mark F_Heap__mark T, b_Heap__mark⟩
  have D_rounds : Dm l.prog w K mg base CX0 1 C_Heap "rounds" f_Heap_rounds _ ["self"] (spRounds C_Heap) := ⟨T.cl, ⟨a_Heap_rounds, i_Heap_rounds, k_Heap_rounds⟩, ok_rounds F_Heap_rounds T, b_Heap_rounds⟩
  have D_Heap : Dc l.prog w K mg base (L2N.CX l.prog w) 1 C_Heap "Heap" f_Heap___init__ _ ["self", "hands", "room"] (spInit C_Heap EC) := ⟨⟨mk_Heap, a_Heap___init__, i_Heap___init__, kc_Heap⟩, ok_init F_Heap___init__ T T_NoHeap m_MOST_HANDS m_MOST_ROOM, mC_Heap, b_Heap___init__⟩
  have D_make : Dm l.prog w K mg base (L2N.CX l.prog w) 2 C_Heap "make" f_Heap_make _ ["self", "hand", "slots"] (spMake C_Heap EC) := ⟨T.cl, ⟨a_Heap_make, i_Heap_make, k_Heap_make⟩, ok_make F_Heap_make T D__need_hand T_NoSlot T_NoRoom m_MOST_SLOTS m_len, b_Heap_make⟩
  have D_take : Dm l.prog w K mg base (L2N.CX l.prog w) 2 C_Heap "take" f_Heap_take _ ["self", "hand", "other", "slot"] (spTake C_Heap EC) := ⟨T.cl, ⟨a_Heap_take, i_Heap_take, k_Heap_take⟩, ok_take F_Heap_take T D__need_hand D__row_with, b_Heap_take⟩
  have D_put : Dm l.prog w K mg base (L2N.CX l.prog w) 2 C_Heap "put" f_Heap_put _ ["self", "hand", "slot", "other"] (spPut C_Heap EC) := ⟨T.cl, ⟨a_Heap_put, i_Heap_put, k_Heap_put⟩, ok_put F_Heap_put T D__need_hand D__row_with D_phase D__mark, b_Heap_put⟩
  have D_share : Dm l.prog w K mg base (L2N.CX l.prog w) 2 C_Heap "share" f_Heap_share _ ["self", "hand", "other"] (spShare C_Heap EC) := ⟨T.cl, ⟨a_Heap_share, i_Heap_share, k_Heap_share⟩, ok_share F_Heap_share T D__need_hand, b_Heap_share⟩
  have D_drop : Dm l.prog w K mg base (L2N.CX l.prog w) 2 C_Heap "drop" f_Heap_drop _ ["self", "hand"] (spDrop C_Heap EC) := ⟨T.cl, ⟨a_Heap_drop, i_Heap_drop, k_Heap_drop⟩, ok_drop F_Heap_drop T D__need_hand, b_Heap_drop⟩
  have D_held : Dm l.prog w K mg base (L2N.CX l.prog w) 2 C_Heap "held" f_Heap_held _ ["self", "hand"] (spHeld C_Heap EC) := ⟨T.cl, ⟨a_Heap_held, i_Heap_held, k_Heap_held⟩, ok_held F_Heap_held T D__need_hand, b_Heap_held⟩
  have D_look : Dm l.prog w K mg base (L2N.CX l.prog w) 1 C_Heap "look" f_Heap_look _ ["self", "box"] (spLook C_Heap EC) := ⟨T.cl, ⟨a_Heap_look, i_Heap_look, k_Heap_look⟩, ok_look F_Heap_look T T_NoBox m_list, b_Heap_look⟩
  have D_boxes : Dm l.prog w K mg base CX0 1 C_Heap "boxes" f_Heap_boxes _ ["self"] (spList C_Heap HS.keys) := ⟨T.cl, ⟨a_Heap_boxes, i_Heap_boxes, k_Heap_boxes⟩, ok_boxes F_Heap_boxes T m_sorted, b_Heap_boxes⟩
  have D_marked : Dm l.prog w K mg base CX0 1 C_Heap "marked" f_Heap_marked _ ["self"] (spList C_Heap fun S => sortN S.marks) := ⟨T.cl, ⟨a_Heap_marked, i_Heap_marked, k_Heap_marked⟩, ok_marked F_Heap_marked T m_sorted, b_Heap_marked⟩
  have D_waiting : Dm l.prog w K mg base CX0 1 C_Heap "waiting" f_Heap_waiting _ ["self"] (spList C_Heap HS.line) := ⟨T.cl, ⟨a_Heap_waiting, i_Heap_waiting, k_Heap_waiting⟩, ok_waiting F_Heap_waiting T m_list, b_Heap_waiting⟩
  have D__end_round : Dm l.prog w K mg base CX0 1 C_Heap "_end_round" f_Heap__end_round _ ["self"] (spEnd C_Heap) := ⟨T.cl, ⟨a_Heap__end_round, i_Heap__end_round, k_Heap__end_round⟩, ok_end F_Heap__end_round T, b_Heap__end_round⟩
  have D__sweep_on : Dm l.prog w K mg base CX0 1 C_Heap "_sweep_on" f_Heap__sweep_on _ ["self"] (spSweepOn C_Heap) := ⟨T.cl, ⟨a_Heap__sweep_on, i_Heap__sweep_on, k_Heap__sweep_on⟩, ok_sweep F_Heap__sweep_on T, b_Heap__sweep_on⟩
  have D__mark_on : Dm l.prog w K mg base CX0 2 C_Heap "_mark_on" f_Heap__mark_on _ ["self"] (spMarkOn C_Heap) := ⟨T.cl, ⟨a_Heap__mark_on, i_Heap__mark_on, k_Heap__mark_on⟩, ok_markOn F_Heap__mark_on T D__mark, b_Heap__mark_on⟩
  have D__begin_round : Dm l.prog w K mg base CX0 2 C_Heap "_begin_round" f_Heap__begin_round _ ["self"] (spBegin C_Heap) := ⟨T.cl, ⟨a_Heap__begin_round, i_Heap__begin_round, k_Heap__begin_round⟩, ok_begin F_Heap__begin_round T D__mark m_sorted, b_Heap__begin_round⟩
  have D__do_piece : Dm l.prog w K mg base CX0 3 C_Heap "_do_piece" f_Heap__do_piece _ ["self"] (spPiece C_Heap) := ⟨T.cl, ⟨a_Heap__do_piece, i_Heap__do_piece, k_Heap__do_piece⟩, ok_piece F_Heap__do_piece T D_phase D__begin_round D__mark_on D__sweep_on D__end_round, b_Heap__do_piece⟩
  have D_work : Dm l.prog w K mg base (L2N.CX l.prog w) 4 C_Heap "work" f_Heap_work _ ["self", "pieces"] (spWork C_Heap EC) := ⟨T.cl, ⟨a_Heap_work, i_Heap_work, k_Heap_work⟩, ok_work F_Heap_work T T_NoWork D__do_piece m_MOST_PIECES m_range, b_Heap_work⟩
  have D_cell : Df l.prog w K mg base CX0 1 "_law_cell_at" f__law_cell_at _ ["_law_script", "_law_k"] (spCell K) := ⟨ok_cell F__law_cell_at m_len, m__law_cell_at, k__law_cell_at, b__law_cell_at⟩
  have D_whole : Df l.prog w K mg base CX0 1 "_law_whole" f__law_whole _ ["_law_found"] spWhole := ⟨ok_whole F__law_whole m_isinstance m_int m_bool, m__law_whole, k__law_whole, b__law_whole⟩
  have D_numbers : Df l.prog w K mg base CX0 2 "_law_numbers" f__law_numbers _ (["_law_found", "_law_due_here"]) spNumbers := ⟨ok_numbers F__law_numbers D_whole m_isinstance m_list m_len m_range, m__law_numbers, k__law_numbers, b__law_numbers⟩
  have D_whole : Df l.prog w K mg base CX0 1 "_law_whole" f__law_whole _ ["_law_found"] spWhole := ⟨ok_whole F__law_whole m_isinstance m_int m_bool, m__law_whole, k__law_whole, b__law_whole⟩
  have DH_need : DmH l.prog w K mg base CX0 1 C_Heap "_need_hand" f_Heap__need_hand _ ["self", "hand"] (spNeedH C_Heap) := ⟨T.cl, ⟨a_Heap__need_hand, i_Heap__need_hand, k_Heap__need_hand⟩, ok_needH F_Heap__need_hand T m_len, b_Heap__need_hand⟩
  have DH_held : DmH l.prog w K mg base CX0 2 C_Heap "held" f_Heap_held _ ["self", "hand"] (spHeldH C_Heap) := ⟨T.cl, ⟨a_Heap_held, i_Heap_held, k_Heap_held⟩, ok_heldH F_Heap_held T DH_need, b_Heap_held⟩
  have DH_look : DmH l.prog w K mg base CX0 1 C_Heap "look" f_Heap_look _ ["self", "box"] (spLookH C_Heap) := ⟨T.cl, ⟨a_Heap_look, i_Heap_look, k_Heap_look⟩, ok_lookH F_Heap_look T m_list, b_Heap_look⟩
  have DH_boxes : DmH l.prog w K mg base CX0 1 C_Heap "boxes" f_Heap_boxes _ ["self"] (spList C_Heap HS.keys) := ⟨T.cl, ⟨a_Heap_boxes, i_Heap_boxes, k_Heap_boxes⟩, ok_boxesH F_Heap_boxes T m_sorted, b_Heap_boxes⟩
  have DH_marked : DmH l.prog w K mg base CX0 1 C_Heap "marked" f_Heap_marked _ ["self"] (spList C_Heap fun S => sortN S.marks) := ⟨T.cl, ⟨a_Heap_marked, i_Heap_marked, k_Heap_marked⟩, ok_markedH F_Heap_marked T m_sorted, b_Heap_marked⟩
  have DH_waiting : DmH l.prog w K mg base CX0 1 C_Heap "waiting" f_Heap_waiting _ ["self"] (spList C_Heap HS.line) := ⟨T.cl, ⟨a_Heap_waiting, i_Heap_waiting, k_Heap_waiting⟩, ok_waitingH F_Heap_waiting T m_list, b_Heap_waiting⟩
  have DH_rounds : DmH l.prog w K mg base CX0 1 C_Heap "rounds" f_Heap_rounds _ ["self"] (spRounds C_Heap) := ⟨T.cl, ⟨a_Heap_rounds, i_Heap_rounds, k_Heap_rounds⟩, ok_roundsH F_Heap_rounds T, b_Heap_rounds⟩
  have DH_phase : DmH l.prog w K mg base CX0 1 C_Heap "phase" f_Heap_phase _ ["self"] (spPhase C_Heap) := ⟨T.cl, ⟨a_Heap_phase, i_Heap_phase, k_Heap_phase⟩, ok_phaseH F_Heap_phase T, b_Heap_phase⟩
  have DH_whole : DfH l.prog w K mg base CX0 1 "_law_whole" f__law_whole _ ["_law_found"] spWhole := ⟨ok_wholeH F__law_whole m_isinstance m_int m_bool, m__law_whole, k__law_whole, b__law_whole⟩
  have DH_numbers : DfH l.prog w K mg base CX0 2 "_law_numbers" f__law_numbers _ (["_law_found", "_law_due_here"]) spNumbers := ⟨ok_numbersH F__law_numbers DH_whole m_isinstance m_list m_len m_range, m__law_numbers, k__law_numbers, b__law_numbers⟩
  have D_all5 : Df l.prog w K mg base CX0 3 "_law_all" f__law_all _ ["_law_heap", "_law_many", "_law_total"] (spAll C_Heap) := ⟨ok_all (EC := EC) F__law_all D_held D_boxes D_marked D_waiting D_rounds D_look m_range, m__law_all, k__law_all, b__law_all⟩
  have DH_all5 : DfH l.prog w K mg base CX0 3 "_law_all" f__law_all _ ["_law_heap", "_law_many", "_law_total"] (spAll C_Heap) := ⟨ok_allH F__law_all DH_held DH_boxes DH_marked DH_waiting DH_rounds DH_look m_range, m__law_all, k__law_all, b__law_all⟩
  have D_kinds5 : DfHp l.prog w K mg base CX0 1 "_law_kinds" f__law_kinds _ ["_law_e"] (spKinds K EC) := ⟨ok_kinds F__law_kinds T_NoHand T_NoSlot T_NoRoom T_NothingHeld T_NoBox T_NoWork T_NoHeap T_NoDeed m_isinstance m_range, m__law_kinds, k__law_kinds, b__law_kinds⟩
  have D_due5 : Df l.prog w K mg base CX0 1 "_law_due" f__law_due _ ["_law_deed", "_law_slots", "_law_many", "_law_room", "_law_total"] spDue5 := ⟨ok_due F__law_due m_len, m__law_due, k__law_due, b__law_due⟩
  have D_asked5 : Df l.prog w K mg base (L2N.CX l.prog w) 5 "_law_asked" f__law_asked _ ["_law_heap", "_law_deed"] (spAsked5 C_Heap EC) := ⟨ok_asked5 F__law_asked D_make D_take D_put D_share D_drop D_held D_look D_work, m__law_asked, k__law_asked, b__law_asked⟩
  have D_laid5 : Df l.prog w K mg base CX0 3 "_law_laid" f__law_laid _ ["_law_heap", "_law_slots", "_law_cells"] (spLaid C_Heap) := ⟨ok_laid (EC := EC) F__law_laid D_make D_put m_len m_range, m__law_laid, k__law_laid, b__law_laid⟩
  have EX5 : ∀ n, n ≤ 5 → ExcC K (ecAt EC n) ∧ PySem.W.subIn K (.ref (ecAt EC n)) (.ref C_HeapError) = some true ∧ PySem.W.kitOne K (.ref (ecAt EC n)) (.type "ValueError") = some true ∧ ∃ bs, KindsOf K EC (ecAt EC n) bs ∧ kindsL bs = [n] := fun n hn => match n, hn with
    | 0, _ => ⟨EX_NoHand, sub_NoHand_HeapError, kit_NoHand_ValueError, [true, false, false, false, false, false, false, false], ⟨rfl, kit_NoHand_NoHand, kit_NoHand_NoSlot, kit_NoHand_NoRoom, kit_NoHand_NothingHeld, kit_NoHand_NoBox, kit_NoHand_NoWork, kit_NoHand_NoHeap, kit_NoHand_NoDeed⟩, rfl⟩
    | 1, _ => ⟨EX_NoSlot, sub_NoSlot_HeapError, kit_NoSlot_ValueError, [false, true, false, false, false, false, false, false], ⟨rfl, kit_NoSlot_NoHand, kit_NoSlot_NoSlot, kit_NoSlot_NoRoom, kit_NoSlot_NothingHeld, kit_NoSlot_NoBox, kit_NoSlot_NoWork, kit_NoSlot_NoHeap, kit_NoSlot_NoDeed⟩, rfl⟩
    | 2, _ => ⟨EX_NoRoom, sub_NoRoom_HeapError, kit_NoRoom_ValueError, [false, false, true, false, false, false, false, false], ⟨rfl, kit_NoRoom_NoHand, kit_NoRoom_NoSlot, kit_NoRoom_NoRoom, kit_NoRoom_NothingHeld, kit_NoRoom_NoBox, kit_NoRoom_NoWork, kit_NoRoom_NoHeap, kit_NoRoom_NoDeed⟩, rfl⟩
    | 3, _ => ⟨EX_NothingHeld, sub_NothingHeld_HeapError, kit_NothingHeld_ValueError, [false, false, false, true, false, false, false, false], ⟨rfl, kit_NothingHeld_NoHand, kit_NothingHeld_NoSlot, kit_NothingHeld_NoRoom, kit_NothingHeld_NothingHeld, kit_NothingHeld_NoBox, kit_NothingHeld_NoWork, kit_NothingHeld_NoHeap, kit_NothingHeld_NoDeed⟩, rfl⟩
    | 4, _ => ⟨EX_NoBox, sub_NoBox_HeapError, kit_NoBox_ValueError, [false, false, false, false, true, false, false, false], ⟨rfl, kit_NoBox_NoHand, kit_NoBox_NoSlot, kit_NoBox_NoRoom, kit_NoBox_NothingHeld, kit_NoBox_NoBox, kit_NoBox_NoWork, kit_NoBox_NoHeap, kit_NoBox_NoDeed⟩, rfl⟩
    | 5, _ => ⟨EX_NoWork, sub_NoWork_HeapError, kit_NoWork_ValueError, [false, false, false, false, false, true, false, false], ⟨rfl, kit_NoWork_NoHand, kit_NoWork_NoSlot, kit_NoWork_NoRoom, kit_NoWork_NothingHeld, kit_NoWork_NoBox, kit_NoWork_NoWork, kit_NoWork_NoHeap, kit_NoWork_NoDeed⟩, rfl⟩
    | n + 6, h => absurd h (by omega)
  exact ok_law (EC := EC) F_law D_Heap D_cell D_laid5 D_work D_due5 D_all5 D_phase D_asked5 DH_all5 DH_numbers D_kinds5 DH_phase T_HeapError EX5 m_isinstance m_range m_len m_min m_max m_int m_ValueError
end MK
open PySem PySem.W PyProof.Rows
set_option maxHeartbeats 0 in
theorem PySem.Challenge.cw_markpause_k05_refused_holds : PySem.Challenge.rw_markpause_k05_refused.Holds := by
  w_on; o_law; k_head; (case hw => w_witness2)
  k_fill
  refine L2.walk_of (l := PySem.Challenge.rw_markpause_k05_refused) (n := 63) (k := 6) (x := "_law_script") (CX := fun _ => L2.CX0) (sp := fun w => MP.spLaw _) rfl (by decide) rfl ⟨rfl, by decide, by decide⟩ (fun w h Y => PySem.W.kIn_of Y) ?F (fun _ _ a ns hl _ hS => ⟨a, ns, rfl, hS, hl, fun _ => rfl⟩) (fun _ _ _ _ _ h => h)
  case F =>
    intro w mg fa h KX G hmg
    refine' MK.all_mk KX G hmg ?aC_HeapError ?xC_HeapError ?kC_HeapError ?bC_HeapError ?tC_HeapError ?iC_HeapError ?aC_NoHand ?xC_NoHand ?kC_NoHand ?bC_NoHand ?tC_NoHand ?iC_NoHand ?aC_NoSlot ?xC_NoSlot ?kC_NoSlot ?bC_NoSlot ?tC_NoSlot ?iC_NoSlot ?aC_NoRoom ?xC_NoRoom ?kC_NoRoom ?bC_NoRoom ?tC_NoRoom ?iC_NoRoom ?aC_NothingHeld ?xC_NothingHeld ?kC_NothingHeld ?bC_NothingHeld ?tC_NothingHeld ?iC_NothingHeld ?aC_NoBox ?xC_NoBox ?kC_NoBox ?bC_NoBox ?tC_NoBox ?iC_NoBox ?aC_NoWork ?xC_NoWork ?kC_NoWork ?bC_NoWork ?tC_NoWork ?iC_NoWork ?aC_NoHeap ?xC_NoHeap ?kC_NoHeap ?bC_NoHeap ?tC_NoHeap ?iC_NoHeap ?aC_NoDeed ?xC_NoDeed ?kC_NoDeed ?bC_NoDeed ?tC_NoDeed ?iC_NoDeed ?aC_Heap ?pg_Heap ?hd_Heap ?po_Heap ?sa_Heap ?mk_Heap ?kc_Heap ?n_hands ?n_room ?n_rows ?n_made ?n_ended ?n_old ?n_marks ?n_line ?n_unswept ?sub_NoHand_HeapError ?sub_NoSlot_HeapError ?sub_NoRoom_HeapError ?sub_NothingHeld_HeapError ?sub_NoBox_HeapError ?sub_NoWork_HeapError ?sub_NoHand_NoHand ?sub_NoHand_NoSlot ?sub_NoHand_NoRoom ?sub_NoHand_NothingHeld ?sub_NoHand_NoBox ?sub_NoHand_NoWork ?sub_NoHand_NoHeap ?sub_NoHand_NoDeed ?sub_NoSlot_NoHand ?sub_NoSlot_NoSlot ?sub_NoSlot_NoRoom ?sub_NoSlot_NothingHeld ?sub_NoSlot_NoBox ?sub_NoSlot_NoWork ?sub_NoSlot_NoHeap ?sub_NoSlot_NoDeed ?sub_NoRoom_NoHand ?sub_NoRoom_NoSlot ?sub_NoRoom_NoRoom ?sub_NoRoom_NothingHeld ?sub_NoRoom_NoBox ?sub_NoRoom_NoWork ?sub_NoRoom_NoHeap ?sub_NoRoom_NoDeed ?sub_NothingHeld_NoHand ?sub_NothingHeld_NoSlot ?sub_NothingHeld_NoRoom ?sub_NothingHeld_NothingHeld ?sub_NothingHeld_NoBox ?sub_NothingHeld_NoWork ?sub_NothingHeld_NoHeap ?sub_NothingHeld_NoDeed ?sub_NoBox_NoHand ?sub_NoBox_NoSlot ?sub_NoBox_NoRoom ?sub_NoBox_NothingHeld ?sub_NoBox_NoBox ?sub_NoBox_NoWork ?sub_NoBox_NoHeap ?sub_NoBox_NoDeed ?sub_NoWork_NoHand ?sub_NoWork_NoSlot ?sub_NoWork_NoRoom ?sub_NoWork_NothingHeld ?sub_NoWork_NoBox ?sub_NoWork_NoWork ?sub_NoWork_NoHeap ?sub_NoWork_NoDeed ?sub_NoHand_ValueError ?sub_NoSlot_ValueError ?sub_NoRoom_ValueError ?sub_NothingHeld_ValueError ?sub_NoBox_ValueError ?sub_NoWork_ValueError ?e0_NoHand ?e1_NoHand ?e2_NoHand ?e3_NoHand ?e4_NoHand ?e5_NoHand ?e6_NoHand ?e7_NoHand ?e0_NoSlot ?e1_NoSlot ?e2_NoSlot ?e3_NoSlot ?e4_NoSlot ?e5_NoSlot ?e6_NoSlot ?e7_NoSlot ?e0_NoRoom ?e1_NoRoom ?e2_NoRoom ?e3_NoRoom ?e4_NoRoom ?e5_NoRoom ?e6_NoRoom ?e7_NoRoom ?e0_NothingHeld ?e1_NothingHeld ?e2_NothingHeld ?e3_NothingHeld ?e4_NothingHeld ?e5_NothingHeld ?e6_NothingHeld ?e7_NothingHeld ?e0_NoBox ?e1_NoBox ?e2_NoBox ?e3_NoBox ?e4_NoBox ?e5_NoBox ?e6_NoBox ?e7_NoBox ?e0_NoWork ?e1_NoWork ?e2_NoWork ?e3_NoWork ?e4_NoWork ?e5_NoWork ?e6_NoWork ?e7_NoWork ?aN_MOST_HANDS ?aN_MOST_ROOM ?aN_MOST_SLOTS ?aN_MOST_PIECES ?a_Heap___init__ ?i_Heap___init__ ?l_Heap___init__ ?c_Heap___init__ ?k_Heap___init__ ?a_Heap_make ?i_Heap_make ?l_Heap_make ?c_Heap_make ?k_Heap_make ?a_Heap_take ?i_Heap_take ?l_Heap_take ?c_Heap_take ?k_Heap_take ?a_Heap_put ?i_Heap_put ?l_Heap_put ?c_Heap_put ?k_Heap_put ?a_Heap_share ?i_Heap_share ?l_Heap_share ?c_Heap_share ?k_Heap_share ?a_Heap_drop ?i_Heap_drop ?l_Heap_drop ?c_Heap_drop ?k_Heap_drop ?a_Heap_held ?i_Heap_held ?l_Heap_held ?c_Heap_held ?k_Heap_held ?a_Heap_look ?i_Heap_look ?l_Heap_look ?c_Heap_look ?k_Heap_look ?a_Heap_boxes ?i_Heap_boxes ?l_Heap_boxes ?c_Heap_boxes ?k_Heap_boxes ?a_Heap_work ?i_Heap_work ?l_Heap_work ?c_Heap_work ?k_Heap_work ?a_Heap_phase ?i_Heap_phase ?l_Heap_phase ?c_Heap_phase ?k_Heap_phase ?a_Heap_marked ?i_Heap_marked ?l_Heap_marked ?c_Heap_marked ?k_Heap_marked ?a_Heap_waiting ?i_Heap_waiting ?l_Heap_waiting ?c_Heap_waiting ?k_Heap_waiting ?a_Heap_rounds ?i_Heap_rounds ?l_Heap_rounds ?c_Heap_rounds ?k_Heap_rounds ?a_Heap__do_piece ?i_Heap__do_piece ?l_Heap__do_piece ?c_Heap__do_piece ?k_Heap__do_piece ?a_Heap__begin_round ?i_Heap__begin_round ?l_Heap__begin_round ?c_Heap__begin_round ?k_Heap__begin_round ?a_Heap__mark_on ?i_Heap__mark_on ?l_Heap__mark_on ?c_Heap__mark_on ?k_Heap__mark_on ?a_Heap__sweep_on ?i_Heap__sweep_on ?l_Heap__sweep_on ?c_Heap__sweep_on ?k_Heap__sweep_on ?a_Heap__end_round ?i_Heap__end_round ?l_Heap__end_round ?c_Heap__end_round ?k_Heap__end_round ?a_Heap__mark ?i_Heap__mark ?l_Heap__mark ?c_Heap__mark ?k_Heap__mark ?a_Heap__need_hand ?i_Heap__need_hand ?l_Heap__need_hand ?c_Heap__need_hand ?k_Heap__need_hand ?a_Heap__row_with ?i_Heap__row_with ?l_Heap__row_with ?c_Heap__row_with ?k_Heap__row_with ?a__law_cell_at ?l__law_cell_at ?c__law_cell_at ?k__law_cell_at ?a__law_whole ?l__law_whole ?c__law_whole ?k__law_whole ?a__law_numbers ?l__law_numbers ?c__law_numbers ?k__law_numbers ?a__law_kinds ?l__law_kinds ?c__law_kinds ?k__law_kinds ?a__law_due ?l__law_due ?c__law_due ?k__law_due ?a__law_asked ?l__law_asked ?c__law_asked ?k__law_asked ?a__law_laid ?l__law_laid ?c__law_laid ?k__law_laid ?a__law_all ?l__law_all ?c__law_all ?k__law_all ?a_law ?l_law ?c_law ?k_law ?z_ValueError ?z_bool ?z_int ?z_isinstance ?z_len ?z_list ?z_max ?z_min ?z_range ?z_sorted
    (case aC_HeapError => k_is); (case xC_HeapError => k_exc); (case kC_HeapError => k_is); (case bC_HeapError => k_is); (case tC_HeapError => k_is); (case iC_HeapError => k_is); (case aC_NoHand => k_is); (case xC_NoHand => k_exc); (case kC_NoHand => k_is); (case bC_NoHand => k_is); (case tC_NoHand => k_is); (case iC_NoHand => k_is); (case aC_NoSlot => k_is); (case xC_NoSlot => k_exc); (case kC_NoSlot => k_is); (case bC_NoSlot => k_is); (case tC_NoSlot => k_is); (case iC_NoSlot => k_is); (case aC_NoRoom => k_is); (case xC_NoRoom => k_exc); (case kC_NoRoom => k_is); (case bC_NoRoom => k_is); (case tC_NoRoom => k_is); (case iC_NoRoom => k_is); (case aC_NothingHeld => k_is); (case xC_NothingHeld => k_exc); (case kC_NothingHeld => k_is); (case bC_NothingHeld => k_is); (case tC_NothingHeld => k_is); (case iC_NothingHeld => k_is); (case aC_NoBox => k_is); (case xC_NoBox => k_exc); (case kC_NoBox => k_is); (case bC_NoBox => k_is); (case tC_NoBox => k_is); (case iC_NoBox => k_is); (case aC_NoWork => k_is); (case xC_NoWork => k_exc); (case kC_NoWork => k_is); (case bC_NoWork => k_is); (case tC_NoWork => k_is); (case iC_NoWork => k_is); (case aC_NoHeap => k_is); (case xC_NoHeap => k_exc); (case kC_NoHeap => k_is); (case bC_NoHeap => k_is); (case tC_NoHeap => k_is); (case iC_NoHeap => k_is); (case aC_NoDeed => k_is); (case xC_NoDeed => k_exc); (case kC_NoDeed => k_is); (case bC_NoDeed => k_is); (case tC_NoDeed => k_is); (case iC_NoDeed => k_is); (case aC_Heap => k_is); (case pg_Heap => k_is); (case hd_Heap => k_is); (case po_Heap => k_is); (case sa_Heap => k_is); (case mk_Heap => k_is); (case kc_Heap => k_is); (case n_hands => k_is); (case n_room => k_is); (case n_rows => k_is); (case n_made => k_is); (case n_ended => k_is); (case n_old => k_is); (case n_marks => k_is); (case n_line => k_is); (case n_unswept => k_is); (case sub_NoHand_HeapError => k_is); (case sub_NoSlot_HeapError => k_is); (case sub_NoRoom_HeapError => k_is); (case sub_NothingHeld_HeapError => k_is); (case sub_NoBox_HeapError => k_is); (case sub_NoWork_HeapError => k_is); (case sub_NoHand_NoHand => k_is); (case sub_NoHand_NoSlot => k_is); (case sub_NoHand_NoRoom => k_is); (case sub_NoHand_NothingHeld => k_is); (case sub_NoHand_NoBox => k_is); (case sub_NoHand_NoWork => k_is); (case sub_NoHand_NoHeap => k_is); (case sub_NoHand_NoDeed => k_is); (case sub_NoSlot_NoHand => k_is); (case sub_NoSlot_NoSlot => k_is); (case sub_NoSlot_NoRoom => k_is); (case sub_NoSlot_NothingHeld => k_is); (case sub_NoSlot_NoBox => k_is); (case sub_NoSlot_NoWork => k_is); (case sub_NoSlot_NoHeap => k_is); (case sub_NoSlot_NoDeed => k_is); (case sub_NoRoom_NoHand => k_is); (case sub_NoRoom_NoSlot => k_is); (case sub_NoRoom_NoRoom => k_is); (case sub_NoRoom_NothingHeld => k_is); (case sub_NoRoom_NoBox => k_is); (case sub_NoRoom_NoWork => k_is); (case sub_NoRoom_NoHeap => k_is); (case sub_NoRoom_NoDeed => k_is); (case sub_NothingHeld_NoHand => k_is); (case sub_NothingHeld_NoSlot => k_is); (case sub_NothingHeld_NoRoom => k_is); (case sub_NothingHeld_NothingHeld => k_is); (case sub_NothingHeld_NoBox => k_is); (case sub_NothingHeld_NoWork => k_is); (case sub_NothingHeld_NoHeap => k_is); (case sub_NothingHeld_NoDeed => k_is); (case sub_NoBox_NoHand => k_is); (case sub_NoBox_NoSlot => k_is); (case sub_NoBox_NoRoom => k_is); (case sub_NoBox_NothingHeld => k_is); (case sub_NoBox_NoBox => k_is); (case sub_NoBox_NoWork => k_is); (case sub_NoBox_NoHeap => k_is); (case sub_NoBox_NoDeed => k_is); (case sub_NoWork_NoHand => k_is); (case sub_NoWork_NoSlot => k_is); (case sub_NoWork_NoRoom => k_is); (case sub_NoWork_NothingHeld => k_is); (case sub_NoWork_NoBox => k_is); (case sub_NoWork_NoWork => k_is); (case sub_NoWork_NoHeap => k_is); (case sub_NoWork_NoDeed => k_is); (case sub_NoHand_ValueError => k_is); (case sub_NoSlot_ValueError => k_is); (case sub_NoRoom_ValueError => k_is); (case sub_NothingHeld_ValueError => k_is); (case sub_NoBox_ValueError => k_is); (case sub_NoWork_ValueError => k_is); (case e0_NoHand => k_is); (case e1_NoHand => k_is); (case e2_NoHand => k_is); (case e3_NoHand => k_is); (case e4_NoHand => k_is); (case e5_NoHand => k_is); (case e6_NoHand => k_is); (case e7_NoHand => k_is); (case e0_NoSlot => k_is); (case e1_NoSlot => k_is); (case e2_NoSlot => k_is); (case e3_NoSlot => k_is); (case e4_NoSlot => k_is); (case e5_NoSlot => k_is); (case e6_NoSlot => k_is); (case e7_NoSlot => k_is); (case e0_NoRoom => k_is); (case e1_NoRoom => k_is); (case e2_NoRoom => k_is); (case e3_NoRoom => k_is); (case e4_NoRoom => k_is); (case e5_NoRoom => k_is); (case e6_NoRoom => k_is); (case e7_NoRoom => k_is); (case e0_NothingHeld => k_is); (case e1_NothingHeld => k_is); (case e2_NothingHeld => k_is); (case e3_NothingHeld => k_is); (case e4_NothingHeld => k_is); (case e5_NothingHeld => k_is); (case e6_NothingHeld => k_is); (case e7_NothingHeld => k_is); (case e0_NoBox => k_is); (case e1_NoBox => k_is); (case e2_NoBox => k_is); (case e3_NoBox => k_is); (case e4_NoBox => k_is); (case e5_NoBox => k_is); (case e6_NoBox => k_is); (case e7_NoBox => k_is); (case e0_NoWork => k_is); (case e1_NoWork => k_is); (case e2_NoWork => k_is); (case e3_NoWork => k_is); (case e4_NoWork => k_is); (case e5_NoWork => k_is); (case e6_NoWork => k_is); (case e7_NoWork => k_is); (case aN_MOST_HANDS => k_is); (case aN_MOST_ROOM => k_is); (case aN_MOST_SLOTS => k_is); (case aN_MOST_PIECES => k_is); (case a_Heap___init__ => k_is); (case i_Heap___init__ => k_is); (case l_Heap___init__ => k_is); (case c_Heap___init__ => k_is); (case k_Heap___init__ => k_is); (case a_Heap_make => k_is); (case i_Heap_make => k_is); (case l_Heap_make => k_is); (case c_Heap_make => k_is); (case k_Heap_make => k_is); (case a_Heap_take => k_is); (case i_Heap_take => k_is); (case l_Heap_take => k_is); (case c_Heap_take => k_is); (case k_Heap_take => k_is); (case a_Heap_put => k_is); (case i_Heap_put => k_is); (case l_Heap_put => k_is); (case c_Heap_put => k_is); (case k_Heap_put => k_is); (case a_Heap_share => k_is); (case i_Heap_share => k_is); (case l_Heap_share => k_is); (case c_Heap_share => k_is); (case k_Heap_share => k_is); (case a_Heap_drop => k_is); (case i_Heap_drop => k_is); (case l_Heap_drop => k_is); (case c_Heap_drop => k_is); (case k_Heap_drop => k_is); (case a_Heap_held => k_is); (case i_Heap_held => k_is); (case l_Heap_held => k_is); (case c_Heap_held => k_is); (case k_Heap_held => k_is); (case a_Heap_look => k_is); (case i_Heap_look => k_is); (case l_Heap_look => k_is); (case c_Heap_look => k_is); (case k_Heap_look => k_is); (case a_Heap_boxes => k_is); (case i_Heap_boxes => k_is); (case l_Heap_boxes => k_is); (case c_Heap_boxes => k_is); (case k_Heap_boxes => k_is); (case a_Heap_work => k_is); (case i_Heap_work => k_is); (case l_Heap_work => k_is); (case c_Heap_work => k_is); (case k_Heap_work => k_is); (case a_Heap_phase => k_is); (case i_Heap_phase => k_is); (case l_Heap_phase => k_is); (case c_Heap_phase => k_is); (case k_Heap_phase => k_is); (case a_Heap_marked => k_is); (case i_Heap_marked => k_is); (case l_Heap_marked => k_is); (case c_Heap_marked => k_is); (case k_Heap_marked => k_is); (case a_Heap_waiting => k_is); (case i_Heap_waiting => k_is); (case l_Heap_waiting => k_is); (case c_Heap_waiting => k_is); (case k_Heap_waiting => k_is); (case a_Heap_rounds => k_is); (case i_Heap_rounds => k_is); (case l_Heap_rounds => k_is); (case c_Heap_rounds => k_is); (case k_Heap_rounds => k_is); (case a_Heap__do_piece => k_is); (case i_Heap__do_piece => k_is); (case l_Heap__do_piece => k_is); (case c_Heap__do_piece => k_is); (case k_Heap__do_piece => k_is); (case a_Heap__begin_round => k_is); (case i_Heap__begin_round => k_is); (case l_Heap__begin_round => k_is); (case c_Heap__begin_round => k_is); (case k_Heap__begin_round => k_is); (case a_Heap__mark_on => k_is); (case i_Heap__mark_on => k_is); (case l_Heap__mark_on => k_is); (case c_Heap__mark_on => k_is); (case k_Heap__mark_on => k_is); (case a_Heap__sweep_on => k_is); (case i_Heap__sweep_on => k_is); (case l_Heap__sweep_on => k_is); (case c_Heap__sweep_on => k_is); (case k_Heap__sweep_on => k_is); (case a_Heap__end_round => k_is); (case i_Heap__end_round => k_is); (case l_Heap__end_round => k_is); (case c_Heap__end_round => k_is); (case k_Heap__end_round => k_is); (case a_Heap__mark => k_is); (case i_Heap__mark => k_is); (case l_Heap__mark => k_is); (case c_Heap__mark => k_is); (case k_Heap__mark => k_is); (case a_Heap__need_hand => k_is); (case i_Heap__need_hand => k_is); (case l_Heap__need_hand => k_is); (case c_Heap__need_hand => k_is); (case k_Heap__need_hand => k_is); (case a_Heap__row_with => k_is); (case i_Heap__row_with => k_is); (case l_Heap__row_with => k_is); (case c_Heap__row_with => k_is); (case k_Heap__row_with => k_is); (case a__law_cell_at => k_is); (case l__law_cell_at => k_is); (case c__law_cell_at => k_is); (case k__law_cell_at => k_is); (case a__law_whole => k_is); (case l__law_whole => k_is); (case c__law_whole => k_is); (case k__law_whole => k_is); (case a__law_numbers => k_is); (case l__law_numbers => k_is); (case c__law_numbers => k_is); (case k__law_numbers => k_is); (case a__law_kinds => k_is); (case l__law_kinds => k_is); (case c__law_kinds => k_is); (case k__law_kinds => k_is); (case a__law_due => k_is); (case l__law_due => k_is); (case c__law_due => k_is); (case k__law_due => k_is); (case a__law_asked => k_is); (case l__law_asked => k_is); (case c__law_asked => k_is); (case k__law_asked => k_is); (case a__law_laid => k_is); (case l__law_laid => k_is); (case c__law_laid => k_is); (case k__law_laid => k_is); (case a__law_all => k_is); (case l__law_all => k_is); (case c__law_all => k_is); (case k__law_all => k_is); (case a_law => k_is); (case l_law => k_is); (case c_law => k_is); (case k_law => k_is); (case z_ValueError => k_is); (case z_bool => k_is); (case z_int => k_is); (case z_isinstance => k_is); (case z_len => k_is); (case z_list => k_is); (case z_max => k_is); (case z_min => k_is); (case z_range => k_is); (case z_sorted => k_is)

