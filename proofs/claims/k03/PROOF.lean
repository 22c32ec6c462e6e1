import PyProof.Rows.All
import Wide.All
import OpenK.AllK
import Wide.FinOn
import HandS.ForMost
import HandS.ForExc
import HandS.IsInst
import HandS.More
import HandS.SortInts
import HandS.DictComp
import HandS.Codes
import HandS.NoneIn
import HandS.TryOnly
import HandS.TryMany
import HandS.ExcOwn
import HandS.SetFor
import HandS.ExcIs
import HandS.HotCalls
import HandS.List
import HandS.Text
import HandS.RaiseMore
import HandS.StrMore
import HandS.Star
import HandS.Walk
import PySem.Challenge.RW_markpause_k03_read
set_option Elab.async false
set_option linter.all false
set_option maxRecDepth 100000
set_option maxHeartbeats 4000000
/-! Rules whose reading names the written part K by a letter of its own (so that they stand in a comprehension too); small facts of heaps. -/
namespace KG
open PySem PySem.Spec PyProof.Rows L2
section
variable {X : Cx} {K : PySem.W.Frag}
theorem ixL (e : X.K = K := by rfl) : IxR X (rIxL K) := by subst e; exact ix_list
theorem ixT (e : X.K = K := by rfl) : IxR X (rIxT K) := by subst e; exact ix_tup
theorem slL (e : X.K = K := by rfl) : SlR X (rSlL K) := by subst e; exact sl_list
def rLenQ (K : PySem.W.Frag) : List V → Hp → VK → Prop := fun xs H Q => ∃ p ys, xs = [.ref p] ∧ (SqL K H p ys ∨ SqT K H p ys) ∧ Q (.int ys.length) H
theorem lenS (e : X.K = K := by rfl) : CallR X (.builtin "len") (rLenQ K) := by subst e; exact call_len_seq
def rListQ (K : PySem.W.Frag) : List V → Hp → VK → Prop := fun xs H Q => ∃ p ys, xs = [.ref p] ∧ (SqL K H p ys ∨ SqT K H p ys) ∧ ∀ l, H l = none → Q (.ref l) (upd H l (.lst ys))
theorem listOf (e : X.K = K := by rfl) : CallR X (.type "list") (rListQ K) := by subst e; exact call_list_of
theorem isiK (e : X.K = K := by rfl) : CallR X (.builtin "isinstance") (rIsi K) := by subst e; exact call_isi
theorem inSeq (e : X.K = K := by rfl) : OpR X (compareOp .In) (rIn K false) := by subst e; exact op_in_seq
theorem notInSeq (e : X.K = K := by rfl) : OpR X (compareOp .NotIn) (rIn K true) := by subst e; exact op_notIn_seq
theorem eqDK (hu : X.A.units + 64 < cLine) (e : X.K = K := by rfl) : OpR X (compareOp .Eq) (rEqD K) := by subst e; exact op_eqD hu
theorem neDK (hu : X.A.units + 64 < cLine) (e : X.K = K := by rfl) : OpR X (compareOp .NotEq) (rNeD K) := by subst e; exact op_neD hu
theorem peFld {e : Expr} {ta : TE} {f : Str} {pos : Pos} (he : PE X e ta) (hb : attributeBase e f X.env (eval e X.env) = eval e X.env) (hK : X.K = K := by rfl) : PE X (.Attribute e f pos) (tFld K ta f) := by
  subst hK
  exact pe_fld he hb
end
theorem same_new {H : Hp} {p : Addr} {o : HO} (h : H p = none) : Same H (upd H p o) := fun b x e => by
  rw [upd_ne (ne_of_none e h)]
  exact e
theorem same_put {H0 H : Hp} {p : Addr} {o : HO} (s : Same H0 H) (h : H0 p = none) : Same H0 (upd H p o) := fun b x e => by
  rw [upd_ne (ne_of_none e h)]
  exact s _ _ e
theorem size2k {n : Nat} (h : n ≤ 4000) : n < sizeLine := Nat.lt_of_le_of_lt h (by decide)
theorem ixN_nat {n j : Nat} (h : j < n) : ixN n (j : Int) = some j := by
  unfold ixN
  rw [if_pos (by omega), if_pos (by omega)]
  simp
/-- a def as it stands: kept promise, name, binding -/
structure Df (P : Program) (w : World) (K : PySem.W.Frag) (mg : Str → Option Value) (base : Heap) (CX : CXT) (lv : Nat) (name : Str) (f : Addr) (fd : FuncData) (ps : List Str) (sp : Sp) : Prop where
  g : FnOk P w K mg base CX lv f fd ps sp
  m : mg name = some (.ref f)
  k : PySem.W.keepIn K (.ref f) = true
  b : Binds K fd ps []
end KG

set_option Elab.async false
set_option linter.all false
set_option maxRecDepth 100000
set_option maxHeartbeats 4000000
/-! sorted(a dict with whole numbers as keys), any number; a dict comprehension over a list. -/
namespace KS
open PySem PySem.Spec PyProof.Rows L2
def rSortedD : List V → Hp → VK → Prop := fun xs H Q => ∃ (a : Addr) (kvs : List (Key × V)) (ks : List Int), xs = [.ref a] ∧ Rd H a (.dK kvs) ∧ kvs.map (·.1) = ks.map Sum.inl ∧
    ∀ (ys : List Int) (p : Addr), ys.Perm ks → ys.Pairwise (· ≤ ·) → H p = none → Q (.ref p) (upd H p (.lst (ys.map V.int)))
theorem cr_sortedD {X : Cx} (hcalm : X.calm = true) : CallR X (.builtin "sorted") rSortedD := by
  intro pins s σ H xs us Q I r q
  obtain ⟨a, kvs, ks, ex, hd, hks, q⟩ := q
  subst ex
  obtain ⟨u, eu, rx⟩ := vals1 r
  subst eu
  cases rx
  obtain ⟨z, lo, vs, rel, dd⟩ := dk_rd I.hok hd
  obtain ⟨ep, hat⟩ := dd.dictAt
  have hkeys : vs.map (·.1) = ks.map Sum.inl := rel.keys.symm.trans hks
  have hl : vs.length = ks.length := by
    have e := congrArg List.length hkeys
    rw [List.length_map, List.length_map] at e
    exact e
  have h16 : vs.length ≤ sizeLine := by rw [← rel.length]; exact z
  refine Calls.call_function_entry PyProof.Rows.kind_sorted PyProof.Rows.plain_sorted PyProof.Rows.entry_sorted (PyProof.Rows.args_sorted1 _) ?_
  unfold Builtin.«sorted»
  refine wpAny_bind (m := checkCount "sorted" 1 1 _) (wpAny_pure ?_)
  refine wpAny_bind (PySem.W.kdu_collect (A := X.A.in1) (PySem.W.kdl_dict (knd := mixKind X.prog X.w) (kvs := vs) (ep := ep) lo) (I.ok.hd hcalm) hat h16 fun h' tk acc hk hacc => ?_)
  have hal : acc.toList.length = ks.length := by rw [Array.length_toList, hacc.1, hl]
  have hS : IntsAre acc.toList ks := ints_each hal fun j v e => by
    obtain ⟨k, x, e1, e2⟩ := hacc.2 j v (by rw [← Array.getElem?_toList]; exact e)
    have e3 : (vs.map (·.1))[j]? = some k := by rw [List.getElem?_map, e1]; rfl
    rw [hkeys, List.getElem?_map] at e3
    cases e4 : ks[j]? with
    | none => rw [e4] at e3; cases e3
    | some y =>
      rw [e4] at e3
      have e5 : Sum.inl y = k := Option.some.inj e3
      subst e5
      rcases keyIs_shape (show keyIs (Sum.inl y) v = true from e2) with ⟨i, t, ek, ev⟩ | ⟨z, t, ek, ev⟩
      · cases ek
        exact ⟨y, t, rfl, ev⟩
      · cases ek
  have I1 : Inv X pins σ H { s with heap := h', toks := tk } := I.kept hk
  have hz : acc.toList.length ≤ sizeLine := by rw [hal, ← hl]; exact h16
  refine wpAny_bind (wpAny_newList ?_ hz)
  have hoL : (h'.push (seqObj "list" acc.toList.toArray 0)).get? h'.objs.size = some (seqObj "list" acc.toList.toArray 0) := Heap.get?_push_size _ rfl
  show wpAny _ _ _ _ _ { s with heap := h'.push (seqObj "list" acc.toList.toArray 0), toks := tk }
  refine wpAny_bind (wpAny_holding (wpAny_call_entry PyProof.Rows.slot_list_sort ⟨_, hoL, rfl⟩ PyProof.Rows.entry_list_sort
    (SrtO.list_sort_ord SrtO.swo_int (s := { s with heap := h'.push (seqObj "list" acc.toList.toArray 0), toks := tk }) hoL hz (fun h2 => SrtO.ints_sortable hS h2) fun out g1 g2 => ⟨_, rfl, ?_⟩) (PyProof.Rows.args_list_sort _)))
  obtain ⟨k1, k2, k3⟩ := SrtO.ints_out hS g1 g2
  obtain ⟨e', he'⟩ := PyProof.Rows.sortedHeap_at (vs := acc.toList) (out := out.toArray) hoL
  have hlen : ((out.map SrtO.iv).map V.int).length ≤ sizeLine := by
    rw [List.length_map, k2.length_eq, ← hal]
    exact hz
  refine wpAny_pure ⟨_, rfl, .ref h'.objs.size, upd H h'.objs.size (.lst ((out.map SrtO.iv).map V.int)), I1.laid (t' := tk) (fun b u e => ?_) (Nat.le_refl _)
    (show ObjOk X.prog X.w _ _ _ (.lst ((out.map SrtO.iv).map V.int)) from ⟨hlen, out, e', vals_of_ints k1, he'⟩), rfl, q _ _ k2 k3 (I1.hok.fresh (Nat.le_refl _))⟩
  have hb : b < h'.objs.size := Heap.lt_size e
  rw [PyProof.Rows.sortedHeap_old (Nat.ne_of_lt hb) (by rw [size_push']; exact Nat.lt_succ_of_lt hb)]
  exact Heap.get?_push_of_some _ e
/-- a dict comprehension over a list that stays -/
theorem dc_list {K : PySem.W.Frag} {a : Addr} {xs : List V} {g : TG} {tt : TT} {tk tv : TE} {vs : List Nat} {σ : L2.St} {H1 : Hp} {D : Addr} {Qd : Hp → Prop} (Pv : Nat → Hp → Prop) (h0 : Pv 0 (upd H1 D (.dK []))) (hl : ∀ i H, i ≤ xs.length → Pv i H → SqL K H a xs)
    (hs : ∀ i x H, xs[i]? = some x → Pv i H → g x (wipe σ vs) H fun σ2 H2 => wipe σ2 vs = wipe σ vs ∧ tt σ2 H2 fun b H3 =>
      if b = true then tk σ2 H3 fun y H4 => tv σ2 H4 fun z H5 => ∃ kvs k, y = kV k ∧ H5 D = some (.dK kvs) ∧ kvs.length < sizeLine ∧ Pv (i + 1) (upd H5 D (.dK (putK kvs k z))) else Pv (i + 1) H3) (hd : ∀ H, Pv xs.length H → Qd H) :
    ∃ W : Nat → Nat → Hp → Prop, (∃ m, W 0 m (upd H1 D (.dK []))) ∧ ∀ i m H, W i m H →
      ((Itl K a).stop i H ∧ Qd H) ∨ ((Itl K a).go i H ∧ ∃ Nx : Hp → Prop, (∀ H', Nx H' → ∃ m', m' < m ∧ W (i + 1) m' H') ∧ ∀ x H', (Itl K a).yld i H x H' → g x (wipe σ vs) H' fun σ2 H2 => wipe σ2 vs = wipe σ vs ∧ tt σ2 H2 fun b H3 =>
        if b = true then tk σ2 H3 fun y H4 => tv σ2 H4 fun z H5 => ∃ kvs k, y = kV k ∧ H5 D = some (.dK kvs) ∧ kvs.length < sizeLine ∧ Nx (upd H5 D (.dK (putK kvs k z))) else Nx H3) := by
  refine ⟨fun i m H => m = xs.length - i ∧ i ≤ xs.length ∧ Pv i H, ⟨xs.length, by simp, Nat.zero_le _, h0⟩, ?_⟩
  rintro i m H ⟨rfl, hi, p⟩
  have q := hl i H hi p
  by_cases hlt : i < xs.length
  · refine .inr ⟨⟨xs, xs[i], q, by simp [hlt]⟩, Pv (i + 1), fun H' p' => ⟨xs.length - (i + 1), by omega, rfl, hlt, p'⟩, fun x H' y => ?_⟩
    obtain ⟨e, y⟩ := y
    subst e
    exact hs i x _ (y xs q) p
  · have e : i = xs.length := by omega
    subst e
    exact .inl ⟨⟨xs, q, Nat.le_refl _⟩, hd H p⟩
end KS

set_option linter.all false
/-! The mathematics of the heap and its collector: no Python here. -/
namespace MM
abbrev Row := List (Option Nat)
structure HS where
  hands : List (Option Nat)
  room : Nat
  rows : List Row
  keys : List Nat
  ended : Nat
  old : List Nat
  marks : List Nat
  line : List Nat
  unsw : List Nat
  snap : List Nat
def rowOf (rows : List Row) (k : Nat) : Row := rows.getD k []
abbrev HS.row (S : HS) (k : Nat) : Row := rowOf S.rows k
theorem rowOf_at {rows : List Row} {k : Nat} {row : Row} (h : rows[k]? = some row) : rowOf rows k = row := by
  unfold rowOf
  rw [List.getD_eq_getElem?_getD, h]; rfl
theorem rowOf_lt {rows : List Row} {k : Nat} (h : k < rows.length) : rows[k]? = some (rowOf rows k) := by
  unfold rowOf
  rw [List.getD_eq_getElem?_getD, List.getElem?_eq_getElem h]; rfl
theorem rowOf_ge {rows : List Row} {k : Nat} (h : rows.length ≤ k) : rowOf rows k = [] := by
  unfold rowOf
  rw [List.getD_eq_getElem?_getD, List.getElem?_eq_none h]; rfl
theorem rowOf_mem {rows : List Row} {k : Nat} (h : k < rows.length) : rowOf rows k ∈ rows := List.mem_of_getElem? (rowOf_lt h)
theorem rowOf_push {rows : List Row} {r : Row} (k : Nat) : rowOf (rows ++ [r]) k = if k = rows.length then r else rowOf rows k := by
  by_cases h : k < rows.length
  · rw [if_neg (by omega)]
    refine rowOf_at ?_
    rw [List.getElem?_append_left h]
    exact rowOf_lt h
  · by_cases e : k = rows.length
    · rw [if_pos e]
      refine rowOf_at ?_
      rw [e, List.getElem?_append_right (Nat.le_refl _), Nat.sub_self]; rfl
    · rw [if_neg e, rowOf_ge (by rw [List.length_append, List.length_singleton]; omega), rowOf_ge (by omega)]
theorem rowOf_set {rows : List Row} {b : Nat} {r : Row} (k : Nat) (hb : b < rows.length) : rowOf (rows.set b r) k = if k = b then r else rowOf rows k := by
  unfold rowOf
  rw [List.getD_eq_getElem?_getD, List.getD_eq_getElem?_getD, List.getElem?_set]
  by_cases e : b = k
  · subst e
    rw [if_pos rfl, if_pos hb, if_pos rfl]; rfl
  · rw [if_neg e, if_neg (fun z => e z.symm)]

/-! ### what can be come to -/
inductive Rc (hands : List (Option Nat)) (rows : List Row) : Nat → Prop
  | hand {k : Nat} (h : some k ∈ hands) : Rc hands rows k
  | slot {k j : Nat} (h : Rc hands rows k) (hj : some j ∈ rowOf rows k) : Rc hands rows j

/-! ### rising lists -/
theorem rising_nodup {l : List Nat} (h : l.Pairwise (· < ·)) : l.Nodup := h.imp fun h => by omega
theorem rising_ext : ∀ (l m : List Nat), l.Pairwise (· < ·) → m.Pairwise (· < ·) → (∀ k, k ∈ l ↔ k ∈ m) → l = m
  | [], [], _, _, _ => rfl
  | [], b :: m, _, _, h => absurd ((h b).mpr List.mem_cons_self) (by simp)
  | a :: l, [], _, _, h => absurd ((h a).mp List.mem_cons_self) (by simp)
  | a :: l, b :: m, hl, hm, h => by
    obtain ⟨h1, h2⟩ := List.pairwise_cons.mp hl
    obtain ⟨h3, h4⟩ := List.pairwise_cons.mp hm
    have e : a = b := by
      rcases List.mem_cons.mp ((h a).mp List.mem_cons_self) with e | e
      · exact e
      · rcases List.mem_cons.mp ((h b).mpr List.mem_cons_self) with e2 | e2
        · exact e2.symm
        · have x := h1 b e2
          have y := h3 a e
          omega
    subst e
    have e2 : l = m := rising_ext l m h2 h4 fun k => by
      have q := h k
      rw [List.mem_cons, List.mem_cons] at q
      constructor
      · intro hk
        rcases q.mp (.inr hk) with z | z
        · have := h1 k hk
          omega
        · exact z
      · intro hk
        rcases q.mpr (.inr hk) with z | z
        · have := h3 k hk
          omega
        · exact z
    rw [e2]
theorem nodup_sub : ∀ (l m : List Nat), l.Nodup → (∀ k ∈ l, k ∈ m) → l.length ≤ m.length
  | [], _, _, _ => Nat.zero_le _
  | a :: l, m, nd, h => by
    obtain ⟨h1, h2⟩ := List.nodup_cons.mp nd
    have hm := h a List.mem_cons_self
    have q : l.length ≤ (m.erase a).length := nodup_sub l (m.erase a) h2 fun k hk => by
      refine (List.mem_erase_of_ne fun (e : k = a) => h1 (e ▸ hk)).mpr (h k (List.mem_cons_of_mem _ hk))
    have := List.length_erase_of_mem hm
    have : 0 < m.length := List.length_pos_of_mem hm
    rw [List.length_cons]
    omega

/-! ### marking -/
def HS.mark (S : HS) (k : Nat) : HS := if k ∈ S.old ∧ k ∉ S.marks then { S with marks := S.marks ++ [k], line := S.line ++ [k] } else S
def HS.markO (S : HS) : Option Nat → HS
  | none => S
  | some k => S.mark k
def HS.markAll (S : HS) (l : List (Option Nat)) : HS := l.foldl HS.markO S
/-- what is marked anew, in order -/
def ext (old : List Nat) : List Nat → List (Option Nat) → List Nat
  | _, [] => []
  | m, none :: r => ext old m r
  | m, some k :: r => if k ∈ old ∧ k ∉ m then k :: ext old (m ++ [k]) r else ext old m r
theorem markAll_eq : ∀ (l : List (Option Nat)) (S : HS), S.markAll l = { S with marks := S.marks ++ ext S.old S.marks l, line := S.line ++ ext S.old S.marks l }
  | [], S => by simp [HS.markAll, ext]
  | none :: r, S => by
    show S.markAll r = _
    rw [markAll_eq r S]
    rfl
  | some k :: r, S => by
    show (S.mark k).markAll r = _
    unfold HS.mark ext
    by_cases h : k ∈ S.old ∧ k ∉ S.marks
    · rw [if_pos h, if_pos h, markAll_eq r]
      simp
    · rw [if_neg h, if_neg h, markAll_eq r]
theorem mem_ext : ∀ (l : List (Option Nat)) (old m : List Nat) (k : Nat), k ∈ ext old m l ↔ some k ∈ l ∧ k ∈ old ∧ k ∉ m
  | [], old, m, k => by simp [ext]
  | none :: r, old, m, k => by
    unfold ext
    rw [mem_ext r old m k]
    simp
  | some j :: r, old, m, k => by
    unfold ext
    by_cases h : j ∈ old ∧ j ∉ m
    · rw [if_pos h, List.mem_cons, mem_ext r old (m ++ [j]) k]
      by_cases e : k = j
      · subst e
        simp [h.1, h.2]
      · simp [e]
    · rw [if_neg h, mem_ext r old m k]
      by_cases e : k = j
      · subst e
        constructor
        · exact fun ⟨a, b⟩ => ⟨List.mem_cons_of_mem _ a, b⟩
        · exact fun ⟨_, b⟩ => absurd b h
      · simp [e]
theorem nodup_ext : ∀ (l : List (Option Nat)) (old m : List Nat), (ext old m l).Nodup
  | [], _, _ => List.nodup_nil
  | none :: r, old, m => nodup_ext r old m
  | some j :: r, old, m => by
    unfold ext
    by_cases h : j ∈ old ∧ j ∉ m
    · rw [if_pos h]
      refine List.nodup_cons.mpr ⟨fun z => ?_, nodup_ext r old _⟩
      exact ((mem_ext r old (m ++ [j]) j).mp z).2.2 (by simp)
    · rw [if_neg h]
      exact nodup_ext r old m
theorem nodup_app {l m : List Nat} (h1 : l.Nodup) (h2 : m.Nodup) (h : ∀ k ∈ m, k ∉ l) : (l ++ m).Nodup :=
  List.nodup_append.mpr ⟨h1, h2, fun a ha b hb e => by subst e; exact h a hb ha⟩

/-! ### the deeds and the pieces -/
def HS.make (S : HS) (h n : Nat) : HS := { S with hands := S.hands.set h (some S.rows.length), rows := S.rows ++ [List.replicate n none], keys := S.keys ++ [S.rows.length] }
def HS.setHand (S : HS) (h : Nat) (x : Option Nat) : HS := { S with hands := S.hands.set h x }
def HS.hand (S : HS) (h : Nat) : Option Nat := S.hands.getD h none
def HS.slot (S : HS) (b s : Nat) : Option Nat := (S.row b).getD s none
def HS.take (S : HS) (h b s : Nat) : HS := S.setHand h (S.slot b s)
def HS.share (S : HS) (h o : Nat) : HS := S.setHand h (S.hand o)
def HS.drop (S : HS) (h : Nat) : HS := S.setHand h none
def HS.write (S : HS) (b s : Nat) (x : Option Nat) : HS := { S with rows := S.rows.set b ((S.row b).set s x) }
def HS.put (S : HS) (b s o : Nat) : HS := (if S.line = [] then S else S.markO (S.slot b s)).write b s (S.hand o)
open Classical in
noncomputable def reached (hands : List (Option Nat)) (rows : List Row) : List Nat := (List.range rows.length).filter fun k => decide (Rc hands rows k)
noncomputable def HS.began (S : HS) : HS := ({ S with unsw := S.keys, old := S.keys, marks := [], line := [], snap := reached S.hands S.rows } : HS).markAll S.hands
def HS.markOn (S : HS) : HS := match S.line with
  | [] => S
  | b :: r => ({ S with line := r } : HS).markAll (S.row b)
def HS.sweepOn (S : HS) : HS × Option Nat := match S.unsw with
  | [] => (S, none)
  | b :: r => if b ∈ S.marks then ({ S with unsw := r }, none) else ({ S with unsw := r, keys := S.keys.filter fun k => decide (k ≠ b) }, some b)
def HS.endRound (S : HS) : HS := { S with old := [], marks := [], snap := [], ended := S.ended + 1 }
def HS.ends (S : HS) : HS := if S.unsw = [] then S.endRound else S
noncomputable def HS.step (S : HS) : HS × Option Nat :=
  if S.line = [] then (if S.unsw = [] then (S.began, none) else S.sweepOn) else (S.markOn, none)
noncomputable def HS.piece (S : HS) : HS × Option Nat := (S.step.1.ends, S.step.2)
noncomputable def HS.work : Nat → HS → HS × List Nat
  | 0, S => (S, [])
  | n + 1, S => ((HS.work n S).1.piece.1, (HS.work n S).2 ++ (HS.work n S).1.piece.2.toList)
def HS.phase (S : HS) : String := if S.line = [] then (if S.unsw = [] then "idle" else "sweeping") else "marking"

/-! ### the invariant -/
def Live (S : HS) (k : Nat) : Prop := k ∈ S.keys ∧ (k ∈ S.old → k ∈ S.snap)
inductive Gp (S : HS) : Nat → Prop
  | grey {g w : Nat} (hg : g ∈ S.line) (hw : some w ∈ S.row g) (h1 : w ∈ S.snap) (h2 : w ∉ S.marks) : Gp S w
  | white {v w : Nat} (hv : Gp S v) (hw : some w ∈ S.row v) (h1 : w ∈ S.snap) (h2 : w ∉ S.marks) : Gp S w
structure Good0 (S : HS) : Prop where
  hn : 1 ≤ S.hands.length ∧ S.hands.length ≤ 8
  rm : 1 ≤ S.room ∧ S.room ≤ 1000
  few : S.keys.length ≤ S.room
  rise : S.keys.Pairwise (· < ·)
  lt : ∀ k ∈ S.keys, k < S.rows.length
  four : ∀ row ∈ S.rows, row.length ≤ 4
  hl : ∀ k, some k ∈ S.hands → Live S k
  cl : ∀ k, Live S k → ∀ j, some j ∈ S.row k → Live S j
  oldr : S.old.Pairwise (· < ·)
  oldn : S.old.length ≤ 1000
  olt : ∀ k ∈ S.old, k < S.rows.length
  mks : ∀ k ∈ S.marks, k ∈ S.snap
  mkn : S.marks.Nodup
  ln : ∀ k ∈ S.line, k ∈ S.marks
  lnn : S.line.Nodup
  so : ∀ k ∈ S.snap, k ∈ S.old ∧ k ∈ S.keys
  sr : S.snap.Pairwise (· < ·)
  us : ∀ k ∈ S.unsw, k ∈ S.old ∧ k ∈ S.keys
  ur : S.unsw.Pairwise (· < ·)
  ok : ∀ k ∈ S.keys, k ∈ S.old → k ∈ S.snap ∨ k ∈ S.unsw
  gp : ∀ k ∈ S.snap, k ∉ S.marks → Gp S k
  un : S.line ≠ [] → S.unsw = S.old
structure Good (S : HS) : Prop extends Good0 S where
  idle : S.line = [] → S.unsw = [] → S.old = [] ∧ S.marks = [] ∧ S.snap = []
theorem Gp.line {S : HS} {k : Nat} (h : Gp S k) : S.line ≠ [] := by
  induction h with
  | grey hg => exact List.ne_nil_of_mem hg
  | white _ _ _ _ ih => exact ih
theorem Gp.one {S : HS} {k : Nat} (h : Gp S k) : k ∈ S.snap ∧ k ∉ S.marks := by
  cases h with
  | grey _ _ a b => exact ⟨a, b⟩
  | white _ _ a b => exact ⟨a, b⟩
theorem Good0.all {S : HS} (G : Good0 S) (h : S.line = []) {k : Nat} (hk : k ∈ S.snap) : k ∈ S.marks := Decidable.byContradiction fun n => (G.gp k hk n).line h
theorem Good0.one {S : HS} {k : Nat} (G : Good0 S) (h : k ∈ S.line) : k ∈ S.keys := (G.so _ (G.mks _ (G.ln _ h))).2
theorem Good0.rc {S : HS} (G : Good0 S) {k : Nat} (h : Rc S.hands S.rows k) : Live S k := by
  induction h with
  | hand h => exact G.hl _ h
  | slot _ hj ih => exact G.cl _ ih _ hj
theorem Good0.keysn {S : HS} (G : Good0 S) : S.keys.length ≤ 1000 := Nat.le_trans G.few G.rm.2
theorem Good0.snapn {S : HS} (G : Good0 S) : S.snap.length ≤ 1000 := Nat.le_trans (nodup_sub _ _ (rising_nodup G.sr) fun k h => (G.so k h).1) G.oldn
theorem Good0.marksn {S : HS} (G : Good0 S) : S.marks.length ≤ 1000 := Nat.le_trans (nodup_sub _ _ G.mkn G.mks) G.snapn
theorem Good0.linen {S : HS} (G : Good0 S) : S.line.length ≤ 1000 := Nat.le_trans (nodup_sub _ _ G.lnn G.ln) G.marksn
theorem Good0.unswn {S : HS} (G : Good0 S) : S.unsw.length ≤ 1000 := Nat.le_trans (nodup_sub _ _ (rising_nodup G.ur) fun k h => (G.us k h).1) G.oldn
theorem Good0.row4 {S : HS} (G : Good0 S) (k : Nat) : (S.row k).length ≤ 4 := by
  by_cases h : k < S.rows.length
  · exact G.four _ (rowOf_mem h)
  · rw [show S.row k = [] from rowOf_ge (Nat.le_of_not_lt h)]
    exact Nat.zero_le _

/-- other hands, all of them live -/
theorem Good.withHands {S : HS} (G : Good S) {hs : List (Option Nat)} (hl : hs.length = S.hands.length) (h : ∀ k, some k ∈ hs → Live S k) : Good { S with hands := hs } :=
  have up : ∀ k, Gp S k → Gp { S with hands := hs } k := fun k g => by
    induction g with
    | grey a b c d => exact .grey (S := { S with hands := hs }) a b c d
    | white _ b c d ih => exact .white (S := { S with hands := hs }) ih b c d
  { hn := by show 1 ≤ hs.length ∧ _; rw [hl]; exact G.hn
    rm := G.rm
    few := G.few
    rise := G.rise
    lt := G.lt
    four := G.four
    hl := h
    cl := G.cl
    oldr := G.oldr
    oldn := G.oldn
    olt := G.olt
    mks := G.mks
    mkn := G.mkn
    ln := G.ln
    lnn := G.lnn
    so := G.so
    sr := G.sr
    us := G.us
    ur := G.ur
    ok := G.ok
    gp := fun k a b => up k (G.gp k a b)
    un := G.un
    idle := G.idle }
theorem mem_set {hs : List (Option Nat)} {h : Nat} {x y : Option Nat} (e : y ∈ hs.set h x) : y ∈ hs ∨ y = x := List.mem_or_eq_of_mem_set e
theorem Good.setHand {S : HS} (G : Good S) {h : Nat} {x : Option Nat} (hx : ∀ k, x = some k → Live S k) : Good (S.setHand h x) :=
  G.withHands (by rw [List.length_set]) fun k e => (mem_set e).elim (G.hl k) fun z => hx k z.symm
theorem getD_mem {l : List (Option Nat)} {i k : Nat} (h : l.getD i none = some k) : some k ∈ l := by
  rw [List.getD_eq_getElem?_getD] at h
  cases e : l[i]? with
  | none => rw [e] at h; exact absurd h (by simp)
  | some y => rw [e] at h; exact List.mem_of_getElem? (e.trans (congrArg some h))
theorem Good0.handLive {S : HS} (G : Good0 S) {h k : Nat} (e : S.hand h = some k) : Live S k := G.hl k (getD_mem e)
theorem Good0.slotLive {S : HS} (G : Good0 S) {b s k : Nat} (hb : Live S b) (e : S.slot b s = some k) : Live S k := G.cl b hb k (getD_mem e)
theorem Good.take {S : HS} (G : Good S) {h b s : Nat} (hb : Live S b) : Good (S.take h b s) := G.setHand fun k e => G.slotLive hb e
theorem Good.share {S : HS} (G : Good S) {h o : Nat} : Good (S.share h o) := G.setHand fun k e => G.handLive e
theorem Good.drop {S : HS} (G : Good S) {h : Nat} : Good (S.drop h) := G.setHand fun k e => nomatch e
theorem Good.make {S : HS} (G : Good S) {h n : Nat} (hn : n ≤ 4) (hr : S.keys.length < S.room) : Good (S.make h n) := by
  have hrow : ∀ k j, some j ∈ (S.make h n).row k ↔ some j ∈ S.row k := fun k j => by
    show some j ∈ rowOf (S.rows ++ [List.replicate n none]) k ↔ _
    rw [rowOf_push]
    by_cases e : k = S.rows.length
    · rw [if_pos e, e, show S.row S.rows.length = [] from rowOf_ge (Nat.le_refl _)]
      simp [List.mem_replicate]
    · rw [if_neg e]
  have up : ∀ k, Live S k → Live (S.make h n) k := fun k ⟨a, b⟩ => ⟨List.mem_append_left _ a, b⟩
  have nk : Live (S.make h n) S.rows.length := ⟨List.mem_append_right _ (List.mem_singleton.mpr rfl), fun z => absurd (G.olt _ z) (Nat.lt_irrefl _)⟩
  have dn : ∀ k, Live (S.make h n) k → Live S k ∨ k = S.rows.length := fun k ⟨a, b⟩ => by
    rcases List.mem_append.mp a with a | a
    · exact .inl ⟨a, b⟩
    · exact .inr (List.mem_singleton.mp a)
  have ug : ∀ k, Gp S k → Gp (S.make h n) k := fun k g => by
    induction g with
    | grey a b c d => exact .grey (S := S.make h n) a ((hrow _ _).mpr b) c d
    | white _ b c d ih => exact .white (S := S.make h n) ih ((hrow _ _).mpr b) c d
  have len : (S.make h n).rows.length = S.rows.length + 1 := by show (S.rows ++ [_]).length = _; rw [List.length_append]; rfl
  exact
  { hn := by show 1 ≤ (S.hands.set h _).length ∧ (S.hands.set h _).length ≤ 8; rw [List.length_set]; exact G.hn
    rm := G.rm
    few := by show (S.keys ++ [_]).length ≤ S.room; rw [List.length_append, List.length_singleton]; omega
    rise := List.pairwise_append.mpr ⟨G.rise, List.pairwise_singleton _ _, fun a ha b hb => by rw [List.mem_singleton] at hb; subst hb; exact G.lt a ha⟩
    lt := fun k hk => by
      rw [len]
      rcases List.mem_append.mp hk with hk | hk
      · have := G.lt k hk; omega
      · rw [List.mem_singleton] at hk; omega
    four := fun row hr => by
      rcases List.mem_append.mp hr with hr | hr
      · exact G.four row hr
      · rw [List.mem_singleton] at hr; subst hr; rw [List.length_replicate]; exact hn
    hl := fun k e => by
      rcases mem_set e with e | e
      · exact up k (G.hl k e)
      · cases e; exact nk
    cl := fun k hk j hj => by
      rw [hrow] at hj
      rcases dn k hk with hk | hk
      · exact up j (G.cl k hk j hj)
      · rw [hk, show S.row S.rows.length = [] from rowOf_ge (Nat.le_refl _)] at hj
        exact absurd hj (by simp)
    oldr := G.oldr
    oldn := G.oldn
    olt := fun k hk => by rw [len]; have := G.olt k hk; omega
    mks := G.mks
    mkn := G.mkn
    ln := G.ln
    lnn := G.lnn
    so := fun k hk => ⟨(G.so k hk).1, List.mem_append_left _ (G.so k hk).2⟩
    sr := G.sr
    us := fun k hk => ⟨(G.us k hk).1, List.mem_append_left _ (G.us k hk).2⟩
    ur := G.ur
    ok := fun k hk ho => by
      rcases List.mem_append.mp hk with hk | hk
      · exact G.ok k hk ho
      · rw [List.mem_singleton] at hk; subst hk; exact absurd (G.olt _ ho) (Nat.lt_irrefl _)
    gp := fun k a b => ug k (G.gp k a b)
    un := G.un
    idle := G.idle }
theorem Good.mark {S : HS} (G : Good S) (hL : S.line ≠ []) {k : Nat} (hk : Live S k) : Good (S.mark k) := by
  unfold HS.mark
  by_cases c : k ∈ S.old ∧ k ∉ S.marks
  · rw [if_pos c]
    have ks := hk.2 c.1
    generalize hS : ({ S with marks := S.marks ++ [k], line := S.line ++ [k] } : HS) = S'
    have eM : S'.marks = S.marks ++ [k] := by rw [← hS]
    have eL : S'.line = S.line ++ [k] := by rw [← hS]
    have up : ∀ w, Gp S w → w ≠ k → Gp S' w := fun w g => by
      induction g with
      | grey a b e d =>
        intro n
        refine .grey (by rw [eL]; exact List.mem_append_left _ a) (by rw [← hS]; exact b) (by rw [← hS]; exact e) (by rw [eM]; simp [d, n])
      | @white v w _ b e d ih =>
        intro n
        by_cases q : v = k
        · subst q
          exact .grey (g := v) (by rw [eL]; simp) (by rw [← hS]; exact b) (by rw [← hS]; exact e) (by rw [eM]; simp [d, n])
        · exact .white (ih q) (by rw [← hS]; exact b) (by rw [← hS]; exact e) (by rw [eM]; simp [d, n])
    have un : S'.unsw = S'.old := by rw [← hS]; exact G.un hL
    have nl : S'.line ≠ [] := by rw [eL]; simp
    subst hS
    exact
    { hn := G.hn, rm := G.rm, few := G.few, rise := G.rise, lt := G.lt, four := G.four, hl := G.hl, cl := G.cl, oldr := G.oldr, oldn := G.oldn, olt := G.olt
      mks := fun j hj => by
        rcases List.mem_append.mp hj with hj | hj
        · exact G.mks j hj
        · rw [List.mem_singleton] at hj; subst hj; exact ks
      mkn := nodup_app G.mkn (by simp) fun j hj => by rw [List.mem_singleton] at hj; subst hj; exact c.2
      ln := fun j hj => by
        rcases List.mem_append.mp hj with hj | hj
        · exact List.mem_append_left _ (G.ln j hj)
        · exact List.mem_append_right _ hj
      lnn := nodup_app G.lnn (by simp) fun j hj => by rw [List.mem_singleton] at hj; subst hj; exact fun z => c.2 (G.ln _ z)
      so := G.so, sr := G.sr, us := G.us, ur := G.ur, ok := G.ok
      gp := fun w a b => by
        have b' : w ∉ S.marks ∧ w ≠ k := by
          have : w ∉ S.marks ++ [k] := b
          simpa using this
        exact up w (G.gp w a b'.1) b'.2
      un := fun _ => un
      idle := fun e => absurd e nl }
  · rw [if_neg c]
    exact G
theorem Good.markO {S : HS} (G : Good S) (hL : S.line ≠ []) {o : Option Nat} (ho : ∀ k, o = some k → Live S k) : Good (S.markO o) := by
  cases o with
  | none => exact G
  | some k => exact G.mark hL (ho k rfl)
theorem mem_row_set {r : Row} {s j : Nat} {x : Option Nat} (h : some j ∈ r.set s x) : some j ∈ r ∨ x = some j := (mem_set h).imp id Eq.symm
theorem mem_row_keep {r : Row} {s j : Nat} {x : Option Nat} (h : some j ∈ r) (n : r.getD s none ≠ some j) : some j ∈ r.set s x := by
  obtain ⟨i, hi⟩ := List.getElem?_of_mem h
  refine List.mem_of_getElem? (i := i) ?_
  rw [List.getElem?_set]
  by_cases e : s = i
  · subst e
    exact absurd (by rw [List.getD_eq_getElem?_getD, hi]; rfl) n
  · rw [if_neg e]
    exact hi
theorem Good.write {S : HS} (G : Good S) {b s : Nat} {x : Option Nat} (hb : Live S b) (hx : ∀ k, x = some k → Live S k) (hc : S.line ≠ [] → ∀ k, S.slot b s = some k → k ∈ S.old → k ∈ S.marks) : Good (S.write b s x) := by
  have bl := G.lt b hb.1
  have hrow : ∀ k, (S.write b s x).row k = if k = b then (S.row b).set s x else S.row k := fun k => rowOf_set k bl
  have len : (S.write b s x).rows.length = S.rows.length := by show (S.rows.set b _).length = _; rw [List.length_set]
  have keep : ∀ g w, some w ∈ S.row g → w ∈ S.snap → w ∉ S.marks → S.line ≠ [] → some w ∈ (S.write b s x).row g := fun g w hw h1 h2 hl => by
    rw [hrow]
    by_cases e : g = b
    · rw [if_pos e]
      subst e
      exact mem_row_keep hw fun z => h2 (hc hl w z (G.so w h1).1)
    · rw [if_neg e]
      exact hw
  have up : ∀ w, Gp S w → Gp (S.write b s x) w := fun w g => by
    have hl := g.line
    induction g with
    | grey a c d e => exact .grey (S := S.write b s x) a (keep _ _ c d e hl) d e
    | white _ c d e ih => exact .white (S := S.write b s x) ih (keep _ _ c d e hl) d e
  exact
  { hn := G.hn, rm := G.rm, few := G.few, rise := G.rise
    lt := fun k hk => by rw [len]; exact G.lt k hk
    four := fun row hr => by
      rcases List.mem_or_eq_of_mem_set hr with hr | hr
      · exact G.four row hr
      · subst hr; rw [List.length_set]; exact G.row4 b
    hl := G.hl
    cl := fun k hk j hj => by
      rw [hrow] at hj
      by_cases e : k = b
      · rw [if_pos e] at hj
        rcases mem_row_set hj with hj | hj
        · exact G.cl b hb j hj
        · exact hx j hj
      · rw [if_neg e] at hj
        exact G.cl k hk j hj
    oldr := G.oldr, oldn := G.oldn
    olt := fun k hk => by rw [len]; exact G.olt k hk
    mks := G.mks, mkn := G.mkn, ln := G.ln, lnn := G.lnn, so := G.so, sr := G.sr, us := G.us, ur := G.ur, ok := G.ok
    gp := fun k a c => up k (G.gp k a c)
    un := G.un, idle := G.idle }
theorem mark_fields (S : HS) (k : Nat) : (S.mark k).hands = S.hands ∧ (S.mark k).rows = S.rows ∧ (S.mark k).keys = S.keys ∧ (S.mark k).old = S.old ∧ (S.mark k).snap = S.snap ∧ (S.mark k).unsw = S.unsw ∧ (S.mark k).ended = S.ended ∧ (S.mark k).room = S.room := by
  unfold HS.mark
  split <;> exact ⟨rfl, rfl, rfl, rfl, rfl, rfl, rfl, rfl⟩
theorem markO_fields (S : HS) (k : Option Nat) : (S.markO k).hands = S.hands ∧ (S.markO k).rows = S.rows ∧ (S.markO k).keys = S.keys ∧ (S.markO k).old = S.old ∧ (S.markO k).snap = S.snap ∧ (S.markO k).unsw = S.unsw ∧ (S.markO k).ended = S.ended ∧ (S.markO k).room = S.room := by
  cases k with
  | none => exact ⟨rfl, rfl, rfl, rfl, rfl, rfl, rfl, rfl⟩
  | some k => exact mark_fields S k
theorem Good.put {S : HS} (G : Good S) {b s o : Nat} (hb : Live S b) : Good (S.put b s o) := by
  unfold HS.put
  by_cases hL : S.line = []
  · rw [if_pos hL]
    exact G.write hb (fun k e => G.handLive e) fun n => absurd hL n
  · rw [if_neg hL]
    have G2 : Good (S.markO (S.slot b s)) := G.markO hL fun k e => G.slotLive hb e
    obtain ⟨f1, f2, f3, f4, f5, f6, f7, f8⟩ := markO_fields S (S.slot b s)
    have live : ∀ k, Live S k → Live (S.markO (S.slot b s)) k := fun k ⟨a, c⟩ => ⟨by rw [f3]; exact a, by rw [f4, f5]; exact c⟩
    refine G2.write (live b hb) (fun k e => live k (G.handLive e)) fun _ k e ho => ?_
    have e' : S.slot b s = some k := by
      have : (S.markO (S.slot b s)).slot b s = S.slot b s := congrArg (fun z => (rowOf z b).getD s none) f2
      rw [← this]; exact e
    rw [f4] at ho
    rw [e']
    show k ∈ (S.mark k).marks
    unfold HS.mark
    by_cases c : k ∈ S.old ∧ k ∉ S.marks
    · rw [if_pos c]; exact List.mem_append_right _ (List.mem_singleton.mpr rfl)
    · rw [if_neg c]; exact Decidable.byContradiction fun z => c ⟨ho, z⟩

/-! ### the pieces keep it -/
theorem Good0.ends {S : HS} (G : Good0 S) : Good S.ends := by
  unfold HS.ends
  by_cases hu : S.unsw = []
  · rw [if_pos hu]
    have hl : S.line = [] := Decidable.byContradiction fun n => by
      have e := G.un n
      rw [hu] at e
      obtain ⟨k, r, ek⟩ := List.exists_cons_of_ne_nil n
      have := (G.so _ (G.mks _ (G.ln k (by rw [ek]; exact List.mem_cons_self)))).1
      rw [← e] at this
      exact absurd this (by simp)
    have live : ∀ k, Live S k ↔ k ∈ S.keys := fun k => ⟨fun h => h.1, fun h => ⟨h, fun ho => (G.ok k h ho).resolve_right (by rw [hu]; simp)⟩⟩
    have live' : ∀ k, Live S.endRound k ↔ k ∈ S.keys := fun k => ⟨fun h => h.1, fun h => ⟨h, fun ho => absurd ho (show k ∉ ([] : List Nat) by simp)⟩⟩
    exact
    { hn := G.hn, rm := G.rm, few := G.few, rise := G.rise, lt := G.lt, four := G.four
      hl := fun k e => (live' k).mpr ((live k).mp (G.hl k e))
      cl := fun k hk j hj => (live' j).mpr ((live j).mp (G.cl k ((live k).mpr ((live' k).mp hk)) j hj))
      oldr := List.Pairwise.nil
      oldn := Nat.zero_le _
      olt := fun k hk => absurd hk (show k ∉ ([] : List Nat) by simp)
      mks := fun k hk => absurd hk (show k ∉ ([] : List Nat) by simp)
      mkn := List.nodup_nil
      ln := fun k hk => by
        have hk : k ∈ S.line := hk
        rw [hl] at hk
        exact absurd hk (by simp)
      lnn := G.lnn
      so := fun k hk => absurd hk (show k ∉ ([] : List Nat) by simp)
      sr := List.Pairwise.nil
      us := fun k hk => by
        have hk : k ∈ S.unsw := hk
        rw [hu] at hk
        exact absurd hk (by simp)
      ur := G.ur
      ok := fun k _ ho => absurd ho (show k ∉ ([] : List Nat) by simp)
      gp := fun k hk => absurd hk (show k ∉ ([] : List Nat) by simp)
      un := fun n => absurd hl n
      idle := fun _ _ => ⟨rfl, rfl, rfl⟩ }
  · rw [if_neg hu]
    exact { toGood0 := G, idle := fun _ e => absurd e hu }
open Classical in
theorem mem_reached {hands : List (Option Nat)} {rows : List Row} {k : Nat} (h : Rc hands rows k → k < rows.length) : k ∈ reached hands rows ↔ Rc hands rows k := by
  unfold reached
  rw [List.mem_filter, decide_eq_true_eq, List.mem_range]
  exact ⟨fun z => z.2, fun z => ⟨h z, z⟩⟩
theorem reached_rise (hands : List (Option Nat)) (rows : List Row) : (reached hands rows).Pairwise (· < ·) := List.Pairwise.filter _ List.pairwise_lt_range
theorem Good.idle_live {S : HS} (G : Good S) (hl : S.line = []) (hu : S.unsw = []) (k : Nat) : Live S k ↔ k ∈ S.keys :=
  ⟨fun h => h.1, fun h => ⟨h, fun ho => by rw [(G.idle hl hu).1] at ho; exact absurd ho (by simp)⟩⟩
theorem Good.snap_began {S : HS} (G : Good S) (k : Nat) : k ∈ reached S.hands S.rows ↔ Rc S.hands S.rows k := mem_reached fun h => G.lt k (G.rc h).1
theorem began_eq (S : HS) : S.began = { S with unsw := S.keys, old := S.keys, marks := ext S.keys [] S.hands, line := ext S.keys [] S.hands, snap := reached S.hands S.rows } := by
  unfold HS.began
  rw [markAll_eq]
  simp
theorem Good.began {S : HS} (G : Good S) (hl : S.line = []) (hu : S.unsw = []) : Good0 S.began := by
  rw [began_eq]
  have lk := G.idle_live hl hu
  have mE : ∀ k, k ∈ ext S.keys [] S.hands ↔ some k ∈ S.hands := fun k => by
    rw [mem_ext]
    exact ⟨fun z => z.1, fun z => ⟨z, (G.hl k z).1, by simp⟩⟩
  generalize hS : ({ S with unsw := S.keys, old := S.keys, marks := ext S.keys [] S.hands, line := ext S.keys [] S.hands, snap := reached S.hands S.rows } : HS) = S'
  have ms : ∀ k, k ∈ S'.snap ↔ Rc S.hands S.rows k := fun k => by rw [← hS]; exact G.snap_began k
  have lv : ∀ k, Rc S.hands S.rows k → Live S' k := fun k h => ⟨by rw [← hS]; exact (G.rc h).1, fun _ => (ms k).mpr h⟩
  have vl : ∀ k, Live S' k → Rc S.hands S.rows k := fun k h => (ms k).mp (h.2 (by rw [← hS]; have := h.1; rw [← hS] at this; exact this))
  have gp : ∀ k, Rc S.hands S.rows k → k ∉ S'.marks → Gp S' k := fun k h => by
    induction h with
    | hand h => exact fun n => absurd (by rw [← hS]; exact (mE _).mpr h) n
    | @slot v w hv hj ih =>
      intro n
      have ws := (ms w).mpr (.slot hv hj)
      by_cases q : v ∈ S'.marks
      · exact .grey (g := v) (by rw [← hS] at q ⊢; exact q) (by rw [← hS]; exact hj) ws n
      · exact .white (ih q) (by rw [← hS]; exact hj) ws n
  have sm : ∀ k ∈ S'.marks, k ∈ S'.snap := fun k hk => (ms k).mpr (.hand ((mE k).mp (by rw [← hS] at hk; exact hk)))
  have hl' : ∀ k, some k ∈ S'.hands → Live S' k := fun k e => lv k (.hand (by rw [← hS] at e; exact e))
  have cl' : ∀ k, Live S' k → ∀ j, some j ∈ S'.row k → Live S' j := fun k hk j hj => lv j (.slot (vl k hk) (by rw [← hS] at hj; exact hj))
  have so' : ∀ k ∈ S'.snap, k ∈ S'.old ∧ k ∈ S'.keys := fun k hk => by
    have := (G.rc ((ms k).mp hk)).1
    rw [← hS]
    exact ⟨this, this⟩
  have gp' : ∀ k ∈ S'.snap, k ∉ S'.marks → Gp S' k := fun k a b => gp k ((ms k).mp a) b
  subst hS
  exact
  { hn := G.hn, rm := G.rm, few := G.few, rise := G.rise, lt := G.lt, four := G.four
    hl := hl', cl := cl', oldr := G.rise, oldn := G.keysn, olt := G.lt
    mks := sm, mkn := nodup_ext _ _ _, ln := fun k hk => hk, lnn := nodup_ext _ _ _
    so := so', sr := reached_rise _ _, us := fun k hk => ⟨hk, hk⟩, ur := G.rise, ok := fun k _ ho => .inr ho
    gp := gp', un := fun _ => rfl }
theorem Good.markOn {S : HS} (G : Good S) (hL : S.line ≠ []) : Good0 S.markOn := by
  obtain ⟨b, r, eL⟩ := List.exists_cons_of_ne_nil hL
  have eM : S.markOn = { S with marks := S.marks ++ ext S.old S.marks (S.row b), line := r ++ ext S.old S.marks (S.row b) } := by
    unfold HS.markOn
    rw [eL]
    show HS.markAll _ _ = _
    rw [markAll_eq]
  have hm := mem_ext (S.row b) S.old S.marks
  have hb := G.ln b (by rw [eL]; exact List.mem_cons_self)
  have bl : Live S b := ⟨(G.so b (G.mks b hb)).2, fun _ => G.mks b hb⟩
  have un := G.un hL
  rw [eM]
  generalize hS : ({ S with marks := S.marks ++ ext S.old S.marks (S.row b), line := r ++ ext S.old S.marks (S.row b) } : HS) = S'
  have gp : ∀ w, Gp S w → w ∉ S'.marks → Gp S' w := fun w g => by
    induction g with
    | @grey g w a c d e =>
      intro n
      rw [eL] at a
      rcases List.mem_cons.mp a with a | a
      · subst a
        exact absurd (by rw [← hS]; exact List.mem_append_right _ ((hm w).mpr ⟨c, (G.so w d).1, e⟩)) n
      · exact .grey (g := g) (by rw [← hS]; exact List.mem_append_left _ a) (by rw [← hS]; exact c) (by rw [← hS]; exact d) n
    | @white v w hv c d e ih =>
      intro n
      by_cases q : v ∈ S'.marks
      · have : v ∈ ext S.old S.marks (S.row b) := by
          rw [← hS] at q
          exact (List.mem_append.mp q).resolve_left hv.one.2
        exact .grey (g := v) (by rw [← hS]; exact List.mem_append_right _ this) (by rw [← hS]; exact c) (by rw [← hS]; exact d) n
      · exact .white (ih q) (by rw [← hS]; exact c) (by rw [← hS]; exact d) n
  have gp' : ∀ k ∈ S'.snap, k ∉ S'.marks → Gp S' k := fun k a c => gp k (G.gp k (by rw [← hS] at a; exact a) fun z => c (by rw [← hS]; exact List.mem_append_left _ z)) c
  subst hS
  exact
  { hn := G.hn, rm := G.rm, few := G.few, rise := G.rise, lt := G.lt, four := G.four, hl := G.hl, cl := G.cl, oldr := G.oldr, oldn := G.oldn, olt := G.olt
    mks := fun k hk => by
      rcases List.mem_append.mp hk with hk | hk
      · exact G.mks k hk
      · obtain ⟨a, c, _⟩ := (hm k).mp hk
        exact (G.cl b bl k a).2 c
    mkn := nodup_app G.mkn (nodup_ext _ _ _) fun k hk => ((hm k).mp hk).2.2
    ln := fun k hk => by
      rcases List.mem_append.mp hk with hk | hk
      · exact List.mem_append_left _ (G.ln k (by rw [eL]; exact List.mem_cons_of_mem _ hk))
      · exact List.mem_append_right _ hk
    lnn := by
      have nd := G.lnn
      rw [eL] at nd
      exact nodup_app (List.nodup_cons.mp nd).2 (nodup_ext _ _ _) fun k hk z => ((hm k).mp hk).2.2 (G.ln k (by rw [eL]; exact List.mem_cons_of_mem _ z))
    so := G.so, sr := G.sr, us := G.us, ur := G.ur, ok := G.ok, gp := gp', un := fun _ => un }
theorem Good.sweepOn {S : HS} (G : Good S) (hl : S.line = []) : Good0 S.sweepOn.1 := by
  unfold HS.sweepOn
  cases eU : S.unsw with
  | nil => exact G.toGood0
  | cons b r =>
    have hb := G.us b (by rw [eU]; exact List.mem_cons_self)
    have ur := G.ur
    rw [eU] at ur
    have nb : b ∉ r := fun z => by
      have := (List.pairwise_cons.mp ur).1 b z
      omega
    dsimp only
    by_cases c : b ∈ S.marks
    · rw [if_pos c]
      have gp : ∀ k ∈ S.snap, k ∉ S.marks → Gp { S with unsw := r } k := fun k a n => absurd (G.all hl a) n
      exact
      { hn := G.hn, rm := G.rm, few := G.few, rise := G.rise, lt := G.lt, four := G.four, hl := G.hl, cl := G.cl, oldr := G.oldr, oldn := G.oldn, olt := G.olt, mks := G.mks, mkn := G.mkn, ln := G.ln, lnn := G.lnn, so := G.so, sr := G.sr
        us := fun k hk => G.us k (by rw [eU]; exact List.mem_cons_of_mem _ hk)
        ur := (List.pairwise_cons.mp ur).2
        ok := fun k hk ho => by
          rcases G.ok k hk ho with z | z
          · exact .inl z
          · rw [eU] at z
            rcases List.mem_cons.mp z with z | z
            · subst z; exact .inl (G.mks _ c)
            · exact .inr z
        gp := gp
        un := fun n => absurd hl n }
    · rw [if_neg c]
      have ns : b ∉ S.snap := fun z => c (G.all hl z)
      generalize hS : ({ S with unsw := r, keys := S.keys.filter fun k => decide (k ≠ b) } : HS) = S'
      have mk : ∀ k, k ∈ S'.keys ↔ k ∈ S.keys ∧ k ≠ b := fun k => by rw [← hS]; simp [List.mem_filter]
      have lv : ∀ k, Live S k ↔ Live S' k := fun k => by
        constructor
        · rintro ⟨a, d⟩
          refine ⟨(mk k).mpr ⟨a, fun e => ns (by subst e; exact d hb.1)⟩, by rw [← hS]; exact d⟩
        · rintro ⟨a, d⟩
          exact ⟨((mk k).mp a).1, by rw [← hS] at d; exact d⟩
      have few : S'.keys.length ≤ S'.room := by rw [← hS]; exact Nat.le_trans (List.length_filter_le _ _) G.few
      have rise : S'.keys.Pairwise (· < ·) := by rw [← hS]; exact G.rise.filter _
      have so : ∀ k ∈ S'.snap, k ∈ S'.old ∧ k ∈ S'.keys := fun k hk => by
        have hk : k ∈ S.snap := by rw [← hS] at hk; exact hk
        refine ⟨by rw [← hS]; exact (G.so k hk).1, (mk k).mpr ⟨(G.so k hk).2, fun e => ns (e ▸ hk)⟩⟩
      have us : ∀ k ∈ S'.unsw, k ∈ S'.old ∧ k ∈ S'.keys := fun k hk => by
        have hk : k ∈ r := by rw [← hS] at hk; exact hk
        have := G.us k (by rw [eU]; exact List.mem_cons_of_mem _ hk)
        exact ⟨by rw [← hS]; exact this.1, (mk k).mpr ⟨this.2, fun e => nb (e ▸ hk)⟩⟩
      have ok : ∀ k ∈ S'.keys, k ∈ S'.old → k ∈ S'.snap ∨ k ∈ S'.unsw := fun k hk ho => by
        obtain ⟨a, d⟩ := (mk k).mp hk
        have := G.ok k a (by rw [← hS] at ho; exact ho)
        rw [eU] at this
        rw [← hS]
        rcases this with z | z
        · exact .inl z
        · exact .inr ((List.mem_cons.mp z).resolve_left d)
      have gp : ∀ k ∈ S'.snap, k ∉ S'.marks → Gp S' k := fun k a n => absurd (by rw [← hS] at a ⊢; exact G.all hl a) n
      have hl' : ∀ k, some k ∈ S'.hands → Live S' k := fun k e => (lv k).mp (G.hl k (by rw [← hS] at e; exact e))
      have cl' : ∀ k, Live S' k → ∀ j, some j ∈ S'.row k → Live S' j := fun k hk j hj => (lv j).mp (G.cl k ((lv k).mpr hk) j (by rw [← hS] at hj; exact hj))
      have lt' : ∀ k ∈ S'.keys, k < S'.rows.length := fun k hk => by
        have := G.lt k ((mk k).mp hk).1
        rw [← hS]; exact this
      subst hS
      exact
      { hn := G.hn, rm := G.rm, few := few, rise := rise, lt := lt', four := G.four, hl := hl', cl := cl', oldr := G.oldr, oldn := G.oldn, olt := G.olt, mks := G.mks, mkn := G.mkn, ln := G.ln, lnn := G.lnn, so := so, sr := G.sr
        us := us, ur := (List.pairwise_cons.mp ur).2, ok := ok, gp := gp, un := fun n => absurd hl n }
theorem Good.step {S : HS} (G : Good S) : Good0 S.step.1 := by
  unfold HS.step
  by_cases hl : S.line = []
  · rw [if_pos hl]
    by_cases hu : S.unsw = []
    · rw [if_pos hu]
      exact G.began hl hu
    · rw [if_neg hu]
      exact G.sweepOn hl
  · rw [if_neg hl]
    exact G.markOn hl
theorem Good.piece {S : HS} (G : Good S) : Good S.piece.1 := G.step.ends
theorem Good.work {S : HS} (G : Good S) : ∀ n, Good (HS.work n S).1
  | 0 => G
  | n + 1 => (Good.work G n).piece
def HS.new (hands room : Nat) : HS := ⟨List.replicate hands none, room, [], [], 0, [], [], [], [], []⟩
theorem Good.new {n r : Nat} (h : 1 ≤ n ∧ n ≤ 8) (hr : 1 ≤ r ∧ r ≤ 1000) : Good (HS.new n r) :=
  have no : ∀ k, k ∉ ([] : List Nat) := fun k => by simp
  { hn := by show 1 ≤ (List.replicate n none).length ∧ (List.replicate n none).length ≤ 8; rw [List.length_replicate]; exact h
    rm := hr, few := Nat.zero_le _, rise := .nil, lt := fun k z => absurd z (no k)
    four := fun r z => absurd z (show r ∉ ([] : List Row) by simp)
    hl := fun k z => absurd (List.eq_of_mem_replicate z) (by simp)
    cl := fun k z => absurd z.1 (no k)
    oldr := .nil, oldn := Nat.zero_le _, olt := fun k z => absurd z (no k), mks := fun k z => absurd z (no k), mkn := .nil, ln := fun k z => absurd z (no k), lnn := .nil
    so := fun k z => absurd z (no k), sr := .nil, us := fun k z => absurd z (no k), ur := .nil, ok := fun k z => absurd z (no k), gp := fun k z => absurd z (no k), un := fun _ => rfl
    idle := fun _ _ => ⟨rfl, rfl, rfl⟩ }
end MM

set_option Elab.async false
set_option linter.all false
set_option maxRecDepth 100000
set_option maxHeartbeats 4000000
/-! How a heap of the program stands in memory: its objects by slots, what is its own (foot), and what a store does to it. -/
namespace MP
open PySem PySem.Spec PyProof.Rows L2 MM KG
def optV : Option Nat → V
  | none => .non
  | some k => .int (k : Int)
def nV (k : Nat) : V := .int (k : Int)
def kK (k : Nat) : Key := Sum.inl (k : Int)
structure Raw where
  hands : List (Option Nat)
  room : Nat
  keys : List Nat
  row : Nat → MM.Row
  made : Nat
  ended : Nat
  old : List Nat
  marks : List Nat
  line : List Nat
  unsw : List Nat
def raw (S : HS) : Raw := ⟨S.hands, S.room, S.keys, S.row, S.rows.length, S.ended, S.old, S.marks, S.line, S.unsw⟩
inductive Sl
  | ob | hands | rows | old | marks | line | unsw | row (k : Nat)
  deriving DecidableEq
structure HA where
  dx : Addr
  f : Sl → Addr
def HA.mv (A : HA) (s : Sl) (q : Addr) : HA := ⟨A.dx, fun t => if t = s then q else A.f t⟩
def fl (a b c d e f g h i : V) : List (Str × V) := [("_hands", a), ("_room", b), ("_rows", c), ("_made", d), ("_ended", e), ("_old", f), ("_marks", g), ("_line", h), ("_unswept", i)]
section
variable (a b c d e f g h i y : V)
theorem fl_hands : (fl a b c d e f g h i).lookup ("_hands" : Str) = some a := by rfl
theorem fl_room : (fl a b c d e f g h i).lookup ("_room" : Str) = some b := by rfl
theorem fl_rows : (fl a b c d e f g h i).lookup ("_rows" : Str) = some c := by rfl
theorem fl_made : (fl a b c d e f g h i).lookup ("_made" : Str) = some d := by rfl
theorem fl_ended : (fl a b c d e f g h i).lookup ("_ended" : Str) = some e := by rfl
theorem fl_old : (fl a b c d e f g h i).lookup ("_old" : Str) = some f := by rfl
theorem fl_marks : (fl a b c d e f g h i).lookup ("_marks" : Str) = some g := by rfl
theorem fl_line : (fl a b c d e f g h i).lookup ("_line" : Str) = some h := by rfl
theorem fl_unsw : (fl a b c d e f g h i).lookup ("_unswept" : Str) = some i := by rfl
theorem fl_pmade : putF "_made" y (fl a b c d e f g h i) = fl a b c y e f g h i := by rfl
theorem fl_pended : putF "_ended" y (fl a b c d e f g h i) = fl a b c d y f g h i := by rfl
theorem fl_pold : putF "_old" y (fl a b c d e f g h i) = fl a b c d e y g h i := by rfl
theorem fl_pmarks : putF "_marks" y (fl a b c d e f g h i) = fl a b c d e f y h i := by rfl
theorem fl_punsw : putF "_unswept" y (fl a b c d e f g h i) = fl a b c d e f g h y := by rfl
end
def flds (A : HA) (R : Raw) : List (Str × V) := fl (.ref (A.f .hands)) (.int R.room) (.ref (A.f .rows)) (.int R.made) (.int R.ended) (.ref (A.f .old)) (.ref (A.f .marks)) (.ref (A.f .line)) (.ref (A.f .unsw))
def dRows (A : HA) (R : Raw) : List (Key × V) := R.keys.map fun k => (kK k, V.ref (A.f (.row k)))
def dTrue (l : List Nat) : List (Key × V) := l.map fun k => (kK k, V.bl true)
def cont (C : Addr) (A : HA) (R : Raw) : Sl → HO
  | .ob => .ins C A.dx (flds A R)
  | .hands => .lst (R.hands.map optV)
  | .rows => .dK (dRows A R)
  | .old => .dK (dTrue R.old)
  | .marks => .dK (dTrue R.marks)
  | .line => .lst (R.line.map nV)
  | .unsw => .lst (R.unsw.map nV)
  | .row k => .lst ((R.row k).map optV)
def Sl.on (R : Raw) : Sl → Prop
  | .row k => k ∈ R.keys
  | _ => True
structure HAt (C : Addr) (H : Hp) (p : Addr) (A : HA) (R : Raw) : Prop where
  p0 : A.f .ob = p
  at_ : ∀ s, s.on R → H (A.f s) = some (cont C A R s)
  inj : ∀ s t, s.on R → t.on R → A.f s = A.f t → s = t
def foot (A : HA) (R : Raw) (b : Addr) : Prop := ∃ s, s.on R ∧ A.f s = b
/-- what is not its own stays, and does not become its own -/
def Frm (H : Hp) (F : Addr → Prop) (H' : Hp) (F' : Addr → Prop) : Prop := ∀ b o, H b = some o → ¬ F b → H' b = some o ∧ ¬ F' b
theorem Frm.refl (H : Hp) (F : Addr → Prop) : Frm H F H F := fun _ _ h n => ⟨h, n⟩
theorem Frm.trans {H H1 H2 : Hp} {F F1 F2 : Addr → Prop} (a : Frm H F H1 F1) (b : Frm H1 F1 H2 F2) : Frm H F H2 F2 := fun c o h n => let ⟨x, y⟩ := a c o h n; b c o x y
theorem Frm.same {H H1 H2 : Hp} {F F1 : Addr → Prop} (a : Frm H F H1 F1) (b : Same H1 H2) : Frm H F H2 F1 := fun c o h n => let ⟨x, y⟩ := a c o h n; ⟨b c o x, y⟩
theorem Frm.put {H H1 : Hp} {F F1 : Addr → Prop} (a : Frm H F H1 F1) {q : Addr} {o : HO} (hq : F1 q) : Frm H F (upd H1 q o) F1 := fun c o' h n => by
  obtain ⟨x, y⟩ := a c o' h n
  refine ⟨?_, y⟩
  rw [upd_ne fun (e : c = q) => y (e ▸ hq)]
  exact x
/-- F1 grows by a place that was free at first -/
theorem Frm.grow {H H1 : Hp} {F F1 F2 : Addr → Prop} (a : Frm H F H1 F1) {q : Addr} (hq : H q = none) (h : ∀ b, F2 b → F1 b ∨ b = q) : Frm H F H1 F2 := fun c o' e n => by
  obtain ⟨x, y⟩ := a c o' e n
  refine ⟨x, fun z => ?_⟩
  rcases h c z with z | z
  · exact y z
  · subst z; rw [hq] at e; cases e
theorem Frm.free {H H1 : Hp} {F F1 : Addr → Prop} (a : Frm H F H1 F1) {q : Addr} (hq : H1 q = none) (n : ¬ F q) : H q = none := by
  cases e : H q with
  | none => rfl
  | some o => rw [(a q o e n).1] at hq; cases hq
section
variable {C p : Addr} {H H' : Hp} {A : HA} {R : Raw}
theorem HAt.foot_at (h : HAt C H p A R) {b : Addr} (n : foot A R b) : ∃ o, H b = some o := by
  obtain ⟨s, hs, rfl⟩ := n
  exact ⟨_, h.at_ s hs⟩
theorem HAt.fresh (h : HAt C H p A R) {q : Addr} (hq : H q = none) : ¬ foot A R q := fun n => by
  obtain ⟨o, e⟩ := h.foot_at n
  rw [hq] at e; cases e
theorem HAt.keep (h : HAt C H p A R) (k : ∀ b o, H b = some o → foot A R b → H' b = some o) : HAt C H' p A R := ⟨h.p0, fun s hs => k _ _ (h.at_ s hs) ⟨s, hs, rfl⟩, h.inj⟩
theorem HAt.same (h : HAt C H p A R) (s : Same H H') : HAt C H' p A R := h.keep fun b o e _ => s b o e
theorem HAt.out (h : HAt C H p A R) {q : Addr} {o : HO} (n : ¬ foot A R q) : HAt C (upd H q o) p A R := h.keep fun b o' e f => by
  rw [upd_ne fun (z : b = q) => n (z ▸ f)]
  exact e
theorem HAt.ob (h : HAt C H p A R) : H p = some (.ins C A.dx (flds A R)) := by
  have := h.at_ .ob trivial
  rw [h.p0] at this
  exact this
theorem HAt.hands (h : HAt C H p A R) : H (A.f .hands) = some (.lst (R.hands.map optV)) := h.at_ .hands trivial
theorem HAt.rows (h : HAt C H p A R) : H (A.f .rows) = some (.dK (dRows A R)) := h.at_ .rows trivial
theorem HAt.old (h : HAt C H p A R) : H (A.f .old) = some (.dK (dTrue R.old)) := h.at_ .old trivial
theorem HAt.marks (h : HAt C H p A R) : H (A.f .marks) = some (.dK (dTrue R.marks)) := h.at_ .marks trivial
theorem HAt.line (h : HAt C H p A R) : H (A.f .line) = some (.lst (R.line.map nV)) := h.at_ .line trivial
theorem HAt.unsw (h : HAt C H p A R) : H (A.f .unsw) = some (.lst (R.unsw.map nV)) := h.at_ .unsw trivial
theorem HAt.row (h : HAt C H p A R) {k : Nat} (hk : k ∈ R.keys) : H (A.f (.row k)) = some (.lst ((R.row k).map optV)) := h.at_ (.row k) hk
theorem HAt.foot_on (h : HAt C H p A R) {s : Sl} (hs : s.on R) : foot A R (A.f s) := ⟨s, hs, rfl⟩
theorem HAt.foot_p (h : HAt C H p A R) : foot A R p := ⟨.ob, trivial, h.p0⟩
/-- one slot's content is stored anew -/
theorem HAt.put (h : HAt C H p A R) (s : Sl) (hs : s.on R) (R' : Raw) (o : HO) (ho : cont C A R' s = o) (hon : R'.keys = R.keys) (hc : ∀ t, t ≠ s → cont C A R' t = cont C A R t) : HAt C (upd H (A.f s) o) p A R' := by
  have on : ∀ t : Sl, t.on R' ↔ t.on R := fun t => by
    cases t with
    | row k => show k ∈ R'.keys ↔ k ∈ R.keys; rw [hon]
    | _ => exact Iff.rfl
  refine ⟨h.p0, fun t ht => ?_, fun t u a b e => h.inj t u ((on t).mp a) ((on u).mp b) e⟩
  by_cases e : t = s
  · subst e
    rw [upd_same, ho]
  · rw [upd_ne fun z => e (h.inj t s ((on t).mp ht) hs z), hc t e]
    exact h.at_ t ((on t).mp ht)
theorem foot_eq {A : HA} {R R' : Raw} (hon : R'.keys = R.keys) : foot A R' = foot A R := by
  funext b
  refine propext ⟨fun ⟨t, ht, e⟩ => ⟨t, ?_, e⟩, fun ⟨t, ht, e⟩ => ⟨t, ?_, e⟩⟩
  · cases t with
    | row k => show k ∈ R.keys; rw [← hon]; exact ht
    | _ => trivial
  · cases t with
    | row k => show k ∈ R'.keys; rw [hon]; exact ht
    | _ => trivial
theorem HAt.pHands (h : HAt C H p A R) (hs : List (Option Nat)) : HAt C (upd H (A.f .hands) (.lst (hs.map optV))) p A { R with hands := hs } :=
  h.put .hands trivial _ _ rfl rfl fun t e => by cases t <;> first | rfl | exact absurd rfl e
theorem HAt.pLine (h : HAt C H p A R) (l : List Nat) : HAt C (upd H (A.f .line) (.lst (l.map nV))) p A { R with line := l } :=
  h.put .line trivial _ _ rfl rfl fun t e => by cases t <;> first | rfl | exact absurd rfl e
theorem HAt.pUnsw (h : HAt C H p A R) (l : List Nat) : HAt C (upd H (A.f .unsw) (.lst (l.map nV))) p A { R with unsw := l } :=
  h.put .unsw trivial _ _ rfl rfl fun t e => by cases t <;> first | rfl | exact absurd rfl e
theorem HAt.pMarks (h : HAt C H p A R) (l : List Nat) : HAt C (upd H (A.f .marks) (.dK (dTrue l))) p A { R with marks := l } :=
  h.put .marks trivial _ _ rfl rfl fun t e => by cases t <;> first | rfl | exact absurd rfl e
theorem HAt.pRow (h : HAt C H p A R) {k : Nat} (hk : k ∈ R.keys) (r : MM.Row) : HAt C (upd H (A.f (.row k)) (.lst (r.map optV))) p A { R with row := fun j => if j = k then r else R.row j } := by
  refine h.put (.row k) hk _ _ ?_ rfl fun t e => ?_
  · show HO.lst ((if k = k then r else R.row k).map optV) = _
    rw [if_pos rfl]
  · cases t with
    | row j =>
      show HO.lst ((if j = k then r else R.row j).map optV) = HO.lst ((R.row j).map optV)
      rw [if_neg fun (z : j = k) => e (congrArg Sl.row z)]
    | _ => rfl
theorem HAt.fMade (h : HAt C H p A R) (m : Nat) : HAt C (upd H p (.ins C A.dx (putF "_made" (.int (m : Int)) (flds A R)))) p A { R with made := m } := by
  have := h.put .ob trivial { R with made := m } (.ins C A.dx (putF "_made" (.int (m : Int)) (flds A R))) (by show HO.ins C A.dx (flds A _) = _; unfold flds; rw [fl_pmade]) rfl fun t e => by cases t <;> first | rfl | exact absurd rfl e
  rw [h.p0] at this
  exact this
theorem HAt.fEnded (h : HAt C H p A R) (m : Nat) : HAt C (upd H p (.ins C A.dx (putF "_ended" (.int (m : Int)) (flds A R)))) p A { R with ended := m } := by
  have := h.put .ob trivial { R with ended := m } (.ins C A.dx (putF "_ended" (.int (m : Int)) (flds A R))) (by show HO.ins C A.dx (flds A _) = _; unfold flds; rw [fl_pended]) rfl fun t e => by cases t <;> first | rfl | exact absurd rfl e
  rw [h.p0] at this
  exact this
theorem mv_same (A : HA) (s : Sl) (q : Addr) : (A.mv s q).f s = q := if_pos rfl
theorem mv_ne (A : HA) {s t : Sl} (q : Addr) (n : t ≠ s) : (A.mv s q).f t = A.f t := if_neg n
/-- a field gets another object -/
theorem HAt.swap (h : HAt C H p A R) (s : Sl) (hs : s.on R) (ns : s ≠ .ob) (nr : ∀ k, s ≠ .row k) {q : Addr} {o : HO} (hq : H q = some o) (nq : ¬ foot A R q) (R' : Raw) (hon : R'.keys = R.keys) (ho : cont C (A.mv s q) R' s = o) (hc : ∀ t, t ≠ s → t ≠ .ob → cont C (A.mv s q) R' t = cont C A R t)
    (fs : List (Str × V)) (hfs : fs = flds (A.mv s q) R') : HAt C (upd H p (.ins C A.dx fs)) p (A.mv s q) R' := by
  subst hfs
  have on : ∀ t : Sl, t.on R' ↔ t.on R := fun t => by
    cases t with
    | row k => show k ∈ R'.keys ↔ k ∈ R.keys; rw [hon]
    | _ => exact Iff.rfl
  refine ⟨by rw [mv_ne A q fun (e : Sl.ob = s) => ns e.symm, h.p0], fun t ht => ?_, fun t u a b e => ?_⟩
  · have ht := (on t).mp ht
    by_cases e : t = s
    · subst e
      rw [mv_same, upd_ne fun (z : q = p) => nq (z ▸ h.foot_p), ho]
      exact hq
    · by_cases e2 : t = .ob
      · subst e2
        rw [mv_ne A q e, h.p0, upd_same]
        rfl
      · rw [mv_ne A q e, upd_ne fun z => e2 (h.inj t .ob ht trivial (z.trans h.p0.symm)), hc t e e2]
        exact h.at_ t ht
  · have a := (on t).mp a
    have b := (on u).mp b
    by_cases e1 : t = s
    · by_cases e2 : u = s
      · rw [e1, e2]
      · subst e1
        rw [mv_same, mv_ne A q e2] at e
        exact absurd ⟨u, b, e.symm⟩ nq
    · by_cases e2 : u = s
      · subst e2
        rw [mv_same, mv_ne A q e1] at e
        exact absurd ⟨t, a, e⟩ nq
      · rw [mv_ne A q e1, mv_ne A q e2] at e
        exact h.inj t u a b e
theorem foot_mv {A : HA} {R R' : Raw} {s : Sl} {q b : Addr} (hon : ∀ k, k ∈ R'.keys → k ∈ R.keys ∨ s = .row k) (h : foot (A.mv s q) R' b) : foot A R b ∨ b = q := by
  obtain ⟨t, ht, e⟩ := h
  by_cases z : t = s
  · subst z
    rw [mv_same] at e
    exact .inr e.symm
  · rw [mv_ne A q z] at e
    refine .inl ⟨t, ?_, e⟩
    cases t with
    | row k => exact (hon k ht).resolve_right fun y => z y.symm
    | _ => trivial
theorem HAt.fOld (h : HAt C H p A R) {q : Addr} {l : List Nat} (hq : H q = some (.dK (dTrue l))) (nq : ¬ foot A R q) : HAt C (upd H p (.ins C A.dx (putF "_old" (.ref q) (flds A R)))) p (A.mv .old q) { R with old := l } := by
  refine h.swap .old trivial (fun e => nomatch e) (fun k e => nomatch e) hq nq { R with old := l } rfl rfl (fun t e1 e2 => ?_) _ ?_
  · cases t <;> first | rfl | exact absurd rfl e1 | exact absurd rfl e2
  · unfold flds; rw [fl_pold]; rfl
theorem HAt.fMarks (h : HAt C H p A R) {q : Addr} {l : List Nat} (hq : H q = some (.dK (dTrue l))) (nq : ¬ foot A R q) : HAt C (upd H p (.ins C A.dx (putF "_marks" (.ref q) (flds A R)))) p (A.mv .marks q) { R with marks := l } := by
  refine h.swap .marks trivial (fun e => nomatch e) (fun k e => nomatch e) hq nq { R with marks := l } rfl rfl (fun t e1 e2 => ?_) _ ?_
  · cases t <;> first | rfl | exact absurd rfl e1 | exact absurd rfl e2
  · unfold flds; rw [fl_pmarks]; rfl
theorem HAt.fUnsw (h : HAt C H p A R) {q : Addr} {l : List Nat} (hq : H q = some (.lst (l.map nV))) (nq : ¬ foot A R q) : HAt C (upd H p (.ins C A.dx (putF "_unswept" (.ref q) (flds A R)))) p (A.mv .unsw q) { R with unsw := l } := by
  refine h.swap .unsw trivial (fun e => nomatch e) (fun k e => nomatch e) hq nq { R with unsw := l } rfl rfl (fun t e1 e2 => ?_) _ ?_
  · cases t <;> first | rfl | exact absurd rfl e1 | exact absurd rfl e2
  · unfold flds; rw [fl_punsw]; rfl
/-- a row more -/
theorem HAt.addRow (h : HAt C H p A R) {q : Addr} {k : Nat} {r : MM.Row} (hq : H q = some (.lst (r.map optV))) (nq : ¬ foot A R q) (nk : k ∉ R.keys) : HAt C (upd H (A.f .rows) (.dK (dRows A R ++ [(kK k, V.ref q)]))) p (A.mv (.row k) q) { R with keys := R.keys ++ [k], row := fun j => if j = k then r else R.row j } := by
  have on : ∀ t : Sl, t ≠ .row k → t.on { R with keys := R.keys ++ [k], row := fun j => if j = k then r else R.row j } → t.on R := fun t n ht => by
    cases t with
    | row j =>
      rcases List.mem_append.mp ht with ht | ht
      · exact ht
      · rw [List.mem_singleton] at ht; exact absurd (congrArg Sl.row ht) n
    | _ => trivial
  refine ⟨(mv_ne A q fun (e : Sl.ob = .row k) => nomatch e).trans h.p0, fun t ht => ?_, fun t u a b e => ?_⟩
  · by_cases e : t = .row k
    · subst e
      rw [mv_same, upd_ne fun (z : q = A.f .rows) => nq ⟨.rows, trivial, z.symm⟩]
      show H q = some (.lst ((if k = k then r else R.row k).map optV))
      rw [if_pos rfl]
      exact hq
    · have ht' := on t e ht
      rw [mv_ne A q e]
      by_cases e2 : t = .rows
      · subst e2
        rw [upd_same]
        show some (HO.dK (dRows A R ++ [(kK k, V.ref q)])) = some (HO.dK ((R.keys ++ [k]).map fun j => (kK j, V.ref ((A.mv (.row k) q).f (.row j)))))
        rw [List.map_append]
        congr 2
        unfold dRows
        congr 1
        · refine List.map_congr_left fun j hj => ?_
          rw [mv_ne A q fun (z : Sl.row j = .row k) => nk (by cases z; exact hj)]
        · show [(kK k, V.ref q)] = [(kK k, V.ref ((A.mv (.row k) q).f (.row k)))]
          rw [mv_same]
      · rw [upd_ne fun z => e2 (h.inj t .rows ht' trivial z), h.at_ t ht']
        cases t with
        | rows => exact absurd rfl e2
        | row j =>
          show some (HO.lst ((R.row j).map optV)) = some (HO.lst ((if j = k then r else R.row j).map optV))
          rw [if_neg fun (z : j = k) => e (congrArg Sl.row z)]
        | _ => rfl
  · by_cases e1 : t = .row k
    · by_cases e2 : u = .row k
      · rw [e1, e2]
      · subst e1
        rw [mv_same, mv_ne A q e2] at e
        exact absurd ⟨u, on u e2 b, e.symm⟩ nq
    · by_cases e2 : u = .row k
      · subst e2
        rw [mv_same, mv_ne A q e1] at e
        exact absurd ⟨t, on t e1 a, e⟩ nq
      · rw [mv_ne A q e1, mv_ne A q e2] at e
        exact h.inj t u (on t e1 a) (on u e2 b) e
/-! ### the dicts -/
theorem kK_inj {j k : Nat} (h : kK j = kK k) : j = k := by
  have : ((j : Nat) : Int) = k := Sum.inl.inj h
  omega
theorem valV_map_in {f : Nat → V} : ∀ (l : List Nat) (k : Nat), valV (l.map fun j => (kK j, f j)) (kK k) = if k ∈ l then some (f k) else none
  | [], k => by simp [valV]
  | a :: l, k => by
    rw [List.map_cons]
    by_cases e : a = k
    · subst e
      rw [valV_pos rfl, if_pos List.mem_cons_self]
    · rw [valV_neg fun z => e (kK_inj z), valV_map_in l k]
      by_cases m : k ∈ l
      · rw [if_pos m, if_pos (List.mem_cons_of_mem _ m)]
      · rw [if_neg m, if_neg fun z => (List.mem_cons.mp z).elim (fun y => e y.symm) m]
theorem valV_map_no {f : Nat → V} {z : Int} : ∀ (l : List Nat), (∀ k ∈ l, ((k : Nat) : Int) ≠ z) → valV (l.map fun j => (kK j, f j)) (Sum.inl z : Key) = none
  | [], _ => by simp [valV]
  | a :: l, h => by
    rw [List.map_cons, valV_neg fun e => h a List.mem_cons_self (Sum.inl.inj e)]
    exact valV_map_no l fun k hk => h k (List.mem_cons_of_mem _ hk)
theorem valV_rows (k : Nat) : valV (dRows A R) (kK k) = if k ∈ R.keys then some (.ref (A.f (.row k))) else none := valV_map_in _ _
theorem valV_true (l : List Nat) (k : Nat) : valV (dTrue l) (kK k) = if k ∈ l then some (.bl true) else none := valV_map_in (f := fun _ => V.bl true) _ _
theorem putK_true {l : List Nat} {k : Nat} (h : k ∉ l) : putK (dTrue l) (kK k) (.bl true) = dTrue (l ++ [k]) := by
  rw [putK_new _ (by rw [valV_true, if_neg h])]
  unfold dTrue
  rw [List.map_append]; rfl
theorem dropK_rows (k : Nat) : dropK (dRows A R) (kK k) = dRows A { R with keys := R.keys.filter fun j => decide (j ≠ k) } := by
  unfold dropK dRows
  rw [List.filter_map]
  congr 1
  refine List.filter_congr fun j _ => ?_
  show decide (kK j ≠ kK k) = decide (j ≠ k)
  by_cases e : j = k
  · subst e; simp
  · have n : kK j ≠ kK k := fun z => e (kK_inj z)
    rw [decide_eq_true n, decide_eq_true e]
theorem HAt.delRow (h : HAt C H p A R) (k : Nat) : HAt C (upd H (A.f .rows) (.dK (dropK (dRows A R) (kK k)))) p A { R with keys := R.keys.filter fun j => decide (j ≠ k) } := by
  have on : ∀ t : Sl, t.on { R with keys := R.keys.filter fun j => decide (j ≠ k) } → t.on R := fun t ht => by
    cases t with
    | row j => exact (List.mem_filter.mp ht).1
    | _ => trivial
  refine ⟨h.p0, fun t ht => ?_, fun t u a b e => h.inj t u (on t a) (on u b) e⟩
  by_cases e2 : t = .rows
  · subst e2
    rw [upd_same, dropK_rows]
    rfl
  · rw [upd_ne fun z => e2 (h.inj t .rows (on t ht) trivial z), h.at_ t (on t ht)]
    cases t <;> first | rfl | exact absurd rfl e2
end
/-! ### what the callers see -/
def HeapAt (C : Addr) (H : Hp) (p : Addr) (F : Addr → Prop) (S : HS) : Prop := ∃ A, HAt C H p A (raw S) ∧ F = foot A (raw S) ∧ Good S
theorem HeapAt.out {C p : Addr} {H : Hp} {F : Addr → Prop} {S : HS} (h : HeapAt C H p F S) {q : Addr} {o : HO} (n : ¬ F q) : HeapAt C (upd H q o) p F S := by
  obtain ⟨A, h, rfl, g⟩ := h
  exact ⟨A, h.out n, rfl, g⟩
theorem HeapAt.same {C p : Addr} {H H' : Hp} {F : Addr → Prop} {S : HS} (h : HeapAt C H p F S) (s : Same H H') : HeapAt C H' p F S := by
  obtain ⟨A, h, rfl, g⟩ := h
  exact ⟨A, h.same s, rfl, g⟩
theorem HeapAt.fresh {C p : Addr} {H : Hp} {F : Addr → Prop} {S : HS} (h : HeapAt C H p F S) {q : Addr} (hq : H q = none) : ¬ F q := by
  obtain ⟨A, h, rfl, g⟩ := h
  exact h.fresh hq
theorem HeapAt.good {C p : Addr} {H : Hp} {F : Addr → Prop} {S : HS} (h : HeapAt C H p F S) : Good S := h.choose_spec.2.2
theorem HeapAt.isp {C p : Addr} {H : Hp} {F : Addr → Prop} {S : HS} (h : HeapAt C H p F S) : F p := by
  obtain ⟨A, h, rfl, g⟩ := h
  exact h.foot_p
theorem HeapAt.ob {C p : Addr} {H : Hp} {F : Addr → Prop} {S : HS} (h : HeapAt C H p F S) : ∃ dx fs, H p = some (.ins C dx fs) ∧ (∀ m : Str, m ∉ (["_hands", "_room", "_rows", "_made", "_ended", "_old", "_marks", "_line", "_unswept"] : List Str) → fs.lookup m = none) := by
  obtain ⟨A, h, rfl, g⟩ := h
  refine ⟨_, _, h.ob, fun m hm => ?_⟩
  simp only [List.mem_cons, List.not_mem_nil, or_false, not_or] at hm
  obtain ⟨h1, h2, h3, h4, h5, h6, h7, h8, h9⟩ := hm
  simp [flds, fl, List.lookup, beq_eq_false_iff_ne.mpr h1, beq_eq_false_iff_ne.mpr h2, beq_eq_false_iff_ne.mpr h3, beq_eq_false_iff_ne.mpr h4, beq_eq_false_iff_ne.mpr h5, beq_eq_false_iff_ne.mpr h6, beq_eq_false_iff_ne.mpr h7, beq_eq_false_iff_ne.mpr h8, beq_eq_false_iff_ne.mpr h9]
end MP

set_option Elab.async false
set_option linter.all false
set_option maxRecDepth 100000
set_option maxHeartbeats 4000000
namespace MP
open PySem PySem.Spec PyProof.Rows L2 MM KG
theorem iteNT {c A B : Prop} [Decidable c] (hc : ¬ c) (h : A) : if (!decide c) = true then A else B := by
  rw [decide_eq_false hc]
  exact iteT h
theorem size_of {n : Nat} (h : n ≤ 100000) : n < sizeLine := Nat.lt_of_le_of_lt h (by decide)
theorem atI_opt {l : List (Option Nat)} {h : Nat} (hh : h < l.length) : atI (l.map optV) (h : Int) = some (optV (l.getD h none)) := by
  refine atI_nat ?_
  rw [List.getElem?_map, List.getD_eq_getElem?_getD, List.getElem?_eq_getElem hh]
  rfl
theorem dget_row {C p : Addr} {H : Hp} {A : HA} {R : Raw} (hA : HAt C H p A R) {k : Nat} (hk : k ∈ R.keys) : DGet H (A.f .rows) (optV (some k)) (some (.ref (A.f (.row k)))) := by
  have := DGet.k (k := kK k) hA.rows
  rw [valV_rows, if_pos hk] at this
  exact this
/-- an exception class of the program -/
structure ExC (K : PySem.W.Frag) (mg : Str → Option Value) (x : Str) (c : Addr) : Prop where
  gP : mg x = some (.ref c)
  xP : PySem.W.excIn K c [.type "ValueError", .type "Exception", .type "BaseException", .type "object"] "ValueError.__new__" = true
  kP : PySem.W.keepIn K (.ref c) = true
  bP : PySem.W.subIn K (.ref c) (.type "BaseException") = some true
  tP : PySem.W.typeIn K (.ref c) = some (.type "type")
  iP : PySem.W.isClsIn K c = true
theorem exm_mk {K : PySem.W.Frag} {mg : Str → Option Value} {x : Str} {c : Addr} {cls : Value} {b : Bool} (T : ExC K mg x c) (h : PySem.W.subIn K cls (.ref c) = some b) : PySem.W.exmOne K cls (.ref c) = some b := by
  unfold PySem.W.exmOne
  rw [T.bP, if_pos (by decide)]
  have hi : (PySem.W.clsIn K c).isSome = true := T.iP
  show (if ((PySem.W.clsIn K c).isSome && PySem.W.typeIn K (.ref c) == some (.type "type")) = true then PySem.W.subIn K cls (.ref c) else none) = some b
  rw [T.tP, hi, if_pos (by decide)]
  exact h
structure HeapTxt (K : PySem.W.Frag) (mg : Str → Option Value) (C : Addr) : Prop where
  cl : Cls K C
  n_hands : NoAttr K C "_hands"
  n_room : NoAttr K C "_room"
  n_rows : NoAttr K C "_rows"
  n_made : NoAttr K C "_made"
  n_ended : NoAttr K C "_ended"
  n_old : NoAttr K C "_old"
  n_marks : NoAttr K C "_marks"
  n_line : NoAttr K C "_line"
  n_unsw : NoAttr K C "_unswept"
  mgC : mg "Heap" = some (.ref C)
/-- a method as it stands -/
structure Dm (P : Program) (w : World) (K : PySem.W.Frag) (mg : Str → Option Value) (base : Heap) (CX : CXT) (lv : Nat) (C : Addr) (name : Str) (f : Addr) (fd : FuncData) (ps : List Str) (sp : Sp) : Prop where
  c : Cls K C
  m : Meth K C name f
  g : FnOk P w K mg base CX lv f fd ps sp
  b : Binds K fd ps []
/-- a class that is made -/
structure Dc (P : Program) (w : World) (K : PySem.W.Frag) (mg : Str → Option Value) (base : Heap) (CX : CXT) (lv : Nat) (C : Addr) (name : Str) (f : Addr) (fd : FuncData) (ps : List Str) (sp : Sp) : Prop where
  mkk : Mk K C f
  g : FnOk P w K mg base CX lv f fd ps sp
  m : mg name = some (.ref C)
  b : Binds K fd ps []
/-- the addresses of the classes -/
structure ECs where
  noHand : Addr
  noSlot : Addr
  noRoom : Addr
  nothing : Addr
  noBox : Addr
  noWork : Addr
  noHeap : Addr
  noDeed : Addr
def okHand (S : HS) (h : Int) : Prop := 0 ≤ h ∧ h < S.hands.length
instance (S : HS) (h : Int) : Decidable (okHand S h) := by unfold okHand; exact inferInstance
/-! ### the promises of the methods -/
section
variable (C : Addr) (EC : ECs)
def spInit : Sp := fun vs H Q E => ∃ (p dx : Addr) (n r : Int), vs = [.ref p, .int n, .int r] ∧ H p = some (.ins C dx []) ∧
  if (1 ≤ n ∧ n ≤ 8) ∧ 1 ≤ r ∧ r ≤ 1000 then ∀ H' F', HeapAt C H' p F' (HS.new n.toNat r.toNat) → (∀ b o, H b = some o → b ≠ p → H' b = some o ∧ ¬ F' b) → Q .non H' else E (.ref EC.noHeap) none H
def spNeed : Sp := fun vs H Q E => ∃ (p : Addr) (A : HA) (R : Raw) (h : Int), vs = [.ref p, .int h] ∧ HAt C H p A R ∧ R.hands.length ≤ 8 ∧
  if 0 ≤ h ∧ h < R.hands.length then Q .non H else E (.ref EC.noHand) none H
def spRow : Sp := fun vs H Q E => ∃ (p : Addr) (A : HA) (R : Raw) (h : Nat) (s : Int), vs = [.ref p, .int h, .int s] ∧ HAt C H p A R ∧ R.hands.length ≤ 8 ∧ h < R.hands.length ∧
  match R.hands.getD h none with
  | none => E (.ref EC.nothing) none H
  | some k => k ∈ R.keys ∧ (R.row k).length ≤ 4 ∧ if 0 ≤ s ∧ s < (R.row k).length then Q (.ref (A.f (.row k))) H else E (.ref EC.noSlot) none H
def spMake : Sp := fun vs H Q E => ∃ (p : Addr) (F : Addr → Prop) (S : HS) (h n : Int), vs = [.ref p, .int h, .int n] ∧ HeapAt C H p F S ∧
  if okHand S h then (if 0 ≤ n ∧ n ≤ 4 then (if S.keys.length < S.room then ∀ H' F', HeapAt C H' p F' (S.make h.toNat n.toNat) → Frm H F H' F' → Q (.int S.rows.length) H' else E (.ref EC.noRoom) none H) else E (.ref EC.noSlot) none H) else E (.ref EC.noHand) none H
def spTake : Sp := fun vs H Q E => ∃ (p : Addr) (F : Addr → Prop) (S : HS) (h o s : Int), vs = [.ref p, .int h, .int o, .int s] ∧ HeapAt C H p F S ∧
  if okHand S h ∧ okHand S o then (match S.hand o.toNat with
    | none => E (.ref EC.nothing) none H
    | some k => if 0 ≤ s ∧ s < (S.row k).length then ∀ H' F', HeapAt C H' p F' (S.take h.toNat k s.toNat) → Frm H F H' F' → Q .non H' else E (.ref EC.noSlot) none H) else E (.ref EC.noHand) none H
def spPut : Sp := fun vs H Q E => ∃ (p : Addr) (F : Addr → Prop) (S : HS) (h s o : Int), vs = [.ref p, .int h, .int s, .int o] ∧ HeapAt C H p F S ∧
  if okHand S h ∧ okHand S o then (match S.hand h.toNat with
    | none => E (.ref EC.nothing) none H
    | some k => if 0 ≤ s ∧ s < (S.row k).length then ∀ H' F', HeapAt C H' p F' (S.put k s.toNat o.toNat) → Frm H F H' F' → Q .non H' else E (.ref EC.noSlot) none H) else E (.ref EC.noHand) none H
def spShare : Sp := fun vs H Q E => ∃ (p : Addr) (F : Addr → Prop) (S : HS) (h o : Int), vs = [.ref p, .int h, .int o] ∧ HeapAt C H p F S ∧
  if okHand S h ∧ okHand S o then ∀ H' F', HeapAt C H' p F' (S.share h.toNat o.toNat) → Frm H F H' F' → Q .non H' else E (.ref EC.noHand) none H
def spDrop : Sp := fun vs H Q E => ∃ (p : Addr) (F : Addr → Prop) (S : HS) (h : Int), vs = [.ref p, .int h] ∧ HeapAt C H p F S ∧
  if okHand S h then ∀ H' F', HeapAt C H' p F' (S.drop h.toNat) → Frm H F H' F' → Q .non H' else E (.ref EC.noHand) none H
def spHeld : Sp := fun vs H Q E => ∃ (p : Addr) (F : Addr → Prop) (S : HS) (h : Int), vs = [.ref p, .int h] ∧ HeapAt C H p F S ∧
  if okHand S h then Q (optV (S.hand h.toNat)) H else E (.ref EC.noHand) none H
def spLook : Sp := fun vs H Q E => ∃ (p : Addr) (F : Addr → Prop) (S : HS) (b : Int), vs = [.ref p, .int b] ∧ HeapAt C H p F S ∧
  if 0 ≤ b ∧ b.toNat ∈ S.keys then ∀ l, H l = none → Q (.ref l) (upd H l (.lst ((S.row b.toNat).map optV))) else E (.ref EC.noBox) none H
def spList (f : HS → List Nat) : Sp := fun vs H Q _ => ∃ (p : Addr) (F : Addr → Prop) (S : HS), vs = [.ref p] ∧ HeapAt C H p F S ∧ ∀ l, H l = none → Q (.ref l) (upd H l (.lst ((f S).map nV)))
def spPhase : Sp := fun vs H Q _ => ∃ (p : Addr) (A : HA) (R : Raw), vs = [.ref p] ∧ HAt C H p A R ∧ R.line.length ≤ 4000 ∧ R.unsw.length ≤ 4000 ∧ Q (.str (Str.ofString (if R.line = [] then (if R.unsw = [] then "idle" else "sweeping") else "marking"))) H
def spRounds : Sp := fun vs H Q _ => ∃ (p : Addr) (A : HA) (R : Raw), vs = [.ref p] ∧ HAt C H p A R ∧ Q (.int R.ended) H
/-- marking one -/
def Raw.mark (R : Raw) (k : Nat) : Raw := if k ∈ R.old ∧ k ∉ R.marks then { R with marks := R.marks ++ [k], line := R.line ++ [k] } else R
def Raw.markO (R : Raw) : Option Nat → Raw
  | none => R
  | some k => R.mark k
def spMark : Sp := fun vs H Q _ => ∃ (p : Addr) (A : HA) (R : Raw) (o : Option Nat), vs = [.ref p, optV o] ∧ HAt C H p A R ∧ R.marks.length ≤ 3000 ∧ R.line.length ≤ 3000 ∧ ∀ H', HAt C H' p A (R.markO o) → Frm H (foot A R) H' (foot A (R.markO o)) → Q .non H'
def Raw.marks2 (R : Raw) (l : List (Option Nat)) : Raw := { R with marks := R.marks ++ ext R.old R.marks l, line := R.line ++ ext R.old R.marks l }
def Raw.began (R : Raw) : Raw := { R with unsw := R.keys, old := R.keys, marks := ext R.keys [] R.hands, line := ext R.keys [] R.hands }
def spBegin : Sp := fun vs H Q _ => ∃ (p : Addr) (A : HA) (R : Raw), vs = [.ref p] ∧ HAt C H p A R ∧ R.marks = [] ∧ R.line = [] ∧ R.hands.length ≤ 8 ∧ R.keys.length ≤ 1000 ∧ R.keys.Pairwise (· < ·) ∧ ∀ H' A', HAt C H' p A' R.began → Frm H (foot A R) H' (foot A' R.began) → Q .non H'
def Raw.markOn (R : Raw) (b : Nat) (r : List Nat) : Raw := Raw.marks2 { R with line := r } (R.row b)
def spMarkOn : Sp := fun vs H Q _ => ∃ (p : Addr) (A : HA) (R : Raw) (b : Nat) (r : List Nat), vs = [.ref p] ∧ HAt C H p A R ∧ R.line = b :: r ∧ b ∈ R.keys ∧ R.marks.length ≤ 1000 ∧ r.length ≤ 1000 ∧ (R.row b).length ≤ 4 ∧ ∀ H', HAt C H' p A (R.markOn b r) → Frm H (foot A R) H' (foot A (R.markOn b r)) → Q .non H'
def Raw.sweepOn (R : Raw) (b : Nat) (r : List Nat) : Raw := if b ∈ R.marks then { R with unsw := r } else { R with unsw := r, keys := R.keys.filter fun k => decide (k ≠ b) }
def spSweepOn : Sp := fun vs H Q _ => ∃ (p : Addr) (A : HA) (R : Raw) (b : Nat) (r : List Nat), vs = [.ref p] ∧ HAt C H p A R ∧ R.unsw = b :: r ∧ b ∈ R.keys ∧ r.length ≤ 1000 ∧ ∀ H', HAt C H' p A (R.sweepOn b r) → Frm H (foot A R) H' (foot A (R.sweepOn b r)) → Q (if b ∈ R.marks then .non else .int b) H'
def Raw.endRound (R : Raw) : Raw := { R with old := [], marks := [], ended := R.ended + 1 }
def spEnd : Sp := fun vs H Q _ => ∃ (p : Addr) (A : HA) (R : Raw), vs = [.ref p] ∧ HAt C H p A R ∧ ∀ H' A', HAt C H' p A' R.endRound → Frm H (foot A R) H' (foot A' R.endRound) → Q .non H'
def spPiece : Sp := fun vs H Q _ => ∃ (p : Addr) (F : Addr → Prop) (S : HS), vs = [.ref p] ∧ HeapAt C H p F S ∧ ∀ H' F', HeapAt C H' p F' S.piece.1 → Frm H F H' F' → Q (optV S.piece.2) H'
def spWork : Sp := fun vs H Q E => ∃ (p : Addr) (F : Addr → Prop) (S : HS) (n : Int), vs = [.ref p, .int n] ∧ HeapAt C H p F S ∧
  if 0 ≤ n ∧ n ≤ 2500 then ∀ H' F' l, HeapAt C H' p F' (HS.work n.toNat S).1 → Frm H F H' F' → H l = none → ¬ F' l → H' l = some (.lst ((HS.work n.toNat S).2.map nV)) → Q (.ref l) H' else E (.ref EC.noWork) none H
end
theorem raw_mark (S : HS) (k : Nat) : raw (S.mark k) = (raw S).mark k := by
  unfold HS.mark Raw.mark raw
  by_cases h : k ∈ S.old ∧ k ∉ S.marks
  · rw [if_pos h, if_pos h]
  · rw [if_neg h, if_neg h]
theorem raw_markO (S : HS) (o : Option Nat) : raw (S.markO o) = (raw S).markO o := by
  cases o with
  | none => rfl
  | some k => exact raw_mark S k
theorem raw_began (S : HS) : raw S.began = (raw S).began := by rw [began_eq]; rfl
theorem raw_markOn {S : HS} {b : Nat} {r : List Nat} (h : S.line = b :: r) : raw S.markOn = (raw S).markOn b r := by
  unfold HS.markOn
  rw [h]
  show raw (HS.markAll _ _) = _
  rw [markAll_eq]
  rfl
theorem raw_sweepOn {S : HS} {b : Nat} {r : List Nat} (h : S.unsw = b :: r) : raw S.sweepOn.1 = (raw S).sweepOn b r := by
  unfold HS.sweepOn Raw.sweepOn raw
  rw [h]
  dsimp only
  split <;> rfl
theorem sweepOn_freed {S : HS} {b : Nat} {r : List Nat} (h : S.unsw = b :: r) : optV S.sweepOn.2 = if b ∈ S.marks then .non else .int b := by
  unfold HS.sweepOn
  rw [h]
  dsimp only
  split <;> rfl
theorem raw_endRound (S : HS) : raw S.endRound = (raw S).endRound := rfl
/-! ### an object that is being made -/
structure Bld (C dx p : Addr) (H0 Hi : Hp) (fs : List (Str × V)) (L : List (Addr × HO)) : Prop where
  ob : Hi p = some (.ins C dx fs)
  at_ : ∀ x ∈ L, Hi x.1 = some x.2
  new : ∀ x ∈ L, H0 x.1 = none
  nd : (L.map (·.1)).Nodup
  kp : ∀ b o, H0 b = some o → b ≠ p → Hi b = some o
  pp : H0 p ≠ none
section
variable {C dx p q : Addr} {H0 Hi : Hp} {fs : List (Str × V)} {L : List (Addr × HO)}
theorem Bld.start (h : H0 p = some (.ins C dx [])) : Bld C dx p H0 H0 [] [] := ⟨h, fun _ z => absurd z (by simp), fun _ z => absurd z (by simp), List.nodup_nil, fun _ _ e _ => e, by rw [h]; simp⟩
theorem Bld.free (h : Bld C dx p H0 Hi fs L) (n : Hi q = none) : H0 q = none := by
  cases e : H0 q with
  | none => rfl
  | some o =>
    by_cases c : q = p
    · subst c; rw [h.ob] at n; cases n
    · rw [h.kp q o e c] at n; cases n
theorem Bld.tmp {o : HO} (h : Bld C dx p H0 Hi fs L) (n : Hi q = none) : Bld C dx p H0 (upd Hi q o) fs L :=
  ⟨by rw [upd_ne (ne_of_none h.ob n)]; exact h.ob, fun x hx => by rw [upd_ne (ne_of_none (h.at_ x hx) n)]; exact h.at_ x hx, h.new, h.nd, fun b u e c => by rw [upd_ne (ne_of_none (h.kp b u e c) n)]; exact h.kp b u e c, h.pp⟩
theorem Bld.alloc {o : HO} (h : Bld C dx p H0 Hi fs L) (n : Hi q = none) : Bld C dx p H0 (upd Hi q o) fs ((q, o) :: L) := by
  have t := h.tmp (o := o) n
  refine ⟨t.ob, fun x hx => ?_, fun x hx => ?_, ?_, t.kp, h.pp⟩
  · rcases List.mem_cons.mp hx with e | hx
    · subst e; exact upd_same
    · exact t.at_ x hx
  · rcases List.mem_cons.mp hx with e | hx
    · subst e; exact h.free n
    · exact h.new x hx
  · refine List.nodup_cons.mpr ⟨fun z => ?_, h.nd⟩
    obtain ⟨x, hx, e⟩ := List.mem_map.mp z
    have := h.at_ x hx
    have e : x.1 = q := e
    rw [e, n] at this
    cases this
theorem Bld.fld (h : Bld C dx p H0 Hi fs L) (fs' : List (Str × V)) : Bld C dx p H0 (upd Hi p (.ins C dx fs')) fs' L :=
  ⟨upd_same, fun x hx => by rw [upd_ne fun (e : x.1 = p) => h.pp (e ▸ h.new x hx)]; exact h.at_ x hx, h.new, h.nd, fun b u e c => by rw [upd_ne c]; exact h.kp b u e c, h.pp⟩
end
theorem Bld.heap {C dx p qh qr qo qm ql qu : Addr} {H0 Hi : Hp} {n r : Int} (hn : 1 ≤ n ∧ n ≤ 8) (hr : 1 ≤ r ∧ r ≤ 1000)
    (h : Bld C dx p H0 Hi (fl (.ref qh) (.int r) (.ref qr) (.int 0) (.int 0) (.ref qo) (.ref qm) (.ref ql) (.ref qu)) [(qu, .lst []), (ql, .lst []), (qm, .dK []), (qo, .dK []), (qr, .dK []), (qh, .lst ((List.replicate n.toNat none).map optV))]) :
    ∃ F', HeapAt C Hi p F' (HS.new n.toNat r.toNat) ∧ ∀ b o, H0 b = some o → b ≠ p → Hi b = some o ∧ ¬ F' b := by
  let A : HA := ⟨dx, fun s => match s with
    | .ob => p
    | .hands => qh
    | .rows => qr
    | .old => qo
    | .marks => qm
    | .line => ql
    | .unsw => qu
    | .row _ => p⟩
  have nd := h.nd
  have nw := h.new
  have np : ∀ x : Addr × HO, H0 x.1 = none → x.1 ≠ p := fun x hx e => h.pp (e ▸ hx)
  have at_ := h.at_
  simp only [List.map_cons, List.map_nil, List.nodup_cons, List.mem_cons, List.not_mem_nil, or_false, not_or, List.nodup_nil, and_true, not_false_eq_true] at nd
  simp only [List.mem_cons, List.not_mem_nil, or_false, forall_eq_or_imp, forall_eq] at nw at_
  obtain ⟨u1, l1, m1, o1, r1, h1⟩ := nw
  obtain ⟨⟨a1, a2, a3, a4, a5⟩, ⟨b1, b2, b3, b4⟩, ⟨c1, c2, c3⟩, ⟨d1, d2⟩, e1⟩ := nd
  obtain ⟨g1, g2, g3, g4, g5, g6⟩ := at_
  have p1 : qu ≠ p := fun e => h.pp (e ▸ u1)
  have p2 : ql ≠ p := fun e => h.pp (e ▸ l1)
  have p3 : qm ≠ p := fun e => h.pp (e ▸ m1)
  have p4 : qo ≠ p := fun e => h.pp (e ▸ o1)
  have p5 : qr ≠ p := fun e => h.pp (e ▸ r1)
  have p6 : qh ≠ p := fun e => h.pp (e ▸ h1)
  have er : ((r.toNat : Nat) : Int) = r := by omega
  have hA : HAt C Hi p A (raw (HS.new n.toNat r.toNat)) := by
    refine ⟨rfl, fun s hs => ?_, fun s t hs ht e => ?_⟩
    · cases s with
      | ob =>
        show Hi p = some (.ins C dx (fl (.ref qh) (.int ((r.toNat : Nat) : Int)) (.ref qr) (.int 0) (.int 0) (.ref qo) (.ref qm) (.ref ql) (.ref qu)))
        rw [er]
        exact h.ob
      | row k => exact absurd hs (show k ∉ ([] : List Nat) by simp)
      | _ => assumption
    · cases s <;> cases t <;> first | rfl | exact absurd hs (show _ ∉ ([] : List Nat) by simp) | exact absurd ht (show _ ∉ ([] : List Nat) by simp) | exact absurd e (by assumption) | exact absurd e.symm (by assumption)
  refine ⟨_, ⟨A, hA, rfl, Good.new (by omega) (by omega)⟩, fun b o e c => ⟨h.kp b o e c, fun z => ?_⟩⟩
  obtain ⟨s, hs, rfl⟩ := z
  cases s with
  | ob => exact c rfl
  | row k => exact absurd hs (show k ∉ ([] : List Nat) by simp)
  | hands => rw [show A.f .hands = qh from rfl, h1] at e; cases e
  | rows => rw [show A.f .rows = qr from rfl, r1] at e; cases e
  | old => rw [show A.f .old = qo from rfl, o1] at e; cases e
  | marks => rw [show A.f .marks = qm from rfl, m1] at e; cases e
  | line => rw [show A.f .line = ql from rfl, l1] at e; cases e
  | unsw => rw [show A.f .unsw = qu from rfl, u1] at e; cases e
theorem rep_none (n : Nat) : (List.replicate n [V.non]).flatten = (List.replicate n (none : Option Nat)).map optV := by
  induction n with
  | zero => rfl
  | succ n ih =>
    rw [List.replicate_succ, List.replicate_succ, List.flatten_cons, ih, List.map_cons]
    rfl
theorem raw_make (S : HS) (h n : Nat) : raw (S.make h n) = { raw S with made := S.rows.length + 1, keys := S.keys ++ [S.rows.length], row := fun j => if j = S.rows.length then List.replicate n none else (raw S).row j, hands := S.hands.set h (some S.rows.length) } := by
  have e : (S.make h n).row = fun j => if j = S.rows.length then List.replicate n none else S.row j := funext fun j => rowOf_push j
  have e2 : (S.make h n).rows.length = S.rows.length + 1 := by show (S.rows ++ [_]).length = _; rw [List.length_append]; rfl
  show Raw.mk _ _ _ (S.make h n).row (S.make h n).rows.length _ _ _ _ _ = _
  rw [e, e2]
  rfl
theorem raw_write {S : HS} {b s : Nat} (x : Option Nat) (hb : b < S.rows.length) : raw (S.write b s x) = { raw S with row := fun j => if j = b then (S.row b).set s x else (raw S).row j } := by
  have e : (S.write b s x).row = fun j => if j = b then (S.row b).set s x else S.row j := funext fun j => rowOf_set j hb
  have e2 : (S.write b s x).rows.length = S.rows.length := by show (S.rows.set _ _).length = _; rw [List.length_set]
  show Raw.mk _ _ _ (S.write b s x).row (S.write b s x).rows.length _ _ _ _ _ = _
  rw [e, e2]
  rfl
theorem set_opt (l : List (Option Nat)) (j : Nat) (x : Option Nat) : (l.map optV).set j (optV x) = (l.set j x).map optV := by rw [List.map_set]
theorem getD_opt (l : List (Option Nat)) (j : Nat) : l.getD j none = (l[j]?).getD none := List.getD_eq_getElem?_getD ..
section
variable {C p : Addr} {H : Hp} {A : HA} {S : HS}
theorem okHand.ix {h : Int} (c : okHand S h) : ixN (S.hands.map optV).length h = some h.toNat := by
  have := ixN_nat (n := (S.hands.map optV).length) (j := h.toNat) (by rw [List.length_map]; have := c.1; have := c.2; omega)
  rw [← this]
  congr 1
  have := c.1; omega
theorem okHand.at_ {h : Int} (c : okHand S h) : atI (S.hands.map optV) h = some (optV (S.hand h.toNat)) := by
  have := atI_opt (l := S.hands) (h := h.toNat) (by have := c.1; have := c.2; omega)
  rw [show ((h.toNat : Nat) : Int) = h by have := c.1; omega] at this
  exact this
theorem HAt.setHand (hA : HAt C H p A (raw S)) {h : Nat} {x : Option Nat} (G' : Good (S.setHand h x)) : HeapAt C (upd H (A.f .hands) (.lst ((S.hands.map optV).set h (optV x)))) p (foot A (raw S)) (S.setHand h x) ∧ Frm H (foot A (raw S)) (upd H (A.f .hands) (.lst ((S.hands.map optV).set h (optV x)))) (foot A (raw S)) := by
  rw [set_opt]
  exact ⟨⟨A, hA.pHands (S.hands.set h x), rfl, G'⟩, (Frm.refl _ _).put (hA.foot_on (s := .hands) trivial)⟩
end
/-- what is tracked stays tracked -/
def Mono (H H' : Hp) : Prop := ∀ b o, H b = some o → ∃ o', H' b = some o'
theorem Mono.refl (H : Hp) : Mono H H := fun _ o h => ⟨o, h⟩
theorem Mono.put {H H1 : Hp} (m : Mono H H1) {q : Addr} {o : HO} : Mono H (upd H1 q o) := fun b u h => by
  by_cases e : b = q
  · subst e; exact ⟨o, upd_same⟩
  · rw [upd_ne e]; exact m b u h
theorem Mono.same {H H1 H2 : Hp} (m : Mono H H1) (s : Same H1 H2) : Mono H H2 := fun b o h => let ⟨u, e⟩ := m b o h; ⟨u, s _ _ e⟩
theorem Mono.free {H H1 : Hp} (m : Mono H H1) {q : Addr} (n : H1 q = none) : H q = none := by
  cases e : H q with
  | none => rfl
  | some o => obtain ⟨o', e'⟩ := m q o e; rw [n] at e'; cases e'
theorem Frm.imp {H H1 : Hp} {F F1 F2 : Addr → Prop} (a : Frm H F H1 F1) (h : ∀ b, F2 b → F1 b) : Frm H F H1 F2 := fun b o e n => let ⟨x, y⟩ := a b o e n; ⟨x, fun z => y (h b z)⟩
theorem ext_len : ∀ (l : List (Option Nat)) (old m : List Nat), (ext old m l).length ≤ l.length
  | [], _, _ => Nat.zero_le _
  | none :: r, old, m => Nat.le_succ_of_le (ext_len r old m)
  | some j :: r, old, m => by
    unfold ext
    by_cases h : j ∈ old ∧ j ∉ m
    · rw [if_pos h]
      exact Nat.succ_le_succ (ext_len r old _)
    · rw [if_neg h]
      exact Nat.le_succ_of_le (ext_len r old m)
theorem ext_cons (old m : List Nat) (k : Nat) (r : List (Option Nat)) : ext old m (some k :: r) = if k ∈ old ∧ k ∉ m then k :: ext old (m ++ [k]) r else ext old m r := by rw [ext]
theorem marks2_cons (R : Raw) (o : Option Nat) (l : List (Option Nat)) : R.marks2 (o :: l) = (R.markO o).marks2 l := by
  cases o with
  | none => rfl
  | some k =>
    show Raw.marks2 R (some k :: l) = (R.mark k).marks2 l
    unfold Raw.mark Raw.marks2
    rw [ext_cons]
    by_cases h : k ∈ R.old ∧ k ∉ R.marks
    · rw [if_pos h, if_pos h]
      simp
    · rw [if_neg h, if_neg h]
theorem marks2_app : ∀ (l m : List (Option Nat)) (R : Raw), R.marks2 (l ++ m) = (R.marks2 l).marks2 m
  | [], m, R => by
    show R.marks2 m = ({ R with marks := R.marks ++ [], line := R.line ++ [] } : Raw).marks2 m
    rw [List.append_nil, List.append_nil]
  | o :: l, m, R => by
    rw [List.cons_append, marks2_cons, marks2_cons, marks2_app l m]
theorem marks2_one (R : Raw) (o : Option Nat) : R.marks2 [o] = R.markO o := by
  rw [marks2_cons]
  show ({ R.markO o with marks := (R.markO o).marks ++ [], line := (R.markO o).line ++ [] } : Raw) = R.markO o
  rw [List.append_nil, List.append_nil]
theorem marks2_snoc {R : Raw} {l : List (Option Nat)} {i : Nat} {o : Option Nat} (h : l[i]? = some o) : R.marks2 (l.take (i + 1)) = (R.marks2 (l.take i)).markO o := by
  rw [List.take_add_one, h, marks2_app]
  exact marks2_one _ o
end MP

set_option Elab.async false
set_option linter.all false
set_option maxRecDepth 100000
set_option maxHeartbeats 4000000
/-! What a law of ours keeps beside the heap: its hands, its rows, its deeds. -/
namespace MP
open PySem PySem.Spec PyProof.Rows L2 MM KG
/-! ### rows of a law -/
structure RowsAt (H : Hp) (qs : List Addr) (rows : List MM.Row) : Prop where
  len : qs.length = rows.length
  at_ : ∀ (i : Nat) (row : MM.Row), rows[i]? = some row → ∃ q, qs[i]? = some q ∧ H q = some (.lst (row.map optV))
theorem RowsAt.keep {H H' : Hp} {qs : List Addr} {rows : List MM.Row} (h : RowsAt H qs rows) (s : ∀ b ∈ qs, ∀ o, H b = some o → H' b = some o) : RowsAt H' qs rows :=
  ⟨h.len, fun i row e => by
    obtain ⟨q, e1, e2⟩ := h.at_ i row e
    exact ⟨q, e1, s q (List.mem_of_getElem? e1) _ e2⟩⟩
theorem RowsAt.nil {H : Hp} : RowsAt H [] [] := ⟨rfl, fun i row e => by simp at e⟩
theorem RowsAt.push {H : Hp} {qs : List Addr} {rows : List MM.Row} {q : Addr} {row : MM.Row} (h : RowsAt H qs rows) (e : H q = some (.lst (row.map optV))) : RowsAt H (qs ++ [q]) (rows ++ [row]) := by
  refine ⟨by rw [List.length_append, List.length_append, h.len]; rfl, fun i r er => ?_⟩
  by_cases hi : i < rows.length
  · rw [List.getElem?_append_left hi] at er
    obtain ⟨p, e1, e2⟩ := h.at_ i r er
    exact ⟨p, by rw [List.getElem?_append_left (by rw [h.len]; exact hi)]; exact e1, e2⟩
  · have hi2 : i = rows.length := by
      have := (List.getElem?_eq_some_iff.mp er).1
      rw [List.length_append, List.length_singleton] at this
      omega
    subst hi2
    rw [List.getElem?_append_right (Nat.le_refl _), Nat.sub_self] at er
    have er' : row = r := Option.some.inj er
    subst er'
    refine ⟨q, ?_, e⟩
    rw [← h.len, List.getElem?_append_right (Nat.le_refl _), Nat.sub_self]
    rfl
theorem RowsAt.set {H : Hp} {qs : List Addr} {rows : List MM.Row} {b : Nat} {q : Addr} {row : MM.Row} (h : RowsAt H qs rows) (hq : qs[b]? = some q) (nd : qs.Nodup) : RowsAt (upd H q (.lst (row.map optV))) qs (rows.set b row) := by
  refine ⟨by rw [List.length_set]; exact h.len, fun i r er => ?_⟩
  rw [List.getElem?_set] at er
  by_cases e : b = i
  · subst e
    rw [if_pos rfl] at er
    have hb : b < rows.length := by rw [← h.len]; exact (List.getElem?_eq_some_iff.mp hq).1
    rw [if_pos hb] at er
    cases er
    exact ⟨q, hq, upd_same⟩
  · rw [if_neg e] at er
    obtain ⟨p, e1, e2⟩ := h.at_ i r er
    exact ⟨p, e1, by rw [upd_ne fun (z : p = q) => e (nd_ix nd hq (z ▸ e1))]; exact e2⟩
structure LawAt (H : Hp) (hl rl : Addr) (qs : List Addr) (hands : List (Option Nat)) (rows : List MM.Row) : Prop where
  handsA : H hl = some (.lst (hands.map optV))
  rlA : H rl = some (.lst (qs.map V.ref))
  rowsA : RowsAt H qs rows
  ne : hl ≠ rl
  nh : hl ∉ qs
  nr : rl ∉ qs
  nd : qs.Nodup
def footL (hl rl : Addr) (qs : List Addr) (b : Addr) : Prop := b = hl ∨ b = rl ∨ b ∈ qs
theorem LawAt.tracked {H : Hp} {hl rl : Addr} {qs : List Addr} {hands : List (Option Nat)} {rows : List MM.Row} (h : LawAt H hl rl qs hands rows) {b : Addr} (f : footL hl rl qs b) : ∃ o, H b = some o := by
  rcases f with rfl | rfl | f
  · exact ⟨_, h.handsA⟩
  · exact ⟨_, h.rlA⟩
  · obtain ⟨i, hi⟩ := List.getElem?_of_mem f
    have lt : i < rows.length := by rw [← h.rowsA.len]; exact (List.getElem?_eq_some_iff.mp hi).1
    obtain ⟨q, e1, e2⟩ := h.rowsA.at_ i _ (List.getElem?_eq_getElem lt)
    rw [hi] at e1; cases e1
    exact ⟨_, e2⟩
theorem LawAt.keep {H H' : Hp} {hl rl : Addr} {qs : List Addr} {hands : List (Option Nat)} {rows : List MM.Row} (h : LawAt H hl rl qs hands rows) (s : ∀ b, footL hl rl qs b → ∀ o, H b = some o → H' b = some o) : LawAt H' hl rl qs hands rows :=
  ⟨s _ (.inl rfl) _ h.handsA, s _ (.inr (.inl rfl)) _ h.rlA, h.rowsA.keep fun b hb => s b (.inr (.inr hb)), h.ne, h.nh, h.nr, h.nd⟩
theorem LawAt.row {H : Hp} {hl rl : Addr} {qs : List Addr} {hands : List (Option Nat)} {rows : List MM.Row} (h : LawAt H hl rl qs hands rows) {k : Nat} (hk : k < rows.length) : ∃ q, qs[k]? = some q ∧ H q = some (.lst ((rowOf rows k).map optV)) :=
  h.rowsA.at_ k _ (rowOf_lt hk)
/-! ### deeds -/
inductive Deed
  | make (h n : Nat)
  | take (h o s : Nat)
  | put (h s o : Nat)
  | share (h o : Nat)
  | drop (h : Nat)
def Deed.vals : Deed → List V
  | .make h n => [.str "make", .int h, .int n]
  | .take h o s => [.str "take", .int h, .int o, .int s]
  | .put h s o => [.str "put", .int h, .int s, .int o]
  | .share h o => [.str "share", .int h, .int o]
  | .drop h => [.str "drop", .int h]
/-- it can be done -/
def Valid (hands : List (Option Nat)) (rows : List MM.Row) : Deed → Prop
  | .make h n => h < hands.length ∧ n ≤ 4
  | .take h o s => h < hands.length ∧ o < hands.length ∧ ∃ k, hands.getD o none = some k ∧ k < rows.length ∧ s < (rowOf rows k).length
  | .put h s o => h < hands.length ∧ o < hands.length ∧ ∃ k, hands.getD h none = some k ∧ k < rows.length ∧ s < (rowOf rows k).length
  | .share h o => h < hands.length ∧ o < hands.length
  | .drop h => h < hands.length
/-- done by plain rows -/
def doL (hands : List (Option Nat)) (rows : List MM.Row) : Deed → List (Option Nat) × List MM.Row
  | .make h n => (hands.set h (some rows.length), rows ++ [List.replicate n none])
  | .take h o s => (hands.set h ((rowOf rows ((hands.getD o none).getD 0)).getD s none), rows)
  | .put h s o => (hands, rows.set ((hands.getD h none).getD 0) ((rowOf rows ((hands.getD h none).getD 0)).set s (hands.getD o none)))
  | .share h o => (hands.set h (hands.getD o none), rows)
  | .drop h => (hands.set h none, rows)
/-- done by the heap -/
def doS (S : HS) : Deed → HS
  | .make h n => S.make h n
  | .take h o s => S.take h ((S.hand o).getD 0) s
  | .put h s o => S.put ((S.hand h).getD 0) s o
  | .share h o => S.share h o
  | .drop h => S.drop h
def resS (S : HS) : Deed → V
  | .make _ _ => .int S.rows.length
  | _ => .non
theorem doS_is (S : HS) (d : Deed) : ((doS S d).hands, (doS S d).rows) = doL S.hands S.rows d := by
  cases d with
  | put h s o =>
    show ((S.put _ _ _).hands, (S.put _ _ _).rows) = _
    unfold HS.put
    obtain ⟨m1, m2, _⟩ := markO_fields S (S.slot ((S.hand h).getD 0) s)
    split
    · rfl
    · show ((HS.markO _ _).hands, (HS.markO _ _).rows.set _ (List.set (rowOf (HS.markO _ _).rows _) _ _)) = _
      rw [m1, m2]
      rfl
  | _ => rfl
theorem Good.doS {S : HS} (G : Good S) {d : Deed} (v : Valid S.hands S.rows d) (hr : S.keys.length < S.room) : Good (doS S d) := by
  cases d with
  | make h n => exact Good.make G v.2 hr
  | take h o s =>
    obtain ⟨_, _, k, hk, _⟩ := v
    have hk : S.hand o = some k := hk
    show Good (S.take h _ s)
    rw [hk]
    exact Good.take G (G.handLive hk)
  | put h s o =>
    obtain ⟨_, _, k, hk, _⟩ := v
    have hk : S.hand h = some k := hk
    show Good (S.put _ s o)
    rw [hk]
    exact Good.put G (G.handLive hk)
  | share h o => exact Good.share G
  | drop h => exact Good.drop G
/-! ### heap and law beside each other -/
structure Duo (C : Addr) (H : Hp) (p hl rl : Addr) (X : Addr → Prop) (S : HS) (hands : List (Option Nat)) (rows : List MM.Row) : Prop where
  ex : ∃ F qs, HeapAt C H p F S ∧ LawAt H hl rl qs hands rows ∧ (∀ b, F b → ¬ footL hl rl qs b) ∧ X = fun b => F b ∨ footL hl rl qs b
theorem HeapAt.tracked {C p : Addr} {H : Hp} {F : Addr → Prop} {S : HS} (h : HeapAt C H p F S) {b : Addr} (f : F b) : ∃ o, H b = some o := by
  obtain ⟨A, h, rfl, _⟩ := h
  exact h.foot_at f
theorem HeapAt.keep {C p : Addr} {H H' : Hp} {F : Addr → Prop} {S : HS} (h : HeapAt C H p F S) (s : ∀ b, F b → ∀ o, H b = some o → H' b = some o) : HeapAt C H' p F S := by
  obtain ⟨A, h, rfl, g⟩ := h
  exact ⟨A, h.keep fun b o e f => s b f o e, rfl, g⟩
section
variable {C p hl rl : Addr} {H H' : Hp} {X : Addr → Prop} {S : HS} {hands : List (Option Nat)} {rows : List MM.Row}
theorem Duo.tracked (D : Duo C H p hl rl X S hands rows) {b : Addr} (f : X b) : ∃ o, H b = some o := by
  obtain ⟨F, qs, h, l, _, rfl⟩ := D.ex
  rcases f with f | f
  · exact h.tracked f
  · exact l.tracked f
theorem Duo.fresh (D : Duo C H p hl rl X S hands rows) {q : Addr} (n : H q = none) : ¬ X q := fun f => by
  obtain ⟨o, e⟩ := D.tracked f
  rw [n] at e; cases e
theorem Duo.keep (D : Duo C H p hl rl X S hands rows) (s : ∀ b, X b → ∀ o, H b = some o → H' b = some o) : Duo C H' p hl rl X S hands rows := by
  obtain ⟨F, qs, h, l, d, rfl⟩ := D.ex
  exact ⟨F, qs, h.keep fun b f => s b (.inl f), l.keep fun b f => s b (.inr f), d, rfl⟩
theorem Duo.same (D : Duo C H p hl rl X S hands rows) (s : Same H H') : Duo C H' p hl rl X S hands rows := D.keep fun b _ o e => s b o e
theorem Duo.out (D : Duo C H p hl rl X S hands rows) {q : Addr} {o : HO} (n : ¬ X q) : Duo C (upd H q o) p hl rl X S hands rows := D.keep fun b f o' e => by
  rw [upd_ne fun (z : b = q) => n (z ▸ f)]
  exact e
theorem Duo.good (D : Duo C H p hl rl X S hands rows) : Good S := D.ex.choose_spec.choose_spec.1.good
theorem Duo.ob (D : Duo C H p hl rl X S hands rows) : ∃ dx fs, H p = some (.ins C dx fs) ∧ (∀ m : Str, m ∉ (["_hands", "_room", "_rows", "_made", "_ended", "_old", "_marks", "_line", "_unswept"] : List Str) → fs.lookup m = none) := by
  obtain ⟨F, qs, h, l, d, rfl⟩ := D.ex
  exact h.ob
theorem Duo.hands_at (D : Duo C H p hl rl X S hands rows) : H hl = some (.lst (hands.map optV)) := by
  obtain ⟨F, qs, h, l, d, rfl⟩ := D.ex
  exact l.handsA
theorem Duo.foot_hl (D : Duo C H p hl rl X S hands rows) : X hl := by
  obtain ⟨F, qs, h, l, d, rfl⟩ := D.ex
  exact .inr (.inl rfl)
theorem Duo.foot_rl (D : Duo C H p hl rl X S hands rows) : X rl := by
  obtain ⟨F, qs, h, l, d, rfl⟩ := D.ex
  exact .inr (.inr (.inl rfl))
/-- a step of the heap -/
theorem Duo.heap (D : Duo C H p hl rl X S hands rows) {S' : HS} : ∃ F, HeapAt C H p F S ∧ (∀ b, F b → X b) ∧ ∀ H' F', HeapAt C H' p F' S' → Frm H F H' F' → ∃ X', Duo C H' p hl rl X' S' hands rows ∧ Frm H X H' X' := by
  obtain ⟨F, qs, h, l, d, rfl⟩ := D.ex
  refine ⟨F, h, fun _ => .inl, fun H' F' h' f => ?_⟩
  have nf : ∀ b, footL hl rl qs b → ∀ o, H b = some o → H' b = some o ∧ ¬ F' b := fun b z o e => f b o e fun y => d b y z
  have l' := l.keep (H' := H') fun b z o e => (nf b z o e).1
  refine ⟨fun b => F' b ∨ footL hl rl qs b, ⟨F', qs, h', l', fun b y z => ?_, rfl⟩, fun b o e n => ?_⟩
  · obtain ⟨o, e⟩ := l.tracked z
    exact (nf b z o e).2 y
  · obtain ⟨x, y⟩ := f b o e fun z => n (.inl z)
    exact ⟨x, fun z => z.elim y fun w => n (.inr w)⟩
/-- a step of the law -/
theorem Duo.law (D : Duo C H p hl rl X S hands rows) {hands' : List (Option Nat)} {rows' : List MM.Row} : ∃ qs, LawAt H hl rl qs hands rows ∧ (∀ b, footL hl rl qs b → X b) ∧ ∀ H' qs', LawAt H' hl rl qs' hands' rows' → Frm H (footL hl rl qs) H' (footL hl rl qs') → ∃ X', Duo C H' p hl rl X' S hands' rows' ∧ Frm H X H' X' := by
  obtain ⟨F, qs, h, l, d, rfl⟩ := D.ex
  refine ⟨qs, l, fun _ => .inr, fun H' qs' l' f => ?_⟩
  have nf : ∀ b, F b → ∀ o, H b = some o → H' b = some o ∧ ¬ footL hl rl qs' b := fun b z o e => f b o e (d b z)
  have h' := h.keep (H' := H') fun b z o e => (nf b z o e).1
  refine ⟨fun b => F b ∨ footL hl rl qs' b, ⟨F, qs', h', l', fun b z y => ?_, rfl⟩, fun b o e n => ?_⟩
  · obtain ⟨o, e⟩ := h.tracked z
    exact (nf b z o e).2 y
  · obtain ⟨x, y⟩ := f b o e fun z => n (.inr z)
    exact ⟨x, fun z => z.elim (fun w => n (.inl w)) y⟩
end
/-! ### lists of deeds -/
structure DeedsAt (H : Hp) (D : Addr) (qs : List Addr) (ds : List Deed) : Prop where
  at_ : H D = some (.lst (qs.map V.ref))
  len : qs.length = ds.length
  row : ∀ (i : Nat) (d : Deed), ds[i]? = some d → ∃ q, qs[i]? = some q ∧ H q = some (.lst d.vals)
def ValidL : List (Option Nat) → List MM.Row → List Deed → Prop
  | _, _, [] => True
  | h, r, d :: ds => Valid h r d ∧ ValidL (doL h r d).1 (doL h r d).2 ds
/-- the law's numbers -/
def mixN (ns : List Int) (k : Nat) : Nat := ((cellOf ns k * 48271 + 7919 * (k : Int)) % 1000003).toNat
section
variable (C : Addr) (EC : ECs) (K : PySem.W.Frag)
def spMixedAt : Sp := fun vs H Q _ => ∃ (l : Addr) (ns : List Int) (k : Nat), vs = [.ref l, .int (k : Int)] ∧ SqL K H l (ns.map V.int) ∧ Q (.int (mixN ns k : Int)) H
def spMixed : Sp := fun vs H Q _ => ∃ (l : Addr) (ns : List Int) (m : Nat), vs = [.ref l, .int (m : Int)] ∧ SqL K H l (ns.map V.int) ∧ ns.length ≤ 63 ∧
  ∀ (H' : Hp) (D : Addr) (cells : List Nat), Same H H' → H D = none → H' D = some (.lst (cells.map nV)) → cells.length ≤ 62 → Q (.ref D) H'
def Plain (xs : List V) : Prop := ∀ x ∈ xs, x = .non ∨ ∃ i, x = .int i
def spNumbers : Sp := fun vs H Q _ => ∃ (a b : Addr) (xs : List V), vs = [.ref a, .ref b] ∧ H a = some (.lst xs) ∧ H b = some (.lst xs) ∧ Plain xs ∧ xs.length ≤ 3000 ∧ Q (.bl true) H
def spWhole : Sp := fun vs H Q _ => ∃ i, vs = [.int i] ∧ Q (.bl true) H
def spDeeds : Sp := fun vs H Q _ => ∃ (c : Nat) (hl rl : Addr) (qs : List Addr) (hands : List (Option Nat)) (rows : List MM.Row), vs = [.int (c : Int), .ref hl, .ref rl] ∧ LawAt H hl rl qs hands rows ∧ 1 ≤ hands.length ∧ hands.length ≤ 8 ∧ (∀ k, some k ∈ hands → k < rows.length) ∧ (∀ row ∈ rows, row.length ≤ 4) ∧
  ∀ H' D qs' ds, Same H H' → H D = none → (∀ q ∈ qs', H q = none) → DeedsAt H' D qs' ds → ValidL hands rows ds → ds.length ≤ 2 → Q (.ref D) H'
def spDone : Sp := fun vs H Q _ => ∃ (q hl rl : Addr) (qs : List Addr) (hands : List (Option Nat)) (rows : List MM.Row) (d : Deed), vs = [.ref q, .ref hl, .ref rl] ∧ H q = some (.lst d.vals) ∧ LawAt H hl rl qs hands rows ∧ ¬ footL hl rl qs q ∧ Valid hands rows d ∧ rows.length ≤ 2000 ∧
  ∀ H' qs', LawAt H' hl rl qs' (doL hands rows d).1 (doL hands rows d).2 → Frm H (footL hl rl qs) H' (footL hl rl qs') → Q .non H'
def spAsked : Sp := fun vs H Q _ => ∃ (p q : Addr) (F : Addr → Prop) (S : HS) (d : Deed), vs = [.ref p, .ref q] ∧ HeapAt C H p F S ∧ H q = some (.lst d.vals) ∧ ¬ F q ∧ Valid S.hands S.rows d ∧ S.keys.length < S.room ∧
  ∀ H' F', HeapAt C H' p F' (doS S d) → Frm H F H' F' → Q (resS S d) H'
/-- a told list is as it is due; it is cleared -/
def spCleared : Sp := fun vs H Q _ => ∃ (a b : Addr) (xs : List V), vs = [.ref a, .ref b] ∧ H a = some (.lst xs) ∧ H b = some (.lst xs) ∧ Plain xs ∧ xs.length ≤ 3000 ∧ Q (.bl true) (upd H a (.lst []))
def spHolds : Sp := fun vs H Q _ => ∃ (p hl rl : Addr) (X : Addr → Prop) (S : HS), vs = [.ref p, .ref hl, .ref rl] ∧ Duo C H p hl rl X S S.hands S.rows ∧ ∀ H', Same H H' → Q (.bl true) H'
end
theorem plain_opt (row : List (Option Nat)) : Plain (row.map optV) := fun x hx => by
  obtain ⟨o, _, rfl⟩ := List.mem_map.mp hx
  cases o with
  | none => exact .inl rfl
  | some k => exact .inr ⟨k, rfl⟩
theorem plain_nat (l : List Nat) : Plain (l.map nV) := fun x hx => by
  obtain ⟨k, _, rfl⟩ := List.mem_map.mp hx
  exact .inr ⟨k, rfl⟩
theorem Duo.lists {C p hl rl : Addr} {H : Hp} {X : Addr → Prop} {S : HS} (D : Duo C H p hl rl X S S.hands S.rows) : ∃ qs, LawAt H hl rl qs S.hands S.rows ∧ 1 ≤ S.hands.length ∧ S.hands.length ≤ 8 ∧ (∀ k, some k ∈ S.hands → k < S.rows.length) ∧ (∀ row ∈ S.rows, row.length ≤ 4) := by
  obtain ⟨F, qs, h, l, dj, rfl⟩ := D.ex
  have G := h.good
  exact ⟨qs, l, G.hn.1, G.hn.2, fun j e => G.lt j (G.hl j e).1, G.four⟩
theorem doS_hands (S : HS) (d : Deed) : (doL S.hands S.rows d).1 = (doS S d).hands := congrArg Prod.fst (doS_is S d).symm
theorem doS_rows (S : HS) (d : Deed) : (doL S.hands S.rows d).2 = (doS S d).rows := congrArg Prod.snd (doS_is S d).symm
theorem put_fields (S : HS) (b s o : Nat) : (S.put b s o).keys = S.keys ∧ (S.put b s o).room = S.room ∧ (S.put b s o).unsw = S.unsw ∧ (S.put b s o).ended = S.ended ∧ (S.put b s o).old = S.old ∧ (S.put b s o).snap = S.snap := by
  unfold HS.put
  split
  · exact ⟨rfl, rfl, rfl, rfl, rfl, rfl⟩
  · obtain ⟨m1, m2, m3, m4, m5, m6, m7, m8⟩ := markO_fields S (S.slot b s)
    exact ⟨m3, m8, m6, m7, m4, m5⟩
theorem doS_fields (S : HS) (d : Deed) : (doS S d).room = S.room ∧ (doS S d).unsw = S.unsw ∧ (doS S d).ended = S.ended ∧ (doS S d).old = S.old ∧ (doS S d).snap = S.snap ∧ S.rows.length ≤ (doS S d).rows.length ∧ (doS S d).rows.length ≤ S.rows.length + 1 ∧ (doS S d).keys.length ≤ S.keys.length + 1 ∧ (doS S d).hands.length = S.hands.length := by
  cases d with
  | make h n =>
    refine ⟨rfl, rfl, rfl, rfl, rfl, ?_, ?_, ?_, ?_⟩
    · show _ ≤ (S.rows ++ [_]).length
      rw [List.length_append]; omega
    · show (S.rows ++ [_]).length ≤ _
      rw [List.length_append]; exact Nat.le_refl _
    · show (S.keys ++ [_]).length ≤ _
      rw [List.length_append]; exact Nat.le_refl _
    · show (S.hands.set _ _).length = _
      rw [List.length_set]
  | put h s o =>
    obtain ⟨a, b, c, d, e, f⟩ := put_fields S ((S.hand h).getD 0) s o
    have x := doS_is S (.put h s o)
    have y : (doS S (.put h s o)).rows = _ := congrArg Prod.snd x
    have z : (doS S (.put h s o)).hands = _ := congrArg Prod.fst x
    refine ⟨b, c, d, e, f, ?_, ?_, Nat.le_succ_of_le (Nat.le_of_eq (congrArg List.length a)), ?_⟩
    · rw [y]; show _ ≤ (S.rows.set _ _).length; rw [List.length_set]; exact Nat.le_refl _
    · rw [y]; show (S.rows.set _ _).length ≤ _; rw [List.length_set]; omega
    · rw [z]; rfl
  | take h o s => exact ⟨rfl, rfl, rfl, rfl, rfl, Nat.le_refl _, Nat.le_succ _, Nat.le_succ _, by show (S.hands.set _ _).length = _; rw [List.length_set]⟩
  | share h o => exact ⟨rfl, rfl, rfl, rfl, rfl, Nat.le_refl _, Nat.le_succ _, Nat.le_succ _, by show (S.hands.set _ _).length = _; rw [List.length_set]⟩
  | drop h => exact ⟨rfl, rfl, rfl, rfl, rfl, Nat.le_refl _, Nat.le_succ _, Nat.le_succ _, by show (S.hands.set _ _).length = _; rw [List.length_set]⟩
theorem keysLe {S : HS} (G : Good S) : S.keys.length ≤ S.rows.length := by
  have := nodup_sub S.keys (List.range S.rows.length) (rising_nodup G.rise) fun k hk => List.mem_range.mpr (G.lt k hk)
  rwa [List.length_range] at this
def spLaw (K : PySem.W.Frag) : Sp := fun vs H Q _ => ∃ (a : Addr) (ns : List Int), vs = [.ref a] ∧ SqL K H a (ns.map V.int) ∧ ns.length ≤ 63 ∧ ∀ H', Q (.bl true) H'
theorem Duo.start {C p hl rl : Addr} {H H2 : Hp} {F : Addr → Prop} {n r : Nat} (h : HeapAt C H p F (HS.new n r)) (s : Same H H2) (e1 : H2 hl = some (.lst ((List.replicate n (none : Option Nat)).map optV))) (e2 : H2 rl = some (.lst [])) (ne : hl ≠ rl) (n1 : H hl = none) (n2 : H rl = none) :
    ∃ X, Duo C H2 p hl rl X (HS.new n r) (HS.new n r).hands (HS.new n r).rows ∧ ∀ b o, H b = some o → ¬ F b → H2 b = some o ∧ ¬ X b := by
  refine ⟨fun b => F b ∨ footL hl rl [] b, ⟨F, [], h.same s, ⟨e1, e2, RowsAt.nil, ne, by simp, by simp, .nil⟩, fun b y z => ?_, rfl⟩, fun b o e n => ⟨s b o e, fun z => ?_⟩⟩
  · obtain ⟨o, e⟩ := h.tracked y
    rcases z with rfl | rfl | z
    · rw [n1] at e; cases e
    · rw [n2] at e; cases e
    · exact absurd z (by simp)
  · rcases z with z | z | z | z
    · exact n z
    · subst z; rw [n1] at e; cases e
    · subst z; rw [n2] at e; cases e
    · exact absurd z (by simp)
theorem Duo.made {C p hl rl : Addr} {H : Hp} {X : Addr → Prop} {S : HS} (D : Duo C H p hl rl X S S.hands S.rows) : ∃ qs : List Addr, H rl = some (.lst (qs.map V.ref)) ∧ qs.length = S.rows.length ∧ ∀ k, k < S.rows.length → ∃ q, qs[k]? = some q ∧ H q = some (.lst ((S.row k).map optV)) := by
  obtain ⟨F, qs, h, l, dj, rfl⟩ := D.ex
  exact ⟨qs, l.rlA, l.rowsA.len, fun k hk => l.row hk⟩
theorem DeedsAt.nth {H : Hp} {L : Addr} {qs : List Addr} {ds : List Deed} (h : DeedsAt H L qs ds) {i : Nat} {x : V} (e : (qs.map V.ref)[i]? = some x) : ∃ q d, x = V.ref q ∧ q ∈ qs ∧ ds[i]? = some d ∧ H q = some (.lst d.vals) ∧ ds.drop i = d :: ds.drop (i + 1) := by
  rw [List.getElem?_map] at e
  cases eq : qs[i]? with
  | none => rw [eq] at e; cases e
  | some q =>
    rw [eq] at e
    cases e
    have hi : i < ds.length := by rw [← h.len]; exact (List.getElem?_eq_some_iff.mp eq).1
    obtain ⟨q', e1, e2⟩ := h.row i _ (List.getElem?_eq_getElem hi)
    rw [eq] at e1; cases e1
    exact ⟨q, ds[i], rfl, List.mem_of_getElem? eq, List.getElem?_eq_getElem hi, e2, List.drop_eq_getElem_cons hi⟩
theorem deed_first (d : Deed) : ∃ (s : Str) (r : List V), d.vals = .str s :: r ∧ (s = "make" ↔ ∃ h n, d = .make h n) ∧ (s = "put" ↔ ∃ h x o, d = .put h x o) := by
  cases d with
  | make h n => exact ⟨_, _, rfl, ⟨fun _ => ⟨h, n, rfl⟩, fun _ => rfl⟩, ⟨fun e => absurd e (by decide), fun ⟨_, _, _, e⟩ => nomatch e⟩⟩
  | take h o s => exact ⟨_, _, rfl, ⟨fun e => absurd e (by decide), fun ⟨_, _, e⟩ => nomatch e⟩, ⟨fun e => absurd e (by decide), fun ⟨_, _, _, e⟩ => nomatch e⟩⟩
  | put h s o => exact ⟨_, _, rfl, ⟨fun e => absurd e (by decide), fun ⟨_, _, e⟩ => nomatch e⟩, ⟨fun _ => ⟨h, s, o, rfl⟩, fun _ => rfl⟩⟩
  | share h o => exact ⟨_, _, rfl, ⟨fun e => absurd e (by decide), fun ⟨_, _, e⟩ => nomatch e⟩, ⟨fun e => absurd e (by decide), fun ⟨_, _, _, e⟩ => nomatch e⟩⟩
  | drop h => exact ⟨_, _, rfl, ⟨fun e => absurd e (by decide), fun ⟨_, _, e⟩ => nomatch e⟩, ⟨fun e => absurd e (by decide), fun ⟨_, _, _, e⟩ => nomatch e⟩⟩
/-- the collector has never worked -/
structure Calm (S : HS) : Prop where
  room : S.room = 1000
  keys : S.keys = List.range S.rows.length
  unsw : S.unsw = []
  line : S.line = []
  ended : S.ended = 0
theorem Calm.doS {S : HS} (c : Calm S) (d : Deed) : Calm (MP.doS S d) := by
  obtain ⟨a, b, e, _⟩ := doS_fields S d
  have nu : (MP.doS S d).unsw = [] := b.trans c.unsw
  have ne : (MP.doS S d).ended = 0 := e.trans c.ended
  have nr : (MP.doS S d).room = 1000 := a.trans c.room
  cases d with
  | make h n =>
    refine ⟨nr, ?_, nu, c.line, ne⟩
    show S.keys ++ [S.rows.length] = List.range (S.rows ++ [_]).length
    rw [c.keys, List.length_append, List.length_singleton, List.range_succ]
  | put h s o =>
    have e : MP.doS S (.put h s o) = S.write ((S.hand h).getD 0) s (S.hand o) := by show S.put _ _ _ = _; unfold HS.put; rw [if_pos c.line]
    refine ⟨nr, ?_, nu, ?_, ne⟩
    · rw [e]
      show S.keys = List.range (S.rows.set _ _).length
      rw [List.length_set]
      exact c.keys
    · rw [e]; exact c.line
  | take h o s => exact ⟨nr, c.keys, nu, c.line, ne⟩
  | share h o => exact ⟨nr, c.keys, nu, c.line, ne⟩
  | drop h => exact ⟨nr, c.keys, nu, c.line, ne⟩
def spChain (C : Addr) : Sp := fun vs H Q _ => ∃ (p hl rl : Addr) (X : Addr → Prop) (S : HS) (n : Nat), vs = [.ref p, .ref hl, .ref rl, .int (n : Int)] ∧ Duo C H p hl rl X S S.hands S.rows ∧ 2 ≤ S.hands.length ∧ n ≤ 100 ∧ S.rows.length + n ≤ 900 ∧ Calm S ∧
  ∀ H' X' S', Duo C H' p hl rl X' S' S'.hands S'.rows → Frm H X H' X' → Calm S' → S'.hands.length = S.hands.length → S'.rows.length ≤ S.rows.length + n → Q .non H'
theorem chain_valid {hands : List (Option Nat)} (rows : List MM.Row) (k : Nat) (h : 2 ≤ hands.length) : ValidL hands rows [.make 1 (1 + k % 4), .put 1 (k % 4) 0, .share 0 1] := by
  have m : k % 4 < 4 := Nat.mod_lt _ (by decide)
  have e1 : rowOf (rows ++ [List.replicate (1 + k % 4) none]) rows.length = List.replicate (1 + k % 4) none := by rw [rowOf_push, if_pos rfl]
  have e2 : (hands.set 1 (some rows.length)).getD 1 none = some rows.length := by
    rw [List.getD_eq_getElem?_getD, List.getElem?_set, if_pos rfl, if_pos (by omega)]
    rfl
  refine ⟨⟨by omega, by omega⟩, ⟨?_, ?_, rows.length, e2, ?_, ?_⟩, ⟨?_, ?_⟩, trivial⟩
  · show 1 < (hands.set _ _).length; rw [List.length_set]; omega
  · show 0 < (hands.set _ _).length; rw [List.length_set]; omega
  · show _ < (rows ++ [_]).length; rw [List.length_append, List.length_singleton]; omega
  · show k % 4 < (rowOf (rows ++ [List.replicate (1 + k % 4) none]) rows.length).length
    rw [e1, List.length_replicate]; omega
  · show 0 < (hands.set _ _).length; rw [List.length_set]; omega
  · show 1 < (hands.set _ _).length; rw [List.length_set]; omega
/-! ### lists of numbers compared -/
def dN (k : Nat) : PyData := .int (k : Int)
def dI (l : List Nat) : PyData := .list (l.map dN)
theorem dpAll_nats {K : PySem.W.Frag} {H : Hp} : ∀ l : List Nat, DpAll K H (l.map nV) (l.map dN)
  | [] => .nil
  | k :: l => .cons (.int _) (dpAll_nats l)
theorem dp_nats {K : PySem.W.Frag} {H : Hp} {a : Addr} {l : List Nat} (h : SqL K H a (l.map nV)) : Dp K H (.ref a) (dI l) := .lst h (dpAll_nats l)
theorem lay_nats : ∀ l : List Nat, PyData.canLayAll0 (l.map dN) = true
  | [] => by simp [PyData.canLayAll0]
  | k :: l => by
    rw [List.map_cons, PyData.canLayAll0, lay_nats l]
    simp [PyData.canLay0, dN]
theorem depth_nats : ∀ l : List Nat, PyData.depthAll (l.map dN) = 0
  | [] => by simp [PyData.depthAll]
  | k :: l => by
    rw [List.map_cons, PyData.depthAll, depth_nats l]
    simp [PyData.depth, dN]
theorem shaped_nats (l : List Nat) : SeqAt.shaped (dI l) = true := by
  unfold SeqAt.shaped dI
  rw [PyData.canLay0, PyData.depth, lay_nats, depth_nats]
  rfl
theorem eqv_nats : ∀ l m : List Nat, PyData.eqvAll (l.map dN) (m.map dN) = decide (l = m)
  | [], [] => by simp [PyData.eqvAll]
  | [], b :: m => by simp [PyData.eqvAll]
  | a :: l, [] => by simp [PyData.eqvAll]
  | a :: l, b :: m => by
    rw [List.map_cons, List.map_cons, PyData.eqvAll, eqv_nats l m]
    unfold dN
    rw [PyData.eqv]
    by_cases h : a = b
    · subst h
      simp
    · have : ((a : Int) == (b : Int)) = false := by simp; omega
      rw [this]
      simp [h]
theorem eqv_dI (l m : List Nat) : PyData.eqv (dI l) (dI m) = decide (l = m) := by
  unfold dI
  rw [PyData.eqv]
  exact eqv_nats l m
/-! ### the work leaves the hands and the rows -/
theorem step_fields (S : HS) : S.step.1.hands = S.hands ∧ S.step.1.rows = S.rows ∧ S.step.1.room = S.room := by
  unfold HS.step
  split
  · split
    · rw [began_eq]; exact ⟨rfl, rfl, rfl⟩
    · unfold HS.sweepOn
      split
      · exact ⟨rfl, rfl, rfl⟩
      · split <;> exact ⟨rfl, rfl, rfl⟩
  · unfold HS.markOn
    split
    · exact ⟨rfl, rfl, rfl⟩
    · rw [markAll_eq]; exact ⟨rfl, rfl, rfl⟩
theorem piece_fields (S : HS) : S.piece.1.hands = S.hands ∧ S.piece.1.rows = S.rows ∧ S.piece.1.room = S.room := by
  obtain ⟨a, b, c⟩ := step_fields S
  show S.step.1.ends.hands = _ ∧ S.step.1.ends.rows = _ ∧ S.step.1.ends.room = _
  unfold HS.ends
  split
  · exact ⟨a, b, c⟩
  · exact ⟨a, b, c⟩
theorem work_fields (S : HS) : ∀ n, (HS.work n S).1.hands = S.hands ∧ (HS.work n S).1.rows = S.rows ∧ (HS.work n S).1.room = S.room
  | 0 => ⟨rfl, rfl, rfl⟩
  | n + 1 => by
    obtain ⟨a, b, c⟩ := work_fields S n
    obtain ⟨x, y, z⟩ := piece_fields (HS.work n S).1
    exact ⟨x.trans a, y.trans b, z.trans c⟩
/-! ### lists of deeds, one more behind -/
def doAll : List (Option Nat) → List MM.Row → List Deed → List (Option Nat) × List MM.Row
  | h, r, [] => (h, r)
  | h, r, d :: ds => doAll (doL h r d).1 (doL h r d).2 ds
theorem validL_snoc : ∀ (ds : List Deed) (h : List (Option Nat)) (r : List MM.Row) (d : Deed), ValidL h r ds → Valid (doAll h r ds).1 (doAll h r ds).2 d → ValidL h r (ds ++ [d])
  | [], h, r, d, _, v => ⟨v, trivial⟩
  | e :: ds, h, r, d, v, w => ⟨v.1, validL_snoc ds _ _ d v.2 w⟩
theorem doAll_snoc : ∀ (ds : List Deed) (h : List (Option Nat)) (r : List MM.Row) (d : Deed), doAll h r (ds ++ [d]) = doL (doAll h r ds).1 (doAll h r ds).2 d
  | [], h, r, d => rfl
  | e :: ds, h, r, d => doAll_snoc ds _ _ d
def spSeveral : Sp := fun vs H Q _ => ∃ (c : Nat) (hl rl : Addr) (qs : List Addr) (hands : List (Option Nat)) (rows : List MM.Row), vs = [.int (c : Int), .ref hl, .ref rl] ∧ LawAt H hl rl qs hands rows ∧ 1 ≤ hands.length ∧ hands.length ≤ 8 ∧ (∀ k, Rc hands rows k → k < rows.length) ∧ (∀ row ∈ rows, row.length ≤ 4) ∧
  ∀ H' D qs' ds, Same H H' → H D = none → (∀ q ∈ qs', H q = none) → DeedsAt H' D qs' ds → ValidL hands rows ds → ds.length ≤ 10 → Q (.ref D) H'
def spLooked (C : Addr) : Sp := fun vs H Q _ => ∃ (p : Addr) (F : Addr → Prop) (S : HS) (b : Nat), vs = [.ref p, .int (b : Int)] ∧ HeapAt C H p F S ∧ b ∈ S.keys ∧ ∀ l, H l = none → Q (.ref l) (upd H l (.lst ((S.row b).map optV)))
/-- the deeds are asked of the heap and done by the law -/
def spSeen (C : Addr) : Sp := fun vs H Q _ => ∃ (p hl rl Ld : Addr) (X : Addr → Prop) (S : HS) (qs : List Addr) (ds : List Deed), vs = [.ref p, .ref Ld, .ref hl, .ref rl] ∧ Duo C H p hl rl X S S.hands S.rows ∧ DeedsAt H Ld qs ds ∧ ¬ X Ld ∧ (∀ q ∈ qs, ¬ X q) ∧ ValidL S.hands S.rows ds ∧ S.room = 1000 ∧ S.rows.length + ds.length ≤ 990 ∧
  ∀ H' X' S', Duo C H' p hl rl X' S' S'.hands S'.rows → Frm H X H' X' → S'.room = 1000 → S'.rows.length ≤ S.rows.length + ds.length → Q (.bl true) H'
theorem DeedsAt.push {H H' : Hp} {L L' q : Addr} {qs : List Addr} {ds : List Deed} {d : Deed} (h : DeedsAt H L qs ds) (hL : H' L' = some (.lst ((qs ++ [q]).map V.ref))) (k : ∀ x ∈ qs, ∀ u, H x = some u → H' x = some u) (hq : H' q = some (.lst d.vals)) : DeedsAt H' L' (qs ++ [q]) (ds ++ [d]) := by
  refine ⟨hL, by rw [List.length_append, List.length_append, h.len]; rfl, fun i e he => ?_⟩
  by_cases hi : i < ds.length
  · rw [List.getElem?_append_left hi] at he
    obtain ⟨q', x, y⟩ := h.row i e he
    exact ⟨q', by rw [List.getElem?_append_left (by rw [h.len]; exact hi)]; exact x, k q' (List.mem_of_getElem? x) _ y⟩
  · have := (List.getElem?_eq_some_iff.mp he).1
    rw [List.length_append, List.length_singleton] at this
    have ei : i = ds.length := by omega
    subst ei
    rw [List.getElem?_append_right (Nat.le_refl _), Nat.sub_self] at he
    cases he
    exact ⟨q, by rw [← h.len, List.getElem?_append_right (Nat.le_refl _), Nat.sub_self]; rfl, hq⟩
theorem Frm.seq {K : PySem.W.Frag} {H H' : Hp} {X X' : Addr → Prop} {l : Addr} {xs : List V} (f : Frm H X H' X') (h : SqL K H l xs) (n : ∀ o, H l = some o → ¬ X l) : SqL K H' l xs ∧ ∀ o, H' l = some o → (∃ o, H l = some o) → ¬ X' l := by
  rcases h with (h | ⟨o, h⟩) | h
  · exact ⟨.inl (.inl (f _ _ h (n _ h)).1), fun _ _ _ => (f _ _ h (n _ h)).2⟩
  · exact ⟨.inl (.inr ⟨o, (f _ _ h (n _ h)).1⟩), fun _ _ _ => (f _ _ h (n _ h)).2⟩
  · exact ⟨.inr h, fun _ _ ⟨o, e⟩ => (f _ _ e (n _ e)).2⟩
theorem Duo.work {C p hl rl : Addr} {H : Hp} {X : Addr → Prop} {S : HS} {n : Nat} (D : Duo C H p hl rl X (HS.work n S).1 S.hands S.rows) : Duo C H p hl rl X (HS.work n S).1 (HS.work n S).1.hands (HS.work n S).1.rows := by
  obtain ⟨a, b, _⟩ := work_fields S n
  rw [a, b]
  exact D
theorem tabD {c : Nat} (h : c % 10 < 7) : ∃ t : Nat, atI ([V.int 0, V.int 1, V.int 2, V.int 3, V.int 5, V.int 6, V.int 7] : List V) ((c : Int) % 10) = some (V.int (t : Int)) := by
  rw [show ((c : Int) % 10) = ((c % 10 : Nat) : Int) by omega]
  generalize c % 10 = j at h
  match j, h with
  | 0, _ => exact ⟨0, rfl⟩
  | 1, _ => exact ⟨1, rfl⟩
  | 2, _ => exact ⟨2, rfl⟩
  | 3, _ => exact ⟨3, rfl⟩
  | 4, _ => exact ⟨5, rfl⟩
  | 5, _ => exact ⟨6, rfl⟩
  | 6, _ => exact ⟨7, rfl⟩
end MP

set_option linter.all false
/-! Going through the boxes first come first. -/
namespace MM
theorem ext_consS (old m : List Nat) (k : Nat) (r : List (Option Nat)) : ext old m (some k :: r) = if k ∈ old ∧ k ∉ m then k :: ext old (m ++ [k]) r else ext old m r := by rw [ext]
theorem ext_app : ∀ (l r : List (Option Nat)) (old m : List Nat), ext old m (l ++ r) = ext old m l ++ ext old (m ++ ext old m l) r
  | [], r, old, m => by
    show ext old m r = [] ++ ext old (m ++ []) r
    rw [List.append_nil, List.nil_append]
  | none :: l, r, old, m => ext_app l r old m
  | some k :: l, r, old, m => by
    rw [List.cons_append, ext_consS, ext_consS]
    by_cases h : k ∈ old ∧ k ∉ m
    · rw [if_pos h, if_pos h, ext_app l r old (m ++ [k])]
      simp
    · rw [if_neg h, if_neg h, ext_app l r old m]
theorem ext_snoc {l : List (Option Nat)} {old m : List Nat} {k : Nat} : ext old m (l ++ [some k]) = ext old m l ++ (if k ∈ old ∧ k ∉ m ++ ext old m l then [k] else []) := by
  rw [ext_app, ext_consS]
  rfl
theorem ext_snocN {l : List (Option Nat)} {old m : List Nat} : ext old m (l ++ [none]) = ext old m l := by
  rw [ext_app]
  show _ ++ [] = _
  rw [List.append_nil]
def bfs (old : List Nat) (hands : List (Option Nat)) (rows : List Row) : Nat → List Nat
  | 0 => ext old [] hands
  | n + 1 => match (bfs old hands rows n)[n]? with
    | some b => bfs old hands rows n ++ ext old (bfs old hands rows n) (rowOf rows b)
    | none => bfs old hands rows n
section
variable {old : List Nat} {hands : List (Option Nat)} {rows : List Row}
theorem bfs_some {n b : Nat} (h : (bfs old hands rows n)[n]? = some b) : bfs old hands rows (n + 1) = bfs old hands rows n ++ ext old (bfs old hands rows n) (rowOf rows b) := by
  show (match (bfs old hands rows n)[n]? with | some b => _ | none => _) = _
  rw [h]
theorem bfs_none {n : Nat} (h : (bfs old hands rows n).length ≤ n) : bfs old hands rows (n + 1) = bfs old hands rows n := by
  show (match (bfs old hands rows n)[n]? with | some b => _ | none => _) = _
  rw [List.getElem?_eq_none h]
theorem bfs_nodup : ∀ n, (bfs old hands rows n).Nodup
  | 0 => nodup_ext _ _ _
  | n + 1 => by
    by_cases h : n < (bfs old hands rows n).length
    · rw [bfs_some (List.getElem?_eq_getElem h)]
      exact nodup_app (bfs_nodup n) (nodup_ext _ _ _) fun k hk => ((mem_ext _ _ _ k).mp hk).2.2
    · rw [bfs_none (Nat.le_of_not_lt h)]
      exact bfs_nodup n
theorem bfs_old : ∀ n k, k ∈ bfs old hands rows n → k ∈ old
  | 0, k, hk => ((mem_ext _ _ _ k).mp hk).2.1
  | n + 1, k, hk => by
    by_cases h : n < (bfs old hands rows n).length
    · rw [bfs_some (List.getElem?_eq_getElem h)] at hk
      rcases List.mem_append.mp hk with hk | hk
      · exact bfs_old n k hk
      · exact ((mem_ext _ _ _ k).mp hk).2.1
    · rw [bfs_none (Nat.le_of_not_lt h)] at hk
      exact bfs_old n k hk
theorem bfs_len (n : Nat) : (bfs old hands rows n).length ≤ old.length := nodup_sub _ _ (bfs_nodup n) (bfs_old n)
theorem bfs_pre (n : Nat) : ∃ r, bfs old hands rows (n + 1) = bfs old hands rows n ++ r := by
  by_cases h : n < (bfs old hands rows n).length
  · exact ⟨_, bfs_some (List.getElem?_eq_getElem h)⟩
  · exact ⟨[], by rw [bfs_none (Nat.le_of_not_lt h), List.append_nil]⟩
theorem bfs_pre' (n : Nat) : ∀ m, ∃ r, bfs old hands rows (n + m) = bfs old hands rows n ++ r
  | 0 => ⟨[], by rw [Nat.add_zero, List.append_nil]⟩
  | m + 1 => by
    obtain ⟨r, hr⟩ := bfs_pre' n m
    obtain ⟨r2, h2⟩ := bfs_pre (old := old) (hands := hands) (rows := rows) (n + m)
    exact ⟨r ++ r2, by rw [← Nat.add_assoc, h2, hr, List.append_assoc]⟩
theorem bfs_stop {n : Nat} (h : (bfs old hands rows n).length ≤ n) : ∀ m, bfs old hands rows (n + m) = bfs old hands rows n
  | 0 => rfl
  | m + 1 => by
    have ih := bfs_stop h m
    rw [← Nat.add_assoc, bfs_none (by rw [ih]; omega), ih]
def came (old : List Nat) (hands : List (Option Nat)) (rows : List Row) : List Nat := bfs old hands rows old.length
theorem came_is {n : Nat} (h : (bfs old hands rows n).length ≤ n) : came old hands rows = bfs old hands rows n := by
  unfold came
  by_cases c : n ≤ old.length
  · have := bfs_stop h (old.length - n)
    rwa [show n + (old.length - n) = old.length by omega] at this
  · have h2 : (bfs old hands rows old.length).length ≤ old.length := bfs_len _
    have := bfs_stop h2 (n - old.length)
    rw [show old.length + (n - old.length) = n by omega] at this
    exact this.symm
/-- while it goes on, the place is there -/
theorem bfs_on {n : Nat} (h : n < (came old hands rows).length) : n < (bfs old hands rows n).length := by
  by_cases c : n < (bfs old hands rows n).length
  · exact c
  · rw [came_is (Nat.le_of_not_lt c)] at h
    exact h
theorem bfs_at {n b : Nat} (h : (came old hands rows)[n]? = some b) : (bfs old hands rows n)[n]? = some b := by
  have hn := (List.getElem?_eq_some_iff.mp h).1
  have h1 := bfs_on hn
  have h2 : n ≤ old.length := Nat.le_trans (Nat.le_of_lt h1) (bfs_len n)
  obtain ⟨r, hr⟩ := bfs_pre' (old := old) (hands := hands) (rows := rows) n (old.length - n)
  rw [show n + (old.length - n) = old.length by omega] at hr
  unfold came at h
  rw [hr, List.getElem?_append_left h1] at h
  exact h
theorem bfs_end : (bfs old hands rows (came old hands rows).length).length ≤ (came old hands rows).length := by
  by_cases c : (came old hands rows).length < (bfs old hands rows (came old hands rows).length).length
  · have h2 : (came old hands rows).length ≤ old.length := bfs_len _
    obtain ⟨r, hr⟩ := bfs_pre' (old := old) (hands := hands) (rows := rows) (came old hands rows).length (old.length - (came old hands rows).length)
    rw [show (came old hands rows).length + (old.length - (came old hands rows).length) = old.length by omega] at hr
    have : (came old hands rows).length = _ := congrArg List.length hr
    rw [List.length_append] at this
    omega
  · exact Nat.le_of_not_lt c
theorem came_end : bfs old hands rows (came old hands rows).length = came old hands rows := (came_is bfs_end).symm
theorem came_nodup : (came old hands rows).Nodup := bfs_nodup _
theorem bfs_rc (ho : ∀ k, Rc hands rows k → k ∈ old) : ∀ n k, k ∈ bfs old hands rows n → Rc hands rows k
  | 0, k, hk => .hand ((mem_ext _ _ _ k).mp hk).1
  | n + 1, k, hk => by
    by_cases h : n < (bfs old hands rows n).length
    · rw [bfs_some (List.getElem?_eq_getElem h)] at hk
      rcases List.mem_append.mp hk with hk | hk
      · exact bfs_rc ho n k hk
      · exact .slot (bfs_rc ho n _ (List.getElem_mem h)) ((mem_ext _ _ _ k).mp hk).1
    · rw [bfs_none (Nat.le_of_not_lt h)] at hk
      exact bfs_rc ho n k hk
theorem bfs_closed : ∀ n i b, i < n → (bfs old hands rows n)[i]? = some b → ∀ j, some j ∈ rowOf rows b → j ∈ old → j ∈ bfs old hands rows n
  | 0, i, b, h, _, _, _, _ => absurd h (Nat.not_lt_zero _)
  | n + 1, i, b, hi, hb, j, hj, ho => by
    by_cases h : n < (bfs old hands rows n).length
    · have e := bfs_some (old := old) (hands := hands) (rows := rows) (List.getElem?_eq_getElem h)
      by_cases c : i = n
      · subst c
        rw [e, List.getElem?_append_left h, List.getElem?_eq_getElem h] at hb
        cases hb
        rw [e]
        by_cases m : j ∈ bfs old hands rows i
        · exact List.mem_append_left _ m
        · exact List.mem_append_right _ ((mem_ext _ _ _ j).mpr ⟨hj, ho, m⟩)
      · rw [e, List.getElem?_append_left (by omega)] at hb
        rw [e]
        exact List.mem_append_left _ (bfs_closed n i b (by omega) hb j hj ho)
    · have e := bfs_none (old := old) (hands := hands) (rows := rows) (Nat.le_of_not_lt h)
      rw [e] at hb ⊢
      have := (List.getElem?_eq_some_iff.mp hb).1
      exact bfs_closed n i b (by omega) hb j hj ho
theorem hand_bfs (ho : ∀ k, Rc hands rows k → k ∈ old) : ∀ n k, some k ∈ hands → k ∈ bfs old hands rows n
  | 0, k, hk => (mem_ext _ _ _ k).mpr ⟨hk, ho k (.hand hk), by simp⟩
  | n + 1, k, hk => by
    obtain ⟨r, hr⟩ := bfs_pre (old := old) (hands := hands) (rows := rows) n
    rw [hr]
    exact List.mem_append_left _ (hand_bfs ho n k hk)
theorem mem_came (ho : ∀ k, Rc hands rows k → k ∈ old) {k : Nat} : k ∈ came old hands rows ↔ Rc hands rows k := by
  constructor
  · exact bfs_rc ho _ k
  · intro h
    induction h with
    | hand h => exact hand_bfs ho _ _ h
    | @slot v w hv hj ih =>
      obtain ⟨i, hi⟩ := List.getElem?_of_mem ih
      have hlt : i < old.length := Nat.lt_of_lt_of_le (List.getElem?_eq_some_iff.mp hi).1 (bfs_len _)
      exact bfs_closed old.length i v hlt hi w hj (ho w (.slot hv hj))
/-- it does not matter what may be come to besides -/
theorem ext_old {old old2 : List Nat} : ∀ (l : List (Option Nat)) (m : List Nat), (∀ k, some k ∈ l → (k ∈ old ↔ k ∈ old2)) → ext old m l = ext old2 m l
  | [], m, _ => rfl
  | none :: r, m, h => ext_old r m fun k hk => h k (List.mem_cons_of_mem _ hk)
  | some j :: r, m, h => by
    rw [ext_consS, ext_consS]
    have hj := h j List.mem_cons_self
    by_cases c : j ∈ old ∧ j ∉ m
    · rw [if_pos c, if_pos ⟨hj.mp c.1, c.2⟩, ext_old r _ fun k hk => h k (List.mem_cons_of_mem _ hk)]
    · rw [if_neg c, if_neg fun z => c ⟨hj.mpr z.1, z.2⟩, ext_old r _ fun k hk => h k (List.mem_cons_of_mem _ hk)]
theorem bfs_old2 {old2 : List Nat} (h1 : ∀ k, Rc hands rows k → k ∈ old) (h2 : ∀ k, Rc hands rows k → k ∈ old2) : ∀ n, bfs old hands rows n = bfs old2 hands rows n
  | 0 => ext_old _ _ fun k hk => ⟨fun _ => h2 k (.hand hk), fun _ => h1 k (.hand hk)⟩
  | n + 1 => by
    have ih := bfs_old2 h1 h2 n
    by_cases h : n < (bfs old hands rows n).length
    · rw [bfs_some (List.getElem?_eq_getElem h)]
      have hb := bfs_rc h1 n _ (List.getElem_mem h)
      have e : (bfs old2 hands rows n)[n]? = some ((bfs old hands rows n)[n]) := by rw [← ih]; exact List.getElem?_eq_getElem h
      rw [bfs_some e, ← ih]
      congr 1
      exact ext_old _ _ fun k hk => ⟨fun _ => h2 k (.slot hb hk), fun _ => h1 k (.slot hb hk)⟩
    · rw [bfs_none (Nat.le_of_not_lt h), bfs_none (by rw [← ih]; exact Nat.le_of_not_lt h), ih]
theorem came_old2 {old2 : List Nat} (h1 : ∀ k, Rc hands rows k → k ∈ old) (h2 : ∀ k, Rc hands rows k → k ∈ old2) : came old hands rows = came old2 hands rows := by
  have e := bfs_old2 h1 h2 (came old hands rows).length
  rw [came_end] at e
  rw [e]
  refine (came_is ?_).symm
  rw [← e]
  exact Nat.le_refl _
end
end MM

set_option Elab.async false
set_option linter.all false
set_option maxRecDepth 100000
set_option maxHeartbeats 4000000
/-! Rules of our own: xs[i] += e; a method's or a class's call whose error is caught around. -/
namespace MP
open PySem PySem.Spec PyProof.Rows L2 MM KG
section
variable {X : Cx}
def rGetN (K : PySem.W.Frag) : V → V → Hp → VK → Prop := fun o i H Q => ∃ p xs k v, o = .ref p ∧ i = .int ((k : Nat) : Int) ∧ SqL K H p xs ∧ xs[k]? = some v ∧ Q v H
theorem get_list : PGet X (rGetN X.K) := by
  intro pins s σ H x y v u Q I rx ry h
  obtain ⟨p, xs, k, z, rfl, rfl, hq, he, q⟩ := h
  cases rx
  obtain ⟨t, rfl⟩ := ry
  obtain ⟨its, r, pl, hz⟩ := I.list hq
  obtain ⟨w, ew, rw'⟩ := r.get he
  have hl := r.length
  have hn := line63
  have hk := (List.getElem?_eq_some_iff.mp he).1
  refine wpAny_getItem_list pl.isList (by omega) (by omega) ?_ ⟨z, H, I, rw', q⟩
  rw [Int.toNat_natCast]
  simpa using ew
end
section
variable {X : Cx} {CX : CXT} {k : Nat} {f C : Addr} {fd : FuncData} {ps : List Str} {sp : Sp} {E : L2.St → XK} {x m : Str} {p pos apos : Pos} {e o : Expr} {es : List Expr} {ta : TE} {t : TA}
def tMethAt (C : Addr) (m : Str) (sp : Sp) (E : L2.St → XK) (ta : TE) (t : TA) : TE := fun σ H Q => ta σ H fun x H1 => ∃ a dx fs, x = .ref a ∧ H1 a = some (.ins C dx fs) ∧ fs.lookup m = none ∧ t σ H1 fun vs H2 => sp (x :: vs) H2 Q (E σ)
theorem pe_methAt {pl : Sem Bool} (he : PE X o ta) (c : Cls X.K C) (hm : Meth X.K C m f) (F : FnOk X.prog X.w X.K X.mg X.base CX k f fd ps sp) (hr : Room k X.A) (hb : Binds X.K fd ps []) (hx : ∀ σ, PassesAt CX X σ (E σ)) (ha : PA X (e :: es) t)
    (hst : starEach (e :: es) X.env = (false, eval e X.env) :: starEach es X.env := by rfl) (hpl : (backTo pos (starEach es X.env)).any (·.1) = false := by rfl)
    (ht : eval (.Call (.Attribute o m apos) (e :: es) [] pos) X.env = (do
      let ov ← eval o X.env
      standAt apos.atName
      let (f, first) ← holding [ov] (getMethod ov m pl)
      callWith pos f first (backTo pos (starEach (e :: es) X.env)) (backToKw pos (keywordEach [] X.env))) := by rfl) :
    PE X (.Call (.Attribute o m apos) (e :: es) [] pos) (tMethAt C m sp E ta t) := by
  refine ⟨fun pins s σ H Q I h => ?_⟩
  refine PySem.W.methodCall_KW (pl := pl) (thn (he.run pins s σ H _ I h) fun u s1 ⟨x, H1, I1, rx, a, dx, fs, ex, ea, l, q⟩ => ?_) ht
  subst ex
  obtain rfl : u = Value.ref a := rx
  refine getmeth_ok I1 ea c hm l ?_
  refine PySem.W.callWith_K (first := [.ref a]) (h₀ := X.base) I.ok.mod.kin hm.kp (thn (ha.run pos pins s1 σ H1 _ I1 q) fun us s2 ⟨vs, H2, I2, r, q2⟩ => ⟨I2.kIn, ?_⟩) hst hpl
  exact run_fnS (us := .ref a :: us) (vs := .ref a :: vs) F hr hb (hx σ) I2 (.cons rfl r) q2
end
end MP

set_option Elab.async false
set_option linter.all false
set_option maxRecDepth 100000
set_option maxHeartbeats 4000000
/-! Rules of our own: a class's making whose error is caught around; a suite read under what is known of the error. -/
namespace MP
open PySem PySem.Spec PyProof.Rows L2 MM KG
section
variable {X : Cx} {CX : CXT} {k : Nat} {f C : Addr} {fd : FuncData} {ps : List Str} {sp : Sp} {E : L2.St → XK} {x : Str} {p pos : Pos} {e : Expr} {es : List Expr} {t : TA}
theorem run_makeAt {pins : List (Addr × Obj)} {σ : L2.St} {H : Hp} {s : Shared} {Q : VK} {us : List Value} {vs : List V} (M : Mk X.K C f) (F : FnOk X.prog X.w X.K X.mg X.base CX k f fd ps sp) (hr : Room (k + 1) X.A) (hb : Binds X.K fd ps [])
    (hx : PassesAt CX X σ (E σ)) (I : Inv X pins σ H s) (r : Vals vs us)
    (h : ∀ x dx, H x = none → H dx = none → dx ≠ x → sp (.ref x :: vs) (upd (upd H dx (.own x)) x (.ins C dx [])) (fun v H2 => v = .non ∧ Q (.ref x) H2) (E σ)) :
    wpAny (model X.prog X.w) X.A (call (.ref C) us) (EP X pins σ Q) X.xe s := by
  have hq := h (s.heap.objs.size + 1) s.heap.objs.size (I.hok.fresh (Nat.le_succ _)) (I.hok.fresh (Nat.le_refl _)) (Nat.ne_of_lt (Nat.lt_succ_self _))
  have I2 := Inv.made (C := C) I
  have r2 : Vals (V.ref (s.heap.objs.size + 1) :: vs) (Value.ref (s.heap.objs.size + 1) :: us) := .cons rfl r
  have hl : (Value.ref (s.heap.objs.size + 1) :: us).length = ps.length := by
    have e := r2.length
    rw [F.len _ _ _ _ hq] at e
    exact e.symm
  have b := hb _ (Value.ref (s.heap.objs.size + 1) :: us) I2.kIn (by rw [List.append_nil]; exact hl)
  rw [List.append_nil] at b
  refine wpAny_call (make_map (f := f) I.kIn M.makes M.init (beq_iff_eq.mp M.fn) (codeAny_mono (F.run _ X.stack _ _ ⟨Value.ref (s.heap.objs.size + 1) :: us, []⟩ (Value.ref (s.heap.objs.size + 1) :: us) _ _ (E σ) (hr.make C us [])
    (I2.env0.make C us []) b r2 hq) fun r s' hq' => ?_))
  cases r with
  | error e => exact hx pins _ _ e s' I2 hq'
  | ok fl =>
    cases fl with
    | ret u =>
      obtain ⟨v, H', I3, rv, ev, q3⟩ := I2.after hq'
      subst ev
      exact ⟨rv, ⟨V.ref (s.heap.objs.size + 1), H', I3, rfl, q3⟩⟩
    | next => exact False.elim hq'
    | brk => exact False.elim hq'
    | cont => exact False.elim hq'
def tMakeAt (C : Addr) (sp : Sp) (E : L2.St → XK) (t : TA) : TE := fun σ H Q => t σ H fun vs H1 => ∀ x dx, H1 x = none → H1 dx = none → dx ≠ x → sp (.ref x :: vs) (upd (upd H1 dx (.own x)) x (.ins C dx [])) (fun v H2 => v = .non ∧ Q (.ref x) H2) (E σ)
theorem pe_makeAt (M : Mk X.K C f) (F : FnOk X.prog X.w X.K X.mg X.base CX k f fd ps sp) (hr : Room (k + 1) X.A) (hg : Gl X x) (hm : X.mg x = some (.ref C)) (hb : Binds X.K fd ps []) (hx : ∀ σ, PassesAt CX X σ (E σ))
    (ha : PA X (e :: es) t) (hdb : (x == ("__debug__" : Str)) = false := by decide) (he : starEach (e :: es) X.env = (false, eval e X.env) :: starEach es X.env := by rfl) (hpl : (backTo pos (starEach es X.env)).any (·.1) = false := by rfl) :
    PE X (.Call (.Name x p) (e :: es) [] pos) (tMakeAt C sp E t) := by
  refine ⟨fun pins s σ H Q I h => ?_⟩
  refine wpAny_Call_Name_kw (ld_glob I hg hm ?_ hdb)
  refine PySem.W.callWith_K (h₀ := X.base) I.ok.mod.kin M.kp (thn (ha.run pos pins s σ H _ I h) fun us s1 ⟨vs, H1, I1, r, q⟩ => ⟨I1.kIn, ?_⟩) he hpl
  exact run_makeAt M F hr hb (hx σ) I1 r q
theorem pss_when {X : Cx} {p : Prop} {b : List Stmt} {t : TS} (h : p → PSs X b t) : PSs X b (fun D σ H => p ∧ t D σ H) := ⟨fun pins s σ H D I q => (h q.1).run pins s σ H D I q.2⟩
end
end MP

set_option Elab.async false
set_option linter.all false
set_option maxRecDepth 100000
set_option maxHeartbeats 2000000
/-! The end of a walk over a list while an exception is handled. -/
namespace HotX
open PySem PySem.Spec PyProof.Rows
section
variable {prog : Program} {w : World} {A : Around} {E : Value → Shared → Prop} {s : Shared}
theorem pyNext_list_end_hot {it l x1 : Addr} {i : Nat} {items : Array Value} {Q : Option Value → Shared → Prop} (hot : HotAt A x1 s.heap) (hne : x1 ≠ it)
    (hit : s.heap.IsListIter it l i) (hl : s.heap.IsList l items) (hx : items[i]? = none)
    (hQ : ∀ h', Heap.ExtBut it s.heap h' → Q none { s with heap := h' }) : wpAny (model prog w) A (pyNext (.ref it)) Q E s := by
  obtain ⟨o, ho, hc, hd⟩ := id hit
  obtain ⟨ol, hol, _, nl, hdl⟩ := hl
  obtain ⟨hh, o1, vs1, h1, d1, c1⟩ := hot
  unfold pyNext
  refine wpAny_bind (wpAny_attempt (wpAny_callSpecial?_slot (name := Str.ofString "__next__") hit.typeIs slot_listiter_next
    (wpAny_call_entry slot_listiter_next hit.typeIs entry_listiter_next ?_ (args_listiter_next _))))
  show wpAny _ _ (field (.ref it) 0 >>= _) _ _ s
  refine wpAny_bind (wpAny_field ho hd (x := .ref l) rfl ?_)
  show wpAny _ _ (if (Value.ref l == Value.none) = true then _ else _) _ _ s
  rw [if_neg (show ¬ ((Value.ref l == Value.none) = true) from Bool.false_ne_true)]
  show wpAny _ _ (field (.ref it) 1 >>= _) _ _ s
  refine wpAny_bind (wpAny_field ho hd (x := .int i 0) rfl ?_)
  show wpAny _ _ (seqItems? (.ref l) >>= _) _ _ s
  refine wpAny_bind (wpAny_seqItems hol hdl ?_)
  simp only [Int.toNat_natCast, hx]
  refine wpAny_bind (wpAny_rule (wpAny_bind (wpAny_setField ho hd (by simp) ?_)))
  show wpAny _ _ (newExc (.type "StopIteration") [] >>= _) _ _ _
  refine wpAny_bind ?_
  simp only [newExc, newTuple]
  refine wpAny_bind (wpAny_newObj_type ?_ (by size_fits))
  refine wpAny_bind (m := firstArgMember _ _) (wpAny_of_eq (a := Value.none) (by first | rfl | (simp only [firstArgMember]; rfl)) ?_)
  refine wpAny_newObj_type ?_ (by size_fits)
  have h1' : ∀ f, (s.heap.update it f).get? x1 = some o1 := fun f => (Heap.get?_update_other _ _ hne.symm).trans h1
  refine raiseNew_hot ⟨hh, o1, vs1, Heap.get?_push_of_some _ (Heap.get?_push_of_some _ (h1' _)), d1, c1⟩ (Nat.ne_of_lt (Heap.lt_size (Heap.get?_push_of_some _ (h1' _)))) (Heap.get?_push_size _ rfl) rfl (by first | (simp; done) | (simp; omega) | (simp only [Array.size_append]; simp; omega)) ?_
  refine wpAny_bind (wpAny_isInstance (T := "StopIteration") (b := true) ⟨_, Heap.get?_update_self _ (Heap.get?_push_size _ rfl) rfl, rfl⟩ isSubtype_stop ?_)
  refine wpAny_pure (hQ _ ?_)
  intro b ob hb e
  have e1 : ∀ f, (s.heap.update it f).get? b = some ob := fun f => (Heap.get?_update_other _ _ (Ne.symm hb)).trans e
  rw [Heap.get?_update_other _ _ (Nat.ne_of_gt (Heap.lt_size (Heap.get?_push_of_some _ (e1 _))))]
  exact Heap.get?_push_of_some _ (Heap.get?_push_of_some _ (e1 _))
theorem walks_listHot {prog : Program} {w : World} {A : Around} {x1 : Addr} {o : Obj} {vs : Array Value} (hh : A.handled = some (.ref x1)) (hd : o.data = .fields vs) (h2 : vs[2]? = some .none) (I ax : Addr) (hne : ax ≠ I) (hx : x1 ≠ I) (items : Array Value) :
    Walks prog w A I [I, ax, x1] [I] items.size (fun i v => items[i]? = some v) (fun i h => (h.IsListIter I ax i ∧ h.IsList ax items) ∧ h.get? x1 = some o) where
  sub := fun b hb => by simp at hb; simp [hb]
  frame := fun _ _ _ st hk => ⟨⟨st.1.1.at fun o e => hk I (by simp) o e, st.1.2.at fun o e => hk ax (by simp) o e⟩, hk x1 (by simp) o st.2⟩
  item := fun i s Q E hi st hQ => by
    refine wpAny_pyNext_list_item st.1.1 st.1.2 (x := items[i]) (by simp [hi]) fun h' hit' hs' => ?_
    exact hQ _ h' s.toks (by simp [hi]) ⟨⟨hit', st.1.2.extBut hs'.extBut hne⟩, hs'.extBut x1 o hx st.2⟩ fun b o hb e => hs'.extBut b o (fun h => hb (by simp [h])) e
  done := fun s Q E st hQ => pyNext_list_end_hot (x1 := x1) ⟨hh, o, vs, st.2, hd, h2⟩ hx st.1.1 st.1.2 (by simp) fun h' he' => hQ h' s.toks fun b o hb e => he' b o (fun h => hb (by simp [h])) e
  self := fun _ _ _ _ st hQ => wpAny_pyIter_listiter st.1.1 hQ
end
end HotX
namespace MP
open PySem PySem.Spec PyProof.Rows L2 HotX
theorem kit_of {K : PySem.W.Frag} {A C : Addr} {b : Bool} (hs : PySem.W.subIn K (.ref A) (.ref A) = some true) (h : PySem.W.subIn K (.ref A) (.ref C) = some b) (ht : PySem.W.typeIn K (.ref C) = some (.type "type")) (hi : PySem.W.isClsIn K C = true) :
    PySem.W.kitOne K (.ref A) (.ref C) = some b := by
  unfold PySem.W.kitOne
  by_cases e : (Value.ref A == Value.ref C) = true
  · have e' : A = C := by
      have := beq_iff_eq.mp e
      injection this
    subst e'
    rw [hs] at h
    exact (if_pos e).trans h
  · rw [if_neg e]
    unfold PySem.W.kitCls
    have : ((PySem.W.clsIn K C).isSome && PySem.W.typeIn K (.ref C) == some (.type "type")) = true := by
      rw [ht, show (PySem.W.clsIn K C).isSome = true from hi]
      rfl
    exact (if_pos this).trans h
theorem kit_ofT {K : PySem.W.Frag} {A : Addr} {T : String} {b : Bool} (h : PySem.W.subIn K (.ref A) (.type T) = some b) (m : PySem.W.kitMeta T = true) : PySem.W.kitOne K (.ref A) (.type T) = some b := by
  unfold PySem.W.kitOne
  rw [if_neg (by simp)]
  unfold PySem.W.kitCls
  exact (if_pos m).trans h
theorem takesN0 {X : Cx} : L2N.Takes X (fun _ _ _ _ => False) := fun _ _ x => by
  obtain ⟨_, _, _, _, _, _, _, _, _, _, _, _, _, _, _, _, z⟩ := x
  exact z.elim
section
variable {P : Program} {w : World} {K : PySem.W.Frag} {mg : Str → Option Value} {base : Heap}
/-- as Fun.okX, over errors whose context is None -/
theorem okN {x qual : Str} {st : Stmt} {f : Addr} {fd : FuncData} {N ps : List Str} {k : Nat} {sp : Sp} (F : Fun K x qual st f fd) (S : FnScope N ps (defScope st)) (len : ∀ vs H Q E, sp vs H Q E → vs.length = ps.length)
    (hbody : ∀ (cdv : Value) (A : Around) (outer : List Env) (s : Shared) (H : Hp) (vs : List V) (Q : VK) (E : XK), Room k (A.deeper (envOfC qual (defScope st) s.heap.objs.size f cdv)) → sp vs H Q E →
      ∃ t, PSs (cxOf (L2N.CX P w) P w K mg base N qual (defScope st) f cdv A outer s H E) (defBody st) t ∧ t { nx := fun _ H' => Q .non H', rt := Q } (start N vs) H) : FnOk P w K mg base (L2N.CX P w) (k + 1) f fd ps sp := by
  obtain ⟨oc, od, kV, doc, pm, an, cdv, ct, osl, rfl, lk, hcd⟩ := F.ex
  exact fn_of lk hcd S len fun A outer s H vs Q E hr hsp => hbody cdv A outer s H vs Q E hr hsp
end
section
variable {X : Cx}
theorem cr_any_hot {K : PySem.W.Frag} (hK : X.K = K) (hc : L2H.HotC X) : CallR X (.builtin "any") (rAny K) := by
  subst hK
  intro pins s σ H vs us Q I r h
  obtain ⟨a, bs, rfl, hs, q⟩ := h
  obtain ⟨its, rv, hl, _⟩ := I.list hs
  rw [Vals.ref1 r]
  have hb := rv.bls
  obtain ⟨p, ⟨hh, v1, e1, c1⟩, hp⟩ := hc
  have px := (I.pin p (List.mem_append_left _ hp)).1
  refine call_any_walk (iter_any hl.isList fun s₂ e2 st hne => ?_)
  subst e2
  refine ⟨_, _, _, _, _, _, _, rfl, walks_listHot (A := X.A.in1) (x1 := p.1) (o := p.2) hh e1 c1 _ a hne (Nat.ne_of_lt (Heap.lt_size px)) its.toArray, ⟨st, Heap.get?_push_of_some _ px⟩, truth_bools hb, fun h' tk hk => ?_⟩
  refine ⟨.bl _, H, I.kept fun b o eo => hk b o (fun hmem => ?_) (Heap.get?_push_of_some _ eo), ?_, q⟩
  · rcases List.mem_cons.mp hmem with e1 | hmem
    · exact absurd (e1 ▸ Heap.lt_size eo) (Nat.lt_irrefl _)
    · cases hmem
  · show Value.bool _ = Value.bool _
    rw [← L2.any_range, hb, List.size_toArray, List.length_map]
end
end MP

set_option Elab.async false
set_option linter.all false
set_option maxRecDepth 100000
set_option maxHeartbeats 2000000
/-! Written deeds: figures, the text of a deed, what a line writes. -/
namespace MP
open PySem PySem.Spec PyProof.Rows L2 MM KG SX TL

/-- a number by figures -/
def figS (n : Nat) : Str := S (numL n)
def blank : Str := S [32]
def nought : Str := S [48]
/-- the words and how many numbers stand behind each -/
def cntOf (w : Str) : Option Nat :=
  if w = ("make" : Str) then some 2 else if w = ("take" : Str) then some 3 else if w = ("put" : Str) then some 3 else if w = ("share" : Str) then some 2 else if w = ("drop" : Str) then some 1 else if w = ("work" : Str) then some 1 else none
def isNum (z : Str) : Bool := if (Txt.isascii z && Txt.isdigit z) = true then (if z.length ≤ 60 then (decide (z = nought) || !Txt.startswith z nought) else false) else false
def valN (z : Str) : Nat := NumText.digitsVal (tl z)
/-- the deed that the parts of a line write -/
def parseP : List Str → Option (Str × List Nat)
  | [] => none
  | w :: figs => if cntOf w = some figs.length ∧ figs.all isNum = true then some (w, figs.map valN) else none
def parse (z : Str) : Option (Str × List Nat) := parseP (Txt.split z blank)

theorem digit_cls : ∀ c, c < 128 → Unicode.isDigit c = (decide (48 ≤ c) && decide (c ≤ 57)) := by decide +kernel
theorem tl_S (a : List Nat) : tl (S a) = a := rfl
theorem ascii_digits {z : Str} (h1 : Txt.isascii z = true) (h2 : Txt.isdigit z = true) : NumText.AllDigits (tl z) ∧ tl z ≠ [] := by
  unfold Txt.isascii at h1
  unfold Txt.isdigit at h2
  rw [Bool.and_eq_true, decide_eq_true_eq] at h2
  obtain ⟨h2, h3⟩ := h2
  refine ⟨fun c hc => ?_, fun e => ?_⟩
  · have hm : c ∈ z.cps := Array.mem_toList_iff.mp hc
    have a1 : c < 128 := of_decide_eq_true (Array.all_eq_true_iff_forall_mem.mp h1 c hm)
    have a2 := Array.all_eq_true_iff_forall_mem.mp h3 c hm
    rw [digit_cls c a1] at a2
    simp only [Bool.and_eq_true, decide_eq_true_eq] at a2
    exact a2
  · rw [len_tl, e] at h2
    exact absurd h2 (by decide)
theorem digits_ascii {a : List Nat} (h : NumText.AllDigits a) (hne : a ≠ []) : (Txt.isascii (S a) && Txt.isdigit (S a)) = true := by
  have hb : ∀ c ∈ (S a).cps, 48 ≤ c ∧ c ≤ 57 := fun c hc => h c (by simpa [S] using hc)
  rw [Bool.and_eq_true]
  constructor
  · unfold Txt.isascii
    exact Array.all_eq_true_iff_forall_mem.mpr fun c hc => decide_eq_true (by have := hb c hc; omega)
  · unfold Txt.isdigit
    rw [Bool.and_eq_true]
    refine ⟨decide_eq_true ?_, Array.all_eq_true_iff_forall_mem.mpr fun c hc => ?_⟩
    · rw [S_len]
      exact List.length_pos_iff.mpr hne
    · have := hb c hc
      rw [digit_cls c (by omega), decide_eq_true this.1, decide_eq_true this.2]
      rfl
/-- what int() makes of a number's text -/
theorem isNum_int {z : Str} (h : isNum z = true) : intText? z = some ((valN z : Nat) : Int) ∧ z.length ≤ 60 := by
  unfold isNum at h
  split at h
  · rename_i h1
    rw [Bool.and_eq_true] at h1
    obtain ⟨d1, d2⟩ := ascii_digits h1.1 h1.2
    split at h
    · rename_i h2
      exact ⟨intText_digits (x := z) d1 d2 (by omega), h2⟩
    · exact nomatch h
  · exact nomatch h
theorem starts_head {a : List Nat} (hne : a ≠ []) : Txt.startswith (S a) nought = decide (a.head? = some 48) := by
  cases a with
  | nil => exact absurd rfl hne
  | cons c r =>
    unfold Txt.startswith
    have e1 : (0 + nought.length ≤ (S (c :: r)).length) := by
      rw [S_len]
      show 0 + 1 ≤ r.length + 1
      omega
    rw [decide_eq_true e1, Bool.true_and]
    have ai := at_iff (x := S (c :: r)) (y := nought) (by show [48] ≠ []; simp) 0
    by_cases hc : c = 48
    · subst hc
      rw [show decide ((48 :: r).head? = some 48) = true from rfl]
      exact (ai.mpr (by show pre [48] (48 :: r) = true; simp [pre])).2
    · have : decide ((c :: r).head? = some 48) = false := decide_eq_false (fun h => hc (Option.some.inj h))
      rw [this]
      cases q : Builtin.Str.subAt (S (c :: r)) nought 0 with
      | false => rfl
      | true =>
        have z := ai.mp ⟨e1, q⟩
        have : pre [48] (c :: r) = true := z
        rw [pre_of_head [] r hc] at this
        exact nomatch this
theorem numL_head {n : Nat} : 0 < n → (numL n).head? ≠ some 48 := by
  induction n using Nat.strongRecOn with
  | _ n ih =>
    intro hn
    by_cases h : n < 10
    · rw [numL_lt h]
      intro e
      have := Option.some.inj e
      omega
    · rw [numL_step (by omega)]
      have z := ih (n / 10) (by omega) (by omega)
      have ne := numL_ne (n / 10)
      cases q : numL (n / 10) with
      | nil => exact absurd q ne
      | cons c r => rw [q] at z; exact z
theorem valN_fig (n : Nat) : valN (figS n) = n := numL_val n
theorem isNum_fig {n : Nat} (h : n < 10 ^ 60) : isNum (figS n) = true := by
  unfold isNum figS
  have l60 := numL_len (n := n) (k := 60) (by decide) h
  rw [if_pos (digits_ascii (numL_digits n) (numL_ne n)), if_pos (by rw [S_len]; exact l60), starts_head (numL_ne n)]
  by_cases h0 : n = 0
  · subst h0
    rw [show decide (S (numL 0) = nought) = true from by decide +kernel]
    rfl
  · rw [decide_eq_false (numL_head (by omega))]
    simp
theorem fig_free (n : Nat) : 32 ∉ tl (figS n) := numL_free (by omega)
theorem fig_str (n : Nat) : ((toString ((n : Nat) : Int) : String) : Str) = figS n := num_S n
theorem parse_told {w : Str} {ns : List Nat} (hw : cntOf w = some ns.length) (hf : 32 ∉ tl w) (hn : ∀ n ∈ ns, n < 10 ^ 60) : parse (Txt.join blank (w :: ns.map figS)) = some (w, ns) := by
  unfold parse
  rw [split_join (y := blank) (s := 32) (S := []) rfl (by decide +kernel) (by simp) (fun p hp => ?_)]
  · show (if cntOf w = some (ns.map figS).length ∧ (ns.map figS).all isNum = true then some (w, (ns.map figS).map valN) else none) = some (w, ns)
    have v : (ns.map figS).map valN = ns := by
      rw [List.map_map]
      conv => rhs; rw [← List.map_id ns]
      exact List.map_congr_left fun n _ => valN_fig n
    have al : (ns.map figS).all isNum = true := by
      refine List.all_eq_true.mpr fun x hx => ?_
      obtain ⟨n, hm, rfl⟩ := List.mem_map.mp hx
      exact isNum_fig (hn n hm)
    rw [if_pos ⟨by rw [List.length_map]; exact hw, al⟩, v]
  · rcases List.mem_cons.mp hp with rfl | hp
    · exact hf
    · obtain ⟨n, _, rfl⟩ := List.mem_map.mp hp
      exact fig_free n
theorem nought_eq : ("0" : Str) = nought := by decide +kernel
theorem blank_eq : (" " : Str) = blank := by decide +kernel
theorem isNum_1 {z : Str} (h : Txt.isascii z = false) : isNum z = false := by
  unfold isNum
  rw [h]
  rfl
theorem isNum_2 {z : Str} (h1 : Txt.isascii z = true) (h : Txt.isdigit z = false) : isNum z = false := by
  unfold isNum
  rw [h1, h]
  rfl
theorem isNum_3 {z : Str} (h1 : Txt.isascii z = true) (h2 : Txt.isdigit z = true) (h : ¬ z.length ≤ 60) : isNum z = false := by
  unfold isNum
  rw [h1, h2]
  exact (if_pos rfl).trans (if_neg h)
theorem isNum_4 {z : Str} (h1 : Txt.isascii z = true) (h2 : Txt.isdigit z = true) (h : z.length ≤ 60) : isNum z = (decide (z = nought) || !Txt.startswith z nought) := by
  unfold isNum
  rw [h1, h2]
  exact (if_pos rfl).trans (if_pos h)
theorem isNum_len {z : Str} (h : isNum z = true) : z.length ≤ 60 := (isNum_int h).2
theorem parseP_ok {w : Str} {figs : List Str} (h : cntOf w = some figs.length) (h2 : figs.all isNum = true) : parseP (w :: figs) = some (w, figs.map valN) := if_pos ⟨h, h2⟩
theorem parseP_no {w : Str} {figs : List Str} (h : ¬ (cntOf w = some figs.length ∧ figs.all isNum = true)) : parseP (w :: figs) = none := if_neg h
theorem spl_all (S : List Nat) : ∀ (l : List Nat) (k : Nat) (acc : List Nat), spl S k acc l ≠ [] ∧ (spl S k acc l).length ≤ l.length + 1 ∧ ∀ p ∈ spl S k acc l, p.length ≤ acc.length + l.length := by
  intro l
  induction l with
  | nil =>
    intro k acc
    rw [spl_nil]
    refine ⟨by simp, by simp, fun p hp => ?_⟩
    rw [List.mem_singleton.mp hp]
    simp
  | cons c r ih =>
    intro k acc
    cases k with
    | zero =>
      cases h : pre S (c :: r) with
      | true =>
        rw [spl_hit h]
        obtain ⟨a1, a2, a3⟩ := ih (S.length - 1) []
        refine ⟨by simp, by simp only [List.length_cons]; omega, fun p hp => ?_⟩
        rcases List.mem_cons.mp hp with rfl | hp
        · omega
        · have := a3 p hp
          simp only [List.length_nil, List.length_cons] at this ⊢
          omega
      | false =>
        rw [spl_miss h]
        obtain ⟨a1, a2, a3⟩ := ih 0 (acc ++ [c])
        refine ⟨a1, by simp only [List.length_cons]; omega, fun p hp => ?_⟩
        have := a3 p hp
        simp only [List.length_append, List.length_cons, List.length_nil] at this ⊢
        omega
    | succ k =>
      rw [spl_pass S (k + 1) acc (c :: r), List.drop_succ_cons, ← spl_pass S k acc r]
      obtain ⟨a1, a2, a3⟩ := ih k acc
      refine ⟨a1, by simp only [List.length_cons]; omega, fun p hp => ?_⟩
      have := a3 p hp
      simp only [List.length_cons] at this ⊢
      omega
theorem cutV_tail (a : V) (xs : List V) : cutV (a :: xs) (some 1) none = xs := by
  unfold cutV
  rw [show HT.sIx (a :: xs).length 0 (some 1) = min 1 (a :: xs).length from HT.sIx_nat _ 0 1, HT.sIx_none, List.length_cons, Nat.min_eq_left (by omega), List.drop_succ_cons, List.drop_zero]
  exact List.take_of_length_le (by omega)
/-- what the dict of the words gives -/
def CntAt (K : PySem.W.Frag) (d : Addr) (z : Str) : Prop := ∃ r, PySem.W.nsIn K d z = some r ∧ (match cntOf z with | some k => ∃ t, r = some (.int ((k : Nat) : Int) t) | none => r = none)
theorem cnt_at {K : PySem.W.Frag} {d : Addr} {es : Array DictEntry} {n : Nat} {oc : Value} {od : Option Addr} {sl : Array (Option Value)} {t1 t2 t3 t4 t5 t6 u1 u2 u3 u4 u5 u6 : Tok} (lk : K.lookup d = some ⟨oc, od, .dict es n, sl⟩)
    (kv : es.toList.map (fun e => (e.key, e.val)) = [(.str "make" t1, .int 2 u1), (.str "take" t2, .int 3 u2), (.str "put" t3, .int 3 u3), (.str "share" t4, .int 2 u4), (.str "drop" t5, .int 1 u5), (.str "work" t6, .int 1 u6)]) (z : Str) : CntAt K d z := by
  have nk : ∀ r, (match es.toList.find? (fun e => e.key.isStr z) with | some e => some (some e.val) | none => if es.toList.any (fun e => e.refKey) then none else some none) = r → PySem.W.nsIn K d z = r := fun r h => by
    unfold PySem.W.nsIn
    rw [lk]
    exact h
  generalize es.toList = l at kv nk
  have cons : ∀ {p : Value × Value} {ps : List (Value × Value)} {l : List DictEntry}, l.map (fun e => (e.key, e.val)) = p :: ps → ∃ e r, l = e :: r ∧ e.key = p.1 ∧ e.val = p.2 ∧ r.map (fun e => (e.key, e.val)) = ps := fun {p ps l} h => by
    cases l with
    | nil => exact nomatch h
    | cons e r =>
      rw [List.map_cons] at h
      injection h with h1 h2
      exact ⟨e, r, rfl, congrArg Prod.fst h1, congrArg Prod.snd h1, h2⟩
  obtain ⟨e1, r1, rfl, k1, v1, kv⟩ := cons kv
  obtain ⟨e2, r2, rfl, k2, v2, kv⟩ := cons kv
  obtain ⟨e3, r3, rfl, k3, v3, kv⟩ := cons kv
  obtain ⟨e4, r4, rfl, k4, v4, kv⟩ := cons kv
  obtain ⟨e5, r5, rfl, k5, v5, kv⟩ := cons kv
  obtain ⟨e6, r6, rfl, k6, v6, kv⟩ := cons kv
  have r0 : r6 = [] := List.map_eq_nil_iff.mp kv
  subst r0
  dsimp only at k1 k2 k3 k4 k5 k6 v1 v2 v3 v4 v5 v6
  have isS : ∀ (x y : Str) (t : Tok), (Value.str x t).isStr y = decide (x = y) := fun x y t => by
    unfold Value.isStr
    first
      | rfl
      | (by_cases h : x = y <;> simp [h])
  have ref0 : (List.any [e1, e2, e3, e4, e5, e6] fun e => e.refKey) = false := by
    simp [List.any, DictEntry.refKey, k1, k2, k3, k4, k5, k6]
  unfold CntAt cntOf
  by_cases c1 : z = ("make" : Str)
  · refine ⟨_, nk (some (some e1.val)) ?_, ?_⟩
    · rw [List.find?_cons_of_pos (by rw [k1, isS]; exact decide_eq_true c1.symm)]
    · rw [if_pos c1]
      exact ⟨u1, by rw [v1]; rfl⟩
  rw [if_neg c1]
  by_cases c2 : z = ("take" : Str)
  · refine ⟨_, nk (some (some e2.val)) ?_, ?_⟩
    · rw [List.find?_cons_of_neg (by rw [k1, isS]; simp [Ne.symm c1]), List.find?_cons_of_pos (by rw [k2, isS]; exact decide_eq_true c2.symm)]
    · rw [if_pos c2]
      exact ⟨u2, by rw [v2]; rfl⟩
  rw [if_neg c2]
  by_cases c3 : z = ("put" : Str)
  · refine ⟨_, nk (some (some e3.val)) ?_, ?_⟩
    · rw [List.find?_cons_of_neg (by rw [k1, isS]; simp [Ne.symm c1]), List.find?_cons_of_neg (by rw [k2, isS]; simp [Ne.symm c2]), List.find?_cons_of_pos (by rw [k3, isS]; exact decide_eq_true c3.symm)]
    · rw [if_pos c3]
      exact ⟨u3, by rw [v3]; rfl⟩
  rw [if_neg c3]
  by_cases c4 : z = ("share" : Str)
  · refine ⟨_, nk (some (some e4.val)) ?_, ?_⟩
    · rw [List.find?_cons_of_neg (by rw [k1, isS]; simp [Ne.symm c1]), List.find?_cons_of_neg (by rw [k2, isS]; simp [Ne.symm c2]), List.find?_cons_of_neg (by rw [k3, isS]; simp [Ne.symm c3]), List.find?_cons_of_pos (by rw [k4, isS]; exact decide_eq_true c4.symm)]
    · rw [if_pos c4]
      exact ⟨u4, by rw [v4]; rfl⟩
  rw [if_neg c4]
  by_cases c5 : z = ("drop" : Str)
  · refine ⟨_, nk (some (some e5.val)) ?_, ?_⟩
    · rw [List.find?_cons_of_neg (by rw [k1, isS]; simp [Ne.symm c1]), List.find?_cons_of_neg (by rw [k2, isS]; simp [Ne.symm c2]), List.find?_cons_of_neg (by rw [k3, isS]; simp [Ne.symm c3]), List.find?_cons_of_neg (by rw [k4, isS]; simp [Ne.symm c4]),
        List.find?_cons_of_pos (by rw [k5, isS]; exact decide_eq_true c5.symm)]
    · rw [if_pos c5]
      exact ⟨u5, by rw [v5]; rfl⟩
  rw [if_neg c5]
  by_cases c6 : z = ("work" : Str)
  · refine ⟨_, nk (some (some e6.val)) ?_, ?_⟩
    · rw [List.find?_cons_of_neg (by rw [k1, isS]; simp [Ne.symm c1]), List.find?_cons_of_neg (by rw [k2, isS]; simp [Ne.symm c2]), List.find?_cons_of_neg (by rw [k3, isS]; simp [Ne.symm c3]), List.find?_cons_of_neg (by rw [k4, isS]; simp [Ne.symm c4]),
        List.find?_cons_of_neg (by rw [k5, isS]; simp [Ne.symm c5]), List.find?_cons_of_pos (by rw [k6, isS]; exact decide_eq_true c6.symm)]
    · rw [if_pos c6]
      exact ⟨u6, by rw [v6]; rfl⟩
  rw [if_neg c6]
  refine ⟨none, nk _ ?_, rfl⟩
  rw [List.find?_cons_of_neg (by rw [k1, isS]; simp [Ne.symm c1]), List.find?_cons_of_neg (by rw [k2, isS]; simp [Ne.symm c2]), List.find?_cons_of_neg (by rw [k3, isS]; simp [Ne.symm c3]), List.find?_cons_of_neg (by rw [k4, isS]; simp [Ne.symm c4]),
    List.find?_cons_of_neg (by rw [k5, isS]; simp [Ne.symm c5]), List.find?_cons_of_neg (by rw [k6, isS]; simp [Ne.symm c6]), List.find?_nil]
  show (if (List.any [e1, e2, e3, e4, e5, e6] fun e => e.refKey) = true then none else some none) = some none
  rw [ref0]
  rfl
theorem split_all (z : Str) : Txt.split z blank ≠ [] ∧ (Txt.split z blank).length ≤ z.length + 1 ∧ ∀ p ∈ Txt.split z blank, p.length ≤ z.length := by
  have e := split_spl z blank (by show [32] ≠ []; simp) (kind_ok (by decide +kernel))
  obtain ⟨a1, a2, a3⟩ := spl_all (tl blank) (tl z) 0 []
  rw [← e] at a1 a2 a3
  refine ⟨fun h => a1 (by rw [h]; rfl), ?_, fun p hp => ?_⟩
  · rw [List.length_map, ← len_tl] at a2
    exact a2
  · have := a3 (tl p) (List.mem_map.mpr ⟨p, hp, rfl⟩)
    rw [← len_tl, ← len_tl] at this
    simpa using this
/-! ### the walk of a line, sign by sign -/
theorem dig_find : ∀ k : Nat, k < 10 → Txt.find ("0123456789" : Str) ⟨#[48 + k]⟩ = (k : Int) := by decide +kernel
theorem dig_signs : ("0123456789" : Str).cps.toList = [48, 49, 50, 51, 52, 53, 54, 55, 56, 57] := by decide +kernel
theorem find_no {c : Nat} (h : ¬ (48 ≤ c ∧ c ≤ 57)) : Txt.find ("0123456789" : Str) ⟨#[c]⟩ = -1 := by
  have e := StrLaws.found_one ("0123456789" : Str) c
  have n : ¬ c ∈ ("0123456789" : Str).cps.toList := by
    rw [dig_signs]
    simp
    omega
  rw [decide_eq_false n] at e
  unfold Txt.find
  cases q : Builtin.Str.occurrences ("0123456789" : Str) ⟨#[c]⟩ 0 ("0123456789" : Str).length 1 with
  | nil => rfl
  | cons i r =>
    rw [q] at e
    exact nomatch e
theorem find_yes {c : Nat} (h : 48 ≤ c ∧ c ≤ 57) : Txt.find ("0123456789" : Str) ⟨#[c]⟩ = ((c - 48 : Nat) : Int) := by
  have := dig_find (c - 48) (by omega)
  rw [show 48 + (c - 48) = c by omega] at this
  exact this
/-- what a part's text is, by the law's own walk -/
def lawNum (z : Str) : Option Nat := if isNum z = true then some (valN z) else none
theorem isNum_empty {z : Str} (h : tl z = []) : isNum z = false := by
  cases q : isNum z with
  | false => rfl
  | true =>
    unfold isNum at q
    split at q
    · rename_i h1
      rw [Bool.and_eq_true] at h1
      exact absurd h (ascii_digits h1.1 h1.2).2
    · exact nomatch q
theorem isNum_long {z : Str} (h : ¬ z.length ≤ 60) : isNum z = false := by
  cases q : isNum z with
  | false => rfl
  | true => exact absurd (isNum_int q).2 h
theorem isNum_digits {z : Str} (h : isNum z = true) : NumText.AllDigits (tl z) := by
  unfold isNum at h
  split at h
  · rename_i h1
    rw [Bool.and_eq_true] at h1
    exact (ascii_digits h1.1 h1.2).1
  · exact nomatch h
theorem S_tl' (z : Str) : S (tl z) = z := TL.mk_tl z
theorem isNum_zero {z : Str} (h1 : (tl z).head? = some 48) (h2 : 1 < z.length) : isNum z = false := by
  cases q : isNum z with
  | false => rfl
  | true =>
    have d := isNum_digits q
    have e := isNum_len q
    have ne : tl z ≠ [] := fun h => by rw [h] at h1; exact nomatch h1
    unfold isNum at q
    have as := digits_ascii d ne
    rw [S_tl'] at as
    rw [if_pos as, if_pos e] at q
    have st := starts_head ne
    rw [S_tl', decide_eq_true h1] at st
    rw [st] at q
    have zn : z ≠ nought := fun h => by
      rw [h] at h2
      exact absurd h2 (by decide +kernel)
    rw [decide_eq_false zn] at q
    exact nomatch q
theorem isNum_all {z : Str} (d : NumText.AllDigits (tl z)) (ne : tl z ≠ []) (l : z.length ≤ 60) (h : ¬ ((tl z).head? = some 48 ∧ 1 < z.length)) : isNum z = true := by
  unfold isNum
  have as := digits_ascii d ne
  rw [S_tl'] at as
  rw [if_pos as, if_pos l]
  have st := starts_head ne
  rw [S_tl'] at st
  rw [st]
  by_cases c : (tl z).head? = some 48
  · have l1 : z.length ≤ 1 := by
      rcases Nat.lt_or_ge 1 z.length with g | g
      · exact absurd ⟨c, g⟩ h
      · exact g
    have : tl z = [48] := by
      cases q : tl z with
      | nil => exact absurd q ne
      | cons a r =>
        rw [q] at c
        rw [len_tl, q, List.length_cons] at l1
        have : r = [] := List.length_eq_zero_iff.mp (by omega)
        rw [this, Option.some.inj c]
    have zn : z = nought := ext_tl this
    rw [decide_eq_true zn]
    rfl
  · rw [decide_eq_false c]
    simp
theorem isNum_bad {z : Str} {c : Nat} (hc : c ∈ tl z) (h : ¬ (48 ≤ c ∧ c ≤ 57)) : isNum z = false := by
  cases q : isNum z with
  | false => rfl
  | true => exact absurd (isNum_digits q c hc) h
theorem spl_blank (acc r : List Nat) : spl [32] 0 acc (32 :: r) = acc :: spl [32] 0 [] r := spl_hit (by simp [pre])
theorem spl_other {acc r : List Nat} {c : Nat} (h : c ≠ 32) : spl [32] 0 acc (c :: r) = spl [32] 0 (acc ++ [c]) r := spl_miss (pre_of_head [] r h)
theorem split_tl (z : Str) : (Txt.split z blank).map tl = spl [32] 0 [] (tl z) := split_spl z blank (by show [32] ≠ []; simp) (kind_ok (by decide +kernel))
/-- the law's lists of words and counts -/
abbrev wordsV : List V := [.str "make", .str "take", .str "put", .str "share", .str "drop", .str "work"]
abbrev cntsV : List V := [.int 2, .int 3, .int 3, .int 2, .int 1, .int 1]
theorem word_in (x : Str) : inV (V.str x) wordsV = (cntOf x).isSome := by
  unfold cntOf inV
  simp only [List.any_cons, List.any_nil, eqV, Bool.or_false]
  have b : ∀ a : Str, (a == x) = decide (x = a) := fun a => by
    by_cases h : x = a
    · subst h; simp
    · rw [decide_eq_false h]
      simp [Ne.symm h]
  simp only [b]
  by_cases c1 : x = ("make" : Str)
  · subst c1
    decide +kernel
  by_cases c2 : x = ("take" : Str)
  · subst c2
    decide +kernel
  by_cases c3 : x = ("put" : Str)
  · subst c3
    decide +kernel
  by_cases c4 : x = ("share" : Str)
  · subst c4
    decide +kernel
  by_cases c5 : x = ("drop" : Str)
  · subst c5
    decide +kernel
  by_cases c6 : x = ("work" : Str)
  · subst c6
    decide +kernel
  simp [c1, c2, c3, c4, c5, c6]
theorem word_ix {x : Str} {k : Nat} (h : cntOf x = some k) : ∃ j : Nat, wordsV[j]? = some (V.str x) ∧ (∀ (m : Nat) (z' : V), m < j → wordsV[m]? = some z' → eqV z' (V.str x) = false) ∧ atI cntsV ((j : Nat) : Int) = some (V.int ((k : Nat) : Int)) ∧ k ≤ 3 := by
  unfold cntOf at h
  have nn : ∀ {n : Nat} {z : V}, (∀ m, m < n → ∀ z', wordsV[m]? = some z' → eqV z' z = false) → ∀ (m : Nat) (z' : V), m < n → wordsV[m]? = some z' → eqV z' z = false := fun h m z' hm e => h m hm z' e
  have ix : ∀ n : Nat, n < 6 → ∀ m, m < n → ∀ z', wordsV[m]? = some z' → eqV z' (wordsV.getD n .non) = false := by
    intro n hn m hm z' e
    have : z' = wordsV.getD m .non := by rw [List.getD_eq_getElem?_getD, e]; rfl
    subst this
    revert m n
    decide +kernel
  split at h
  · rename_i c; subst c; injection h with h; subst h
    exact ⟨0, rfl, fun m z' hm => by omega, rfl, by decide⟩
  split at h
  · rename_i _ c; subst c; injection h with h; subst h
    exact ⟨1, rfl, fun m z' hm e => ix 1 (by decide) m hm z' e, rfl, by decide⟩
  split at h
  · rename_i _ _ c; subst c; injection h with h; subst h
    exact ⟨2, rfl, fun m z' hm e => ix 2 (by decide) m hm z' e, rfl, by decide⟩
  split at h
  · rename_i _ _ _ c; subst c; injection h with h; subst h
    exact ⟨3, rfl, fun m z' hm e => ix 3 (by decide) m hm z' e, rfl, by decide⟩
  split at h
  · rename_i _ _ _ _ c; subst c; injection h with h; subst h
    exact ⟨4, rfl, fun m z' hm e => ix 4 (by decide) m hm z' e, rfl, by decide⟩
  split at h
  · rename_i _ _ _ _ _ c; subst c; injection h with h; subst h
    exact ⟨5, rfl, fun m z' hm e => ix 5 (by decide) m hm z' e, rfl, by decide⟩
  · exact nomatch h
theorem atI_last {xs : List V} {x : V} : atI (xs ++ [x]) (-1) = some x := by
  unfold atI ixN
  rw [if_neg (by decide), List.length_append, List.length_singleton, if_pos (by omega), show (-1 + ((xs.length + 1 : Nat) : Int)).toNat = xs.length by omega]
  simp
theorem ixN_last (n : Nat) : ixN (n + 1) (-1) = some n := by
  unfold ixN
  rw [if_neg (by decide), if_pos (by omega), show (-1 + ((n + 1 : Nat) : Int)).toNat = n by omega]
theorem noneIn : ∀ l : List (Option Nat), inV V.non (l.map optV) = decide (none ∈ l)
  | [] => by simp [inV]
  | none :: l => by simp [inV, optV, eqV]
  | some b :: l => by
    have ih := noneIn l
    unfold inV at ih ⊢
    rw [List.map_cons, List.any_cons, ih]
    simp [optV, eqV]
theorem op_mul_text {X : Cx} : OpR X (binaryOp .Mult) (fun x y H Q => ∃ (z : Str) (n : Int), x = .str z ∧ y = .int n ∧ z.length ≤ 100 ∧ 0 ≤ n ∧ n ≤ 1000 ∧ Q (.str (Txt.mul z n)) H) := by
  intro pins s σ H x y v u Q I rx ry h
  obtain ⟨z, n, rfl, rfl, hz, h0, hn, q⟩ := h
  obtain ⟨t, rfl⟩ := rx
  obtain ⟨t', rfl⟩ := ry
  exact PySem.SB.mul (mulOk_of 100 1000 hz hn (by omega) (by decide) (by decide)) fun t1 k => ⟨.str _, H, I.tok _, ⟨_, rfl⟩, q⟩
theorem word_at (c : Int) : ∃ (W : Str) (k : Nat), atI wordsV (c % 6) = some (V.str W) ∧ atI cntsV (c % 6) = some (V.int ((k : Nat) : Int)) ∧ cntOf W = some k ∧ 32 ∉ tl W ∧ W.length ≤ 5 ∧ 1 ≤ k ∧ k ≤ 3 ∧ 1 ≤ W.length := by
  have : c % 6 = 0 ∨ c % 6 = 1 ∨ c % 6 = 2 ∨ c % 6 = 3 ∨ c % 6 = 4 ∨ c % 6 = 5 := by omega
  rcases this with h | h | h | h | h | h
  · rw [h]; exact ⟨"make", 2, rfl, rfl, by decide +kernel, by decide +kernel, by decide +kernel, by decide, by decide, by decide +kernel⟩
  · rw [h]; exact ⟨"take", 3, rfl, rfl, by decide +kernel, by decide +kernel, by decide +kernel, by decide, by decide, by decide +kernel⟩
  · rw [h]; exact ⟨"put", 3, rfl, rfl, by decide +kernel, by decide +kernel, by decide +kernel, by decide, by decide, by decide +kernel⟩
  · rw [h]; exact ⟨"share", 2, rfl, rfl, by decide +kernel, by decide +kernel, by decide +kernel, by decide, by decide, by decide +kernel⟩
  · rw [h]; exact ⟨"drop", 1, rfl, rfl, by decide +kernel, by decide +kernel, by decide +kernel, by decide, by decide, by decide +kernel⟩
  · rw [h]; exact ⟨"work", 1, rfl, rfl, by decide +kernel, by decide +kernel, by decide +kernel, by decide, by decide, by decide +kernel⟩
theorem join_snoc (y x : Str) : ∀ (xs : List Str) (a : Str), Txt.join y (a :: xs ++ [x]) = Txt.join y (a :: xs) ++ y ++ x := by
  have key : ∀ (xs : List Str) (a : Str), tl (Str.join y (a :: xs ++ [x])) = tl (Str.join y (a :: xs)) ++ tl y ++ tl x := by
    intro xs
    induction xs with
    | nil =>
      intro a
      rw [tl_join, tl_join]
      show tl a ++ (tl y ++ tl x) = tl a ++ tl y ++ tl x
      rw [List.append_assoc]
    | cons b r ih =>
      intro a
      have h1 : tl (Str.join y (a :: (b :: r) ++ [x])) = tl a ++ (tl y ++ tl (Str.join y (b :: r ++ [x]))) := by
        rw [tl_join, tl_join]
        rfl
      have h2 : tl (Str.join y (a :: b :: r)) = tl a ++ (tl y ++ tl (Str.join y (b :: r))) := by
        rw [tl_join, tl_join]
        rfl
      rw [h1, h2, ih b]
      simp only [List.append_assoc]
  intro xs a
  refine ext_tl ?_
  rw [join_eq, join_eq, tl_append, tl_append]
  exact key xs a
theorem atI_some {α : Type} {xs : List α} {i : Int} (h0 : 0 ≤ i) (h : i < xs.length) : ∃ c, atI xs i = some c ∧ c ∈ xs := by
  obtain ⟨j, rfl⟩ : ∃ j : Nat, i = (j : Int) := ⟨i.toNat, by omega⟩
  have hj : j < xs.length := by omega
  exact ⟨xs[j], atI_nat (List.getElem?_eq_getElem hj), List.getElem_mem hj⟩
theorem len_app (a b : Str) : (a ++ b).length = a.length + b.length := by
  have := congrArg List.length (tl_append a b)
  rw [List.length_append, ← len_tl, ← len_tl, ← len_tl] at this
  exact this
theorem len_mul_le {z : Str} {n : Int} (h1 : z.length ≤ 1) (h : n ≤ 100) : (Txt.mul z n).length ≤ 100 := by
  have := len_mul_leN (x := z) (n := n) (L := 1) (N := 100) h1 (by omega)
  omega
end MP

set_option Elab.async false
set_option linter.all false
set_option pp.maxSteps 700
set_option maxRecDepth 100000
set_option maxHeartbeats 4000000
namespace MK
open PySem PySem.Spec PyProof.Rows L2 MM KG MP
def topS (i : Nat) : Stmt := PySem.Challenge.pw_markpause_k03_read.main.body.getD i (.Pass ⟨0, 0, 0, 0⟩)
abbrev sRead : Stmt := topS 13
abbrev sIsNumber : Stmt := topS 14
abbrev sCellAt : Stmt := topS 16
abbrev sWhole : Stmt := topS 17
abbrev sNumbers : Stmt := topS 18
abbrev sSignBy : Stmt := topS 19
abbrev sOdd : Stmt := topS 20
abbrev sLine : Stmt := topS 21
abbrev sBuilt : Stmt := topS 22
abbrev sNumber : Stmt := topS 23
abbrev sDue : Stmt := topS 24
abbrev sLaw : Stmt := topS 25
theorem scRead : FnScope ["line", "parts", "word", "figures", "numbers", "text"] ["line"] (defScope sRead) := ⟨rfl, rfl, rfl, by decide +kernel, rfl, by decide +kernel, by decide +kernel⟩
theorem scIsNumber : FnScope ["text"] ["text"] (defScope sIsNumber) := ⟨rfl, rfl, rfl, by decide +kernel, rfl, by decide +kernel, by decide +kernel⟩
theorem scCellAt : FnScope ["_law_script", "_law_k"] ["_law_script", "_law_k"] (defScope sCellAt) := ⟨rfl, rfl, rfl, by decide +kernel, rfl, by decide +kernel, by decide +kernel⟩
theorem scWhole : FnScope ["_law_found"] ["_law_found"] (defScope sWhole) := ⟨rfl, rfl, rfl, by decide +kernel, rfl, by decide +kernel, by decide +kernel⟩
theorem scNumbers : FnScope ["_law_found", "_law_due_here", "_law_k"] ["_law_found", "_law_due_here"] (defScope sNumbers) := ⟨rfl, rfl, rfl, by decide +kernel, rfl, by decide +kernel, by decide +kernel⟩
theorem scSignBy : FnScope ["_law_cell", "_law_some"] ["_law_cell"] (defScope sSignBy) := ⟨rfl, rfl, rfl, by decide +kernel, rfl, by decide +kernel, by decide +kernel⟩
theorem scOdd : FnScope ["_law_cell", "_law_odd_here"] ["_law_cell"] (defScope sOdd) := ⟨rfl, rfl, rfl, by decide +kernel, rfl, by decide +kernel, by decide +kernel⟩
theorem scLine : FnScope ["_law_script", "_law_words", "_law_counts", "_law_which", "_law_line_here", "_law_k"] ["_law_script"] (defScope sLine) := ⟨rfl, rfl, rfl, by decide +kernel, rfl, by decide +kernel, by decide +kernel⟩
theorem scBuilt : FnScope ["_law_script", "_law_kind", "_law_cell", "_law_line_here", "_law_at"] ["_law_script"] (defScope sBuilt) := ⟨rfl, rfl, rfl, by decide +kernel, rfl, by decide +kernel, by decide +kernel⟩
theorem scNumber : FnScope ["_law_part", "_law_number_here", "_law_sign", "_law_place"] ["_law_part"] (defScope sNumber) := ⟨rfl, rfl, rfl, by decide +kernel, rfl, by decide +kernel, by decide +kernel⟩
theorem scDue : FnScope ["_law_line_here", "_law_words", "_law_counts", "_law_parts", "_law_sign", "_law_numbers_here", "_law_part"] ["_law_line_here"] (defScope sDue) := ⟨rfl, rfl, rfl, by decide +kernel, rfl, by decide +kernel, by decide +kernel⟩
theorem scLaw : FnScope ["_law_script", "_law_line_here", "_law_due_here", "_law_found", "e", "_law_others"] ["_law_script"] (defScope sLaw) := ⟨rfl, rfl, rfl, by decide +kernel, rfl, by decide +kernel, by decide +kernel⟩
end MK

set_option Elab.async false
set_option linter.all false
set_option pp.maxSteps 700
set_option maxRecDepth 100000
set_option maxHeartbeats 4000000
namespace MK
open PySem PySem.Spec PyProof.Rows L2 MM KG MP
section
variable {P : Program} {w : World} {K : PySem.W.Frag} {mg : Str → Option Value} {base : Heap} {EC : ECs}
def spIsNum : Sp := fun vs H Q _ => ∃ z : Str, vs = [.str z] ∧ z.length ≤ sizeLine ∧ Q (.bl (isNum z)) H
theorem ok_isNumber {f : Addr} {fd : FuncData} {t60 : Tok} (F : Fun K "is_number" "is_number" sIsNumber f fd) (m_len : mg "len" = none) (m_MOST_FIGURES : mg "MOST_FIGURES" = some (.int 60 t60)) : FnOk P w K mg base CX0 1 f fd ["text"] spIsNum := by
  refine F.ok scIsNumber (fun vs H Q E h => ?_) (fun cdv A outer s H vs Q E hr h => ?_)
  · obtain ⟨z, rfl, _⟩ := h
    rfl
  · obtain ⟨z, rfl, hz, q⟩ := h
    refine ⟨_, (pss_cons (ps_if (PW.pt (pw_or (pt_not (pt_val (pe_m0 PySem.F.slot_str_isascii PySem.F.type_str_isascii mt_isascii (pv 0)))) (pw_or1 (pt_not (pt_val (pe_m0 PySem.F.slot_str_isdigit PySem.F.type_str_isdigit mt_isdigit (pv 0))))))) (pss_one (ps_ret pe_bl)) pss_nil)
      (pss_cons (ps_if (pt_cmpR op_gt (pe_callB call_len_str (by rfl) m_len (by decide +kernel) (pa_cons (pv 0) pa_nil)) (pe_glob (v := .int 60) (by rfl) m_MOST_FIGURES ⟨_, rfl⟩) (nomark _)) (pss_one (ps_ret pe_bl)) pss_nil)
      (pss_one (ps_ret (pe_or (pe_cmpR op_eq (pv 0) pe_str (nomark _)) (pe_one (pe_not (pe_m1 PySem.F.slot_str_startswith PySem.F.type_str_startswith mt_startswith (pv 0) pe_str)))))))), ?_⟩
    have last : isNum z = (decide (z = nought) || !Txt.startswith z nought) → Q (.bl (decide (z = nought) || !Txt.startswith z nought)) H := fun e => by rw [← e]; exact q
    have no : isNum z = false → Q (.bl false) H := fun e => by rw [← e]; exact q
    refine ⟨_, rfl, ⟨z, rfl⟩, z, rfl, rfl, trivial, _, rfl, ?_⟩
    cases c1 : Txt.isascii z with
    | false => exact iteT (no (isNum_1 c1))
    | true =>
      refine iteF ⟨_, rfl, ⟨z, rfl⟩, z, rfl, rfl, trivial, _, rfl, ?_⟩
      cases c2 : Txt.isdigit z with
      | false => exact iteT (no (isNum_2 c1 c2))
      | true =>
        refine iteF ⟨_, rfl, _, rfl, hz, _, _, rfl, rfl, _, rfl, ?_⟩
        refine ite2 (fun c3 => no (isNum_3 c1 c2 (by have := of_decide_eq_true c3; omega))) (fun c3 => ?_)
        have c3 : z.length ≤ 60 := by
          rcases Nat.lt_or_ge 60 z.length with h | h
          · exact absurd (decide_eq_true (show (60 : Int) < (z.length : Int) by omega)) c3
          · exact h
        have l := last (isNum_4 c1 c2 c3)
        refine ⟨_, rfl, rfl, _, rfl, ?_⟩
        rw [nought_eq]
        by_cases c4 : z = nought
        · rw [decide_eq_true c4, Bool.true_or] at l
          rw [decide_eq_true (congrArg V.str c4)]
          exact iteT l
        · rw [decide_eq_false c4, Bool.false_or] at l
          rw [decide_eq_false (fun h => c4 (V.str.inj h))]
          exact iteF ⟨_, rfl, ⟨z, rfl⟩, z, _, rfl, rfl, _, rfl, l⟩
/-- read: the deed that the line writes, or NoDeed -/
def spRead (EC : ECs) : Sp := fun vs H Q E => ∃ z : Str, vs = [.str z] ∧ z.length + 2 ≤ sizeLine ∧
  (∀ w ns, parse z = some (w, ns) → ∀ p H', Same H H' → H p = none → H' p = some (.tup (V.str w :: ns.map fun n => V.int ((n : Nat) : Int))) → Q (.ref p) H') ∧ (parse z = none → ∀ H', Same H H' → E (.ref EC.noDeed) none H')
theorem ok_read {f fn cC : Addr} {fd fdn : FuncData} {es : Array DictEntry} {n : Nat} (F : Fun K "read" "read" sRead f fd) (D_is_number : Df P w K mg base CX0 1 "is_number" fn fdn ["text"] spIsNum) (KD : KDict K w cC es n) (kv : ∀ z, CntAt K cC z) (m_COUNTS : mg "COUNTS" = some (.ref cC))
    (T_NoDeed : ExC K mg "NoDeed" EC.noDeed) (m_len : mg "len" = none) (m_all : mg "all" = none) (m_int : mg "int" = none) : FnOk P w K mg base (L2N.CX P w) 2 f fd ["line"] (spRead EC) := by
  refine okN F scRead (fun vs H Q E h => ?_) (fun cdv A outer s H vs Q E hr h => ?_)
  · obtain ⟨z, rfl, _⟩ := h
    rfl
  · obtain ⟨z, rfl, hz, qy, qn⟩ := h
    refine ⟨_, (pss_cons (ps_set (i := 1) scRead.nd rfl (.inl rfl) (pe_split (pv 0) pe_str))
      (pss_cons (ps_set (i := 2) scRead.nd rfl (.inl rfl) (pe_ix (ixL (K := K)) (pv 1) pe_int (fun _ _ => rfl)))
      (pss_cons (ps_set (i := 3) scRead.nd rfl (.inl rfl) (pe_slice (slL (K := K)) (pv 1) (po_some pe_int) po_none))
      (pss_cons (ps_if (PW.pt (pw_or (pt_cmpR ((op_notIn_kd KD)) (pv 2) (pe_glob (v := .ref cC) (by rfl) m_COUNTS rfl) (by rfl)) (pw_or1 (pt_cmpR op_ne (pe_callB (lenS (K := K)) (by rfl) m_len (by decide +kernel) (pa_cons (pv 3) pa_nil)) (pe_ix ix_kdict (pe_glob (v := .ref cC) (by rfl) m_COUNTS rfl) (pv 2) (fun _ _ => rfl)) (nomark _))))) (pss_one (L2N.ps_raise rfl (L2N.takes_of rfl rfl rfl rfl) (L2N.pmk_own PySem.F.excBase_ValueError T_NoDeed.xP T_NoDeed.gP T_NoDeed.kP (raises_own T_NoDeed.bP T_NoDeed.tP) rfl))) pss_nil)
      (pss_cons (ps_if (pt_not (pt_val (pe_callB (cr_all rfl) (by rfl) m_all (by decide +kernel) (pa_cons (pe_lc (own := [("text", 5)]) (g := gName 5) (tt := tYes) rfl scRead.nd (pi_list (pv 3)) (blkOk_by (N := ["line", "parts", "word", "figures", "numbers", "text"]) (sc := defScope sRead) (by decide +kernel)) (fun _ _ _ _ _ => (pg_name (i := 5) scRead.nd rfl (.inl rfl))) (fun _ _ _ _ _ => pts_nil) (fun _ _ _ _ _ => (pe_call D_is_number.g (hr.mono (by decide)) (by rfl) D_is_number.m D_is_number.k D_is_number.b .nil pass0 (pa_cons (pv 5) pa_nil)))) pa_nil)))) (pss_one (L2N.ps_raise rfl (L2N.takes_of rfl rfl rfl rfl) (L2N.pmk_own PySem.F.excBase_ValueError T_NoDeed.xP T_NoDeed.gP T_NoDeed.kP (raises_own T_NoDeed.bP T_NoDeed.tP) rfl))) pss_nil)
      (pss_cons (ps_setLc (i := 4) (own := [("text", 5)]) (g := gName 5) (tt := tYes) rfl scRead.nd rfl rfl (sw_true rfl rfl rfl (by decide +kernel)) (pi_list (pv 3)) (blkOk_by (N := ["line", "parts", "word", "figures", "numbers", "text"]) (sc := defScope sRead) (by decide +kernel)) (fun _ _ _ _ _ => (pg_name (i := 5) scRead.nd rfl (.inl rfl))) (fun _ _ _ _ _ => pts_nil) (fun _ _ _ _ _ => (pe_callTy call_int_str (by rfl) m_int (by decide +kernel) (pa_cons (pv 5) pa_nil))))
      (pss_one (ps_ret (pe_tup (pa_cons (pv 2) (StX.pa_star (pv 4) pa_nil))))))))))), ?_⟩
    obtain ⟨sp1, sp2, sp3⟩ := split_all z
    unfold parse at qy qn
    refine ⟨_, rfl, ⟨z, rfl⟩, z, _, rfl, rfl, by decide +kernel, hz, fun p np => ?_⟩
    rw [blank_eq]
    generalize hW : Txt.split z blank = W at sp1 sp2 sp3 qy qn
    cases W with
    | nil => exact absurd rfl sp1
    | cons x figs =>
    have gp : (upd H p (.lst ((x :: figs).map V.str))) p = some (.lst ((x :: figs).map V.str)) := upd_same
    have s1 : Same H (upd H p (.lst ((x :: figs).map V.str))) := same_new np
    generalize upd H p (.lst ((x :: figs).map V.str)) = H1 at gp s1
    refine ⟨_, rfl, p, _, 0, V.str x, rfl, rfl, SqL.of gp, atI_nat (j := 0) rfl, ?_⟩
    refine ⟨_, rfl, _, rfl, p, _, rfl, SqL.of gp, fun r nr => ?_⟩
    rw [show cutV ((x :: figs).map V.str) (some 1) none = figs.map V.str from cutV_tail _ _]
    have gr : (upd H1 r (.lst (figs.map V.str))) r = some (.lst (figs.map V.str)) := upd_same
    have s2 : Same H (upd H1 r (.lst (figs.map V.str))) := s1.trans (same_new nr)
    generalize upd H1 r (.lst (figs.map V.str)) = H2 at gr s2
    obtain ⟨v, hv, cv⟩ := kv x
    refine ⟨_, rfl, x, v, rfl, rfl, hv, _, rfl, ?_⟩
    cases hc : cntOf x with
    | none =>
      rw [hc] at cv
      rw [show v = none from cv]
      exact iteT (qn (parseP_no fun h => by rw [hc] at h; exact nomatch h.1) _ s2)
    | some k =>
      rw [hc] at cv
      obtain ⟨t, rfl⟩ := cv
      refine iteF ⟨_, rfl, r, _, rfl, .inl (SqL.of gr), _, rfl, cC, x, V.int ((k : Nat) : Int), rfl, rfl, ⟨es, n, _, KD.at_, KD.lit, hv, ⟨t, rfl⟩⟩, rfl, _, rfl, ?_⟩
      rw [List.length_map]
      by_cases c1 : figs.length = k
      · rw [decide_eq_true (show V.int ((figs.length : Nat) : Int) = V.int ((k : Nat) : Int) by rw [c1])]
        refine iteF ?_
        have fl : figs.length ≤ z.length := by have := sp2; rw [List.length_cons] at this; omega
        have f63 : figs.length < sizeLine := by omega
        refine ⟨_, rfl, r, rfl, ⟨_, SqL.of gr⟩, fun d nd => ?_⟩
        refine lc_list (K := K) (a := r) (xs := figs.map V.str) (fun i H' => Same H2 H' ∧ H' d = some (.lst (((figs.take i).map isNum).map V.bl))) ⟨same_new nd, upd_same⟩ (fun i H' _ ⟨s, _⟩ => SqL.of (s _ _ gr)) ?_ ?_
        · rintro i y H4 hy ⟨s4, hd⟩
          rw [List.getElem?_map] at hy
          obtain ⟨b, hbi, rfl⟩ : ∃ b, figs[i]? = some b ∧ y = V.str b := by
            cases e : figs[i]? with
            | none => rw [e] at hy; cases hy
            | some o => rw [e] at hy; exact ⟨o, rfl, (Option.some.inj hy).symm⟩
          have bl := sp3 b (List.mem_cons_of_mem _ (List.mem_of_getElem? hbi))
          refine ⟨rfl, _, rfl, b, rfl, by omega, _, hd, ?_, same_put s4 nd, ?_⟩
          · rw [List.length_map, List.length_map, List.length_take]
            omega
          · rw [upd_same, List.take_add_one, hbi, List.map_append, List.map_append]
            rfl
        rintro H3 ⟨s3, hd3⟩
        rw [List.length_map, List.take_length] at hd3
        refine ⟨d, figs.map isNum, rfl, SqL.of hd3, _, rfl, ?_⟩
        rw [show (figs.map isNum).all id = figs.all isNum by rw [List.all_map]; rfl]
        cases c2 : figs.all isNum with
        | false => exact iteT (qn (parseP_no fun h => by rw [c2] at h; exact nomatch h.2) _ (s2.trans s3))
        | true =>
          refine iteF ?_
          have al := List.all_eq_true.mp c2
          have gr3 := s3 _ _ gr
          refine ⟨_, rfl, r, rfl, ⟨_, SqL.of gr3⟩, fun m nm => ?_⟩
          refine lc_list (K := K) (a := r) (xs := figs.map V.str) (fun i H' => Same H3 H' ∧ H' m = some (.lst (((figs.take i).map valN).map fun n => V.int ((n : Nat) : Int)))) ⟨same_new nm, upd_same⟩ (fun i H' _ ⟨s, _⟩ => SqL.of (s _ _ gr3)) ?_ ?_
          · rintro i y H4 hy ⟨s4, hd⟩
            rw [List.getElem?_map] at hy
            obtain ⟨b, hbi, rfl⟩ : ∃ b, figs[i]? = some b ∧ y = V.str b := by
              cases e : figs[i]? with
              | none => rw [e] at hy; cases hy
              | some o => rw [e] at hy; exact ⟨o, rfl, (Option.some.inj hy).symm⟩
            obtain ⟨bi, bl⟩ := isNum_int (al b (List.mem_of_getElem? hbi))
            refine ⟨rfl, _, rfl, b, _, rfl, bi, by omega, _, hd, ?_, same_put s4 nm, ?_⟩
            · rw [List.length_map, List.length_map, List.length_take]
              omega
            · rw [upd_same, List.take_add_one, hbi, List.map_append, List.map_append]
              rfl
          rintro H5 ⟨s5, hm5⟩
          rw [List.length_map, List.take_length] at hm5
          refine ⟨_, rfl, _, rfl, m, _, rfl, .inr (SqL.of hm5), ?_, fun u nu => ?_⟩
          · simp only [List.append_nil, List.length_cons, List.length_map]
            omega
          · rw [List.append_nil]
            have s6 := (s2.trans s3).trans s5
            exact qy x (figs.map valN) (parseP_ok (by rw [c1]; exact hc) c2) u _ (s6.trans (same_new nu)) (s6.free nu) upd_same
      · rw [decide_eq_false (show ¬ V.int ((figs.length : Nat) : Int) = V.int ((k : Nat) : Int) from fun h => c1 (by have := V.int.inj h; omega))]
        exact iteT (qn (parseP_no fun h => by rw [hc] at h; exact c1 (Option.some.inj h.1).symm) _ s2)
/-- told: the deed's text -/
def spTold (K : PySem.W.Frag) : Sp := fun vs H Q _ => ∃ (t : Addr) (w : Str) (ns : List Nat), vs = [.ref t] ∧ SqT K H t (V.str w :: ns.map fun n => V.int ((n : Nat) : Int)) ∧ H t = some (.tup (V.str w :: ns.map fun n => V.int ((n : Nat) : Int))) ∧ w.length ≤ 10 ∧ ns.length ≤ 10 ∧ (∀ n ∈ ns, n < 10 ^ 60) ∧
  ∀ H', Same H H' → Q (.str (Txt.join blank (w :: ns.map figS))) H'
end
end MK

set_option Elab.async false
set_option linter.all false
set_option pp.maxSteps 700
set_option maxRecDepth 100000
set_option maxHeartbeats 4000000
namespace MK
open PySem PySem.Spec PyProof.Rows L2 MM KG MP
section
variable {P : Program} {w : World} {K : PySem.W.Frag} {mg : Str → Option Value} {base : Heap} {C : Addr} {EC : ECs}
theorem ok_cell {f : Addr} {fd : FuncData} (F : Fun K "_law_cell_at" "_law_cell_at" sCellAt f fd) (m_len : mg "len" = none) : FnOk P w K mg base CX0 1 f fd ["_law_script", "_law_k"] (spCell K) := by
  refine F.ok scCellAt (fun vs H Q E h => ?_) (fun cdv A outer s H vs Q E hr h => ?_)
  · obtain ⟨l, ns, j, rfl, _⟩ := h
    rfl
  · obtain ⟨l, ns, j, rfl, hS, q⟩ := h
    refine ⟨_, (pss_cons (ps_if (pt_cmpR op_lt (pv 1) (pe_callB (lenS (K := K)) (by rfl) m_len (by decide +kernel) (pa_cons (pv 0) pa_nil)) (nomark _)) (pss_one (ps_ret (pe_ix (ixL (K := K)) (pv 0) (pv 1) (fun _ _ => rfl)))) pss_nil)
      (pss_one (ps_ret pe_int))), ?_⟩
    refine ⟨_, rfl, _, rfl, l, _, rfl, .inl hS, _, _, rfl, rfl, _, rfl, ite2 (fun e => ?_) (fun e => ?_)⟩
    · have e1 := of_decide_eq_true e
      rw [List.length_map] at e1
      exact ⟨_, rfl, _, rfl, l, _, _, _, rfl, rfl, hS, atI_cell (by omega), q⟩
    · have e2 : cellOf ns j = 0 := cell_out fun z => e (decide_eq_true (by rw [List.length_map]; omega))
      rw [e2] at q
      exact q
theorem ok_whole {f : Addr} {fd : FuncData} (F : Fun K "_law_whole" "_law_whole" sWhole f fd) (m_isinstance : mg "isinstance" = none) (m_int : mg "int" = none) (m_bool : mg "bool" = none) : FnOk P w K mg base CX0 1 f fd ["_law_found"] spWhole := by
  refine F.ok scWhole (fun vs H Q E h => ?_) (fun cdv A outer s H vs Q E hr h => ?_)
  · obtain ⟨i, rfl, _⟩ := h
    rfl
  · obtain ⟨i, rfl, q⟩ := h
    refine ⟨_, (pss_one (ps_ret (pe_and (pe_callB (isiK (K := K)) (by rfl) m_isinstance (by decide +kernel) (pa_cons (pv 0) (pa_cons (pe_bltn (v := .ty "int") (by rfl) m_int (by decide +kernel) rfl) pa_nil))) (pe_one (pe_not (pe_callB (isiK (K := K)) (by rfl) m_isinstance (by decide +kernel) (pa_cons (pv 0) (pa_cons (pe_bltn (v := .ty "bool") (by rfl) m_bool (by decide +kernel) rfl) pa_nil)))))))), ?_⟩
    refine ⟨_, rfl, .int i, .ty "int", _, _, true, rfl, .ty _, .base (.int i), kit_ty (by decide +kernel), true, rfl, iteT ?_⟩
    exact ⟨_, rfl, .int i, .ty "bool", _, _, false, rfl, .ty _, .base (.int i), kit_ty (by decide +kernel), false, rfl, q⟩
theorem ok_numbers {f fW : Addr} {fd fdW : FuncData} (F : Fun K "_law_numbers" "_law_numbers" sNumbers f fd) (D__law_whole : Df P w K mg base CX0 1 "_law_whole" fW fdW ["_law_found"] spWhole)
    (m_isinstance : mg "isinstance" = none) (m_list : mg "list" = none) (m_len : mg "len" = none) (m_range : mg "range" = none) : FnOk P w K mg base CX0 2 f fd (["_law_found", "_law_due_here"]) spNumbers := by
  refine F.ok scNumbers (fun vs H Q E h => ?_) (fun cdv A outer s H vs Q E hr h => ?_)
  · obtain ⟨a, b, xs, rfl, _⟩ := h
    rfl
  · obtain ⟨a, b, xs, rfl, ha, hb, pl, len, q⟩ := h
    refine ⟨_, (pss_cons (ps_if (PW.pt (pw_or (pt_not (pt_val (pe_callB (isiK (K := K)) (by rfl) m_isinstance (by decide +kernel) (pa_cons (pv 0) (pa_cons (pe_bltn (v := .ty "list") (by rfl) m_list (by decide +kernel) rfl) pa_nil))))) (pw_or1 (pt_cmpR op_ne (pe_callB (lenS (K := K)) (by rfl) m_len (by decide +kernel) (pa_cons (pv 0) pa_nil)) (pe_callB (lenS (K := K)) (by rfl) m_len (by decide +kernel) (pa_cons (pv 1) pa_nil)) (nomark _))))) (pss_one (ps_ret pe_bl)) pss_nil)
      (pss_cons (ps_for PassesOwn.never rfl (pi_range1 (by rfl) m_range (pa_cons (pe_callB (lenS (K := K)) (by rfl) m_len (by decide +kernel) (pa_cons (pv 1) pa_nil)) pa_nil)) (pg_name (i := 2) scNumbers.nd rfl (.inl rfl)) (pss_cons (ps_if (PW.pt (pw_and (pt_cmpR op_isN (pe_ix (ixL (K := K)) (pv 1) (pv 2) (fun _ _ => rfl)) pe_non (nomark _)) (pw_and1 (pt_cmpR op_notN (pe_ix (ixL (K := K)) (pv 0) (pv 2) (fun _ _ => rfl)) pe_non (nomark _))))) (pss_one (ps_ret pe_bl)) pss_nil)
      (pss_one (ps_if (PW.pt (pw_and (pt_cmpR op_notN (pe_ix (ixL (K := K)) (pv 1) (pv 2) (fun _ _ => rfl)) pe_non (nomark _)) (pw_and1 (PW.pt (pw_or (pt_not (pt_val (pe_call D__law_whole.g (hr.mono (by decide)) (by rfl) D__law_whole.m D__law_whole.k D__law_whole.b .nil pass0 (pa_cons (pe_ix (ixL (K := K)) (pv 0) (pv 2) (fun _ _ => rfl)) pa_nil)))) (pw_or1 (pt_cmpR op_ne (pe_ix (ixL (K := K)) (pv 0) (pv 2) (fun _ _ => rfl)) (pe_ix (ixL (K := K)) (pv 1) (pv 2) (fun _ _ => rfl)) (nomark _)))))))) (pss_one (ps_ret pe_bl)) pss_nil))))
      (pss_one (ps_ret pe_bl)))), ?_⟩
    have sa : SqL K H a xs := SqL.of ha
    have sb : SqL K H b xs := SqL.of hb
    refine ⟨_, rfl, .ref a, .ty "list", _, _, true, rfl, .ty _, .base (.lst ha), kit_ty (by decide +kernel), true, rfl, iteF ?_⟩
    refine ⟨_, rfl, a, xs, rfl, .inl sa, _, rfl, b, xs, rfl, .inl sb, rfl, _, rfl, ?_⟩
    rw [decide_eq_true rfl]
    refine iteF ?_
    refine ⟨_, rfl, b, xs, rfl, .inl sb, (xs.length : Int), rfl, by omega, by have := size2k (n := xs.length) (by omega); unfold sizeLine at this; omega, ?_⟩
    rw [Int.toNat_natCast]
    refine for_range (fun i σ H' => ∃ z, σ = [some (.ref a), some (.ref b), z] ∧ H' = H) ⟨none, rfl, rfl⟩ ?_ ?_
    · rintro i σ H' hi ⟨z, rfl, rfl⟩
      have ex : xs[i]? = some xs[i] := List.getElem?_eq_getElem hi
      have pi := pl _ (List.getElem_mem hi)
      generalize xs[i] = x at ex pi
      have ax : atI xs (0 + (i : Int)) = some x := by
        rw [Int.zero_add]
        exact atI_nat ex
      rcases pi with rfl | ⟨v, rfl⟩
      · refine ⟨_, rfl, _, rfl, b, xs, _, _, rfl, rfl, sb, ax, rfl, _, rfl, iteT ?_⟩
        refine ⟨_, rfl, _, rfl, a, xs, _, _, rfl, rfl, sa, ax, rfl, _, rfl, iteF ?_⟩
        refine ⟨_, rfl, _, rfl, b, xs, _, _, rfl, rfl, sb, ax, rfl, _, rfl, iteF ?_⟩
        exact iteF ⟨_, rfl, rfl⟩
      · refine ⟨_, rfl, _, rfl, b, xs, _, _, rfl, rfl, sb, ax, rfl, _, rfl, iteF (iteF ?_)⟩
        refine ⟨_, rfl, _, rfl, b, xs, _, _, rfl, rfl, sb, ax, rfl, _, rfl, iteT ?_⟩
        refine ⟨_, rfl, _, rfl, a, xs, _, _, rfl, rfl, sa, ax, v, rfl, true, rfl, iteF ?_⟩
        refine ⟨_, rfl, _, rfl, a, xs, _, _, rfl, rfl, sa, ax, _, rfl, _, rfl, b, xs, _, _, rfl, rfl, sb, ax, rfl, _, rfl, ?_⟩
        rw [decide_eq_true rfl]
        exact iteF ⟨_, rfl, rfl⟩
    · rintro σ H' ⟨z, rfl, rfl⟩
      exact q
end
end MK

set_option Elab.async false
set_option linter.all false
set_option pp.maxSteps 700
set_option maxRecDepth 100000
set_option maxHeartbeats 4000000
namespace MK
open PySem PySem.Spec PyProof.Rows L2 MM KG MP SX TL
section
variable {P : Program} {w : World} {K : PySem.W.Frag} {mg : Str → Option Value} {base : Heap}
/-- a text of at most m signs comes out -/
def spShort (m : Nat) : Sp := fun vs H Q _ => ∃ c : Int, vs = [.int c] ∧ ∀ (z : Str) (H' : Hp), z.length ≤ m → Same H H' → Q (.str z) H'
theorem ok_signBy {f : Addr} {fd : FuncData} (F : Fun K "_law_sign_by" "_law_sign_by" sSignBy f fd) : FnOk P w K mg base CX0 1 f fd ["_law_cell"] (spShort 1) := by
  refine F.ok scSignBy (fun vs H Q E h => ?_) (fun cdv A outer s H vs Q E hr h => ?_)
  · obtain ⟨c, rfl, _⟩ := h
    rfl
  · obtain ⟨c, rfl, q⟩ := h
    refine ⟨_, (pss_cons (ps_set (i := 1) scSignBy.nd rfl (.inl rfl) pe_str)
      (pss_cons (ps_set (i := 1) scSignBy.nd rfl (.inl rfl) (pe_op op_add_str (pv 1) pe_str))
      (pss_one (ps_ret (pe_ix ix_str (pv 1) (pe_op op_mod (pv 0) pe_int) (fun _ _ => rfl)))))), ?_⟩
    refine ⟨_, rfl, _, _, rfl, rfl, by decide +kernel, ?_⟩
    have lt : c % 96 < 96 := Int.emod_lt_of_pos _ (by decide)
    have ge : 0 ≤ c % 96 := Int.emod_nonneg _ (by decide)
    obtain ⟨x, hx, _⟩ := atI_some (xs := ((" !\"#$&'()*+,-./0123456789:;<=>?@ABCDEFGHIJKLMNOPQRSTUVWXYZ[\\]^_`" : Str) ++ ("abcdefghijklmnopqrstuvwxyz{|}~\n\t" : Str)).cps.toList) ge (by rw [show ((" !\"#$&'()*+,-./0123456789:;<=>?@ABCDEFGHIJKLMNOPQRSTUVWXYZ[\\]^_`" : Str) ++ ("abcdefghijklmnopqrstuvwxyz{|}~\n\t" : Str)).cps.toList.length = 96 by decide +kernel]; exact lt)
    exact ⟨_, rfl, _, rfl, _, _, rfl, rfl, (by show (0 : Int) < 96; decide), _, _, x, rfl, rfl, by decide +kernel, hx, q _ _ (Nat.le_refl 1) (Same.refl H)⟩
theorem ok_odd {f : Addr} {fd : FuncData} (F : Fun K "_law_odd" "_law_odd" sOdd f fd) (m_len : mg "len" = none) : FnOk P w K mg base CX0 1 f fd ["_law_cell"] (spShort 20) := by
  refine F.ok scOdd (fun vs H Q E h => ?_) (fun cdv A outer s H vs Q E hr h => ?_)
  · obtain ⟨c, rfl, _⟩ := h
    rfl
  · obtain ⟨c, rfl, q⟩ := h
    refine ⟨_, (pss_cons (ps_set (i := 1) scOdd.nd rfl (.inl rfl) (pe_lst (pa_cons pe_str (pa_cons pe_str (pa_cons pe_str (pa_cons pe_str (pa_cons pe_str (pa_cons pe_str (pa_cons pe_str (pa_cons pe_str (pa_cons pe_str (pa_cons pe_str pa_nil))))))))))))
      (pss_cons (ps_set (i := 1) scOdd.nd rfl (.inl rfl) (pe_op op_cat (pv 1) (pe_lst (pa_cons pe_str (pa_cons pe_str (pa_cons pe_str (pa_cons pe_str (pa_cons pe_str (pa_cons pe_str (pa_cons pe_str (pa_cons pe_str pa_nil)))))))))))
      (pss_cons (ps_set (i := 1) scOdd.nd rfl (.inl rfl) (pe_op op_cat (pv 1) (pe_lst (pa_cons pe_str (pa_cons pe_str (pa_cons pe_str (pa_cons pe_str pa_nil)))))))
      (pss_one (ps_ret (pe_ix (ixL (K := K)) (pv 1) (pe_op op_mod (pv 0) (pe_callB (lenS (K := K)) (by rfl) m_len (by decide +kernel) (pa_cons (pv 1) pa_nil))) (fun _ _ => rfl))))))), ?_⟩
    refine ⟨by decide, fun p np => ?_⟩
    have s1 := same_new (o := .lst [V.str "", V.str " ", V.str "make", V.str "make 1", V.str "make 1 2 3", V.str "Make 1 2", V.str "make  1 2", V.str " drop 1", V.str "drop 1 ", V.str "drop"]) np
    have g1 := upd_same (H := H) (a := p) (o := .lst [V.str "", V.str " ", V.str "make", V.str "make 1", V.str "make 1 2 3", V.str "Make 1 2", V.str "make  1 2", V.str " drop 1", V.str "drop 1 ", V.str "drop"])
    generalize upd H p (.lst [V.str "", V.str " ", V.str "make", V.str "make 1", V.str "make 1 2 3", V.str "Make 1 2", V.str "make  1 2", V.str " drop 1", V.str "drop 1 ", V.str "drop"]) = H1 at s1 g1
    refine ⟨_, rfl, by decide, fun p2 np2 => ?_⟩
    have s2 := s1.trans (same_new (o := .lst [V.str "drop 01", V.str "drop -1", V.str "drop +1", V.str "drop 1.0", V.str "work 1_0", V.str "work1", V.str "take 1 2", V.str "put 0 0"]) np2)
    have g2 := (same_new (o := .lst [V.str "drop 01", V.str "drop -1", V.str "drop +1", V.str "drop 1.0", V.str "work 1_0", V.str "work1", V.str "take 1 2", V.str "put 0 0"]) np2) _ _ g1
    have g3 := upd_same (H := H1) (a := p2) (o := .lst [V.str "drop 01", V.str "drop -1", V.str "drop +1", V.str "drop 1.0", V.str "work 1_0", V.str "work1", V.str "take 1 2", V.str "put 0 0"])
    generalize upd H1 p2 (.lst [V.str "drop 01", V.str "drop -1", V.str "drop +1", V.str "drop 1.0", V.str "work 1_0", V.str "work1", V.str "take 1 2", V.str "put 0 0"]) = H2 at s2 g2 g3
    refine ⟨p, p2, _, _, rfl, rfl, g2, g3, by decide, fun p3 np3 => ?_⟩
    have s4 := s2.trans (same_new (o := .lst ([V.str "", V.str " ", V.str "make", V.str "make 1", V.str "make 1 2 3", V.str "Make 1 2", V.str "make  1 2", V.str " drop 1", V.str "drop 1 ", V.str "drop"] ++ [V.str "drop 01", V.str "drop -1", V.str "drop +1", V.str "drop 1.0", V.str "work 1_0", V.str "work1", V.str "take 1 2", V.str "put 0 0"])) np3)
    have g4 := upd_same (H := H2) (a := p3) (o := .lst ([V.str "", V.str " ", V.str "make", V.str "make 1", V.str "make 1 2 3", V.str "Make 1 2", V.str "make  1 2", V.str " drop 1", V.str "drop 1 ", V.str "drop"] ++ [V.str "drop 01", V.str "drop -1", V.str "drop +1", V.str "drop 1.0", V.str "work 1_0", V.str "work1", V.str "take 1 2", V.str "put 0 0"]))
    generalize upd H2 p3 (.lst ([V.str "", V.str " ", V.str "make", V.str "make 1", V.str "make 1 2 3", V.str "Make 1 2", V.str "make  1 2", V.str " drop 1", V.str "drop 1 ", V.str "drop"] ++ [V.str "drop 01", V.str "drop -1", V.str "drop +1", V.str "drop 1.0", V.str "work 1_0", V.str "work1", V.str "take 1 2", V.str "put 0 0"])) = H3 at s4 g4
    refine ⟨_, rfl, by decide, fun p4 np4 => ?_⟩
    have s5 := s4.trans (same_new (o := .lst [V.str "share 0", V.str "hold 1", V.str "work 00", V.str "drop 1 1"]) np4)
    have g5 := (same_new (o := .lst [V.str "share 0", V.str "hold 1", V.str "work 00", V.str "drop 1 1"]) np4) _ _ g4
    have g6 := upd_same (H := H3) (a := p4) (o := .lst [V.str "share 0", V.str "hold 1", V.str "work 00", V.str "drop 1 1"])
    generalize upd H3 p4 (.lst [V.str "share 0", V.str "hold 1", V.str "work 00", V.str "drop 1 1"]) = H4 at s5 g5 g6
    refine ⟨p3, p4, _, _, rfl, rfl, g5, g6, by decide, fun p5 np5 => ?_⟩
    have s6 := s5.trans (same_new (o := .lst (([V.str "", V.str " ", V.str "make", V.str "make 1", V.str "make 1 2 3", V.str "Make 1 2", V.str "make  1 2", V.str " drop 1", V.str "drop 1 ", V.str "drop"] ++ [V.str "drop 01", V.str "drop -1", V.str "drop +1", V.str "drop 1.0", V.str "work 1_0", V.str "work1", V.str "take 1 2", V.str "put 0 0"]) ++ [V.str "share 0", V.str "hold 1", V.str "work 00", V.str "drop 1 1"])) np5)
    have g7 := upd_same (H := H4) (a := p5) (o := .lst (([V.str "", V.str " ", V.str "make", V.str "make 1", V.str "make 1 2 3", V.str "Make 1 2", V.str "make  1 2", V.str " drop 1", V.str "drop 1 ", V.str "drop"] ++ [V.str "drop 01", V.str "drop -1", V.str "drop +1", V.str "drop 1.0", V.str "work 1_0", V.str "work1", V.str "take 1 2", V.str "put 0 0"]) ++ [V.str "share 0", V.str "hold 1", V.str "work 00", V.str "drop 1 1"]))
    have lt : c % 22 < 22 := Int.emod_lt_of_pos _ (by decide)
    have ge : 0 ≤ c % 22 := Int.emod_nonneg _ (by decide)
    obtain ⟨v, hv, mv⟩ := atI_some (xs := (([V.str "", V.str " ", V.str "make", V.str "make 1", V.str "make 1 2 3", V.str "Make 1 2", V.str "make  1 2", V.str " drop 1", V.str "drop 1 ", V.str "drop"] ++ [V.str "drop 01", V.str "drop -1", V.str "drop +1", V.str "drop 1.0", V.str "work 1_0", V.str "work1", V.str "take 1 2", V.str "put 0 0"]) ++ [V.str "share 0", V.str "hold 1", V.str "work 00", V.str "drop 1 1"])) ge lt
    have al : ((([V.str "", V.str " ", V.str "make", V.str "make 1", V.str "make 1 2 3", V.str "Make 1 2", V.str "make  1 2", V.str " drop 1", V.str "drop 1 ", V.str "drop"] ++ [V.str "drop 01", V.str "drop -1", V.str "drop +1", V.str "drop 1.0", V.str "work 1_0", V.str "work1", V.str "take 1 2", V.str "put 0 0"]) ++ [V.str "share 0", V.str "hold 1", V.str "work 00", V.str "drop 1 1"]).all fun v => match v with | .str z => decide (z.length ≤ 20) | _ => false) = true := by decide +kernel
    have vs := List.all_eq_true.mp al v mv
    cases v with
    | str z =>
      have zl : z.length ≤ 20 := of_decide_eq_true vs
      exact ⟨_, rfl, _, rfl, _, rfl, p5, _, rfl, .inl (SqL.of g7), _, _, rfl, rfl, (by show (0 : Int) < 22; decide), p5, _, _, V.str z, rfl, rfl, SqL.of g7, hv, q _ _ zl s6⟩
    | _ => exact nomatch vs
/-- the line that a deed writes -/
def spLine (K : PySem.W.Frag) : Sp := fun vs H Q _ => ∃ (l : Addr) (ns : List Int), vs = [.ref l] ∧ SqL K H l (ns.map V.int) ∧ ∀ (z : Str) (H' : Hp), 1 ≤ z.length → z.length ≤ 20 → Same H H' → Q (.str z) H'
theorem ok_line {f fa : Addr} {fd fda : FuncData} (F : Fun K "_law_line" "_law_line" sLine f fd) (D__law_cell_at : Df P w K mg base CX0 1 "_law_cell_at" fa fda ["_law_script", "_law_k"] (spCell K)) (m_range : mg "range" = none) (m_str : mg "str" = none) : FnOk P w K mg base CX0 2 f fd ["_law_script"] (spLine K) := by
  refine F.ok scLine (fun vs H Q E h => ?_) (fun cdv A outer s H vs Q E hr h => ?_)
  · obtain ⟨l, ns, rfl, _⟩ := h
    rfl
  · obtain ⟨l, ns, rfl, hS, q⟩ := h
    refine ⟨_, (pss_cons (ps_set (i := 1) scLine.nd rfl (.inl rfl) (pe_lst (pa_cons pe_str (pa_cons pe_str (pa_cons pe_str (pa_cons pe_str (pa_cons pe_str (pa_cons pe_str pa_nil))))))))
      (pss_cons (ps_set (i := 2) scLine.nd rfl (.inl rfl) (pe_lst (pa_cons pe_int (pa_cons pe_int (pa_cons pe_int (pa_cons pe_int (pa_cons pe_int (pa_cons pe_int pa_nil))))))))
      (pss_cons (ps_set (i := 3) scLine.nd rfl (.inl rfl) (pe_op op_mod (pe_call D__law_cell_at.g (hr.mono (by decide)) (by rfl) D__law_cell_at.m D__law_cell_at.k D__law_cell_at.b .nil pass0 (pa_cons (pv 0) (pa_cons pe_int pa_nil))) pe_int))
      (pss_cons (ps_set (i := 4) scLine.nd rfl (.inl rfl) (pe_ix (ixL (K := K)) (pv 1) (pv 3) (fun _ _ => rfl)))
      (pss_cons (ps_for PassesOwn.never rfl (pi_range1 (by rfl) m_range (pa_cons (pe_ix (ixL (K := K)) (pv 2) (pv 3) (fun _ _ => rfl)) pa_nil)) (pg_name (i := 5) scLine.nd rfl (.inl rfl)) (pss_one (ps_set (i := 4) scLine.nd rfl (.inl rfl) (pe_op op_add_str (pe_op op_add_str (pv 4) pe_str) (pe_callTy call_str_int (by rfl) m_str (by decide +kernel) (pa_cons (pe_op op_mod (pe_call D__law_cell_at.g (hr.mono (by decide)) (by rfl) D__law_cell_at.m D__law_cell_at.k D__law_cell_at.b .nil pass0 (pa_cons (pv 0) (pa_cons (pe_op op_add pe_int (pv 5)) pa_nil))) pe_int) pa_nil))))))
      (pss_one (ps_ret (pv 4)))))))), ?_⟩
    obtain ⟨W, n, hw, hc, cw, fw, lw, k1, k3, l1⟩ := word_at (cellOf ns 1)
    have six : (6 : Nat) ≤ sizeLine := by decide
    refine ⟨six, fun p np => ⟨six, fun c nc => ?_⟩⟩
    have gc : (upd (upd H p (.lst wordsV)) c (.lst cntsV)) c = some (.lst cntsV) := upd_same
    have gp : (upd (upd H p (.lst wordsV)) c (.lst cntsV)) p = some (.lst wordsV) := same_new (H := upd H p (.lst wordsV)) nc _ _ upd_same
    have s1 : Same H (upd (upd H p (.lst wordsV)) c (.lst cntsV)) := (same_new np).trans (same_new nc)
    generalize upd (upd H p (.lst wordsV)) c (.lst cntsV) = H1 at gc gp s1
    refine ⟨_, rfl, l, ns, 1, rfl, s1.seq hS, _, _, rfl, rfl, (by show (0 : Int) < 6; decide), ?_⟩
    refine ⟨_, rfl, _, rfl, p, _, _, V.str W, rfl, rfl, SqL.of gp, hw, ?_⟩
    refine ⟨_, rfl, _, rfl, c, _, _, V.int ((n : Nat) : Int), rfl, rfl, SqL.of gc, hc, ((n : Nat) : Int), rfl, by omega, by omega, ?_⟩
    rw [Int.toNat_natCast]
    refine for_range (fun i σ H' => ∃ (D : Str) (a : Option V), σ = [some (.ref l), some (.ref p), some (.ref c), some (.int (cellOf ns 1 % 6)), some (.str D), a] ∧ 1 ≤ D.length ∧ D.length ≤ 5 + 5 * i ∧ H' = H1) ⟨W, none, rfl, l1, by omega, rfl⟩ ?_ ?_
    · rintro i σ H' hi ⟨D, a, rfl, dl, du, rfl⟩
      have bl : (" " : Str).length = 1 := by decide +kernel
      have h0 : 0 ≤ cellOf ns (2 + i) % 1200 := Int.emod_nonneg _ (by decide)
      have h1 : cellOf ns (2 + i) % 1200 < 1200 := Int.emod_lt_of_pos _ (by decide)
      obtain ⟨m, hm⟩ : ∃ m : Nat, cellOf ns (2 + i) % 1200 = (m : Int) := ⟨(cellOf ns (2 + i) % 1200).toNat, by omega⟩
      have fl : (figS m).length ≤ 4 := by
        unfold figS
        rw [S_len]
        exact numL_len (by decide) (by omega)
      refine ⟨_, rfl, _, _, rfl, rfl, (by rw [bl]; exact Nat.le_of_lt (size_of (by omega))), ?_⟩
      refine ⟨_, rfl, _, rfl, _, _, rfl, rfl, l, ns, 2 + i, congrArg (fun z => [V.ref l, V.int z]) (by omega), s1.seq hS, ?_⟩
      refine ⟨_, _, rfl, rfl, (by show (0 : Int) < 1200; decide), _, rfl, ?_, ?_⟩
      · rw [hm, Int.natAbs_natCast]
        exact Nat.lt_of_le_of_lt (Nat.log2_le_self m) (by omega)
      · rw [hm, fig_str]
        refine ⟨_, _, rfl, rfl, ?_, ?_⟩
        · rw [len_app, bl]
          exact Nat.le_of_lt (size_of (by omega))
        · exact ⟨_, _, rfl, by rw [len_app, len_app]; omega, by rw [len_app, len_app, bl]; omega, rfl⟩
    · rintro σ H' ⟨D, a, rfl, dl, du, rfl⟩
      exact ⟨_, rfl, q D _ dl (by omega) s1⟩
end
end MK

set_option Elab.async false
set_option linter.all false
set_option pp.maxSteps 700
set_option maxRecDepth 100000
set_option maxHeartbeats 4000000
namespace MK
open PySem PySem.Spec PyProof.Rows L2 MM KG MP SX TL
section
variable {P : Program} {w : World} {K : PySem.W.Frag} {mg : Str → Option Value} {base : Heap}
theorem cut_le (z : Str) (lo hi : Option Int) : (cutS z lo hi).length ≤ z.length := by
  unfold cutS
  show (List.toArray _).size ≤ _
  rw [List.size_toArray, List.length_take, List.length_drop]
  have : z.cps.toList.length = z.length := by simp [Str.length]
  omega
/-- some line comes out -/
def spBuilt (K : PySem.W.Frag) : Sp := fun vs H Q _ => ∃ (l : Addr) (ns : List Int), vs = [.ref l] ∧ SqL K H l (ns.map V.int) ∧ ∀ (z : Str) (H' : Hp), z.length ≤ 300 → Same H H' → Q (.str z) H'
theorem ok_built {f fa fs fo fl : Addr} {fd fda fds fdo fdl : FuncData} (F : Fun K "_law_built" "_law_built" sBuilt f fd) (D__law_cell_at : Df P w K mg base CX0 1 "_law_cell_at" fa fda ["_law_script", "_law_k"] (spCell K)) (D__law_sign_by : Df P w K mg base CX0 1 "_law_sign_by" fs fds ["_law_cell"] (spShort 1))
    (D__law_odd : Df P w K mg base CX0 1 "_law_odd" fo fdo ["_law_cell"] (spShort 20)) (D__law_line : Df P w K mg base CX0 2 "_law_line" fl fdl ["_law_script"] (spLine K)) (m_len : mg "len" = none) : FnOk P w K mg base CX0 3 f fd ["_law_script"] (spBuilt K) := by
  refine F.ok scBuilt (fun vs H Q E h => ?_) (fun cdv A outer s H vs Q E hr h => ?_)
  · obtain ⟨l, ns, rfl, _⟩ := h
    rfl
  · obtain ⟨l, ns, rfl, hS, q⟩ := h
    refine ⟨_, (pss_cons (ps_set (i := 1) scBuilt.nd rfl (.inl rfl) (pe_op op_mod (pe_call D__law_cell_at.g (hr.mono (by decide)) (by rfl) D__law_cell_at.m D__law_cell_at.k D__law_cell_at.b .nil pass0 (pa_cons (pv 0) (pa_cons pe_int pa_nil))) pe_int))
      (pss_cons (ps_set (i := 2) scBuilt.nd rfl (.inl rfl) (pe_call D__law_cell_at.g (hr.mono (by decide)) (by rfl) D__law_cell_at.m D__law_cell_at.k D__law_cell_at.b .nil pass0 (pa_cons (pv 0) (pa_cons pe_int pa_nil))))
      (pss_cons (ps_set (i := 3) scBuilt.nd rfl (.inl rfl) (pe_call D__law_line.g (hr.mono (by decide)) (by rfl) D__law_line.m D__law_line.k D__law_line.b .nil pass0 (pa_cons (pv 0) pa_nil)))
      (pss_cons (ps_if (pt_cmpR op_eq (pv 1) pe_int (nomark _)) (pss_cons (ps_set (i := 4) scBuilt.nd rfl (.inl rfl) (pe_op op_mod (pv 2) (pe_op op_add (pe_callB call_len_str (by rfl) m_len (by decide +kernel) (pa_cons (pv 3) pa_nil)) pe_int)))
      (pss_cons (ps_if (pt_cmpR op_eq (pe_op op_mod (pe_call D__law_cell_at.g (hr.mono (by decide)) (by rfl) D__law_cell_at.m D__law_cell_at.k D__law_cell_at.b .nil pass0 (pa_cons (pv 0) (pa_cons pe_int pa_nil))) pe_int) pe_int (nomark _)) (pss_one (ps_ret (pe_op op_add_str (pe_op op_add_str (pe_slice sl_str (pv 3) po_none (po_some (pv 4))) (pe_ix ix_str pe_str (pe_op op_mod (pe_op op_fdiv (pe_call D__law_cell_at.g (hr.mono (by decide)) (by rfl) D__law_cell_at.m D__law_cell_at.k D__law_cell_at.b .nil pass0 (pa_cons (pv 0) (pa_cons pe_int pa_nil))) pe_int) pe_int) (fun _ _ => rfl))) (pe_slice sl_str (pv 3) (po_some (pv 4)) po_none)))) pss_nil)
      (pss_one (ps_ret (pe_op op_add_str (pe_op op_add_str (pe_slice sl_str (pv 3) po_none (po_some (pv 4))) (pe_call D__law_sign_by.g (hr.mono (by decide)) (by rfl) D__law_sign_by.m D__law_sign_by.k D__law_sign_by.b .nil pass0 (pa_cons (pe_call D__law_cell_at.g (hr.mono (by decide)) (by rfl) D__law_cell_at.m D__law_cell_at.k D__law_cell_at.b .nil pass0 (pa_cons (pv 0) (pa_cons pe_int pa_nil))) pa_nil))) (pe_slice sl_str (pv 3) (po_some (pv 4)) po_none)))))) pss_nil)
      (pss_cons (ps_if (pt_cmpR op_eq (pv 1) pe_int (nomark _)) (pss_cons (ps_set (i := 4) scBuilt.nd rfl (.inl rfl) (pe_op op_mod (pv 2) (pe_callB call_len_str (by rfl) m_len (by decide +kernel) (pa_cons (pv 3) pa_nil))))
      (pss_one (ps_ret (pe_op op_add_str (pe_slice sl_str (pv 3) po_none (po_some (pv 4))) (pe_slice sl_str (pv 3) (po_some (pe_op op_add (pv 4) pe_int)) po_none))))) pss_nil)
      (pss_cons (ps_if (pt_cmpR op_eq (pv 1) pe_int (nomark _)) (pss_one (ps_ret (pe_call D__law_odd.g (hr.mono (by decide)) (by rfl) D__law_odd.m D__law_odd.k D__law_odd.b .nil pass0 (pa_cons (pv 2) pa_nil)))) pss_nil)
      (pss_cons (ps_if (pt_cmpR op_eq (pv 1) pe_int (nomark _)) (pss_one (ps_ret (pe_op op_add_str (pe_op op_add_str pe_str (pe_ix ix_str pe_str (pe_op op_mod (pv 2) pe_int) (fun _ _ => rfl))) (pe_op op_mul_text pe_str (pe_op op_add pe_int (pe_op op_mod (pe_call D__law_cell_at.g (hr.mono (by decide)) (by rfl) D__law_cell_at.m D__law_cell_at.k D__law_cell_at.b .nil pass0 (pa_cons (pv 0) (pa_cons pe_int pa_nil))) pe_int)))))) pss_nil)
      (pss_one (ps_ret (pv 3)))))))))), ?_⟩
    refine ⟨_, rfl, l, ns, 0, rfl, hS, _, _, rfl, rfl, (by show (0 : Int) < 5; decide), ?_⟩
    refine ⟨_, rfl, l, ns, 5, rfl, hS, ?_⟩
    refine ⟨_, rfl, l, ns, rfl, hS, fun z H1 z1 z20 s1 => ?_⟩
    have sz : z.length ≤ sizeLine := Nat.le_of_lt (size_of (by omega))
    have hS1 := s1.seq hS
    have cl : ∀ lo hi, (cutS z lo hi).length ≤ 20 := fun lo hi => Nat.le_trans (cut_le z lo hi) z20
    refine ⟨_, rfl, rfl, _, rfl, ite2 (fun _ => ?_) (fun _ => ?_)⟩
    · refine ⟨_, rfl, _, rfl, _, rfl, sz, _, _, rfl, rfl, _, _, rfl, rfl, (by show (0 : Int) < (z.length : Int) + 1; omega), ?_⟩
      refine ⟨_, rfl, l, ns, 6, rfl, hS1, _, _, rfl, rfl, (by show (0 : Int) < 5; decide), rfl, _, rfl, ite2 (fun _ => ?_) (fun _ => ?_)⟩
      · have lt : cellOf ns 6 / 5 % 2 < 2 := Int.emod_lt_of_pos _ (by decide)
        have ge : 0 ≤ cellOf ns 6 / 5 % 2 := Int.emod_nonneg _ (by decide)
        obtain ⟨x, hx, _⟩ := atI_some (xs := ("\n\t" : Str).cps.toList) ge (by rw [show ("\n\t" : Str).cps.toList.length = 2 by decide +kernel]; exact lt)
        refine ⟨_, rfl, _, rfl, _, rfl, z, rfl, sz, ?_⟩
        refine ⟨_, rfl, l, ns, 6, rfl, hS1, _, _, rfl, rfl, ⟨by decide, by decide⟩, _, _, rfl, rfl, (by show (0 : Int) < 2; decide), _, _, x, rfl, rfl, by decide +kernel, hx, ?_⟩
        refine ⟨_, _, rfl, rfl, ?_, ?_⟩
        · exact Nat.le_of_lt (size_of (by show _ + 1 ≤ 100000; have := cl none (some (cellOf ns 5 % ((z.length : Int) + 1))); omega))
        refine ⟨_, rfl, _, rfl, _, rfl, z, rfl, sz, _, _, rfl, rfl, ?_, ?_⟩
        · rw [len_app]
          exact Nat.le_of_lt (size_of (by show (_ + 1) + _ ≤ 100000; have := cl none (some (cellOf ns 5 % ((z.length : Int) + 1))); have := cl (some (cellOf ns 5 % ((z.length : Int) + 1))) none; omega))
        · refine q _ _ ?_ s1
          rw [len_app, len_app]
          show (_ + 1) + _ ≤ 300
          have := cl none (some (cellOf ns 5 % ((z.length : Int) + 1))); have := cl (some (cellOf ns 5 % ((z.length : Int) + 1))) none
          omega
      · refine ⟨_, rfl, _, rfl, _, rfl, z, rfl, sz, ?_⟩
        refine ⟨_, rfl, l, ns, 6, rfl, hS1, _, rfl, fun y H2 y1 s2 => ?_⟩
        refine ⟨_, _, rfl, rfl, ?_, ?_⟩
        · exact Nat.le_of_lt (size_of (by have := cl none (some (cellOf ns 5 % ((z.length : Int) + 1))); omega))
        refine ⟨_, rfl, _, rfl, _, rfl, z, rfl, sz, _, _, rfl, rfl, ?_, ?_⟩
        · rw [len_app]
          exact Nat.le_of_lt (size_of (by have := cl none (some (cellOf ns 5 % ((z.length : Int) + 1))); have := cl (some (cellOf ns 5 % ((z.length : Int) + 1))) none; omega))
        · refine q _ _ ?_ (s1.trans s2)
          rw [len_app, len_app]
          have := cl none (some (cellOf ns 5 % ((z.length : Int) + 1))); have := cl (some (cellOf ns 5 % ((z.length : Int) + 1))) none
          omega
    · refine ⟨_, rfl, rfl, _, rfl, ite2 (fun _ => ?_) (fun _ => ?_)⟩
      · refine ⟨_, rfl, _, rfl, _, rfl, sz, _, _, rfl, rfl, (by show (0 : Int) < (z.length : Int); omega), ?_⟩
        refine ⟨_, rfl, _, rfl, _, rfl, z, rfl, sz, ?_⟩
        refine ⟨_, rfl, _, rfl, _, _, rfl, rfl, _, rfl, z, rfl, sz, _, _, rfl, rfl, ?_, ?_⟩
        · exact Nat.le_of_lt (size_of (by have := cl none (some (cellOf ns 5 % (z.length : Int))); have := cl (some (cellOf ns 5 % (z.length : Int) + 1)) none; omega))
        · refine q _ _ ?_ s1
          rw [len_app]
          have := cl none (some (cellOf ns 5 % (z.length : Int))); have := cl (some (cellOf ns 5 % (z.length : Int) + 1)) none
          omega
      · refine ⟨_, rfl, rfl, _, rfl, ite2 (fun _ => ?_) (fun _ => ?_)⟩
        · exact ⟨_, rfl, _, rfl, fun y H2 y20 s2 => q y H2 (by omega) (s1.trans s2)⟩
        · refine ⟨_, rfl, rfl, _, rfl, ite2 (fun _ => ?_) (fun _ => ⟨_, rfl, q z _ (by omega) s1⟩)⟩
          have lt : cellOf ns 5 % 9 < 9 := Int.emod_lt_of_pos _ (by decide)
          have ge : 0 ≤ cellOf ns 5 % 9 := Int.emod_nonneg _ (by decide)
          obtain ⟨x, hx, _⟩ := atI_some (xs := ("123456789" : Str).cps.toList) ge (by rw [show ("123456789" : Str).cps.toList.length = 9 by decide +kernel]; exact lt)
          have l4 : cellOf ns 6 % 4 < 4 := Int.emod_lt_of_pos _ (by decide)
          have g4 : 0 ≤ cellOf ns 6 % 4 := Int.emod_nonneg _ (by decide)
          have w5 : ("work " : Str).length = 5 := by decide +kernel
          have ml := len_mul_le (z := ("7" : Str)) (n := 58 + cellOf ns 6 % 4) (by decide +kernel) (by omega)
          refine ⟨_, rfl, _, _, rfl, rfl, (by show (0 : Int) < 9; decide), _, _, x, rfl, rfl, by decide +kernel, hx, ?_⟩
          refine ⟨_, _, rfl, rfl, (by rw [w5]; show 5 + 1 ≤ sizeLine; decide), ?_⟩
          refine ⟨_, rfl, l, ns, 6, rfl, hS1, _, _, rfl, rfl, (by show (0 : Int) < 4; decide), _, _, rfl, rfl, _, _, rfl, rfl, by decide +kernel, by omega, by omega, ?_⟩
          refine ⟨_, _, rfl, rfl, ?_, ?_⟩
          · rw [len_app, w5]
            exact Nat.le_of_lt (size_of (by show 5 + 1 + _ ≤ _; omega))
          · refine q _ _ ?_ s1
            rw [len_app, len_app, w5]
            show 5 + 1 + _ ≤ 300
            omega
/-- a part's number, by the law's own walk -/
def spNumber : Sp := fun vs H Q _ => ∃ z : Str, vs = [.str z] ∧ z.length ≤ 1000 ∧ Q (optV (lawNum z)) H
theorem ok_number {f : Addr} {fd : FuncData} (F : Fun K "_law_number" "_law_number" sNumber f fd) (m_len : mg "len" = none) : FnOk P w K mg base CX0 1 f fd ["_law_part"] spNumber := by
  refine F.ok scNumber (fun vs H Q E h => ?_) (fun cdv A outer s H vs Q E hr h => ?_)
  · obtain ⟨z, rfl, _⟩ := h
    rfl
  · obtain ⟨z, rfl, hz, q⟩ := h
    refine ⟨_, (C8.pss_cut (ps_if (PW.pt (pw_or (pt_cmpR op_eq (pv 0) pe_str (nomark _)) (pw_or (pt_cmpR op_gt (pe_callB call_len_str (by rfl) m_len (by decide +kernel) (pa_cons (pv 0) pa_nil)) pe_int (nomark _)) (pw_or1 (PW.pt (pw_and (pt_cmpR op_eq (pe_ix ix_str (pv 0) pe_int (fun _ _ => rfl)) pe_str (nomark _)) (pw_and1 (pt_cmpR op_gt (pe_callB call_len_str (by rfl) m_len (by decide +kernel) (pa_cons (pv 0) pa_nil)) pe_int (nomark _))))))))) (pss_one (ps_ret pe_non)) pss_nil)
      (pss_cons (ps_set (i := 1) scNumber.nd rfl (.inl rfl) pe_int)
      (pss_cons (ps_for PassesOwn.never rfl (pi_str (pv 0)) (pg_name (i := 2) scNumber.nd rfl (.inl rfl)) (pss_cons (ps_set (i := 3) scNumber.nd rfl (.inl rfl) (pe_m1 PySem.F.slot_str_find PySem.F.type_str_find mt_find pe_str (pv 2)))
      (pss_cons (ps_if (pt_cmpR op_lt (pv 3) pe_int (nomark _)) (pss_one (ps_ret pe_non)) pss_nil)
      (pss_one (ps_set (i := 1) scNumber.nd rfl (.inl rfl) (pe_op op_add (pe_op op_mul pe_int (pv 1)) (pv 3)))))))
      (pss_one (ps_ret (pv 1)))))), ?_⟩
    have sz : z.length ≤ sizeLine := Nat.le_of_lt (size_of (by omega))
    have no : isNum z = false → Q .non H := fun e => by
      unfold lawNum at q
      rw [e] at q
      exact q
    have yes : isNum z = true → Q (.int ((valN z : Nat) : Int)) H := fun e => by
      unfold lawNum at q
      rw [e] at q
      exact q
    have zl := len_tl z
    refine ⟨fun σ' H' => σ' = [some (.str z), none, none, none] ∧ H' = H ∧ tl z ≠ [] ∧ z.length ≤ 60 ∧ ¬ ((tl z).head? = some 48 ∧ 1 < z.length), ?_, ?_⟩
    · refine ⟨_, rfl, rfl, _, rfl, ?_⟩
      by_cases c0 : tl z = []
      · have ze : z = ("" : Str) := ext_tl (by rw [c0]; rfl)
        rw [decide_eq_true (congrArg V.str ze)]
        exact iteT (no (isNum_empty c0))
      have zn : ¬ V.str z = V.str ("" : Str) := fun h => c0 (by rw [V.str.inj h]; rfl)
      rw [decide_eq_false zn]
      have zp : 0 < (tl z).length := List.length_pos_iff.mpr c0
      refine iteF ⟨_, rfl, _, rfl, sz, _, _, rfl, rfl, _, rfl, ite2 (fun c1 => ?_) (fun c1 => ?_)⟩
      · exact no (isNum_long (by have := of_decide_eq_true c1; omega))
      have z60 : z.length ≤ 60 := by
        rcases Nat.lt_or_ge 60 z.length with h | h
        · exact absurd (decide_eq_true (show (60 : Int) < (z.length : Int) by omega)) c1
        · exact h
      obtain ⟨a, r, hd⟩ : ∃ a r, tl z = a :: r := by
        cases h : tl z with
        | nil => exact absurd h c0
        | cons a r => exact ⟨a, r, rfl⟩
      have at0 : atI z.cps.toList 0 = some a := by
        show atI (tl z) 0 = some a
        rw [hd]
        exact atI_nat (j := 0) rfl
      refine ⟨_, rfl, z, 0, a, rfl, rfl, sz, at0, rfl, _, rfl, ?_⟩
      by_cases c2 : a = 48
      · subst c2
        rw [decide_eq_true (show V.str ⟨#[48]⟩ = V.str ("0" : Str) by rw [nought_eq]; rfl)]
        refine iteT ⟨_, rfl, _, rfl, sz, _, _, rfl, rfl, _, rfl, ite2 (fun c3 => ?_) (fun c3 => ?_)⟩
        · exact no (isNum_zero (by rw [hd]; rfl) (by have := of_decide_eq_true c3; omega))
        · refine ⟨rfl, rfl, c0, z60, fun h => c3 (decide_eq_true ?_)⟩
          show (1 : Int) < (z.length : Int)
          omega
      · rw [decide_eq_false (show ¬ V.str ⟨#[a]⟩ = V.str ("0" : Str) from fun h => c2 (by rw [nought_eq] at h; have := congrArg tl (V.str.inj h); exact (List.cons.inj this).1))]
        exact iteF ⟨rfl, rfl, c0, z60, fun h => c2 (by rw [hd] at h; exact Option.some.inj h.1)⟩
    rintro σ1 H1 ⟨rfl, rfl, c0, z60, c2⟩
    refine ⟨_, rfl, z, rfl, ?_⟩
    refine for_it (walk_str (z := z)) (fun i σ H' => ∃ y1 y2, σ = [some (.str z), some (.int ((NumText.digitsVal ((tl z).take i) : Nat) : Int)), y1, y2] ∧ H' = H1 ∧ NumText.AllDigits ((tl z).take i)) ⟨none, none, rfl, rfl, fun c hc => by simp at hc⟩ (fun _ _ _ _ _ => trivial) ?_ ?_
    · rintro i x σ H2 H3 hi ⟨y1, y2, rfl, rfl, ad⟩ ⟨rfl, c, hc, rfl⟩
      have hc' : (tl z)[i]? = some c := by
        show z.cps.toList[i]? = some c
        rw [Array.getElem?_toList]
        exact hc
      refine ⟨⟨_, rfl⟩, _, rfl, _, _, rfl, rfl, _, rfl, _, _, rfl, rfl, _, rfl, ?_⟩
      by_cases d : 48 ≤ c ∧ c ≤ 57
      · rw [find_yes d, decide_eq_false (show ¬ ((c - 48 : Nat) : Int) < 0 by omega)]
        refine iteF ⟨_, rfl, _, _, rfl, rfl, .inl ⟨by decide, by decide⟩, _, rfl, _, _, rfl, rfl, ?_⟩
        refine ⟨some (.str ⟨#[c]⟩), some (.int ((c - 48 : Nat) : Int)), ?_, rfl, ?_⟩
        · rw [List.take_add_one, hc']
          have : NumText.digitsVal ((tl z).take i ++ (some c).toList) = NumText.digitsVal ((tl z).take i) * 10 + (c - 48) := by
            unfold NumText.digitsVal
            rw [List.foldl_append]
            rfl
          rw [this, show (((NumText.digitsVal ((tl z).take i) * 10 + (c - 48) : Nat)) : Int) = 10 * ((NumText.digitsVal ((tl z).take i) : Nat) : Int) + ((c - 48 : Nat) : Int) by omega]
          rfl
        · rw [List.take_add_one, hc']
          intro k hk
          rcases List.mem_append.mp hk with h | h
          · exact ad k h
          · have : k = c := by simpa using h
            rw [this]
            exact d
      · rw [find_no d, decide_eq_true (show (-1 : Int) < 0 by decide)]
        exact iteT (no (isNum_bad (List.mem_of_getElem? hc') d))
    · rintro σ H2 ⟨y1, y2, rfl, rfl, ad⟩
      have tk : (tl z).take z.cps.size = tl z := List.take_of_length_le (by rw [← len_tl]; exact Nat.le_refl _)
      rw [tk] at ad ⊢
      exact ⟨_, rfl, yes (isNum_all ad c0 z60 c2)⟩
end
end MK

set_option Elab.async false
set_option linter.all false
set_option pp.maxSteps 700
set_option maxRecDepth 100000
set_option maxHeartbeats 4000000
namespace MK
open PySem PySem.Spec PyProof.Rows L2 MM KG MP SX TL
section
variable {P : Program} {w : World} {K : PySem.W.Frag} {mg : Str → Option Value} {base : Heap}
/-- what the law says is due of a line -/
def spDue : Sp := fun vs H Q _ => ∃ z : Str, vs = [.str z] ∧ z.length ≤ 300 ∧ (parse z = none → ∀ H', Same H H' → Q .non H') ∧
  (∀ x ns, parse z = some (x, ns) → ns.length ≤ 3 → ∀ H' t q, Same H H' → H' t = some (.tup [V.str x, .ref q]) → H' q = some (.lst (ns.map nV)) → Q (.ref t) H')
theorem flat_opts (l : List (Option Nat)) : (l.map optV).all flatV = true := by
  rw [List.all_map]
  exact List.all_eq_true.mpr fun a _ => by cases a <;> rfl
theorem all_words : wordsV.all flatV = true := rfl
theorem ok_due {f fn : Addr} {fd fdn : FuncData} (F : Fun K "_law_due" "_law_due" sDue f fd) (D__law_number : Df P w K mg base CX0 1 "_law_number" fn fdn ["_law_part"] spNumber) (m_len : mg "len" = none) : FnOk P w K mg base CX0 2 f fd ["_law_line_here"] spDue := by
  refine F.ok scDue (fun vs H Q E h => ?_) (fun cdv A outer s H vs Q E hr h => ?_)
  · obtain ⟨z, rfl, _⟩ := h
    rfl
  · obtain ⟨z, rfl, hz, qn, qy⟩ := h
    refine ⟨_, (pss_cons (ps_set (i := 1) scDue.nd rfl (.inl rfl) (pe_lst (pa_cons pe_str (pa_cons pe_str (pa_cons pe_str (pa_cons pe_str (pa_cons pe_str (pa_cons pe_str pa_nil))))))))
      (pss_cons (ps_set (i := 2) scDue.nd rfl (.inl rfl) (pe_lst (pa_cons pe_int (pa_cons pe_int (pa_cons pe_int (pa_cons pe_int (pa_cons pe_int (pa_cons pe_int pa_nil))))))))
      (pss_cons (ps_set (i := 3) scDue.nd rfl (.inl rfl) (pe_lst (pa_cons pe_str pa_nil)))
      (pss_cons (ps_for PassesOwn.never rfl (pi_str (pv 0)) (pg_name (i := 4) scDue.nd rfl (.inl rfl)) (pss_one (ps_if (pt_cmpR op_eq (pv 4) pe_str (nomark _)) (pss_one (ps_expr (pe_bm PySem.F.plainAttrs_list PySem.F.slot_list_append PySem.F.type_list_append mt_append (pv 3) (pa_cons pe_str pa_nil)))) (pss_one (ps_asg (pe_op op_add_str (pe_ix (ixL (K := K)) (pv 3) (pe_un un_neg pe_int) (fun _ _ => rfl)) (pv 4)) (pg_sub (pv 3) (pe_un un_neg pe_int) set_list))))))
      (pss_cons (ps_if (PW.pt (pw_or (pt_cmpR ((notInSeq (K := K))) (pe_ix (ixL (K := K)) (pv 3) pe_int (fun _ _ => rfl)) (pv 1) (by rfl)) (pw_or1 (pt_cmpR op_ne (pe_callB (lenS (K := K)) (by rfl) m_len (by decide +kernel) (pa_cons (pv 3) pa_nil)) (pe_op op_add pe_int (pe_ix (ixL (K := K)) (pv 2) (pe_bm PySem.F.plainAttrs_list PySem.F.slot_list_index PySem.F.type_list_index mt_index (pv 1) (pa_cons (pe_ix (ixL (K := K)) (pv 3) pe_int (fun _ _ => rfl)) pa_nil)) (fun _ _ => rfl))) (nomark _))))) (pss_one (ps_ret pe_non)) pss_nil)
      (pss_cons (ps_setLc (i := 5) (own := [("_law_part", 6)]) (g := gName 6) (tt := tYes) rfl scDue.nd rfl rfl (sw_true rfl rfl rfl (by decide +kernel)) (pi_list (pe_slice (slL (K := K)) (pv 3) (po_some pe_int) po_none)) (blkOk_by (N := ["_law_line_here", "_law_words", "_law_counts", "_law_parts", "_law_sign", "_law_numbers_here", "_law_part"]) (sc := defScope sDue) (by decide +kernel)) (fun _ _ _ _ _ => (pg_name (i := 6) scDue.nd rfl (.inl rfl))) (fun _ _ _ _ _ => pts_nil) (fun _ _ _ _ _ => (pe_call D__law_number.g (hr.mono (by decide)) (by rfl) D__law_number.m D__law_number.k D__law_number.b .nil pass0 (pa_cons (pv 6) pa_nil))))
      (pss_cons (ps_if (pt_cmpR ((inSeq (K := K))) pe_non (pv 5) (by rfl)) (pss_one (ps_ret pe_non)) pss_nil)
      (pss_one (ps_ret (pe_tup (pa_cons (pe_ix (ixL (K := K)) (pv 3) pe_int (fun _ _ => rfl)) (pa_cons (pv 5) pa_nil)))))))))))), ?_⟩
    have six : (6 : Nat) ≤ sizeLine := by decide
    refine ⟨six, fun p np => ⟨six, fun c nc => ?_⟩⟩
    have gc : (upd (upd H p (.lst wordsV)) c (.lst cntsV)) c = some (.lst cntsV) := upd_same
    have gp : (upd (upd H p (.lst wordsV)) c (.lst cntsV)) p = some (.lst wordsV) := same_new (H := upd H p (.lst wordsV)) nc _ _ upd_same
    have s1 : Same H (upd (upd H p (.lst wordsV)) c (.lst cntsV)) := (same_new np).trans (same_new nc)
    generalize upd (upd H p (.lst wordsV)) c (.lst cntsV) = H1 at gc gp s1
    refine ⟨by decide, fun q nq => ?_⟩
    refine ⟨_, rfl, z, rfl, ?_⟩
    have zl := len_tl z
    refine for_it (walk_str (z := z)) (fun i σ H' => ∃ (y : Option V) (init : List Str) (acc : List Nat), σ = [some (.str z), some (.ref p), some (.ref c), some (.ref q), y, none, none] ∧ Same H1 H' ∧ H' q = some (.lst ((init ++ [S acc]).map V.str)) ∧
      spl [32] 0 [] (tl z) = init.map tl ++ spl [32] 0 acc ((tl z).drop i) ∧ init.length ≤ i ∧ acc.length ≤ i) ⟨none, [], [], rfl, same_new nq, upd_same, rfl, Nat.le_refl _, Nat.le_refl _⟩ (fun _ _ _ _ _ => trivial) ?_ ?_
    · rintro i x σ H2 H3 hi ⟨y, init, acc, rfl, s2, hq, e, il, al⟩ ⟨rfl, k, hk, rfl⟩
      have i300 : i < 300 := by
        have : z.cps.size = z.length := rfl
        omega
      have hk' : (tl z)[i]? = some k := by
        show z.cps.toList[i]? = some k
        rw [Array.getElem?_toList]
        exact hk
      have dr : (tl z).drop i = k :: (tl z).drop (i + 1) := by
        obtain ⟨hl, e2⟩ := List.getElem?_eq_some_iff.mp hk'
        rw [List.drop_eq_getElem_cons hl, e2]
      rw [dr] at e
      refine ⟨_, rfl, rfl, _, rfl, ?_⟩
      by_cases c1 : k = 32
      · subst c1
        rw [decide_eq_true (show V.str ⟨#[32]⟩ = V.str (" " : Str) by rw [blank_eq]; rfl)]
        rw [spl_blank] at e
        refine iteT ⟨_, rfl, .inl ⟨rfl, _, SqL.of hq⟩, q, _, _, rfl, rfl, hq, size_of (by rw [List.length_map, List.length_append]; show _ + 1 ≤ _; omega), ?_⟩
        refine ⟨some (.str ⟨#[32]⟩), init ++ [S acc], [], rfl, same_put s2 nq, ?_, ?_, by rw [List.length_append]; show _ + 1 ≤ _; omega, Nat.zero_le _⟩
        · rw [upd_same]
          exact congrArg (fun l => some (HO.lst l)) (List.map_append (l₁ := init ++ [S acc]) (l₂ := [S []]) (f := V.str)).symm
        · rw [e, List.map_append, List.append_assoc]
          rfl
      · rw [decide_eq_false (show ¬ V.str ⟨#[k]⟩ = V.str (" " : Str) from fun h => c1 (by rw [blank_eq] at h; have := congrArg tl (V.str.inj h); exact (List.cons.inj this).1))]
        rw [spl_other c1] at e
        have at1 : atI ((init ++ [S acc]).map V.str) (-1) = some (V.str (S acc)) := by
          rw [List.map_append]
          exact atI_last
        have sl : (S acc).length = acc.length := S_len acc
        have iN : ixN ((init ++ [S acc]).map V.str).length (-1) = some init.length := by
          rw [List.length_map, List.length_append]
          exact ixN_last _
        refine iteF ⟨_, rfl, _, rfl, q, _, _, V.str (S acc), rfl, rfl, SqL.of hq, at1, _, rfl, _, _, rfl, rfl, ?_, ?_⟩
        · rw [sl]
          exact Nat.le_of_lt (size_of (by show _ + 1 ≤ _; omega))
        · refine ⟨_, rfl, _, rfl, q, _, _, init.length, rfl, rfl, hq, iN, ?_⟩
          refine ⟨some (.str ⟨#[k]⟩), init, acc ++ [k], rfl, same_put s2 nq, ?_, e, by omega, by rw [List.length_append]; show _ + 1 ≤ _; omega⟩
          rw [upd_same]
          refine congrArg (fun l => some (HO.lst l)) ?_
          rw [List.map_append, List.map_append, List.set_append]
          simp only [List.length_map, Nat.lt_irrefl, if_false, Nat.sub_self]
          show _ ++ [V.str (S acc ++ S [k])] = _
          rw [S_cat]
          rfl
    · rintro σ H2 ⟨y, init, acc, rfl, s2, hq, e, il, al⟩
      rw [List.drop_of_length_le (by rw [← zl]; exact Nat.le_refl _), spl_nil] at e
      have W0 : Txt.split z blank = init ++ [S acc] := map_tl_inj (by rw [split_tl, e, List.map_append]; rfl)
      obtain ⟨sp1, sp2, sp3⟩ := split_all z
      rw [← W0] at hq
      unfold parse at qn qy
      generalize Txt.split z blank = W at sp1 sp2 sp3 qn qy hq
      cases W with
      | nil => exact absurd rfl sp1
      | cons x figs =>
      have hp2 := s2 _ _ gp
      have hc2 := s2 _ _ gc
      have fl : figs.length ≤ z.length := by rw [List.length_cons] at sp2; omega
      have flat : ((x :: figs).map V.str).all flatV = true := by
        rw [List.all_map]
        exact List.all_eq_true.mpr fun _ _ => rfl
      have s02 := s1.trans s2
      refine ⟨_, rfl, q, _, 0, V.str x, rfl, rfl, SqL.of hq, atI_nat (j := 0) rfl, _, rfl, p, _, rfl, .inl (SqL.of hp2), rfl, all_words, _, rfl, ?_⟩
      rw [word_in]
      cases hcn : cntOf x with
      | none => exact iteT (qn (parseP_no fun h => by rw [hcn] at h; exact nomatch h.1) _ s02)
      | some k =>
        obtain ⟨j, hj, hja, hat, k3⟩ := word_ix hcn
        refine iteF ⟨_, rfl, q, _, rfl, .inl (SqL.of hq), _, rfl, _, rfl, .inl ⟨rfl, _, SqL.of hp2⟩, _, rfl, q, _, 0, V.str x, rfl, rfl, SqL.of hq, atI_nat (j := 0) rfl, p, _, V.str x, j, V.str x, rfl, rfl, SqL.of hp2, rfl, all_words, hj, (by show (x == x) = true; exact beq_self_eq_true x), hja, ?_⟩
        refine ⟨c, _, _, V.int ((k : Nat) : Int), rfl, rfl, SqL.of hc2, hat, _, _, rfl, rfl, rfl, _, rfl, ?_⟩
        rw [List.length_map, List.length_cons]
        by_cases c1 : figs.length = k
        · rw [decide_eq_true (show V.int ((figs.length + 1 : Nat) : Int) = V.int (1 + ((k : Nat) : Int)) from congrArg V.int (by omega))]
          refine iteF ?_
          refine ⟨_, rfl, _, rfl, q, _, rfl, SqL.of hq, fun r nr => ?_⟩
          rw [show cutV ((x :: figs).map V.str) (some 1) none = figs.map V.str from cutV_tail _ _]
          have gr : (upd H2 r (.lst (figs.map V.str))) r = some (.lst (figs.map V.str)) := upd_same
          have s3 : Same H2 (upd H2 r (.lst (figs.map V.str))) := same_new nr
          generalize upd H2 r (.lst (figs.map V.str)) = H3 at gr s3
          refine ⟨r, rfl, ⟨_, SqL.of gr⟩, fun d nd => ?_⟩
          refine lc_list (K := K) (a := r) (xs := figs.map V.str) (fun i H' => Same H3 H' ∧ H' d = some (.lst (((figs.take i).map lawNum).map optV))) ⟨same_new nd, upd_same⟩ (fun i H' _ ⟨s, _⟩ => SqL.of (s _ _ gr)) ?_ ?_
          · rintro i y H4 hy ⟨s4, hd⟩
            rw [List.getElem?_map] at hy
            obtain ⟨b, hbi, rfl⟩ : ∃ b, figs[i]? = some b ∧ y = V.str b := by
              cases e : figs[i]? with
              | none => rw [e] at hy; cases hy
              | some o => rw [e] at hy; exact ⟨o, rfl, (Option.some.inj hy).symm⟩
            have bl := sp3 b (List.mem_cons_of_mem _ (List.mem_of_getElem? hbi))
            refine ⟨rfl, _, rfl, b, rfl, by omega, _, hd, ?_, same_put s4 nd, ?_⟩
            · rw [List.length_map, List.length_map, List.length_take]
              exact size_of (by omega)
            · rw [upd_same, List.take_add_one, hbi, List.map_append, List.map_append]
              rfl
          rintro H4 ⟨s4, hd4⟩
          rw [List.length_map, List.take_length] at hd4
          refine ⟨_, rfl, d, _, rfl, .inl (SqL.of hd4), rfl, flat_opts _, _, rfl, ?_⟩
          rw [show (if false = true then !inV V.non ((figs.map lawNum).map optV) else inV V.non ((figs.map lawNum).map optV)) = inV V.non ((figs.map lawNum).map optV) from rfl, noneIn]
          have s04 := (s02.trans s3).trans s4
          by_cases c2 : figs.all isNum = true
          · have nn : ¬ none ∈ figs.map lawNum := fun h => by
              obtain ⟨b, hb, e⟩ := List.mem_map.mp h
              unfold lawNum at e
              rw [List.all_eq_true.mp c2 b hb] at e
              exact nomatch e
            rw [decide_eq_false nn]
            refine iteF ⟨_, rfl, q, _, 0, V.str x, rfl, rfl, SqL.of (s4 _ _ (s3 _ _ hq)), atI_nat (j := 0) rfl, _, rfl, (by show 2 ≤ sizeLine; decide), fun t nt => ?_⟩
            refine qy x (figs.map valN) (parseP_ok (by rw [c1]; exact hcn) c2) (by rw [List.length_map]; omega) _ t d (s04.trans (same_new nt)) upd_same ?_
            rw [(same_new (o := .tup [V.str x, V.ref d]) nt) _ _ hd4]
            refine congrArg (fun l => some (HO.lst l)) ?_
            rw [List.map_map, List.map_map]
            refine List.map_congr_left fun b hb => ?_
            show optV (lawNum b) = nV (valN b)
            unfold lawNum
            rw [List.all_eq_true.mp c2 b hb]
            rfl
          · have nn : none ∈ figs.map lawNum := by
              have : ∃ b ∈ figs, isNum b = false := by
                have := List.all_eq_false.mp (by simpa using c2)
                obtain ⟨b, hb, e⟩ := this
                exact ⟨b, hb, by simpa using e⟩
              obtain ⟨b, hb, e⟩ := this
              exact List.mem_map.mpr ⟨b, hb, by unfold lawNum; rw [e]; rfl⟩
            rw [decide_eq_true nn]
            exact iteT (qn (parseP_no fun h => c2 h.2) _ s04)
        · rw [decide_eq_false (show ¬ V.int ((figs.length + 1 : Nat) : Int) = V.int (1 + ((k : Nat) : Int)) from fun h => c1 (by have := V.int.inj h; omega))]
          exact iteT (qn (parseP_no fun h => by rw [hcn] at h; exact c1 (Option.some.inj h.1).symm) _ s02)
end
end MK

set_option Elab.async false
set_option linter.all false
set_option pp.maxSteps 700
set_option maxRecDepth 100000
set_option maxHeartbeats 4000000
namespace MK
open PySem PySem.Spec PyProof.Rows L2 MM KG MP SX TL
section
variable {P : Program} {w : World} {K : PySem.W.Frag} {mg : Str → Option Value} {base : Heap} {EC : ECs}
theorem ok_law {f fb fd' fr fn cHE : Addr} {fd fdb fdd fdr fdn : FuncData} (F : Fun K "law" "law" sLaw f fd)
    (D__law_built : Df P w K mg base CX0 3 "_law_built" fb fdb ["_law_script"] (spBuilt K)) (D__law_due : Df P w K mg base CX0 2 "_law_due" fd' fdd ["_law_line_here"] spDue) (D_read : Df P w K mg base (L2N.CX P w) 2 "read" fr fdr ["line"] (spRead EC)) (D__law_numbers : Df P w K mg base CX0 2 "_law_numbers" fn fdn (["_law_found", "_law_due_here"]) spNumbers)
    (T_HeapError : ExC K mg "HeapError" cHE) (T_NoHand : ExC K mg "NoHand" EC.noHand) (T_NoSlot : ExC K mg "NoSlot" EC.noSlot) (T_NoRoom : ExC K mg "NoRoom" EC.noRoom) (T_NothingHeld : ExC K mg "NothingHeld" EC.nothing) (T_NoBox : ExC K mg "NoBox" EC.noBox) (T_NoWork : ExC K mg "NoWork" EC.noWork) (T_NoDeed : ExC K mg "NoDeed" EC.noDeed) (T_NoHeap : ExC K mg "NoHeap" EC.noHeap)
    (EX : ExcC K EC.noDeed) (sub : PySem.W.subIn K (.ref EC.noDeed) (.ref cHE) = some true)
    (kit_NoHand : PySem.W.kitOne K (.ref EC.noDeed) (.ref EC.noHand) = some false) (kit_NoSlot : PySem.W.kitOne K (.ref EC.noDeed) (.ref EC.noSlot) = some false) (kit_NoRoom : PySem.W.kitOne K (.ref EC.noDeed) (.ref EC.noRoom) = some false) (kit_NothingHeld : PySem.W.kitOne K (.ref EC.noDeed) (.ref EC.nothing) = some false) (kit_NoBox : PySem.W.kitOne K (.ref EC.noDeed) (.ref EC.noBox) = some false) (kit_NoWork : PySem.W.kitOne K (.ref EC.noDeed) (.ref EC.noWork) = some false) (kit_NoDeed : PySem.W.kitOne K (.ref EC.noDeed) (.ref EC.noDeed) = some true) (kit_NoHeap : PySem.W.kitOne K (.ref EC.noDeed) (.ref EC.noHeap) = some false) (kit_ValueError : PySem.W.kitOne K (.ref EC.noDeed) (.type "ValueError") = some true)
    (m_isinstance : mg "isinstance" = none) (m_any : mg "any" = none) (m_tuple : mg "tuple" = none) (m_str : mg "str" = none) (m_len : mg "len" = none) (m_list : mg "list" = none) (m_ValueError : mg "ValueError" = none) : FnOk P w K mg base CX0 4 f fd ["_law_script"] (spLaw K) := by
  refine F.ok scLaw (fun vs H Q E h => ?_) (fun cdv Aenv outer s H vs Q E hr h => ?_)
  · obtain ⟨a, ns, rfl, _⟩ := h
    rfl
  · obtain ⟨l, ns, rfl, hS, n63, k⟩ := h
    refine ⟨_, (pss_cons (ps_set (i := 1) scLaw.nd rfl (.inl rfl) (pe_call D__law_built.g (hr.mono (by decide)) (by rfl) D__law_built.m D__law_built.k D__law_built.b .nil pass0 (pa_cons (pv 0) pa_nil)))
      (pss_cons (ps_set (i := 2) scLaw.nd rfl (.inl rfl) (pe_call D__law_due.g (hr.mono (by decide)) (by rfl) D__law_due.m D__law_due.k D__law_due.b .nil pass0 (pa_cons (pv 1) pa_nil)))
      (pss_cons (L2N.ps_try_as (i := 4) rfl rfl scLaw.nd rfl rfl ⟨by rfl, by decide, .inl T_HeapError.gP⟩ MP.takesN0 (fun W pn xe tk _ => (pss_one (ps_set (i := 3) scLaw.nd rfl (.inl rfl) (pe_callS D_read.g (hr.mono (by decide)) (by rfl) D_read.m D_read.k D_read.b (fun σ => L2N.passAt tk σ) (pa_cons (pv 1) pa_nil))))) (fun a oe cls d pn hz hf => pss_when (p := cls = .ref EC.noDeed ∧ d = none) fun hw => (pss_cons (ps_set (i := 5) scLaw.nd rfl (.inl rfl) (pe_lst (pa_cons (pe_callB (call_isE EX (by have := hz.zc; rw [hw.1, hw.2] at this; exact this) hf) (by rfl) m_isinstance (by decide +kernel) (pa_cons (pv 4) (pa_cons (pe_glob (v := .ref EC.noHand) (by rfl) T_NoHand.gP rfl) pa_nil))) (pa_cons (pe_callB (call_isE EX (by have := hz.zc; rw [hw.1, hw.2] at this; exact this) hf) (by rfl) m_isinstance (by decide +kernel) (pa_cons (pv 4) (pa_cons (pe_glob (v := .ref EC.noSlot) (by rfl) T_NoSlot.gP rfl) pa_nil))) (pa_cons (pe_callB (call_isE EX (by have := hz.zc; rw [hw.1, hw.2] at this; exact this) hf) (by rfl) m_isinstance (by decide +kernel) (pa_cons (pv 4) (pa_cons (pe_glob (v := .ref EC.noRoom) (by rfl) T_NoRoom.gP rfl) pa_nil))) (pa_cons (pe_callB (call_isE EX (by have := hz.zc; rw [hw.1, hw.2] at this; exact this) hf) (by rfl) m_isinstance (by decide +kernel) (pa_cons (pv 4) (pa_cons (pe_glob (v := .ref EC.nothing) (by rfl) T_NothingHeld.gP rfl) pa_nil))) pa_nil))))))
      (pss_cons (ps_set (i := 5) scLaw.nd rfl (.inl rfl) (pe_op op_cat (pv 5) (pe_lst (pa_cons (pe_callB (call_isE EX (by have := hz.zc; rw [hw.1, hw.2] at this; exact this) hf) (by rfl) m_isinstance (by decide +kernel) (pa_cons (pv 4) (pa_cons (pe_glob (v := .ref EC.noBox) (by rfl) T_NoBox.gP rfl) pa_nil))) (pa_cons (pe_callB (call_isE EX (by have := hz.zc; rw [hw.1, hw.2] at this; exact this) hf) (by rfl) m_isinstance (by decide +kernel) (pa_cons (pv 4) (pa_cons (pe_glob (v := .ref EC.noWork) (by rfl) T_NoWork.gP rfl) pa_nil))) (pa_cons (pe_callB (call_isE EX (by have := hz.zc; rw [hw.1, hw.2] at this; exact this) hf) (by rfl) m_isinstance (by decide +kernel) (pa_cons (pv 4) (pa_cons (pe_glob (v := .ref EC.noHeap) (by rfl) T_NoHeap.gP rfl) pa_nil))) pa_nil))))))
      (pss_one (ps_ret (pe_and (pe_cmpR op_isN (pv 2) pe_non (nomark _)) (pe_and (pe_callB (call_isE EX (by have := hz.zc; rw [hw.1, hw.2] at this; exact this) hf) (by rfl) m_isinstance (by decide +kernel) (pa_cons (pv 4) (pa_cons (pe_glob (v := .ref EC.noDeed) (by rfl) T_NoDeed.gP rfl) pa_nil))) (pe_and (pe_callB (call_isE EX (by have := hz.zc; rw [hw.1, hw.2] at this; exact this) hf) (by rfl) m_isinstance (by decide +kernel) (pa_cons (pv 4) (pa_cons (pe_bltn (v := .ty "ValueError") (by rfl) m_ValueError (by decide +kernel) rfl) pa_nil))) (pe_one (pe_not (pe_callB (cr_any_hot rfl ⟨(a, oe), ⟨rfl, hf.imp fun vs h => ⟨h, hz.2.2 vs h⟩⟩, List.mem_cons_self⟩) (by rfl) m_any (by decide +kernel) (pa_cons (pv 5) pa_nil)))))))))))))
      (pss_cons (ps_if (PW.pt (pw_or (pt_cmpR op_isN (pv 2) pe_non (nomark _)) (pw_or (pt_not (pt_val (pe_callB (isiK (K := K)) (by rfl) m_isinstance (by decide +kernel) (pa_cons (pv 3) (pa_cons (pe_bltn (v := .ty "tuple") (by rfl) m_tuple (by decide +kernel) rfl) pa_nil))))) (pw_or1 (pt_cmpR op_ne (pe_callB (lenS (K := K)) (by rfl) m_len (by decide +kernel) (pa_cons (pv 3) pa_nil)) (pe_op op_add pe_int (pe_callB (lenS (K := K)) (by rfl) m_len (by decide +kernel) (pa_cons (pe_ix ix_tup (pv 2) pe_int (fun _ _ => rfl)) pa_nil))) (nomark _)))))) (pss_one (ps_ret pe_bl)) pss_nil)
      (pss_one (ps_ret (pe_and (pe_callB (isiK (K := K)) (by rfl) m_isinstance (by decide +kernel) (pa_cons (pe_ix ix_tup (pv 3) pe_int (fun _ _ => rfl)) (pa_cons (pe_bltn (v := .ty "str") (by rfl) m_str (by decide +kernel) rfl) pa_nil))) (pe_and (pe_cmpR op_eq (pe_ix ix_tup (pv 3) pe_int (fun _ _ => rfl)) (pe_ix ix_tup (pv 2) pe_int (fun _ _ => rfl)) (nomark _)) (pe_one (pe_call D__law_numbers.g (hr.mono (by decide)) (by rfl) D__law_numbers.m D__law_numbers.k D__law_numbers.b .nil pass0 (pa_cons (pe_callTy (listOf (K := K)) (by rfl) m_list (by decide +kernel) (pa_cons (pe_slice sl_tup (pv 3) (po_some pe_int) po_none) pa_nil)) (pa_cons (pe_ix ix_tup (pv 2) pe_int (fun _ _ => rfl)) pa_nil)))))))))))), ?_⟩
    refine ⟨_, rfl, l, ns, rfl, hS, fun z H1 z300 s1 => ?_⟩
    have z2 : z.length + 2 ≤ sizeLine := Nat.le_of_lt (size_of (by omega))
    refine ⟨_, rfl, z, rfl, z300, fun pz H2 s2 => ?_, fun x ms pz m3 H2 t q s2 ht hq => ?_⟩
    · refine ⟨_, rfl, z, rfl, z2, (fun x ms e => by rw [pz] at e; exact nomatch e), fun _ H3 s3 => ⟨true, exm_mk T_HeapError sub, fun _ a' ha' => ⟨⟨rfl, rfl⟩, ?_⟩, fun q => nomatch q⟩⟩
      refine ⟨_, rfl, .ref EC.noHand, .ref EC.noHand, false, rfl, fun _ h => h, kit_NoHand, _, rfl, .ref EC.noSlot, .ref EC.noSlot, false, rfl, fun _ h => h, kit_NoSlot, _, rfl, .ref EC.noRoom, .ref EC.noRoom, false, rfl, fun _ h => h, kit_NoRoom, _, rfl, .ref EC.nothing, .ref EC.nothing, false, rfl, fun _ h => h, kit_NothingHeld, (by show 4 ≤ sizeLine; decide), fun q nq => ?_⟩
      have g1 := upd_same (H := H3) (a := q) (o := .lst [V.bl false, V.bl false, V.bl false, V.bl false])
      generalize upd H3 q (.lst [V.bl false, V.bl false, V.bl false, V.bl false]) = H5 at g1
      refine ⟨_, rfl, _, rfl, .ref EC.noBox, .ref EC.noBox, false, rfl, fun _ h => h, kit_NoBox, _, rfl, .ref EC.noWork, .ref EC.noWork, false, rfl, fun _ h => h, kit_NoWork, _, rfl, .ref EC.noHeap, .ref EC.noHeap, false, rfl, fun _ h => h, kit_NoHeap, (by show 3 ≤ sizeLine; decide), fun q2 nq2 => ?_⟩
      have s6 : Same H5 (upd H5 q2 (.lst [V.bl false, V.bl false, V.bl false])) := same_new nq2
      refine ⟨q, q2, _, _, rfl, rfl, s6 _ _ g1, upd_same, (by decide), fun q3 nq3 => ?_⟩
      have g7 : ∀ u, (upd (upd H5 q2 (.lst [V.bl false, V.bl false, V.bl false])) q3 u) q3 = some u := fun u => upd_same
      refine ⟨_, rfl, rfl, _, rfl, iteT ?_⟩
      refine ⟨_, rfl, .ref EC.noDeed, .ref EC.noDeed, true, rfl, fun _ h => h, kit_NoDeed, _, rfl, iteT ?_⟩
      refine ⟨_, rfl, .ty "ValueError", .type "ValueError", true, rfl, fun _ h => h, kit_ValueError, _, rfl, iteT ?_⟩
      refine ⟨_, rfl, q3, [false, false, false, false, false, false, false], rfl, SqL.of (g7 _), _, rfl, k _⟩
    · refine ⟨_, rfl, z, rfl, z2, fun x' ms' e p H3 s3 np hp => ?_, (fun e => by rw [pz] at e; exact nomatch e)⟩
      rw [pz] at e
      injection e with e
      injection e with e1 e2
      subst e1 e2
      have ht3 := s3 _ _ ht
      have hq3 := s3 _ _ hq
      refine ⟨_, rfl, rfl, _, rfl, iteF ?_⟩
      refine ⟨_, rfl, .ref p, .ty "tuple", _, _, true, rfl, .ty _, .base (.tup hp), kit_ty (by decide +kernel), true, rfl, iteF ?_⟩
      refine ⟨_, rfl, p, _, rfl, .inr (SqT.of hp), _, rfl, t, _, 1, V.ref q, rfl, rfl, SqT.of ht3, atI_nat (j := 1) rfl, q, _, rfl, .inl (SqL.of hq3), _, _, rfl, rfl, rfl, _, rfl, ?_⟩
      have le : V.int (((V.str x :: ms.map fun n => V.int ((n : Nat) : Int)).length : Nat) : Int) = V.int (1 + ((ms.map nV).length : Int)) := by
        rw [List.length_cons, List.length_map, List.length_map]
        exact congrArg V.int (by omega)
      rw [decide_eq_true le]
      refine iteF ?_
      refine ⟨_, rfl, p, _, 0, V.str x, rfl, rfl, SqT.of hp, atI_nat (j := 0) rfl, .str x, .ty "str", _, _, true, rfl, .ty _, .base (.str _), kit_ty (by decide +kernel), true, rfl, iteT ?_⟩
      refine ⟨_, rfl, p, _, 0, V.str x, rfl, rfl, SqT.of hp, atI_nat (j := 0) rfl, _, rfl, t, _, 0, V.str x, rfl, rfl, SqT.of ht3, atI_nat (j := 0) rfl, rfl, _, rfl, ?_⟩
      rw [decide_eq_true rfl]
      refine iteT ?_
      refine ⟨_, rfl, _, rfl, p, _, rfl, SqT.of hp, ?_, fun t5 nt5 => ?_⟩
      · intro h
        have := h.1
        rw [show HT.sIx (V.str x :: ms.map fun n => V.int ((n : Nat) : Int)).length 0 (some 1) = min 1 (V.str x :: ms.map fun n => V.int ((n : Nat) : Int)).length from HT.sIx_nat _ 0 1, List.length_cons] at this
        omega
      rw [cutV_tail]
      have s9 : Same H3 (upd H3 t5 (.tup (ms.map fun n => V.int ((n : Nat) : Int)))) := same_new nt5
      have g5 : (upd H3 t5 (.tup (ms.map fun n => V.int ((n : Nat) : Int)))) t5 = some (.tup (ms.map fun n => V.int ((n : Nat) : Int))) := upd_same
      generalize upd H3 t5 (.tup (ms.map fun n => V.int ((n : Nat) : Int))) = H9 at s9 g5
      refine ⟨t5, _, rfl, .inr (SqT.of g5), fun t6 nt6 => ?_⟩
      have s10 : Same H9 (upd H9 t6 (.lst (ms.map fun n => V.int ((n : Nat) : Int)))) := same_new nt6
      have s910 := s9.trans s10
      refine ⟨_, rfl, t, _, 1, V.ref q, rfl, rfl, SqT.of (s910 _ _ ht3), atI_nat (j := 1) rfl, t6, q, _, rfl, upd_same, s910 _ _ hq3, plain_nat _, by rw [List.length_map]; omega, k _⟩
end
end MK

set_option Elab.async false
set_option linter.all false
set_option pp.maxSteps 700
set_option maxRecDepth 100000
set_option maxHeartbeats 4000000
namespace MK
open PySem PySem.Spec PyProof.Rows L2 MM KG MP
/-! ### what the top has written; the head -/
theorem all_mk {l : PySem.W.OpenLaw} {w : World} {K : PySem.W.Frag} {h : Heap} {mg : Str → Option Value} {fa : Addr} (X : K.In h) (G : h.Ns mainGlobals mg) (hfa : mg "law" = some (.ref fa))
    {C_HeapError C_NoHand C_NoSlot C_NoRoom C_NothingHeld C_NoBox C_NoWork C_NoHeap C_NoDeed : Addr} {f_read f_is_number f__law_cell_at f__law_whole f__law_numbers f__law_sign_by f__law_odd f__law_line f__law_built f__law_number f__law_due f_law : Addr} {od_read an_read od_is_number an_is_number od__law_cell_at an__law_cell_at od__law_whole an__law_whole od__law_numbers an__law_numbers od__law_sign_by an__law_sign_by od__law_odd an__law_odd od__law_line an__law_line od__law_built an__law_built od__law_number an__law_number od__law_due an__law_due od_law an_law : Option Addr} {sl_read sl_is_number sl__law_cell_at sl__law_whole sl__law_numbers sl__law_sign_by sl__law_odd sl__law_line sl__law_built sl__law_number sl__law_due sl_law : Array (Option Value)} {oc_read kV_read dc_read pm_read cd_read ct_read oc_is_number kV_is_number dc_is_number pm_is_number cd_is_number ct_is_number oc__law_cell_at kV__law_cell_at dc__law_cell_at pm__law_cell_at cd__law_cell_at ct__law_cell_at oc__law_whole kV__law_whole dc__law_whole pm__law_whole cd__law_whole ct__law_whole oc__law_numbers kV__law_numbers dc__law_numbers pm__law_numbers cd__law_numbers ct__law_numbers oc__law_sign_by kV__law_sign_by dc__law_sign_by pm__law_sign_by cd__law_sign_by ct__law_sign_by oc__law_odd kV__law_odd dc__law_odd pm__law_odd cd__law_odd ct__law_odd oc__law_line kV__law_line dc__law_line pm__law_line cd__law_line ct__law_line oc__law_built kV__law_built dc__law_built pm__law_built cd__law_built ct__law_built oc__law_number kV__law_number dc__law_number pm__law_number cd__law_number ct__law_number oc__law_due kV__law_due dc__law_due pm__law_due cd__law_due ct__law_due oc_law kV_law dc_law pm_law cd_law ct_law : Value} {t0_COUNTS u0_COUNTS : Tok} {t1_COUNTS u1_COUNTS : Tok} {t2_COUNTS u2_COUNTS : Tok} {t3_COUNTS u3_COUNTS : Tok} {t4_COUNTS u4_COUNTS : Tok} {t5_COUNTS u5_COUNTS : Tok} {C_COUNTS : Addr} {es_COUNTS : Array DictEntry} {n_COUNTS : Nat} {tN_MOST_FIGURES : Tok}
    (aC_HeapError : PySem.W.nsIn K mainGlobals "HeapError" = some (some (.ref C_HeapError)))
    (xC_HeapError : PySem.W.excIn K C_HeapError [.type "ValueError", .type "Exception", .type "BaseException", .type "object"] "ValueError.__new__" = true) (kC_HeapError : PySem.W.keepIn K (.ref C_HeapError) = true) (bC_HeapError : PySem.W.subIn K (.ref C_HeapError) (.type "BaseException") = some true) (tC_HeapError : PySem.W.typeIn K (.ref C_HeapError) = some (.type "type")) (iC_HeapError : PySem.W.isClsIn K C_HeapError = true)
    (aC_NoHand : PySem.W.nsIn K mainGlobals "NoHand" = some (some (.ref C_NoHand)))
    (xC_NoHand : PySem.W.excIn K C_NoHand [.type "ValueError", .type "Exception", .type "BaseException", .type "object"] "ValueError.__new__" = true) (kC_NoHand : PySem.W.keepIn K (.ref C_NoHand) = true) (bC_NoHand : PySem.W.subIn K (.ref C_NoHand) (.type "BaseException") = some true) (tC_NoHand : PySem.W.typeIn K (.ref C_NoHand) = some (.type "type")) (iC_NoHand : PySem.W.isClsIn K C_NoHand = true)
    (aC_NoSlot : PySem.W.nsIn K mainGlobals "NoSlot" = some (some (.ref C_NoSlot)))
    (xC_NoSlot : PySem.W.excIn K C_NoSlot [.type "ValueError", .type "Exception", .type "BaseException", .type "object"] "ValueError.__new__" = true) (kC_NoSlot : PySem.W.keepIn K (.ref C_NoSlot) = true) (bC_NoSlot : PySem.W.subIn K (.ref C_NoSlot) (.type "BaseException") = some true) (tC_NoSlot : PySem.W.typeIn K (.ref C_NoSlot) = some (.type "type")) (iC_NoSlot : PySem.W.isClsIn K C_NoSlot = true)
    (aC_NoRoom : PySem.W.nsIn K mainGlobals "NoRoom" = some (some (.ref C_NoRoom)))
    (xC_NoRoom : PySem.W.excIn K C_NoRoom [.type "ValueError", .type "Exception", .type "BaseException", .type "object"] "ValueError.__new__" = true) (kC_NoRoom : PySem.W.keepIn K (.ref C_NoRoom) = true) (bC_NoRoom : PySem.W.subIn K (.ref C_NoRoom) (.type "BaseException") = some true) (tC_NoRoom : PySem.W.typeIn K (.ref C_NoRoom) = some (.type "type")) (iC_NoRoom : PySem.W.isClsIn K C_NoRoom = true)
    (aC_NothingHeld : PySem.W.nsIn K mainGlobals "NothingHeld" = some (some (.ref C_NothingHeld)))
    (xC_NothingHeld : PySem.W.excIn K C_NothingHeld [.type "ValueError", .type "Exception", .type "BaseException", .type "object"] "ValueError.__new__" = true) (kC_NothingHeld : PySem.W.keepIn K (.ref C_NothingHeld) = true) (bC_NothingHeld : PySem.W.subIn K (.ref C_NothingHeld) (.type "BaseException") = some true) (tC_NothingHeld : PySem.W.typeIn K (.ref C_NothingHeld) = some (.type "type")) (iC_NothingHeld : PySem.W.isClsIn K C_NothingHeld = true)
    (aC_NoBox : PySem.W.nsIn K mainGlobals "NoBox" = some (some (.ref C_NoBox)))
    (xC_NoBox : PySem.W.excIn K C_NoBox [.type "ValueError", .type "Exception", .type "BaseException", .type "object"] "ValueError.__new__" = true) (kC_NoBox : PySem.W.keepIn K (.ref C_NoBox) = true) (bC_NoBox : PySem.W.subIn K (.ref C_NoBox) (.type "BaseException") = some true) (tC_NoBox : PySem.W.typeIn K (.ref C_NoBox) = some (.type "type")) (iC_NoBox : PySem.W.isClsIn K C_NoBox = true)
    (aC_NoWork : PySem.W.nsIn K mainGlobals "NoWork" = some (some (.ref C_NoWork)))
    (xC_NoWork : PySem.W.excIn K C_NoWork [.type "ValueError", .type "Exception", .type "BaseException", .type "object"] "ValueError.__new__" = true) (kC_NoWork : PySem.W.keepIn K (.ref C_NoWork) = true) (bC_NoWork : PySem.W.subIn K (.ref C_NoWork) (.type "BaseException") = some true) (tC_NoWork : PySem.W.typeIn K (.ref C_NoWork) = some (.type "type")) (iC_NoWork : PySem.W.isClsIn K C_NoWork = true)
    (aC_NoHeap : PySem.W.nsIn K mainGlobals "NoHeap" = some (some (.ref C_NoHeap)))
    (xC_NoHeap : PySem.W.excIn K C_NoHeap [.type "ValueError", .type "Exception", .type "BaseException", .type "object"] "ValueError.__new__" = true) (kC_NoHeap : PySem.W.keepIn K (.ref C_NoHeap) = true) (bC_NoHeap : PySem.W.subIn K (.ref C_NoHeap) (.type "BaseException") = some true) (tC_NoHeap : PySem.W.typeIn K (.ref C_NoHeap) = some (.type "type")) (iC_NoHeap : PySem.W.isClsIn K C_NoHeap = true)
    (aC_NoDeed : PySem.W.nsIn K mainGlobals "NoDeed" = some (some (.ref C_NoDeed)))
    (xC_NoDeed : PySem.W.excIn K C_NoDeed [.type "ValueError", .type "Exception", .type "BaseException", .type "object"] "ValueError.__new__" = true) (kC_NoDeed : PySem.W.keepIn K (.ref C_NoDeed) = true) (bC_NoDeed : PySem.W.subIn K (.ref C_NoDeed) (.type "BaseException") = some true) (tC_NoDeed : PySem.W.typeIn K (.ref C_NoDeed) = some (.type "type")) (iC_NoDeed : PySem.W.isClsIn K C_NoDeed = true)
    (sub_NoDeed_HeapError : PySem.W.subIn K (.ref C_NoDeed) (.ref C_HeapError) = some true)
    (sub_NoDeed_NoHand : PySem.W.subIn K (.ref C_NoDeed) (.ref C_NoHand) = some false)
    (sub_NoDeed_NoSlot : PySem.W.subIn K (.ref C_NoDeed) (.ref C_NoSlot) = some false)
    (sub_NoDeed_NoRoom : PySem.W.subIn K (.ref C_NoDeed) (.ref C_NoRoom) = some false)
    (sub_NoDeed_NothingHeld : PySem.W.subIn K (.ref C_NoDeed) (.ref C_NothingHeld) = some false)
    (sub_NoDeed_NoBox : PySem.W.subIn K (.ref C_NoDeed) (.ref C_NoBox) = some false)
    (sub_NoDeed_NoWork : PySem.W.subIn K (.ref C_NoDeed) (.ref C_NoWork) = some false)
    (sub_NoDeed_NoHeap : PySem.W.subIn K (.ref C_NoDeed) (.ref C_NoHeap) = some false)
    (sub_NoDeed_NoDeed : PySem.W.subIn K (.ref C_NoDeed) (.ref C_NoDeed) = some true)
    (sub_NoDeed_ValueError : PySem.W.subIn K (.ref C_NoDeed) (.type "ValueError") = some true)
    (e0_NoDeed : PySem.W.findIn K (.ref C_NoDeed) "__getattribute__" = some (some (.builtin "BaseException.__getattribute__")))
    (e1_NoDeed : PySem.W.findIn K (.ref C_NoDeed) "__getattr__" = some none)
    (e2_NoDeed : PySem.W.subIn K (.ref C_NoDeed) (.type "BaseException") = some true)
    (e3_NoDeed : PySem.W.hasDictIn K C_NoDeed = true)
    (e4_NoDeed : PySem.W.findIn K (.ref C_NoDeed) "__class__" = some (some (.builtin "object.__class__")))
    (e5_NoDeed : PySem.W.specialIn K (.builtin "object.__class__") "__get__" = some (some (.builtin "getset_descriptor.__get__"))) (e6_NoDeed : PySem.W.takesIn K (.builtin "object.__class__") = some true) (e7_NoDeed : PySem.W.mroIn K C_NoDeed (.type "object") = some true)
    (aD_COUNTS : PySem.W.nsIn K mainGlobals "COUNTS" = some (some (.ref C_COUNTS))) (lD_COUNTS : K.lookup C_COUNTS = some ⟨.type "dict", none, .dict es_COUNTS n_COUNTS, #[]⟩) (kD_COUNTS : PySem.W.KeysLit w.params es_COUNTS.toList) (sD_COUNTS : (C_COUNTS == sysModules) = false) (vD_COUNTS : es_COUNTS.toList.map (fun e => (e.key, e.val)) = [(.str "make" t0_COUNTS, .int 2 u0_COUNTS), (.str "take" t1_COUNTS, .int 3 u1_COUNTS), (.str "put" t2_COUNTS, .int 3 u2_COUNTS), (.str "share" t3_COUNTS, .int 2 u3_COUNTS), (.str "drop" t4_COUNTS, .int 1 u4_COUNTS), (.str "work" t5_COUNTS, .int 1 u5_COUNTS)])
    (aN_MOST_FIGURES : PySem.W.nsIn K mainGlobals "MOST_FIGURES" = some (some (.int 60 tN_MOST_FIGURES)))
    (a_read : PySem.W.nsIn K mainGlobals "read" = some (some (.ref f_read)))
    (l_read : K.lookup f_read = some ⟨oc_read, od_read, .func (PySem.W.fnOf "read" "read" (defArgs sRead) (defBody sRead) (defScope sRead) .none kV_read dc_read pm_read an_read cd_read ct_read), sl_read⟩) (c_read : PySem.W.codeIn K cd_read "read" = true) (k_read : PySem.W.keepIn K (.ref f_read) = true)
    (a_is_number : PySem.W.nsIn K mainGlobals "is_number" = some (some (.ref f_is_number)))
    (l_is_number : K.lookup f_is_number = some ⟨oc_is_number, od_is_number, .func (PySem.W.fnOf "is_number" "is_number" (defArgs sIsNumber) (defBody sIsNumber) (defScope sIsNumber) .none kV_is_number dc_is_number pm_is_number an_is_number cd_is_number ct_is_number), sl_is_number⟩) (c_is_number : PySem.W.codeIn K cd_is_number "is_number" = true) (k_is_number : PySem.W.keepIn K (.ref f_is_number) = true)
    (a__law_cell_at : PySem.W.nsIn K mainGlobals "_law_cell_at" = some (some (.ref f__law_cell_at)))
    (l__law_cell_at : K.lookup f__law_cell_at = some ⟨oc__law_cell_at, od__law_cell_at, .func (PySem.W.fnOf "_law_cell_at" "_law_cell_at" (defArgs sCellAt) (defBody sCellAt) (defScope sCellAt) .none kV__law_cell_at dc__law_cell_at pm__law_cell_at an__law_cell_at cd__law_cell_at ct__law_cell_at), sl__law_cell_at⟩) (c__law_cell_at : PySem.W.codeIn K cd__law_cell_at "_law_cell_at" = true) (k__law_cell_at : PySem.W.keepIn K (.ref f__law_cell_at) = true)
    (a__law_whole : PySem.W.nsIn K mainGlobals "_law_whole" = some (some (.ref f__law_whole)))
    (l__law_whole : K.lookup f__law_whole = some ⟨oc__law_whole, od__law_whole, .func (PySem.W.fnOf "_law_whole" "_law_whole" (defArgs sWhole) (defBody sWhole) (defScope sWhole) .none kV__law_whole dc__law_whole pm__law_whole an__law_whole cd__law_whole ct__law_whole), sl__law_whole⟩) (c__law_whole : PySem.W.codeIn K cd__law_whole "_law_whole" = true) (k__law_whole : PySem.W.keepIn K (.ref f__law_whole) = true)
    (a__law_numbers : PySem.W.nsIn K mainGlobals "_law_numbers" = some (some (.ref f__law_numbers)))
    (l__law_numbers : K.lookup f__law_numbers = some ⟨oc__law_numbers, od__law_numbers, .func (PySem.W.fnOf "_law_numbers" "_law_numbers" (defArgs sNumbers) (defBody sNumbers) (defScope sNumbers) .none kV__law_numbers dc__law_numbers pm__law_numbers an__law_numbers cd__law_numbers ct__law_numbers), sl__law_numbers⟩) (c__law_numbers : PySem.W.codeIn K cd__law_numbers "_law_numbers" = true) (k__law_numbers : PySem.W.keepIn K (.ref f__law_numbers) = true)
    (a__law_sign_by : PySem.W.nsIn K mainGlobals "_law_sign_by" = some (some (.ref f__law_sign_by)))
    (l__law_sign_by : K.lookup f__law_sign_by = some ⟨oc__law_sign_by, od__law_sign_by, .func (PySem.W.fnOf "_law_sign_by" "_law_sign_by" (defArgs sSignBy) (defBody sSignBy) (defScope sSignBy) .none kV__law_sign_by dc__law_sign_by pm__law_sign_by an__law_sign_by cd__law_sign_by ct__law_sign_by), sl__law_sign_by⟩) (c__law_sign_by : PySem.W.codeIn K cd__law_sign_by "_law_sign_by" = true) (k__law_sign_by : PySem.W.keepIn K (.ref f__law_sign_by) = true)
    (a__law_odd : PySem.W.nsIn K mainGlobals "_law_odd" = some (some (.ref f__law_odd)))
    (l__law_odd : K.lookup f__law_odd = some ⟨oc__law_odd, od__law_odd, .func (PySem.W.fnOf "_law_odd" "_law_odd" (defArgs sOdd) (defBody sOdd) (defScope sOdd) .none kV__law_odd dc__law_odd pm__law_odd an__law_odd cd__law_odd ct__law_odd), sl__law_odd⟩) (c__law_odd : PySem.W.codeIn K cd__law_odd "_law_odd" = true) (k__law_odd : PySem.W.keepIn K (.ref f__law_odd) = true)
    (a__law_line : PySem.W.nsIn K mainGlobals "_law_line" = some (some (.ref f__law_line)))
    (l__law_line : K.lookup f__law_line = some ⟨oc__law_line, od__law_line, .func (PySem.W.fnOf "_law_line" "_law_line" (defArgs sLine) (defBody sLine) (defScope sLine) .none kV__law_line dc__law_line pm__law_line an__law_line cd__law_line ct__law_line), sl__law_line⟩) (c__law_line : PySem.W.codeIn K cd__law_line "_law_line" = true) (k__law_line : PySem.W.keepIn K (.ref f__law_line) = true)
    (a__law_built : PySem.W.nsIn K mainGlobals "_law_built" = some (some (.ref f__law_built)))
    (l__law_built : K.lookup f__law_built = some ⟨oc__law_built, od__law_built, .func (PySem.W.fnOf "_law_built" "_law_built" (defArgs sBuilt) (defBody sBuilt) (defScope sBuilt) .none kV__law_built dc__law_built pm__law_built an__law_built cd__law_built ct__law_built), sl__law_built⟩) (c__law_built : PySem.W.codeIn K cd__law_built "_law_built" = true) (k__law_built : PySem.W.keepIn K (.ref f__law_built) = true)
    (a__law_number : PySem.W.nsIn K mainGlobals "_law_number" = some (some (.ref f__law_number)))
    (l__law_number : K.lookup f__law_number = some ⟨oc__law_number, od__law_number, .func (PySem.W.fnOf "_law_number" "_law_number" (defArgs sNumber) (defBody sNumber) (defScope sNumber) .none kV__law_number dc__law_number pm__law_number an__law_number cd__law_number ct__law_number), sl__law_number⟩) (c__law_number : PySem.W.codeIn K cd__law_number "_law_number" = true) (k__law_number : PySem.W.keepIn K (.ref f__law_number) = true)
    (a__law_due : PySem.W.nsIn K mainGlobals "_law_due" = some (some (.ref f__law_due)))
    (l__law_due : K.lookup f__law_due = some ⟨oc__law_due, od__law_due, .func (PySem.W.fnOf "_law_due" "_law_due" (defArgs sDue) (defBody sDue) (defScope sDue) .none kV__law_due dc__law_due pm__law_due an__law_due cd__law_due ct__law_due), sl__law_due⟩) (c__law_due : PySem.W.codeIn K cd__law_due "_law_due" = true) (k__law_due : PySem.W.keepIn K (.ref f__law_due) = true)
    (a_law : PySem.W.nsIn K mainGlobals "law" = some (some (.ref f_law)))
    (l_law : K.lookup f_law = some ⟨oc_law, od_law, .func (PySem.W.fnOf "law" "law" (defArgs sLaw) (defBody sLaw) (defScope sLaw) .none kV_law dc_law pm_law an_law cd_law ct_law), sl_law⟩) (c_law : PySem.W.codeIn K cd_law "law" = true) (k_law : PySem.W.keepIn K (.ref f_law) = true)
    (z_ValueError : PySem.W.nsIn K mainGlobals "ValueError" = some none)
    (z_all : PySem.W.nsIn K mainGlobals "all" = some none)
    (z_any : PySem.W.nsIn K mainGlobals "any" = some none)
    (z_bool : PySem.W.nsIn K mainGlobals "bool" = some none)
    (z_int : PySem.W.nsIn K mainGlobals "int" = some none)
    (z_isinstance : PySem.W.nsIn K mainGlobals "isinstance" = some none)
    (z_len : PySem.W.nsIn K mainGlobals "len" = some none)
    (z_list : PySem.W.nsIn K mainGlobals "list" = some none)
    (z_range : PySem.W.nsIn K mainGlobals "range" = some none)
    (z_str : PySem.W.nsIn K mainGlobals "str" = some none)
    (z_tuple : PySem.W.nsIn K mainGlobals "tuple" = some none) :
    ∃ fd : FuncData, (∀ (s : Shared) (v : Value), BindsTo s fd ⟨[v], []⟩ [("_law_script", v)]) ∧ ∀ base : Heap, K.In base → base.Ns mainGlobals mg → FnOk l.prog w K mg base CX0 4 fa fd ["_law_script"] (spLaw K) := by
  have e := hfa.symm.trans (PySem.W.mg_of X G a_law)
  cases e
  have mC_HeapError := PySem.W.mg_of X G aC_HeapError
  have T_HeapError : ExC K mg "HeapError" C_HeapError := ⟨mC_HeapError, xC_HeapError, kC_HeapError, bC_HeapError, tC_HeapError, iC_HeapError⟩
  have mC_NoHand := PySem.W.mg_of X G aC_NoHand
  have T_NoHand : ExC K mg "NoHand" C_NoHand := ⟨mC_NoHand, xC_NoHand, kC_NoHand, bC_NoHand, tC_NoHand, iC_NoHand⟩
  have mC_NoSlot := PySem.W.mg_of X G aC_NoSlot
  have T_NoSlot : ExC K mg "NoSlot" C_NoSlot := ⟨mC_NoSlot, xC_NoSlot, kC_NoSlot, bC_NoSlot, tC_NoSlot, iC_NoSlot⟩
  have mC_NoRoom := PySem.W.mg_of X G aC_NoRoom
  have T_NoRoom : ExC K mg "NoRoom" C_NoRoom := ⟨mC_NoRoom, xC_NoRoom, kC_NoRoom, bC_NoRoom, tC_NoRoom, iC_NoRoom⟩
  have mC_NothingHeld := PySem.W.mg_of X G aC_NothingHeld
  have T_NothingHeld : ExC K mg "NothingHeld" C_NothingHeld := ⟨mC_NothingHeld, xC_NothingHeld, kC_NothingHeld, bC_NothingHeld, tC_NothingHeld, iC_NothingHeld⟩
  have mC_NoBox := PySem.W.mg_of X G aC_NoBox
  have T_NoBox : ExC K mg "NoBox" C_NoBox := ⟨mC_NoBox, xC_NoBox, kC_NoBox, bC_NoBox, tC_NoBox, iC_NoBox⟩
  have mC_NoWork := PySem.W.mg_of X G aC_NoWork
  have T_NoWork : ExC K mg "NoWork" C_NoWork := ⟨mC_NoWork, xC_NoWork, kC_NoWork, bC_NoWork, tC_NoWork, iC_NoWork⟩
  have mC_NoHeap := PySem.W.mg_of X G aC_NoHeap
  have T_NoHeap : ExC K mg "NoHeap" C_NoHeap := ⟨mC_NoHeap, xC_NoHeap, kC_NoHeap, bC_NoHeap, tC_NoHeap, iC_NoHeap⟩
  have mC_NoDeed := PySem.W.mg_of X G aC_NoDeed
  have T_NoDeed : ExC K mg "NoDeed" C_NoDeed := ⟨mC_NoDeed, xC_NoDeed, kC_NoDeed, bC_NoDeed, tC_NoDeed, iC_NoDeed⟩
  have kit_NoDeed_NoHand := MP.kit_of sub_NoDeed_NoDeed sub_NoDeed_NoHand tC_NoHand iC_NoHand
  have kit_NoDeed_NoSlot := MP.kit_of sub_NoDeed_NoDeed sub_NoDeed_NoSlot tC_NoSlot iC_NoSlot
  have kit_NoDeed_NoRoom := MP.kit_of sub_NoDeed_NoDeed sub_NoDeed_NoRoom tC_NoRoom iC_NoRoom
  have kit_NoDeed_NothingHeld := MP.kit_of sub_NoDeed_NoDeed sub_NoDeed_NothingHeld tC_NothingHeld iC_NothingHeld
  have kit_NoDeed_NoBox := MP.kit_of sub_NoDeed_NoDeed sub_NoDeed_NoBox tC_NoBox iC_NoBox
  have kit_NoDeed_NoWork := MP.kit_of sub_NoDeed_NoDeed sub_NoDeed_NoWork tC_NoWork iC_NoWork
  have kit_NoDeed_NoHeap := MP.kit_of sub_NoDeed_NoDeed sub_NoDeed_NoHeap tC_NoHeap iC_NoHeap
  have kit_NoDeed_NoDeed := MP.kit_of sub_NoDeed_NoDeed sub_NoDeed_NoDeed tC_NoDeed iC_NoDeed
  have kit_NoDeed_ValueError := MP.kit_ofT sub_NoDeed_ValueError (by decide +kernel)
  have EX_NoDeed : ExcC K C_NoDeed := ⟨e0_NoDeed, e1_NoDeed, e2_NoDeed, e3_NoDeed, e4_NoDeed, e5_NoDeed, e6_NoDeed, e7_NoDeed⟩
  have m_COUNTS := PySem.W.mg_of X G aD_COUNTS
  have KD_COUNTS : KDict K w C_COUNTS es_COUNTS n_COUNTS := ⟨lD_COUNTS, kD_COUNTS, sD_COUNTS⟩
  have m_MOST_FIGURES := PySem.W.mg_of X G aN_MOST_FIGURES
  have F_read := fun_mk (st := sRead) l_read c_read k_read
  have b_read := F_read.binds (ps := ["line"]) fun _ _ _ _ _ _ us hl => match us, hl with | [_], _ => rfl
  have m_read := PySem.W.mg_of X G a_read
  have F_is_number := fun_mk (st := sIsNumber) l_is_number c_is_number k_is_number
  have b_is_number := F_is_number.binds (ps := ["text"]) fun _ _ _ _ _ _ us hl => match us, hl with | [_], _ => rfl
  have m_is_number := PySem.W.mg_of X G a_is_number
  have F__law_cell_at := fun_mk (st := sCellAt) l__law_cell_at c__law_cell_at k__law_cell_at
  have b__law_cell_at := F__law_cell_at.binds (ps := ["_law_script", "_law_k"]) fun _ _ _ _ _ _ us hl => match us, hl with | [_, _], _ => rfl
  have m__law_cell_at := PySem.W.mg_of X G a__law_cell_at
  have F__law_whole := fun_mk (st := sWhole) l__law_whole c__law_whole k__law_whole
  have b__law_whole := F__law_whole.binds (ps := ["_law_found"]) fun _ _ _ _ _ _ us hl => match us, hl with | [_], _ => rfl
  have m__law_whole := PySem.W.mg_of X G a__law_whole
  have F__law_numbers := fun_mk (st := sNumbers) l__law_numbers c__law_numbers k__law_numbers
  have b__law_numbers := F__law_numbers.binds (ps := ["_law_found", "_law_due_here"]) fun _ _ _ _ _ _ us hl => match us, hl with | [_, _], _ => rfl
  have m__law_numbers := PySem.W.mg_of X G a__law_numbers
  have F__law_sign_by := fun_mk (st := sSignBy) l__law_sign_by c__law_sign_by k__law_sign_by
  have b__law_sign_by := F__law_sign_by.binds (ps := ["_law_cell"]) fun _ _ _ _ _ _ us hl => match us, hl with | [_], _ => rfl
  have m__law_sign_by := PySem.W.mg_of X G a__law_sign_by
  have F__law_odd := fun_mk (st := sOdd) l__law_odd c__law_odd k__law_odd
  have b__law_odd := F__law_odd.binds (ps := ["_law_cell"]) fun _ _ _ _ _ _ us hl => match us, hl with | [_], _ => rfl
  have m__law_odd := PySem.W.mg_of X G a__law_odd
  have F__law_line := fun_mk (st := sLine) l__law_line c__law_line k__law_line
  have b__law_line := F__law_line.binds (ps := ["_law_script"]) fun _ _ _ _ _ _ us hl => match us, hl with | [_], _ => rfl
  have m__law_line := PySem.W.mg_of X G a__law_line
  have F__law_built := fun_mk (st := sBuilt) l__law_built c__law_built k__law_built
  have b__law_built := F__law_built.binds (ps := ["_law_script"]) fun _ _ _ _ _ _ us hl => match us, hl with | [_], _ => rfl
  have m__law_built := PySem.W.mg_of X G a__law_built
  have F__law_number := fun_mk (st := sNumber) l__law_number c__law_number k__law_number
  have b__law_number := F__law_number.binds (ps := ["_law_part"]) fun _ _ _ _ _ _ us hl => match us, hl with | [_], _ => rfl
  have m__law_number := PySem.W.mg_of X G a__law_number
  have F__law_due := fun_mk (st := sDue) l__law_due c__law_due k__law_due
  have b__law_due := F__law_due.binds (ps := ["_law_line_here"]) fun _ _ _ _ _ _ us hl => match us, hl with | [_], _ => rfl
  have m__law_due := PySem.W.mg_of X G a__law_due
  have F_law := fun_mk (st := sLaw) l_law c_law k_law
  have b_law := F_law.binds (ps := ["_law_script"]) fun _ _ _ _ _ _ us hl => match us, hl with | [_], _ => rfl
  have m_law := PySem.W.mg_of X G a_law
  have m_ValueError := PySem.W.mg_none_of X G z_ValueError
  have m_all := PySem.W.mg_none_of X G z_all
  have m_any := PySem.W.mg_none_of X G z_any
  have m_bool := PySem.W.mg_none_of X G z_bool
  have m_int := PySem.W.mg_none_of X G z_int
  have m_isinstance := PySem.W.mg_none_of X G z_isinstance
  have m_len := PySem.W.mg_none_of X G z_len
  have m_list := PySem.W.mg_none_of X G z_list
  have m_range := PySem.W.mg_none_of X G z_range
  have m_str := PySem.W.mg_none_of X G z_str
  have m_tuple := PySem.W.mg_none_of X G z_tuple
  refine ⟨PySem.W.fnOf "law" "law" (defArgs sLaw) (defBody sLaw) (defScope sLaw) .none kV_law dc_law pm_law an_law cd_law ct_law, fun s v => .of_eq rfl, fun base _ _ => ?_⟩
  let EC : ECs := ⟨C_NoHand, C_NoSlot, C_NoRoom, C_NothingHeld, C_NoBox, C_NoWork, C_NoHeap, C_NoDeed⟩
  have D_isNumber : Df l.prog w K mg base CX0 1 "is_number" f_is_number _ ["text"] spIsNum := ⟨ok_isNumber F_is_number m_len m_MOST_FIGURES, m_is_number, k_is_number, b_is_number⟩
  have D_read : Df l.prog w K mg base (L2N.CX l.prog w) 2 "read" f_read _ ["line"] (spRead EC) := ⟨ok_read F_read D_isNumber KD_COUNTS (cnt_at lD_COUNTS vD_COUNTS) m_COUNTS T_NoDeed m_len m_all m_int, m_read, k_read, b_read⟩
  have D_cell : Df l.prog w K mg base CX0 1 "_law_cell_at" f__law_cell_at _ ["_law_script", "_law_k"] (spCell K) := ⟨ok_cell F__law_cell_at m_len, m__law_cell_at, k__law_cell_at, b__law_cell_at⟩
  have D_whole : Df l.prog w K mg base CX0 1 "_law_whole" f__law_whole _ ["_law_found"] spWhole := ⟨ok_whole F__law_whole m_isinstance m_int m_bool, m__law_whole, k__law_whole, b__law_whole⟩
  have D_numbers : Df l.prog w K mg base CX0 2 "_law_numbers" f__law_numbers _ (["_law_found", "_law_due_here"]) spNumbers := ⟨ok_numbers F__law_numbers D_whole m_isinstance m_list m_len m_range, m__law_numbers, k__law_numbers, b__law_numbers⟩
  have D_signBy : Df l.prog w K mg base CX0 1 "_law_sign_by" f__law_sign_by _ ["_law_cell"] (spShort 1) := ⟨ok_signBy F__law_sign_by, m__law_sign_by, k__law_sign_by, b__law_sign_by⟩
  have D_odd : Df l.prog w K mg base CX0 1 "_law_odd" f__law_odd _ ["_law_cell"] (spShort 20) := ⟨ok_odd F__law_odd m_len, m__law_odd, k__law_odd, b__law_odd⟩
  have D_line : Df l.prog w K mg base CX0 2 "_law_line" f__law_line _ ["_law_script"] (spLine K) := ⟨ok_line F__law_line D_cell m_range m_str, m__law_line, k__law_line, b__law_line⟩
  have D_built : Df l.prog w K mg base CX0 3 "_law_built" f__law_built _ ["_law_script"] (spBuilt K) := ⟨ok_built F__law_built D_cell D_signBy D_odd D_line m_len, m__law_built, k__law_built, b__law_built⟩
  have D_number : Df l.prog w K mg base CX0 1 "_law_number" f__law_number _ ["_law_part"] spNumber := ⟨ok_number F__law_number m_len, m__law_number, k__law_number, b__law_number⟩
  have D_due : Df l.prog w K mg base CX0 2 "_law_due" f__law_due _ ["_law_line_here"] spDue := ⟨ok_due F__law_due D_number m_len, m__law_due, k__law_due, b__law_due⟩
  exact ok_law (EC := EC) F_law D_built D_due D_read D_numbers T_HeapError T_NoHand T_NoSlot T_NoRoom T_NothingHeld T_NoBox T_NoWork T_NoDeed T_NoHeap EX_NoDeed sub_NoDeed_HeapError kit_NoDeed_NoHand kit_NoDeed_NoSlot kit_NoDeed_NoRoom kit_NoDeed_NothingHeld kit_NoDeed_NoBox kit_NoDeed_NoWork kit_NoDeed_NoDeed kit_NoDeed_NoHeap kit_NoDeed_ValueError m_isinstance m_any m_tuple m_str m_len m_list m_ValueError
end MK
open PySem PySem.W PyProof.Rows
set_option maxHeartbeats 0 in
theorem PySem.Challenge.cw_markpause_k03_read_holds : PySem.Challenge.rw_markpause_k03_read.Holds := by
  w_on; o_law; k_head; (case hw => w_witness2)
  k_fill
  refine L2.walk_of (l := PySem.Challenge.rw_markpause_k03_read) (n := 63) (k := 4) (x := "_law_script") (CX := fun _ => L2.CX0) (sp := fun w => MP.spLaw _) rfl (by decide) rfl ⟨rfl, by decide, by decide⟩ (fun w h Y => PySem.W.kIn_of Y) ?F (fun _ _ a ns hl _ hS => ⟨a, ns, rfl, hS, hl, fun _ => rfl⟩) (fun _ _ _ _ _ h => h)
  case F =>
    intro w mg fa h KX G hmg
    refine' MK.all_mk KX G hmg ?aC_HeapError ?xC_HeapError ?kC_HeapError ?bC_HeapError ?tC_HeapError ?iC_HeapError ?aC_NoHand ?xC_NoHand ?kC_NoHand ?bC_NoHand ?tC_NoHand ?iC_NoHand ?aC_NoSlot ?xC_NoSlot ?kC_NoSlot ?bC_NoSlot ?tC_NoSlot ?iC_NoSlot ?aC_NoRoom ?xC_NoRoom ?kC_NoRoom ?bC_NoRoom ?tC_NoRoom ?iC_NoRoom ?aC_NothingHeld ?xC_NothingHeld ?kC_NothingHeld ?bC_NothingHeld ?tC_NothingHeld ?iC_NothingHeld ?aC_NoBox ?xC_NoBox ?kC_NoBox ?bC_NoBox ?tC_NoBox ?iC_NoBox ?aC_NoWork ?xC_NoWork ?kC_NoWork ?bC_NoWork ?tC_NoWork ?iC_NoWork ?aC_NoHeap ?xC_NoHeap ?kC_NoHeap ?bC_NoHeap ?tC_NoHeap ?iC_NoHeap ?aC_NoDeed ?xC_NoDeed ?kC_NoDeed ?bC_NoDeed ?tC_NoDeed ?iC_NoDeed ?sub_NoDeed_HeapError ?sub_NoDeed_NoHand ?sub_NoDeed_NoSlot ?sub_NoDeed_NoRoom ?sub_NoDeed_NothingHeld ?sub_NoDeed_NoBox ?sub_NoDeed_NoWork ?sub_NoDeed_NoHeap ?sub_NoDeed_NoDeed ?sub_NoDeed_ValueError ?e0_NoDeed ?e1_NoDeed ?e2_NoDeed ?e3_NoDeed ?e4_NoDeed ?e5_NoDeed ?e6_NoDeed ?e7_NoDeed ?aD_COUNTS ?lD_COUNTS ?kD_COUNTS ?sD_COUNTS ?vD_COUNTS ?aN_MOST_FIGURES ?a_read ?l_read ?c_read ?k_read ?a_is_number ?l_is_number ?c_is_number ?k_is_number ?a__law_cell_at ?l__law_cell_at ?c__law_cell_at ?k__law_cell_at ?a__law_whole ?l__law_whole ?c__law_whole ?k__law_whole ?a__law_numbers ?l__law_numbers ?c__law_numbers ?k__law_numbers ?a__law_sign_by ?l__law_sign_by ?c__law_sign_by ?k__law_sign_by ?a__law_odd ?l__law_odd ?c__law_odd ?k__law_odd ?a__law_line ?l__law_line ?c__law_line ?k__law_line ?a__law_built ?l__law_built ?c__law_built ?k__law_built ?a__law_number ?l__law_number ?c__law_number ?k__law_number ?a__law_due ?l__law_due ?c__law_due ?k__law_due ?a_law ?l_law ?c_law ?k_law ?z_ValueError ?z_all ?z_any ?z_bool ?z_int ?z_isinstance ?z_len ?z_list ?z_range ?z_str ?z_tuple
    (case aC_HeapError => k_is); (case xC_HeapError => k_exc); (case kC_HeapError => k_is); (case bC_HeapError => k_is); (case tC_HeapError => k_is); (case iC_HeapError => k_is); (case aC_NoHand => k_is); (case xC_NoHand => k_exc); (case kC_NoHand => k_is); (case bC_NoHand => k_is); (case tC_NoHand => k_is); (case iC_NoHand => k_is); (case aC_NoSlot => k_is); (case xC_NoSlot => k_exc); (case kC_NoSlot => k_is); (case bC_NoSlot => k_is); (case tC_NoSlot => k_is); (case iC_NoSlot => k_is); (case aC_NoRoom => k_is); (case xC_NoRoom => k_exc); (case kC_NoRoom => k_is); (case bC_NoRoom => k_is); (case tC_NoRoom => k_is); (case iC_NoRoom => k_is); (case aC_NothingHeld => k_is); (case xC_NothingHeld => k_exc); (case kC_NothingHeld => k_is); (case bC_NothingHeld => k_is); (case tC_NothingHeld => k_is); (case iC_NothingHeld => k_is); (case aC_NoBox => k_is); (case xC_NoBox => k_exc); (case kC_NoBox => k_is); (case bC_NoBox => k_is); (case tC_NoBox => k_is); (case iC_NoBox => k_is); (case aC_NoWork => k_is); (case xC_NoWork => k_exc); (case kC_NoWork => k_is); (case bC_NoWork => k_is); (case tC_NoWork => k_is); (case iC_NoWork => k_is); (case aC_NoHeap => k_is); (case xC_NoHeap => k_exc); (case kC_NoHeap => k_is); (case bC_NoHeap => k_is); (case tC_NoHeap => k_is); (case iC_NoHeap => k_is); (case aC_NoDeed => k_is); (case xC_NoDeed => k_exc); (case kC_NoDeed => k_is); (case bC_NoDeed => k_is); (case tC_NoDeed => k_is); (case iC_NoDeed => k_is); (case sub_NoDeed_HeapError => k_is); (case sub_NoDeed_NoHand => k_is); (case sub_NoDeed_NoSlot => k_is); (case sub_NoDeed_NoRoom => k_is); (case sub_NoDeed_NothingHeld => k_is); (case sub_NoDeed_NoBox => k_is); (case sub_NoDeed_NoWork => k_is); (case sub_NoDeed_NoHeap => k_is); (case sub_NoDeed_NoDeed => k_is); (case sub_NoDeed_ValueError => k_is); (case e0_NoDeed => k_is); (case e1_NoDeed => k_is); (case e2_NoDeed => k_is); (case e3_NoDeed => k_is); (case e4_NoDeed => k_is); (case e5_NoDeed => k_is); (case e6_NoDeed => k_is); (case e7_NoDeed => k_is); (case aD_COUNTS => k_is); (case lD_COUNTS => k_is); (case kD_COUNTS => k_keys); (case sD_COUNTS => (first | rfl | decide)); (case vD_COUNTS => (first | rfl | (with_unfolding_all rfl))); (case aN_MOST_FIGURES => k_is); (case a_read => k_is); (case l_read => k_is); (case c_read => k_is); (case k_read => k_is); (case a_is_number => k_is); (case l_is_number => k_is); (case c_is_number => k_is); (case k_is_number => k_is); (case a__law_cell_at => k_is); (case l__law_cell_at => k_is); (case c__law_cell_at => k_is); (case k__law_cell_at => k_is); (case a__law_whole => k_is); (case l__law_whole => k_is); (case c__law_whole => k_is); (case k__law_whole => k_is); (case a__law_numbers => k_is); (case l__law_numbers => k_is); (case c__law_numbers => k_is); (case k__law_numbers => k_is); (case a__law_sign_by => k_is); (case l__law_sign_by => k_is); (case c__law_sign_by => k_is); (case k__law_sign_by => k_is); (case a__law_odd => k_is); (case l__law_odd => k_is); (case c__law_odd => k_is); (case k__law_odd => k_is); (case a__law_line => k_is); (case l__law_line => k_is); (case c__law_line => k_is); (case k__law_line => k_is); (case a__law_built => k_is); (case l__law_built => k_is); (case c__law_built => k_is); (case k__law_built => k_is); (case a__law_number => k_is); (case l__law_number => k_is); (case c__law_number => k_is); (case k__law_number => k_is); (case a__law_due => k_is); (case l__law_due => k_is); (case c__law_due => k_is); (case k__law_due => k_is); (case a_law => k_is); (case l_law => k_is); (case c_law => k_is); (case k_law => k_is); (case z_ValueError => k_is); (case z_all => k_is); (case z_any => k_is); (case z_bool => k_is); (case z_int => k_is); (case z_isinstance => k_is); (case z_len => k_is); (case z_list => k_is); (case z_range => k_is); (case z_str => k_is); (case z_tuple => k_is)

