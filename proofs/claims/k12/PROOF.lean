import PyProof.Rows.All
import Wide.All
import OpenK.AllK
import Wide.FinOn
import HandS.ForMost
import HandS.ForExc
import HandS.IsInst
import HandS.More
import HandS.SortInts
import HandS.DictComp
import HandS.Codes
import HandS.NoneIn
import HandS.TryOnly
import HandS.TryMany
import HandS.ExcOwn
import HandS.SetFor
import HandS.Text
import HandS.CallLocal
import HandS.Star
import HandS.RaiseMore
import HandS.StrMore
import HandS.FStr
import PySem.Challenge.RW_markpause_k12_played
set_option Elab.async false
set_option linter.all false
set_option maxRecDepth 100000
set_option maxHeartbeats 4000000
/-! Rules whose reading names the written part K by a letter of its own (so that they stand in a comprehension too); small facts of heaps. -/
namespace KG
open PySem PySem.Spec PyProof.Rows L2
section
variable {X : Cx} {K : PySem.W.Frag}
theorem ixL (e : X.K = K := by rfl) : IxR X (rIxL K) := by subst e; exact ix_list
theorem ixT (e : X.K = K := by rfl) : IxR X (rIxT K) := by subst e; exact ix_tup
theorem slL (e : X.K = K := by rfl) : SlR X (rSlL K) := by subst e; exact sl_list
def rLenQ (K : PySem.W.Frag) : List V → Hp → VK → Prop := fun xs H Q => ∃ p ys, xs = [.ref p] ∧ (SqL K H p ys ∨ SqT K H p ys) ∧ Q (.int ys.length) H
theorem lenS (e : X.K = K := by rfl) : CallR X (.builtin "len") (rLenQ K) := by subst e; exact call_len_seq
def rListQ (K : PySem.W.Frag) : List V → Hp → VK → Prop := fun xs H Q => ∃ p ys, xs = [.ref p] ∧ (SqL K H p ys ∨ SqT K H p ys) ∧ ∀ l, H l = none → Q (.ref l) (upd H l (.lst ys))
theorem listOf (e : X.K = K := by rfl) : CallR X (.type "list") (rListQ K) := by subst e; exact call_list_of
theorem isiK (e : X.K = K := by rfl) : CallR X (.builtin "isinstance") (rIsi K) := by subst e; exact call_isi
theorem inSeq (e : X.K = K := by rfl) : OpR X (compareOp .In) (rIn K false) := by subst e; exact op_in_seq
theorem notInSeq (e : X.K = K := by rfl) : OpR X (compareOp .NotIn) (rIn K true) := by subst e; exact op_notIn_seq
theorem eqDK (hu : X.A.units + 64 < cLine) (e : X.K = K := by rfl) : OpR X (compareOp .Eq) (rEqD K) := by subst e; exact op_eqD hu
theorem neDK (hu : X.A.units + 64 < cLine) (e : X.K = K := by rfl) : OpR X (compareOp .NotEq) (rNeD K) := by subst e; exact op_neD hu
theorem peFld {e : Expr} {ta : TE} {f : Str} {pos : Pos} (he : PE X e ta) (hb : attributeBase e f X.env (eval e X.env) = eval e X.env) (hK : X.K = K := by rfl) : PE X (.Attribute e f pos) (tFld K ta f) := by
  subst hK
  exact pe_fld he hb
end
theorem same_new {H : Hp} {p : Addr} {o : HO} (h : H p = none) : Same H (upd H p o) := fun b x e => by
  rw [upd_ne (ne_of_none e h)]
  exact e
theorem same_put {H0 H : Hp} {p : Addr} {o : HO} (s : Same H0 H) (h : H0 p = none) : Same H0 (upd H p o) := fun b x e => by
  rw [upd_ne (ne_of_none e h)]
  exact s _ _ e
theorem size2k {n : Nat} (h : n ≤ 4000) : n < sizeLine := Nat.lt_of_le_of_lt h (by decide)
theorem ixN_nat {n j : Nat} (h : j < n) : ixN n (j : Int) = some j := by
  unfold ixN
  rw [if_pos (by omega), if_pos (by omega)]
  simp
/-- a def as it stands: kept promise, name, binding -/
structure Df (P : Program) (w : World) (K : PySem.W.Frag) (mg : Str → Option Value) (base : Heap) (CX : CXT) (lv : Nat) (name : Str) (f : Addr) (fd : FuncData) (ps : List Str) (sp : Sp) : Prop where
  g : FnOk P w K mg base CX lv f fd ps sp
  m : mg name = some (.ref f)
  k : PySem.W.keepIn K (.ref f) = true
  b : Binds K fd ps []
end KG

set_option Elab.async false
set_option linter.all false
set_option maxRecDepth 100000
set_option maxHeartbeats 4000000
/-! sorted(a dict with whole numbers as keys), any number; a dict comprehension over a list. -/
namespace KS
open PySem PySem.Spec PyProof.Rows L2
def rSortedD : List V → Hp → VK → Prop := fun xs H Q => ∃ (a : Addr) (kvs : List (Key × V)) (ks : List Int), xs = [.ref a] ∧ Rd H a (.dK kvs) ∧ kvs.map (·.1) = ks.map Sum.inl ∧
    ∀ (ys : List Int) (p : Addr), ys.Perm ks → ys.Pairwise (· ≤ ·) → H p = none → Q (.ref p) (upd H p (.lst (ys.map V.int)))
theorem cr_sortedD {X : Cx} (hcalm : X.calm = true) : CallR X (.builtin "sorted") rSortedD := by
  intro pins s σ H xs us Q I r q
  obtain ⟨a, kvs, ks, ex, hd, hks, q⟩ := q
  subst ex
  obtain ⟨u, eu, rx⟩ := vals1 r
  subst eu
  cases rx
  obtain ⟨z, lo, vs, rel, dd⟩ := dk_rd I.hok hd
  obtain ⟨ep, hat⟩ := dd.dictAt
  have hkeys : vs.map (·.1) = ks.map Sum.inl := rel.keys.symm.trans hks
  have hl : vs.length = ks.length := by
    have e := congrArg List.length hkeys
    rw [List.length_map, List.length_map] at e
    exact e
  have h16 : vs.length ≤ sizeLine := by rw [← rel.length]; exact z
  refine Calls.call_function_entry PyProof.Rows.kind_sorted PyProof.Rows.plain_sorted PyProof.Rows.entry_sorted (PyProof.Rows.args_sorted1 _) ?_
  unfold Builtin.«sorted»
  refine wpAny_bind (m := checkCount "sorted" 1 1 _) (wpAny_pure ?_)
  refine wpAny_bind (PySem.W.kdu_collect (A := X.A.in1) (PySem.W.kdl_dict (knd := mixKind X.prog X.w) (kvs := vs) (ep := ep) lo) (I.ok.hd hcalm) hat h16 fun h' tk acc hk hacc => ?_)
  have hal : acc.toList.length = ks.length := by rw [Array.length_toList, hacc.1, hl]
  have hS : IntsAre acc.toList ks := ints_each hal fun j v e => by
    obtain ⟨k, x, e1, e2⟩ := hacc.2 j v (by rw [← Array.getElem?_toList]; exact e)
    have e3 : (vs.map (·.1))[j]? = some k := by rw [List.getElem?_map, e1]; rfl
    rw [hkeys, List.getElem?_map] at e3
    cases e4 : ks[j]? with
    | none => rw [e4] at e3; cases e3
    | some y =>
      rw [e4] at e3
      have e5 : Sum.inl y = k := Option.some.inj e3
      subst e5
      rcases keyIs_shape (show keyIs (Sum.inl y) v = true from e2) with ⟨i, t, ek, ev⟩ | ⟨z, t, ek, ev⟩
      · cases ek
        exact ⟨y, t, rfl, ev⟩
      · cases ek
  have I1 : Inv X pins σ H { s with heap := h', toks := tk } := I.kept hk
  have hz : acc.toList.length ≤ sizeLine := by rw [hal, ← hl]; exact h16
  refine wpAny_bind (wpAny_newList ?_ hz)
  have hoL : (h'.push (seqObj "list" acc.toList.toArray 0)).get? h'.objs.size = some (seqObj "list" acc.toList.toArray 0) := Heap.get?_push_size _ rfl
  show wpAny _ _ _ _ _ { s with heap := h'.push (seqObj "list" acc.toList.toArray 0), toks := tk }
  refine wpAny_bind (wpAny_holding (wpAny_call_entry PyProof.Rows.slot_list_sort ⟨_, hoL, rfl⟩ PyProof.Rows.entry_list_sort
    (SrtO.list_sort_ord SrtO.swo_int (s := { s with heap := h'.push (seqObj "list" acc.toList.toArray 0), toks := tk }) hoL hz (fun h2 => SrtO.ints_sortable hS h2) fun out g1 g2 => ⟨_, rfl, ?_⟩) (PyProof.Rows.args_list_sort _)))
  obtain ⟨k1, k2, k3⟩ := SrtO.ints_out hS g1 g2
  obtain ⟨e', he'⟩ := PyProof.Rows.sortedHeap_at (vs := acc.toList) (out := out.toArray) hoL
  have hlen : ((out.map SrtO.iv).map V.int).length ≤ sizeLine := by
    rw [List.length_map, k2.length_eq, ← hal]
    exact hz
  refine wpAny_pure ⟨_, rfl, .ref h'.objs.size, upd H h'.objs.size (.lst ((out.map SrtO.iv).map V.int)), I1.laid (t' := tk) (fun b u e => ?_) (Nat.le_refl _)
    (show ObjOk X.prog X.w _ _ _ (.lst ((out.map SrtO.iv).map V.int)) from ⟨hlen, out, e', vals_of_ints k1, he'⟩), rfl, q _ _ k2 k3 (I1.hok.fresh (Nat.le_refl _))⟩
  have hb : b < h'.objs.size := Heap.lt_size e
  rw [PyProof.Rows.sortedHeap_old (Nat.ne_of_lt hb) (by rw [size_push']; exact Nat.lt_succ_of_lt hb)]
  exact Heap.get?_push_of_some _ e
/-- a dict comprehension over a list that stays -/
theorem dc_list {K : PySem.W.Frag} {a : Addr} {xs : List V} {g : TG} {tt : TT} {tk tv : TE} {vs : List Nat} {σ : L2.St} {H1 : Hp} {D : Addr} {Qd : Hp → Prop} (Pv : Nat → Hp → Prop) (h0 : Pv 0 (upd H1 D (.dK []))) (hl : ∀ i H, i ≤ xs.length → Pv i H → SqL K H a xs)
    (hs : ∀ i x H, xs[i]? = some x → Pv i H → g x (wipe σ vs) H fun σ2 H2 => wipe σ2 vs = wipe σ vs ∧ tt σ2 H2 fun b H3 =>
      if b = true then tk σ2 H3 fun y H4 => tv σ2 H4 fun z H5 => ∃ kvs k, y = kV k ∧ H5 D = some (.dK kvs) ∧ kvs.length < sizeLine ∧ Pv (i + 1) (upd H5 D (.dK (putK kvs k z))) else Pv (i + 1) H3) (hd : ∀ H, Pv xs.length H → Qd H) :
    ∃ W : Nat → Nat → Hp → Prop, (∃ m, W 0 m (upd H1 D (.dK []))) ∧ ∀ i m H, W i m H →
      ((Itl K a).stop i H ∧ Qd H) ∨ ((Itl K a).go i H ∧ ∃ Nx : Hp → Prop, (∀ H', Nx H' → ∃ m', m' < m ∧ W (i + 1) m' H') ∧ ∀ x H', (Itl K a).yld i H x H' → g x (wipe σ vs) H' fun σ2 H2 => wipe σ2 vs = wipe σ vs ∧ tt σ2 H2 fun b H3 =>
        if b = true then tk σ2 H3 fun y H4 => tv σ2 H4 fun z H5 => ∃ kvs k, y = kV k ∧ H5 D = some (.dK kvs) ∧ kvs.length < sizeLine ∧ Nx (upd H5 D (.dK (putK kvs k z))) else Nx H3) := by
  refine ⟨fun i m H => m = xs.length - i ∧ i ≤ xs.length ∧ Pv i H, ⟨xs.length, by simp, Nat.zero_le _, h0⟩, ?_⟩
  rintro i m H ⟨rfl, hi, p⟩
  have q := hl i H hi p
  by_cases hlt : i < xs.length
  · refine .inr ⟨⟨xs, xs[i], q, by simp [hlt]⟩, Pv (i + 1), fun H' p' => ⟨xs.length - (i + 1), by omega, rfl, hlt, p'⟩, fun x H' y => ?_⟩
    obtain ⟨e, y⟩ := y
    subst e
    exact hs i x _ (y xs q) p
  · have e : i = xs.length := by omega
    subst e
    exact .inl ⟨⟨xs, q, Nat.le_refl _⟩, hd H p⟩
end KS

set_option linter.all false
/-! The mathematics of the heap and its collector: no Python here. -/
namespace MM
abbrev Row := List (Option Nat)
structure HS where
  hands : List (Option Nat)
  room : Nat
  rows : List Row
  keys : List Nat
  ended : Nat
  old : List Nat
  marks : List Nat
  line : List Nat
  unsw : List Nat
  snap : List Nat
def rowOf (rows : List Row) (k : Nat) : Row := rows.getD k []
abbrev HS.row (S : HS) (k : Nat) : Row := rowOf S.rows k
theorem rowOf_at {rows : List Row} {k : Nat} {row : Row} (h : rows[k]? = some row) : rowOf rows k = row := by
  unfold rowOf
  rw [List.getD_eq_getElem?_getD, h]; rfl
theorem rowOf_lt {rows : List Row} {k : Nat} (h : k < rows.length) : rows[k]? = some (rowOf rows k) := by
  unfold rowOf
  rw [List.getD_eq_getElem?_getD, List.getElem?_eq_getElem h]; rfl
theorem rowOf_ge {rows : List Row} {k : Nat} (h : rows.length ≤ k) : rowOf rows k = [] := by
  unfold rowOf
  rw [List.getD_eq_getElem?_getD, List.getElem?_eq_none h]; rfl
theorem rowOf_mem {rows : List Row} {k : Nat} (h : k < rows.length) : rowOf rows k ∈ rows := List.mem_of_getElem? (rowOf_lt h)
theorem rowOf_push {rows : List Row} {r : Row} (k : Nat) : rowOf (rows ++ [r]) k = if k = rows.length then r else rowOf rows k := by
  by_cases h : k < rows.length
  · rw [if_neg (by omega)]
    refine rowOf_at ?_
    rw [List.getElem?_append_left h]
    exact rowOf_lt h
  · by_cases e : k = rows.length
    · rw [if_pos e]
      refine rowOf_at ?_
      rw [e, List.getElem?_append_right (Nat.le_refl _), Nat.sub_self]; rfl
    · rw [if_neg e, rowOf_ge (by rw [List.length_append, List.length_singleton]; omega), rowOf_ge (by omega)]
theorem rowOf_set {rows : List Row} {b : Nat} {r : Row} (k : Nat) (hb : b < rows.length) : rowOf (rows.set b r) k = if k = b then r else rowOf rows k := by
  unfold rowOf
  rw [List.getD_eq_getElem?_getD, List.getD_eq_getElem?_getD, List.getElem?_set]
  by_cases e : b = k
  · subst e
    rw [if_pos rfl, if_pos hb, if_pos rfl]; rfl
  · rw [if_neg e, if_neg (fun z => e z.symm)]

/-! ### what can be come to -/
inductive Rc (hands : List (Option Nat)) (rows : List Row) : Nat → Prop
  | hand {k : Nat} (h : some k ∈ hands) : Rc hands rows k
  | slot {k j : Nat} (h : Rc hands rows k) (hj : some j ∈ rowOf rows k) : Rc hands rows j

/-! ### rising lists -/
theorem rising_nodup {l : List Nat} (h : l.Pairwise (· < ·)) : l.Nodup := h.imp fun h => by omega
theorem rising_ext : ∀ (l m : List Nat), l.Pairwise (· < ·) → m.Pairwise (· < ·) → (∀ k, k ∈ l ↔ k ∈ m) → l = m
  | [], [], _, _, _ => rfl
  | [], b :: m, _, _, h => absurd ((h b).mpr List.mem_cons_self) (by simp)
  | a :: l, [], _, _, h => absurd ((h a).mp List.mem_cons_self) (by simp)
  | a :: l, b :: m, hl, hm, h => by
    obtain ⟨h1, h2⟩ := List.pairwise_cons.mp hl
    obtain ⟨h3, h4⟩ := List.pairwise_cons.mp hm
    have e : a = b := by
      rcases List.mem_cons.mp ((h a).mp List.mem_cons_self) with e | e
      · exact e
      · rcases List.mem_cons.mp ((h b).mpr List.mem_cons_self) with e2 | e2
        · exact e2.symm
        · have x := h1 b e2
          have y := h3 a e
          omega
    subst e
    have e2 : l = m := rising_ext l m h2 h4 fun k => by
      have q := h k
      rw [List.mem_cons, List.mem_cons] at q
      constructor
      · intro hk
        rcases q.mp (.inr hk) with z | z
        · have := h1 k hk
          omega
        · exact z
      · intro hk
        rcases q.mpr (.inr hk) with z | z
        · have := h3 k hk
          omega
        · exact z
    rw [e2]
theorem nodup_sub : ∀ (l m : List Nat), l.Nodup → (∀ k ∈ l, k ∈ m) → l.length ≤ m.length
  | [], _, _, _ => Nat.zero_le _
  | a :: l, m, nd, h => by
    obtain ⟨h1, h2⟩ := List.nodup_cons.mp nd
    have hm := h a List.mem_cons_self
    have q : l.length ≤ (m.erase a).length := nodup_sub l (m.erase a) h2 fun k hk => by
      refine (List.mem_erase_of_ne fun (e : k = a) => h1 (e ▸ hk)).mpr (h k (List.mem_cons_of_mem _ hk))
    have := List.length_erase_of_mem hm
    have : 0 < m.length := List.length_pos_of_mem hm
    rw [List.length_cons]
    omega

/-! ### marking -/
def HS.mark (S : HS) (k : Nat) : HS := if k ∈ S.old ∧ k ∉ S.marks then { S with marks := S.marks ++ [k], line := S.line ++ [k] } else S
def HS.markO (S : HS) : Option Nat → HS
  | none => S
  | some k => S.mark k
def HS.markAll (S : HS) (l : List (Option Nat)) : HS := l.foldl HS.markO S
/-- what is marked anew, in order -/
def ext (old : List Nat) : List Nat → List (Option Nat) → List Nat
  | _, [] => []
  | m, none :: r => ext old m r
  | m, some k :: r => if k ∈ old ∧ k ∉ m then k :: ext old (m ++ [k]) r else ext old m r
theorem markAll_eq : ∀ (l : List (Option Nat)) (S : HS), S.markAll l = { S with marks := S.marks ++ ext S.old S.marks l, line := S.line ++ ext S.old S.marks l }
  | [], S => by simp [HS.markAll, ext]
  | none :: r, S => by
    show S.markAll r = _
    rw [markAll_eq r S]
    rfl
  | some k :: r, S => by
    show (S.mark k).markAll r = _
    unfold HS.mark ext
    by_cases h : k ∈ S.old ∧ k ∉ S.marks
    · rw [if_pos h, if_pos h, markAll_eq r]
      simp
    · rw [if_neg h, if_neg h, markAll_eq r]
theorem mem_ext : ∀ (l : List (Option Nat)) (old m : List Nat) (k : Nat), k ∈ ext old m l ↔ some k ∈ l ∧ k ∈ old ∧ k ∉ m
  | [], old, m, k => by simp [ext]
  | none :: r, old, m, k => by
    unfold ext
    rw [mem_ext r old m k]
    simp
  | some j :: r, old, m, k => by
    unfold ext
    by_cases h : j ∈ old ∧ j ∉ m
    · rw [if_pos h, List.mem_cons, mem_ext r old (m ++ [j]) k]
      by_cases e : k = j
      · subst e
        simp [h.1, h.2]
      · simp [e]
    · rw [if_neg h, mem_ext r old m k]
      by_cases e : k = j
      · subst e
        constructor
        · exact fun ⟨a, b⟩ => ⟨List.mem_cons_of_mem _ a, b⟩
        · exact fun ⟨_, b⟩ => absurd b h
      · simp [e]
theorem nodup_ext : ∀ (l : List (Option Nat)) (old m : List Nat), (ext old m l).Nodup
  | [], _, _ => List.nodup_nil
  | none :: r, old, m => nodup_ext r old m
  | some j :: r, old, m => by
    unfold ext
    by_cases h : j ∈ old ∧ j ∉ m
    · rw [if_pos h]
      refine List.nodup_cons.mpr ⟨fun z => ?_, nodup_ext r old _⟩
      exact ((mem_ext r old (m ++ [j]) j).mp z).2.2 (by simp)
    · rw [if_neg h]
      exact nodup_ext r old m
theorem nodup_app {l m : List Nat} (h1 : l.Nodup) (h2 : m.Nodup) (h : ∀ k ∈ m, k ∉ l) : (l ++ m).Nodup :=
  List.nodup_append.mpr ⟨h1, h2, fun a ha b hb e => by subst e; exact h a hb ha⟩

/-! ### the deeds and the pieces -/
def HS.make (S : HS) (h n : Nat) : HS := { S with hands := S.hands.set h (some S.rows.length), rows := S.rows ++ [List.replicate n none], keys := S.keys ++ [S.rows.length] }
def HS.setHand (S : HS) (h : Nat) (x : Option Nat) : HS := { S with hands := S.hands.set h x }
def HS.hand (S : HS) (h : Nat) : Option Nat := S.hands.getD h none
def HS.slot (S : HS) (b s : Nat) : Option Nat := (S.row b).getD s none
def HS.take (S : HS) (h b s : Nat) : HS := S.setHand h (S.slot b s)
def HS.share (S : HS) (h o : Nat) : HS := S.setHand h (S.hand o)
def HS.drop (S : HS) (h : Nat) : HS := S.setHand h none
def HS.write (S : HS) (b s : Nat) (x : Option Nat) : HS := { S with rows := S.rows.set b ((S.row b).set s x) }
def HS.put (S : HS) (b s o : Nat) : HS := (if S.line = [] then S else S.markO (S.slot b s)).write b s (S.hand o)
open Classical in
noncomputable def reached (hands : List (Option Nat)) (rows : List Row) : List Nat := (List.range rows.length).filter fun k => decide (Rc hands rows k)
noncomputable def HS.began (S : HS) : HS := ({ S with unsw := S.keys, old := S.keys, marks := [], line := [], snap := reached S.hands S.rows } : HS).markAll S.hands
def HS.markOn (S : HS) : HS := match S.line with
  | [] => S
  | b :: r => ({ S with line := r } : HS).markAll (S.row b)
def HS.sweepOn (S : HS) : HS × Option Nat := match S.unsw with
  | [] => (S, none)
  | b :: r => if b ∈ S.marks then ({ S with unsw := r }, none) else ({ S with unsw := r, keys := S.keys.filter fun k => decide (k ≠ b) }, some b)
def HS.endRound (S : HS) : HS := { S with old := [], marks := [], snap := [], ended := S.ended + 1 }
def HS.ends (S : HS) : HS := if S.unsw = [] then S.endRound else S
noncomputable def HS.step (S : HS) : HS × Option Nat :=
  if S.line = [] then (if S.unsw = [] then (S.began, none) else S.sweepOn) else (S.markOn, none)
noncomputable def HS.piece (S : HS) : HS × Option Nat := (S.step.1.ends, S.step.2)
noncomputable def HS.work : Nat → HS → HS × List Nat
  | 0, S => (S, [])
  | n + 1, S => ((HS.work n S).1.piece.1, (HS.work n S).2 ++ (HS.work n S).1.piece.2.toList)
def HS.phase (S : HS) : String := if S.line = [] then (if S.unsw = [] then "idle" else "sweeping") else "marking"

/-! ### the invariant -/
def Live (S : HS) (k : Nat) : Prop := k ∈ S.keys ∧ (k ∈ S.old → k ∈ S.snap)
inductive Gp (S : HS) : Nat → Prop
  | grey {g w : Nat} (hg : g ∈ S.line) (hw : some w ∈ S.row g) (h1 : w ∈ S.snap) (h2 : w ∉ S.marks) : Gp S w
  | white {v w : Nat} (hv : Gp S v) (hw : some w ∈ S.row v) (h1 : w ∈ S.snap) (h2 : w ∉ S.marks) : Gp S w
structure Good0 (S : HS) : Prop where
  hn : 1 ≤ S.hands.length ∧ S.hands.length ≤ 8
  rm : 1 ≤ S.room ∧ S.room ≤ 1000
  few : S.keys.length ≤ S.room
  rise : S.keys.Pairwise (· < ·)
  lt : ∀ k ∈ S.keys, k < S.rows.length
  four : ∀ row ∈ S.rows, row.length ≤ 4
  hl : ∀ k, some k ∈ S.hands → Live S k
  cl : ∀ k, Live S k → ∀ j, some j ∈ S.row k → Live S j
  oldr : S.old.Pairwise (· < ·)
  oldn : S.old.length ≤ 1000
  olt : ∀ k ∈ S.old, k < S.rows.length
  mks : ∀ k ∈ S.marks, k ∈ S.snap
  mkn : S.marks.Nodup
  ln : ∀ k ∈ S.line, k ∈ S.marks
  lnn : S.line.Nodup
  so : ∀ k ∈ S.snap, k ∈ S.old ∧ k ∈ S.keys
  sr : S.snap.Pairwise (· < ·)
  us : ∀ k ∈ S.unsw, k ∈ S.old ∧ k ∈ S.keys
  ur : S.unsw.Pairwise (· < ·)
  ok : ∀ k ∈ S.keys, k ∈ S.old → k ∈ S.snap ∨ k ∈ S.unsw
  gp : ∀ k ∈ S.snap, k ∉ S.marks → Gp S k
  un : S.line ≠ [] → S.unsw = S.old
structure Good (S : HS) : Prop extends Good0 S where
  idle : S.line = [] → S.unsw = [] → S.old = [] ∧ S.marks = [] ∧ S.snap = []
theorem Gp.line {S : HS} {k : Nat} (h : Gp S k) : S.line ≠ [] := by
  induction h with
  | grey hg => exact List.ne_nil_of_mem hg
  | white _ _ _ _ ih => exact ih
theorem Gp.one {S : HS} {k : Nat} (h : Gp S k) : k ∈ S.snap ∧ k ∉ S.marks := by
  cases h with
  | grey _ _ a b => exact ⟨a, b⟩
  | white _ _ a b => exact ⟨a, b⟩
theorem Good0.all {S : HS} (G : Good0 S) (h : S.line = []) {k : Nat} (hk : k ∈ S.snap) : k ∈ S.marks := Decidable.byContradiction fun n => (G.gp k hk n).line h
theorem Good0.one {S : HS} {k : Nat} (G : Good0 S) (h : k ∈ S.line) : k ∈ S.keys := (G.so _ (G.mks _ (G.ln _ h))).2
theorem Good0.rc {S : HS} (G : Good0 S) {k : Nat} (h : Rc S.hands S.rows k) : Live S k := by
  induction h with
  | hand h => exact G.hl _ h
  | slot _ hj ih => exact G.cl _ ih _ hj
theorem Good0.keysn {S : HS} (G : Good0 S) : S.keys.length ≤ 1000 := Nat.le_trans G.few G.rm.2
theorem Good0.snapn {S : HS} (G : Good0 S) : S.snap.length ≤ 1000 := Nat.le_trans (nodup_sub _ _ (rising_nodup G.sr) fun k h => (G.so k h).1) G.oldn
theorem Good0.marksn {S : HS} (G : Good0 S) : S.marks.length ≤ 1000 := Nat.le_trans (nodup_sub _ _ G.mkn G.mks) G.snapn
theorem Good0.linen {S : HS} (G : Good0 S) : S.line.length ≤ 1000 := Nat.le_trans (nodup_sub _ _ G.lnn G.ln) G.marksn
theorem Good0.unswn {S : HS} (G : Good0 S) : S.unsw.length ≤ 1000 := Nat.le_trans (nodup_sub _ _ (rising_nodup G.ur) fun k h => (G.us k h).1) G.oldn
theorem Good0.row4 {S : HS} (G : Good0 S) (k : Nat) : (S.row k).length ≤ 4 := by
  by_cases h : k < S.rows.length
  · exact G.four _ (rowOf_mem h)
  · rw [show S.row k = [] from rowOf_ge (Nat.le_of_not_lt h)]
    exact Nat.zero_le _

/-- other hands, all of them live -/
theorem Good.withHands {S : HS} (G : Good S) {hs : List (Option Nat)} (hl : hs.length = S.hands.length) (h : ∀ k, some k ∈ hs → Live S k) : Good { S with hands := hs } :=
  have up : ∀ k, Gp S k → Gp { S with hands := hs } k := fun k g => by
    induction g with
    | grey a b c d => exact .grey (S := { S with hands := hs }) a b c d
    | white _ b c d ih => exact .white (S := { S with hands := hs }) ih b c d
  { hn := by show 1 ≤ hs.length ∧ _; rw [hl]; exact G.hn
    rm := G.rm
    few := G.few
    rise := G.rise
    lt := G.lt
    four := G.four
    hl := h
    cl := G.cl
    oldr := G.oldr
    oldn := G.oldn
    olt := G.olt
    mks := G.mks
    mkn := G.mkn
    ln := G.ln
    lnn := G.lnn
    so := G.so
    sr := G.sr
    us := G.us
    ur := G.ur
    ok := G.ok
    gp := fun k a b => up k (G.gp k a b)
    un := G.un
    idle := G.idle }
theorem mem_set {hs : List (Option Nat)} {h : Nat} {x y : Option Nat} (e : y ∈ hs.set h x) : y ∈ hs ∨ y = x := List.mem_or_eq_of_mem_set e
theorem Good.setHand {S : HS} (G : Good S) {h : Nat} {x : Option Nat} (hx : ∀ k, x = some k → Live S k) : Good (S.setHand h x) :=
  G.withHands (by rw [List.length_set]) fun k e => (mem_set e).elim (G.hl k) fun z => hx k z.symm
theorem getD_mem {l : List (Option Nat)} {i k : Nat} (h : l.getD i none = some k) : some k ∈ l := by
  rw [List.getD_eq_getElem?_getD] at h
  cases e : l[i]? with
  | none => rw [e] at h; exact absurd h (by simp)
  | some y => rw [e] at h; exact List.mem_of_getElem? (e.trans (congrArg some h))
theorem Good0.handLive {S : HS} (G : Good0 S) {h k : Nat} (e : S.hand h = some k) : Live S k := G.hl k (getD_mem e)
theorem Good0.slotLive {S : HS} (G : Good0 S) {b s k : Nat} (hb : Live S b) (e : S.slot b s = some k) : Live S k := G.cl b hb k (getD_mem e)
theorem Good.take {S : HS} (G : Good S) {h b s : Nat} (hb : Live S b) : Good (S.take h b s) := G.setHand fun k e => G.slotLive hb e
theorem Good.share {S : HS} (G : Good S) {h o : Nat} : Good (S.share h o) := G.setHand fun k e => G.handLive e
theorem Good.drop {S : HS} (G : Good S) {h : Nat} : Good (S.drop h) := G.setHand fun k e => nomatch e
theorem Good.make {S : HS} (G : Good S) {h n : Nat} (hn : n ≤ 4) (hr : S.keys.length < S.room) : Good (S.make h n) := by
  have hrow : ∀ k j, some j ∈ (S.make h n).row k ↔ some j ∈ S.row k := fun k j => by
    show some j ∈ rowOf (S.rows ++ [List.replicate n none]) k ↔ _
    rw [rowOf_push]
    by_cases e : k = S.rows.length
    · rw [if_pos e, e, show S.row S.rows.length = [] from rowOf_ge (Nat.le_refl _)]
      simp [List.mem_replicate]
    · rw [if_neg e]
  have up : ∀ k, Live S k → Live (S.make h n) k := fun k ⟨a, b⟩ => ⟨List.mem_append_left _ a, b⟩
  have nk : Live (S.make h n) S.rows.length := ⟨List.mem_append_right _ (List.mem_singleton.mpr rfl), fun z => absurd (G.olt _ z) (Nat.lt_irrefl _)⟩
  have dn : ∀ k, Live (S.make h n) k → Live S k ∨ k = S.rows.length := fun k ⟨a, b⟩ => by
    rcases List.mem_append.mp a with a | a
    · exact .inl ⟨a, b⟩
    · exact .inr (List.mem_singleton.mp a)
  have ug : ∀ k, Gp S k → Gp (S.make h n) k := fun k g => by
    induction g with
    | grey a b c d => exact .grey (S := S.make h n) a ((hrow _ _).mpr b) c d
    | white _ b c d ih => exact .white (S := S.make h n) ih ((hrow _ _).mpr b) c d
  have len : (S.make h n).rows.length = S.rows.length + 1 := by show (S.rows ++ [_]).length = _; rw [List.length_append]; rfl
  exact
  { hn := by show 1 ≤ (S.hands.set h _).length ∧ (S.hands.set h _).length ≤ 8; rw [List.length_set]; exact G.hn
    rm := G.rm
    few := by show (S.keys ++ [_]).length ≤ S.room; rw [List.length_append, List.length_singleton]; omega
    rise := List.pairwise_append.mpr ⟨G.rise, List.pairwise_singleton _ _, fun a ha b hb => by rw [List.mem_singleton] at hb; subst hb; exact G.lt a ha⟩
    lt := fun k hk => by
      rw [len]
      rcases List.mem_append.mp hk with hk | hk
      · have := G.lt k hk; omega
      · rw [List.mem_singleton] at hk; omega
    four := fun row hr => by
      rcases List.mem_append.mp hr with hr | hr
      · exact G.four row hr
      · rw [List.mem_singleton] at hr; subst hr; rw [List.length_replicate]; exact hn
    hl := fun k e => by
      rcases mem_set e with e | e
      · exact up k (G.hl k e)
      · cases e; exact nk
    cl := fun k hk j hj => by
      rw [hrow] at hj
      rcases dn k hk with hk | hk
      · exact up j (G.cl k hk j hj)
      · rw [hk, show S.row S.rows.length = [] from rowOf_ge (Nat.le_refl _)] at hj
        exact absurd hj (by simp)
    oldr := G.oldr
    oldn := G.oldn
    olt := fun k hk => by rw [len]; have := G.olt k hk; omega
    mks := G.mks
    mkn := G.mkn
    ln := G.ln
    lnn := G.lnn
    so := fun k hk => ⟨(G.so k hk).1, List.mem_append_left _ (G.so k hk).2⟩
    sr := G.sr
    us := fun k hk => ⟨(G.us k hk).1, List.mem_append_left _ (G.us k hk).2⟩
    ur := G.ur
    ok := fun k hk ho => by
      rcases List.mem_append.mp hk with hk | hk
      · exact G.ok k hk ho
      · rw [List.mem_singleton] at hk; subst hk; exact absurd (G.olt _ ho) (Nat.lt_irrefl _)
    gp := fun k a b => ug k (G.gp k a b)
    un := G.un
    idle := G.idle }
theorem Good.mark {S : HS} (G : Good S) (hL : S.line ≠ []) {k : Nat} (hk : Live S k) : Good (S.mark k) := by
  unfold HS.mark
  by_cases c : k ∈ S.old ∧ k ∉ S.marks
  · rw [if_pos c]
    have ks := hk.2 c.1
    generalize hS : ({ S with marks := S.marks ++ [k], line := S.line ++ [k] } : HS) = S'
    have eM : S'.marks = S.marks ++ [k] := by rw [← hS]
    have eL : S'.line = S.line ++ [k] := by rw [← hS]
    have up : ∀ w, Gp S w → w ≠ k → Gp S' w := fun w g => by
      induction g with
      | grey a b e d =>
        intro n
        refine .grey (by rw [eL]; exact List.mem_append_left _ a) (by rw [← hS]; exact b) (by rw [← hS]; exact e) (by rw [eM]; simp [d, n])
      | @white v w _ b e d ih =>
        intro n
        by_cases q : v = k
        · subst q
          exact .grey (g := v) (by rw [eL]; simp) (by rw [← hS]; exact b) (by rw [← hS]; exact e) (by rw [eM]; simp [d, n])
        · exact .white (ih q) (by rw [← hS]; exact b) (by rw [← hS]; exact e) (by rw [eM]; simp [d, n])
    have un : S'.unsw = S'.old := by rw [← hS]; exact G.un hL
    have nl : S'.line ≠ [] := by rw [eL]; simp
    subst hS
    exact
    { hn := G.hn, rm := G.rm, few := G.few, rise := G.rise, lt := G.lt, four := G.four, hl := G.hl, cl := G.cl, oldr := G.oldr, oldn := G.oldn, olt := G.olt
      mks := fun j hj => by
        rcases List.mem_append.mp hj with hj | hj
        · exact G.mks j hj
        · rw [List.mem_singleton] at hj; subst hj; exact ks
      mkn := nodup_app G.mkn (by simp) fun j hj => by rw [List.mem_singleton] at hj; subst hj; exact c.2
      ln := fun j hj => by
        rcases List.mem_append.mp hj with hj | hj
        · exact List.mem_append_left _ (G.ln j hj)
        · exact List.mem_append_right _ hj
      lnn := nodup_app G.lnn (by simp) fun j hj => by rw [List.mem_singleton] at hj; subst hj; exact fun z => c.2 (G.ln _ z)
      so := G.so, sr := G.sr, us := G.us, ur := G.ur, ok := G.ok
      gp := fun w a b => by
        have b' : w ∉ S.marks ∧ w ≠ k := by
          have : w ∉ S.marks ++ [k] := b
          simpa using this
        exact up w (G.gp w a b'.1) b'.2
      un := fun _ => un
      idle := fun e => absurd e nl }
  · rw [if_neg c]
    exact G
theorem Good.markO {S : HS} (G : Good S) (hL : S.line ≠ []) {o : Option Nat} (ho : ∀ k, o = some k → Live S k) : Good (S.markO o) := by
  cases o with
  | none => exact G
  | some k => exact G.mark hL (ho k rfl)
theorem mem_row_set {r : Row} {s j : Nat} {x : Option Nat} (h : some j ∈ r.set s x) : some j ∈ r ∨ x = some j := (mem_set h).imp id Eq.symm
theorem mem_row_keep {r : Row} {s j : Nat} {x : Option Nat} (h : some j ∈ r) (n : r.getD s none ≠ some j) : some j ∈ r.set s x := by
  obtain ⟨i, hi⟩ := List.getElem?_of_mem h
  refine List.mem_of_getElem? (i := i) ?_
  rw [List.getElem?_set]
  by_cases e : s = i
  · subst e
    exact absurd (by rw [List.getD_eq_getElem?_getD, hi]; rfl) n
  · rw [if_neg e]
    exact hi
theorem Good.write {S : HS} (G : Good S) {b s : Nat} {x : Option Nat} (hb : Live S b) (hx : ∀ k, x = some k → Live S k) (hc : S.line ≠ [] → ∀ k, S.slot b s = some k → k ∈ S.old → k ∈ S.marks) : Good (S.write b s x) := by
  have bl := G.lt b hb.1
  have hrow : ∀ k, (S.write b s x).row k = if k = b then (S.row b).set s x else S.row k := fun k => rowOf_set k bl
  have len : (S.write b s x).rows.length = S.rows.length := by show (S.rows.set b _).length = _; rw [List.length_set]
  have keep : ∀ g w, some w ∈ S.row g → w ∈ S.snap → w ∉ S.marks → S.line ≠ [] → some w ∈ (S.write b s x).row g := fun g w hw h1 h2 hl => by
    rw [hrow]
    by_cases e : g = b
    · rw [if_pos e]
      subst e
      exact mem_row_keep hw fun z => h2 (hc hl w z (G.so w h1).1)
    · rw [if_neg e]
      exact hw
  have up : ∀ w, Gp S w → Gp (S.write b s x) w := fun w g => by
    have hl := g.line
    induction g with
    | grey a c d e => exact .grey (S := S.write b s x) a (keep _ _ c d e hl) d e
    | white _ c d e ih => exact .white (S := S.write b s x) ih (keep _ _ c d e hl) d e
  exact
  { hn := G.hn, rm := G.rm, few := G.few, rise := G.rise
    lt := fun k hk => by rw [len]; exact G.lt k hk
    four := fun row hr => by
      rcases List.mem_or_eq_of_mem_set hr with hr | hr
      · exact G.four row hr
      · subst hr; rw [List.length_set]; exact G.row4 b
    hl := G.hl
    cl := fun k hk j hj => by
      rw [hrow] at hj
      by_cases e : k = b
      · rw [if_pos e] at hj
        rcases mem_row_set hj with hj | hj
        · exact G.cl b hb j hj
        · exact hx j hj
      · rw [if_neg e] at hj
        exact G.cl k hk j hj
    oldr := G.oldr, oldn := G.oldn
    olt := fun k hk => by rw [len]; exact G.olt k hk
    mks := G.mks, mkn := G.mkn, ln := G.ln, lnn := G.lnn, so := G.so, sr := G.sr, us := G.us, ur := G.ur, ok := G.ok
    gp := fun k a c => up k (G.gp k a c)
    un := G.un, idle := G.idle }
theorem mark_fields (S : HS) (k : Nat) : (S.mark k).hands = S.hands ∧ (S.mark k).rows = S.rows ∧ (S.mark k).keys = S.keys ∧ (S.mark k).old = S.old ∧ (S.mark k).snap = S.snap ∧ (S.mark k).unsw = S.unsw ∧ (S.mark k).ended = S.ended ∧ (S.mark k).room = S.room := by
  unfold HS.mark
  split <;> exact ⟨rfl, rfl, rfl, rfl, rfl, rfl, rfl, rfl⟩
theorem markO_fields (S : HS) (k : Option Nat) : (S.markO k).hands = S.hands ∧ (S.markO k).rows = S.rows ∧ (S.markO k).keys = S.keys ∧ (S.markO k).old = S.old ∧ (S.markO k).snap = S.snap ∧ (S.markO k).unsw = S.unsw ∧ (S.markO k).ended = S.ended ∧ (S.markO k).room = S.room := by
  cases k with
  | none => exact ⟨rfl, rfl, rfl, rfl, rfl, rfl, rfl, rfl⟩
  | some k => exact mark_fields S k
theorem Good.put {S : HS} (G : Good S) {b s o : Nat} (hb : Live S b) : Good (S.put b s o) := by
  unfold HS.put
  by_cases hL : S.line = []
  · rw [if_pos hL]
    exact G.write hb (fun k e => G.handLive e) fun n => absurd hL n
  · rw [if_neg hL]
    have G2 : Good (S.markO (S.slot b s)) := G.markO hL fun k e => G.slotLive hb e
    obtain ⟨f1, f2, f3, f4, f5, f6, f7, f8⟩ := markO_fields S (S.slot b s)
    have live : ∀ k, Live S k → Live (S.markO (S.slot b s)) k := fun k ⟨a, c⟩ => ⟨by rw [f3]; exact a, by rw [f4, f5]; exact c⟩
    refine G2.write (live b hb) (fun k e => live k (G.handLive e)) fun _ k e ho => ?_
    have e' : S.slot b s = some k := by
      have : (S.markO (S.slot b s)).slot b s = S.slot b s := congrArg (fun z => (rowOf z b).getD s none) f2
      rw [← this]; exact e
    rw [f4] at ho
    rw [e']
    show k ∈ (S.mark k).marks
    unfold HS.mark
    by_cases c : k ∈ S.old ∧ k ∉ S.marks
    · rw [if_pos c]; exact List.mem_append_right _ (List.mem_singleton.mpr rfl)
    · rw [if_neg c]; exact Decidable.byContradiction fun z => c ⟨ho, z⟩

/-! ### the pieces keep it -/
theorem Good0.ends {S : HS} (G : Good0 S) : Good S.ends := by
  unfold HS.ends
  by_cases hu : S.unsw = []
  · rw [if_pos hu]
    have hl : S.line = [] := Decidable.byContradiction fun n => by
      have e := G.un n
      rw [hu] at e
      obtain ⟨k, r, ek⟩ := List.exists_cons_of_ne_nil n
      have := (G.so _ (G.mks _ (G.ln k (by rw [ek]; exact List.mem_cons_self)))).1
      rw [← e] at this
      exact absurd this (by simp)
    have live : ∀ k, Live S k ↔ k ∈ S.keys := fun k => ⟨fun h => h.1, fun h => ⟨h, fun ho => (G.ok k h ho).resolve_right (by rw [hu]; simp)⟩⟩
    have live' : ∀ k, Live S.endRound k ↔ k ∈ S.keys := fun k => ⟨fun h => h.1, fun h => ⟨h, fun ho => absurd ho (show k ∉ ([] : List Nat) by simp)⟩⟩
    exact
    { hn := G.hn, rm := G.rm, few := G.few, rise := G.rise, lt := G.lt, four := G.four
      hl := fun k e => (live' k).mpr ((live k).mp (G.hl k e))
      cl := fun k hk j hj => (live' j).mpr ((live j).mp (G.cl k ((live k).mpr ((live' k).mp hk)) j hj))
      oldr := List.Pairwise.nil
      oldn := Nat.zero_le _
      olt := fun k hk => absurd hk (show k ∉ ([] : List Nat) by simp)
      mks := fun k hk => absurd hk (show k ∉ ([] : List Nat) by simp)
      mkn := List.nodup_nil
      ln := fun k hk => by
        have hk : k ∈ S.line := hk
        rw [hl] at hk
        exact absurd hk (by simp)
      lnn := G.lnn
      so := fun k hk => absurd hk (show k ∉ ([] : List Nat) by simp)
      sr := List.Pairwise.nil
      us := fun k hk => by
        have hk : k ∈ S.unsw := hk
        rw [hu] at hk
        exact absurd hk (by simp)
      ur := G.ur
      ok := fun k _ ho => absurd ho (show k ∉ ([] : List Nat) by simp)
      gp := fun k hk => absurd hk (show k ∉ ([] : List Nat) by simp)
      un := fun n => absurd hl n
      idle := fun _ _ => ⟨rfl, rfl, rfl⟩ }
  · rw [if_neg hu]
    exact { toGood0 := G, idle := fun _ e => absurd e hu }
open Classical in
theorem mem_reached {hands : List (Option Nat)} {rows : List Row} {k : Nat} (h : Rc hands rows k → k < rows.length) : k ∈ reached hands rows ↔ Rc hands rows k := by
  unfold reached
  rw [List.mem_filter, decide_eq_true_eq, List.mem_range]
  exact ⟨fun z => z.2, fun z => ⟨h z, z⟩⟩
theorem reached_rise (hands : List (Option Nat)) (rows : List Row) : (reached hands rows).Pairwise (· < ·) := List.Pairwise.filter _ List.pairwise_lt_range
theorem Good.idle_live {S : HS} (G : Good S) (hl : S.line = []) (hu : S.unsw = []) (k : Nat) : Live S k ↔ k ∈ S.keys :=
  ⟨fun h => h.1, fun h => ⟨h, fun ho => by rw [(G.idle hl hu).1] at ho; exact absurd ho (by simp)⟩⟩
theorem Good.snap_began {S : HS} (G : Good S) (k : Nat) : k ∈ reached S.hands S.rows ↔ Rc S.hands S.rows k := mem_reached fun h => G.lt k (G.rc h).1
theorem began_eq (S : HS) : S.began = { S with unsw := S.keys, old := S.keys, marks := ext S.keys [] S.hands, line := ext S.keys [] S.hands, snap := reached S.hands S.rows } := by
  unfold HS.began
  rw [markAll_eq]
  simp
theorem Good.began {S : HS} (G : Good S) (hl : S.line = []) (hu : S.unsw = []) : Good0 S.began := by
  rw [began_eq]
  have lk := G.idle_live hl hu
  have mE : ∀ k, k ∈ ext S.keys [] S.hands ↔ some k ∈ S.hands := fun k => by
    rw [mem_ext]
    exact ⟨fun z => z.1, fun z => ⟨z, (G.hl k z).1, by simp⟩⟩
  generalize hS : ({ S with unsw := S.keys, old := S.keys, marks := ext S.keys [] S.hands, line := ext S.keys [] S.hands, snap := reached S.hands S.rows } : HS) = S'
  have ms : ∀ k, k ∈ S'.snap ↔ Rc S.hands S.rows k := fun k => by rw [← hS]; exact G.snap_began k
  have lv : ∀ k, Rc S.hands S.rows k → Live S' k := fun k h => ⟨by rw [← hS]; exact (G.rc h).1, fun _ => (ms k).mpr h⟩
  have vl : ∀ k, Live S' k → Rc S.hands S.rows k := fun k h => (ms k).mp (h.2 (by rw [← hS]; have := h.1; rw [← hS] at this; exact this))
  have gp : ∀ k, Rc S.hands S.rows k → k ∉ S'.marks → Gp S' k := fun k h => by
    induction h with
    | hand h => exact fun n => absurd (by rw [← hS]; exact (mE _).mpr h) n
    | @slot v w hv hj ih =>
      intro n
      have ws := (ms w).mpr (.slot hv hj)
      by_cases q : v ∈ S'.marks
      · exact .grey (g := v) (by rw [← hS] at q ⊢; exact q) (by rw [← hS]; exact hj) ws n
      · exact .white (ih q) (by rw [← hS]; exact hj) ws n
  have sm : ∀ k ∈ S'.marks, k ∈ S'.snap := fun k hk => (ms k).mpr (.hand ((mE k).mp (by rw [← hS] at hk; exact hk)))
  have hl' : ∀ k, some k ∈ S'.hands → Live S' k := fun k e => lv k (.hand (by rw [← hS] at e; exact e))
  have cl' : ∀ k, Live S' k → ∀ j, some j ∈ S'.row k → Live S' j := fun k hk j hj => lv j (.slot (vl k hk) (by rw [← hS] at hj; exact hj))
  have so' : ∀ k ∈ S'.snap, k ∈ S'.old ∧ k ∈ S'.keys := fun k hk => by
    have := (G.rc ((ms k).mp hk)).1
    rw [← hS]
    exact ⟨this, this⟩
  have gp' : ∀ k ∈ S'.snap, k ∉ S'.marks → Gp S' k := fun k a b => gp k ((ms k).mp a) b
  subst hS
  exact
  { hn := G.hn, rm := G.rm, few := G.few, rise := G.rise, lt := G.lt, four := G.four
    hl := hl', cl := cl', oldr := G.rise, oldn := G.keysn, olt := G.lt
    mks := sm, mkn := nodup_ext _ _ _, ln := fun k hk => hk, lnn := nodup_ext _ _ _
    so := so', sr := reached_rise _ _, us := fun k hk => ⟨hk, hk⟩, ur := G.rise, ok := fun k _ ho => .inr ho
    gp := gp', un := fun _ => rfl }
theorem Good.markOn {S : HS} (G : Good S) (hL : S.line ≠ []) : Good0 S.markOn := by
  obtain ⟨b, r, eL⟩ := List.exists_cons_of_ne_nil hL
  have eM : S.markOn = { S with marks := S.marks ++ ext S.old S.marks (S.row b), line := r ++ ext S.old S.marks (S.row b) } := by
    unfold HS.markOn
    rw [eL]
    show HS.markAll _ _ = _
    rw [markAll_eq]
  have hm := mem_ext (S.row b) S.old S.marks
  have hb := G.ln b (by rw [eL]; exact List.mem_cons_self)
  have bl : Live S b := ⟨(G.so b (G.mks b hb)).2, fun _ => G.mks b hb⟩
  have un := G.un hL
  rw [eM]
  generalize hS : ({ S with marks := S.marks ++ ext S.old S.marks (S.row b), line := r ++ ext S.old S.marks (S.row b) } : HS) = S'
  have gp : ∀ w, Gp S w → w ∉ S'.marks → Gp S' w := fun w g => by
    induction g with
    | @grey g w a c d e =>
      intro n
      rw [eL] at a
      rcases List.mem_cons.mp a with a | a
      · subst a
        exact absurd (by rw [← hS]; exact List.mem_append_right _ ((hm w).mpr ⟨c, (G.so w d).1, e⟩)) n
      · exact .grey (g := g) (by rw [← hS]; exact List.mem_append_left _ a) (by rw [← hS]; exact c) (by rw [← hS]; exact d) n
    | @white v w hv c d e ih =>
      intro n
      by_cases q : v ∈ S'.marks
      · have : v ∈ ext S.old S.marks (S.row b) := by
          rw [← hS] at q
          exact (List.mem_append.mp q).resolve_left hv.one.2
        exact .grey (g := v) (by rw [← hS]; exact List.mem_append_right _ this) (by rw [← hS]; exact c) (by rw [← hS]; exact d) n
      · exact .white (ih q) (by rw [← hS]; exact c) (by rw [← hS]; exact d) n
  have gp' : ∀ k ∈ S'.snap, k ∉ S'.marks → Gp S' k := fun k a c => gp k (G.gp k (by rw [← hS] at a; exact a) fun z => c (by rw [← hS]; exact List.mem_append_left _ z)) c
  subst hS
  exact
  { hn := G.hn, rm := G.rm, few := G.few, rise := G.rise, lt := G.lt, four := G.four, hl := G.hl, cl := G.cl, oldr := G.oldr, oldn := G.oldn, olt := G.olt
    mks := fun k hk => by
      rcases List.mem_append.mp hk with hk | hk
      · exact G.mks k hk
      · obtain ⟨a, c, _⟩ := (hm k).mp hk
        exact (G.cl b bl k a).2 c
    mkn := nodup_app G.mkn (nodup_ext _ _ _) fun k hk => ((hm k).mp hk).2.2
    ln := fun k hk => by
      rcases List.mem_append.mp hk with hk | hk
      · exact List.mem_append_left _ (G.ln k (by rw [eL]; exact List.mem_cons_of_mem _ hk))
      · exact List.mem_append_right _ hk
    lnn := by
      have nd := G.lnn
      rw [eL] at nd
      exact nodup_app (List.nodup_cons.mp nd).2 (nodup_ext _ _ _) fun k hk z => ((hm k).mp hk).2.2 (G.ln k (by rw [eL]; exact List.mem_cons_of_mem _ z))
    so := G.so, sr := G.sr, us := G.us, ur := G.ur, ok := G.ok, gp := gp', un := fun _ => un }
theorem Good.sweepOn {S : HS} (G : Good S) (hl : S.line = []) : Good0 S.sweepOn.1 := by
  unfold HS.sweepOn
  cases eU : S.unsw with
  | nil => exact G.toGood0
  | cons b r =>
    have hb := G.us b (by rw [eU]; exact List.mem_cons_self)
    have ur := G.ur
    rw [eU] at ur
    have nb : b ∉ r := fun z => by
      have := (List.pairwise_cons.mp ur).1 b z
      omega
    dsimp only
    by_cases c : b ∈ S.marks
    · rw [if_pos c]
      have gp : ∀ k ∈ S.snap, k ∉ S.marks → Gp { S with unsw := r } k := fun k a n => absurd (G.all hl a) n
      exact
      { hn := G.hn, rm := G.rm, few := G.few, rise := G.rise, lt := G.lt, four := G.four, hl := G.hl, cl := G.cl, oldr := G.oldr, oldn := G.oldn, olt := G.olt, mks := G.mks, mkn := G.mkn, ln := G.ln, lnn := G.lnn, so := G.so, sr := G.sr
        us := fun k hk => G.us k (by rw [eU]; exact List.mem_cons_of_mem _ hk)
        ur := (List.pairwise_cons.mp ur).2
        ok := fun k hk ho => by
          rcases G.ok k hk ho with z | z
          · exact .inl z
          · rw [eU] at z
            rcases List.mem_cons.mp z with z | z
            · subst z; exact .inl (G.mks _ c)
            · exact .inr z
        gp := gp
        un := fun n => absurd hl n }
    · rw [if_neg c]
      have ns : b ∉ S.snap := fun z => c (G.all hl z)
      generalize hS : ({ S with unsw := r, keys := S.keys.filter fun k => decide (k ≠ b) } : HS) = S'
      have mk : ∀ k, k ∈ S'.keys ↔ k ∈ S.keys ∧ k ≠ b := fun k => by rw [← hS]; simp [List.mem_filter]
      have lv : ∀ k, Live S k ↔ Live S' k := fun k => by
        constructor
        · rintro ⟨a, d⟩
          refine ⟨(mk k).mpr ⟨a, fun e => ns (by subst e; exact d hb.1)⟩, by rw [← hS]; exact d⟩
        · rintro ⟨a, d⟩
          exact ⟨((mk k).mp a).1, by rw [← hS] at d; exact d⟩
      have few : S'.keys.length ≤ S'.room := by rw [← hS]; exact Nat.le_trans (List.length_filter_le _ _) G.few
      have rise : S'.keys.Pairwise (· < ·) := by rw [← hS]; exact G.rise.filter _
      have so : ∀ k ∈ S'.snap, k ∈ S'.old ∧ k ∈ S'.keys := fun k hk => by
        have hk : k ∈ S.snap := by rw [← hS] at hk; exact hk
        refine ⟨by rw [← hS]; exact (G.so k hk).1, (mk k).mpr ⟨(G.so k hk).2, fun e => ns (e ▸ hk)⟩⟩
      have us : ∀ k ∈ S'.unsw, k ∈ S'.old ∧ k ∈ S'.keys := fun k hk => by
        have hk : k ∈ r := by rw [← hS] at hk; exact hk
        have := G.us k (by rw [eU]; exact List.mem_cons_of_mem _ hk)
        exact ⟨by rw [← hS]; exact this.1, (mk k).mpr ⟨this.2, fun e => nb (e ▸ hk)⟩⟩
      have ok : ∀ k ∈ S'.keys, k ∈ S'.old → k ∈ S'.snap ∨ k ∈ S'.unsw := fun k hk ho => by
        obtain ⟨a, d⟩ := (mk k).mp hk
        have := G.ok k a (by rw [← hS] at ho; exact ho)
        rw [eU] at this
        rw [← hS]
        rcases this with z | z
        · exact .inl z
        · exact .inr ((List.mem_cons.mp z).resolve_left d)
      have gp : ∀ k ∈ S'.snap, k ∉ S'.marks → Gp S' k := fun k a n => absurd (by rw [← hS] at a ⊢; exact G.all hl a) n
      have hl' : ∀ k, some k ∈ S'.hands → Live S' k := fun k e => (lv k).mp (G.hl k (by rw [← hS] at e; exact e))
      have cl' : ∀ k, Live S' k → ∀ j, some j ∈ S'.row k → Live S' j := fun k hk j hj => (lv j).mp (G.cl k ((lv k).mpr hk) j (by rw [← hS] at hj; exact hj))
      have lt' : ∀ k ∈ S'.keys, k < S'.rows.length := fun k hk => by
        have := G.lt k ((mk k).mp hk).1
        rw [← hS]; exact this
      subst hS
      exact
      { hn := G.hn, rm := G.rm, few := few, rise := rise, lt := lt', four := G.four, hl := hl', cl := cl', oldr := G.oldr, oldn := G.oldn, olt := G.olt, mks := G.mks, mkn := G.mkn, ln := G.ln, lnn := G.lnn, so := so, sr := G.sr
        us := us, ur := (List.pairwise_cons.mp ur).2, ok := ok, gp := gp, un := fun n => absurd hl n }
theorem Good.step {S : HS} (G : Good S) : Good0 S.step.1 := by
  unfold HS.step
  by_cases hl : S.line = []
  · rw [if_pos hl]
    by_cases hu : S.unsw = []
    · rw [if_pos hu]
      exact G.began hl hu
    · rw [if_neg hu]
      exact G.sweepOn hl
  · rw [if_neg hl]
    exact G.markOn hl
theorem Good.piece {S : HS} (G : Good S) : Good S.piece.1 := G.step.ends
theorem Good.work {S : HS} (G : Good S) : ∀ n, Good (HS.work n S).1
  | 0 => G
  | n + 1 => (Good.work G n).piece
def HS.new (hands room : Nat) : HS := ⟨List.replicate hands none, room, [], [], 0, [], [], [], [], []⟩
theorem Good.new {n r : Nat} (h : 1 ≤ n ∧ n ≤ 8) (hr : 1 ≤ r ∧ r ≤ 1000) : Good (HS.new n r) :=
  have no : ∀ k, k ∉ ([] : List Nat) := fun k => by simp
  { hn := by show 1 ≤ (List.replicate n none).length ∧ (List.replicate n none).length ≤ 8; rw [List.length_replicate]; exact h
    rm := hr, few := Nat.zero_le _, rise := .nil, lt := fun k z => absurd z (no k)
    four := fun r z => absurd z (show r ∉ ([] : List Row) by simp)
    hl := fun k z => absurd (List.eq_of_mem_replicate z) (by simp)
    cl := fun k z => absurd z.1 (no k)
    oldr := .nil, oldn := Nat.zero_le _, olt := fun k z => absurd z (no k), mks := fun k z => absurd z (no k), mkn := .nil, ln := fun k z => absurd z (no k), lnn := .nil
    so := fun k z => absurd z (no k), sr := .nil, us := fun k z => absurd z (no k), ur := .nil, ok := fun k z => absurd z (no k), gp := fun k z => absurd z (no k), un := fun _ => rfl
    idle := fun _ _ => ⟨rfl, rfl, rfl⟩ }
end MM

set_option Elab.async false
set_option linter.all false
set_option maxRecDepth 100000
set_option maxHeartbeats 4000000
/-! How a heap of the program stands in memory: its objects by slots, what is its own (foot), and what a store does to it. -/
namespace MP
open PySem PySem.Spec PyProof.Rows L2 MM KG
def optV : Option Nat → V
  | none => .non
  | some k => .int (k : Int)
def nV (k : Nat) : V := .int (k : Int)
def kK (k : Nat) : Key := Sum.inl (k : Int)
structure Raw where
  hands : List (Option Nat)
  room : Nat
  keys : List Nat
  row : Nat → MM.Row
  made : Nat
  ended : Nat
  old : List Nat
  marks : List Nat
  line : List Nat
  unsw : List Nat
def raw (S : HS) : Raw := ⟨S.hands, S.room, S.keys, S.row, S.rows.length, S.ended, S.old, S.marks, S.line, S.unsw⟩
inductive Sl
  | ob | hands | rows | old | marks | line | unsw | row (k : Nat)
  deriving DecidableEq
structure HA where
  dx : Addr
  f : Sl → Addr
def HA.mv (A : HA) (s : Sl) (q : Addr) : HA := ⟨A.dx, fun t => if t = s then q else A.f t⟩
def fl (a b c d e f g h i : V) : List (Str × V) := [("_hands", a), ("_room", b), ("_rows", c), ("_made", d), ("_ended", e), ("_old", f), ("_marks", g), ("_line", h), ("_unswept", i)]
section
variable (a b c d e f g h i y : V)
theorem fl_hands : (fl a b c d e f g h i).lookup ("_hands" : Str) = some a := by rfl
theorem fl_room : (fl a b c d e f g h i).lookup ("_room" : Str) = some b := by rfl
theorem fl_rows : (fl a b c d e f g h i).lookup ("_rows" : Str) = some c := by rfl
theorem fl_made : (fl a b c d e f g h i).lookup ("_made" : Str) = some d := by rfl
theorem fl_ended : (fl a b c d e f g h i).lookup ("_ended" : Str) = some e := by rfl
theorem fl_old : (fl a b c d e f g h i).lookup ("_old" : Str) = some f := by rfl
theorem fl_marks : (fl a b c d e f g h i).lookup ("_marks" : Str) = some g := by rfl
theorem fl_line : (fl a b c d e f g h i).lookup ("_line" : Str) = some h := by rfl
theorem fl_unsw : (fl a b c d e f g h i).lookup ("_unswept" : Str) = some i := by rfl
theorem fl_pmade : putF "_made" y (fl a b c d e f g h i) = fl a b c y e f g h i := by rfl
theorem fl_pended : putF "_ended" y (fl a b c d e f g h i) = fl a b c d y f g h i := by rfl
theorem fl_pold : putF "_old" y (fl a b c d e f g h i) = fl a b c d e y g h i := by rfl
theorem fl_pmarks : putF "_marks" y (fl a b c d e f g h i) = fl a b c d e f y h i := by rfl
theorem fl_punsw : putF "_unswept" y (fl a b c d e f g h i) = fl a b c d e f g h y := by rfl
end
def flds (A : HA) (R : Raw) : List (Str × V) := fl (.ref (A.f .hands)) (.int R.room) (.ref (A.f .rows)) (.int R.made) (.int R.ended) (.ref (A.f .old)) (.ref (A.f .marks)) (.ref (A.f .line)) (.ref (A.f .unsw))
def dRows (A : HA) (R : Raw) : List (Key × V) := R.keys.map fun k => (kK k, V.ref (A.f (.row k)))
def dTrue (l : List Nat) : List (Key × V) := l.map fun k => (kK k, V.bl true)
def cont (C : Addr) (A : HA) (R : Raw) : Sl → HO
  | .ob => .ins C A.dx (flds A R)
  | .hands => .lst (R.hands.map optV)
  | .rows => .dK (dRows A R)
  | .old => .dK (dTrue R.old)
  | .marks => .dK (dTrue R.marks)
  | .line => .lst (R.line.map nV)
  | .unsw => .lst (R.unsw.map nV)
  | .row k => .lst ((R.row k).map optV)
def Sl.on (R : Raw) : Sl → Prop
  | .row k => k ∈ R.keys
  | _ => True
structure HAt (C : Addr) (H : Hp) (p : Addr) (A : HA) (R : Raw) : Prop where
  p0 : A.f .ob = p
  at_ : ∀ s, s.on R → H (A.f s) = some (cont C A R s)
  inj : ∀ s t, s.on R → t.on R → A.f s = A.f t → s = t
def foot (A : HA) (R : Raw) (b : Addr) : Prop := ∃ s, s.on R ∧ A.f s = b
/-- what is not its own stays, and does not become its own -/
def Frm (H : Hp) (F : Addr → Prop) (H' : Hp) (F' : Addr → Prop) : Prop := ∀ b o, H b = some o → ¬ F b → H' b = some o ∧ ¬ F' b
theorem Frm.refl (H : Hp) (F : Addr → Prop) : Frm H F H F := fun _ _ h n => ⟨h, n⟩
theorem Frm.trans {H H1 H2 : Hp} {F F1 F2 : Addr → Prop} (a : Frm H F H1 F1) (b : Frm H1 F1 H2 F2) : Frm H F H2 F2 := fun c o h n => let ⟨x, y⟩ := a c o h n; b c o x y
theorem Frm.same {H H1 H2 : Hp} {F F1 : Addr → Prop} (a : Frm H F H1 F1) (b : Same H1 H2) : Frm H F H2 F1 := fun c o h n => let ⟨x, y⟩ := a c o h n; ⟨b c o x, y⟩
theorem Frm.put {H H1 : Hp} {F F1 : Addr → Prop} (a : Frm H F H1 F1) {q : Addr} {o : HO} (hq : F1 q) : Frm H F (upd H1 q o) F1 := fun c o' h n => by
  obtain ⟨x, y⟩ := a c o' h n
  refine ⟨?_, y⟩
  rw [upd_ne fun (e : c = q) => y (e ▸ hq)]
  exact x
/-- F1 grows by a place that was free at first -/
theorem Frm.grow {H H1 : Hp} {F F1 F2 : Addr → Prop} (a : Frm H F H1 F1) {q : Addr} (hq : H q = none) (h : ∀ b, F2 b → F1 b ∨ b = q) : Frm H F H1 F2 := fun c o' e n => by
  obtain ⟨x, y⟩ := a c o' e n
  refine ⟨x, fun z => ?_⟩
  rcases h c z with z | z
  · exact y z
  · subst z; rw [hq] at e; cases e
theorem Frm.free {H H1 : Hp} {F F1 : Addr → Prop} (a : Frm H F H1 F1) {q : Addr} (hq : H1 q = none) (n : ¬ F q) : H q = none := by
  cases e : H q with
  | none => rfl
  | some o => rw [(a q o e n).1] at hq; cases hq
section
variable {C p : Addr} {H H' : Hp} {A : HA} {R : Raw}
theorem HAt.foot_at (h : HAt C H p A R) {b : Addr} (n : foot A R b) : ∃ o, H b = some o := by
  obtain ⟨s, hs, rfl⟩ := n
  exact ⟨_, h.at_ s hs⟩
theorem HAt.fresh (h : HAt C H p A R) {q : Addr} (hq : H q = none) : ¬ foot A R q := fun n => by
  obtain ⟨o, e⟩ := h.foot_at n
  rw [hq] at e; cases e
theorem HAt.keep (h : HAt C H p A R) (k : ∀ b o, H b = some o → foot A R b → H' b = some o) : HAt C H' p A R := ⟨h.p0, fun s hs => k _ _ (h.at_ s hs) ⟨s, hs, rfl⟩, h.inj⟩
theorem HAt.same (h : HAt C H p A R) (s : Same H H') : HAt C H' p A R := h.keep fun b o e _ => s b o e
theorem HAt.out (h : HAt C H p A R) {q : Addr} {o : HO} (n : ¬ foot A R q) : HAt C (upd H q o) p A R := h.keep fun b o' e f => by
  rw [upd_ne fun (z : b = q) => n (z ▸ f)]
  exact e
theorem HAt.ob (h : HAt C H p A R) : H p = some (.ins C A.dx (flds A R)) := by
  have := h.at_ .ob trivial
  rw [h.p0] at this
  exact this
theorem HAt.hands (h : HAt C H p A R) : H (A.f .hands) = some (.lst (R.hands.map optV)) := h.at_ .hands trivial
theorem HAt.rows (h : HAt C H p A R) : H (A.f .rows) = some (.dK (dRows A R)) := h.at_ .rows trivial
theorem HAt.old (h : HAt C H p A R) : H (A.f .old) = some (.dK (dTrue R.old)) := h.at_ .old trivial
theorem HAt.marks (h : HAt C H p A R) : H (A.f .marks) = some (.dK (dTrue R.marks)) := h.at_ .marks trivial
theorem HAt.line (h : HAt C H p A R) : H (A.f .line) = some (.lst (R.line.map nV)) := h.at_ .line trivial
theorem HAt.unsw (h : HAt C H p A R) : H (A.f .unsw) = some (.lst (R.unsw.map nV)) := h.at_ .unsw trivial
theorem HAt.row (h : HAt C H p A R) {k : Nat} (hk : k ∈ R.keys) : H (A.f (.row k)) = some (.lst ((R.row k).map optV)) := h.at_ (.row k) hk
theorem HAt.foot_on (h : HAt C H p A R) {s : Sl} (hs : s.on R) : foot A R (A.f s) := ⟨s, hs, rfl⟩
theorem HAt.foot_p (h : HAt C H p A R) : foot A R p := ⟨.ob, trivial, h.p0⟩
/-- one slot's content is stored anew -/
theorem HAt.put (h : HAt C H p A R) (s : Sl) (hs : s.on R) (R' : Raw) (o : HO) (ho : cont C A R' s = o) (hon : R'.keys = R.keys) (hc : ∀ t, t ≠ s → cont C A R' t = cont C A R t) : HAt C (upd H (A.f s) o) p A R' := by
  have on : ∀ t : Sl, t.on R' ↔ t.on R := fun t => by
    cases t with
    | row k => show k ∈ R'.keys ↔ k ∈ R.keys; rw [hon]
    | _ => exact Iff.rfl
  refine ⟨h.p0, fun t ht => ?_, fun t u a b e => h.inj t u ((on t).mp a) ((on u).mp b) e⟩
  by_cases e : t = s
  · subst e
    rw [upd_same, ho]
  · rw [upd_ne fun z => e (h.inj t s ((on t).mp ht) hs z), hc t e]
    exact h.at_ t ((on t).mp ht)
theorem foot_eq {A : HA} {R R' : Raw} (hon : R'.keys = R.keys) : foot A R' = foot A R := by
  funext b
  refine propext ⟨fun ⟨t, ht, e⟩ => ⟨t, ?_, e⟩, fun ⟨t, ht, e⟩ => ⟨t, ?_, e⟩⟩
  · cases t with
    | row k => show k ∈ R.keys; rw [← hon]; exact ht
    | _ => trivial
  · cases t with
    | row k => show k ∈ R'.keys; rw [hon]; exact ht
    | _ => trivial
theorem HAt.pHands (h : HAt C H p A R) (hs : List (Option Nat)) : HAt C (upd H (A.f .hands) (.lst (hs.map optV))) p A { R with hands := hs } :=
  h.put .hands trivial _ _ rfl rfl fun t e => by cases t <;> first | rfl | exact absurd rfl e
theorem HAt.pLine (h : HAt C H p A R) (l : List Nat) : HAt C (upd H (A.f .line) (.lst (l.map nV))) p A { R with line := l } :=
  h.put .line trivial _ _ rfl rfl fun t e => by cases t <;> first | rfl | exact absurd rfl e
theorem HAt.pUnsw (h : HAt C H p A R) (l : List Nat) : HAt C (upd H (A.f .unsw) (.lst (l.map nV))) p A { R with unsw := l } :=
  h.put .unsw trivial _ _ rfl rfl fun t e => by cases t <;> first | rfl | exact absurd rfl e
theorem HAt.pMarks (h : HAt C H p A R) (l : List Nat) : HAt C (upd H (A.f .marks) (.dK (dTrue l))) p A { R with marks := l } :=
  h.put .marks trivial _ _ rfl rfl fun t e => by cases t <;> first | rfl | exact absurd rfl e
theorem HAt.pRow (h : HAt C H p A R) {k : Nat} (hk : k ∈ R.keys) (r : MM.Row) : HAt C (upd H (A.f (.row k)) (.lst (r.map optV))) p A { R with row := fun j => if j = k then r else R.row j } := by
  refine h.put (.row k) hk _ _ ?_ rfl fun t e => ?_
  · show HO.lst ((if k = k then r else R.row k).map optV) = _
    rw [if_pos rfl]
  · cases t with
    | row j =>
      show HO.lst ((if j = k then r else R.row j).map optV) = HO.lst ((R.row j).map optV)
      rw [if_neg fun (z : j = k) => e (congrArg Sl.row z)]
    | _ => rfl
theorem HAt.fMade (h : HAt C H p A R) (m : Nat) : HAt C (upd H p (.ins C A.dx (putF "_made" (.int (m : Int)) (flds A R)))) p A { R with made := m } := by
  have := h.put .ob trivial { R with made := m } (.ins C A.dx (putF "_made" (.int (m : Int)) (flds A R))) (by show HO.ins C A.dx (flds A _) = _; unfold flds; rw [fl_pmade]) rfl fun t e => by cases t <;> first | rfl | exact absurd rfl e
  rw [h.p0] at this
  exact this
theorem HAt.fEnded (h : HAt C H p A R) (m : Nat) : HAt C (upd H p (.ins C A.dx (putF "_ended" (.int (m : Int)) (flds A R)))) p A { R with ended := m } := by
  have := h.put .ob trivial { R with ended := m } (.ins C A.dx (putF "_ended" (.int (m : Int)) (flds A R))) (by show HO.ins C A.dx (flds A _) = _; unfold flds; rw [fl_pended]) rfl fun t e => by cases t <;> first | rfl | exact absurd rfl e
  rw [h.p0] at this
  exact this
theorem mv_same (A : HA) (s : Sl) (q : Addr) : (A.mv s q).f s = q := if_pos rfl
theorem mv_ne (A : HA) {s t : Sl} (q : Addr) (n : t ≠ s) : (A.mv s q).f t = A.f t := if_neg n
/-- a field gets another object -/
theorem HAt.swap (h : HAt C H p A R) (s : Sl) (hs : s.on R) (ns : s ≠ .ob) (nr : ∀ k, s ≠ .row k) {q : Addr} {o : HO} (hq : H q = some o) (nq : ¬ foot A R q) (R' : Raw) (hon : R'.keys = R.keys) (ho : cont C (A.mv s q) R' s = o) (hc : ∀ t, t ≠ s → t ≠ .ob → cont C (A.mv s q) R' t = cont C A R t)
    (fs : List (Str × V)) (hfs : fs = flds (A.mv s q) R') : HAt C (upd H p (.ins C A.dx fs)) p (A.mv s q) R' := by
  subst hfs
  have on : ∀ t : Sl, t.on R' ↔ t.on R := fun t => by
    cases t with
    | row k => show k ∈ R'.keys ↔ k ∈ R.keys; rw [hon]
    | _ => exact Iff.rfl
  refine ⟨by rw [mv_ne A q fun (e : Sl.ob = s) => ns e.symm, h.p0], fun t ht => ?_, fun t u a b e => ?_⟩
  · have ht := (on t).mp ht
    by_cases e : t = s
    · subst e
      rw [mv_same, upd_ne fun (z : q = p) => nq (z ▸ h.foot_p), ho]
      exact hq
    · by_cases e2 : t = .ob
      · subst e2
        rw [mv_ne A q e, h.p0, upd_same]
        rfl
      · rw [mv_ne A q e, upd_ne fun z => e2 (h.inj t .ob ht trivial (z.trans h.p0.symm)), hc t e e2]
        exact h.at_ t ht
  · have a := (on t).mp a
    have b := (on u).mp b
    by_cases e1 : t = s
    · by_cases e2 : u = s
      · rw [e1, e2]
      · subst e1
        rw [mv_same, mv_ne A q e2] at e
        exact absurd ⟨u, b, e.symm⟩ nq
    · by_cases e2 : u = s
      · subst e2
        rw [mv_same, mv_ne A q e1] at e
        exact absurd ⟨t, a, e⟩ nq
      · rw [mv_ne A q e1, mv_ne A q e2] at e
        exact h.inj t u a b e
theorem foot_mv {A : HA} {R R' : Raw} {s : Sl} {q b : Addr} (hon : ∀ k, k ∈ R'.keys → k ∈ R.keys ∨ s = .row k) (h : foot (A.mv s q) R' b) : foot A R b ∨ b = q := by
  obtain ⟨t, ht, e⟩ := h
  by_cases z : t = s
  · subst z
    rw [mv_same] at e
    exact .inr e.symm
  · rw [mv_ne A q z] at e
    refine .inl ⟨t, ?_, e⟩
    cases t with
    | row k => exact (hon k ht).resolve_right fun y => z y.symm
    | _ => trivial
theorem HAt.fOld (h : HAt C H p A R) {q : Addr} {l : List Nat} (hq : H q = some (.dK (dTrue l))) (nq : ¬ foot A R q) : HAt C (upd H p (.ins C A.dx (putF "_old" (.ref q) (flds A R)))) p (A.mv .old q) { R with old := l } := by
  refine h.swap .old trivial (fun e => nomatch e) (fun k e => nomatch e) hq nq { R with old := l } rfl rfl (fun t e1 e2 => ?_) _ ?_
  · cases t <;> first | rfl | exact absurd rfl e1 | exact absurd rfl e2
  · unfold flds; rw [fl_pold]; rfl
theorem HAt.fMarks (h : HAt C H p A R) {q : Addr} {l : List Nat} (hq : H q = some (.dK (dTrue l))) (nq : ¬ foot A R q) : HAt C (upd H p (.ins C A.dx (putF "_marks" (.ref q) (flds A R)))) p (A.mv .marks q) { R with marks := l } := by
  refine h.swap .marks trivial (fun e => nomatch e) (fun k e => nomatch e) hq nq { R with marks := l } rfl rfl (fun t e1 e2 => ?_) _ ?_
  · cases t <;> first | rfl | exact absurd rfl e1 | exact absurd rfl e2
  · unfold flds; rw [fl_pmarks]; rfl
theorem HAt.fUnsw (h : HAt C H p A R) {q : Addr} {l : List Nat} (hq : H q = some (.lst (l.map nV))) (nq : ¬ foot A R q) : HAt C (upd H p (.ins C A.dx (putF "_unswept" (.ref q) (flds A R)))) p (A.mv .unsw q) { R with unsw := l } := by
  refine h.swap .unsw trivial (fun e => nomatch e) (fun k e => nomatch e) hq nq { R with unsw := l } rfl rfl (fun t e1 e2 => ?_) _ ?_
  · cases t <;> first | rfl | exact absurd rfl e1 | exact absurd rfl e2
  · unfold flds; rw [fl_punsw]; rfl
/-- a row more -/
theorem HAt.addRow (h : HAt C H p A R) {q : Addr} {k : Nat} {r : MM.Row} (hq : H q = some (.lst (r.map optV))) (nq : ¬ foot A R q) (nk : k ∉ R.keys) : HAt C (upd H (A.f .rows) (.dK (dRows A R ++ [(kK k, V.ref q)]))) p (A.mv (.row k) q) { R with keys := R.keys ++ [k], row := fun j => if j = k then r else R.row j } := by
  have on : ∀ t : Sl, t ≠ .row k → t.on { R with keys := R.keys ++ [k], row := fun j => if j = k then r else R.row j } → t.on R := fun t n ht => by
    cases t with
    | row j =>
      rcases List.mem_append.mp ht with ht | ht
      · exact ht
      · rw [List.mem_singleton] at ht; exact absurd (congrArg Sl.row ht) n
    | _ => trivial
  refine ⟨(mv_ne A q fun (e : Sl.ob = .row k) => nomatch e).trans h.p0, fun t ht => ?_, fun t u a b e => ?_⟩
  · by_cases e : t = .row k
    · subst e
      rw [mv_same, upd_ne fun (z : q = A.f .rows) => nq ⟨.rows, trivial, z.symm⟩]
      show H q = some (.lst ((if k = k then r else R.row k).map optV))
      rw [if_pos rfl]
      exact hq
    · have ht' := on t e ht
      rw [mv_ne A q e]
      by_cases e2 : t = .rows
      · subst e2
        rw [upd_same]
        show some (HO.dK (dRows A R ++ [(kK k, V.ref q)])) = some (HO.dK ((R.keys ++ [k]).map fun j => (kK j, V.ref ((A.mv (.row k) q).f (.row j)))))
        rw [List.map_append]
        congr 2
        unfold dRows
        congr 1
        · refine List.map_congr_left fun j hj => ?_
          rw [mv_ne A q fun (z : Sl.row j = .row k) => nk (by cases z; exact hj)]
        · show [(kK k, V.ref q)] = [(kK k, V.ref ((A.mv (.row k) q).f (.row k)))]
          rw [mv_same]
      · rw [upd_ne fun z => e2 (h.inj t .rows ht' trivial z), h.at_ t ht']
        cases t with
        | rows => exact absurd rfl e2
        | row j =>
          show some (HO.lst ((R.row j).map optV)) = some (HO.lst ((if j = k then r else R.row j).map optV))
          rw [if_neg fun (z : j = k) => e (congrArg Sl.row z)]
        | _ => rfl
  · by_cases e1 : t = .row k
    · by_cases e2 : u = .row k
      · rw [e1, e2]
      · subst e1
        rw [mv_same, mv_ne A q e2] at e
        exact absurd ⟨u, on u e2 b, e.symm⟩ nq
    · by_cases e2 : u = .row k
      · subst e2
        rw [mv_same, mv_ne A q e1] at e
        exact absurd ⟨t, on t e1 a, e⟩ nq
      · rw [mv_ne A q e1, mv_ne A q e2] at e
        exact h.inj t u (on t e1 a) (on u e2 b) e
/-! ### the dicts -/
theorem kK_inj {j k : Nat} (h : kK j = kK k) : j = k := by
  have : ((j : Nat) : Int) = k := Sum.inl.inj h
  omega
theorem valV_map_in {f : Nat → V} : ∀ (l : List Nat) (k : Nat), valV (l.map fun j => (kK j, f j)) (kK k) = if k ∈ l then some (f k) else none
  | [], k => by simp [valV]
  | a :: l, k => by
    rw [List.map_cons]
    by_cases e : a = k
    · subst e
      rw [valV_pos rfl, if_pos List.mem_cons_self]
    · rw [valV_neg fun z => e (kK_inj z), valV_map_in l k]
      by_cases m : k ∈ l
      · rw [if_pos m, if_pos (List.mem_cons_of_mem _ m)]
      · rw [if_neg m, if_neg fun z => (List.mem_cons.mp z).elim (fun y => e y.symm) m]
theorem valV_map_no {f : Nat → V} {z : Int} : ∀ (l : List Nat), (∀ k ∈ l, ((k : Nat) : Int) ≠ z) → valV (l.map fun j => (kK j, f j)) (Sum.inl z : Key) = none
  | [], _ => by simp [valV]
  | a :: l, h => by
    rw [List.map_cons, valV_neg fun e => h a List.mem_cons_self (Sum.inl.inj e)]
    exact valV_map_no l fun k hk => h k (List.mem_cons_of_mem _ hk)
theorem valV_rows (k : Nat) : valV (dRows A R) (kK k) = if k ∈ R.keys then some (.ref (A.f (.row k))) else none := valV_map_in _ _
theorem valV_true (l : List Nat) (k : Nat) : valV (dTrue l) (kK k) = if k ∈ l then some (.bl true) else none := valV_map_in (f := fun _ => V.bl true) _ _
theorem putK_true {l : List Nat} {k : Nat} (h : k ∉ l) : putK (dTrue l) (kK k) (.bl true) = dTrue (l ++ [k]) := by
  rw [putK_new _ (by rw [valV_true, if_neg h])]
  unfold dTrue
  rw [List.map_append]; rfl
theorem dropK_rows (k : Nat) : dropK (dRows A R) (kK k) = dRows A { R with keys := R.keys.filter fun j => decide (j ≠ k) } := by
  unfold dropK dRows
  rw [List.filter_map]
  congr 1
  refine List.filter_congr fun j _ => ?_
  show decide (kK j ≠ kK k) = decide (j ≠ k)
  by_cases e : j = k
  · subst e; simp
  · have n : kK j ≠ kK k := fun z => e (kK_inj z)
    rw [decide_eq_true n, decide_eq_true e]
theorem HAt.delRow (h : HAt C H p A R) (k : Nat) : HAt C (upd H (A.f .rows) (.dK (dropK (dRows A R) (kK k)))) p A { R with keys := R.keys.filter fun j => decide (j ≠ k) } := by
  have on : ∀ t : Sl, t.on { R with keys := R.keys.filter fun j => decide (j ≠ k) } → t.on R := fun t ht => by
    cases t with
    | row j => exact (List.mem_filter.mp ht).1
    | _ => trivial
  refine ⟨h.p0, fun t ht => ?_, fun t u a b e => h.inj t u (on t a) (on u b) e⟩
  by_cases e2 : t = .rows
  · subst e2
    rw [upd_same, dropK_rows]
    rfl
  · rw [upd_ne fun z => e2 (h.inj t .rows (on t ht) trivial z), h.at_ t (on t ht)]
    cases t <;> first | rfl | exact absurd rfl e2
end
/-! ### what the callers see -/
def HeapAt (C : Addr) (H : Hp) (p : Addr) (F : Addr → Prop) (S : HS) : Prop := ∃ A, HAt C H p A (raw S) ∧ F = foot A (raw S) ∧ Good S
theorem HeapAt.out {C p : Addr} {H : Hp} {F : Addr → Prop} {S : HS} (h : HeapAt C H p F S) {q : Addr} {o : HO} (n : ¬ F q) : HeapAt C (upd H q o) p F S := by
  obtain ⟨A, h, rfl, g⟩ := h
  exact ⟨A, h.out n, rfl, g⟩
theorem HeapAt.same {C p : Addr} {H H' : Hp} {F : Addr → Prop} {S : HS} (h : HeapAt C H p F S) (s : Same H H') : HeapAt C H' p F S := by
  obtain ⟨A, h, rfl, g⟩ := h
  exact ⟨A, h.same s, rfl, g⟩
theorem HeapAt.fresh {C p : Addr} {H : Hp} {F : Addr → Prop} {S : HS} (h : HeapAt C H p F S) {q : Addr} (hq : H q = none) : ¬ F q := by
  obtain ⟨A, h, rfl, g⟩ := h
  exact h.fresh hq
theorem HeapAt.good {C p : Addr} {H : Hp} {F : Addr → Prop} {S : HS} (h : HeapAt C H p F S) : Good S := h.choose_spec.2.2
theorem HeapAt.isp {C p : Addr} {H : Hp} {F : Addr → Prop} {S : HS} (h : HeapAt C H p F S) : F p := by
  obtain ⟨A, h, rfl, g⟩ := h
  exact h.foot_p
theorem HeapAt.ob {C p : Addr} {H : Hp} {F : Addr → Prop} {S : HS} (h : HeapAt C H p F S) : ∃ dx fs, H p = some (.ins C dx fs) ∧ (∀ m : Str, m ∉ (["_hands", "_room", "_rows", "_made", "_ended", "_old", "_marks", "_line", "_unswept"] : List Str) → fs.lookup m = none) := by
  obtain ⟨A, h, rfl, g⟩ := h
  refine ⟨_, _, h.ob, fun m hm => ?_⟩
  simp only [List.mem_cons, List.not_mem_nil, or_false, not_or] at hm
  obtain ⟨h1, h2, h3, h4, h5, h6, h7, h8, h9⟩ := hm
  simp [flds, fl, List.lookup, beq_eq_false_iff_ne.mpr h1, beq_eq_false_iff_ne.mpr h2, beq_eq_false_iff_ne.mpr h3, beq_eq_false_iff_ne.mpr h4, beq_eq_false_iff_ne.mpr h5, beq_eq_false_iff_ne.mpr h6, beq_eq_false_iff_ne.mpr h7, beq_eq_false_iff_ne.mpr h8, beq_eq_false_iff_ne.mpr h9]
end MP

set_option Elab.async false
set_option linter.all false
set_option maxRecDepth 100000
set_option maxHeartbeats 4000000
namespace MP
open PySem PySem.Spec PyProof.Rows L2 MM KG
theorem iteNT {c A B : Prop} [Decidable c] (hc : ¬ c) (h : A) : if (!decide c) = true then A else B := by
  rw [decide_eq_false hc]
  exact iteT h
theorem size_of {n : Nat} (h : n ≤ 100000) : n < sizeLine := Nat.lt_of_le_of_lt h (by decide)
theorem atI_opt {l : List (Option Nat)} {h : Nat} (hh : h < l.length) : atI (l.map optV) (h : Int) = some (optV (l.getD h none)) := by
  refine atI_nat ?_
  rw [List.getElem?_map, List.getD_eq_getElem?_getD, List.getElem?_eq_getElem hh]
  rfl
theorem dget_row {C p : Addr} {H : Hp} {A : HA} {R : Raw} (hA : HAt C H p A R) {k : Nat} (hk : k ∈ R.keys) : DGet H (A.f .rows) (optV (some k)) (some (.ref (A.f (.row k)))) := by
  have := DGet.k (k := kK k) hA.rows
  rw [valV_rows, if_pos hk] at this
  exact this
/-- an exception class of the program -/
structure ExC (K : PySem.W.Frag) (mg : Str → Option Value) (x : Str) (c : Addr) : Prop where
  gP : mg x = some (.ref c)
  xP : PySem.W.excIn K c [.type "ValueError", .type "Exception", .type "BaseException", .type "object"] "ValueError.__new__" = true
  kP : PySem.W.keepIn K (.ref c) = true
  bP : PySem.W.subIn K (.ref c) (.type "BaseException") = some true
  tP : PySem.W.typeIn K (.ref c) = some (.type "type")
  iP : PySem.W.isClsIn K c = true
theorem exm_mk {K : PySem.W.Frag} {mg : Str → Option Value} {x : Str} {c : Addr} {cls : Value} {b : Bool} (T : ExC K mg x c) (h : PySem.W.subIn K cls (.ref c) = some b) : PySem.W.exmOne K cls (.ref c) = some b := by
  unfold PySem.W.exmOne
  rw [T.bP, if_pos (by decide)]
  have hi : (PySem.W.clsIn K c).isSome = true := T.iP
  show (if ((PySem.W.clsIn K c).isSome && PySem.W.typeIn K (.ref c) == some (.type "type")) = true then PySem.W.subIn K cls (.ref c) else none) = some b
  rw [T.tP, hi, if_pos (by decide)]
  exact h
structure HeapTxt (K : PySem.W.Frag) (mg : Str → Option Value) (C : Addr) : Prop where
  cl : Cls K C
  n_hands : NoAttr K C "_hands"
  n_room : NoAttr K C "_room"
  n_rows : NoAttr K C "_rows"
  n_made : NoAttr K C "_made"
  n_ended : NoAttr K C "_ended"
  n_old : NoAttr K C "_old"
  n_marks : NoAttr K C "_marks"
  n_line : NoAttr K C "_line"
  n_unsw : NoAttr K C "_unswept"
  mgC : mg "Heap" = some (.ref C)
/-- a method as it stands -/
structure Dm (P : Program) (w : World) (K : PySem.W.Frag) (mg : Str → Option Value) (base : Heap) (CX : CXT) (lv : Nat) (C : Addr) (name : Str) (f : Addr) (fd : FuncData) (ps : List Str) (sp : Sp) : Prop where
  c : Cls K C
  m : Meth K C name f
  g : FnOk P w K mg base CX lv f fd ps sp
  b : Binds K fd ps []
/-- a class that is made -/
structure Dc (P : Program) (w : World) (K : PySem.W.Frag) (mg : Str → Option Value) (base : Heap) (CX : CXT) (lv : Nat) (C : Addr) (name : Str) (f : Addr) (fd : FuncData) (ps : List Str) (sp : Sp) : Prop where
  mkk : Mk K C f
  g : FnOk P w K mg base CX lv f fd ps sp
  m : mg name = some (.ref C)
  b : Binds K fd ps []
/-- the addresses of the classes -/
structure ECs where
  noHand : Addr
  noSlot : Addr
  noRoom : Addr
  nothing : Addr
  noBox : Addr
  noWork : Addr
  noHeap : Addr
  noDeed : Addr
def okHand (S : HS) (h : Int) : Prop := 0 ≤ h ∧ h < S.hands.length
instance (S : HS) (h : Int) : Decidable (okHand S h) := by unfold okHand; exact inferInstance
/-! ### the promises of the methods -/
section
variable (C : Addr) (EC : ECs)
def spInit : Sp := fun vs H Q E => ∃ (p dx : Addr) (n r : Int), vs = [.ref p, .int n, .int r] ∧ H p = some (.ins C dx []) ∧
  if (1 ≤ n ∧ n ≤ 8) ∧ 1 ≤ r ∧ r ≤ 1000 then ∀ H' F', HeapAt C H' p F' (HS.new n.toNat r.toNat) → (∀ b o, H b = some o → b ≠ p → H' b = some o ∧ ¬ F' b) → Q .non H' else E (.ref EC.noHeap) none H
def spNeed : Sp := fun vs H Q E => ∃ (p : Addr) (A : HA) (R : Raw) (h : Int), vs = [.ref p, .int h] ∧ HAt C H p A R ∧ R.hands.length ≤ 8 ∧
  if 0 ≤ h ∧ h < R.hands.length then Q .non H else E (.ref EC.noHand) none H
def spRow : Sp := fun vs H Q E => ∃ (p : Addr) (A : HA) (R : Raw) (h : Nat) (s : Int), vs = [.ref p, .int h, .int s] ∧ HAt C H p A R ∧ R.hands.length ≤ 8 ∧ h < R.hands.length ∧
  match R.hands.getD h none with
  | none => E (.ref EC.nothing) none H
  | some k => k ∈ R.keys ∧ (R.row k).length ≤ 4 ∧ if 0 ≤ s ∧ s < (R.row k).length then Q (.ref (A.f (.row k))) H else E (.ref EC.noSlot) none H
def spMake : Sp := fun vs H Q E => ∃ (p : Addr) (F : Addr → Prop) (S : HS) (h n : Int), vs = [.ref p, .int h, .int n] ∧ HeapAt C H p F S ∧
  if okHand S h then (if 0 ≤ n ∧ n ≤ 4 then (if S.keys.length < S.room then ∀ H' F', HeapAt C H' p F' (S.make h.toNat n.toNat) → Frm H F H' F' → Q (.int S.rows.length) H' else E (.ref EC.noRoom) none H) else E (.ref EC.noSlot) none H) else E (.ref EC.noHand) none H
def spTake : Sp := fun vs H Q E => ∃ (p : Addr) (F : Addr → Prop) (S : HS) (h o s : Int), vs = [.ref p, .int h, .int o, .int s] ∧ HeapAt C H p F S ∧
  if okHand S h ∧ okHand S o then (match S.hand o.toNat with
    | none => E (.ref EC.nothing) none H
    | some k => if 0 ≤ s ∧ s < (S.row k).length then ∀ H' F', HeapAt C H' p F' (S.take h.toNat k s.toNat) → Frm H F H' F' → Q .non H' else E (.ref EC.noSlot) none H) else E (.ref EC.noHand) none H
def spPut : Sp := fun vs H Q E => ∃ (p : Addr) (F : Addr → Prop) (S : HS) (h s o : Int), vs = [.ref p, .int h, .int s, .int o] ∧ HeapAt C H p F S ∧
  if okHand S h ∧ okHand S o then (match S.hand h.toNat with
    | none => E (.ref EC.nothing) none H
    | some k => if 0 ≤ s ∧ s < (S.row k).length then ∀ H' F', HeapAt C H' p F' (S.put k s.toNat o.toNat) → Frm H F H' F' → Q .non H' else E (.ref EC.noSlot) none H) else E (.ref EC.noHand) none H
def spShare : Sp := fun vs H Q E => ∃ (p : Addr) (F : Addr → Prop) (S : HS) (h o : Int), vs = [.ref p, .int h, .int o] ∧ HeapAt C H p F S ∧
  if okHand S h ∧ okHand S o then ∀ H' F', HeapAt C H' p F' (S.share h.toNat o.toNat) → Frm H F H' F' → Q .non H' else E (.ref EC.noHand) none H
def spDrop : Sp := fun vs H Q E => ∃ (p : Addr) (F : Addr → Prop) (S : HS) (h : Int), vs = [.ref p, .int h] ∧ HeapAt C H p F S ∧
  if okHand S h then ∀ H' F', HeapAt C H' p F' (S.drop h.toNat) → Frm H F H' F' → Q .non H' else E (.ref EC.noHand) none H
def spHeld : Sp := fun vs H Q E => ∃ (p : Addr) (F : Addr → Prop) (S : HS) (h : Int), vs = [.ref p, .int h] ∧ HeapAt C H p F S ∧
  if okHand S h then Q (optV (S.hand h.toNat)) H else E (.ref EC.noHand) none H
def spLook : Sp := fun vs H Q E => ∃ (p : Addr) (F : Addr → Prop) (S : HS) (b : Int), vs = [.ref p, .int b] ∧ HeapAt C H p F S ∧
  if 0 ≤ b ∧ b.toNat ∈ S.keys then ∀ l, H l = none → Q (.ref l) (upd H l (.lst ((S.row b.toNat).map optV))) else E (.ref EC.noBox) none H
def spList (f : HS → List Nat) : Sp := fun vs H Q _ => ∃ (p : Addr) (F : Addr → Prop) (S : HS), vs = [.ref p] ∧ HeapAt C H p F S ∧ ∀ l, H l = none → Q (.ref l) (upd H l (.lst ((f S).map nV)))
def spPhase : Sp := fun vs H Q _ => ∃ (p : Addr) (A : HA) (R : Raw), vs = [.ref p] ∧ HAt C H p A R ∧ R.line.length ≤ 4000 ∧ R.unsw.length ≤ 4000 ∧ Q (.str (Str.ofString (if R.line = [] then (if R.unsw = [] then "idle" else "sweeping") else "marking"))) H
def spRounds : Sp := fun vs H Q _ => ∃ (p : Addr) (A : HA) (R : Raw), vs = [.ref p] ∧ HAt C H p A R ∧ Q (.int R.ended) H
/-- marking one -/
def Raw.mark (R : Raw) (k : Nat) : Raw := if k ∈ R.old ∧ k ∉ R.marks then { R with marks := R.marks ++ [k], line := R.line ++ [k] } else R
def Raw.markO (R : Raw) : Option Nat → Raw
  | none => R
  | some k => R.mark k
def spMark : Sp := fun vs H Q _ => ∃ (p : Addr) (A : HA) (R : Raw) (o : Option Nat), vs = [.ref p, optV o] ∧ HAt C H p A R ∧ R.marks.length ≤ 3000 ∧ R.line.length ≤ 3000 ∧ ∀ H', HAt C H' p A (R.markO o) → Frm H (foot A R) H' (foot A (R.markO o)) → Q .non H'
def Raw.marks2 (R : Raw) (l : List (Option Nat)) : Raw := { R with marks := R.marks ++ ext R.old R.marks l, line := R.line ++ ext R.old R.marks l }
def Raw.began (R : Raw) : Raw := { R with unsw := R.keys, old := R.keys, marks := ext R.keys [] R.hands, line := ext R.keys [] R.hands }
def spBegin : Sp := fun vs H Q _ => ∃ (p : Addr) (A : HA) (R : Raw), vs = [.ref p] ∧ HAt C H p A R ∧ R.marks = [] ∧ R.line = [] ∧ R.hands.length ≤ 8 ∧ R.keys.length ≤ 1000 ∧ R.keys.Pairwise (· < ·) ∧ ∀ H' A', HAt C H' p A' R.began → Frm H (foot A R) H' (foot A' R.began) → Q .non H'
def Raw.markOn (R : Raw) (b : Nat) (r : List Nat) : Raw := Raw.marks2 { R with line := r } (R.row b)
def spMarkOn : Sp := fun vs H Q _ => ∃ (p : Addr) (A : HA) (R : Raw) (b : Nat) (r : List Nat), vs = [.ref p] ∧ HAt C H p A R ∧ R.line = b :: r ∧ b ∈ R.keys ∧ R.marks.length ≤ 1000 ∧ r.length ≤ 1000 ∧ (R.row b).length ≤ 4 ∧ ∀ H', HAt C H' p A (R.markOn b r) → Frm H (foot A R) H' (foot A (R.markOn b r)) → Q .non H'
def Raw.sweepOn (R : Raw) (b : Nat) (r : List Nat) : Raw := if b ∈ R.marks then { R with unsw := r } else { R with unsw := r, keys := R.keys.filter fun k => decide (k ≠ b) }
def spSweepOn : Sp := fun vs H Q _ => ∃ (p : Addr) (A : HA) (R : Raw) (b : Nat) (r : List Nat), vs = [.ref p] ∧ HAt C H p A R ∧ R.unsw = b :: r ∧ b ∈ R.keys ∧ r.length ≤ 1000 ∧ ∀ H', HAt C H' p A (R.sweepOn b r) → Frm H (foot A R) H' (foot A (R.sweepOn b r)) → Q (if b ∈ R.marks then .non else .int b) H'
def Raw.endRound (R : Raw) : Raw := { R with old := [], marks := [], ended := R.ended + 1 }
def spEnd : Sp := fun vs H Q _ => ∃ (p : Addr) (A : HA) (R : Raw), vs = [.ref p] ∧ HAt C H p A R ∧ ∀ H' A', HAt C H' p A' R.endRound → Frm H (foot A R) H' (foot A' R.endRound) → Q .non H'
def spPiece : Sp := fun vs H Q _ => ∃ (p : Addr) (F : Addr → Prop) (S : HS), vs = [.ref p] ∧ HeapAt C H p F S ∧ ∀ H' F', HeapAt C H' p F' S.piece.1 → Frm H F H' F' → Q (optV S.piece.2) H'
def spWork : Sp := fun vs H Q E => ∃ (p : Addr) (F : Addr → Prop) (S : HS) (n : Int), vs = [.ref p, .int n] ∧ HeapAt C H p F S ∧
  if 0 ≤ n ∧ n ≤ 2500 then ∀ H' F' l, HeapAt C H' p F' (HS.work n.toNat S).1 → Frm H F H' F' → H l = none → ¬ F' l → H' l = some (.lst ((HS.work n.toNat S).2.map nV)) → Q (.ref l) H' else E (.ref EC.noWork) none H
end
theorem raw_mark (S : HS) (k : Nat) : raw (S.mark k) = (raw S).mark k := by
  unfold HS.mark Raw.mark raw
  by_cases h : k ∈ S.old ∧ k ∉ S.marks
  · rw [if_pos h, if_pos h]
  · rw [if_neg h, if_neg h]
theorem raw_markO (S : HS) (o : Option Nat) : raw (S.markO o) = (raw S).markO o := by
  cases o with
  | none => rfl
  | some k => exact raw_mark S k
theorem raw_began (S : HS) : raw S.began = (raw S).began := by rw [began_eq]; rfl
theorem raw_markOn {S : HS} {b : Nat} {r : List Nat} (h : S.line = b :: r) : raw S.markOn = (raw S).markOn b r := by
  unfold HS.markOn
  rw [h]
  show raw (HS.markAll _ _) = _
  rw [markAll_eq]
  rfl
theorem raw_sweepOn {S : HS} {b : Nat} {r : List Nat} (h : S.unsw = b :: r) : raw S.sweepOn.1 = (raw S).sweepOn b r := by
  unfold HS.sweepOn Raw.sweepOn raw
  rw [h]
  dsimp only
  split <;> rfl
theorem sweepOn_freed {S : HS} {b : Nat} {r : List Nat} (h : S.unsw = b :: r) : optV S.sweepOn.2 = if b ∈ S.marks then .non else .int b := by
  unfold HS.sweepOn
  rw [h]
  dsimp only
  split <;> rfl
theorem raw_endRound (S : HS) : raw S.endRound = (raw S).endRound := rfl
/-! ### an object that is being made -/
structure Bld (C dx p : Addr) (H0 Hi : Hp) (fs : List (Str × V)) (L : List (Addr × HO)) : Prop where
  ob : Hi p = some (.ins C dx fs)
  at_ : ∀ x ∈ L, Hi x.1 = some x.2
  new : ∀ x ∈ L, H0 x.1 = none
  nd : (L.map (·.1)).Nodup
  kp : ∀ b o, H0 b = some o → b ≠ p → Hi b = some o
  pp : H0 p ≠ none
section
variable {C dx p q : Addr} {H0 Hi : Hp} {fs : List (Str × V)} {L : List (Addr × HO)}
theorem Bld.start (h : H0 p = some (.ins C dx [])) : Bld C dx p H0 H0 [] [] := ⟨h, fun _ z => absurd z (by simp), fun _ z => absurd z (by simp), List.nodup_nil, fun _ _ e _ => e, by rw [h]; simp⟩
theorem Bld.free (h : Bld C dx p H0 Hi fs L) (n : Hi q = none) : H0 q = none := by
  cases e : H0 q with
  | none => rfl
  | some o =>
    by_cases c : q = p
    · subst c; rw [h.ob] at n; cases n
    · rw [h.kp q o e c] at n; cases n
theorem Bld.tmp {o : HO} (h : Bld C dx p H0 Hi fs L) (n : Hi q = none) : Bld C dx p H0 (upd Hi q o) fs L :=
  ⟨by rw [upd_ne (ne_of_none h.ob n)]; exact h.ob, fun x hx => by rw [upd_ne (ne_of_none (h.at_ x hx) n)]; exact h.at_ x hx, h.new, h.nd, fun b u e c => by rw [upd_ne (ne_of_none (h.kp b u e c) n)]; exact h.kp b u e c, h.pp⟩
theorem Bld.alloc {o : HO} (h : Bld C dx p H0 Hi fs L) (n : Hi q = none) : Bld C dx p H0 (upd Hi q o) fs ((q, o) :: L) := by
  have t := h.tmp (o := o) n
  refine ⟨t.ob, fun x hx => ?_, fun x hx => ?_, ?_, t.kp, h.pp⟩
  · rcases List.mem_cons.mp hx with e | hx
    · subst e; exact upd_same
    · exact t.at_ x hx
  · rcases List.mem_cons.mp hx with e | hx
    · subst e; exact h.free n
    · exact h.new x hx
  · refine List.nodup_cons.mpr ⟨fun z => ?_, h.nd⟩
    obtain ⟨x, hx, e⟩ := List.mem_map.mp z
    have := h.at_ x hx
    have e : x.1 = q := e
    rw [e, n] at this
    cases this
theorem Bld.fld (h : Bld C dx p H0 Hi fs L) (fs' : List (Str × V)) : Bld C dx p H0 (upd Hi p (.ins C dx fs')) fs' L :=
  ⟨upd_same, fun x hx => by rw [upd_ne fun (e : x.1 = p) => h.pp (e ▸ h.new x hx)]; exact h.at_ x hx, h.new, h.nd, fun b u e c => by rw [upd_ne c]; exact h.kp b u e c, h.pp⟩
end
theorem Bld.heap {C dx p qh qr qo qm ql qu : Addr} {H0 Hi : Hp} {n r : Int} (hn : 1 ≤ n ∧ n ≤ 8) (hr : 1 ≤ r ∧ r ≤ 1000)
    (h : Bld C dx p H0 Hi (fl (.ref qh) (.int r) (.ref qr) (.int 0) (.int 0) (.ref qo) (.ref qm) (.ref ql) (.ref qu)) [(qu, .lst []), (ql, .lst []), (qm, .dK []), (qo, .dK []), (qr, .dK []), (qh, .lst ((List.replicate n.toNat none).map optV))]) :
    ∃ F', HeapAt C Hi p F' (HS.new n.toNat r.toNat) ∧ ∀ b o, H0 b = some o → b ≠ p → Hi b = some o ∧ ¬ F' b := by
  let A : HA := ⟨dx, fun s => match s with
    | .ob => p
    | .hands => qh
    | .rows => qr
    | .old => qo
    | .marks => qm
    | .line => ql
    | .unsw => qu
    | .row _ => p⟩
  have nd := h.nd
  have nw := h.new
  have np : ∀ x : Addr × HO, H0 x.1 = none → x.1 ≠ p := fun x hx e => h.pp (e ▸ hx)
  have at_ := h.at_
  simp only [List.map_cons, List.map_nil, List.nodup_cons, List.mem_cons, List.not_mem_nil, or_false, not_or, List.nodup_nil, and_true, not_false_eq_true] at nd
  simp only [List.mem_cons, List.not_mem_nil, or_false, forall_eq_or_imp, forall_eq] at nw at_
  obtain ⟨u1, l1, m1, o1, r1, h1⟩ := nw
  obtain ⟨⟨a1, a2, a3, a4, a5⟩, ⟨b1, b2, b3, b4⟩, ⟨c1, c2, c3⟩, ⟨d1, d2⟩, e1⟩ := nd
  obtain ⟨g1, g2, g3, g4, g5, g6⟩ := at_
  have p1 : qu ≠ p := fun e => h.pp (e ▸ u1)
  have p2 : ql ≠ p := fun e => h.pp (e ▸ l1)
  have p3 : qm ≠ p := fun e => h.pp (e ▸ m1)
  have p4 : qo ≠ p := fun e => h.pp (e ▸ o1)
  have p5 : qr ≠ p := fun e => h.pp (e ▸ r1)
  have p6 : qh ≠ p := fun e => h.pp (e ▸ h1)
  have er : ((r.toNat : Nat) : Int) = r := by omega
  have hA : HAt C Hi p A (raw (HS.new n.toNat r.toNat)) := by
    refine ⟨rfl, fun s hs => ?_, fun s t hs ht e => ?_⟩
    · cases s with
      | ob =>
        show Hi p = some (.ins C dx (fl (.ref qh) (.int ((r.toNat : Nat) : Int)) (.ref qr) (.int 0) (.int 0) (.ref qo) (.ref qm) (.ref ql) (.ref qu)))
        rw [er]
        exact h.ob
      | row k => exact absurd hs (show k ∉ ([] : List Nat) by simp)
      | _ => assumption
    · cases s <;> cases t <;> first | rfl | exact absurd hs (show _ ∉ ([] : List Nat) by simp) | exact absurd ht (show _ ∉ ([] : List Nat) by simp) | exact absurd e (by assumption) | exact absurd e.symm (by assumption)
  refine ⟨_, ⟨A, hA, rfl, Good.new (by omega) (by omega)⟩, fun b o e c => ⟨h.kp b o e c, fun z => ?_⟩⟩
  obtain ⟨s, hs, rfl⟩ := z
  cases s with
  | ob => exact c rfl
  | row k => exact absurd hs (show k ∉ ([] : List Nat) by simp)
  | hands => rw [show A.f .hands = qh from rfl, h1] at e; cases e
  | rows => rw [show A.f .rows = qr from rfl, r1] at e; cases e
  | old => rw [show A.f .old = qo from rfl, o1] at e; cases e
  | marks => rw [show A.f .marks = qm from rfl, m1] at e; cases e
  | line => rw [show A.f .line = ql from rfl, l1] at e; cases e
  | unsw => rw [show A.f .unsw = qu from rfl, u1] at e; cases e
theorem rep_none (n : Nat) : (List.replicate n [V.non]).flatten = (List.replicate n (none : Option Nat)).map optV := by
  induction n with
  | zero => rfl
  | succ n ih =>
    rw [List.replicate_succ, List.replicate_succ, List.flatten_cons, ih, List.map_cons]
    rfl
theorem raw_make (S : HS) (h n : Nat) : raw (S.make h n) = { raw S with made := S.rows.length + 1, keys := S.keys ++ [S.rows.length], row := fun j => if j = S.rows.length then List.replicate n none else (raw S).row j, hands := S.hands.set h (some S.rows.length) } := by
  have e : (S.make h n).row = fun j => if j = S.rows.length then List.replicate n none else S.row j := funext fun j => rowOf_push j
  have e2 : (S.make h n).rows.length = S.rows.length + 1 := by show (S.rows ++ [_]).length = _; rw [List.length_append]; rfl
  show Raw.mk _ _ _ (S.make h n).row (S.make h n).rows.length _ _ _ _ _ = _
  rw [e, e2]
  rfl
theorem raw_write {S : HS} {b s : Nat} (x : Option Nat) (hb : b < S.rows.length) : raw (S.write b s x) = { raw S with row := fun j => if j = b then (S.row b).set s x else (raw S).row j } := by
  have e : (S.write b s x).row = fun j => if j = b then (S.row b).set s x else S.row j := funext fun j => rowOf_set j hb
  have e2 : (S.write b s x).rows.length = S.rows.length := by show (S.rows.set _ _).length = _; rw [List.length_set]
  show Raw.mk _ _ _ (S.write b s x).row (S.write b s x).rows.length _ _ _ _ _ = _
  rw [e, e2]
  rfl
theorem set_opt (l : List (Option Nat)) (j : Nat) (x : Option Nat) : (l.map optV).set j (optV x) = (l.set j x).map optV := by rw [List.map_set]
theorem getD_opt (l : List (Option Nat)) (j : Nat) : l.getD j none = (l[j]?).getD none := List.getD_eq_getElem?_getD ..
section
variable {C p : Addr} {H : Hp} {A : HA} {S : HS}
theorem okHand.ix {h : Int} (c : okHand S h) : ixN (S.hands.map optV).length h = some h.toNat := by
  have := ixN_nat (n := (S.hands.map optV).length) (j := h.toNat) (by rw [List.length_map]; have := c.1; have := c.2; omega)
  rw [← this]
  congr 1
  have := c.1; omega
theorem okHand.at_ {h : Int} (c : okHand S h) : atI (S.hands.map optV) h = some (optV (S.hand h.toNat)) := by
  have := atI_opt (l := S.hands) (h := h.toNat) (by have := c.1; have := c.2; omega)
  rw [show ((h.toNat : Nat) : Int) = h by have := c.1; omega] at this
  exact this
theorem HAt.setHand (hA : HAt C H p A (raw S)) {h : Nat} {x : Option Nat} (G' : Good (S.setHand h x)) : HeapAt C (upd H (A.f .hands) (.lst ((S.hands.map optV).set h (optV x)))) p (foot A (raw S)) (S.setHand h x) ∧ Frm H (foot A (raw S)) (upd H (A.f .hands) (.lst ((S.hands.map optV).set h (optV x)))) (foot A (raw S)) := by
  rw [set_opt]
  exact ⟨⟨A, hA.pHands (S.hands.set h x), rfl, G'⟩, (Frm.refl _ _).put (hA.foot_on (s := .hands) trivial)⟩
end
/-- what is tracked stays tracked -/
def Mono (H H' : Hp) : Prop := ∀ b o, H b = some o → ∃ o', H' b = some o'
theorem Mono.refl (H : Hp) : Mono H H := fun _ o h => ⟨o, h⟩
theorem Mono.put {H H1 : Hp} (m : Mono H H1) {q : Addr} {o : HO} : Mono H (upd H1 q o) := fun b u h => by
  by_cases e : b = q
  · subst e; exact ⟨o, upd_same⟩
  · rw [upd_ne e]; exact m b u h
theorem Mono.same {H H1 H2 : Hp} (m : Mono H H1) (s : Same H1 H2) : Mono H H2 := fun b o h => let ⟨u, e⟩ := m b o h; ⟨u, s _ _ e⟩
theorem Mono.free {H H1 : Hp} (m : Mono H H1) {q : Addr} (n : H1 q = none) : H q = none := by
  cases e : H q with
  | none => rfl
  | some o => obtain ⟨o', e'⟩ := m q o e; rw [n] at e'; cases e'
theorem Frm.imp {H H1 : Hp} {F F1 F2 : Addr → Prop} (a : Frm H F H1 F1) (h : ∀ b, F2 b → F1 b) : Frm H F H1 F2 := fun b o e n => let ⟨x, y⟩ := a b o e n; ⟨x, fun z => y (h b z)⟩
theorem ext_len : ∀ (l : List (Option Nat)) (old m : List Nat), (ext old m l).length ≤ l.length
  | [], _, _ => Nat.zero_le _
  | none :: r, old, m => Nat.le_succ_of_le (ext_len r old m)
  | some j :: r, old, m => by
    unfold ext
    by_cases h : j ∈ old ∧ j ∉ m
    · rw [if_pos h]
      exact Nat.succ_le_succ (ext_len r old _)
    · rw [if_neg h]
      exact Nat.le_succ_of_le (ext_len r old m)
theorem ext_cons (old m : List Nat) (k : Nat) (r : List (Option Nat)) : ext old m (some k :: r) = if k ∈ old ∧ k ∉ m then k :: ext old (m ++ [k]) r else ext old m r := by rw [ext]
theorem marks2_cons (R : Raw) (o : Option Nat) (l : List (Option Nat)) : R.marks2 (o :: l) = (R.markO o).marks2 l := by
  cases o with
  | none => rfl
  | some k =>
    show Raw.marks2 R (some k :: l) = (R.mark k).marks2 l
    unfold Raw.mark Raw.marks2
    rw [ext_cons]
    by_cases h : k ∈ R.old ∧ k ∉ R.marks
    · rw [if_pos h, if_pos h]
      simp
    · rw [if_neg h, if_neg h]
theorem marks2_app : ∀ (l m : List (Option Nat)) (R : Raw), R.marks2 (l ++ m) = (R.marks2 l).marks2 m
  | [], m, R => by
    show R.marks2 m = ({ R with marks := R.marks ++ [], line := R.line ++ [] } : Raw).marks2 m
    rw [List.append_nil, List.append_nil]
  | o :: l, m, R => by
    rw [List.cons_append, marks2_cons, marks2_cons, marks2_app l m]
theorem marks2_one (R : Raw) (o : Option Nat) : R.marks2 [o] = R.markO o := by
  rw [marks2_cons]
  show ({ R.markO o with marks := (R.markO o).marks ++ [], line := (R.markO o).line ++ [] } : Raw) = R.markO o
  rw [List.append_nil, List.append_nil]
theorem marks2_snoc {R : Raw} {l : List (Option Nat)} {i : Nat} {o : Option Nat} (h : l[i]? = some o) : R.marks2 (l.take (i + 1)) = (R.marks2 (l.take i)).markO o := by
  rw [List.take_add_one, h, marks2_app]
  exact marks2_one _ o
end MP

set_option Elab.async false
set_option linter.all false
set_option maxRecDepth 100000
set_option maxHeartbeats 4000000
/-! What a law of ours keeps beside the heap: its hands, its rows, its deeds. -/
namespace MP
open PySem PySem.Spec PyProof.Rows L2 MM KG
/-! ### rows of a law -/
structure RowsAt (H : Hp) (qs : List Addr) (rows : List MM.Row) : Prop where
  len : qs.length = rows.length
  at_ : ∀ (i : Nat) (row : MM.Row), rows[i]? = some row → ∃ q, qs[i]? = some q ∧ H q = some (.lst (row.map optV))
theorem RowsAt.keep {H H' : Hp} {qs : List Addr} {rows : List MM.Row} (h : RowsAt H qs rows) (s : ∀ b ∈ qs, ∀ o, H b = some o → H' b = some o) : RowsAt H' qs rows :=
  ⟨h.len, fun i row e => by
    obtain ⟨q, e1, e2⟩ := h.at_ i row e
    exact ⟨q, e1, s q (List.mem_of_getElem? e1) _ e2⟩⟩
theorem RowsAt.nil {H : Hp} : RowsAt H [] [] := ⟨rfl, fun i row e => by simp at e⟩
theorem RowsAt.push {H : Hp} {qs : List Addr} {rows : List MM.Row} {q : Addr} {row : MM.Row} (h : RowsAt H qs rows) (e : H q = some (.lst (row.map optV))) : RowsAt H (qs ++ [q]) (rows ++ [row]) := by
  refine ⟨by rw [List.length_append, List.length_append, h.len]; rfl, fun i r er => ?_⟩
  by_cases hi : i < rows.length
  · rw [List.getElem?_append_left hi] at er
    obtain ⟨p, e1, e2⟩ := h.at_ i r er
    exact ⟨p, by rw [List.getElem?_append_left (by rw [h.len]; exact hi)]; exact e1, e2⟩
  · have hi2 : i = rows.length := by
      have := (List.getElem?_eq_some_iff.mp er).1
      rw [List.length_append, List.length_singleton] at this
      omega
    subst hi2
    rw [List.getElem?_append_right (Nat.le_refl _), Nat.sub_self] at er
    have er' : row = r := Option.some.inj er
    subst er'
    refine ⟨q, ?_, e⟩
    rw [← h.len, List.getElem?_append_right (Nat.le_refl _), Nat.sub_self]
    rfl
theorem RowsAt.set {H : Hp} {qs : List Addr} {rows : List MM.Row} {b : Nat} {q : Addr} {row : MM.Row} (h : RowsAt H qs rows) (hq : qs[b]? = some q) (nd : qs.Nodup) : RowsAt (upd H q (.lst (row.map optV))) qs (rows.set b row) := by
  refine ⟨by rw [List.length_set]; exact h.len, fun i r er => ?_⟩
  rw [List.getElem?_set] at er
  by_cases e : b = i
  · subst e
    rw [if_pos rfl] at er
    have hb : b < rows.length := by rw [← h.len]; exact (List.getElem?_eq_some_iff.mp hq).1
    rw [if_pos hb] at er
    cases er
    exact ⟨q, hq, upd_same⟩
  · rw [if_neg e] at er
    obtain ⟨p, e1, e2⟩ := h.at_ i r er
    exact ⟨p, e1, by rw [upd_ne fun (z : p = q) => e (nd_ix nd hq (z ▸ e1))]; exact e2⟩
structure LawAt (H : Hp) (hl rl : Addr) (qs : List Addr) (hands : List (Option Nat)) (rows : List MM.Row) : Prop where
  handsA : H hl = some (.lst (hands.map optV))
  rlA : H rl = some (.lst (qs.map V.ref))
  rowsA : RowsAt H qs rows
  ne : hl ≠ rl
  nh : hl ∉ qs
  nr : rl ∉ qs
  nd : qs.Nodup
def footL (hl rl : Addr) (qs : List Addr) (b : Addr) : Prop := b = hl ∨ b = rl ∨ b ∈ qs
theorem LawAt.tracked {H : Hp} {hl rl : Addr} {qs : List Addr} {hands : List (Option Nat)} {rows : List MM.Row} (h : LawAt H hl rl qs hands rows) {b : Addr} (f : footL hl rl qs b) : ∃ o, H b = some o := by
  rcases f with rfl | rfl | f
  · exact ⟨_, h.handsA⟩
  · exact ⟨_, h.rlA⟩
  · obtain ⟨i, hi⟩ := List.getElem?_of_mem f
    have lt : i < rows.length := by rw [← h.rowsA.len]; exact (List.getElem?_eq_some_iff.mp hi).1
    obtain ⟨q, e1, e2⟩ := h.rowsA.at_ i _ (List.getElem?_eq_getElem lt)
    rw [hi] at e1; cases e1
    exact ⟨_, e2⟩
theorem LawAt.keep {H H' : Hp} {hl rl : Addr} {qs : List Addr} {hands : List (Option Nat)} {rows : List MM.Row} (h : LawAt H hl rl qs hands rows) (s : ∀ b, footL hl rl qs b → ∀ o, H b = some o → H' b = some o) : LawAt H' hl rl qs hands rows :=
  ⟨s _ (.inl rfl) _ h.handsA, s _ (.inr (.inl rfl)) _ h.rlA, h.rowsA.keep fun b hb => s b (.inr (.inr hb)), h.ne, h.nh, h.nr, h.nd⟩
theorem LawAt.row {H : Hp} {hl rl : Addr} {qs : List Addr} {hands : List (Option Nat)} {rows : List MM.Row} (h : LawAt H hl rl qs hands rows) {k : Nat} (hk : k < rows.length) : ∃ q, qs[k]? = some q ∧ H q = some (.lst ((rowOf rows k).map optV)) :=
  h.rowsA.at_ k _ (rowOf_lt hk)
/-! ### deeds -/
inductive Deed
  | make (h n : Nat)
  | take (h o s : Nat)
  | put (h s o : Nat)
  | share (h o : Nat)
  | drop (h : Nat)
def Deed.vals : Deed → List V
  | .make h n => [.str "make", .int h, .int n]
  | .take h o s => [.str "take", .int h, .int o, .int s]
  | .put h s o => [.str "put", .int h, .int s, .int o]
  | .share h o => [.str "share", .int h, .int o]
  | .drop h => [.str "drop", .int h]
/-- it can be done -/
def Valid (hands : List (Option Nat)) (rows : List MM.Row) : Deed → Prop
  | .make h n => h < hands.length ∧ n ≤ 4
  | .take h o s => h < hands.length ∧ o < hands.length ∧ ∃ k, hands.getD o none = some k ∧ k < rows.length ∧ s < (rowOf rows k).length
  | .put h s o => h < hands.length ∧ o < hands.length ∧ ∃ k, hands.getD h none = some k ∧ k < rows.length ∧ s < (rowOf rows k).length
  | .share h o => h < hands.length ∧ o < hands.length
  | .drop h => h < hands.length
/-- done by plain rows -/
def doL (hands : List (Option Nat)) (rows : List MM.Row) : Deed → List (Option Nat) × List MM.Row
  | .make h n => (hands.set h (some rows.length), rows ++ [List.replicate n none])
  | .take h o s => (hands.set h ((rowOf rows ((hands.getD o none).getD 0)).getD s none), rows)
  | .put h s o => (hands, rows.set ((hands.getD h none).getD 0) ((rowOf rows ((hands.getD h none).getD 0)).set s (hands.getD o none)))
  | .share h o => (hands.set h (hands.getD o none), rows)
  | .drop h => (hands.set h none, rows)
/-- done by the heap -/
def doS (S : HS) : Deed → HS
  | .make h n => S.make h n
  | .take h o s => S.take h ((S.hand o).getD 0) s
  | .put h s o => S.put ((S.hand h).getD 0) s o
  | .share h o => S.share h o
  | .drop h => S.drop h
def resS (S : HS) : Deed → V
  | .make _ _ => .int S.rows.length
  | _ => .non
theorem doS_is (S : HS) (d : Deed) : ((doS S d).hands, (doS S d).rows) = doL S.hands S.rows d := by
  cases d with
  | put h s o =>
    show ((S.put _ _ _).hands, (S.put _ _ _).rows) = _
    unfold HS.put
    obtain ⟨m1, m2, _⟩ := markO_fields S (S.slot ((S.hand h).getD 0) s)
    split
    · rfl
    · show ((HS.markO _ _).hands, (HS.markO _ _).rows.set _ (List.set (rowOf (HS.markO _ _).rows _) _ _)) = _
      rw [m1, m2]
      rfl
  | _ => rfl
theorem Good.doS {S : HS} (G : Good S) {d : Deed} (v : Valid S.hands S.rows d) (hr : S.keys.length < S.room) : Good (doS S d) := by
  cases d with
  | make h n => exact Good.make G v.2 hr
  | take h o s =>
    obtain ⟨_, _, k, hk, _⟩ := v
    have hk : S.hand o = some k := hk
    show Good (S.take h _ s)
    rw [hk]
    exact Good.take G (G.handLive hk)
  | put h s o =>
    obtain ⟨_, _, k, hk, _⟩ := v
    have hk : S.hand h = some k := hk
    show Good (S.put _ s o)
    rw [hk]
    exact Good.put G (G.handLive hk)
  | share h o => exact Good.share G
  | drop h => exact Good.drop G
/-! ### heap and law beside each other -/
structure Duo (C : Addr) (H : Hp) (p hl rl : Addr) (X : Addr → Prop) (S : HS) (hands : List (Option Nat)) (rows : List MM.Row) : Prop where
  ex : ∃ F qs, HeapAt C H p F S ∧ LawAt H hl rl qs hands rows ∧ (∀ b, F b → ¬ footL hl rl qs b) ∧ X = fun b => F b ∨ footL hl rl qs b
theorem HeapAt.tracked {C p : Addr} {H : Hp} {F : Addr → Prop} {S : HS} (h : HeapAt C H p F S) {b : Addr} (f : F b) : ∃ o, H b = some o := by
  obtain ⟨A, h, rfl, _⟩ := h
  exact h.foot_at f
theorem HeapAt.keep {C p : Addr} {H H' : Hp} {F : Addr → Prop} {S : HS} (h : HeapAt C H p F S) (s : ∀ b, F b → ∀ o, H b = some o → H' b = some o) : HeapAt C H' p F S := by
  obtain ⟨A, h, rfl, g⟩ := h
  exact ⟨A, h.keep fun b o e f => s b f o e, rfl, g⟩
section
variable {C p hl rl : Addr} {H H' : Hp} {X : Addr → Prop} {S : HS} {hands : List (Option Nat)} {rows : List MM.Row}
theorem Duo.tracked (D : Duo C H p hl rl X S hands rows) {b : Addr} (f : X b) : ∃ o, H b = some o := by
  obtain ⟨F, qs, h, l, _, rfl⟩ := D.ex
  rcases f with f | f
  · exact h.tracked f
  · exact l.tracked f
theorem Duo.fresh (D : Duo C H p hl rl X S hands rows) {q : Addr} (n : H q = none) : ¬ X q := fun f => by
  obtain ⟨o, e⟩ := D.tracked f
  rw [n] at e; cases e
theorem Duo.keep (D : Duo C H p hl rl X S hands rows) (s : ∀ b, X b → ∀ o, H b = some o → H' b = some o) : Duo C H' p hl rl X S hands rows := by
  obtain ⟨F, qs, h, l, d, rfl⟩ := D.ex
  exact ⟨F, qs, h.keep fun b f => s b (.inl f), l.keep fun b f => s b (.inr f), d, rfl⟩
theorem Duo.same (D : Duo C H p hl rl X S hands rows) (s : Same H H') : Duo C H' p hl rl X S hands rows := D.keep fun b _ o e => s b o e
theorem Duo.out (D : Duo C H p hl rl X S hands rows) {q : Addr} {o : HO} (n : ¬ X q) : Duo C (upd H q o) p hl rl X S hands rows := D.keep fun b f o' e => by
  rw [upd_ne fun (z : b = q) => n (z ▸ f)]
  exact e
theorem Duo.good (D : Duo C H p hl rl X S hands rows) : Good S := D.ex.choose_spec.choose_spec.1.good
theorem Duo.ob (D : Duo C H p hl rl X S hands rows) : ∃ dx fs, H p = some (.ins C dx fs) ∧ (∀ m : Str, m ∉ (["_hands", "_room", "_rows", "_made", "_ended", "_old", "_marks", "_line", "_unswept"] : List Str) → fs.lookup m = none) := by
  obtain ⟨F, qs, h, l, d, rfl⟩ := D.ex
  exact h.ob
theorem Duo.hands_at (D : Duo C H p hl rl X S hands rows) : H hl = some (.lst (hands.map optV)) := by
  obtain ⟨F, qs, h, l, d, rfl⟩ := D.ex
  exact l.handsA
theorem Duo.foot_hl (D : Duo C H p hl rl X S hands rows) : X hl := by
  obtain ⟨F, qs, h, l, d, rfl⟩ := D.ex
  exact .inr (.inl rfl)
theorem Duo.foot_rl (D : Duo C H p hl rl X S hands rows) : X rl := by
  obtain ⟨F, qs, h, l, d, rfl⟩ := D.ex
  exact .inr (.inr (.inl rfl))
/-- a step of the heap -/
theorem Duo.heap (D : Duo C H p hl rl X S hands rows) {S' : HS} : ∃ F, HeapAt C H p F S ∧ (∀ b, F b → X b) ∧ ∀ H' F', HeapAt C H' p F' S' → Frm H F H' F' → ∃ X', Duo C H' p hl rl X' S' hands rows ∧ Frm H X H' X' := by
  obtain ⟨F, qs, h, l, d, rfl⟩ := D.ex
  refine ⟨F, h, fun _ => .inl, fun H' F' h' f => ?_⟩
  have nf : ∀ b, footL hl rl qs b → ∀ o, H b = some o → H' b = some o ∧ ¬ F' b := fun b z o e => f b o e fun y => d b y z
  have l' := l.keep (H' := H') fun b z o e => (nf b z o e).1
  refine ⟨fun b => F' b ∨ footL hl rl qs b, ⟨F', qs, h', l', fun b y z => ?_, rfl⟩, fun b o e n => ?_⟩
  · obtain ⟨o, e⟩ := l.tracked z
    exact (nf b z o e).2 y
  · obtain ⟨x, y⟩ := f b o e fun z => n (.inl z)
    exact ⟨x, fun z => z.elim y fun w => n (.inr w)⟩
/-- a step of the law -/
theorem Duo.law (D : Duo C H p hl rl X S hands rows) {hands' : List (Option Nat)} {rows' : List MM.Row} : ∃ qs, LawAt H hl rl qs hands rows ∧ (∀ b, footL hl rl qs b → X b) ∧ ∀ H' qs', LawAt H' hl rl qs' hands' rows' → Frm H (footL hl rl qs) H' (footL hl rl qs') → ∃ X', Duo C H' p hl rl X' S hands' rows' ∧ Frm H X H' X' := by
  obtain ⟨F, qs, h, l, d, rfl⟩ := D.ex
  refine ⟨qs, l, fun _ => .inr, fun H' qs' l' f => ?_⟩
  have nf : ∀ b, F b → ∀ o, H b = some o → H' b = some o ∧ ¬ footL hl rl qs' b := fun b z o e => f b o e (d b z)
  have h' := h.keep (H' := H') fun b z o e => (nf b z o e).1
  refine ⟨fun b => F b ∨ footL hl rl qs' b, ⟨F, qs', h', l', fun b z y => ?_, rfl⟩, fun b o e n => ?_⟩
  · obtain ⟨o, e⟩ := h.tracked z
    exact (nf b z o e).2 y
  · obtain ⟨x, y⟩ := f b o e fun z => n (.inr z)
    exact ⟨x, fun z => z.elim (fun w => n (.inl w)) y⟩
end
/-! ### lists of deeds -/
structure DeedsAt (H : Hp) (D : Addr) (qs : List Addr) (ds : List Deed) : Prop where
  at_ : H D = some (.lst (qs.map V.ref))
  len : qs.length = ds.length
  row : ∀ (i : Nat) (d : Deed), ds[i]? = some d → ∃ q, qs[i]? = some q ∧ H q = some (.lst d.vals)
def ValidL : List (Option Nat) → List MM.Row → List Deed → Prop
  | _, _, [] => True
  | h, r, d :: ds => Valid h r d ∧ ValidL (doL h r d).1 (doL h r d).2 ds
/-- the law's numbers -/
def mixN (ns : List Int) (k : Nat) : Nat := ((cellOf ns k * 48271 + 7919 * (k : Int)) % 1000003).toNat
section
variable (C : Addr) (EC : ECs) (K : PySem.W.Frag)
def spMixedAt : Sp := fun vs H Q _ => ∃ (l : Addr) (ns : List Int) (k : Nat), vs = [.ref l, .int (k : Int)] ∧ SqL K H l (ns.map V.int) ∧ Q (.int (mixN ns k : Int)) H
def spMixed : Sp := fun vs H Q _ => ∃ (l : Addr) (ns : List Int) (m : Nat), vs = [.ref l, .int (m : Int)] ∧ SqL K H l (ns.map V.int) ∧ ns.length ≤ 63 ∧
  ∀ (H' : Hp) (D : Addr) (cells : List Nat), Same H H' → H D = none → H' D = some (.lst (cells.map nV)) → cells.length ≤ 62 → Q (.ref D) H'
def Plain (xs : List V) : Prop := ∀ x ∈ xs, x = .non ∨ ∃ i, x = .int i
def spNumbers : Sp := fun vs H Q _ => ∃ (a b : Addr) (xs : List V), vs = [.ref a, .ref b] ∧ H a = some (.lst xs) ∧ H b = some (.lst xs) ∧ Plain xs ∧ xs.length ≤ 3000 ∧ Q (.bl true) H
def spWhole : Sp := fun vs H Q _ => ∃ i, vs = [.int i] ∧ Q (.bl true) H
def spDeeds : Sp := fun vs H Q _ => ∃ (c : Nat) (hl rl : Addr) (qs : List Addr) (hands : List (Option Nat)) (rows : List MM.Row), vs = [.int (c : Int), .ref hl, .ref rl] ∧ LawAt H hl rl qs hands rows ∧ 1 ≤ hands.length ∧ hands.length ≤ 8 ∧ (∀ k, some k ∈ hands → k < rows.length) ∧ (∀ row ∈ rows, row.length ≤ 4) ∧
  ∀ H' D qs' ds, Same H H' → H D = none → (∀ q ∈ qs', H q = none) → DeedsAt H' D qs' ds → ValidL hands rows ds → ds.length ≤ 2 → Q (.ref D) H'
def spDone : Sp := fun vs H Q _ => ∃ (q hl rl : Addr) (qs : List Addr) (hands : List (Option Nat)) (rows : List MM.Row) (d : Deed), vs = [.ref q, .ref hl, .ref rl] ∧ H q = some (.lst d.vals) ∧ LawAt H hl rl qs hands rows ∧ ¬ footL hl rl qs q ∧ Valid hands rows d ∧ rows.length ≤ 2000 ∧
  ∀ H' qs', LawAt H' hl rl qs' (doL hands rows d).1 (doL hands rows d).2 → Frm H (footL hl rl qs) H' (footL hl rl qs') → Q .non H'
def spAsked : Sp := fun vs H Q _ => ∃ (p q : Addr) (F : Addr → Prop) (S : HS) (d : Deed), vs = [.ref p, .ref q] ∧ HeapAt C H p F S ∧ H q = some (.lst d.vals) ∧ ¬ F q ∧ Valid S.hands S.rows d ∧ S.keys.length < S.room ∧
  ∀ H' F', HeapAt C H' p F' (doS S d) → Frm H F H' F' → Q (resS S d) H'
/-- a told list is as it is due; it is cleared -/
def spCleared : Sp := fun vs H Q _ => ∃ (a b : Addr) (xs : List V), vs = [.ref a, .ref b] ∧ H a = some (.lst xs) ∧ H b = some (.lst xs) ∧ Plain xs ∧ xs.length ≤ 3000 ∧ Q (.bl true) (upd H a (.lst []))
def spHolds : Sp := fun vs H Q _ => ∃ (p hl rl : Addr) (X : Addr → Prop) (S : HS), vs = [.ref p, .ref hl, .ref rl] ∧ Duo C H p hl rl X S S.hands S.rows ∧ ∀ H', Same H H' → Q (.bl true) H'
end
theorem plain_opt (row : List (Option Nat)) : Plain (row.map optV) := fun x hx => by
  obtain ⟨o, _, rfl⟩ := List.mem_map.mp hx
  cases o with
  | none => exact .inl rfl
  | some k => exact .inr ⟨k, rfl⟩
theorem plain_nat (l : List Nat) : Plain (l.map nV) := fun x hx => by
  obtain ⟨k, _, rfl⟩ := List.mem_map.mp hx
  exact .inr ⟨k, rfl⟩
theorem Duo.lists {C p hl rl : Addr} {H : Hp} {X : Addr → Prop} {S : HS} (D : Duo C H p hl rl X S S.hands S.rows) : ∃ qs, LawAt H hl rl qs S.hands S.rows ∧ 1 ≤ S.hands.length ∧ S.hands.length ≤ 8 ∧ (∀ k, some k ∈ S.hands → k < S.rows.length) ∧ (∀ row ∈ S.rows, row.length ≤ 4) := by
  obtain ⟨F, qs, h, l, dj, rfl⟩ := D.ex
  have G := h.good
  exact ⟨qs, l, G.hn.1, G.hn.2, fun j e => G.lt j (G.hl j e).1, G.four⟩
theorem doS_hands (S : HS) (d : Deed) : (doL S.hands S.rows d).1 = (doS S d).hands := congrArg Prod.fst (doS_is S d).symm
theorem doS_rows (S : HS) (d : Deed) : (doL S.hands S.rows d).2 = (doS S d).rows := congrArg Prod.snd (doS_is S d).symm
theorem put_fields (S : HS) (b s o : Nat) : (S.put b s o).keys = S.keys ∧ (S.put b s o).room = S.room ∧ (S.put b s o).unsw = S.unsw ∧ (S.put b s o).ended = S.ended ∧ (S.put b s o).old = S.old ∧ (S.put b s o).snap = S.snap := by
  unfold HS.put
  split
  · exact ⟨rfl, rfl, rfl, rfl, rfl, rfl⟩
  · obtain ⟨m1, m2, m3, m4, m5, m6, m7, m8⟩ := markO_fields S (S.slot b s)
    exact ⟨m3, m8, m6, m7, m4, m5⟩
theorem doS_fields (S : HS) (d : Deed) : (doS S d).room = S.room ∧ (doS S d).unsw = S.unsw ∧ (doS S d).ended = S.ended ∧ (doS S d).old = S.old ∧ (doS S d).snap = S.snap ∧ S.rows.length ≤ (doS S d).rows.length ∧ (doS S d).rows.length ≤ S.rows.length + 1 ∧ (doS S d).keys.length ≤ S.keys.length + 1 ∧ (doS S d).hands.length = S.hands.length := by
  cases d with
  | make h n =>
    refine ⟨rfl, rfl, rfl, rfl, rfl, ?_, ?_, ?_, ?_⟩
    · show _ ≤ (S.rows ++ [_]).length
      rw [List.length_append]; omega
    · show (S.rows ++ [_]).length ≤ _
      rw [List.length_append]; exact Nat.le_refl _
    · show (S.keys ++ [_]).length ≤ _
      rw [List.length_append]; exact Nat.le_refl _
    · show (S.hands.set _ _).length = _
      rw [List.length_set]
  | put h s o =>
    obtain ⟨a, b, c, d, e, f⟩ := put_fields S ((S.hand h).getD 0) s o
    have x := doS_is S (.put h s o)
    have y : (doS S (.put h s o)).rows = _ := congrArg Prod.snd x
    have z : (doS S (.put h s o)).hands = _ := congrArg Prod.fst x
    refine ⟨b, c, d, e, f, ?_, ?_, Nat.le_succ_of_le (Nat.le_of_eq (congrArg List.length a)), ?_⟩
    · rw [y]; show _ ≤ (S.rows.set _ _).length; rw [List.length_set]; exact Nat.le_refl _
    · rw [y]; show (S.rows.set _ _).length ≤ _; rw [List.length_set]; omega
    · rw [z]; rfl
  | take h o s => exact ⟨rfl, rfl, rfl, rfl, rfl, Nat.le_refl _, Nat.le_succ _, Nat.le_succ _, by show (S.hands.set _ _).length = _; rw [List.length_set]⟩
  | share h o => exact ⟨rfl, rfl, rfl, rfl, rfl, Nat.le_refl _, Nat.le_succ _, Nat.le_succ _, by show (S.hands.set _ _).length = _; rw [List.length_set]⟩
  | drop h => exact ⟨rfl, rfl, rfl, rfl, rfl, Nat.le_refl _, Nat.le_succ _, Nat.le_succ _, by show (S.hands.set _ _).length = _; rw [List.length_set]⟩
theorem keysLe {S : HS} (G : Good S) : S.keys.length ≤ S.rows.length := by
  have := nodup_sub S.keys (List.range S.rows.length) (rising_nodup G.rise) fun k hk => List.mem_range.mpr (G.lt k hk)
  rwa [List.length_range] at this
def spLaw (K : PySem.W.Frag) : Sp := fun vs H Q _ => ∃ (a : Addr) (ns : List Int), vs = [.ref a] ∧ SqL K H a (ns.map V.int) ∧ ns.length ≤ 63 ∧ ∀ H', Q (.bl true) H'
theorem Duo.start {C p hl rl : Addr} {H H2 : Hp} {F : Addr → Prop} {n r : Nat} (h : HeapAt C H p F (HS.new n r)) (s : Same H H2) (e1 : H2 hl = some (.lst ((List.replicate n (none : Option Nat)).map optV))) (e2 : H2 rl = some (.lst [])) (ne : hl ≠ rl) (n1 : H hl = none) (n2 : H rl = none) :
    ∃ X, Duo C H2 p hl rl X (HS.new n r) (HS.new n r).hands (HS.new n r).rows ∧ ∀ b o, H b = some o → ¬ F b → H2 b = some o ∧ ¬ X b := by
  refine ⟨fun b => F b ∨ footL hl rl [] b, ⟨F, [], h.same s, ⟨e1, e2, RowsAt.nil, ne, by simp, by simp, .nil⟩, fun b y z => ?_, rfl⟩, fun b o e n => ⟨s b o e, fun z => ?_⟩⟩
  · obtain ⟨o, e⟩ := h.tracked y
    rcases z with rfl | rfl | z
    · rw [n1] at e; cases e
    · rw [n2] at e; cases e
    · exact absurd z (by simp)
  · rcases z with z | z | z | z
    · exact n z
    · subst z; rw [n1] at e; cases e
    · subst z; rw [n2] at e; cases e
    · exact absurd z (by simp)
theorem Duo.made {C p hl rl : Addr} {H : Hp} {X : Addr → Prop} {S : HS} (D : Duo C H p hl rl X S S.hands S.rows) : ∃ qs : List Addr, H rl = some (.lst (qs.map V.ref)) ∧ qs.length = S.rows.length ∧ ∀ k, k < S.rows.length → ∃ q, qs[k]? = some q ∧ H q = some (.lst ((S.row k).map optV)) := by
  obtain ⟨F, qs, h, l, dj, rfl⟩ := D.ex
  exact ⟨qs, l.rlA, l.rowsA.len, fun k hk => l.row hk⟩
theorem DeedsAt.nth {H : Hp} {L : Addr} {qs : List Addr} {ds : List Deed} (h : DeedsAt H L qs ds) {i : Nat} {x : V} (e : (qs.map V.ref)[i]? = some x) : ∃ q d, x = V.ref q ∧ q ∈ qs ∧ ds[i]? = some d ∧ H q = some (.lst d.vals) ∧ ds.drop i = d :: ds.drop (i + 1) := by
  rw [List.getElem?_map] at e
  cases eq : qs[i]? with
  | none => rw [eq] at e; cases e
  | some q =>
    rw [eq] at e
    cases e
    have hi : i < ds.length := by rw [← h.len]; exact (List.getElem?_eq_some_iff.mp eq).1
    obtain ⟨q', e1, e2⟩ := h.row i _ (List.getElem?_eq_getElem hi)
    rw [eq] at e1; cases e1
    exact ⟨q, ds[i], rfl, List.mem_of_getElem? eq, List.getElem?_eq_getElem hi, e2, List.drop_eq_getElem_cons hi⟩
theorem deed_first (d : Deed) : ∃ (s : Str) (r : List V), d.vals = .str s :: r ∧ (s = "make" ↔ ∃ h n, d = .make h n) ∧ (s = "put" ↔ ∃ h x o, d = .put h x o) := by
  cases d with
  | make h n => exact ⟨_, _, rfl, ⟨fun _ => ⟨h, n, rfl⟩, fun _ => rfl⟩, ⟨fun e => absurd e (by decide), fun ⟨_, _, _, e⟩ => nomatch e⟩⟩
  | take h o s => exact ⟨_, _, rfl, ⟨fun e => absurd e (by decide), fun ⟨_, _, e⟩ => nomatch e⟩, ⟨fun e => absurd e (by decide), fun ⟨_, _, _, e⟩ => nomatch e⟩⟩
  | put h s o => exact ⟨_, _, rfl, ⟨fun e => absurd e (by decide), fun ⟨_, _, e⟩ => nomatch e⟩, ⟨fun _ => ⟨h, s, o, rfl⟩, fun _ => rfl⟩⟩
  | share h o => exact ⟨_, _, rfl, ⟨fun e => absurd e (by decide), fun ⟨_, _, e⟩ => nomatch e⟩, ⟨fun e => absurd e (by decide), fun ⟨_, _, _, e⟩ => nomatch e⟩⟩
  | drop h => exact ⟨_, _, rfl, ⟨fun e => absurd e (by decide), fun ⟨_, _, e⟩ => nomatch e⟩, ⟨fun e => absurd e (by decide), fun ⟨_, _, _, e⟩ => nomatch e⟩⟩
/-- the collector has never worked -/
structure Calm (S : HS) : Prop where
  room : S.room = 1000
  keys : S.keys = List.range S.rows.length
  unsw : S.unsw = []
  line : S.line = []
  ended : S.ended = 0
theorem Calm.doS {S : HS} (c : Calm S) (d : Deed) : Calm (MP.doS S d) := by
  obtain ⟨a, b, e, _⟩ := doS_fields S d
  have nu : (MP.doS S d).unsw = [] := b.trans c.unsw
  have ne : (MP.doS S d).ended = 0 := e.trans c.ended
  have nr : (MP.doS S d).room = 1000 := a.trans c.room
  cases d with
  | make h n =>
    refine ⟨nr, ?_, nu, c.line, ne⟩
    show S.keys ++ [S.rows.length] = List.range (S.rows ++ [_]).length
    rw [c.keys, List.length_append, List.length_singleton, List.range_succ]
  | put h s o =>
    have e : MP.doS S (.put h s o) = S.write ((S.hand h).getD 0) s (S.hand o) := by show S.put _ _ _ = _; unfold HS.put; rw [if_pos c.line]
    refine ⟨nr, ?_, nu, ?_, ne⟩
    · rw [e]
      show S.keys = List.range (S.rows.set _ _).length
      rw [List.length_set]
      exact c.keys
    · rw [e]; exact c.line
  | take h o s => exact ⟨nr, c.keys, nu, c.line, ne⟩
  | share h o => exact ⟨nr, c.keys, nu, c.line, ne⟩
  | drop h => exact ⟨nr, c.keys, nu, c.line, ne⟩
def spChain (C : Addr) : Sp := fun vs H Q _ => ∃ (p hl rl : Addr) (X : Addr → Prop) (S : HS) (n : Nat), vs = [.ref p, .ref hl, .ref rl, .int (n : Int)] ∧ Duo C H p hl rl X S S.hands S.rows ∧ 2 ≤ S.hands.length ∧ n ≤ 100 ∧ S.rows.length + n ≤ 900 ∧ Calm S ∧
  ∀ H' X' S', Duo C H' p hl rl X' S' S'.hands S'.rows → Frm H X H' X' → Calm S' → S'.hands.length = S.hands.length → S'.rows.length ≤ S.rows.length + n → Q .non H'
theorem chain_valid {hands : List (Option Nat)} (rows : List MM.Row) (k : Nat) (h : 2 ≤ hands.length) : ValidL hands rows [.make 1 (1 + k % 4), .put 1 (k % 4) 0, .share 0 1] := by
  have m : k % 4 < 4 := Nat.mod_lt _ (by decide)
  have e1 : rowOf (rows ++ [List.replicate (1 + k % 4) none]) rows.length = List.replicate (1 + k % 4) none := by rw [rowOf_push, if_pos rfl]
  have e2 : (hands.set 1 (some rows.length)).getD 1 none = some rows.length := by
    rw [List.getD_eq_getElem?_getD, List.getElem?_set, if_pos rfl, if_pos (by omega)]
    rfl
  refine ⟨⟨by omega, by omega⟩, ⟨?_, ?_, rows.length, e2, ?_, ?_⟩, ⟨?_, ?_⟩, trivial⟩
  · show 1 < (hands.set _ _).length; rw [List.length_set]; omega
  · show 0 < (hands.set _ _).length; rw [List.length_set]; omega
  · show _ < (rows ++ [_]).length; rw [List.length_append, List.length_singleton]; omega
  · show k % 4 < (rowOf (rows ++ [List.replicate (1 + k % 4) none]) rows.length).length
    rw [e1, List.length_replicate]; omega
  · show 0 < (hands.set _ _).length; rw [List.length_set]; omega
  · show 1 < (hands.set _ _).length; rw [List.length_set]; omega
/-! ### lists of numbers compared -/
def dN (k : Nat) : PyData := .int (k : Int)
def dI (l : List Nat) : PyData := .list (l.map dN)
theorem dpAll_nats {K : PySem.W.Frag} {H : Hp} : ∀ l : List Nat, DpAll K H (l.map nV) (l.map dN)
  | [] => .nil
  | k :: l => .cons (.int _) (dpAll_nats l)
theorem dp_nats {K : PySem.W.Frag} {H : Hp} {a : Addr} {l : List Nat} (h : SqL K H a (l.map nV)) : Dp K H (.ref a) (dI l) := .lst h (dpAll_nats l)
theorem lay_nats : ∀ l : List Nat, PyData.canLayAll0 (l.map dN) = true
  | [] => by simp [PyData.canLayAll0]
  | k :: l => by
    rw [List.map_cons, PyData.canLayAll0, lay_nats l]
    simp [PyData.canLay0, dN]
theorem depth_nats : ∀ l : List Nat, PyData.depthAll (l.map dN) = 0
  | [] => by simp [PyData.depthAll]
  | k :: l => by
    rw [List.map_cons, PyData.depthAll, depth_nats l]
    simp [PyData.depth, dN]
theorem shaped_nats (l : List Nat) : SeqAt.shaped (dI l) = true := by
  unfold SeqAt.shaped dI
  rw [PyData.canLay0, PyData.depth, lay_nats, depth_nats]
  rfl
theorem eqv_nats : ∀ l m : List Nat, PyData.eqvAll (l.map dN) (m.map dN) = decide (l = m)
  | [], [] => by simp [PyData.eqvAll]
  | [], b :: m => by simp [PyData.eqvAll]
  | a :: l, [] => by simp [PyData.eqvAll]
  | a :: l, b :: m => by
    rw [List.map_cons, List.map_cons, PyData.eqvAll, eqv_nats l m]
    unfold dN
    rw [PyData.eqv]
    by_cases h : a = b
    · subst h
      simp
    · have : ((a : Int) == (b : Int)) = false := by simp; omega
      rw [this]
      simp [h]
theorem eqv_dI (l m : List Nat) : PyData.eqv (dI l) (dI m) = decide (l = m) := by
  unfold dI
  rw [PyData.eqv]
  exact eqv_nats l m
/-! ### the work leaves the hands and the rows -/
theorem step_fields (S : HS) : S.step.1.hands = S.hands ∧ S.step.1.rows = S.rows ∧ S.step.1.room = S.room := by
  unfold HS.step
  split
  · split
    · rw [began_eq]; exact ⟨rfl, rfl, rfl⟩
    · unfold HS.sweepOn
      split
      · exact ⟨rfl, rfl, rfl⟩
      · split <;> exact ⟨rfl, rfl, rfl⟩
  · unfold HS.markOn
    split
    · exact ⟨rfl, rfl, rfl⟩
    · rw [markAll_eq]; exact ⟨rfl, rfl, rfl⟩
theorem piece_fields (S : HS) : S.piece.1.hands = S.hands ∧ S.piece.1.rows = S.rows ∧ S.piece.1.room = S.room := by
  obtain ⟨a, b, c⟩ := step_fields S
  show S.step.1.ends.hands = _ ∧ S.step.1.ends.rows = _ ∧ S.step.1.ends.room = _
  unfold HS.ends
  split
  · exact ⟨a, b, c⟩
  · exact ⟨a, b, c⟩
theorem work_fields (S : HS) : ∀ n, (HS.work n S).1.hands = S.hands ∧ (HS.work n S).1.rows = S.rows ∧ (HS.work n S).1.room = S.room
  | 0 => ⟨rfl, rfl, rfl⟩
  | n + 1 => by
    obtain ⟨a, b, c⟩ := work_fields S n
    obtain ⟨x, y, z⟩ := piece_fields (HS.work n S).1
    exact ⟨x.trans a, y.trans b, z.trans c⟩
/-! ### lists of deeds, one more behind -/
def doAll : List (Option Nat) → List MM.Row → List Deed → List (Option Nat) × List MM.Row
  | h, r, [] => (h, r)
  | h, r, d :: ds => doAll (doL h r d).1 (doL h r d).2 ds
theorem validL_snoc : ∀ (ds : List Deed) (h : List (Option Nat)) (r : List MM.Row) (d : Deed), ValidL h r ds → Valid (doAll h r ds).1 (doAll h r ds).2 d → ValidL h r (ds ++ [d])
  | [], h, r, d, _, v => ⟨v, trivial⟩
  | e :: ds, h, r, d, v, w => ⟨v.1, validL_snoc ds _ _ d v.2 w⟩
theorem doAll_snoc : ∀ (ds : List Deed) (h : List (Option Nat)) (r : List MM.Row) (d : Deed), doAll h r (ds ++ [d]) = doL (doAll h r ds).1 (doAll h r ds).2 d
  | [], h, r, d => rfl
  | e :: ds, h, r, d => doAll_snoc ds _ _ d
def spSeveral : Sp := fun vs H Q _ => ∃ (c : Nat) (hl rl : Addr) (qs : List Addr) (hands : List (Option Nat)) (rows : List MM.Row), vs = [.int (c : Int), .ref hl, .ref rl] ∧ LawAt H hl rl qs hands rows ∧ 1 ≤ hands.length ∧ hands.length ≤ 8 ∧ (∀ k, Rc hands rows k → k < rows.length) ∧ (∀ row ∈ rows, row.length ≤ 4) ∧
  ∀ H' D qs' ds, Same H H' → H D = none → (∀ q ∈ qs', H q = none) → DeedsAt H' D qs' ds → ValidL hands rows ds → ds.length ≤ 10 → Q (.ref D) H'
def spLooked (C : Addr) : Sp := fun vs H Q _ => ∃ (p : Addr) (F : Addr → Prop) (S : HS) (b : Nat), vs = [.ref p, .int (b : Int)] ∧ HeapAt C H p F S ∧ b ∈ S.keys ∧ ∀ l, H l = none → Q (.ref l) (upd H l (.lst ((S.row b).map optV)))
/-- the deeds are asked of the heap and done by the law -/
def spSeen (C : Addr) : Sp := fun vs H Q _ => ∃ (p hl rl Ld : Addr) (X : Addr → Prop) (S : HS) (qs : List Addr) (ds : List Deed), vs = [.ref p, .ref Ld, .ref hl, .ref rl] ∧ Duo C H p hl rl X S S.hands S.rows ∧ DeedsAt H Ld qs ds ∧ ¬ X Ld ∧ (∀ q ∈ qs, ¬ X q) ∧ ValidL S.hands S.rows ds ∧ S.room = 1000 ∧ S.rows.length + ds.length ≤ 990 ∧
  ∀ H' X' S', Duo C H' p hl rl X' S' S'.hands S'.rows → Frm H X H' X' → S'.room = 1000 → S'.rows.length ≤ S.rows.length + ds.length → Q (.bl true) H'
theorem DeedsAt.push {H H' : Hp} {L L' q : Addr} {qs : List Addr} {ds : List Deed} {d : Deed} (h : DeedsAt H L qs ds) (hL : H' L' = some (.lst ((qs ++ [q]).map V.ref))) (k : ∀ x ∈ qs, ∀ u, H x = some u → H' x = some u) (hq : H' q = some (.lst d.vals)) : DeedsAt H' L' (qs ++ [q]) (ds ++ [d]) := by
  refine ⟨hL, by rw [List.length_append, List.length_append, h.len]; rfl, fun i e he => ?_⟩
  by_cases hi : i < ds.length
  · rw [List.getElem?_append_left hi] at he
    obtain ⟨q', x, y⟩ := h.row i e he
    exact ⟨q', by rw [List.getElem?_append_left (by rw [h.len]; exact hi)]; exact x, k q' (List.mem_of_getElem? x) _ y⟩
  · have := (List.getElem?_eq_some_iff.mp he).1
    rw [List.length_append, List.length_singleton] at this
    have ei : i = ds.length := by omega
    subst ei
    rw [List.getElem?_append_right (Nat.le_refl _), Nat.sub_self] at he
    cases he
    exact ⟨q, by rw [← h.len, List.getElem?_append_right (Nat.le_refl _), Nat.sub_self]; rfl, hq⟩
theorem Frm.seq {K : PySem.W.Frag} {H H' : Hp} {X X' : Addr → Prop} {l : Addr} {xs : List V} (f : Frm H X H' X') (h : SqL K H l xs) (n : ∀ o, H l = some o → ¬ X l) : SqL K H' l xs ∧ ∀ o, H' l = some o → (∃ o, H l = some o) → ¬ X' l := by
  rcases h with (h | ⟨o, h⟩) | h
  · exact ⟨.inl (.inl (f _ _ h (n _ h)).1), fun _ _ _ => (f _ _ h (n _ h)).2⟩
  · exact ⟨.inl (.inr ⟨o, (f _ _ h (n _ h)).1⟩), fun _ _ _ => (f _ _ h (n _ h)).2⟩
  · exact ⟨.inr h, fun _ _ ⟨o, e⟩ => (f _ _ e (n _ e)).2⟩
theorem Duo.work {C p hl rl : Addr} {H : Hp} {X : Addr → Prop} {S : HS} {n : Nat} (D : Duo C H p hl rl X (HS.work n S).1 S.hands S.rows) : Duo C H p hl rl X (HS.work n S).1 (HS.work n S).1.hands (HS.work n S).1.rows := by
  obtain ⟨a, b, _⟩ := work_fields S n
  rw [a, b]
  exact D
theorem tabD {c : Nat} (h : c % 10 < 7) : ∃ t : Nat, atI ([V.int 0, V.int 1, V.int 2, V.int 3, V.int 5, V.int 6, V.int 7] : List V) ((c : Int) % 10) = some (V.int (t : Int)) := by
  rw [show ((c : Int) % 10) = ((c % 10 : Nat) : Int) by omega]
  generalize c % 10 = j at h
  match j, h with
  | 0, _ => exact ⟨0, rfl⟩
  | 1, _ => exact ⟨1, rfl⟩
  | 2, _ => exact ⟨2, rfl⟩
  | 3, _ => exact ⟨3, rfl⟩
  | 4, _ => exact ⟨5, rfl⟩
  | 5, _ => exact ⟨6, rfl⟩
  | 6, _ => exact ⟨7, rfl⟩
end MP

set_option linter.all false
/-! Going through the boxes first come first. -/
namespace MM
theorem ext_consS (old m : List Nat) (k : Nat) (r : List (Option Nat)) : ext old m (some k :: r) = if k ∈ old ∧ k ∉ m then k :: ext old (m ++ [k]) r else ext old m r := by rw [ext]
theorem ext_app : ∀ (l r : List (Option Nat)) (old m : List Nat), ext old m (l ++ r) = ext old m l ++ ext old (m ++ ext old m l) r
  | [], r, old, m => by
    show ext old m r = [] ++ ext old (m ++ []) r
    rw [List.append_nil, List.nil_append]
  | none :: l, r, old, m => ext_app l r old m
  | some k :: l, r, old, m => by
    rw [List.cons_append, ext_consS, ext_consS]
    by_cases h : k ∈ old ∧ k ∉ m
    · rw [if_pos h, if_pos h, ext_app l r old (m ++ [k])]
      simp
    · rw [if_neg h, if_neg h, ext_app l r old m]
theorem ext_snoc {l : List (Option Nat)} {old m : List Nat} {k : Nat} : ext old m (l ++ [some k]) = ext old m l ++ (if k ∈ old ∧ k ∉ m ++ ext old m l then [k] else []) := by
  rw [ext_app, ext_consS]
  rfl
theorem ext_snocN {l : List (Option Nat)} {old m : List Nat} : ext old m (l ++ [none]) = ext old m l := by
  rw [ext_app]
  show _ ++ [] = _
  rw [List.append_nil]
def bfs (old : List Nat) (hands : List (Option Nat)) (rows : List Row) : Nat → List Nat
  | 0 => ext old [] hands
  | n + 1 => match (bfs old hands rows n)[n]? with
    | some b => bfs old hands rows n ++ ext old (bfs old hands rows n) (rowOf rows b)
    | none => bfs old hands rows n
section
variable {old : List Nat} {hands : List (Option Nat)} {rows : List Row}
theorem bfs_some {n b : Nat} (h : (bfs old hands rows n)[n]? = some b) : bfs old hands rows (n + 1) = bfs old hands rows n ++ ext old (bfs old hands rows n) (rowOf rows b) := by
  show (match (bfs old hands rows n)[n]? with | some b => _ | none => _) = _
  rw [h]
theorem bfs_none {n : Nat} (h : (bfs old hands rows n).length ≤ n) : bfs old hands rows (n + 1) = bfs old hands rows n := by
  show (match (bfs old hands rows n)[n]? with | some b => _ | none => _) = _
  rw [List.getElem?_eq_none h]
theorem bfs_nodup : ∀ n, (bfs old hands rows n).Nodup
  | 0 => nodup_ext _ _ _
  | n + 1 => by
    by_cases h : n < (bfs old hands rows n).length
    · rw [bfs_some (List.getElem?_eq_getElem h)]
      exact nodup_app (bfs_nodup n) (nodup_ext _ _ _) fun k hk => ((mem_ext _ _ _ k).mp hk).2.2
    · rw [bfs_none (Nat.le_of_not_lt h)]
      exact bfs_nodup n
theorem bfs_old : ∀ n k, k ∈ bfs old hands rows n → k ∈ old
  | 0, k, hk => ((mem_ext _ _ _ k).mp hk).2.1
  | n + 1, k, hk => by
    by_cases h : n < (bfs old hands rows n).length
    · rw [bfs_some (List.getElem?_eq_getElem h)] at hk
      rcases List.mem_append.mp hk with hk | hk
      · exact bfs_old n k hk
      · exact ((mem_ext _ _ _ k).mp hk).2.1
    · rw [bfs_none (Nat.le_of_not_lt h)] at hk
      exact bfs_old n k hk
theorem bfs_len (n : Nat) : (bfs old hands rows n).length ≤ old.length := nodup_sub _ _ (bfs_nodup n) (bfs_old n)
theorem bfs_pre (n : Nat) : ∃ r, bfs old hands rows (n + 1) = bfs old hands rows n ++ r := by
  by_cases h : n < (bfs old hands rows n).length
  · exact ⟨_, bfs_some (List.getElem?_eq_getElem h)⟩
  · exact ⟨[], by rw [bfs_none (Nat.le_of_not_lt h), List.append_nil]⟩
theorem bfs_pre' (n : Nat) : ∀ m, ∃ r, bfs old hands rows (n + m) = bfs old hands rows n ++ r
  | 0 => ⟨[], by rw [Nat.add_zero, List.append_nil]⟩
  | m + 1 => by
    obtain ⟨r, hr⟩ := bfs_pre' n m
    obtain ⟨r2, h2⟩ := bfs_pre (old := old) (hands := hands) (rows := rows) (n + m)
    exact ⟨r ++ r2, by rw [← Nat.add_assoc, h2, hr, List.append_assoc]⟩
theorem bfs_stop {n : Nat} (h : (bfs old hands rows n).length ≤ n) : ∀ m, bfs old hands rows (n + m) = bfs old hands rows n
  | 0 => rfl
  | m + 1 => by
    have ih := bfs_stop h m
    rw [← Nat.add_assoc, bfs_none (by rw [ih]; omega), ih]
def came (old : List Nat) (hands : List (Option Nat)) (rows : List Row) : List Nat := bfs old hands rows old.length
theorem came_is {n : Nat} (h : (bfs old hands rows n).length ≤ n) : came old hands rows = bfs old hands rows n := by
  unfold came
  by_cases c : n ≤ old.length
  · have := bfs_stop h (old.length - n)
    rwa [show n + (old.length - n) = old.length by omega] at this
  · have h2 : (bfs old hands rows old.length).length ≤ old.length := bfs_len _
    have := bfs_stop h2 (n - old.length)
    rw [show old.length + (n - old.length) = n by omega] at this
    exact this.symm
/-- while it goes on, the place is there -/
theorem bfs_on {n : Nat} (h : n < (came old hands rows).length) : n < (bfs old hands rows n).length := by
  by_cases c : n < (bfs old hands rows n).length
  · exact c
  · rw [came_is (Nat.le_of_not_lt c)] at h
    exact h
theorem bfs_at {n b : Nat} (h : (came old hands rows)[n]? = some b) : (bfs old hands rows n)[n]? = some b := by
  have hn := (List.getElem?_eq_some_iff.mp h).1
  have h1 := bfs_on hn
  have h2 : n ≤ old.length := Nat.le_trans (Nat.le_of_lt h1) (bfs_len n)
  obtain ⟨r, hr⟩ := bfs_pre' (old := old) (hands := hands) (rows := rows) n (old.length - n)
  rw [show n + (old.length - n) = old.length by omega] at hr
  unfold came at h
  rw [hr, List.getElem?_append_left h1] at h
  exact h
theorem bfs_end : (bfs old hands rows (came old hands rows).length).length ≤ (came old hands rows).length := by
  by_cases c : (came old hands rows).length < (bfs old hands rows (came old hands rows).length).length
  · have h2 : (came old hands rows).length ≤ old.length := bfs_len _
    obtain ⟨r, hr⟩ := bfs_pre' (old := old) (hands := hands) (rows := rows) (came old hands rows).length (old.length - (came old hands rows).length)
    rw [show (came old hands rows).length + (old.length - (came old hands rows).length) = old.length by omega] at hr
    have : (came old hands rows).length = _ := congrArg List.length hr
    rw [List.length_append] at this
    omega
  · exact Nat.le_of_not_lt c
theorem came_end : bfs old hands rows (came old hands rows).length = came old hands rows := (came_is bfs_end).symm
theorem came_nodup : (came old hands rows).Nodup := bfs_nodup _
theorem bfs_rc (ho : ∀ k, Rc hands rows k → k ∈ old) : ∀ n k, k ∈ bfs old hands rows n → Rc hands rows k
  | 0, k, hk => .hand ((mem_ext _ _ _ k).mp hk).1
  | n + 1, k, hk => by
    by_cases h : n < (bfs old hands rows n).length
    · rw [bfs_some (List.getElem?_eq_getElem h)] at hk
      rcases List.mem_append.mp hk with hk | hk
      · exact bfs_rc ho n k hk
      · exact .slot (bfs_rc ho n _ (List.getElem_mem h)) ((mem_ext _ _ _ k).mp hk).1
    · rw [bfs_none (Nat.le_of_not_lt h)] at hk
      exact bfs_rc ho n k hk
theorem bfs_closed : ∀ n i b, i < n → (bfs old hands rows n)[i]? = some b → ∀ j, some j ∈ rowOf rows b → j ∈ old → j ∈ bfs old hands rows n
  | 0, i, b, h, _, _, _, _ => absurd h (Nat.not_lt_zero _)
  | n + 1, i, b, hi, hb, j, hj, ho => by
    by_cases h : n < (bfs old hands rows n).length
    · have e := bfs_some (old := old) (hands := hands) (rows := rows) (List.getElem?_eq_getElem h)
      by_cases c : i = n
      · subst c
        rw [e, List.getElem?_append_left h, List.getElem?_eq_getElem h] at hb
        cases hb
        rw [e]
        by_cases m : j ∈ bfs old hands rows i
        · exact List.mem_append_left _ m
        · exact List.mem_append_right _ ((mem_ext _ _ _ j).mpr ⟨hj, ho, m⟩)
      · rw [e, List.getElem?_append_left (by omega)] at hb
        rw [e]
        exact List.mem_append_left _ (bfs_closed n i b (by omega) hb j hj ho)
    · have e := bfs_none (old := old) (hands := hands) (rows := rows) (Nat.le_of_not_lt h)
      rw [e] at hb ⊢
      have := (List.getElem?_eq_some_iff.mp hb).1
      exact bfs_closed n i b (by omega) hb j hj ho
theorem hand_bfs (ho : ∀ k, Rc hands rows k → k ∈ old) : ∀ n k, some k ∈ hands → k ∈ bfs old hands rows n
  | 0, k, hk => (mem_ext _ _ _ k).mpr ⟨hk, ho k (.hand hk), by simp⟩
  | n + 1, k, hk => by
    obtain ⟨r, hr⟩ := bfs_pre (old := old) (hands := hands) (rows := rows) n
    rw [hr]
    exact List.mem_append_left _ (hand_bfs ho n k hk)
theorem mem_came (ho : ∀ k, Rc hands rows k → k ∈ old) {k : Nat} : k ∈ came old hands rows ↔ Rc hands rows k := by
  constructor
  · exact bfs_rc ho _ k
  · intro h
    induction h with
    | hand h => exact hand_bfs ho _ _ h
    | @slot v w hv hj ih =>
      obtain ⟨i, hi⟩ := List.getElem?_of_mem ih
      have hlt : i < old.length := Nat.lt_of_lt_of_le (List.getElem?_eq_some_iff.mp hi).1 (bfs_len _)
      exact bfs_closed old.length i v hlt hi w hj (ho w (.slot hv hj))
/-- it does not matter what may be come to besides -/
theorem ext_old {old old2 : List Nat} : ∀ (l : List (Option Nat)) (m : List Nat), (∀ k, some k ∈ l → (k ∈ old ↔ k ∈ old2)) → ext old m l = ext old2 m l
  | [], m, _ => rfl
  | none :: r, m, h => ext_old r m fun k hk => h k (List.mem_cons_of_mem _ hk)
  | some j :: r, m, h => by
    rw [ext_consS, ext_consS]
    have hj := h j List.mem_cons_self
    by_cases c : j ∈ old ∧ j ∉ m
    · rw [if_pos c, if_pos ⟨hj.mp c.1, c.2⟩, ext_old r _ fun k hk => h k (List.mem_cons_of_mem _ hk)]
    · rw [if_neg c, if_neg fun z => c ⟨hj.mpr z.1, z.2⟩, ext_old r _ fun k hk => h k (List.mem_cons_of_mem _ hk)]
theorem bfs_old2 {old2 : List Nat} (h1 : ∀ k, Rc hands rows k → k ∈ old) (h2 : ∀ k, Rc hands rows k → k ∈ old2) : ∀ n, bfs old hands rows n = bfs old2 hands rows n
  | 0 => ext_old _ _ fun k hk => ⟨fun _ => h2 k (.hand hk), fun _ => h1 k (.hand hk)⟩
  | n + 1 => by
    have ih := bfs_old2 h1 h2 n
    by_cases h : n < (bfs old hands rows n).length
    · rw [bfs_some (List.getElem?_eq_getElem h)]
      have hb := bfs_rc h1 n _ (List.getElem_mem h)
      have e : (bfs old2 hands rows n)[n]? = some ((bfs old hands rows n)[n]) := by rw [← ih]; exact List.getElem?_eq_getElem h
      rw [bfs_some e, ← ih]
      congr 1
      exact ext_old _ _ fun k hk => ⟨fun _ => h2 k (.slot hb hk), fun _ => h1 k (.slot hb hk)⟩
    · rw [bfs_none (Nat.le_of_not_lt h), bfs_none (by rw [← ih]; exact Nat.le_of_not_lt h), ih]
theorem came_old2 {old2 : List Nat} (h1 : ∀ k, Rc hands rows k → k ∈ old) (h2 : ∀ k, Rc hands rows k → k ∈ old2) : came old hands rows = came old2 hands rows := by
  have e := bfs_old2 h1 h2 (came old hands rows).length
  rw [came_end] at e
  rw [e]
  refine (came_is ?_).symm
  rw [← e]
  exact Nat.le_refl _
end
end MM

set_option Elab.async false
set_option linter.all false
set_option maxRecDepth 100000
set_option maxHeartbeats 4000000
/-! Rules of our own: xs[i] += e; a method's or a class's call whose error is caught around. -/
namespace MP
open PySem PySem.Spec PyProof.Rows L2 MM KG
section
variable {X : Cx}
def rGetN (K : PySem.W.Frag) : V → V → Hp → VK → Prop := fun o i H Q => ∃ p xs k v, o = .ref p ∧ i = .int ((k : Nat) : Int) ∧ SqL K H p xs ∧ xs[k]? = some v ∧ Q v H
theorem get_list : PGet X (rGetN X.K) := by
  intro pins s σ H x y v u Q I rx ry h
  obtain ⟨p, xs, k, z, rfl, rfl, hq, he, q⟩ := h
  cases rx
  obtain ⟨t, rfl⟩ := ry
  obtain ⟨its, r, pl, hz⟩ := I.list hq
  obtain ⟨w, ew, rw'⟩ := r.get he
  have hl := r.length
  have hn := line63
  have hk := (List.getElem?_eq_some_iff.mp he).1
  refine wpAny_getItem_list pl.isList (by omega) (by omega) ?_ ⟨z, H, I, rw', q⟩
  rw [Int.toNat_natCast]
  simpa using ew
end
section
variable {X : Cx} {CX : CXT} {k : Nat} {f C : Addr} {fd : FuncData} {ps : List Str} {sp : Sp} {E : L2.St → XK} {x m : Str} {p pos apos : Pos} {e o : Expr} {es : List Expr} {ta : TE} {t : TA}
def tMethAt (C : Addr) (m : Str) (sp : Sp) (E : L2.St → XK) (ta : TE) (t : TA) : TE := fun σ H Q => ta σ H fun x H1 => ∃ a dx fs, x = .ref a ∧ H1 a = some (.ins C dx fs) ∧ fs.lookup m = none ∧ t σ H1 fun vs H2 => sp (x :: vs) H2 Q (E σ)
theorem pe_methAt {pl : Sem Bool} (he : PE X o ta) (c : Cls X.K C) (hm : Meth X.K C m f) (F : FnOk X.prog X.w X.K X.mg X.base CX k f fd ps sp) (hr : Room k X.A) (hb : Binds X.K fd ps []) (hx : ∀ σ, PassesAt CX X σ (E σ)) (ha : PA X (e :: es) t)
    (hst : starEach (e :: es) X.env = (false, eval e X.env) :: starEach es X.env := by rfl) (hpl : (backTo pos (starEach es X.env)).any (·.1) = false := by rfl)
    (ht : eval (.Call (.Attribute o m apos) (e :: es) [] pos) X.env = (do
      let ov ← eval o X.env
      standAt apos.atName
      let (f, first) ← holding [ov] (getMethod ov m pl)
      callWith pos f first (backTo pos (starEach (e :: es) X.env)) (backToKw pos (keywordEach [] X.env))) := by rfl) :
    PE X (.Call (.Attribute o m apos) (e :: es) [] pos) (tMethAt C m sp E ta t) := by
  refine ⟨fun pins s σ H Q I h => ?_⟩
  refine PySem.W.methodCall_KW (pl := pl) (thn (he.run pins s σ H _ I h) fun u s1 ⟨x, H1, I1, rx, a, dx, fs, ex, ea, l, q⟩ => ?_) ht
  subst ex
  obtain rfl : u = Value.ref a := rx
  refine getmeth_ok I1 ea c hm l ?_
  refine PySem.W.callWith_K (first := [.ref a]) (h₀ := X.base) I.ok.mod.kin hm.kp (thn (ha.run pos pins s1 σ H1 _ I1 q) fun us s2 ⟨vs, H2, I2, r, q2⟩ => ⟨I2.kIn, ?_⟩) hst hpl
  exact run_fnS (us := .ref a :: us) (vs := .ref a :: vs) F hr hb (hx σ) I2 (.cons rfl r) q2
end
end MP

set_option linter.all false
/-! When a round ends and what it frees: what is left of it, told ahead. -/
namespace MM
/-- how many pieces of marking are left -/
def left (S : HS) : Nat := S.snap.length + S.line.length - S.marks.length
open Classical in
/-- what is left of the round: a piece of marking (none), or a box to be looked at, and whether it is freed -/
noncomputable def planOf (S : HS) : List (Option (Nat × Bool)) := List.replicate (left S) none ++ S.unsw.map fun b => some (b, decide (b ∉ S.snap))
theorem len_eq {l m : List Nat} (h1 : l.Nodup) (h2 : m.Nodup) (h : ∀ k, k ∈ l ↔ k ∈ m) : l.length = m.length :=
  Nat.le_antisymm (nodup_sub _ _ h1 fun k hk => (h k).mp hk) (nodup_sub _ _ h2 fun k hk => (h k).mpr hk)
theorem Good0.marks_le {S : HS} (G : Good0 S) : S.marks.length ≤ S.snap.length := nodup_sub _ _ G.mkn G.mks
theorem Good0.line_le {S : HS} (G : Good0 S) : S.line.length ≤ S.marks.length := nodup_sub _ _ G.lnn G.ln
theorem Good0.left_sweep {S : HS} (G : Good0 S) (h : S.line = []) : left S = 0 := by
  unfold left
  have : S.snap.length = S.marks.length := len_eq (rising_nodup G.sr) G.mkn fun k => ⟨fun hk => G.all h hk, fun hk => G.mks k hk⟩
  rw [h, this]
  simp
theorem Good0.left_mark {S : HS} (G : Good0 S) (h : S.line ≠ []) : 0 < left S := by
  unfold left
  have := G.marks_le
  have : 0 < S.line.length := List.length_pos_iff.mpr h
  omega
theorem Good.plan_idle {S : HS} (G : Good S) : planOf S = [] ↔ S.line = [] ∧ S.unsw = [] := by
  unfold planOf
  constructor
  · intro h
    rw [List.append_eq_nil_iff] at h
    have hu : S.unsw = [] := List.map_eq_nil_iff.mp h.2
    have hl : left S = 0 := by
      have := congrArg List.length h.1
      rwa [List.length_replicate] at this
    refine ⟨Decidable.byContradiction fun n => ?_, hu⟩
    have := G.left_mark n
    omega
  · rintro ⟨hl, hu⟩
    rw [hu, G.left_sweep hl]
    rfl
theorem Good0.old_ne {S : HS} (G : Good0 S) (h : S.line ≠ []) : S.unsw ≠ [] := fun hu => by
  have e := G.un h
  rw [hu] at e
  obtain ⟨k, r, ek⟩ := List.exists_cons_of_ne_nil h
  have := (G.so _ (G.mks _ (G.ln k (by rw [ek]; exact List.mem_cons_self)))).1
  rw [← e] at this
  exact absurd this (by simp)
/-- the list told when a round begins -/
noncomputable def planNew (cs keys : List Nat) : List (Option (Nat × Bool)) := List.replicate cs.length none ++ keys.map fun b => some (b, decide (b ∉ cs))
theorem ends_plan (S : HS) (G : Good0 S) : planOf S.ends = planOf S ∧ S.ends.keys = S.keys ∧ S.ends.ended = S.ended + (if planOf S.ends = [] then 1 else 0) := by
  unfold HS.ends
  by_cases hu : S.unsw = []
  · rw [if_pos hu]
    have hl : S.line = [] := Decidable.byContradiction fun n => G.old_ne n hu
    have e1 : planOf S = [] := by unfold planOf; rw [hu, G.left_sweep hl]; rfl
    have e2 : planOf S.endRound = [] := by
      unfold planOf left HS.endRound
      dsimp only
      rw [hu, hl]
      rfl
    refine ⟨by rw [e1, e2], rfl, ?_⟩
    rw [if_pos e2]
    rfl
  · rw [if_neg hu]
    refine ⟨rfl, rfl, ?_⟩
    rw [if_neg]
    · rfl
    · unfold planOf
      intro h
      rw [List.append_eq_nil_iff] at h
      exact hu (List.map_eq_nil_iff.mp h.2)
theorem Good.piece_new {S : HS} (G : Good S) {cs : List Nat} (hcs : cs.Nodup) (hm : ∀ k, k ∈ cs ↔ Rc S.hands S.rows k) (hp : planOf S = []) :
    planOf S.piece.1 = planNew cs S.keys ∧ S.piece.2 = none ∧ S.piece.1.keys = S.keys ∧ S.piece.1.ended = S.ended + (if planOf S.piece.1 = [] then 1 else 0) := by
  obtain ⟨hl, hu⟩ := G.plan_idle.mp hp
  have es : S.step = (S.began, none) := by unfold HS.step; rw [if_pos hl, if_pos hu]
  have G1 := G.began hl hu
  obtain ⟨p1, p2, p3⟩ := ends_plan S.began G1
  have e1 : S.piece.1 = S.began.ends := by show S.step.1.ends = _; rw [es]
  have e2 : S.piece.2 = none := by show S.step.2 = _; rw [es]
  have ek : S.began.keys = S.keys := by rw [began_eq]
  have ee : S.began.ended = S.ended := by rw [began_eq]
  refine ⟨?_, e2, ?_, ?_⟩
  · rw [e1, p1]
    have hs : ∀ k, k ∈ S.began.snap ↔ k ∈ cs := fun k => by
      rw [began_eq]
      exact (G.snap_began k).trans (hm k).symm
    have hlen : S.began.snap.length = cs.length := len_eq (rising_nodup G1.sr) hcs hs
    have hleft : left S.began = cs.length := by
      unfold left
      rw [hlen]
      rw [began_eq]
      dsimp only
      omega
    unfold planOf planNew
    rw [hleft]
    congr 1
    have : S.began.unsw = S.keys := by rw [began_eq]
    rw [this]
    refine List.map_congr_left fun b _ => ?_
    congr 2
    exact decide_eq_decide.mpr (not_congr (hs b))
  · rw [e1, p2, ek]
  · rw [e1, p3, ee]
def planFreed : Option (Nat × Bool) → Option Nat
  | some (b, true) => some b
  | _ => none
def planKeys (keys : List Nat) : Option (Nat × Bool) → List Nat
  | some (b, true) => keys.filter fun k => decide (k ≠ b)
  | _ => keys
theorem Good.piece_old {S : HS} (G : Good S) {x : Option (Nat × Bool)} {r : List (Option (Nat × Bool))} (hp : planOf S = x :: r) :
    planOf S.piece.1 = r ∧ S.piece.2 = planFreed x ∧ S.piece.1.keys = planKeys S.keys x ∧ S.piece.1.ended = S.ended + (if planOf S.piece.1 = [] then 1 else 0) ∧ (∀ b f, x = some (b, f) → b ∈ S.keys) := by
  have ni : ¬ (S.line = [] ∧ S.unsw = []) := fun z => by rw [G.plan_idle.mpr z] at hp; cases hp
  by_cases hl : S.line = []
  · have hu : S.unsw ≠ [] := fun z => ni ⟨hl, z⟩
    have es : S.step = S.sweepOn := by unfold HS.step; rw [if_pos hl, if_neg hu]
    obtain ⟨b, r', eu⟩ := List.exists_cons_of_ne_nil hu
    have G1 := G.sweepOn hl
    obtain ⟨p1, p2, p3⟩ := ends_plan S.sweepOn.1 G1
    have e1 : S.piece.1 = S.sweepOn.1.ends := by show S.step.1.ends = _; rw [es]
    have e2 : S.piece.2 = S.sweepOn.2 := by show S.step.2 = _; rw [es]
    have hx : planOf S = some (b, decide (b ∉ S.snap)) :: r'.map fun c => some (c, decide (c ∉ S.snap)) := by
      unfold planOf
      rw [G.left_sweep hl, eu]
      rfl
    rw [hx] at hp
    injection hp with hp1 hp2
    subst hp1 hp2
    have hbk := (G.us b (by rw [eu]; exact List.mem_cons_self)).2
    have hms : b ∈ S.marks ↔ b ∈ S.snap := ⟨G.mks b, fun z => G.all hl z⟩
    have hl' : S.sweepOn.1.line = [] := by
      unfold HS.sweepOn
      rw [eu]
      dsimp only
      split <;> exact hl
    have hu' : S.sweepOn.1.unsw = r' := by
      unfold HS.sweepOn
      rw [eu]
      dsimp only
      split <;> rfl
    have hs' : S.sweepOn.1.snap = S.snap := by
      unfold HS.sweepOn
      rw [eu]
      dsimp only
      split <;> rfl
    have ee : S.sweepOn.1.ended = S.ended := by
      unfold HS.sweepOn
      rw [eu]
      dsimp only
      split <;> rfl
    refine ⟨?_, ?_, ?_, ?_, fun c f e => ?_⟩
    · rw [e1, p1]
      unfold planOf
      rw [G1.left_sweep hl', hu', hs']
      rfl
    · rw [e2]
      unfold HS.sweepOn
      rw [eu]
      dsimp only
      by_cases c : b ∈ S.marks
      · have d : decide (b ∉ S.snap) = false := decide_eq_false (fun z => z (hms.mp c))
        rw [if_pos c, d]
        rfl
      · have d : decide (b ∉ S.snap) = true := decide_eq_true (fun z => c (hms.mpr z))
        rw [if_neg c, d]
        rfl
    · rw [e1, p2]
      unfold HS.sweepOn
      rw [eu]
      dsimp only
      by_cases c : b ∈ S.marks
      · have d : decide (b ∉ S.snap) = false := decide_eq_false (fun z => z (hms.mp c))
        rw [if_pos c, d]
        rfl
      · have d : decide (b ∉ S.snap) = true := decide_eq_true (fun z => c (hms.mpr z))
        rw [if_neg c, d]
        rfl
    · rw [e1, p3, ee]
    · cases e; exact hbk
  · have es : S.step = (S.markOn, none) := by unfold HS.step; rw [if_neg hl]
    have G1 := G.markOn hl
    obtain ⟨p1, p2, p3⟩ := ends_plan S.markOn G1
    have e1 : S.piece.1 = S.markOn.ends := by show S.step.1.ends = _; rw [es]
    have e2 : S.piece.2 = none := by show S.step.2 = _; rw [es]
    obtain ⟨b, r', eL⟩ := List.exists_cons_of_ne_nil hl
    have eM : S.markOn = { S with marks := S.marks ++ ext S.old S.marks (S.row b), line := r' ++ ext S.old S.marks (S.row b) } := by
      unfold HS.markOn
      rw [eL]
      show HS.markAll _ _ = _
      rw [markAll_eq]
    have hpos := G.left_mark hl
    have hleft : left S.markOn + 1 = left S := by
      have h1 := G1.marks_le
      rw [eM] at h1 ⊢
      unfold left at hpos ⊢
      rw [eL] at hpos ⊢
      dsimp only at h1 ⊢
      rw [List.length_append] at h1
      rw [List.length_append, List.length_append, List.length_cons]
      omega
    have hx : planOf S = none :: planOf S.markOn := by
      unfold planOf
      rw [← hleft, List.replicate_succ]
      rw [eM]
      rfl
    rw [hx] at hp
    injection hp with hp1 hp2
    subst hp1 hp2
    refine ⟨by rw [e1, p1], e2, ?_, ?_, fun c f e => nomatch e⟩
    · rw [e1, p2, eM]
      rfl
    · rw [e1, p3, eM]
/-! ### the work -/
theorem step_keys (S : HS) : ∀ k ∈ S.piece.1.keys, k ∈ S.keys := fun k hk => by
  have hk : k ∈ S.step.1.ends.keys := hk
  have : S.step.1.ends.keys = S.step.1.keys := by unfold HS.ends; split <;> rfl
  rw [this] at hk
  unfold HS.step at hk
  split at hk
  · split at hk
    · rw [began_eq] at hk; exact hk
    · unfold HS.sweepOn at hk
      split at hk
      · exact hk
      · split at hk
        · exact hk
        · exact (List.mem_filter.mp hk).1
  · unfold HS.markOn at hk
    split at hk
    · exact hk
    · rw [markAll_eq] at hk; exact hk
theorem piece_gone (S : HS) : ∀ b, S.piece.2 = some b → b ∉ S.piece.1.keys := fun b hb hk => by
  have hb : S.step.2 = some b := hb
  have hk : b ∈ S.step.1.ends.keys := hk
  have : S.step.1.ends.keys = S.step.1.keys := by unfold HS.ends; split <;> rfl
  rw [this] at hk
  unfold HS.step at hk hb
  split at hb
  · rename_i h1
    rw [if_pos h1] at hk
    split at hb
    · cases hb
    · rename_i h2
      rw [if_neg h2] at hk
      unfold HS.sweepOn at hk hb
      split at hb
      · cases hb
      · rename_i c r e
        split at hb
        · cases hb
        · rename_i h3
          cases hb
          rw [e] at hk
          dsimp only at hk
          rw [if_neg h3] at hk
          have := (List.mem_filter.mp hk).2
          simp at this
  · cases hb
theorem work_gone (S : HS) : ∀ n, (∀ k ∈ (HS.work n S).1.keys, k ∈ S.keys) ∧ ∀ b ∈ (HS.work n S).2, b ∉ (HS.work n S).1.keys
  | 0 => ⟨fun k hk => hk, fun b hb => absurd hb (show b ∉ ([] : List Nat) by simp)⟩
  | n + 1 => by
    obtain ⟨h1, h2⟩ := work_gone S n
    refine ⟨fun k hk => h1 k (step_keys _ k hk), fun b hb hk => ?_⟩
    rcases List.mem_append.mp (show b ∈ (HS.work n S).2 ++ (HS.work n S).1.piece.2.toList from hb) with hb | hb
    · exact h2 b hb (step_keys _ b hk)
    · rw [Option.mem_toList] at hb
      exact piece_gone _ b hb hk
/-! ### deeds leave the round -/
theorem mark_left (S : HS) (k : Nat) : left (S.mark k) = left S := by
  unfold HS.mark
  split
  · unfold left
    dsimp only
    rw [List.length_append, List.length_append]
    simp
    omega
  · rfl
theorem markO_left (S : HS) (o : Option Nat) : left (S.markO o) = left S := by
  cases o with
  | none => rfl
  | some k => exact mark_left S k
theorem put_plan (S : HS) (b s o : Nat) : planOf (S.put b s o) = planOf S := by
  unfold HS.put
  split
  · rfl
  · have e : left ((S.markO (S.slot b s)).write b s (S.hand o)) = left S := markO_left S _
    unfold planOf
    rw [e]
    obtain ⟨m1, m2, m3, m4, m5, m6, m7, m8⟩ := markO_fields S (S.slot b s)
    show _ ++ (S.markO (S.slot b s)).unsw.map (fun c => some (c, decide (c ∉ (S.markO (S.slot b s)).snap))) = _
    rw [m5, m6]
end MM

set_option Elab.async false
set_option linter.all false
set_option maxRecDepth 100000
set_option maxHeartbeats 4000000
/-! A law's plan of a round, and its lists of numbers. -/
namespace MP
open PySem PySem.Spec PyProof.Rows L2 MM KG
/-! ### in, not in, remove over numbers -/
theorem inV_nats (b : Nat) : ∀ l : List Nat, inV (nV b) (l.map nV) = decide (b ∈ l)
  | [] => by simp [inV]
  | a :: l => by
    have ih := inV_nats b l
    unfold inV at ih ⊢
    rw [List.map_cons, List.any_cons, ih]
    show (((a : Int) == (b : Int)) || decide (b ∈ l)) = decide (b ∈ a :: l)
    by_cases h : b = a
    · subst h; simp
    · have : ((a : Int) == (b : Int)) = false := by simp; omega
      rw [this]
      simp [h]
theorem flat_nats (l : List Nat) : (l.map nV).all flatV = true := by
  rw [List.all_eq_true]
  intro x hx
  obtain ⟨k, _, rfl⟩ := List.mem_map.mp hx
  rfl
theorem erase_filter : ∀ (l : List Nat) (j b : Nat), l.Nodup → l[j]? = some b → l.eraseIdx j = l.filter fun k => decide (k ≠ b)
  | [], j, b, _, h => by simp at h
  | a :: l, 0, b, nd, h => by
    cases h
    obtain ⟨n1, n2⟩ := List.nodup_cons.mp nd
    rw [List.eraseIdx_zero, List.tail_cons, List.filter_cons, if_neg (by simp)]
    symm
    rw [List.filter_eq_self]
    intro k hk
    simp
    exact fun e => n1 (e ▸ hk)
  | a :: l, j + 1, b, nd, h => by
    obtain ⟨n1, n2⟩ := List.nodup_cons.mp nd
    have hb : b ∈ l := List.mem_of_getElem? h
    have : a ≠ b := fun e => n1 (e ▸ hb)
    rw [List.eraseIdx_cons_succ, List.filter_cons, if_pos (by simpa using this), erase_filter l j b n2 h]
theorem rem_data {ks : List Nat} {b : Nat} (nd : ks.Nodup) (hb : b ∈ ks) : ∃ (ns : List Int) (j : Nat), ks.map nV = ns.map V.int ∧ ns[j]? = some (b : Int) ∧ (∀ m : Nat, m < j → ns[m]? ≠ some (b : Int)) ∧ (ns.eraseIdx j).map V.int = (ks.filter fun k => decide (k ≠ b)).map nV := by
  obtain ⟨j, hj⟩ := List.getElem?_of_mem hb
  refine ⟨ks.map Int.ofNat, j, by rw [List.map_map]; rfl, by rw [List.getElem?_map, hj]; rfl, fun m hm z => ?_, ?_⟩
  · rw [List.getElem?_map] at z
    cases em : ks[m]? with
    | none => rw [em] at z; cases z
    | some c =>
      rw [em] at z
      have : c = b := by have := Option.some.inj z; exact Int.ofNat.inj this
      subst this
      have := nd_ix nd em hj
      omega
  · rw [← erase_filter ks j b nd hj, ← erase_mapI]
    have : ∀ (l : List Nat) (j : Nat), ((l.map Int.ofNat).map V.int).eraseIdx j = (l.eraseIdx j).map nV := fun l => by
      induction l with
      | nil => intro j; simp
      | cons a r ih =>
        intro j
        cases j with
        | zero => simp; exact fun _ _ => rfl
        | succ j =>
          have := ih j
          simp at this ⊢
          exact ⟨rfl, this⟩
    exact this ks j
/-! ### the plan's items -/
inductive ItemsAt (H : Hp) (N : Addr → Prop) : List V → List (Option (Nat × Bool)) → Prop
  | nil : ItemsAt H N [] []
  | non {vs : List V} {xs : List (Option (Nat × Bool))} (r : ItemsAt H N vs xs) : ItemsAt H N (.non :: vs) (none :: xs)
  | one {q : Addr} {k : Nat} {f : Bool} {vs : List V} {xs : List (Option (Nat × Bool))} (h : H q = some (.lst [.int (k : Int), .bl f])) (n : N q) (r : ItemsAt H N vs xs) : ItemsAt H N (.ref q :: vs) (some (k, f) :: xs)
theorem ItemsAt.keep {H H' : Hp} {N N' : Addr → Prop} {vs : List V} {xs : List (Option (Nat × Bool))} (h : ItemsAt H N vs xs) (k : ∀ q o, H q = some o → N q → H' q = some o ∧ N' q) : ItemsAt H' N' vs xs := by
  induction h with
  | nil => exact .nil
  | non r ih => exact .non ih
  | one h n r ih =>
    obtain ⟨a, b⟩ := k _ _ h n
    exact .one a b ih
theorem ItemsAt.app {H : Hp} {N : Addr → Prop} {vs ws : List V} {xs ys : List (Option (Nat × Bool))} (h : ItemsAt H N vs xs) (g : ItemsAt H N ws ys) : ItemsAt H N (vs ++ ws) (xs ++ ys) := by
  induction h with
  | nil => exact g
  | non r ih => exact .non ih
  | one h n r ih => exact .one h n ih
theorem ItemsAt.nones {H : Hp} {N : Addr → Prop} : ∀ n, ItemsAt H N (List.replicate n .non) (List.replicate n none)
  | 0 => .nil
  | n + 1 => .non (ItemsAt.nones n)
theorem ItemsAt.len {H : Hp} {N : Addr → Prop} {vs : List V} {xs : List (Option (Nat × Bool))} (h : ItemsAt H N vs xs) : vs.length = xs.length := by
  induction h with
  | nil => rfl
  | non r ih => rw [List.length_cons, List.length_cons, ih]
  | one h n r ih => rw [List.length_cons, List.length_cons, ih]
def dItem : Option (Nat × Bool) → PyData
  | none => .none
  | some (k, f) => .list [.int (k : Int), .bool f]
theorem ItemsAt.dp {K : PySem.W.Frag} {H : Hp} {N : Addr → Prop} {vs : List V} {xs : List (Option (Nat × Bool))} (h : ItemsAt H N vs xs) : DpAll K H vs (xs.map dItem) := by
  induction h with
  | nil => exact .nil
  | non r ih => exact .cons .non ih
  | one h n r ih => exact .cons (.lst (SqL.of h) (.cons (.int _) (.cons (.bl _) .nil))) ih
theorem lay_items : ∀ xs : List (Option (Nat × Bool)), PyData.canLayAll0 (xs.map dItem) = true
  | [] => by simp [PyData.canLayAll0]
  | none :: xs => by
    rw [List.map_cons, PyData.canLayAll0, lay_items xs]
    simp [PyData.canLay0, dItem]
  | some (k, f) :: xs => by
    rw [List.map_cons, PyData.canLayAll0, lay_items xs]
    simp [PyData.canLay0, dItem, PyData.canLayAll0]
theorem depth_items : ∀ xs : List (Option (Nat × Bool)), PyData.depthAll (xs.map dItem) ≤ 1
  | [] => by simp [PyData.depthAll]
  | none :: xs => by
    have ih := depth_items xs
    rw [List.map_cons, PyData.depthAll]
    simp [PyData.depth, dItem]
    exact ih
  | some (k, f) :: xs => by
    have ih := depth_items xs
    rw [List.map_cons, PyData.depthAll]
    simp [PyData.depth, dItem, PyData.depthAll]
    omega
theorem shaped_items (xs : List (Option (Nat × Bool))) : SeqAt.shaped (.list (xs.map dItem)) = true := by
  unfold SeqAt.shaped
  rw [PyData.canLay0, PyData.depth, lay_items]
  have := depth_items xs
  simp
  omega
theorem eqv_items (xs : List (Option (Nat × Bool))) : PyData.eqv (.list (xs.map dItem)) (dI []) = decide (xs = []) := by
  unfold dI
  rw [PyData.eqv]
  cases xs with
  | nil => simp [PyData.eqvAll]
  | cons x xs => simp [PyData.eqvAll]
/-! ### the law's round -/
def footZ (Pl pq T : Addr) (b : Addr) : Prop := b = Pl ∨ b = pq ∨ b = T
structure RoundAt (H : Hp) (X : Addr → Prop) (Pl pq T : Addr) (items : List (Option (Nat × Bool))) (ended : Nat) (keys : List Nat) : Prop where
  pl : H Pl = some (.lst [.ref pq, .int (ended : Int)])
  its : ∃ vs, H pq = some (.lst vs) ∧ ItemsAt H (fun q => ¬ X q ∧ ¬ footZ Pl pq T q) vs items
  th : H T = some (.lst (keys.map nV))
  nx : ∀ b, footZ Pl pq T b → ¬ X b
  n1 : Pl ≠ pq
  n2 : Pl ≠ T
  n3 : pq ≠ T
section
variable {H H' : Hp} {X X' : Addr → Prop} {Pl pq T : Addr} {items : List (Option (Nat × Bool))} {ended : Nat} {keys : List Nat}
theorem RoundAt.frm (h : RoundAt H X Pl pq T items ended keys) (f : Frm H X H' X') : RoundAt H' X' Pl pq T items ended keys := by
  obtain ⟨vs, hv, hi⟩ := h.its
  have g1 := f _ _ h.pl (h.nx _ (.inl rfl))
  have g2 := f _ _ hv (h.nx _ (.inr (.inl rfl)))
  have g3 := f _ _ h.th (h.nx _ (.inr (.inr rfl)))
  exact ⟨g1.1, ⟨vs, g2.1, hi.keep fun q o e n => let ⟨a, b⟩ := f q o e n.1; ⟨a, b, n.2⟩⟩, g3.1, fun b z => by
    rcases z with rfl | rfl | rfl
    · exact g1.2
    · exact g2.2
    · exact g3.2, h.n1, h.n2, h.n3⟩
theorem RoundAt.same (h : RoundAt H X Pl pq T items ended keys) (s : Same H H') : RoundAt H' X Pl pq T items ended keys := h.frm fun b o e n => ⟨s b o e, n⟩
theorem RoundAt.tracked (h : RoundAt H X Pl pq T items ended keys) {b : Addr} (z : footZ Pl pq T b) : ∃ o, H b = some o := by
  obtain ⟨vs, hv, hi⟩ := h.its
  rcases z with rfl | rfl | rfl
  · exact ⟨_, h.pl⟩
  · exact ⟨_, hv⟩
  · exact ⟨_, h.th⟩
/-- what is X's own is stored -/
theorem RoundAt.inX (h : RoundAt H X Pl pq T items ended keys) {q : Addr} {o : HO} (n : X q) : RoundAt (upd H q o) X Pl pq T items ended keys := by
  obtain ⟨vs, hv, hi⟩ := h.its
  have ne : ∀ b, footZ Pl pq T b → b ≠ q := fun b z e => h.nx b z (e ▸ n)
  exact ⟨by rw [upd_ne (ne _ (.inl rfl))]; exact h.pl, ⟨vs, by rw [upd_ne (ne _ (.inr (.inl rfl)))]; exact hv, hi.keep fun q' o' e m => ⟨by rw [upd_ne fun (z : q' = q) => m.1 (z ▸ n)]; exact e, m⟩⟩, by rw [upd_ne (ne _ (.inr (.inr rfl)))]; exact h.th, h.nx, h.n1, h.n2, h.n3⟩
theorem RoundAt.mono (h : RoundAt H X Pl pq T items ended keys) (m : ∀ b, X' b → X b) : RoundAt H X' Pl pq T items ended keys := by
  obtain ⟨vs, hv, hi⟩ := h.its
  exact ⟨h.pl, ⟨vs, hv, hi.keep fun q o e n => ⟨e, fun z => n.1 (m _ z), n.2⟩⟩, h.th, fun b z y => h.nx b z (m _ y), h.n1, h.n2, h.n3⟩
/-- a new address joins X -/
theorem RoundAt.more (h : RoundAt H X Pl pq T items ended keys) {q : Addr} {o : HO} (n : H q = none) : RoundAt (upd H q o) (fun b => X b ∨ b = q) Pl pq T items ended keys := by
  obtain ⟨vs, hv, hi⟩ := h.its
  have ne : ∀ b, footZ Pl pq T b → b ≠ q := fun b z e => by
    obtain ⟨o, e'⟩ := h.tracked z
    rw [e, n] at e'; cases e'
  refine ⟨by rw [upd_ne (ne _ (.inl rfl))]; exact h.pl, ⟨vs, by rw [upd_ne (ne _ (.inr (.inl rfl)))]; exact hv, hi.keep fun q' o' e m => ?_⟩, by rw [upd_ne (ne _ (.inr (.inr rfl)))]; exact h.th, fun b z y => y.elim (h.nx b z) (ne b z), h.n1, h.n2, h.n3⟩
  have nq : q' ≠ q := fun z => by rw [z, n] at e; cases e
  exact ⟨by rw [upd_ne nq]; exact e, fun y => y.elim m.1 nq, m.2⟩
/-- what is there is stored anew -/
theorem RoundAt.setT (h : RoundAt H X Pl pq T items ended keys) (keys' : List Nat) : RoundAt (upd H T (.lst (keys'.map nV))) X Pl pq T items ended keys' := by
  obtain ⟨vs, hv, hi⟩ := h.its
  exact ⟨by rw [upd_ne h.n2]; exact h.pl, ⟨vs, by rw [upd_ne h.n3]; exact hv, hi.keep fun q o e n => ⟨by rw [upd_ne fun (z : q = T) => n.2 (.inr (.inr z))]; exact e, n⟩⟩, upd_same, h.nx, h.n1, h.n2, h.n3⟩
/-- a round more has ended -/
theorem RoundAt.setE (h : RoundAt H X Pl pq T items ended keys) (e' : Nat) : RoundAt (upd H Pl (.lst [.ref pq, .int (e' : Int)])) X Pl pq T items e' keys := by
  obtain ⟨vs, hv, hi⟩ := h.its
  exact ⟨upd_same, ⟨vs, by rw [upd_ne h.n1.symm]; exact hv, hi.keep fun q o e n => ⟨by rw [upd_ne fun (z : q = Pl) => n.2 (.inl z)]; exact e, n⟩⟩, by rw [upd_ne h.n2.symm]; exact h.th, h.nx, h.n1, h.n2, h.n3⟩
/-- a step is taken -/
theorem RoundAt.pop {x : Option (Nat × Bool)} {v : V} {vs : List V} (h : RoundAt H X Pl pq T (x :: items) ended keys) (hv : H pq = some (.lst (v :: vs))) : RoundAt (upd H pq (.lst vs)) X Pl pq T items ended keys := by
  obtain ⟨vs', hv', hi⟩ := h.its
  rw [hv] at hv'
  cases hv'
  have hi' : ItemsAt H (fun q => ¬ X q ∧ ¬ footZ Pl pq T q) vs items := by
    cases hi with
    | non r => exact r
    | one h n r => exact r
  exact ⟨by rw [upd_ne h.n1]; exact h.pl, ⟨vs, upd_same, hi'.keep fun q o e n => ⟨by rw [upd_ne fun (z : q = pq) => n.2 (.inr (.inl z))]; exact e, n⟩⟩, by rw [upd_ne h.n3.symm]; exact h.th, h.nx, h.n1, h.n2, h.n3⟩
end
open Classical in
theorem plan_doS (S : HS) (d : Deed) : planOf (doS S d) = planOf S := by
  cases d with
  | put h s o => exact put_plan S _ s o
  | _ => rfl
theorem keys_doS (S : HS) (d : Deed) (h : ∀ h n, d ≠ .make h n) : (doS S d).keys = S.keys := by
  cases d with
  | make h' n => exact absurd rfl (h h' n)
  | put h s o => exact (put_fields S _ s o).1
  | _ => rfl
open Classical in
theorem phase_plan {S : HS} (G : Good S) : decide (V.str (Str.ofString (if (raw S).line = [] then (if (raw S).unsw = [] then "idle" else "sweeping") else "marking")) = V.str "idle") = decide (planOf S = []) := by
  have e := G.plan_idle
  by_cases h1 : S.line = []
  · by_cases h2 : S.unsw = []
    · rw [show (if (raw S).line = [] then (if (raw S).unsw = [] then "idle" else "sweeping") else "marking") = "idle" from (if_pos h1).trans (if_pos h2), decide_eq_true rfl, decide_eq_true (e.mpr ⟨h1, h2⟩)]
    · rw [show (if (raw S).line = [] then (if (raw S).unsw = [] then "idle" else "sweeping") else "marking") = "sweeping" from (if_pos h1).trans (if_neg h2), decide_eq_false (by decide), decide_eq_false fun z => h2 (e.mp z).2]
  · rw [show (if (raw S).line = [] then (if (raw S).unsw = [] then "idle" else "sweeping") else "marking") = "marking" from if_neg h1, decide_eq_false (by decide), decide_eq_false fun z => h1 (e.mp z).1]
theorem work_len (S : HS) : ∀ n, (HS.work n S).2.length ≤ n
  | 0 => Nat.le_refl _
  | n + 1 => by
    show ((HS.work n S).2 ++ (HS.work n S).1.piece.2.toList).length ≤ n + 1
    rw [List.length_append]
    have := work_len S n
    have : (HS.work n S).1.piece.2.toList.length ≤ 1 := by cases (HS.work n S).1.piece.2 <;> simp
    omega
end MP

set_option Elab.async false
set_option linter.all false
set_option maxRecDepth 100000
set_option maxHeartbeats 2000000
/-! Written deeds: figures, the text of a deed, what a line writes. -/
namespace MP
open PySem PySem.Spec PyProof.Rows L2 MM KG SX TL

/-- a number by figures -/
def figS (n : Nat) : Str := S (numL n)
def blank : Str := S [32]
def nought : Str := S [48]
/-- the words and how many numbers stand behind each -/
def cntOf (w : Str) : Option Nat :=
  if w = ("make" : Str) then some 2 else if w = ("take" : Str) then some 3 else if w = ("put" : Str) then some 3 else if w = ("share" : Str) then some 2 else if w = ("drop" : Str) then some 1 else if w = ("work" : Str) then some 1 else none
def isNum (z : Str) : Bool := if (Txt.isascii z && Txt.isdigit z) = true then (if z.length ≤ 60 then (decide (z = nought) || !Txt.startswith z nought) else false) else false
def valN (z : Str) : Nat := NumText.digitsVal (tl z)
/-- the deed that the parts of a line write -/
def parseP : List Str → Option (Str × List Nat)
  | [] => none
  | w :: figs => if cntOf w = some figs.length ∧ figs.all isNum = true then some (w, figs.map valN) else none
def parse (z : Str) : Option (Str × List Nat) := parseP (Txt.split z blank)

theorem digit_cls : ∀ c, c < 128 → Unicode.isDigit c = (decide (48 ≤ c) && decide (c ≤ 57)) := by decide +kernel
theorem tl_S (a : List Nat) : tl (S a) = a := rfl
theorem ascii_digits {z : Str} (h1 : Txt.isascii z = true) (h2 : Txt.isdigit z = true) : NumText.AllDigits (tl z) ∧ tl z ≠ [] := by
  unfold Txt.isascii at h1
  unfold Txt.isdigit at h2
  rw [Bool.and_eq_true, decide_eq_true_eq] at h2
  obtain ⟨h2, h3⟩ := h2
  refine ⟨fun c hc => ?_, fun e => ?_⟩
  · have hm : c ∈ z.cps := Array.mem_toList_iff.mp hc
    have a1 : c < 128 := of_decide_eq_true (Array.all_eq_true_iff_forall_mem.mp h1 c hm)
    have a2 := Array.all_eq_true_iff_forall_mem.mp h3 c hm
    rw [digit_cls c a1] at a2
    simp only [Bool.and_eq_true, decide_eq_true_eq] at a2
    exact a2
  · rw [len_tl, e] at h2
    exact absurd h2 (by decide)
theorem digits_ascii {a : List Nat} (h : NumText.AllDigits a) (hne : a ≠ []) : (Txt.isascii (S a) && Txt.isdigit (S a)) = true := by
  have hb : ∀ c ∈ (S a).cps, 48 ≤ c ∧ c ≤ 57 := fun c hc => h c (by simpa [S] using hc)
  rw [Bool.and_eq_true]
  constructor
  · unfold Txt.isascii
    exact Array.all_eq_true_iff_forall_mem.mpr fun c hc => decide_eq_true (by have := hb c hc; omega)
  · unfold Txt.isdigit
    rw [Bool.and_eq_true]
    refine ⟨decide_eq_true ?_, Array.all_eq_true_iff_forall_mem.mpr fun c hc => ?_⟩
    · rw [S_len]
      exact List.length_pos_iff.mpr hne
    · have := hb c hc
      rw [digit_cls c (by omega), decide_eq_true this.1, decide_eq_true this.2]
      rfl
/-- what int() makes of a number's text -/
theorem isNum_int {z : Str} (h : isNum z = true) : intText? z = some ((valN z : Nat) : Int) ∧ z.length ≤ 60 := by
  unfold isNum at h
  split at h
  · rename_i h1
    rw [Bool.and_eq_true] at h1
    obtain ⟨d1, d2⟩ := ascii_digits h1.1 h1.2
    split at h
    · rename_i h2
      exact ⟨intText_digits (x := z) d1 d2 (by omega), h2⟩
    · exact nomatch h
  · exact nomatch h
theorem starts_head {a : List Nat} (hne : a ≠ []) : Txt.startswith (S a) nought = decide (a.head? = some 48) := by
  cases a with
  | nil => exact absurd rfl hne
  | cons c r =>
    unfold Txt.startswith
    have e1 : (0 + nought.length ≤ (S (c :: r)).length) := by
      rw [S_len]
      show 0 + 1 ≤ r.length + 1
      omega
    rw [decide_eq_true e1, Bool.true_and]
    have ai := at_iff (x := S (c :: r)) (y := nought) (by show [48] ≠ []; simp) 0
    by_cases hc : c = 48
    · subst hc
      rw [show decide ((48 :: r).head? = some 48) = true from rfl]
      exact (ai.mpr (by show pre [48] (48 :: r) = true; simp [pre])).2
    · have : decide ((c :: r).head? = some 48) = false := decide_eq_false (fun h => hc (Option.some.inj h))
      rw [this]
      cases q : Builtin.Str.subAt (S (c :: r)) nought 0 with
      | false => rfl
      | true =>
        have z := ai.mp ⟨e1, q⟩
        have : pre [48] (c :: r) = true := z
        rw [pre_of_head [] r hc] at this
        exact nomatch this
theorem numL_head {n : Nat} : 0 < n → (numL n).head? ≠ some 48 := by
  induction n using Nat.strongRecOn with
  | _ n ih =>
    intro hn
    by_cases h : n < 10
    · rw [numL_lt h]
      intro e
      have := Option.some.inj e
      omega
    · rw [numL_step (by omega)]
      have z := ih (n / 10) (by omega) (by omega)
      have ne := numL_ne (n / 10)
      cases q : numL (n / 10) with
      | nil => exact absurd q ne
      | cons c r => rw [q] at z; exact z
theorem valN_fig (n : Nat) : valN (figS n) = n := numL_val n
theorem isNum_fig {n : Nat} (h : n < 10 ^ 60) : isNum (figS n) = true := by
  unfold isNum figS
  have l60 := numL_len (n := n) (k := 60) (by decide) h
  rw [if_pos (digits_ascii (numL_digits n) (numL_ne n)), if_pos (by rw [S_len]; exact l60), starts_head (numL_ne n)]
  by_cases h0 : n = 0
  · subst h0
    rw [show decide (S (numL 0) = nought) = true from by decide +kernel]
    rfl
  · rw [decide_eq_false (numL_head (by omega))]
    simp
theorem fig_free (n : Nat) : 32 ∉ tl (figS n) := numL_free (by omega)
theorem fig_str (n : Nat) : ((toString ((n : Nat) : Int) : String) : Str) = figS n := num_S n
theorem parse_told {w : Str} {ns : List Nat} (hw : cntOf w = some ns.length) (hf : 32 ∉ tl w) (hn : ∀ n ∈ ns, n < 10 ^ 60) : parse (Txt.join blank (w :: ns.map figS)) = some (w, ns) := by
  unfold parse
  rw [split_join (y := blank) (s := 32) (S := []) rfl (by decide +kernel) (by simp) (fun p hp => ?_)]
  · show (if cntOf w = some (ns.map figS).length ∧ (ns.map figS).all isNum = true then some (w, (ns.map figS).map valN) else none) = some (w, ns)
    have v : (ns.map figS).map valN = ns := by
      rw [List.map_map]
      conv => rhs; rw [← List.map_id ns]
      exact List.map_congr_left fun n _ => valN_fig n
    have al : (ns.map figS).all isNum = true := by
      refine List.all_eq_true.mpr fun x hx => ?_
      obtain ⟨n, hm, rfl⟩ := List.mem_map.mp hx
      exact isNum_fig (hn n hm)
    rw [if_pos ⟨by rw [List.length_map]; exact hw, al⟩, v]
  · rcases List.mem_cons.mp hp with rfl | hp
    · exact hf
    · obtain ⟨n, _, rfl⟩ := List.mem_map.mp hp
      exact fig_free n
theorem nought_eq : ("0" : Str) = nought := by decide +kernel
theorem blank_eq : (" " : Str) = blank := by decide +kernel
theorem isNum_1 {z : Str} (h : Txt.isascii z = false) : isNum z = false := by
  unfold isNum
  rw [h]
  rfl
theorem isNum_2 {z : Str} (h1 : Txt.isascii z = true) (h : Txt.isdigit z = false) : isNum z = false := by
  unfold isNum
  rw [h1, h]
  rfl
theorem isNum_3 {z : Str} (h1 : Txt.isascii z = true) (h2 : Txt.isdigit z = true) (h : ¬ z.length ≤ 60) : isNum z = false := by
  unfold isNum
  rw [h1, h2]
  exact (if_pos rfl).trans (if_neg h)
theorem isNum_4 {z : Str} (h1 : Txt.isascii z = true) (h2 : Txt.isdigit z = true) (h : z.length ≤ 60) : isNum z = (decide (z = nought) || !Txt.startswith z nought) := by
  unfold isNum
  rw [h1, h2]
  exact (if_pos rfl).trans (if_pos h)
theorem isNum_len {z : Str} (h : isNum z = true) : z.length ≤ 60 := (isNum_int h).2
theorem parseP_ok {w : Str} {figs : List Str} (h : cntOf w = some figs.length) (h2 : figs.all isNum = true) : parseP (w :: figs) = some (w, figs.map valN) := if_pos ⟨h, h2⟩
theorem parseP_no {w : Str} {figs : List Str} (h : ¬ (cntOf w = some figs.length ∧ figs.all isNum = true)) : parseP (w :: figs) = none := if_neg h
theorem spl_all (S : List Nat) : ∀ (l : List Nat) (k : Nat) (acc : List Nat), spl S k acc l ≠ [] ∧ (spl S k acc l).length ≤ l.length + 1 ∧ ∀ p ∈ spl S k acc l, p.length ≤ acc.length + l.length := by
  intro l
  induction l with
  | nil =>
    intro k acc
    rw [spl_nil]
    refine ⟨by simp, by simp, fun p hp => ?_⟩
    rw [List.mem_singleton.mp hp]
    simp
  | cons c r ih =>
    intro k acc
    cases k with
    | zero =>
      cases h : pre S (c :: r) with
      | true =>
        rw [spl_hit h]
        obtain ⟨a1, a2, a3⟩ := ih (S.length - 1) []
        refine ⟨by simp, by simp only [List.length_cons]; omega, fun p hp => ?_⟩
        rcases List.mem_cons.mp hp with rfl | hp
        · omega
        · have := a3 p hp
          simp only [List.length_nil, List.length_cons] at this ⊢
          omega
      | false =>
        rw [spl_miss h]
        obtain ⟨a1, a2, a3⟩ := ih 0 (acc ++ [c])
        refine ⟨a1, by simp only [List.length_cons]; omega, fun p hp => ?_⟩
        have := a3 p hp
        simp only [List.length_append, List.length_cons, List.length_nil] at this ⊢
        omega
    | succ k =>
      rw [spl_pass S (k + 1) acc (c :: r), List.drop_succ_cons, ← spl_pass S k acc r]
      obtain ⟨a1, a2, a3⟩ := ih k acc
      refine ⟨a1, by simp only [List.length_cons]; omega, fun p hp => ?_⟩
      have := a3 p hp
      simp only [List.length_cons] at this ⊢
      omega
theorem cutV_tail (a : V) (xs : List V) : cutV (a :: xs) (some 1) none = xs := by
  unfold cutV
  rw [show HT.sIx (a :: xs).length 0 (some 1) = min 1 (a :: xs).length from HT.sIx_nat _ 0 1, HT.sIx_none, List.length_cons, Nat.min_eq_left (by omega), List.drop_succ_cons, List.drop_zero]
  exact List.take_of_length_le (by omega)
/-- what the dict of the words gives -/
def CntAt (K : PySem.W.Frag) (d : Addr) (z : Str) : Prop := ∃ r, PySem.W.nsIn K d z = some r ∧ (match cntOf z with | some k => ∃ t, r = some (.int ((k : Nat) : Int) t) | none => r = none)
theorem cnt_at {K : PySem.W.Frag} {d : Addr} {es : Array DictEntry} {n : Nat} {oc : Value} {od : Option Addr} {sl : Array (Option Value)} {t1 t2 t3 t4 t5 t6 u1 u2 u3 u4 u5 u6 : Tok} (lk : K.lookup d = some ⟨oc, od, .dict es n, sl⟩)
    (kv : es.toList.map (fun e => (e.key, e.val)) = [(.str "make" t1, .int 2 u1), (.str "take" t2, .int 3 u2), (.str "put" t3, .int 3 u3), (.str "share" t4, .int 2 u4), (.str "drop" t5, .int 1 u5), (.str "work" t6, .int 1 u6)]) (z : Str) : CntAt K d z := by
  have nk : ∀ r, (match es.toList.find? (fun e => e.key.isStr z) with | some e => some (some e.val) | none => if es.toList.any (fun e => e.refKey) then none else some none) = r → PySem.W.nsIn K d z = r := fun r h => by
    unfold PySem.W.nsIn
    rw [lk]
    exact h
  generalize es.toList = l at kv nk
  have cons : ∀ {p : Value × Value} {ps : List (Value × Value)} {l : List DictEntry}, l.map (fun e => (e.key, e.val)) = p :: ps → ∃ e r, l = e :: r ∧ e.key = p.1 ∧ e.val = p.2 ∧ r.map (fun e => (e.key, e.val)) = ps := fun {p ps l} h => by
    cases l with
    | nil => exact nomatch h
    | cons e r =>
      rw [List.map_cons] at h
      injection h with h1 h2
      exact ⟨e, r, rfl, congrArg Prod.fst h1, congrArg Prod.snd h1, h2⟩
  obtain ⟨e1, r1, rfl, k1, v1, kv⟩ := cons kv
  obtain ⟨e2, r2, rfl, k2, v2, kv⟩ := cons kv
  obtain ⟨e3, r3, rfl, k3, v3, kv⟩ := cons kv
  obtain ⟨e4, r4, rfl, k4, v4, kv⟩ := cons kv
  obtain ⟨e5, r5, rfl, k5, v5, kv⟩ := cons kv
  obtain ⟨e6, r6, rfl, k6, v6, kv⟩ := cons kv
  have r0 : r6 = [] := List.map_eq_nil_iff.mp kv
  subst r0
  dsimp only at k1 k2 k3 k4 k5 k6 v1 v2 v3 v4 v5 v6
  have isS : ∀ (x y : Str) (t : Tok), (Value.str x t).isStr y = decide (x = y) := fun x y t => by
    unfold Value.isStr
    first
      | rfl
      | (by_cases h : x = y <;> simp [h])
  have ref0 : (List.any [e1, e2, e3, e4, e5, e6] fun e => e.refKey) = false := by
    simp [List.any, DictEntry.refKey, k1, k2, k3, k4, k5, k6]
  unfold CntAt cntOf
  by_cases c1 : z = ("make" : Str)
  · refine ⟨_, nk (some (some e1.val)) ?_, ?_⟩
    · rw [List.find?_cons_of_pos (by rw [k1, isS]; exact decide_eq_true c1.symm)]
    · rw [if_pos c1]
      exact ⟨u1, by rw [v1]; rfl⟩
  rw [if_neg c1]
  by_cases c2 : z = ("take" : Str)
  · refine ⟨_, nk (some (some e2.val)) ?_, ?_⟩
    · rw [List.find?_cons_of_neg (by rw [k1, isS]; simp [Ne.symm c1]), List.find?_cons_of_pos (by rw [k2, isS]; exact decide_eq_true c2.symm)]
    · rw [if_pos c2]
      exact ⟨u2, by rw [v2]; rfl⟩
  rw [if_neg c2]
  by_cases c3 : z = ("put" : Str)
  · refine ⟨_, nk (some (some e3.val)) ?_, ?_⟩
    · rw [List.find?_cons_of_neg (by rw [k1, isS]; simp [Ne.symm c1]), List.find?_cons_of_neg (by rw [k2, isS]; simp [Ne.symm c2]), List.find?_cons_of_pos (by rw [k3, isS]; exact decide_eq_true c3.symm)]
    · rw [if_pos c3]
      exact ⟨u3, by rw [v3]; rfl⟩
  rw [if_neg c3]
  by_cases c4 : z = ("share" : Str)
  · refine ⟨_, nk (some (some e4.val)) ?_, ?_⟩
    · rw [List.find?_cons_of_neg (by rw [k1, isS]; simp [Ne.symm c1]), List.find?_cons_of_neg (by rw [k2, isS]; simp [Ne.symm c2]), List.find?_cons_of_neg (by rw [k3, isS]; simp [Ne.symm c3]), List.find?_cons_of_pos (by rw [k4, isS]; exact decide_eq_true c4.symm)]
    · rw [if_pos c4]
      exact ⟨u4, by rw [v4]; rfl⟩
  rw [if_neg c4]
  by_cases c5 : z = ("drop" : Str)
  · refine ⟨_, nk (some (some e5.val)) ?_, ?_⟩
    · rw [List.find?_cons_of_neg (by rw [k1, isS]; simp [Ne.symm c1]), List.find?_cons_of_neg (by rw [k2, isS]; simp [Ne.symm c2]), List.find?_cons_of_neg (by rw [k3, isS]; simp [Ne.symm c3]), List.find?_cons_of_neg (by rw [k4, isS]; simp [Ne.symm c4]),
        List.find?_cons_of_pos (by rw [k5, isS]; exact decide_eq_true c5.symm)]
    · rw [if_pos c5]
      exact ⟨u5, by rw [v5]; rfl⟩
  rw [if_neg c5]
  by_cases c6 : z = ("work" : Str)
  · refine ⟨_, nk (some (some e6.val)) ?_, ?_⟩
    · rw [List.find?_cons_of_neg (by rw [k1, isS]; simp [Ne.symm c1]), List.find?_cons_of_neg (by rw [k2, isS]; simp [Ne.symm c2]), List.find?_cons_of_neg (by rw [k3, isS]; simp [Ne.symm c3]), List.find?_cons_of_neg (by rw [k4, isS]; simp [Ne.symm c4]),
        List.find?_cons_of_neg (by rw [k5, isS]; simp [Ne.symm c5]), List.find?_cons_of_pos (by rw [k6, isS]; exact decide_eq_true c6.symm)]
    · rw [if_pos c6]
      exact ⟨u6, by rw [v6]; rfl⟩
  rw [if_neg c6]
  refine ⟨none, nk _ ?_, rfl⟩
  rw [List.find?_cons_of_neg (by rw [k1, isS]; simp [Ne.symm c1]), List.find?_cons_of_neg (by rw [k2, isS]; simp [Ne.symm c2]), List.find?_cons_of_neg (by rw [k3, isS]; simp [Ne.symm c3]), List.find?_cons_of_neg (by rw [k4, isS]; simp [Ne.symm c4]),
    List.find?_cons_of_neg (by rw [k5, isS]; simp [Ne.symm c5]), List.find?_cons_of_neg (by rw [k6, isS]; simp [Ne.symm c6]), List.find?_nil]
  show (if (List.any [e1, e2, e3, e4, e5, e6] fun e => e.refKey) = true then none else some none) = some none
  rw [ref0]
  rfl
theorem six_at {K : PySem.W.Frag} {d : Addr} {es : Array DictEntry} {n : Nat} {oc : Value} {od : Option Addr} {sl : Array (Option Value)} {t1 t2 t3 t4 t5 t6 : Tok} {x1 x2 x3 x4 x5 x6 : Value} (lk : K.lookup d = some ⟨oc, od, .dict es n, sl⟩)
    (kv : es.toList.map (fun e => (e.key, e.val)) = [(.str "make" t1, x1), (.str "take" t2, x2), (.str "put" t3, x3), (.str "share" t4, x4), (.str "drop" t5, x5), (.str "work" t6, x6)]) (z : Str) :
    PySem.W.nsIn K d z = some (if z = ("make" : Str) then some x1 else if z = ("take" : Str) then some x2 else if z = ("put" : Str) then some x3 else if z = ("share" : Str) then some x4 else if z = ("drop" : Str) then some x5 else if z = ("work" : Str) then some x6 else none) := by
  have nk : ∀ r, (match es.toList.find? (fun e => e.key.isStr z) with | some e => some (some e.val) | none => if es.toList.any (fun e => e.refKey) then none else some none) = r → PySem.W.nsIn K d z = r := fun r h => by
    unfold PySem.W.nsIn
    rw [lk]
    exact h
  generalize es.toList = l at kv nk
  have cons : ∀ {p : Value × Value} {ps : List (Value × Value)} {l : List DictEntry}, l.map (fun e => (e.key, e.val)) = p :: ps → ∃ e r, l = e :: r ∧ e.key = p.1 ∧ e.val = p.2 ∧ r.map (fun e => (e.key, e.val)) = ps := fun {p ps l} h => by
    cases l with
    | nil => exact nomatch h
    | cons e r =>
      rw [List.map_cons] at h
      injection h with h1 h2
      exact ⟨e, r, rfl, congrArg Prod.fst h1, congrArg Prod.snd h1, h2⟩
  obtain ⟨e1, r1, rfl, k1, v1, kv⟩ := cons kv
  obtain ⟨e2, r2, rfl, k2, v2, kv⟩ := cons kv
  obtain ⟨e3, r3, rfl, k3, v3, kv⟩ := cons kv
  obtain ⟨e4, r4, rfl, k4, v4, kv⟩ := cons kv
  obtain ⟨e5, r5, rfl, k5, v5, kv⟩ := cons kv
  obtain ⟨e6, r6, rfl, k6, v6, kv⟩ := cons kv
  have r0 : r6 = [] := List.map_eq_nil_iff.mp kv
  subst r0
  dsimp only at k1 k2 k3 k4 k5 k6 v1 v2 v3 v4 v5 v6
  have isS : ∀ (x y : Str) (t : Tok), (Value.str x t).isStr y = decide (x = y) := fun x y t => by
    unfold Value.isStr
    first
      | rfl
      | (by_cases h : x = y <;> simp [h])
  have ref0 : (List.any [e1, e2, e3, e4, e5, e6] fun e => e.refKey) = false := by
    simp [List.any, DictEntry.refKey, k1, k2, k3, k4, k5, k6]
  by_cases c1 : z = ("make" : Str)
  · rw [if_pos c1]
    refine nk (some (some x1)) ?_
    rw [List.find?_cons_of_pos (by rw [k1, isS]; exact decide_eq_true c1.symm)]
    show some (some e1.val) = _
    rw [v1]
  rw [if_neg c1]
  by_cases c2 : z = ("take" : Str)
  · rw [if_pos c2]
    refine nk (some (some x2)) ?_
    rw [List.find?_cons_of_neg (by rw [k1, isS]; simp [Ne.symm c1]), List.find?_cons_of_pos (by rw [k2, isS]; exact decide_eq_true c2.symm)]
    show some (some e2.val) = _
    rw [v2]
  rw [if_neg c2]
  by_cases c3 : z = ("put" : Str)
  · rw [if_pos c3]
    refine nk (some (some x3)) ?_
    rw [List.find?_cons_of_neg (by rw [k1, isS]; simp [Ne.symm c1]), List.find?_cons_of_neg (by rw [k2, isS]; simp [Ne.symm c2]), List.find?_cons_of_pos (by rw [k3, isS]; exact decide_eq_true c3.symm)]
    show some (some e3.val) = _
    rw [v3]
  rw [if_neg c3]
  by_cases c4 : z = ("share" : Str)
  · rw [if_pos c4]
    refine nk (some (some x4)) ?_
    rw [List.find?_cons_of_neg (by rw [k1, isS]; simp [Ne.symm c1]), List.find?_cons_of_neg (by rw [k2, isS]; simp [Ne.symm c2]), List.find?_cons_of_neg (by rw [k3, isS]; simp [Ne.symm c3]), List.find?_cons_of_pos (by rw [k4, isS]; exact decide_eq_true c4.symm)]
    show some (some e4.val) = _
    rw [v4]
  rw [if_neg c4]
  by_cases c5 : z = ("drop" : Str)
  · rw [if_pos c5]
    refine nk (some (some x5)) ?_
    rw [List.find?_cons_of_neg (by rw [k1, isS]; simp [Ne.symm c1]), List.find?_cons_of_neg (by rw [k2, isS]; simp [Ne.symm c2]), List.find?_cons_of_neg (by rw [k3, isS]; simp [Ne.symm c3]), List.find?_cons_of_neg (by rw [k4, isS]; simp [Ne.symm c4]), List.find?_cons_of_pos (by rw [k5, isS]; exact decide_eq_true c5.symm)]
    show some (some e5.val) = _
    rw [v5]
  rw [if_neg c5]
  by_cases c6 : z = ("work" : Str)
  · rw [if_pos c6]
    refine nk (some (some x6)) ?_
    rw [List.find?_cons_of_neg (by rw [k1, isS]; simp [Ne.symm c1]), List.find?_cons_of_neg (by rw [k2, isS]; simp [Ne.symm c2]), List.find?_cons_of_neg (by rw [k3, isS]; simp [Ne.symm c3]), List.find?_cons_of_neg (by rw [k4, isS]; simp [Ne.symm c4]), List.find?_cons_of_neg (by rw [k5, isS]; simp [Ne.symm c5]), List.find?_cons_of_pos (by rw [k6, isS]; exact decide_eq_true c6.symm)]
    show some (some e6.val) = _
    rw [v6]
  rw [if_neg c6]
  refine nk (some none) ?_
  rw [List.find?_cons_of_neg (by rw [k1, isS]; simp [Ne.symm c1]), List.find?_cons_of_neg (by rw [k2, isS]; simp [Ne.symm c2]), List.find?_cons_of_neg (by rw [k3, isS]; simp [Ne.symm c3]), List.find?_cons_of_neg (by rw [k4, isS]; simp [Ne.symm c4]), List.find?_cons_of_neg (by rw [k5, isS]; simp [Ne.symm c5]), List.find?_cons_of_neg (by rw [k6, isS]; simp [Ne.symm c6]), List.find?_nil]
  show (if (List.any [e1, e2, e3, e4, e5, e6] fun e => e.refKey) = true then none else some none) = some none
  rw [ref0]
  rfl
theorem split_all (z : Str) : Txt.split z blank ≠ [] ∧ (Txt.split z blank).length ≤ z.length + 1 ∧ ∀ p ∈ Txt.split z blank, p.length ≤ z.length := by
  have e := split_spl z blank (by show [32] ≠ []; simp) (kind_ok (by decide +kernel))
  obtain ⟨a1, a2, a3⟩ := spl_all (tl blank) (tl z) 0 []
  rw [← e] at a1 a2 a3
  refine ⟨fun h => a1 (by rw [h]; rfl), ?_, fun p hp => ?_⟩
  · rw [List.length_map, ← len_tl] at a2
    exact a2
  · have := a3 (tl p) (List.mem_map.mpr ⟨p, hp, rfl⟩)
    rw [← len_tl, ← len_tl] at this
    simpa using this
/-! ### the walk of a line, sign by sign -/
theorem dig_find : ∀ k : Nat, k < 10 → Txt.find ("0123456789" : Str) ⟨#[48 + k]⟩ = (k : Int) := by decide +kernel
theorem dig_signs : ("0123456789" : Str).cps.toList = [48, 49, 50, 51, 52, 53, 54, 55, 56, 57] := by decide +kernel
theorem find_no {c : Nat} (h : ¬ (48 ≤ c ∧ c ≤ 57)) : Txt.find ("0123456789" : Str) ⟨#[c]⟩ = -1 := by
  have e := StrLaws.found_one ("0123456789" : Str) c
  have n : ¬ c ∈ ("0123456789" : Str).cps.toList := by
    rw [dig_signs]
    simp
    omega
  rw [decide_eq_false n] at e
  unfold Txt.find
  cases q : Builtin.Str.occurrences ("0123456789" : Str) ⟨#[c]⟩ 0 ("0123456789" : Str).length 1 with
  | nil => rfl
  | cons i r =>
    rw [q] at e
    exact nomatch e
theorem find_yes {c : Nat} (h : 48 ≤ c ∧ c ≤ 57) : Txt.find ("0123456789" : Str) ⟨#[c]⟩ = ((c - 48 : Nat) : Int) := by
  have := dig_find (c - 48) (by omega)
  rw [show 48 + (c - 48) = c by omega] at this
  exact this
/-- what a part's text is, by the law's own walk -/
def lawNum (z : Str) : Option Nat := if isNum z = true then some (valN z) else none
theorem isNum_empty {z : Str} (h : tl z = []) : isNum z = false := by
  cases q : isNum z with
  | false => rfl
  | true =>
    unfold isNum at q
    split at q
    · rename_i h1
      rw [Bool.and_eq_true] at h1
      exact absurd h (ascii_digits h1.1 h1.2).2
    · exact nomatch q
theorem isNum_long {z : Str} (h : ¬ z.length ≤ 60) : isNum z = false := by
  cases q : isNum z with
  | false => rfl
  | true => exact absurd (isNum_int q).2 h
theorem isNum_digits {z : Str} (h : isNum z = true) : NumText.AllDigits (tl z) := by
  unfold isNum at h
  split at h
  · rename_i h1
    rw [Bool.and_eq_true] at h1
    exact (ascii_digits h1.1 h1.2).1
  · exact nomatch h
theorem S_tl' (z : Str) : S (tl z) = z := TL.mk_tl z
theorem isNum_zero {z : Str} (h1 : (tl z).head? = some 48) (h2 : 1 < z.length) : isNum z = false := by
  cases q : isNum z with
  | false => rfl
  | true =>
    have d := isNum_digits q
    have e := isNum_len q
    have ne : tl z ≠ [] := fun h => by rw [h] at h1; exact nomatch h1
    unfold isNum at q
    have as := digits_ascii d ne
    rw [S_tl'] at as
    rw [if_pos as, if_pos e] at q
    have st := starts_head ne
    rw [S_tl', decide_eq_true h1] at st
    rw [st] at q
    have zn : z ≠ nought := fun h => by
      rw [h] at h2
      exact absurd h2 (by decide +kernel)
    rw [decide_eq_false zn] at q
    exact nomatch q
theorem isNum_all {z : Str} (d : NumText.AllDigits (tl z)) (ne : tl z ≠ []) (l : z.length ≤ 60) (h : ¬ ((tl z).head? = some 48 ∧ 1 < z.length)) : isNum z = true := by
  unfold isNum
  have as := digits_ascii d ne
  rw [S_tl'] at as
  rw [if_pos as, if_pos l]
  have st := starts_head ne
  rw [S_tl'] at st
  rw [st]
  by_cases c : (tl z).head? = some 48
  · have l1 : z.length ≤ 1 := by
      rcases Nat.lt_or_ge 1 z.length with g | g
      · exact absurd ⟨c, g⟩ h
      · exact g
    have : tl z = [48] := by
      cases q : tl z with
      | nil => exact absurd q ne
      | cons a r =>
        rw [q] at c
        rw [len_tl, q, List.length_cons] at l1
        have : r = [] := List.length_eq_zero_iff.mp (by omega)
        rw [this, Option.some.inj c]
    have zn : z = nought := ext_tl this
    rw [decide_eq_true zn]
    rfl
  · rw [decide_eq_false c]
    simp
theorem isNum_bad {z : Str} {c : Nat} (hc : c ∈ tl z) (h : ¬ (48 ≤ c ∧ c ≤ 57)) : isNum z = false := by
  cases q : isNum z with
  | false => rfl
  | true => exact absurd (isNum_digits q c hc) h
theorem spl_blank (acc r : List Nat) : spl [32] 0 acc (32 :: r) = acc :: spl [32] 0 [] r := spl_hit (by simp [pre])
theorem spl_other {acc r : List Nat} {c : Nat} (h : c ≠ 32) : spl [32] 0 acc (c :: r) = spl [32] 0 (acc ++ [c]) r := spl_miss (pre_of_head [] r h)
theorem split_tl (z : Str) : (Txt.split z blank).map tl = spl [32] 0 [] (tl z) := split_spl z blank (by show [32] ≠ []; simp) (kind_ok (by decide +kernel))
/-- the law's lists of words and counts -/
abbrev wordsV : List V := [.str "make", .str "take", .str "put", .str "share", .str "drop", .str "work"]
abbrev cntsV : List V := [.int 2, .int 3, .int 3, .int 2, .int 1, .int 1]
theorem word_in (x : Str) : inV (V.str x) wordsV = (cntOf x).isSome := by
  unfold cntOf inV
  simp only [List.any_cons, List.any_nil, eqV, Bool.or_false]
  have b : ∀ a : Str, (a == x) = decide (x = a) := fun a => by
    by_cases h : x = a
    · subst h; simp
    · rw [decide_eq_false h]
      simp [Ne.symm h]
  simp only [b]
  by_cases c1 : x = ("make" : Str)
  · subst c1
    decide +kernel
  by_cases c2 : x = ("take" : Str)
  · subst c2
    decide +kernel
  by_cases c3 : x = ("put" : Str)
  · subst c3
    decide +kernel
  by_cases c4 : x = ("share" : Str)
  · subst c4
    decide +kernel
  by_cases c5 : x = ("drop" : Str)
  · subst c5
    decide +kernel
  by_cases c6 : x = ("work" : Str)
  · subst c6
    decide +kernel
  simp [c1, c2, c3, c4, c5, c6]
theorem word_ix {x : Str} {k : Nat} (h : cntOf x = some k) : ∃ j : Nat, wordsV[j]? = some (V.str x) ∧ (∀ (m : Nat) (z' : V), m < j → wordsV[m]? = some z' → eqV z' (V.str x) = false) ∧ atI cntsV ((j : Nat) : Int) = some (V.int ((k : Nat) : Int)) ∧ k ≤ 3 := by
  unfold cntOf at h
  have nn : ∀ {n : Nat} {z : V}, (∀ m, m < n → ∀ z', wordsV[m]? = some z' → eqV z' z = false) → ∀ (m : Nat) (z' : V), m < n → wordsV[m]? = some z' → eqV z' z = false := fun h m z' hm e => h m hm z' e
  have ix : ∀ n : Nat, n < 6 → ∀ m, m < n → ∀ z', wordsV[m]? = some z' → eqV z' (wordsV.getD n .non) = false := by
    intro n hn m hm z' e
    have : z' = wordsV.getD m .non := by rw [List.getD_eq_getElem?_getD, e]; rfl
    subst this
    revert m n
    decide +kernel
  split at h
  · rename_i c; subst c; injection h with h; subst h
    exact ⟨0, rfl, fun m z' hm => by omega, rfl, by decide⟩
  split at h
  · rename_i _ c; subst c; injection h with h; subst h
    exact ⟨1, rfl, fun m z' hm e => ix 1 (by decide) m hm z' e, rfl, by decide⟩
  split at h
  · rename_i _ _ c; subst c; injection h with h; subst h
    exact ⟨2, rfl, fun m z' hm e => ix 2 (by decide) m hm z' e, rfl, by decide⟩
  split at h
  · rename_i _ _ _ c; subst c; injection h with h; subst h
    exact ⟨3, rfl, fun m z' hm e => ix 3 (by decide) m hm z' e, rfl, by decide⟩
  split at h
  · rename_i _ _ _ _ c; subst c; injection h with h; subst h
    exact ⟨4, rfl, fun m z' hm e => ix 4 (by decide) m hm z' e, rfl, by decide⟩
  split at h
  · rename_i _ _ _ _ _ c; subst c; injection h with h; subst h
    exact ⟨5, rfl, fun m z' hm e => ix 5 (by decide) m hm z' e, rfl, by decide⟩
  · exact nomatch h
theorem atI_last {xs : List V} {x : V} : atI (xs ++ [x]) (-1) = some x := by
  unfold atI ixN
  rw [if_neg (by decide), List.length_append, List.length_singleton, if_pos (by omega), show (-1 + ((xs.length + 1 : Nat) : Int)).toNat = xs.length by omega]
  simp
theorem ixN_last (n : Nat) : ixN (n + 1) (-1) = some n := by
  unfold ixN
  rw [if_neg (by decide), if_pos (by omega), show (-1 + ((n + 1 : Nat) : Int)).toNat = n by omega]
theorem noneIn : ∀ l : List (Option Nat), inV V.non (l.map optV) = decide (none ∈ l)
  | [] => by simp [inV]
  | none :: l => by simp [inV, optV, eqV]
  | some b :: l => by
    have ih := noneIn l
    unfold inV at ih ⊢
    rw [List.map_cons, List.any_cons, ih]
    simp [optV, eqV]
theorem op_mul_text {X : Cx} : OpR X (binaryOp .Mult) (fun x y H Q => ∃ (z : Str) (n : Int), x = .str z ∧ y = .int n ∧ z.length ≤ 100 ∧ 0 ≤ n ∧ n ≤ 1000 ∧ Q (.str (Txt.mul z n)) H) := by
  intro pins s σ H x y v u Q I rx ry h
  obtain ⟨z, n, rfl, rfl, hz, h0, hn, q⟩ := h
  obtain ⟨t, rfl⟩ := rx
  obtain ⟨t', rfl⟩ := ry
  exact PySem.SB.mul (mulOk_of 100 1000 hz hn (by omega) (by decide) (by decide)) fun t1 k => ⟨.str _, H, I.tok _, ⟨_, rfl⟩, q⟩
theorem word_at (c : Int) : ∃ (W : Str) (k : Nat), atI wordsV (c % 6) = some (V.str W) ∧ atI cntsV (c % 6) = some (V.int ((k : Nat) : Int)) ∧ cntOf W = some k ∧ 32 ∉ tl W ∧ W.length ≤ 5 ∧ 1 ≤ k ∧ k ≤ 3 ∧ 1 ≤ W.length := by
  have : c % 6 = 0 ∨ c % 6 = 1 ∨ c % 6 = 2 ∨ c % 6 = 3 ∨ c % 6 = 4 ∨ c % 6 = 5 := by omega
  rcases this with h | h | h | h | h | h
  · rw [h]; exact ⟨"make", 2, rfl, rfl, by decide +kernel, by decide +kernel, by decide +kernel, by decide, by decide, by decide +kernel⟩
  · rw [h]; exact ⟨"take", 3, rfl, rfl, by decide +kernel, by decide +kernel, by decide +kernel, by decide, by decide, by decide +kernel⟩
  · rw [h]; exact ⟨"put", 3, rfl, rfl, by decide +kernel, by decide +kernel, by decide +kernel, by decide, by decide, by decide +kernel⟩
  · rw [h]; exact ⟨"share", 2, rfl, rfl, by decide +kernel, by decide +kernel, by decide +kernel, by decide, by decide, by decide +kernel⟩
  · rw [h]; exact ⟨"drop", 1, rfl, rfl, by decide +kernel, by decide +kernel, by decide +kernel, by decide, by decide, by decide +kernel⟩
  · rw [h]; exact ⟨"work", 1, rfl, rfl, by decide +kernel, by decide +kernel, by decide +kernel, by decide, by decide, by decide +kernel⟩
theorem join_snoc (y x : Str) : ∀ (xs : List Str) (a : Str), Txt.join y (a :: xs ++ [x]) = Txt.join y (a :: xs) ++ y ++ x := by
  have key : ∀ (xs : List Str) (a : Str), tl (Str.join y (a :: xs ++ [x])) = tl (Str.join y (a :: xs)) ++ tl y ++ tl x := by
    intro xs
    induction xs with
    | nil =>
      intro a
      rw [tl_join, tl_join]
      show tl a ++ (tl y ++ tl x) = tl a ++ tl y ++ tl x
      rw [List.append_assoc]
    | cons b r ih =>
      intro a
      have h1 : tl (Str.join y (a :: (b :: r) ++ [x])) = tl a ++ (tl y ++ tl (Str.join y (b :: r ++ [x]))) := by
        rw [tl_join, tl_join]
        rfl
      have h2 : tl (Str.join y (a :: b :: r)) = tl a ++ (tl y ++ tl (Str.join y (b :: r))) := by
        rw [tl_join, tl_join]
        rfl
      rw [h1, h2, ih b]
      simp only [List.append_assoc]
  intro xs a
  refine ext_tl ?_
  rw [join_eq, join_eq, tl_append, tl_append]
  exact key xs a
theorem atI_some {α : Type} {xs : List α} {i : Int} (h0 : 0 ≤ i) (h : i < xs.length) : ∃ c, atI xs i = some c ∧ c ∈ xs := by
  obtain ⟨j, rfl⟩ : ∃ j : Nat, i = (j : Int) := ⟨i.toNat, by omega⟩
  have hj : j < xs.length := by omega
  exact ⟨xs[j], atI_nat (List.getElem?_eq_getElem hj), List.getElem_mem hj⟩
theorem len_app (a b : Str) : (a ++ b).length = a.length + b.length := by
  have := congrArg List.length (tl_append a b)
  rw [List.length_append, ← len_tl, ← len_tl, ← len_tl] at this
  exact this
theorem len_mul_le {z : Str} {n : Int} (h1 : z.length ≤ 1) (h : n ≤ 100) : (Txt.mul z n).length ≤ 100 := by
  have := len_mul_leN (x := z) (n := n) (L := 1) (N := 100) h1 (by omega)
  omega
theorem parse_cnt {z : Str} {w : Str} {ns : List Nat} (h : parse z = some (w, ns)) : cntOf w = some ns.length := by
  unfold parse at h
  cases e : Txt.split z blank with
  | nil => rw [e] at h; exact nomatch h
  | cons x figs =>
    rw [e] at h
    by_cases c : cntOf x = some figs.length ∧ figs.all isNum = true
    · rw [show parseP (x :: figs) = some (x, figs.map valN) from if_pos c] at h
      injection h with h
      injection h with h1 h2
      subst h1 h2
      rw [List.length_map]
      exact c.1
    · rw [parseP_no c] at h
      exact nomatch h
theorem empty_app (x : Str) : Str.empty ++ x = x := Str.append_left_empty rfl
end MP

set_option Elab.async false
set_option linter.all false
set_option maxRecDepth 100000
set_option maxHeartbeats 4000000
/-! A call of a local name that holds one of several defs, with a starred argument. -/
namespace MP
open PySem PySem.Spec PyProof.Rows L2 MM KG
def Act (P : Program) (w : World) (K : PySem.W.Frag) (mg : Str → Option Value) (base : Heap) (CX : CXT) (k : Nat) (f : Addr) (sp : Sp) : Prop :=
  ∃ (fd : FuncData) (ps : List Str), FnOk P w K mg base CX k f fd ps sp ∧ PySem.W.keepIn K (.ref f) = true ∧ Binds K fd ps []
def tCallAS (P : Program) (w : World) (K : PySem.W.Frag) (mg : Str → Option Value) (base : Heap) (CX : CXT) (k i : Nat) (E : XK) (t : TA) : TE := fun σ H Q => ∃ f sp, σ[i]? = some (some (.ref f)) ∧ Act P w K mg base CX k f sp ∧ t σ H fun vs H1 => sp vs H1 Q E
section
variable {X : Cx} {CX : CXT} {k i : Nat} {E : XK} {x : Str} {p pos : Pos} {e : Expr} {es : List Expr} {t : TA}
theorem pe_callAS (hr : Room k X.A) (hN : X.N[i]? = some x) (hv : Vis X.env.scope x) (hx : Passes CX X E) (ha : PA X (e :: es) t)
    (hdb : (x == ("__debug__" : Str)) = false := by decide) (hcd : (x == ("__classdict__" : Str)) = false := by decide)
    (he : starEach (e :: es) X.env = (false, eval e X.env) :: starEach es X.env := by rfl) (hst : (backTo pos (starEach es X.env)).any (·.1) = true := by rfl) :
    PE X (.Call (.Name x p) (e :: es) [] pos) (tCallAS X.prog X.w X.K X.mg X.base CX k i E t) := by
  refine ⟨fun pins s σ H Q I h => ?_⟩
  obtain ⟨f, sp, hs, ⟨fd, ps, F, hk, hb⟩, ht⟩ := h
  refine wpAny_Call_Name_kw (thn ((pe_var (pos := p) hN hv hdb hcd).run pins s σ H (fun v H1 => v = .ref f ∧ H1 = H) I ⟨.ref f, hs, rfl, rfl⟩) fun u s1 ⟨v, H1, I1, r1, q1⟩ => ?_)
  obtain ⟨rfl, rfl⟩ := q1
  cases r1
  refine PySem.W.callWith_S2 (h₀ := X.base) I.ok.mod.kin hk (thn (ha.run pos pins s1 σ _ _ I1 ht) fun us s2 ⟨vs, H2, I2, r, q⟩ => ⟨I2.kIn, ?_⟩) he hst
  exact wpAny_call (run_fnR (F.raw hb .nil) hr hx I2 r (by rw [List.append_nil]; exact q))
end
end MP

set_option Elab.async false
set_option linter.all false
set_option pp.maxSteps 700
set_option maxRecDepth 100000
set_option maxHeartbeats 4000000
namespace MK
open PySem PySem.Spec PyProof.Rows L2 MM KG MP
def topS (i : Nat) : Stmt := PySem.Challenge.pw_markpause_k12_played.main.body.getD i (.Pass ⟨0, 0, 0, 0⟩)
abbrev sHeapInit : Stmt := inClass (topS 15) 0
abbrev sHeapMake : Stmt := inClass (topS 15) 1
abbrev sHeapTake : Stmt := inClass (topS 15) 2
abbrev sHeapPut : Stmt := inClass (topS 15) 3
abbrev sHeapShare : Stmt := inClass (topS 15) 4
abbrev sHeapDrop : Stmt := inClass (topS 15) 5
abbrev sHeapHeld : Stmt := inClass (topS 15) 6
abbrev sHeapBoxes : Stmt := inClass (topS 15) 8
abbrev sHeapWork : Stmt := inClass (topS 15) 9
abbrev sHeapPhase : Stmt := inClass (topS 15) 10
abbrev sHeapDoPiece : Stmt := inClass (topS 15) 14
abbrev sHeapBeginRound : Stmt := inClass (topS 15) 15
abbrev sHeapMarkOn : Stmt := inClass (topS 15) 16
abbrev sHeapSweepOn : Stmt := inClass (topS 15) 17
abbrev sHeapEndRound : Stmt := inClass (topS 15) 18
abbrev sHeapMark : Stmt := inClass (topS 15) 19
abbrev sHeapNeedHand : Stmt := inClass (topS 15) 20
abbrev sHeapRowWith : Stmt := inClass (topS 15) 21
abbrev sRead : Stmt := topS 19
abbrev sIsNumber : Stmt := topS 20
abbrev sMake : Stmt := topS 22
abbrev sTake : Stmt := topS 23
abbrev sPut : Stmt := topS 24
abbrev sShare : Stmt := topS 25
abbrev sDrop : Stmt := topS 26
abbrev sWork : Stmt := topS 27
abbrev sHolds : Stmt := topS 28
abbrev sDone : Stmt := topS 30
abbrev sAnswered : Stmt := topS 31
abbrev sPlayed : Stmt := topS 32
abbrev sCellAt : Stmt := topS 34
abbrev sMixedAt : Stmt := topS 35
abbrev sCame : Stmt := topS 38
abbrev sParts : Stmt := topS 39
abbrev sPieces : Stmt := topS 40
abbrev sLwHeld : Stmt := topS 41
abbrev sSlotted : Stmt := topS 42
abbrev sMade : Stmt := topS 43
abbrev sHands : Stmt := topS 44
abbrev sAnswer : Stmt := topS 45
abbrev sLaw : Stmt := topS 46
theorem scHeapInit : FnScope ["self", "hands", "room"] ["self", "hands", "room"] (defScope sHeapInit) := ⟨rfl, rfl, rfl, by decide +kernel, rfl, by decide +kernel, by decide +kernel⟩
theorem scHeapMake : FnScope ["self", "hand", "slots", "box"] ["self", "hand", "slots"] (defScope sHeapMake) := ⟨rfl, rfl, rfl, by decide +kernel, rfl, by decide +kernel, by decide +kernel⟩
theorem scHeapTake : FnScope ["self", "hand", "other", "slot", "row"] ["self", "hand", "other", "slot"] (defScope sHeapTake) := ⟨rfl, rfl, rfl, by decide +kernel, rfl, by decide +kernel, by decide +kernel⟩
theorem scHeapPut : FnScope ["self", "hand", "slot", "other", "row"] ["self", "hand", "slot", "other"] (defScope sHeapPut) := ⟨rfl, rfl, rfl, by decide +kernel, rfl, by decide +kernel, by decide +kernel⟩
theorem scHeapShare : FnScope ["self", "hand", "other"] ["self", "hand", "other"] (defScope sHeapShare) := ⟨rfl, rfl, rfl, by decide +kernel, rfl, by decide +kernel, by decide +kernel⟩
theorem scHeapDrop : FnScope ["self", "hand"] ["self", "hand"] (defScope sHeapDrop) := ⟨rfl, rfl, rfl, by decide +kernel, rfl, by decide +kernel, by decide +kernel⟩
theorem scHeapHeld : FnScope ["self", "hand"] ["self", "hand"] (defScope sHeapHeld) := ⟨rfl, rfl, rfl, by decide +kernel, rfl, by decide +kernel, by decide +kernel⟩
theorem scHeapBoxes : FnScope ["self"] ["self"] (defScope sHeapBoxes) := ⟨rfl, rfl, rfl, by decide +kernel, rfl, by decide +kernel, by decide +kernel⟩
theorem scHeapWork : FnScope ["self", "pieces", "freed", "_", "box"] ["self", "pieces"] (defScope sHeapWork) := ⟨rfl, rfl, rfl, by decide +kernel, rfl, by decide +kernel, by decide +kernel⟩
theorem scHeapPhase : FnScope ["self"] ["self"] (defScope sHeapPhase) := ⟨rfl, rfl, rfl, by decide +kernel, rfl, by decide +kernel, by decide +kernel⟩
theorem scHeapDoPiece : FnScope ["self", "freed", "phase"] ["self"] (defScope sHeapDoPiece) := ⟨rfl, rfl, rfl, by decide +kernel, rfl, by decide +kernel, by decide +kernel⟩
theorem scHeapBeginRound : FnScope ["self", "box"] ["self"] (defScope sHeapBeginRound) := ⟨rfl, rfl, rfl, by decide +kernel, rfl, by decide +kernel, by decide +kernel⟩
theorem scHeapMarkOn : FnScope ["self", "box", "inner"] ["self"] (defScope sHeapMarkOn) := ⟨rfl, rfl, rfl, by decide +kernel, rfl, by decide +kernel, by decide +kernel⟩
theorem scHeapSweepOn : FnScope ["self", "box"] ["self"] (defScope sHeapSweepOn) := ⟨rfl, rfl, rfl, by decide +kernel, rfl, by decide +kernel, by decide +kernel⟩
theorem scHeapEndRound : FnScope ["self"] ["self"] (defScope sHeapEndRound) := ⟨rfl, rfl, rfl, by decide +kernel, rfl, by decide +kernel, by decide +kernel⟩
theorem scHeapMark : FnScope ["self", "box"] ["self", "box"] (defScope sHeapMark) := ⟨rfl, rfl, rfl, by decide +kernel, rfl, by decide +kernel, by decide +kernel⟩
theorem scHeapNeedHand : FnScope ["self", "hand"] ["self", "hand"] (defScope sHeapNeedHand) := ⟨rfl, rfl, rfl, by decide +kernel, rfl, by decide +kernel, by decide +kernel⟩
theorem scHeapRowWith : FnScope ["self", "hand", "slot", "box", "row"] ["self", "hand", "slot"] (defScope sHeapRowWith) := ⟨rfl, rfl, rfl, by decide +kernel, rfl, by decide +kernel, by decide +kernel⟩
theorem scRead : FnScope ["line", "parts", "word", "figures", "numbers", "text"] ["line"] (defScope sRead) := ⟨rfl, rfl, rfl, by decide +kernel, rfl, by decide +kernel, by decide +kernel⟩
theorem scIsNumber : FnScope ["text"] ["text"] (defScope sIsNumber) := ⟨rfl, rfl, rfl, by decide +kernel, rfl, by decide +kernel, by decide +kernel⟩
theorem scMake : FnScope ["heap", "hand", "slots", "box"] ["heap", "hand", "slots"] (defScope sMake) := ⟨rfl, rfl, rfl, by decide +kernel, rfl, by decide +kernel, by decide +kernel⟩
theorem scTake : FnScope ["heap", "hand", "other", "slot"] ["heap", "hand", "other", "slot"] (defScope sTake) := ⟨rfl, rfl, rfl, by decide +kernel, rfl, by decide +kernel, by decide +kernel⟩
theorem scPut : FnScope ["heap", "hand", "slot", "other"] ["heap", "hand", "slot", "other"] (defScope sPut) := ⟨rfl, rfl, rfl, by decide +kernel, rfl, by decide +kernel, by decide +kernel⟩
theorem scShare : FnScope ["heap", "hand", "other"] ["heap", "hand", "other"] (defScope sShare) := ⟨rfl, rfl, rfl, by decide +kernel, rfl, by decide +kernel, by decide +kernel⟩
theorem scDrop : FnScope ["heap", "hand"] ["heap", "hand"] (defScope sDrop) := ⟨rfl, rfl, rfl, by decide +kernel, rfl, by decide +kernel, by decide +kernel⟩
theorem scWork : FnScope ["heap", "pieces", "freed", "numbers", "box"] ["heap", "pieces"] (defScope sWork) := ⟨rfl, rfl, rfl, by decide +kernel, rfl, by decide +kernel, by decide +kernel⟩
theorem scHolds : FnScope ["heap", "hand", "box"] ["heap", "hand"] (defScope sHolds) := ⟨rfl, rfl, rfl, by decide +kernel, rfl, by decide +kernel, by decide +kernel⟩
theorem scDone : FnScope ["heap", "line", "deed", "action", "numbers"] ["heap", "line"] (defScope sDone) := ⟨rfl, rfl, rfl, by decide +kernel, rfl, by decide +kernel, by decide +kernel⟩
theorem scAnswered : FnScope ["heap", "line"] ["heap", "line"] (defScope sAnswered) := ⟨rfl, rfl, rfl, by decide +kernel, rfl, by decide +kernel, by decide +kernel⟩
theorem scPlayed : FnScope ["hands", "room", "lines", "heap", "line"] ["hands", "room", "lines"] (defScope sPlayed) := ⟨rfl, rfl, rfl, by decide +kernel, rfl, by decide +kernel, by decide +kernel⟩
theorem scCellAt : FnScope ["_law_script", "_law_k"] ["_law_script", "_law_k"] (defScope sCellAt) := ⟨rfl, rfl, rfl, by decide +kernel, rfl, by decide +kernel, by decide +kernel⟩
theorem scMixedAt : FnScope ["_law_script", "_law_k"] ["_law_script", "_law_k"] (defScope sMixedAt) := ⟨rfl, rfl, rfl, by decide +kernel, rfl, by decide +kernel, by decide +kernel⟩
theorem scCame : FnScope ["_law_hands_here", "_law_rows", "_law_came_here", "_law_met", "_law_box", "_law_at", "_law_row"] ["_law_hands_here", "_law_rows"] (defScope sCame) := ⟨rfl, rfl, rfl, by decide +kernel, rfl, by decide +kernel, by decide +kernel⟩
theorem scParts : FnScope ["_law_cell", "_law_many", "_law_rest", "_law_one", "_law_other", "_law_last", "_law_odd"] ["_law_cell", "_law_many"] (defScope sParts) := ⟨rfl, rfl, rfl, by decide +kernel, rfl, by decide +kernel, by decide +kernel⟩
theorem scPieces : FnScope ["_law_state", "_law_pieces_here", "_law_due", "_law_k", "_law_came_here", "_law_step", "_law_box"] ["_law_state", "_law_pieces_here"] (defScope sPieces) := ⟨rfl, rfl, rfl, by decide +kernel, rfl, by decide +kernel, by decide +kernel⟩
theorem scLwHeld : FnScope ["_law_box"] ["_law_box"] (defScope sLwHeld) := ⟨rfl, rfl, rfl, by decide +kernel, rfl, by decide +kernel, by decide +kernel⟩
theorem scSlotted : FnScope ["_law_state", "_law_parts_here", "_law_hand", "_law_slot", "_law_box"] ["_law_state", "_law_parts_here"] (defScope sSlotted) := ⟨rfl, rfl, rfl, by decide +kernel, rfl, by decide +kernel, by decide +kernel⟩
theorem scMade : FnScope ["_law_state", "_law_parts_here", "_law_room", "_law_k"] ["_law_state", "_law_parts_here", "_law_room"] (defScope sMade) := ⟨rfl, rfl, rfl, by decide +kernel, rfl, by decide +kernel, by decide +kernel⟩
theorem scHands : FnScope ["_law_parts_here"] ["_law_parts_here"] (defScope sHands) := ⟨rfl, rfl, rfl, by decide +kernel, rfl, by decide +kernel, by decide +kernel⟩
theorem scAnswer : FnScope ["_law_state", "_law_parts_here", "_law_many", "_law_room"] ["_law_state", "_law_parts_here", "_law_many", "_law_room"] (defScope sAnswer) := ⟨rfl, rfl, rfl, by decide +kernel, rfl, by decide +kernel, by decide +kernel⟩
theorem scLaw : FnScope ["_law_script", "_law_many", "_law_room", "_law_rows", "_law_lines", "_law_handed", "_law_state", "_law_found", "_law_k", "_law_parts_here", "_law_part"] ["_law_script"] (defScope sLaw) := ⟨rfl, rfl, rfl, by decide +kernel, rfl, by decide +kernel, by decide +kernel⟩
end MK

set_option Elab.async false
set_option linter.all false
set_option pp.maxSteps 700
set_option maxRecDepth 100000
set_option maxHeartbeats 4000000
namespace MK
open PySem PySem.Spec PyProof.Rows L2 MM KG MP
section
variable {P : Program} {w : World} {K : PySem.W.Frag} {mg : Str → Option Value} {base : Heap} {C : Addr} {EC : ECs}
theorem ok_need {f : Addr} {fd : FuncData} (F : Fun K "_need_hand" "Heap._need_hand" sHeapNeedHand f fd) (T : HeapTxt K mg C) (T_NoHand : ExC K mg "NoHand" EC.noHand) (m_len : mg "len" = none) : FnOk P w K mg base (CX P w) 1 f fd ["self", "hand"] (spNeed C EC) := by
  refine F.okX scHeapNeedHand (fun vs H Q E h => ?_) (fun cdv A outer s H vs Q E hr h => ?_)
  · obtain ⟨p, A, R, h, rfl, _⟩ := h
    rfl
  · obtain ⟨p, A, R, h, rfl, hA, h8, q⟩ := h
    refine ⟨_, (pss_one (ps_if (pt_not (pt_chain op_le op_lt pe_int (pv 1) (pe_callB (lenS (K := K)) (by rfl) m_len (by decide +kernel) (pa_cons (peFld (K := K) (pv 0) rfl) pa_nil)))) (pss_one (ps_raise rfl (takes_of rfl rfl rfl rfl) (pmk_own PySem.F.excBase_ValueError T_NoHand.xP T_NoHand.gP T_NoHand.kP (raises_own T_NoHand.bP T_NoHand.tP) rfl))) pss_nil)), ?_⟩
    refine ⟨_, rfl, _, _, rfl, rfl, _, rfl, ite2 (fun e => ?_) (fun e => ?_)⟩
    · refine ⟨_, rfl, p, C, _, _, _, rfl, hA.ob, T.cl, T.n_hands, rfl, A.f .hands, _, rfl, .inl (SqL.of hA.hands), _, _, rfl, rfl, _, rfl, ?_⟩
      rw [List.length_map]
      by_cases c : h < R.hands.length
      · rw [if_pos ⟨of_decide_eq_true e, c⟩] at q
        exact iteNS c q
      · rw [if_neg fun z => c z.2] at q
        exact iteNT c q
    · rw [if_neg fun z => e (decide_eq_true z.1)] at q
      exact ⟨_, rfl, iteT q⟩
theorem ok_row {f : Addr} {fd : FuncData} (F : Fun K "_row_with" "Heap._row_with" sHeapRowWith f fd) (T : HeapTxt K mg C) (T_NothingHeld : ExC K mg "NothingHeld" EC.nothing) (T_NoSlot : ExC K mg "NoSlot" EC.noSlot) (m_len : mg "len" = none) : FnOk P w K mg base (CX P w) 1 f fd ["self", "hand", "slot"] (spRow C EC) := by
  refine F.okX scHeapRowWith (fun vs H Q E h => ?_) (fun cdv A outer s H vs Q E hr h => ?_)
  · obtain ⟨p, A, R, h, s, rfl, _⟩ := h
    rfl
  · obtain ⟨p, A, R, h, s, rfl, hA, h8, hh, q⟩ := h
    have hu := hu_of hr
    refine ⟨_, (pss_cons (ps_set (i := 3) scHeapRowWith.nd rfl (.inl rfl) (pe_ix (ixL (K := K)) (peFld (K := K) (pv 0) rfl) (pv 1) (fun _ _ => rfl)))
      (pss_cons (ps_if (pt_cmpR op_isN (pv 3) pe_non (nomark _)) (pss_one (ps_raise rfl (takes_of rfl rfl rfl rfl) (pmk_own PySem.F.excBase_ValueError T_NothingHeld.xP T_NothingHeld.gP T_NothingHeld.kP (raises_own T_NothingHeld.bP T_NothingHeld.tP) rfl))) pss_nil)
      (pss_cons (ps_set (i := 4) scHeapRowWith.nd rfl (.inl rfl) (pe_dget hu (peFld (K := K) (pv 0) rfl) (pv 3) (fun _ _ => rfl)))
      (pss_cons (ps_if (pt_not (pt_chain op_le op_lt pe_int (pv 2) (pe_callB (lenS (K := K)) (by rfl) m_len (by decide +kernel) (pa_cons (pv 4) pa_nil)))) (pss_one (ps_raise rfl (takes_of rfl rfl rfl rfl) (pmk_own PySem.F.excBase_ValueError T_NoSlot.xP T_NoSlot.gP T_NoSlot.kP (raises_own T_NoSlot.bP T_NoSlot.tP) rfl))) pss_nil)
      (pss_one (ps_ret (pv 4))))))), ?_⟩
    refine ⟨_, rfl, p, C, _, _, _, rfl, hA.ob, T.cl, T.n_hands, rfl, _, rfl, A.f .hands, _, _, optV (R.hands.getD h none), rfl, rfl, SqL.of hA.hands, atI_opt hh, ?_⟩
    cases e : R.hands.getD h none with
    | none =>
      rw [e] at q
      exact ⟨_, rfl, rfl, _, rfl, iteT q⟩
    | some k =>
      rw [e] at q
      obtain ⟨hk, h4, q⟩ := q
      refine ⟨_, rfl, rfl, _, rfl, iteF ?_⟩
      refine ⟨_, rfl, p, C, _, _, _, rfl, hA.ob, T.cl, T.n_rows, rfl, _, rfl, A.f .rows, .ref (A.f (.row k)), rfl, dget_row hA hk, ?_⟩
      refine ⟨_, rfl, _, _, rfl, rfl, _, rfl, ite2 (fun e => ?_) (fun e => ?_)⟩
      · refine ⟨_, rfl, A.f (.row k), _, rfl, .inl (SqL.of (hA.row hk)), _, _, rfl, rfl, _, rfl, ?_⟩
        rw [List.length_map]
        by_cases c : s < (R.row k).length
        · rw [if_pos ⟨of_decide_eq_true e, c⟩] at q
          exact iteNS c ⟨_, rfl, q⟩
        · rw [if_neg fun z => c z.2] at q
          exact iteNT c q
      · rw [if_neg fun z => e (decide_eq_true z.1)] at q
        exact ⟨_, rfl, iteT q⟩
theorem ok_phase {f : Addr} {fd : FuncData} (F : Fun K "phase" "Heap.phase" sHeapPhase f fd) (T : HeapTxt K mg C) : FnOk P w K mg base CX0 1 f fd ["self"] (spPhase C) := by
  refine F.ok scHeapPhase (fun vs H Q E h => ?_) (fun cdv A outer s H vs Q E hr h => ?_)
  · obtain ⟨p, A, R, rfl, _⟩ := h
    rfl
  · obtain ⟨p, A, R, rfl, hA, h1, h2, q⟩ := h
    refine ⟨_, (pss_cons (ps_if (pt_truth (peFld (K := K) (pv 0) rfl) (by intro _; rfl)) (pss_one (ps_ret pe_str)) pss_nil)
      (pss_cons (ps_if (pt_truth (peFld (K := K) (pv 0) rfl) (by intro _; rfl)) (pss_one (ps_ret pe_str)) pss_nil)
      (pss_one (ps_ret pe_str)))), ?_⟩
    refine ⟨_, rfl, p, C, _, _, _, rfl, hA.ob, T.cl, T.n_line, rfl, !R.line.isEmpty, .inl ⟨_, SqL.of hA.line, by rw [List.isEmpty_map]⟩, ?_⟩
    by_cases e : R.line = []
    · rw [if_pos e] at q
      rw [e]
      refine iteF ?_
      refine ⟨_, rfl, p, C, _, _, _, rfl, hA.ob, T.cl, T.n_unsw, rfl, !R.unsw.isEmpty, .inl ⟨_, SqL.of hA.unsw, by rw [List.isEmpty_map]⟩, ?_⟩
      by_cases e2 : R.unsw = []
      · rw [if_pos e2] at q
        rw [e2]
        exact iteF q
      · rw [if_neg e2] at q
        rw [show (!R.unsw.isEmpty) = true by simp [e2]]
        exact iteT q
    · rw [if_neg e] at q
      rw [show (!R.line.isEmpty) = true by simp [e]]
      exact iteT q
theorem ok_mark {f : Addr} {fd : FuncData} (F : Fun K "_mark" "Heap._mark" sHeapMark f fd) (T : HeapTxt K mg C) : FnOk P w K mg base CX0 1 f fd ["self", "box"] (spMark C) := by
  refine F.ok scHeapMark (fun vs H Q E h => ?_) (fun cdv A outer s H vs Q E hr h => ?_)
  · obtain ⟨p, A, R, o, rfl, _⟩ := h
    rfl
  · obtain ⟨p, A, R, o, rfl, hA, h1, h2, q⟩ := h
    have hu := hu_of hr
    refine ⟨_, (pss_one (ps_if (PW.pt (pw_and (pt_cmp (pc_dinN hu (pv 1) (peFld (K := K) (pv 0) rfl))) (pw_and1 (pt_cmp (pc_dnotin hu (pv 1) (peFld (K := K) (pv 0) rfl)))))) (pss_cons (ps_dput hu (peFld (K := K) (pv 0) rfl) (pv 1) pe_bl rfl)
      (pss_one (ps_expr (pe_bm PySem.F.plainAttrs_list PySem.F.slot_list_append PySem.F.type_list_append mt_append (peFld (K := K) (pv 0) rfl) (pa_cons (pv 1) pa_nil))))) pss_nil)), ?_⟩
    cases o with
    | none =>
      refine ⟨_, rfl, _, rfl, p, C, _, _, _, rfl, hA.ob, T.cl, T.n_old, rfl, .inr ⟨A.f .old, _, rfl, rfl, .inl hA.old, ?_⟩⟩
      exact ⟨_, rfl, iteF (iteF (q H hA (Frm.refl _ _)))⟩
    | some k =>
      refine ⟨_, rfl, _, rfl, p, C, _, _, _, rfl, hA.ob, T.cl, T.n_old, rfl, .inl ⟨A.f .old, _, rfl, DGet.k (k := kK k) hA.old, ?_⟩⟩
      rw [valV_true]
      by_cases c1 : k ∈ R.old
      · rw [if_pos c1]
        refine ⟨_, rfl, iteT ?_⟩
        refine ⟨_, rfl, _, rfl, p, C, _, _, _, rfl, hA.ob, T.cl, T.n_marks, rfl, A.f .marks, _, rfl, DGet.k (k := kK k) hA.marks, ?_⟩
        rw [valV_true]
        by_cases c2 : k ∈ R.marks
        · rw [if_pos c2]
          refine ⟨_, rfl, iteF ?_⟩
          have e : R.markO (some k) = R := if_neg fun z => z.2 c2
          rw [e] at q
          exact q H hA (Frm.refl _ _)
        · rw [if_neg c2]
          refine ⟨_, rfl, iteT ?_⟩
          have e : R.markO (some k) = { R with marks := R.marks ++ [k], line := R.line ++ [k] } := if_pos ⟨c1, c2⟩
          rw [e] at q
          refine ⟨_, rfl, p, C, _, _, _, rfl, hA.ob, T.cl, T.n_marks, rfl, _, rfl, A.f .marks, _, rfl, DPut.k (k := kK k) hA.marks (size_of (by unfold dTrue; rw [List.length_map]; omega)), ?_⟩
          rw [putK_true c2]
          have a1 := hA.pMarks (R.marks ++ [k])
          have fr := (Frm.refl H (foot A R)).put (o := .dK (dTrue (R.marks ++ [k]))) (hA.foot_on (s := .marks) trivial)
          generalize upd H (A.f .marks) (.dK (dTrue (R.marks ++ [k]))) = H1 at a1 fr
          refine ⟨_, rfl, p, C, _, _, _, rfl, a1.ob, T.cl, T.n_line, rfl, .inl ⟨rfl, _, SqL.of a1.line⟩, _, rfl, A.f .line, _, _, rfl, rfl, a1.line, size_of (by rw [List.length_map]; show R.line.length ≤ _; omega), ?_⟩
          have a2 := a1.pLine (R.line ++ [k])
          rw [List.map_append] at a2
          refine q _ a2 ?_
          exact fr.put (hA.foot_on (s := .line) trivial)
      · rw [if_neg c1]
        refine ⟨_, rfl, iteF (iteF ?_)⟩
        have e : R.markO (some k) = R := if_neg fun z => c1 z.1
        rw [e] at q
        exact q H hA (Frm.refl _ _)
end
end MK

set_option Elab.async false
set_option linter.all false
set_option pp.maxSteps 700
set_option maxRecDepth 100000
set_option maxHeartbeats 4000000
namespace MK
open PySem PySem.Spec PyProof.Rows L2 MM KG MP
section
variable {P : Program} {w : World} {K : PySem.W.Frag} {mg : Str → Option Value} {base : Heap} {C : Addr} {EC : ECs}
theorem ok_init {f : Addr} {fd : FuncData} {t8 t1000 : Tok} (F : Fun K "__init__" "Heap.__init__" sHeapInit f fd) (T : HeapTxt K mg C) (T_NoHeap : ExC K mg "NoHeap" EC.noHeap) (m_MOST_HANDS : mg "MOST_HANDS" = some (.int 8 t8)) (m_MOST_ROOM : mg "MOST_ROOM" = some (.int 1000 t1000)) : FnOk P w K mg base (CX P w) 1 f fd ["self", "hands", "room"] (spInit C EC) := by
  refine F.okX scHeapInit (fun vs H Q E h => ?_) (fun cdv A outer s H vs Q E hr h => ?_)
  · obtain ⟨p, dx, n, r, rfl, _⟩ := h
    rfl
  · obtain ⟨p, dx, n, r, rfl, hp, q⟩ := h
    refine ⟨_, (pss_cons (ps_if (pt_not (pt_chain op_le op_le pe_int (pv 1) (pe_glob (v := .int 8) (by rfl) m_MOST_HANDS ⟨_, rfl⟩))) (pss_one (ps_raise rfl (takes_of rfl rfl rfl rfl) (pmk_own PySem.F.excBase_ValueError T_NoHeap.xP T_NoHeap.gP T_NoHeap.kP (raises_own T_NoHeap.bP T_NoHeap.tP) rfl))) pss_nil)
      (pss_cons (ps_if (pt_not (pt_chain op_le op_le pe_int (pv 2) (pe_glob (v := .int 1000) (by rfl) m_MOST_ROOM ⟨_, rfl⟩))) (pss_one (ps_raise rfl (takes_of rfl rfl rfl rfl) (pmk_own PySem.F.excBase_ValueError T_NoHeap.xP T_NoHeap.gP T_NoHeap.kP (raises_own T_NoHeap.bP T_NoHeap.tP) rfl))) pss_nil)
      (pss_cons (ps_fld (pv 0) (pe_op op_rep (pe_lst (pa_cons pe_non pa_nil)) (pv 1)) rfl)
      (pss_cons (ps_fld (pv 0) (pv 2) rfl)
      (pss_cons (ps_fld (pv 0) pe_dnewK rfl)
      (pss_cons (ps_fld (pv 0) pe_int rfl)
      (pss_cons (ps_fld (pv 0) pe_int rfl)
      (pss_cons (ps_fld (pv 0) pe_dnewK rfl)
      (pss_cons (ps_fld (pv 0) pe_dnewK rfl)
      (pss_cons (ps_fld (pv 0) (pe_lst pa_nil) rfl)
      (pss_one (ps_fld (pv 0) (pe_lst pa_nil) rfl)))))))))))), ?_⟩
    by_cases c1 : 1 ≤ n ∧ n ≤ 8
    · refine ⟨_, rfl, _, _, rfl, rfl, _, rfl, ?_⟩
      rw [decide_eq_true c1.1]
      refine iteT ⟨_, _, rfl, rfl, _, rfl, iteNS c1.2 ?_⟩
      by_cases c2 : 1 ≤ r ∧ r ≤ 1000
      · rw [if_pos ⟨c1, c2⟩] at q
        refine ⟨_, rfl, _, _, rfl, rfl, _, rfl, ?_⟩
        rw [decide_eq_true c2.1]
        refine iteT ⟨_, _, rfl, rfl, _, rfl, iteNS c2.2 ?_⟩
        have B := Bld.start hp
        refine ⟨by show 1 ≤ sizeLine; decide, fun t nt => ?_⟩
        have B := B.tmp (o := .lst [.non]) nt
        refine ⟨_, rfl, t, n, _, rfl, rfl, upd_same, by omega, by omega, by show 1 * n.toNat ≤ sizeLine; exact Nat.le_of_lt (size_of (by omega)), fun qh nh => ?_⟩
        have B := B.alloc (o := .lst (List.replicate n.toNat [V.non]).flatten) nh
        generalize upd (upd H t _) qh _ = H1 at B
        refine ⟨_, rfl, p, C, _, _, rfl, B.ob, T.cl, T.n_hands, by show 0 < 1000; decide, ?_⟩
        have B := B.fld [("_hands", .ref qh)]
        refine ⟨_, rfl, _, rfl, p, C, _, _, rfl, B.ob, T.cl, T.n_room, by show 1 < 1000; decide, ?_⟩
        have B := B.fld [("_hands", .ref qh), ("_room", .int r)]
        refine fun qr nr => ?_
        have B := B.alloc (o := .dK []) nr
        refine ⟨_, rfl, p, C, _, _, rfl, B.ob, T.cl, T.n_rows, by show 2 < 1000; decide, ?_⟩
        have B := B.fld [("_hands", .ref qh), ("_room", .int r), ("_rows", .ref qr)]
        refine ⟨_, rfl, p, C, _, _, rfl, B.ob, T.cl, T.n_made, by show 3 < 1000; decide, ?_⟩
        have B := B.fld [("_hands", .ref qh), ("_room", .int r), ("_rows", .ref qr), ("_made", .int 0)]
        refine ⟨_, rfl, p, C, _, _, rfl, B.ob, T.cl, T.n_ended, by show 4 < 1000; decide, ?_⟩
        have B := B.fld [("_hands", .ref qh), ("_room", .int r), ("_rows", .ref qr), ("_made", .int 0), ("_ended", .int 0)]
        refine fun qo no => ?_
        have B := B.alloc (o := .dK []) no
        refine ⟨_, rfl, p, C, _, _, rfl, B.ob, T.cl, T.n_old, by show 5 < 1000; decide, ?_⟩
        have B := B.fld [("_hands", .ref qh), ("_room", .int r), ("_rows", .ref qr), ("_made", .int 0), ("_ended", .int 0), ("_old", .ref qo)]
        refine fun qm nm => ?_
        have B := B.alloc (o := .dK []) nm
        refine ⟨_, rfl, p, C, _, _, rfl, B.ob, T.cl, T.n_marks, by show 6 < 1000; decide, ?_⟩
        have B := B.fld [("_hands", .ref qh), ("_room", .int r), ("_rows", .ref qr), ("_made", .int 0), ("_ended", .int 0), ("_old", .ref qo), ("_marks", .ref qm)]
        refine ⟨Nat.zero_le _, fun ql nl => ?_⟩
        have B := B.alloc (o := .lst []) nl
        refine ⟨_, rfl, p, C, _, _, rfl, B.ob, T.cl, T.n_line, by show 7 < 1000; decide, ?_⟩
        have B := B.fld [("_hands", .ref qh), ("_room", .int r), ("_rows", .ref qr), ("_made", .int 0), ("_ended", .int 0), ("_old", .ref qo), ("_marks", .ref qm), ("_line", .ref ql)]
        refine ⟨Nat.zero_le _, fun qu nu => ?_⟩
        have B := B.alloc (o := .lst []) nu
        refine ⟨_, rfl, p, C, _, _, rfl, B.ob, T.cl, T.n_unsw, by show 8 < 1000; decide, ?_⟩
        have B := B.fld (fl (.ref qh) (.int r) (.ref qr) (.int 0) (.int 0) (.ref qo) (.ref qm) (.ref ql) (.ref qu))
        rw [rep_none] at B
        obtain ⟨F', h1, h2⟩ := B.heap c1 c2
        exact q _ F' h1 h2
      · rw [if_neg fun z => c2 z.2] at q
        refine ⟨_, rfl, _, _, rfl, rfl, _, rfl, ite2 (fun e => ?_) (fun e => ?_)⟩
        · exact ⟨_, _, rfl, rfl, _, rfl, iteNT (fun z => c2 ⟨of_decide_eq_true e, z⟩) q⟩
        · exact ⟨_, rfl, iteT q⟩
    · rw [if_neg fun z => c1 z.1] at q
      refine ⟨_, rfl, _, _, rfl, rfl, _, rfl, ite2 (fun e => ?_) (fun e => ?_)⟩
      · exact ⟨_, _, rfl, rfl, _, rfl, iteNT (fun z => c1 ⟨of_decide_eq_true e, z⟩) q⟩
      · exact ⟨_, rfl, iteT q⟩
end
end MK

set_option Elab.async false
set_option linter.all false
set_option pp.maxSteps 700
set_option maxRecDepth 100000
set_option maxHeartbeats 4000000
namespace MK
open PySem PySem.Spec PyProof.Rows L2 MM KG MP
section
variable {P : Program} {w : World} {K : PySem.W.Frag} {mg : Str → Option Value} {base : Heap} {C : Addr} {EC : ECs}
theorem ok_make {f fN : Addr} {fd fdN : FuncData} {t4 : Tok} (F : Fun K "make" "Heap.make" sHeapMake f fd) (T : HeapTxt K mg C) (D__need_hand : Dm P w K mg base (CX P w) 1 C "_need_hand" fN fdN ["self", "hand"] (spNeed C EC))
    (T_NoSlot : ExC K mg "NoSlot" EC.noSlot) (T_NoRoom : ExC K mg "NoRoom" EC.noRoom) (m_MOST_SLOTS : mg "MOST_SLOTS" = some (.int 4 t4)) (m_len : mg "len" = none) : FnOk P w K mg base (CX P w) 2 f fd ["self", "hand", "slots"] (spMake C EC) := by
  refine F.okX scHeapMake (fun vs H Q E h => ?_) (fun cdv A outer s H vs Q E hr h => ?_)
  · obtain ⟨p, F, S, h, n, rfl, _⟩ := h
    rfl
  · obtain ⟨p, F, S, h, n, rfl, ⟨A, hA, rfl, G⟩, q⟩ := h
    have hu := hu_of hr
    refine ⟨_, (pss_cons (ps_expr (pe_meth (pv 0) D__need_hand.c D__need_hand.m D__need_hand.g (hr.mono (by decide)) D__need_hand.b .nil (passes_call (takes_of rfl rfl rfl rfl) (fun _ _ _ _ h => h)) (pa_cons (pv 1) pa_nil)))
      (pss_cons (ps_if (pt_not (pt_chain op_le op_le pe_int (pv 2) (pe_glob (v := .int 4) (by rfl) m_MOST_SLOTS ⟨_, rfl⟩))) (pss_one (ps_raise rfl (takes_of rfl rfl rfl rfl) (pmk_own PySem.F.excBase_ValueError T_NoSlot.xP T_NoSlot.gP T_NoSlot.kP (raises_own T_NoSlot.bP T_NoSlot.tP) rfl))) pss_nil)
      (pss_cons (ps_if (pt_cmpR op_ge (pe_callB call_lenD (by rfl) m_len (by decide +kernel) (pa_cons (peFld (K := K) (pv 0) rfl) pa_nil)) (peFld (K := K) (pv 0) rfl) (nomark _)) (pss_one (ps_raise rfl (takes_of rfl rfl rfl rfl) (pmk_own PySem.F.excBase_ValueError T_NoRoom.xP T_NoRoom.gP T_NoRoom.kP (raises_own T_NoRoom.bP T_NoRoom.tP) rfl))) pss_nil)
      (pss_cons (ps_set (i := 3) scHeapMake.nd rfl (.inl rfl) (peFld (K := K) (pv 0) rfl))
      (pss_cons (ps_fldaug (pv 0) pe_int in_add)
      (pss_cons (ps_dput hu (peFld (K := K) (pv 0) rfl) (pv 3) (pe_op op_rep (pe_lst (pa_cons pe_non pa_nil)) (pv 2)) rfl)
      (pss_cons (ps_asg (pv 3) (pg_sub (peFld (K := K) (pv 0) rfl) (pv 1) set_list))
      (pss_one (ps_ret (pv 3)))))))))), ?_⟩
    refine ⟨_, rfl, p, A.dx, _, rfl, hA.ob, rfl, _, rfl, p, A, raw S, h, rfl, hA, G.hn.2, ?_⟩
    by_cases c : okHand S h
    · rw [if_pos c] at q
      refine (if_pos c).mpr ?_
      by_cases c2 : 0 ≤ n ∧ n ≤ 4
      · rw [if_pos c2] at q
        refine ⟨_, rfl, _, _, rfl, rfl, _, rfl, ?_⟩
        rw [decide_eq_true c2.1]
        refine iteT ⟨_, _, rfl, rfl, _, rfl, iteNS c2.2 ?_⟩
        refine ⟨_, rfl, p, C, _, _, _, rfl, hA.ob, T.cl, T.n_rows, rfl, A.f .rows, _, rfl, hA.rows, _, rfl, p, C, _, _, _, rfl, hA.ob, T.cl, T.n_room, rfl, _, _, rfl, rfl, _, rfl, ?_⟩
        have el : (dRows A (raw S)).length = S.keys.length := by unfold dRows; rw [List.length_map]; rfl
        by_cases c3 : S.keys.length < S.room
        · rw [if_pos c3] at q
          rw [decide_eq_false (by rw [el]; show ¬ ((S.keys.length : Int) ≥ (S.room : Int)); omega)]
          refine iteF ?_
          refine ⟨_, rfl, p, C, _, _, _, rfl, hA.ob, T.cl, T.n_made, rfl, ?_⟩
          refine ⟨_, rfl, p, C, _, _, _, rfl, hA.ob, T.cl, T.n_made, rfl, _, _, rfl, rfl, A.dx, _, hA.ob, by show 9 < 1000; decide, ?_⟩
          have a1 := hA.fMade (S.rows.length + 1)
          have f1 := (Frm.refl H (foot A (raw S))).put (o := .ins C A.dx (putF "_made" (.int ((S.rows.length + 1 : Nat) : Int)) (flds A (raw S)))) hA.foot_p
          have e1 : ((raw S).made : Int) + 1 = ((S.rows.length + 1 : Nat) : Int) := rfl
          rw [e1]
          generalize upd H p _ = H1 at a1 f1
          refine ⟨by show 1 ≤ sizeLine; decide, fun t nt => ?_⟩
          have a2 := a1.same (same_new (o := .lst [.non]) nt)
          have f2 := f1.same (same_new (o := .lst [.non]) nt)
          refine ⟨_, rfl, t, n, _, rfl, rfl, upd_same, by omega, by omega, by show 1 * n.toNat ≤ sizeLine; exact Nat.le_of_lt (size_of (by omega)), fun qr nr => ?_⟩
          generalize upd H1 t _ = H2 at a2 f2 nr
          have nqH : H qr = none := f2.free nr (a2.fresh nr)
          have a3 := a2.same (same_new (o := .lst (List.replicate n.toNat [V.non]).flatten) nr)
          have f3 := f2.same (same_new (o := .lst (List.replicate n.toNat [V.non]).flatten) nr)
          have hq : (upd H2 qr (.lst (List.replicate n.toNat [V.non]).flatten)) qr = some (.lst ((List.replicate n.toNat (none : Option Nat)).map optV)) := by rw [upd_same, rep_none]
          have nf : ¬ foot A (raw S) qr := a2.fresh nr
          generalize upd H2 qr _ = H3 at a3 f3 hq
          have nk : S.rows.length ∉ S.keys := fun z => Nat.lt_irrefl _ (G.lt _ z)
          refine ⟨_, rfl, p, C, _, _, _, rfl, a3.ob, T.cl, T.n_rows, rfl, _, rfl, A.f .rows, _, rfl, DPut.k (k := kK S.rows.length) a3.rows (size_of (by unfold dRows; rw [List.length_map]; exact Nat.le_trans G.keysn (by decide))), ?_⟩
          rw [putK_new _ (by rw [valV_rows]; exact if_neg nk)]
          have a4 := a3.addRow (k := S.rows.length) hq nf nk
          have f4 := ((f3.put (o := .dK (dRows A { raw S with made := S.rows.length + 1 } ++ [(kK S.rows.length, V.ref qr)])) (hA.foot_on (s := .rows) trivial)).grow nqH fun b z => foot_mv (R := raw S) (s := .row S.rows.length) (q := qr) (R' := { raw S with made := S.rows.length + 1, keys := S.keys ++ [S.rows.length], row := fun j => if j = S.rows.length then List.replicate n.toNat none else (raw S).row j }) (fun k hk => (List.mem_append.mp hk).imp id fun y => by rw [List.mem_singleton.mp y]) z)
          generalize upd H3 (A.f .rows) _ = H4 at a4 f4
          generalize A.mv (.row S.rows.length) qr = A' at a4 f4
          have hlen : h.toNat < S.hands.length := by have := c.2; have := c.1; omega
          have hix : ixN (S.hands.map optV).length h = some h.toNat := by
            have := ixN_nat (n := (S.hands.map optV).length) (j := h.toNat) (by rw [List.length_map]; exact hlen)
            rw [← this]
            congr 1
            have := c.1; omega
          refine ⟨_, rfl, _, rfl, p, C, _, _, _, rfl, a4.ob, T.cl, T.n_hands, rfl, _, rfl, A'.f .hands, _, _, h.toNat, rfl, rfl, a4.hands, hix, ?_⟩
          have es : (S.hands.map optV).set h.toNat (.int ((S.rows.length : Nat) : Int)) = (S.hands.set h.toNat (some S.rows.length)).map optV := set_opt _ _ (some _)
          have a5 := a4.pHands (S.hands.set h.toNat (some S.rows.length))
          have f5 := f4.put (o := .lst ((S.hands.set h.toNat (some S.rows.length)).map optV)) (a4.foot_on (s := .hands) trivial)
          refine ⟨_, rfl, q _ (foot A' (raw (S.make h.toNat n.toNat))) ⟨A', ?_, rfl, G.make (by omega) c3⟩ ?_⟩
          · rw [raw_make]
            dsimp only [raw]
            rw [es]
            exact a5
          · rw [raw_make]
            dsimp only [raw]
            rw [es]
            exact f5
        · rw [if_neg c3] at q
          rw [decide_eq_true (by rw [el]; show (S.keys.length : Int) ≥ (S.room : Int); omega)]
          exact iteT q
      · rw [if_neg c2] at q
        refine ⟨_, rfl, _, _, rfl, rfl, _, rfl, ite2 (fun e => ?_) (fun e => ?_)⟩
        · exact ⟨_, _, rfl, rfl, _, rfl, iteNT (fun z => c2 ⟨of_decide_eq_true e, z⟩) q⟩
        · exact ⟨_, rfl, iteT q⟩
    · rw [if_neg c] at q
      exact (if_neg c).mpr q
theorem ok_share {f fN : Addr} {fd fdN : FuncData} (F : Fun K "share" "Heap.share" sHeapShare f fd) (T : HeapTxt K mg C) (D__need_hand : Dm P w K mg base (CX P w) 1 C "_need_hand" fN fdN ["self", "hand"] (spNeed C EC)) : FnOk P w K mg base (CX P w) 2 f fd ["self", "hand", "other"] (spShare C EC) := by
  refine F.okX scHeapShare (fun vs H Q E h => ?_) (fun cdv A outer s H vs Q E hr h => ?_)
  · obtain ⟨p, F, S, h, o, rfl, _⟩ := h
    rfl
  · obtain ⟨p, F, S, h, o, rfl, ⟨A, hA, rfl, G⟩, q⟩ := h
    refine ⟨_, (pss_cons (ps_expr (pe_meth (pv 0) D__need_hand.c D__need_hand.m D__need_hand.g (hr.mono (by decide)) D__need_hand.b .nil (passes_call (takes_of rfl rfl rfl rfl) (fun _ _ _ _ h => h)) (pa_cons (pv 1) pa_nil)))
      (pss_cons (ps_expr (pe_meth (pv 0) D__need_hand.c D__need_hand.m D__need_hand.g (hr.mono (by decide)) D__need_hand.b .nil (passes_call (takes_of rfl rfl rfl rfl) (fun _ _ _ _ h => h)) (pa_cons (pv 2) pa_nil)))
      (pss_one (ps_asg (pe_ix (ixL (K := K)) (peFld (K := K) (pv 0) rfl) (pv 2) (fun _ _ => rfl)) (pg_sub (peFld (K := K) (pv 0) rfl) (pv 1) set_list))))), ?_⟩
    refine ⟨_, rfl, p, A.dx, _, rfl, hA.ob, rfl, _, rfl, p, A, raw S, h, rfl, hA, G.hn.2, ?_⟩
    by_cases c1 : okHand S h
    · refine (if_pos c1).mpr ⟨_, rfl, p, A.dx, _, rfl, hA.ob, rfl, _, rfl, p, A, raw S, o, rfl, hA, G.hn.2, ?_⟩
      by_cases c2 : okHand S o
      · rw [if_pos ⟨c1, c2⟩] at q
        refine (if_pos c2).mpr ?_
        refine ⟨_, rfl, p, C, _, _, _, rfl, hA.ob, T.cl, T.n_hands, rfl, _, rfl, A.f .hands, _, _, optV (S.hand o.toNat), rfl, rfl, SqL.of hA.hands, c2.at_, ?_⟩
        refine ⟨_, rfl, p, C, _, _, _, rfl, hA.ob, T.cl, T.n_hands, rfl, _, rfl, A.f .hands, _, _, h.toNat, rfl, rfl, hA.hands, c1.ix, ?_⟩
        obtain ⟨a, b⟩ := hA.setHand (h := h.toNat) (x := S.hand o.toNat) G.share
        exact q _ _ a b
      · rw [if_neg fun z => c2 z.2] at q
        exact (if_neg c2).mpr q
    · rw [if_neg fun z => c1 z.1] at q
      exact (if_neg c1).mpr q
theorem ok_drop {f fN : Addr} {fd fdN : FuncData} (F : Fun K "drop" "Heap.drop" sHeapDrop f fd) (T : HeapTxt K mg C) (D__need_hand : Dm P w K mg base (CX P w) 1 C "_need_hand" fN fdN ["self", "hand"] (spNeed C EC)) : FnOk P w K mg base (CX P w) 2 f fd ["self", "hand"] (spDrop C EC) := by
  refine F.okX scHeapDrop (fun vs H Q E h => ?_) (fun cdv A outer s H vs Q E hr h => ?_)
  · obtain ⟨p, F, S, h, rfl, _⟩ := h
    rfl
  · obtain ⟨p, F, S, h, rfl, ⟨A, hA, rfl, G⟩, q⟩ := h
    refine ⟨_, (pss_cons (ps_expr (pe_meth (pv 0) D__need_hand.c D__need_hand.m D__need_hand.g (hr.mono (by decide)) D__need_hand.b .nil (passes_call (takes_of rfl rfl rfl rfl) (fun _ _ _ _ h => h)) (pa_cons (pv 1) pa_nil)))
      (pss_one (ps_asg pe_non (pg_sub (peFld (K := K) (pv 0) rfl) (pv 1) set_list)))), ?_⟩
    refine ⟨_, rfl, p, A.dx, _, rfl, hA.ob, rfl, _, rfl, p, A, raw S, h, rfl, hA, G.hn.2, ?_⟩
    by_cases c1 : okHand S h
    · rw [if_pos c1] at q
      refine (if_pos c1).mpr ?_
      refine ⟨_, rfl, p, C, _, _, _, rfl, hA.ob, T.cl, T.n_hands, rfl, _, rfl, A.f .hands, _, _, h.toNat, rfl, rfl, hA.hands, c1.ix, ?_⟩
      obtain ⟨a, b⟩ := hA.setHand (h := h.toNat) (x := none) G.drop
      exact q _ _ a b
    · rw [if_neg c1] at q
      exact (if_neg c1).mpr q
theorem ok_held {f fN : Addr} {fd fdN : FuncData} (F : Fun K "held" "Heap.held" sHeapHeld f fd) (T : HeapTxt K mg C) (D__need_hand : Dm P w K mg base (CX P w) 1 C "_need_hand" fN fdN ["self", "hand"] (spNeed C EC)) : FnOk P w K mg base (CX P w) 2 f fd ["self", "hand"] (spHeld C EC) := by
  refine F.okX scHeapHeld (fun vs H Q E h => ?_) (fun cdv A outer s H vs Q E hr h => ?_)
  · obtain ⟨p, F, S, h, rfl, _⟩ := h
    rfl
  · obtain ⟨p, F, S, h, rfl, ⟨A, hA, rfl, G⟩, q⟩ := h
    refine ⟨_, (pss_cons (ps_expr (pe_meth (pv 0) D__need_hand.c D__need_hand.m D__need_hand.g (hr.mono (by decide)) D__need_hand.b .nil (passes_call (takes_of rfl rfl rfl rfl) (fun _ _ _ _ h => h)) (pa_cons (pv 1) pa_nil)))
      (pss_one (ps_ret (pe_ix (ixL (K := K)) (peFld (K := K) (pv 0) rfl) (pv 1) (fun _ _ => rfl))))), ?_⟩
    refine ⟨_, rfl, p, A.dx, _, rfl, hA.ob, rfl, _, rfl, p, A, raw S, h, rfl, hA, G.hn.2, ?_⟩
    by_cases c1 : okHand S h
    · rw [if_pos c1] at q
      refine (if_pos c1).mpr ?_
      exact ⟨_, rfl, p, C, _, _, _, rfl, hA.ob, T.cl, T.n_hands, rfl, _, rfl, A.f .hands, _, _, optV (S.hand h.toNat), rfl, rfl, SqL.of hA.hands, c1.at_, q⟩
    · rw [if_neg c1] at q
      exact (if_neg c1).mpr q
theorem ok_take {f fN fR : Addr} {fd fdN fdR : FuncData} (F : Fun K "take" "Heap.take" sHeapTake f fd) (T : HeapTxt K mg C) (D__need_hand : Dm P w K mg base (CX P w) 1 C "_need_hand" fN fdN ["self", "hand"] (spNeed C EC))
    (D__row_with : Dm P w K mg base (CX P w) 1 C "_row_with" fR fdR ["self", "hand", "slot"] (spRow C EC)) : FnOk P w K mg base (CX P w) 2 f fd ["self", "hand", "other", "slot"] (spTake C EC) := by
  refine F.okX scHeapTake (fun vs H Q E h => ?_) (fun cdv A outer s H vs Q E hr h => ?_)
  · obtain ⟨p, F, S, h, o, s, rfl, _⟩ := h
    rfl
  · obtain ⟨p, F, S, h, o, s, rfl, ⟨A, hA, rfl, G⟩, q⟩ := h
    refine ⟨_, (pss_cons (ps_expr (pe_meth (pv 0) D__need_hand.c D__need_hand.m D__need_hand.g (hr.mono (by decide)) D__need_hand.b .nil (passes_call (takes_of rfl rfl rfl rfl) (fun _ _ _ _ h => h)) (pa_cons (pv 1) pa_nil)))
      (pss_cons (ps_expr (pe_meth (pv 0) D__need_hand.c D__need_hand.m D__need_hand.g (hr.mono (by decide)) D__need_hand.b .nil (passes_call (takes_of rfl rfl rfl rfl) (fun _ _ _ _ h => h)) (pa_cons (pv 2) pa_nil)))
      (pss_cons (ps_set (i := 4) scHeapTake.nd rfl (.inl rfl) (pe_meth (pv 0) D__row_with.c D__row_with.m D__row_with.g (hr.mono (by decide)) D__row_with.b .nil (passes_call (takes_of rfl rfl rfl rfl) (fun _ _ _ _ h => h)) (pa_cons (pv 2) (pa_cons (pv 3) pa_nil))))
      (pss_one (ps_asg (pe_ix (ixL (K := K)) (pv 4) (pv 3) (fun _ _ => rfl)) (pg_sub (peFld (K := K) (pv 0) rfl) (pv 1) set_list)))))), ?_⟩
    refine ⟨_, rfl, p, A.dx, _, rfl, hA.ob, rfl, _, rfl, p, A, raw S, h, rfl, hA, G.hn.2, ?_⟩
    by_cases c1 : okHand S h
    · refine (if_pos c1).mpr ⟨_, rfl, p, A.dx, _, rfl, hA.ob, rfl, _, rfl, p, A, raw S, o, rfl, hA, G.hn.2, ?_⟩
      by_cases c2 : okHand S o
      · rw [if_pos ⟨c1, c2⟩] at q
        obtain ⟨on, rfl⟩ := Int.eq_ofNat_of_zero_le c2.1
        have hon : on < S.hands.length := by have := c2.2; omega
        refine (if_pos c2).mpr ⟨_, rfl, p, A.dx, _, rfl, hA.ob, rfl, _, rfl, _, rfl, p, A, raw S, on, s, rfl, hA, G.hn.2, hon, ?_⟩
        have e0 : (raw S).hands.getD on none = S.hand on := rfl
        rw [Int.toNat_natCast] at q
        rw [e0]
        cases e : S.hand on with
        | none => rw [e] at q; exact q
        | some k =>
          rw [e] at q
          have lk := G.handLive e
          refine ⟨lk.1, G.row4 k, ?_⟩
          by_cases c3 : 0 ≤ s ∧ s < (S.row k).length
          · replace q := (if_pos c3).mp q
            obtain ⟨sn, rfl⟩ := Int.eq_ofNat_of_zero_le c3.1
            refine (if_pos c3).mpr ?_
            refine ⟨_, rfl, _, rfl, A.f (.row k), _, _, optV (S.slot k sn), rfl, rfl, SqL.of (hA.row (k := k) lk.1), atI_opt (l := S.row k) (by have := c3.2; omega), ?_⟩
            refine ⟨_, rfl, p, C, _, _, _, rfl, hA.ob, T.cl, T.n_hands, rfl, _, rfl, A.f .hands, _, _, h.toNat, rfl, rfl, hA.hands, c1.ix, ?_⟩
            rw [Int.toNat_natCast] at q
            obtain ⟨a, b⟩ := hA.setHand (h := h.toNat) (x := S.slot k sn) (G.take lk)
            exact q _ _ a b
          · replace q := (if_neg c3).mp q
            exact (if_neg c3).mpr q
      · rw [if_neg fun z => c2 z.2] at q
        exact (if_neg c2).mpr q
    · rw [if_neg fun z => c1 z.1] at q
      exact (if_neg c1).mpr q
theorem ok_put {f fN fR fP fM : Addr} {fd fdN fdR fdP fdM : FuncData} (F : Fun K "put" "Heap.put" sHeapPut f fd) (T : HeapTxt K mg C) (D__need_hand : Dm P w K mg base (CX P w) 1 C "_need_hand" fN fdN ["self", "hand"] (spNeed C EC))
    (D__row_with : Dm P w K mg base (CX P w) 1 C "_row_with" fR fdR ["self", "hand", "slot"] (spRow C EC)) (D_phase : Dm P w K mg base CX0 1 C "phase" fP fdP ["self"] (spPhase C)) (D__mark : Dm P w K mg base CX0 1 C "_mark" fM fdM ["self", "box"] (spMark C)) : FnOk P w K mg base (CX P w) 2 f fd ["self", "hand", "slot", "other"] (spPut C EC) := by
  refine F.okX scHeapPut (fun vs H Q E h => ?_) (fun cdv A outer s H vs Q E hr h => ?_)
  · obtain ⟨p, F, S, h, s, o, rfl, _⟩ := h
    rfl
  · obtain ⟨p, F, S, h, s, o, rfl, ⟨A, hA, rfl, G⟩, q⟩ := h
    refine ⟨_, (pss_cons (ps_expr (pe_meth (pv 0) D__need_hand.c D__need_hand.m D__need_hand.g (hr.mono (by decide)) D__need_hand.b .nil (passes_call (takes_of rfl rfl rfl rfl) (fun _ _ _ _ h => h)) (pa_cons (pv 1) pa_nil)))
      (pss_cons (ps_expr (pe_meth (pv 0) D__need_hand.c D__need_hand.m D__need_hand.g (hr.mono (by decide)) D__need_hand.b .nil (passes_call (takes_of rfl rfl rfl rfl) (fun _ _ _ _ h => h)) (pa_cons (pv 3) pa_nil)))
      (pss_cons (ps_set (i := 4) scHeapPut.nd rfl (.inl rfl) (pe_meth (pv 0) D__row_with.c D__row_with.m D__row_with.g (hr.mono (by decide)) D__row_with.b .nil (passes_call (takes_of rfl rfl rfl rfl) (fun _ _ _ _ h => h)) (pa_cons (pv 1) (pa_cons (pv 2) pa_nil))))
      (pss_cons (ps_if (pt_cmpR op_eq (pe_meth0 (pv 0) D_phase.c D_phase.m D_phase.g (hr.mono (by decide)) D_phase.b .nil pass0) pe_str (nomark _)) (pss_one (ps_expr (pe_meth (pv 0) D__mark.c D__mark.m D__mark.g (hr.mono (by decide)) D__mark.b .nil pass0 (pa_cons (pe_ix (ixL (K := K)) (pv 4) (pv 2) (fun _ _ => rfl)) pa_nil)))) pss_nil)
      (pss_one (ps_asg (pe_ix (ixL (K := K)) (peFld (K := K) (pv 0) rfl) (pv 3) (fun _ _ => rfl)) (pg_sub (pv 4) (pv 2) set_list))))))), ?_⟩
    refine ⟨_, rfl, p, A.dx, _, rfl, hA.ob, rfl, _, rfl, p, A, raw S, h, rfl, hA, G.hn.2, ?_⟩
    by_cases c1 : okHand S h
    · refine (if_pos c1).mpr ⟨_, rfl, p, A.dx, _, rfl, hA.ob, rfl, _, rfl, p, A, raw S, o, rfl, hA, G.hn.2, ?_⟩
      by_cases c2 : okHand S o
      · rw [if_pos ⟨c1, c2⟩] at q
        obtain ⟨hn, rfl⟩ := Int.eq_ofNat_of_zero_le c1.1
        have hon : hn < S.hands.length := by have := c1.2; omega
        refine (if_pos c2).mpr ⟨_, rfl, p, A.dx, _, rfl, hA.ob, rfl, _, rfl, _, rfl, p, A, raw S, hn, s, rfl, hA, G.hn.2, hon, ?_⟩
        have e0 : (raw S).hands.getD hn none = S.hand hn := rfl
        rw [Int.toNat_natCast] at q
        rw [e0]
        cases e : S.hand hn with
        | none => rw [e] at q; exact q
        | some k =>
          rw [e] at q
          have lk := G.handLive e
          refine ⟨lk.1, G.row4 k, ?_⟩
          by_cases c3 : 0 ≤ s ∧ s < (S.row k).length
          · replace q := (if_pos c3).mp q
            obtain ⟨sn, rfl⟩ := Int.eq_ofNat_of_zero_le c3.1
            refine (if_pos c3).mpr ?_
            have hsn : sn < (S.row k).length := by have := c3.2; omega
            rw [Int.toNat_natCast] at q
            refine ⟨_, rfl, p, A.dx, _, rfl, hA.ob, rfl, p, A, raw S, rfl, hA, Nat.le_trans G.linen (by decide), Nat.le_trans G.unswn (by decide), rfl, _, rfl, ?_⟩
            -- the store itself, behind the marking
            have fin : ∀ (S1 : HS) (H1 : Hp), HAt C H1 p A (raw S1) → Frm H (foot A (raw S)) H1 (foot A (raw S1)) → S1.hands = S.hands → S1.rows = S.rows → S1.keys = S.keys → S.put k sn o.toNat = S1.write k sn (S.hand o.toNat) →
                HAt C (upd H1 (A.f (.row k)) (.lst (((S.row k).map optV).set sn (optV (S.hand o.toNat))))) p A (raw (S.put k sn o.toNat)) ∧ Frm H (foot A (raw S)) (upd H1 (A.f (.row k)) (.lst (((S.row k).map optV).set sn (optV (S.hand o.toNat))))) (foot A (raw (S.put k sn o.toNat))) := fun S1 H1 a f e1 e2 e3 e4 => by
              have er : S1.row k = S.row k := by show rowOf S1.rows k = _; rw [e2]
              have hk1 : k ∈ (raw S1).keys := by show k ∈ S1.keys; rw [e3]; exact lk.1
              rw [e4, raw_write _ (by rw [e2]; exact G.lt k lk.1), set_opt, er]
              exact ⟨a.pRow hk1 _, f.put (a.foot_on (s := .row k) hk1)⟩
            by_cases hL : S.line = []
            · have e5 : S.put k sn o.toNat = S.write k sn (S.hand o.toNat) := by unfold HS.put; rw [if_pos hL]
              refine ite2 (fun z => ?_) (fun _ => ?_)
              · rw [show (raw S).line = [] from hL, if_pos rfl] at z
                exfalso
                split at z <;> exact absurd z (by decide)
              obtain ⟨a, b⟩ := fin S H hA (Frm.refl _ _) rfl rfl rfl e5
              refine ⟨_, rfl, p, C, _, _, _, rfl, hA.ob, T.cl, T.n_hands, rfl, _, rfl, A.f .hands, _, _, optV (S.hand o.toNat), rfl, rfl, SqL.of hA.hands, c2.at_, ?_⟩
              refine ⟨_, rfl, _, rfl, A.f (.row k), _, _, sn, rfl, rfl, hA.row (k := k) lk.1, ixN_nat (by rw [List.length_map]; exact hsn), ?_⟩
              exact q _ _ ⟨A, a, rfl, G.put lk⟩ b
            · have e5 : S.put k sn o.toNat = (S.markO (S.slot k sn)).write k sn (S.hand o.toNat) := by unfold HS.put; rw [if_neg hL]
              refine ite2 (fun _ => ?_) (fun z => ?_)
              rotate_left
              · rw [show (if (raw S).line = [] then (if (raw S).unsw = [] then "idle" else "sweeping") else "marking") = "marking" from if_neg hL] at z
                exact absurd (decide_eq_true rfl) z
              refine ⟨_, rfl, p, A.dx, _, rfl, hA.ob, rfl, _, rfl, _, rfl, A.f (.row k), _, _, optV (S.slot k sn), rfl, rfl, SqL.of (hA.row (k := k) lk.1), atI_opt (l := S.row k) hsn, ?_⟩
              refine ⟨p, A, raw S, S.slot k sn, rfl, hA, Nat.le_trans G.marksn (by decide), Nat.le_trans G.linen (by decide), fun H1 a1 f1 => ?_⟩
              obtain ⟨m1, m2, m3, m4, m5, m6, m7, m8⟩ := markO_fields S (S.slot k sn)
              rw [← raw_markO] at a1 f1
              obtain ⟨a, b⟩ := fin _ H1 a1 f1 m1 m2 m3 e5
              have hh : H1 (A.f .hands) = some (.lst (S.hands.map optV)) := by rw [← m1]; exact a1.hands
              refine ⟨_, rfl, p, C, _, _, _, rfl, a1.ob, T.cl, T.n_hands, rfl, _, rfl, A.f .hands, _, _, optV (S.hand o.toNat), rfl, rfl, SqL.of hh, c2.at_, ?_⟩
              have hrow : H1 (A.f (.row k)) = some (.lst ((S.row k).map optV)) := by
                have := a1.row (k := k) (by show k ∈ (S.markO _).keys; rw [m3]; exact lk.1)
                rw [show (raw (S.markO (S.slot k sn))).row k = S.row k by show rowOf (S.markO (S.slot k sn)).rows k = _; rw [m2]] at this
                exact this
              refine ⟨_, rfl, _, rfl, A.f (.row k), _, _, sn, rfl, rfl, hrow, ixN_nat (by rw [List.length_map]; exact hsn), ?_⟩
              exact q _ _ ⟨A, a, rfl, G.put lk⟩ b
          · replace q := (if_neg c3).mp q
            exact (if_neg c3).mpr q
      · rw [if_neg fun z => c2 z.2] at q
        exact (if_neg c2).mpr q
    · rw [if_neg fun z => c1 z.1] at q
      exact (if_neg c1).mpr q
end
end MK

set_option Elab.async false
set_option linter.all false
set_option pp.maxSteps 700
set_option maxRecDepth 100000
set_option maxHeartbeats 4000000
namespace MK
open PySem PySem.Spec PyProof.Rows L2 MM KG MP
section
variable {P : Program} {w : World} {K : PySem.W.Frag} {mg : Str → Option Value} {base : Heap} {C : Addr} {EC : ECs}
theorem sorted_nats {ys : List Int} {ks : List Nat} (h : ks.Nodup) (p : ys.Perm (ks.map Int.ofNat)) (s : ys.Pairwise (· ≤ ·)) : ys.Pairwise (· < ·) ∧ ∀ k : Int, k ∈ ys ↔ ∃ j ∈ ks, k = (j : Int) := by
  have nd : ys.Nodup := p.nodup_iff.mpr (List.Pairwise.map _ (fun a b e z => e (Int.ofNat.inj z)) h)
  refine ⟨(List.pairwise_and_iff.mpr ⟨s, nd⟩).imp fun ⟨a, b⟩ => by omega, fun k => ?_⟩
  rw [p.mem_iff, List.mem_map]
  exact ⟨fun ⟨j, a, b⟩ => ⟨j, a, b.symm⟩, fun ⟨j, a, b⟩ => ⟨j, a, b.symm⟩⟩
theorem rising_ints : ∀ (l m : List Int), l.Pairwise (· < ·) → m.Pairwise (· < ·) → (∀ k, k ∈ l ↔ k ∈ m) → l = m
  | [], [], _, _, _ => rfl
  | [], b :: m, _, _, h => absurd ((h b).mpr List.mem_cons_self) (by simp)
  | a :: l, [], _, _, h => absurd ((h a).mp List.mem_cons_self) (by simp)
  | a :: l, b :: m, hl, hm, h => by
    obtain ⟨h1, h2⟩ := List.pairwise_cons.mp hl
    obtain ⟨h3, h4⟩ := List.pairwise_cons.mp hm
    have e : a = b := by
      rcases List.mem_cons.mp ((h a).mp List.mem_cons_self) with e | e
      · exact e
      · rcases List.mem_cons.mp ((h b).mpr List.mem_cons_self) with e2 | e2
        · exact e2.symm
        · have x := h1 b e2
          have y := h3 a e
          omega
    subst e
    have e2 : l = m := rising_ints l m h2 h4 fun k => by
      have q := h k
      rw [List.mem_cons, List.mem_cons] at q
      constructor
      · intro hk
        rcases q.mp (.inr hk) with z | z
        · have := h1 k hk
          omega
        · exact z
      · intro hk
        rcases q.mpr (.inr hk) with z | z
        · have := h3 k hk
          omega
        · exact z
    rw [e2]
/-- the sorted keys are the rising list of the same members -/
theorem sorted_is {ys : List Int} {ks rs : List Nat} (h : ks.Nodup) (p : ys.Perm (ks.map Int.ofNat)) (s : ys.Pairwise (· ≤ ·)) (hr : rs.Pairwise (· < ·)) (hm : ∀ k, k ∈ rs ↔ k ∈ ks) : ys.map V.int = rs.map nV := by
  obtain ⟨a, b⟩ := sorted_nats h p s
  have : ys = rs.map Int.ofNat := rising_ints _ _ a (List.pairwise_map.mpr (hr.imp fun h => Int.ofNat_lt.mpr h)) fun k => by
    rw [b, List.mem_map]
    exact ⟨fun ⟨j, c, d⟩ => ⟨j, (hm j).mpr c, d.symm⟩, fun ⟨j, c, d⟩ => ⟨j, (hm j).mp c, d.symm⟩⟩
  rw [this, List.map_map]
  rfl
theorem ok_boxes {f : Addr} {fd : FuncData} (F : Fun K "boxes" "Heap.boxes" sHeapBoxes f fd) (T : HeapTxt K mg C) (m_sorted : mg "sorted" = none) : FnOk P w K mg base CX0 1 f fd ["self"] (spList C HS.keys) := by
  refine F.ok scHeapBoxes (fun vs H Q E h => ?_) (fun cdv A outer s H vs Q E hr h => ?_)
  · obtain ⟨p, F, S, rfl, _⟩ := h
    rfl
  · obtain ⟨p, F, S, rfl, ⟨A, hA, rfl, G⟩, q⟩ := h
    refine ⟨_, (pss_one (ps_ret (pe_callB (KS.cr_sortedD rfl) (by rfl) m_sorted (by decide +kernel) (pa_cons (peFld (K := K) (pv 0) rfl) pa_nil)))), ?_⟩
    refine ⟨_, rfl, p, C, _, _, _, rfl, hA.ob, T.cl, T.n_rows, rfl, A.f .rows, _, S.keys.map Int.ofNat, rfl, .inl hA.rows, ?_, fun ys l pm so nl => ?_⟩
    · unfold dRows; rw [List.map_map, List.map_map]; rfl
    · have := q l nl
      rw [← sorted_is (rising_nodup G.rise) pm so G.rise (fun _ => Iff.rfl)] at this
      exact this
/-- the marked ones, rising -/
def sortN (l : List Nat) : List Nat := l.mergeSort (fun a b => decide (a ≤ b))
theorem sortN_rise {l : List Nat} (h : l.Nodup) : (sortN l).Pairwise (· < ·) := by
  have s : (sortN l).Pairwise (fun a b => decide (a ≤ b) = true) := List.pairwise_mergeSort (fun a b c h1 h2 => by simp only [decide_eq_true_eq] at *; omega) (fun a b => by simp only [Bool.or_eq_true, decide_eq_true_eq]; omega) l
  have nd : (sortN l).Nodup := (List.mergeSort_perm l _).nodup_iff.mpr h
  refine (List.pairwise_and_iff.mpr ⟨s, nd⟩).imp fun ⟨a, b⟩ => ?_
  simp only [decide_eq_true_eq] at a
  omega
theorem mem_sortN {l : List Nat} {k : Nat} : k ∈ sortN l ↔ k ∈ l := (List.mergeSort_perm l _).mem_iff
theorem ok_end {f : Addr} {fd : FuncData} (F : Fun K "_end_round" "Heap._end_round" sHeapEndRound f fd) (T : HeapTxt K mg C) : FnOk P w K mg base CX0 1 f fd ["self"] (spEnd C) := by
  refine F.ok scHeapEndRound (fun vs H Q E h => ?_) (fun cdv A outer s H vs Q E hr h => ?_)
  · obtain ⟨p, A, R, rfl, _⟩ := h
    rfl
  · obtain ⟨p, A, R, rfl, hA, q⟩ := h
    refine ⟨_, (pss_cons (ps_fld (pv 0) pe_dnewK rfl)
      (pss_cons (ps_fld (pv 0) pe_dnewK rfl)
      (pss_one (ps_fldaug (pv 0) pe_int in_add)))), ?_⟩
    refine fun q1 n1 => ?_
    have f0 := (Frm.refl H (foot A R)).same (same_new (o := .dK []) n1)
    have a1 := hA.same (same_new (o := .dK []) n1)
    have m1 := (Mono.refl H).put (q := q1) (o := .dK [])
    have h1 : (upd H q1 (.dK [])) q1 = some (.dK (dTrue [])) := upd_same
    have nf := hA.fresh n1
    generalize upd H q1 (.dK []) = H1 at f0 a1 h1 m1
    refine ⟨_, rfl, p, C, _, _, rfl, a1.ob, T.cl, T.n_old, by show 9 < 1000; decide, ?_⟩
    have a2 := a1.fOld h1 nf
    have f2 := (f0.put (o := .ins C A.dx (putF "_old" (.ref q1) (flds A R))) hA.foot_p).grow n1 fun b z => foot_mv (A := A) (R := R) (s := .old) (q := q1) (R' := { R with old := [] }) (fun k hk => .inl hk) z
    have m2 := m1.put (q := p) (o := .ins C A.dx (putF "_old" (.ref q1) (flds A R)))
    generalize upd H1 p _ = H2 at a2 f2 m2
    generalize A.mv .old q1 = A2 at a2 f2
    refine fun q2 n2 => ?_
    have n2H := m2.free n2
    have f3 := f2.same (same_new (o := .dK []) n2)
    have a3 := a2.same (same_new (o := .dK []) n2)
    have h3 : (upd H2 q2 (.dK [])) q2 = some (.dK (dTrue [])) := upd_same
    have nf2 := a2.fresh n2
    generalize upd H2 q2 (.dK []) = H3 at f3 a3 h3
    refine ⟨_, rfl, p, C, _, _, rfl, a3.ob, T.cl, T.n_marks, by show 9 < 1000; decide, ?_⟩
    have a4 := a3.fMarks h3 nf2
    have f4 := (f3.put (o := .ins C A2.dx (putF "_marks" (.ref q2) (flds A2 { R with old := [] }))) a2.foot_p).grow n2H fun b z => foot_mv (A := A2) (R := { R with old := [] }) (s := .marks) (q := q2) (R' := { R with old := [], marks := [] }) (fun k hk => .inl hk) z
    generalize upd H3 p _ = H4 at a4 f4
    generalize A2.mv .marks q2 = A4 at a4 f4
    refine ⟨_, rfl, p, C, _, _, _, rfl, a4.ob, T.cl, T.n_ended, rfl, _, _, rfl, rfl, A4.dx, _, a4.ob, by show 9 < 1000; decide, ?_⟩
    exact q _ A4 (a4.fEnded (R.ended + 1)) (f4.put a4.foot_p)
theorem popN {l : List Nat} {b : Nat} {r : List Nat} (h : l = b :: r) : (l.map nV)[0]? = some (.int (b : Int)) ∧ (l.map nV).eraseIdx 0 = r.map nV ∧ seqIndex? 0 (l.map nV).length = some 0 := by
  subst h
  exact ⟨rfl, rfl, by simp [seqIndex?]⟩
theorem ok_sweep {f : Addr} {fd : FuncData} (F : Fun K "_sweep_on" "Heap._sweep_on" sHeapSweepOn f fd) (T : HeapTxt K mg C) : FnOk P w K mg base CX0 1 f fd ["self"] (spSweepOn C) := by
  refine F.ok scHeapSweepOn (fun vs H Q E h => ?_) (fun cdv A outer s H vs Q E hr h => ?_)
  · obtain ⟨p, A, R, b, r, rfl, _⟩ := h
    rfl
  · obtain ⟨p, A, R, b, r, rfl, hA, eU, hb, hlen, q⟩ := h
    have hu := hu_of hr
    obtain ⟨x1, x2, x3⟩ := popN eU
    refine ⟨_, (pss_cons (ps_set (i := 1) scHeapSweepOn.nd rfl (.inl rfl) (pe_bm PySem.F.plainAttrs_list PySem.F.slot_list_pop PySem.F.type_list_pop mt_popAt (peFld (K := K) (pv 0) rfl) (pa_cons pe_int pa_nil)))
      (pss_cons (ps_if (pt_cmp (pc_din hu (pv 1) (peFld (K := K) (pv 0) rfl))) (pss_one (ps_ret pe_non)) pss_nil)
      (pss_cons (ps_ddel (peFld (K := K) (pv 0) rfl) (pv 1))
      (pss_one (ps_ret (pv 1)))))), ?_⟩
    refine ⟨_, rfl, p, C, _, _, _, rfl, hA.ob, T.cl, T.n_unsw, rfl, .inl ⟨rfl, _, SqL.of hA.unsw⟩, A.f .unsw, _, _, 0, _, rfl, rfl, hA.unsw, by decide, by decide, x3, x1, ?_⟩
    rw [x2]
    have a1 := hA.pUnsw r
    have f1 := (Frm.refl H (foot A R)).put (o := .lst (r.map nV)) (hA.foot_on (s := .unsw) trivial)
    generalize upd H (A.f .unsw) _ = H1 at a1 f1
    refine ⟨_, rfl, _, rfl, p, C, _, _, _, rfl, a1.ob, T.cl, T.n_marks, rfl, A.f .marks, _, rfl, DGet.k (k := kK b) a1.marks, ?_⟩
    rw [valV_true]
    by_cases c : b ∈ R.marks
    · have e : R.sweepOn b r = { R with unsw := r } := if_pos c
      rw [e, if_pos c] at q
      rw [show (if b ∈ ({ R with unsw := r } : Raw).marks then some (V.bl true) else none) = some (V.bl true) from if_pos c]
      exact ⟨_, rfl, iteT (q _ a1 f1)⟩
    · have e : R.sweepOn b r = { R with unsw := r, keys := R.keys.filter fun k => decide (k ≠ b) } := if_neg c
      rw [e, if_neg c] at q
      rw [show (if b ∈ ({ R with unsw := r } : Raw).marks then some (V.bl true) else none) = none from if_neg c]
      refine ⟨_, rfl, iteF ?_⟩
      refine ⟨_, rfl, p, C, _, _, _, rfl, a1.ob, T.cl, T.n_rows, rfl, _, rfl, A.f .rows, _, kK b, rfl, a1.rows, rfl, ?_, ?_⟩
      · rw [valV_rows, if_pos hb]
        rfl
      · refine ⟨_, rfl, q _ (a1.delRow b) ?_⟩
        exact (f1.put (a1.foot_on (s := .rows) trivial)).imp fun x z => z.elim fun t ⟨ht, e⟩ => ⟨t, (by cases t <;> first | exact (List.mem_filter.mp ht).1 | trivial), e⟩
theorem ok_markOn {f fM : Addr} {fd fdM : FuncData} (F : Fun K "_mark_on" "Heap._mark_on" sHeapMarkOn f fd) (T : HeapTxt K mg C) (D__mark : Dm P w K mg base CX0 1 C "_mark" fM fdM ["self", "box"] (spMark C)) : FnOk P w K mg base CX0 2 f fd ["self"] (spMarkOn C) := by
  refine F.ok scHeapMarkOn (fun vs H Q E h => ?_) (fun cdv A outer s H vs Q E hr h => ?_)
  · obtain ⟨p, A, R, b, r, rfl, _⟩ := h
    rfl
  · obtain ⟨p, A, R, b, r, rfl, hA, eL, hb, hm, hl, h4, q⟩ := h
    have hu := hu_of hr
    obtain ⟨x1, x2, x3⟩ := popN eL
    refine ⟨_, (pss_cons (ps_set (i := 1) scHeapMarkOn.nd rfl (.inl rfl) (pe_bm PySem.F.plainAttrs_list PySem.F.slot_list_pop PySem.F.type_list_pop mt_popAt (peFld (K := K) (pv 0) rfl) (pa_cons pe_int pa_nil)))
      (pss_one (ps_for PassesOwn.never rfl (pi_list (pe_dget hu (peFld (K := K) (pv 0) rfl) (pv 1) (fun _ _ => rfl))) (pg_name (i := 2) scHeapMarkOn.nd rfl (.inl rfl)) (pss_one (ps_expr (pe_meth (pv 0) D__mark.c D__mark.m D__mark.g (hr.mono (by decide)) D__mark.b .nil pass0 (pa_cons (pv 2) pa_nil))))))), ?_⟩
    refine ⟨_, rfl, p, C, _, _, _, rfl, hA.ob, T.cl, T.n_line, rfl, .inl ⟨rfl, _, SqL.of hA.line⟩, A.f .line, _, _, 0, _, rfl, rfl, hA.line, by decide, by decide, x3, x1, ?_⟩
    rw [x2]
    have a1 := hA.pLine r
    have f1 := (Frm.refl H (foot A R)).put (o := .lst (r.map nV)) (hA.foot_on (s := .line) trivial)
    generalize upd H (A.f .line) _ = H1 at a1 f1
    refine ⟨_, rfl, p, C, _, _, _, rfl, a1.ob, T.cl, T.n_rows, rfl, _, rfl, A.f .rows, _, rfl, dget_row a1 (k := b) hb, _, rfl, ⟨_, SqL.of (a1.row (k := b) hb)⟩, ?_⟩
    refine for_list (K := K) (a := A.f (.row b)) (xs := (R.row b).map optV) (fun i σ H' => ∃ y, σ = [some (.ref p), some (.int (b : Int)), y] ∧ HAt C H' p A (Raw.marks2 { R with line := r } ((R.row b).take i)) ∧ Frm H (foot A R) H' (foot A (Raw.marks2 { R with line := r } ((R.row b).take i)))) ⟨_, rfl, ?_, ?_⟩ (fun i σ H' _ ⟨y, _, a, _⟩ => SqL.of (a.row (k := b) hb)) ?_ ?_
    · rw [List.take_zero]
      show HAt C H1 p A { R with marks := R.marks ++ [], line := r ++ [] }
      rw [List.append_nil, List.append_nil]
      exact a1
    · exact f1
    · rintro i x σ H' hx ⟨y, rfl, a, fr⟩
      rw [List.getElem?_map] at hx
      obtain ⟨o, ho, rfl⟩ : ∃ o, (R.row b)[i]? = some o ∧ x = optV o := by
        cases e : (R.row b)[i]? with
        | none => rw [e] at hx; cases hx
        | some o => rw [e] at hx; exact ⟨o, rfl, (Option.some.inj hx).symm⟩
      have l4 := ext_len ((R.row b).take i) R.old R.marks
      have lt : ((R.row b).take i).length ≤ 4 := Nat.le_trans (by rw [List.length_take]; exact Nat.min_le_right _ _) h4
      refine ⟨_, rfl, p, A.dx, _, rfl, a.ob, rfl, _, rfl, p, A, _, o, rfl, a, ?_, ?_, fun H2 a2 f2 => ?_⟩
      · show (R.marks ++ ext R.old R.marks _).length ≤ 3000
        rw [List.length_append]; omega
      · show (r ++ ext R.old R.marks _).length ≤ 3000
        rw [List.length_append]; omega
      · rw [← marks2_snoc ho] at a2 f2
        exact ⟨_, rfl, a2, fr.trans f2⟩
    · rintro σ H' ⟨y, rfl, a, fr⟩
      rw [List.length_map, List.take_length] at a fr
      exact q _ a fr
end
end MK

set_option Elab.async false
set_option linter.all false
set_option pp.maxSteps 700
set_option maxRecDepth 100000
set_option maxHeartbeats 4000000
namespace MK
open PySem PySem.Spec PyProof.Rows L2 MM KG MP
section
variable {P : Program} {w : World} {K : PySem.W.Frag} {mg : Str → Option Value} {base : Heap} {C : Addr} {EC : ECs}
theorem ok_begin {f fM : Addr} {fd fdM : FuncData} (F : Fun K "_begin_round" "Heap._begin_round" sHeapBeginRound f fd) (T : HeapTxt K mg C) (D__mark : Dm P w K mg base CX0 1 C "_mark" fM fdM ["self", "box"] (spMark C)) (m_sorted : mg "sorted" = none) : FnOk P w K mg base CX0 2 f fd ["self"] (spBegin C) := by
  refine F.ok scHeapBeginRound (fun vs H Q E h => ?_) (fun cdv A outer s H vs Q E hr h => ?_)
  · obtain ⟨p, A, R, rfl, _⟩ := h
    rfl
  · obtain ⟨p, A, R, rfl, hA, eM, eL, h8, hk, rise, q⟩ := h
    refine ⟨_, (pss_cons (ps_fld (pv 0) (pe_callB (KS.cr_sortedD rfl) (by rfl) m_sorted (by decide +kernel) (pa_cons (peFld (K := K) (pv 0) rfl) pa_nil)) rfl)
      (pss_cons (ps_fld (pv 0) (pe_dc (own := [("box", 1)]) (g := gName 1) (tt := tYes) rfl scHeapBeginRound.nd (pi_list (peFld (K := K) (pv 0) rfl)) (blkOk_by (N := ["self", "box"]) (sc := defScope sHeapBeginRound) (by decide +kernel)) (fun _ _ _ _ _ => (pg_name (i := 1) scHeapBeginRound.nd rfl (.inl rfl))) (fun _ _ _ _ _ => pts_nil) (fun _ _ _ _ _ => (pv 1)) (fun _ _ _ _ _ => pe_bl)) rfl)
      (pss_one (ps_for PassesOwn.never rfl (pi_list (peFld (K := K) (pv 0) rfl)) (pg_name (i := 1) scHeapBeginRound.nd rfl (.inl rfl)) (pss_one (ps_expr (pe_meth (pv 0) D__mark.c D__mark.m D__mark.g (hr.mono (by decide)) D__mark.b .nil pass0 (pa_cons (pv 1) pa_nil)))))))), ?_⟩
    refine ⟨_, rfl, p, C, _, _, _, rfl, hA.ob, T.cl, T.n_rows, rfl, A.f .rows, _, R.keys.map Int.ofNat, rfl, .inl hA.rows, ?_, fun ys l pm so nl => ?_⟩
    · unfold dRows; rw [List.map_map, List.map_map]; rfl
    rw [sorted_is (rising_nodup rise) pm so rise (fun _ => Iff.rfl)]
    have f0 := (Frm.refl H (foot A R)).same (same_new (o := .lst (R.keys.map nV)) nl)
    have a1 := hA.same (same_new (o := .lst (R.keys.map nV)) nl)
    have m1 := (Mono.refl H).put (q := l) (o := .lst (R.keys.map nV))
    have h1 : (upd H l (.lst (R.keys.map nV))) l = some (.lst (R.keys.map nV)) := upd_same
    have nf := hA.fresh nl
    generalize upd H l (.lst (R.keys.map nV)) = H1 at f0 a1 h1 m1
    refine ⟨_, rfl, p, C, _, _, rfl, a1.ob, T.cl, T.n_unsw, by show 9 < 1000; decide, ?_⟩
    have a2 := a1.fUnsw h1 nf
    have f2 := (f0.put (o := .ins C A.dx (putF "_unswept" (.ref l) (flds A R))) hA.foot_p).grow nl fun b z => foot_mv (A := A) (R := R) (s := .unsw) (q := l) (R' := { R with unsw := R.keys }) (fun k hk => .inl hk) z
    have m2 := m1.put (q := p) (o := .ins C A.dx (putF "_unswept" (.ref l) (flds A R)))
    generalize upd H1 p _ = H2 at a2 f2 m2
    generalize A.mv .unsw l = A2 at a2 f2
    refine ⟨_, rfl, p, C, _, _, _, rfl, a2.ob, T.cl, T.n_unsw, rfl, A2.f .unsw, rfl, ⟨_, SqL.of a2.unsw⟩, fun D nD => ?_⟩
    have nDH := m2.free nD
    have nfD := a2.fresh nD
    refine KS.dc_list (K := K) (a := A2.f .unsw) (xs := R.keys.map nV) (fun i H' => HAt C H' p A2 { R with unsw := R.keys } ∧ Frm H (foot A R) H' (foot A2 { R with unsw := R.keys }) ∧ H' D = some (.dK (dTrue (R.keys.take i))))
      ⟨a2.same (same_new nD), f2.same (same_new nD), upd_same⟩ (fun i H' _ ⟨a, _⟩ => SqL.of a.unsw) ?_ ?_
    · rintro i x H' hx ⟨a, fr, hD⟩
      rw [List.getElem?_map] at hx
      obtain ⟨k, ho, rfl⟩ : ∃ k, R.keys[i]? = some k ∧ x = nV k := by
        cases e : R.keys[i]? with
        | none => rw [e] at hx; cases hx
        | some o => rw [e] at hx; exact ⟨o, rfl, (Option.some.inj hx).symm⟩
      have nk : k ∉ R.keys.take i := fun z => by
        have nd := rising_nodup rise
        rw [← List.take_append_drop i R.keys] at nd
        refine (List.nodup_append.mp nd).2.2 k z k ?_ rfl
        obtain ⟨hi, e⟩ := List.getElem?_eq_some_iff.mp ho
        rw [List.drop_eq_getElem_cons hi, e]
        exact List.mem_cons_self
      have lt : (R.keys.take i).length ≤ 1000 := Nat.le_trans (by rw [List.length_take]; exact Nat.min_le_right _ _) hk
      refine ⟨rfl, _, rfl, _, kK k, rfl, hD, size_of (by unfold dTrue; rw [List.length_map]; omega), ?_⟩
      rw [putK_true nk]
      refine ⟨a.out nfD, ?_, ?_⟩
      · refine fun b o e n => ?_
        obtain ⟨x, y⟩ := fr b o e n
        refine ⟨?_, y⟩
        rw [upd_ne fun (z : b = D) => by rw [z, nDH] at e; cases e]
        exact x
      · rw [upd_same, List.take_add_one, ho]
        rfl
    rintro H3 ⟨a3, f3, h3⟩
    rw [List.length_map, List.take_length] at h3
    refine ⟨_, rfl, p, C, _, _, rfl, a3.ob, T.cl, T.n_old, by show 9 < 1000; decide, ?_⟩
    have a4 := a3.fOld h3 nfD
    have f4 := (f3.put (o := .ins C A2.dx (putF "_old" (.ref D) (flds A2 { R with unsw := R.keys }))) a2.foot_p).grow nDH fun b z => foot_mv (A := A2) (R := { R with unsw := R.keys }) (s := .old) (q := D) (R' := { R with unsw := R.keys, old := R.keys }) (fun k hk => .inl hk) z
    generalize upd H3 p _ = H4 at a4 f4
    generalize A2.mv .old D = A4 at a4 f4
    refine ⟨_, rfl, p, C, _, _, _, rfl, a4.ob, T.cl, T.n_hands, rfl, A4.f .hands, rfl, ⟨_, SqL.of a4.hands⟩, ?_⟩
    refine for_list (K := K) (a := A4.f .hands) (xs := R.hands.map optV) (fun i σ H' => ∃ y, σ = [some (.ref p), y] ∧ HAt C H' p A4 (Raw.marks2 { R with unsw := R.keys, old := R.keys } (R.hands.take i)) ∧ Frm H (foot A R) H' (foot A4 (Raw.marks2 { R with unsw := R.keys, old := R.keys } (R.hands.take i)))) ⟨_, rfl, ?_, ?_⟩ (fun i σ H' _ ⟨y, _, a, _⟩ => SqL.of a.hands) ?_ ?_
    · rw [List.take_zero]
      show HAt C H4 p A4 { R with unsw := R.keys, old := R.keys, marks := R.marks ++ [], line := R.line ++ [] }
      rw [List.append_nil, List.append_nil]
      exact a4
    · exact f4
    · rintro i x σ H' hx ⟨y, rfl, a, fr⟩
      rw [List.getElem?_map] at hx
      obtain ⟨o, ho, rfl⟩ : ∃ o, R.hands[i]? = some o ∧ x = optV o := by
        cases e : R.hands[i]? with
        | none => rw [e] at hx; cases hx
        | some o => rw [e] at hx; exact ⟨o, rfl, (Option.some.inj hx).symm⟩
      have l4 := ext_len (R.hands.take i) R.keys R.marks
      have lt : (R.hands.take i).length ≤ 8 := Nat.le_trans (by rw [List.length_take]; exact Nat.min_le_right _ _) h8
      refine ⟨_, rfl, p, A4.dx, _, rfl, a.ob, rfl, _, rfl, p, A4, _, o, rfl, a, ?_, ?_, fun H2 a2 f2 => ?_⟩
      · show (R.marks ++ ext R.keys R.marks _).length ≤ 3000
        rw [List.length_append, eM, List.length_nil]; rw [eM] at l4; omega
      · show (R.line ++ ext R.keys R.marks _).length ≤ 3000
        rw [List.length_append, eL, List.length_nil]; omega
      · rw [← marks2_snoc (R := { R with unsw := R.keys, old := R.keys }) ho] at a2 f2
        exact ⟨_, rfl, a2, fr.trans f2⟩
    · rintro σ H' ⟨y, rfl, a, fr⟩
      have e : Raw.marks2 { R with unsw := R.keys, old := R.keys } R.hands = R.began := by
        unfold Raw.marks2 Raw.began
        dsimp only
        rw [eM, eL]
        rfl
      rw [List.length_map, List.take_length, e] at a fr
      exact q _ A4 a fr
theorem ok_piece {f fP fB fO fS fE : Addr} {fd fdP fdB fdO fdS fdE : FuncData} (F : Fun K "_do_piece" "Heap._do_piece" sHeapDoPiece f fd) (T : HeapTxt K mg C) (D_phase : Dm P w K mg base CX0 1 C "phase" fP fdP ["self"] (spPhase C)) (D__begin_round : Dm P w K mg base CX0 2 C "_begin_round" fB fdB ["self"] (spBegin C))
    (D__mark_on : Dm P w K mg base CX0 2 C "_mark_on" fO fdO ["self"] (spMarkOn C)) (D__sweep_on : Dm P w K mg base CX0 1 C "_sweep_on" fS fdS ["self"] (spSweepOn C)) (D__end_round : Dm P w K mg base CX0 1 C "_end_round" fE fdE ["self"] (spEnd C)) : FnOk P w K mg base CX0 3 f fd ["self"] (spPiece C) := by
  refine F.ok scHeapDoPiece (fun vs H Q E h => ?_) (fun cdv A outer s H vs Q E hr h => ?_)
  · obtain ⟨p, F, S, rfl, _⟩ := h
    rfl
  · obtain ⟨p, F, S, rfl, ⟨A, hA, rfl, G⟩, q⟩ := h
    refine ⟨_, (pss_cons (ps_set (i := 1) scHeapDoPiece.nd rfl (.inl rfl) pe_non)
      (pss_cons (ps_set (i := 2) scHeapDoPiece.nd rfl (.inl rfl) (pe_meth0 (pv 0) D_phase.c D_phase.m D_phase.g (hr.mono (by decide)) D_phase.b .nil pass0))
      (C8.pss_cut (ps_if (pt_cmpR op_eq (pv 2) pe_str (nomark _)) (pss_one (ps_expr (pe_meth0 (pv 0) D__begin_round.c D__begin_round.m D__begin_round.g (hr.mono (by decide)) D__begin_round.b .nil pass0))) (pss_one (ps_if (pt_cmpR op_eq (pv 2) pe_str (nomark _)) (pss_one (ps_expr (pe_meth0 (pv 0) D__mark_on.c D__mark_on.m D__mark_on.g (hr.mono (by decide)) D__mark_on.b .nil pass0))) (pss_one (ps_set (i := 1) scHeapDoPiece.nd rfl (.inl rfl) (pe_meth0 (pv 0) D__sweep_on.c D__sweep_on.m D__sweep_on.g (hr.mono (by decide)) D__sweep_on.b .nil pass0))))))
      (pss_cons (ps_if (pt_not (pt_truth (peFld (K := K) (pv 0) rfl) (by intro _; rfl))) (pss_one (ps_expr (pe_meth0 (pv 0) D__end_round.c D__end_round.m D__end_round.g (hr.mono (by decide)) D__end_round.b .nil pass0))) pss_nil)
      (pss_one (ps_ret (pv 1))))))), ?_⟩
    refine ⟨_, rfl, p, A.dx, _, rfl, hA.ob, rfl, p, A, raw S, rfl, hA, Nat.le_trans G.linen (by decide), Nat.le_trans G.unswn (by decide), ?_⟩
    refine ⟨fun σ' H' => ∃ A1 y, σ' = [some (.ref p), some (optV S.step.2), y] ∧ HAt C H' p A1 (raw S.step.1) ∧ Frm H (foot A (raw S)) H' (foot A1 (raw S.step.1)), ?_, ?_⟩
    · by_cases hL : S.line = []
      · by_cases hU : S.unsw = []
        · rw [show (if (raw S).line = [] then (if (raw S).unsw = [] then "idle" else "sweeping") else "marking") = "idle" from (if_pos hL).trans (if_pos hU)]
          refine ⟨_, rfl, rfl, _, rfl, ite2 (fun _ => ?_) (fun z => absurd (decide_eq_true rfl) z)⟩
          have e : S.step = (S.began, none) := by unfold HS.step; rw [if_pos hL, if_pos hU]
          rw [e]
          refine ⟨_, rfl, p, A.dx, _, rfl, hA.ob, rfl, p, A, raw S, rfl, hA, (G.idle hL hU).2.1, hL, G.hn.2, G.keysn, G.rise, fun H' A' a fr => ?_⟩
          rw [← raw_began] at a fr
          exact ⟨A', _, rfl, a, fr⟩
        · rw [show (if (raw S).line = [] then (if (raw S).unsw = [] then "idle" else "sweeping") else "marking") = "sweeping" from (if_pos hL).trans (if_neg hU)]
          refine ⟨_, rfl, rfl, _, rfl, ite2 (fun z => absurd z (by decide)) (fun _ => ?_)⟩
          refine ⟨_, rfl, rfl, _, rfl, ite2 (fun z => absurd z (by decide)) (fun _ => ?_)⟩
          have e : S.step = S.sweepOn := by unfold HS.step; rw [if_pos hL, if_neg hU]
          rw [e]
          obtain ⟨b, r, eU⟩ := List.exists_cons_of_ne_nil hU
          have hl := G.unswn
          rw [eU, List.length_cons] at hl
          refine ⟨_, rfl, p, A.dx, _, rfl, hA.ob, rfl, p, A, raw S, b, r, rfl, hA, eU, (G.us b (by rw [eU]; exact List.mem_cons_self)).2, by omega, fun H' a fr => ?_⟩
          rw [← raw_sweepOn eU] at a fr
          refine ⟨A, some (.str "sweeping"), ?_, a, fr⟩
          rw [sweepOn_freed eU]
          rfl
      · rw [show (if (raw S).line = [] then (if (raw S).unsw = [] then "idle" else "sweeping") else "marking") = "marking" from if_neg hL]
        refine ⟨_, rfl, rfl, _, rfl, ite2 (fun z => absurd z (by decide)) (fun _ => ?_)⟩
        refine ⟨_, rfl, rfl, _, rfl, ite2 (fun _ => ?_) (fun z => absurd (decide_eq_true rfl) z)⟩
        have e : S.step = (S.markOn, none) := by unfold HS.step; rw [if_neg hL]
        rw [e]
        obtain ⟨b, r, eL⟩ := List.exists_cons_of_ne_nil hL
        have hl := G.linen
        rw [eL, List.length_cons] at hl
        refine ⟨_, rfl, p, A.dx, _, rfl, hA.ob, rfl, p, A, raw S, b, r, rfl, hA, eL, G.one (by rw [eL]; exact List.mem_cons_self), G.marksn, by omega, G.row4 b, fun H' a fr => ?_⟩
        rw [← raw_markOn eL] at a fr
        exact ⟨A, _, rfl, a, fr⟩
    rintro σ1 H1 ⟨A1, y, rfl, a1, f1⟩
    refine ⟨_, rfl, p, C, _, _, _, rfl, a1.ob, T.cl, T.n_unsw, rfl, !S.step.1.unsw.isEmpty, .inl ⟨_, SqL.of a1.unsw, by rw [List.isEmpty_map]; rfl⟩, ?_⟩
    by_cases hU : S.step.1.unsw = []
    · have e : S.piece = (S.step.1.endRound, S.step.2) := by unfold HS.piece HS.ends; rw [if_pos hU]
      have G2 := G.piece
      rw [e] at q G2
      rw [hU]
      refine iteT ?_
      refine ⟨_, rfl, p, A1.dx, _, rfl, a1.ob, rfl, p, A1, raw S.step.1, rfl, a1, fun H2 A2 a2 f2 => ?_⟩
      exact ⟨_, rfl, q H2 _ ⟨A2, a2, rfl, G2⟩ (f1.trans f2)⟩
    · have e : S.piece = (S.step.1, S.step.2) := by unfold HS.piece HS.ends; rw [if_neg hU]
      have G2 := G.piece
      rw [e] at q G2
      rw [show (!S.step.1.unsw.isEmpty) = true by simp [hU]]
      exact iteF ⟨_, rfl, q H1 _ ⟨A1, a1, rfl, G2⟩ f1⟩
theorem ok_work {f fP : Addr} {fd fdP : FuncData} {t2500 : Tok} (F : Fun K "work" "Heap.work" sHeapWork f fd) (T : HeapTxt K mg C) (T_NoWork : ExC K mg "NoWork" EC.noWork) (D__do_piece : Dm P w K mg base CX0 3 C "_do_piece" fP fdP ["self"] (spPiece C)) (m_MOST_PIECES : mg "MOST_PIECES" = some (.int 2500 t2500)) (m_range : mg "range" = none) : FnOk P w K mg base (CX P w) 4 f fd ["self", "pieces"] (spWork C EC) := by
  refine F.okX scHeapWork (fun vs H Q E h => ?_) (fun cdv A outer s H vs Q E hr h => ?_)
  · obtain ⟨p, F, S, n, rfl, _⟩ := h
    rfl
  · obtain ⟨p, F, S, n, rfl, hS, q⟩ := h
    refine ⟨_, (pss_cons (ps_if (pt_not (pt_chain op_le op_le pe_int (pv 1) (pe_glob (v := .int 2500) (by rfl) m_MOST_PIECES ⟨_, rfl⟩))) (pss_one (ps_raise rfl (takes_of rfl rfl rfl rfl) (pmk_own PySem.F.excBase_ValueError T_NoWork.xP T_NoWork.gP T_NoWork.kP (raises_own T_NoWork.bP T_NoWork.tP) rfl))) pss_nil)
      (pss_cons (ps_set (i := 2) scHeapWork.nd rfl (.inl rfl) (pe_lst pa_nil))
      (pss_cons (ps_for (passes_of rfl) rfl (pi_range1 (by rfl) m_range (pa_cons (pv 1) pa_nil)) (pg_name (i := 3) scHeapWork.nd rfl (.inl rfl)) (pss_cons (ps_set (i := 4) scHeapWork.nd rfl (.inl rfl) (pe_meth0 (pv 0) D__do_piece.c D__do_piece.m D__do_piece.g (hr.mono (by decide)) D__do_piece.b .nil pass0))
      (pss_one (ps_if (pt_cmpR op_notN (pv 4) pe_non (nomark _)) (pss_one (ps_expr (pe_bm PySem.F.plainAttrs_list PySem.F.slot_list_append PySem.F.type_list_append mt_append (pv 2) (pa_cons (pv 4) pa_nil)))) pss_nil))))
      (pss_one (ps_ret (pv 2)))))), ?_⟩
    by_cases c : 0 ≤ n ∧ n ≤ 2500
    · replace q := (if_pos c).mp q
      refine ⟨_, rfl, _, _, rfl, rfl, _, rfl, ?_⟩
      rw [decide_eq_true c.1]
      refine iteT ⟨_, _, rfl, rfl, _, rfl, iteNS c.2 ?_⟩
      refine ⟨Nat.zero_le _, fun l nl => ?_⟩
      obtain ⟨m, rfl⟩ := Int.eq_ofNat_of_zero_le c.1
      rw [Int.toNat_natCast] at q
      refine ⟨_, rfl, (m : Int), rfl, by omega, by omega, ?_⟩
      rw [Int.toNat_natCast]
      refine for_range (fun i σ H' => ∃ y3 y4 F', σ = [some (.ref p), some (.int (m : Int)), some (.ref l), y3, y4] ∧ HeapAt C H' p F' (HS.work i S).1 ∧ Frm H F H' F' ∧ ¬ F' l ∧ H' l = some (.lst ((HS.work i S).2.map nV)) ∧ (HS.work i S).2.length ≤ i)
        ⟨none, none, F, rfl, hS.same (same_new nl), (Frm.refl H F).same (same_new nl), hS.fresh nl, upd_same, Nat.le_refl _⟩ ?_ ?_
      · rintro i σ H' hi ⟨y3, y4, F', rfl, h1, f1, nF, hl, len⟩
        obtain ⟨dx, fs, hob, hno⟩ := h1.ob
        refine ⟨_, rfl, p, dx, _, rfl, hob, hno _ (by decide), p, F', (HS.work i S).1, rfl, h1, fun H2 F2 h2 f2 => ?_⟩
        obtain ⟨hl2, nF2⟩ := f2 l _ hl nF
        have e : (HS.work (i + 1) S).1 = (HS.work i S).1.piece.1 := rfl
        have e2 : (HS.work (i + 1) S).2 = (HS.work i S).2 ++ (HS.work i S).1.piece.2.toList := rfl
        rw [e, e2]
        cases ez : (HS.work i S).1.piece.2 with
        | none =>
          refine ⟨_, rfl, rfl, _, rfl, iteF ?_⟩
          exact ⟨_, _, F2, rfl, h2, f1.trans f2, nF2, by rw [show (none : Option Nat).toList = [] from rfl, List.append_nil]; exact hl2, by rw [show (none : Option Nat).toList = [] from rfl, List.append_nil]; omega⟩
        | some k =>
          refine ⟨_, rfl, rfl, _, rfl, iteT ?_⟩
          refine ⟨_, rfl, .inl ⟨rfl, _, SqL.of hl2⟩, _, rfl, l, _, _, rfl, rfl, hl2, size_of (by rw [List.length_map]; omega), ?_⟩
          refine ⟨_, _, F2, rfl, h2.out nF2, ?_, nF2, ?_, ?_⟩
          · refine fun b o e n => ?_
            obtain ⟨x, y⟩ := (f1.trans f2) b o e n
            refine ⟨?_, y⟩
            rw [upd_ne fun (z : b = l) => by rw [z, nl] at e; cases e]
            exact x
          · rw [upd_same, List.map_append]
            rfl
          · rw [List.length_append]
            show _ + 1 ≤ _
            omega
      · rintro σ H' ⟨y3, y4, F', rfl, h1, f1, nF, hl, len⟩
        exact ⟨_, rfl, q H' F' l h1 f1 nl nF hl⟩
    · replace q := (if_neg c).mp q
      refine ⟨_, rfl, _, _, rfl, rfl, _, rfl, ite2 (fun e => ?_) (fun e => ?_)⟩
      · exact ⟨_, _, rfl, rfl, _, rfl, iteNT (fun z => c ⟨of_decide_eq_true e, z⟩) q⟩
      · exact ⟨_, rfl, iteT q⟩
end
end MK

set_option Elab.async false
set_option linter.all false
set_option pp.maxSteps 700
set_option maxRecDepth 100000
set_option maxHeartbeats 4000000
namespace MK
open PySem PySem.Spec PyProof.Rows L2 MM KG MP
section
variable {P : Program} {w : World} {K : PySem.W.Frag} {mg : Str → Option Value} {base : Heap} {EC : ECs}
def spIsNum : Sp := fun vs H Q _ => ∃ z : Str, vs = [.str z] ∧ z.length ≤ sizeLine ∧ Q (.bl (isNum z)) H
theorem ok_isNumber {f : Addr} {fd : FuncData} {t60 : Tok} (F : Fun K "is_number" "is_number" sIsNumber f fd) (m_len : mg "len" = none) (m_MOST_FIGURES : mg "MOST_FIGURES" = some (.int 60 t60)) : FnOk P w K mg base CX0 1 f fd ["text"] spIsNum := by
  refine F.ok scIsNumber (fun vs H Q E h => ?_) (fun cdv A outer s H vs Q E hr h => ?_)
  · obtain ⟨z, rfl, _⟩ := h
    rfl
  · obtain ⟨z, rfl, hz, q⟩ := h
    refine ⟨_, (pss_cons (ps_if (PW.pt (pw_or (pt_not (pt_val (pe_m0 PySem.F.slot_str_isascii PySem.F.type_str_isascii mt_isascii (pv 0)))) (pw_or1 (pt_not (pt_val (pe_m0 PySem.F.slot_str_isdigit PySem.F.type_str_isdigit mt_isdigit (pv 0))))))) (pss_one (ps_ret pe_bl)) pss_nil)
      (pss_cons (ps_if (pt_cmpR op_gt (pe_callB call_len_str (by rfl) m_len (by decide +kernel) (pa_cons (pv 0) pa_nil)) (pe_glob (v := .int 60) (by rfl) m_MOST_FIGURES ⟨_, rfl⟩) (nomark _)) (pss_one (ps_ret pe_bl)) pss_nil)
      (pss_one (ps_ret (pe_or (pe_cmpR op_eq (pv 0) pe_str (nomark _)) (pe_one (pe_not (pe_m1 PySem.F.slot_str_startswith PySem.F.type_str_startswith mt_startswith (pv 0) pe_str)))))))), ?_⟩
    have last : isNum z = (decide (z = nought) || !Txt.startswith z nought) → Q (.bl (decide (z = nought) || !Txt.startswith z nought)) H := fun e => by rw [← e]; exact q
    have no : isNum z = false → Q (.bl false) H := fun e => by rw [← e]; exact q
    refine ⟨_, rfl, ⟨z, rfl⟩, z, rfl, rfl, trivial, _, rfl, ?_⟩
    cases c1 : Txt.isascii z with
    | false => exact iteT (no (isNum_1 c1))
    | true =>
      refine iteF ⟨_, rfl, ⟨z, rfl⟩, z, rfl, rfl, trivial, _, rfl, ?_⟩
      cases c2 : Txt.isdigit z with
      | false => exact iteT (no (isNum_2 c1 c2))
      | true =>
        refine iteF ⟨_, rfl, _, rfl, hz, _, _, rfl, rfl, _, rfl, ?_⟩
        refine ite2 (fun c3 => no (isNum_3 c1 c2 (by have := of_decide_eq_true c3; omega))) (fun c3 => ?_)
        have c3 : z.length ≤ 60 := by
          rcases Nat.lt_or_ge 60 z.length with h | h
          · exact absurd (decide_eq_true (show (60 : Int) < (z.length : Int) by omega)) c3
          · exact h
        have l := last (isNum_4 c1 c2 c3)
        refine ⟨_, rfl, rfl, _, rfl, ?_⟩
        rw [nought_eq]
        by_cases c4 : z = nought
        · rw [decide_eq_true c4, Bool.true_or] at l
          rw [decide_eq_true (congrArg V.str c4)]
          exact iteT l
        · rw [decide_eq_false c4, Bool.false_or] at l
          rw [decide_eq_false (fun h => c4 (V.str.inj h))]
          exact iteF ⟨_, rfl, ⟨z, rfl⟩, z, _, rfl, rfl, _, rfl, l⟩
/-- read: the deed that the line writes, or NoDeed -/
def spRead (EC : ECs) : Sp := fun vs H Q E => ∃ z : Str, vs = [.str z] ∧ z.length + 2 ≤ sizeLine ∧
  (∀ w ns, parse z = some (w, ns) → ∀ p H', Same H H' → H p = none → H' p = some (.tup (V.str w :: ns.map fun n => V.int ((n : Nat) : Int))) → Q (.ref p) H') ∧ (parse z = none → ∀ H', Same H H' → E (.ref EC.noDeed) none H')
theorem ok_read {f fn cC : Addr} {fd fdn : FuncData} {es : Array DictEntry} {n : Nat} (F : Fun K "read" "read" sRead f fd) (D_is_number : Df P w K mg base CX0 1 "is_number" fn fdn ["text"] spIsNum) (KD : KDict K w cC es n) (kv : ∀ z, CntAt K cC z) (m_COUNTS : mg "COUNTS" = some (.ref cC))
    (T_NoDeed : ExC K mg "NoDeed" EC.noDeed) (m_len : mg "len" = none) (m_all : mg "all" = none) (m_int : mg "int" = none) : FnOk P w K mg base (CX P w) 2 f fd ["line"] (spRead EC) := by
  refine F.okX scRead (fun vs H Q E h => ?_) (fun cdv A outer s H vs Q E hr h => ?_)
  · obtain ⟨z, rfl, _⟩ := h
    rfl
  · obtain ⟨z, rfl, hz, qy, qn⟩ := h
    refine ⟨_, (pss_cons (ps_set (i := 1) scRead.nd rfl (.inl rfl) (pe_split (pv 0) pe_str))
      (pss_cons (ps_set (i := 2) scRead.nd rfl (.inl rfl) (pe_ix (ixL (K := K)) (pv 1) pe_int (fun _ _ => rfl)))
      (pss_cons (ps_set (i := 3) scRead.nd rfl (.inl rfl) (pe_slice (slL (K := K)) (pv 1) (po_some pe_int) po_none))
      (pss_cons (ps_if (PW.pt (pw_or (pt_cmpR ((op_notIn_kd KD)) (pv 2) (pe_glob (v := .ref cC) (by rfl) m_COUNTS rfl) (by rfl)) (pw_or1 (pt_cmpR op_ne (pe_callB (lenS (K := K)) (by rfl) m_len (by decide +kernel) (pa_cons (pv 3) pa_nil)) (pe_ix ix_kdict (pe_glob (v := .ref cC) (by rfl) m_COUNTS rfl) (pv 2) (fun _ _ => rfl)) (nomark _))))) (pss_one (ps_raise rfl (takes_of rfl rfl rfl rfl) (pmk_own PySem.F.excBase_ValueError T_NoDeed.xP T_NoDeed.gP T_NoDeed.kP (raises_own T_NoDeed.bP T_NoDeed.tP) rfl))) pss_nil)
      (pss_cons (ps_if (pt_not (pt_val (pe_callB (cr_all rfl) (by rfl) m_all (by decide +kernel) (pa_cons (pe_lc (own := [("text", 5)]) (g := gName 5) (tt := tYes) rfl scRead.nd (pi_list (pv 3)) (blkOk_by (N := ["line", "parts", "word", "figures", "numbers", "text"]) (sc := defScope sRead) (by decide +kernel)) (fun _ _ _ _ _ => (pg_name (i := 5) scRead.nd rfl (.inl rfl))) (fun _ _ _ _ _ => pts_nil) (fun _ _ _ _ _ => (pe_call D_is_number.g (hr.mono (by decide)) (by rfl) D_is_number.m D_is_number.k D_is_number.b .nil pass0 (pa_cons (pv 5) pa_nil)))) pa_nil)))) (pss_one (ps_raise rfl (takes_of rfl rfl rfl rfl) (pmk_own PySem.F.excBase_ValueError T_NoDeed.xP T_NoDeed.gP T_NoDeed.kP (raises_own T_NoDeed.bP T_NoDeed.tP) rfl))) pss_nil)
      (pss_cons (ps_setLc (i := 4) (own := [("text", 5)]) (g := gName 5) (tt := tYes) rfl scRead.nd rfl rfl (sw_true rfl rfl rfl (by decide +kernel)) (pi_list (pv 3)) (blkOk_by (N := ["line", "parts", "word", "figures", "numbers", "text"]) (sc := defScope sRead) (by decide +kernel)) (fun _ _ _ _ _ => (pg_name (i := 5) scRead.nd rfl (.inl rfl))) (fun _ _ _ _ _ => pts_nil) (fun _ _ _ _ _ => (pe_callTy call_int_str (by rfl) m_int (by decide +kernel) (pa_cons (pv 5) pa_nil))))
      (pss_one (ps_ret (pe_tup (pa_cons (pv 2) (StX.pa_star (pv 4) pa_nil))))))))))), ?_⟩
    obtain ⟨sp1, sp2, sp3⟩ := split_all z
    unfold parse at qy qn
    refine ⟨_, rfl, ⟨z, rfl⟩, z, _, rfl, rfl, by decide +kernel, hz, fun p np => ?_⟩
    rw [blank_eq]
    generalize hW : Txt.split z blank = W at sp1 sp2 sp3 qy qn
    cases W with
    | nil => exact absurd rfl sp1
    | cons x figs =>
    have gp : (upd H p (.lst ((x :: figs).map V.str))) p = some (.lst ((x :: figs).map V.str)) := upd_same
    have s1 : Same H (upd H p (.lst ((x :: figs).map V.str))) := same_new np
    generalize upd H p (.lst ((x :: figs).map V.str)) = H1 at gp s1
    refine ⟨_, rfl, p, _, 0, V.str x, rfl, rfl, SqL.of gp, atI_nat (j := 0) rfl, ?_⟩
    refine ⟨_, rfl, _, rfl, p, _, rfl, SqL.of gp, fun r nr => ?_⟩
    rw [show cutV ((x :: figs).map V.str) (some 1) none = figs.map V.str from cutV_tail _ _]
    have gr : (upd H1 r (.lst (figs.map V.str))) r = some (.lst (figs.map V.str)) := upd_same
    have s2 : Same H (upd H1 r (.lst (figs.map V.str))) := s1.trans (same_new nr)
    generalize upd H1 r (.lst (figs.map V.str)) = H2 at gr s2
    obtain ⟨v, hv, cv⟩ := kv x
    refine ⟨_, rfl, x, v, rfl, rfl, hv, _, rfl, ?_⟩
    cases hc : cntOf x with
    | none =>
      rw [hc] at cv
      rw [show v = none from cv]
      exact iteT (qn (parseP_no fun h => by rw [hc] at h; exact nomatch h.1) _ s2)
    | some k =>
      rw [hc] at cv
      obtain ⟨t, rfl⟩ := cv
      refine iteF ⟨_, rfl, r, _, rfl, .inl (SqL.of gr), _, rfl, cC, x, V.int ((k : Nat) : Int), rfl, rfl, ⟨es, n, _, KD.at_, KD.lit, hv, ⟨t, rfl⟩⟩, rfl, _, rfl, ?_⟩
      rw [List.length_map]
      by_cases c1 : figs.length = k
      · rw [decide_eq_true (show V.int ((figs.length : Nat) : Int) = V.int ((k : Nat) : Int) by rw [c1])]
        refine iteF ?_
        have fl : figs.length ≤ z.length := by have := sp2; rw [List.length_cons] at this; omega
        have f63 : figs.length < sizeLine := by omega
        refine ⟨_, rfl, r, rfl, ⟨_, SqL.of gr⟩, fun d nd => ?_⟩
        refine lc_list (K := K) (a := r) (xs := figs.map V.str) (fun i H' => Same H2 H' ∧ H' d = some (.lst (((figs.take i).map isNum).map V.bl))) ⟨same_new nd, upd_same⟩ (fun i H' _ ⟨s, _⟩ => SqL.of (s _ _ gr)) ?_ ?_
        · rintro i y H4 hy ⟨s4, hd⟩
          rw [List.getElem?_map] at hy
          obtain ⟨b, hbi, rfl⟩ : ∃ b, figs[i]? = some b ∧ y = V.str b := by
            cases e : figs[i]? with
            | none => rw [e] at hy; cases hy
            | some o => rw [e] at hy; exact ⟨o, rfl, (Option.some.inj hy).symm⟩
          have bl := sp3 b (List.mem_cons_of_mem _ (List.mem_of_getElem? hbi))
          refine ⟨rfl, _, rfl, b, rfl, by omega, _, hd, ?_, same_put s4 nd, ?_⟩
          · rw [List.length_map, List.length_map, List.length_take]
            omega
          · rw [upd_same, List.take_add_one, hbi, List.map_append, List.map_append]
            rfl
        rintro H3 ⟨s3, hd3⟩
        rw [List.length_map, List.take_length] at hd3
        refine ⟨d, figs.map isNum, rfl, SqL.of hd3, _, rfl, ?_⟩
        rw [show (figs.map isNum).all id = figs.all isNum by rw [List.all_map]; rfl]
        cases c2 : figs.all isNum with
        | false => exact iteT (qn (parseP_no fun h => by rw [c2] at h; exact nomatch h.2) _ (s2.trans s3))
        | true =>
          refine iteF ?_
          have al := List.all_eq_true.mp c2
          have gr3 := s3 _ _ gr
          refine ⟨_, rfl, r, rfl, ⟨_, SqL.of gr3⟩, fun m nm => ?_⟩
          refine lc_list (K := K) (a := r) (xs := figs.map V.str) (fun i H' => Same H3 H' ∧ H' m = some (.lst (((figs.take i).map valN).map fun n => V.int ((n : Nat) : Int)))) ⟨same_new nm, upd_same⟩ (fun i H' _ ⟨s, _⟩ => SqL.of (s _ _ gr3)) ?_ ?_
          · rintro i y H4 hy ⟨s4, hd⟩
            rw [List.getElem?_map] at hy
            obtain ⟨b, hbi, rfl⟩ : ∃ b, figs[i]? = some b ∧ y = V.str b := by
              cases e : figs[i]? with
              | none => rw [e] at hy; cases hy
              | some o => rw [e] at hy; exact ⟨o, rfl, (Option.some.inj hy).symm⟩
            obtain ⟨bi, bl⟩ := isNum_int (al b (List.mem_of_getElem? hbi))
            refine ⟨rfl, _, rfl, b, _, rfl, bi, by omega, _, hd, ?_, same_put s4 nm, ?_⟩
            · rw [List.length_map, List.length_map, List.length_take]
              omega
            · rw [upd_same, List.take_add_one, hbi, List.map_append, List.map_append]
              rfl
          rintro H5 ⟨s5, hm5⟩
          rw [List.length_map, List.take_length] at hm5
          refine ⟨_, rfl, _, rfl, m, _, rfl, .inr (SqL.of hm5), ?_, fun u nu => ?_⟩
          · simp only [List.append_nil, List.length_cons, List.length_map]
            omega
          · rw [List.append_nil]
            have s6 := (s2.trans s3).trans s5
            exact qy x (figs.map valN) (parseP_ok (by rw [c1]; exact hc) c2) u _ (s6.trans (same_new nu)) (s6.free nu) upd_same
      · rw [decide_eq_false (show ¬ V.int ((figs.length : Nat) : Int) = V.int ((k : Nat) : Int) from fun h => c1 (by have := V.int.inj h; omega))]
        exact iteT (qn (parseP_no fun h => by rw [hc] at h; exact c1 (Option.some.inj h.1).symm) _ s2)
/-- told: the deed's text -/
def spTold (K : PySem.W.Frag) : Sp := fun vs H Q _ => ∃ (t : Addr) (w : Str) (ns : List Nat), vs = [.ref t] ∧ SqT K H t (V.str w :: ns.map fun n => V.int ((n : Nat) : Int)) ∧ H t = some (.tup (V.str w :: ns.map fun n => V.int ((n : Nat) : Int))) ∧ w.length ≤ 10 ∧ ns.length ≤ 10 ∧ (∀ n ∈ ns, n < 10 ^ 60) ∧
  ∀ H', Same H H' → Q (.str (Txt.join blank (w :: ns.map figS))) H'
end
end MK

set_option Elab.async false
set_option linter.all false
set_option pp.maxSteps 700
set_option maxRecDepth 100000
set_option maxHeartbeats 4000000
namespace MK
open PySem PySem.Spec PyProof.Rows L2 MM KG MP SX TL
def ecAt (EC : ECs) : Nat → Addr
  | 0 => EC.noHand
  | 1 => EC.noSlot
  | 2 => EC.noRoom
  | 3 => EC.nothing
  | 4 => EC.noBox
  | 5 => EC.noWork
  | 6 => EC.noHeap
  | _ => EC.noDeed
/-- the answer's texts -/
def holdsT : Option Nat → Str
  | none => "holds nothing"
  | some k => ("holds " : Str) ++ figS k
def boxT (k : Nat) : Str := ("box " : Str) ++ figS k
def freedT (l : List Nat) : Str := if l = [] then ("freed none" : Str) else ("freed " : Str) ++ Txt.join blank (l.map figS)
inductive Out
  | ok (t : Str) (S : HS)
  | err (i : Nat)
noncomputable def outOf (S : HS) (w : Str) (ns : List Nat) : Out :=
  if w = ("make" : Str) then (match ns with
    | [h, n] => if h < S.hands.length then (if n ≤ 4 then (if S.keys.length < S.room then .ok (boxT S.rows.length) (S.make h n) else .err 2) else .err 1) else .err 0
    | _ => .err 7)
  else if w = ("take" : Str) then (match ns with
    | [h, o, s] => if h < S.hands.length ∧ o < S.hands.length then (match S.hand o with
      | none => .err 3
      | some k => if s < (S.row k).length then .ok (holdsT (S.slot k s)) (S.take h k s) else .err 1) else .err 0
    | _ => .err 7)
  else if w = ("put" : Str) then (match ns with
    | [h, s, o] => if h < S.hands.length ∧ o < S.hands.length then (match S.hand h with
      | none => .err 3
      | some k => if s < (S.row k).length then .ok "done" (S.put k s o) else .err 1) else .err 0
    | _ => .err 7)
  else if w = ("share" : Str) then (match ns with
    | [h, o] => if h < S.hands.length ∧ o < S.hands.length then .ok (holdsT (S.hand o)) (S.share h o) else .err 0
    | _ => .err 7)
  else if w = ("drop" : Str) then (match ns with
    | [h] => if h < S.hands.length then .ok "done" (S.drop h) else .err 0
    | _ => .err 7)
  else (match ns with
    | [n] => if n ≤ 2500 then .ok (freedT (HS.work n S).2) (HS.work n S).1 else .err 5
    | _ => .err 7)
def OutQ (C p : Addr) (EC : ECs) (F : Addr → Prop) (H : Hp) (Q : VK) (E : XK) : Out → Prop
  | .ok t S' => ∀ H' F', HeapAt C H' p F' S' → Frm H F H' F' → Q (.str t) H'
  | .err i => ∀ H', Same H H' → E (.ref (ecAt EC i)) none H'
section
variable {P : Program} {w : World} {K : PySem.W.Frag} {mg : Str → Option Value} {base : Heap} {C : Addr} {EC : ECs}
def spHolds (C : Addr) : Sp := fun vs H Q _ => ∃ (p : Addr) (F : Addr → Prop) (S : HS) (h : Nat), vs = [.ref p, .int ((h : Nat) : Int)] ∧ HeapAt C H p F S ∧ h < S.hands.length ∧ (∀ k, S.hand h = some k → k < 10 ^ 60) ∧ Q (.str (holdsT (S.hand h))) H
/-- a deed of the word w -/
def spAct (C : Addr) (EC : ECs) (u : Str) : Sp := fun vs H Q E => ∃ (p : Addr) (F : Addr → Prop) (S : HS) (ns : List Nat), vs = .ref p :: ns.map nV ∧ cntOf u = some ns.length ∧ HeapAt C H p F S ∧ S.rows.length ≤ 100000 ∧ OutQ C p EC F H Q E (outOf S u ns)
theorem log_ok {n : Nat} (h : n < 10 ^ 60) : (((n : Nat) : Int)).natAbs.log2 < 1920 := by
  rw [Int.natAbs_natCast]
  by_cases b0 : n = 0
  · subst b0
    decide
  · exact Nat.lt_trans ((Nat.log2_lt b0).mpr (Nat.lt_trans h (by decide : 10 ^ 60 < 2 ^ 200))) (by decide)
theorem fig_len {n : Nat} (h : n < 10 ^ 60) : (figS n).length ≤ 60 := isNum_len (isNum_fig h)
theorem small60 {n m : Nat} (h : n ≤ m) (hm : m ≤ 1000000) : n < 10 ^ 60 := Nat.lt_of_le_of_lt (Nat.le_trans h hm) (by decide)
theorem ok_holds {f fh : Addr} {fd fdh : FuncData} (F : Fun K "holds" "holds" sHolds f fd) (D_held : Dm P w K mg base (CX P w) 2 C "held" fh fdh ["self", "hand"] (spHeld C EC)) : FnOk P w K mg base CX0 3 f fd ["heap", "hand"] (spHolds C) := by
  refine F.ok scHolds (fun vs H Q E h => ?_) (fun cdv A outer s H vs Q E hr h => ?_)
  · obtain ⟨p, F, S, h, rfl, _⟩ := h
    rfl
  · obtain ⟨p, F, S, h, rfl, hS, hh, hk, q⟩ := h
    refine ⟨_, (pss_cons (ps_set (i := 2) scHolds.nd rfl (.inl rfl) (pe_meth (pv 0) D_held.c D_held.m D_held.g (hr.mono (by decide)) D_held.b .nil passL (pa_cons (pv 1) pa_nil)))
      (pss_cons (ps_if (pt_cmpR op_isN (pv 2) pe_non (nomark _)) (pss_one (ps_ret pe_str)) pss_nil)
      (pss_one (ps_ret (pe_joined (PJ.cons pe_str (PJ.cons (pe_fmt (pv 2)) PJ.nil))))))), ?_⟩
    obtain ⟨dx, fs, hob, hno⟩ := hS.ob
    refine ⟨_, rfl, p, dx, _, rfl, hob, hno _ (by decide), _, rfl, p, F, S, ((h : Nat) : Int), rfl, hS, (if_pos ⟨by omega, by omega⟩).mpr ?_⟩
    rw [Int.toNat_natCast]
    cases e : S.hand h with
    | none =>
      rw [e] at q
      exact ⟨_, rfl, rfl, _, rfl, iteT q⟩
    | some k =>
      rw [e] at q
      have k60 := hk k e
      have fl := fig_len k60
      refine ⟨_, rfl, rfl, _, rfl, iteF ?_⟩
      refine ⟨_, rfl, by decide +kernel, _, rfl, .inr ⟨_, rfl, log_ok k60, _, rfl, ?_, ?_⟩⟩
      · rw [fig_str, len_app, empty_app]
        have : ("holds " : Str).length = 6 := by decide +kernel
        exact Nat.le_of_lt (size_of (by omega))
      · rw [fig_str, empty_app]
        exact q
theorem sn_make_take : (("make" : Str) = ("take" : Str)) = False := eq_false (by decide +kernel)
theorem sn_make_put : (("make" : Str) = ("put" : Str)) = False := eq_false (by decide +kernel)
theorem sn_make_share : (("make" : Str) = ("share" : Str)) = False := eq_false (by decide +kernel)
theorem sn_make_drop : (("make" : Str) = ("drop" : Str)) = False := eq_false (by decide +kernel)
theorem sn_make_work : (("make" : Str) = ("work" : Str)) = False := eq_false (by decide +kernel)
theorem sn_take_make : (("take" : Str) = ("make" : Str)) = False := eq_false (by decide +kernel)
theorem sn_take_put : (("take" : Str) = ("put" : Str)) = False := eq_false (by decide +kernel)
theorem sn_take_share : (("take" : Str) = ("share" : Str)) = False := eq_false (by decide +kernel)
theorem sn_take_drop : (("take" : Str) = ("drop" : Str)) = False := eq_false (by decide +kernel)
theorem sn_take_work : (("take" : Str) = ("work" : Str)) = False := eq_false (by decide +kernel)
theorem sn_put_make : (("put" : Str) = ("make" : Str)) = False := eq_false (by decide +kernel)
theorem sn_put_take : (("put" : Str) = ("take" : Str)) = False := eq_false (by decide +kernel)
theorem sn_put_share : (("put" : Str) = ("share" : Str)) = False := eq_false (by decide +kernel)
theorem sn_put_drop : (("put" : Str) = ("drop" : Str)) = False := eq_false (by decide +kernel)
theorem sn_put_work : (("put" : Str) = ("work" : Str)) = False := eq_false (by decide +kernel)
theorem sn_share_make : (("share" : Str) = ("make" : Str)) = False := eq_false (by decide +kernel)
theorem sn_share_take : (("share" : Str) = ("take" : Str)) = False := eq_false (by decide +kernel)
theorem sn_share_put : (("share" : Str) = ("put" : Str)) = False := eq_false (by decide +kernel)
theorem sn_share_drop : (("share" : Str) = ("drop" : Str)) = False := eq_false (by decide +kernel)
theorem sn_share_work : (("share" : Str) = ("work" : Str)) = False := eq_false (by decide +kernel)
theorem sn_drop_make : (("drop" : Str) = ("make" : Str)) = False := eq_false (by decide +kernel)
theorem sn_drop_take : (("drop" : Str) = ("take" : Str)) = False := eq_false (by decide +kernel)
theorem sn_drop_put : (("drop" : Str) = ("put" : Str)) = False := eq_false (by decide +kernel)
theorem sn_drop_share : (("drop" : Str) = ("share" : Str)) = False := eq_false (by decide +kernel)
theorem sn_drop_work : (("drop" : Str) = ("work" : Str)) = False := eq_false (by decide +kernel)
theorem sn_work_make : (("work" : Str) = ("make" : Str)) = False := eq_false (by decide +kernel)
theorem sn_work_take : (("work" : Str) = ("take" : Str)) = False := eq_false (by decide +kernel)
theorem sn_work_put : (("work" : Str) = ("put" : Str)) = False := eq_false (by decide +kernel)
theorem sn_work_share : (("work" : Str) = ("share" : Str)) = False := eq_false (by decide +kernel)
theorem sn_work_drop : (("work" : Str) = ("drop" : Str)) = False := eq_false (by decide +kernel)
theorem join_le : ∀ xs : List Str, (∀ x ∈ xs, x.length ≤ 60) → (Txt.join blank xs).length ≤ 61 * xs.length := by
  have key : ∀ xs : List (List Nat), (∀ x ∈ xs, x.length ≤ 60) → (joinL [32] xs).length ≤ 61 * xs.length := by
    intro xs
    induction xs with
    | nil => intro _; exact Nat.le_refl 0
    | cons a r ih =>
      intro h
      cases r with
      | nil =>
        have := h a (List.mem_cons_self ..)
        show a.length ≤ 61 * 1
        omega
      | cons b r =>
        have h1 := h a (List.mem_cons_self ..)
        have h2 := ih fun x hx => h x (List.mem_cons_of_mem _ hx)
        show (a ++ ([32] ++ joinL [32] (b :: r))).length ≤ _
        rw [List.length_append, List.length_append]
        simp only [List.length_cons, List.length_nil] at h2 ⊢
        omega
  intro xs h
  rw [join_eq, len_tl, tl_join]
  have := key (xs.map tl) fun x hx => by
    obtain ⟨y, hy, rfl⟩ := List.mem_map.mp hx
    rw [← len_tl]
    exact h y hy
  rw [List.length_map] at this
  exact this
theorem hand_lt {S : HS} (G : Good S) {h k : Nat} (e : S.hand h = some k) : k < S.rows.length := by
  have hm : some k ∈ S.hands := by
    unfold HS.hand at e
    rw [List.getD_eq_getElem?_getD] at e
    cases q : S.hands[h]? with
    | none => rw [q] at e; exact nomatch e
    | some x =>
      rw [q] at e
      have : x = some k := e
      rw [this] at q
      exact List.mem_of_getElem? q
  exact G.lt _ (G.hl _ hm).1
theorem slot_lt {S : HS} (G : Good S) {h k s j : Nat} (e : S.hand h = some k) (e2 : S.slot k s = some j) : j < S.rows.length := by
  have hm : some k ∈ S.hands := by
    unfold HS.hand at e
    rw [List.getD_eq_getElem?_getD] at e
    cases q : S.hands[h]? with
    | none => rw [q] at e; exact nomatch e
    | some x =>
      rw [q] at e
      have : x = some k := e
      rw [this] at q
      exact List.mem_of_getElem? q
  have hj : some j ∈ S.row k := by
    unfold HS.slot at e2
    rw [List.getD_eq_getElem?_getD] at e2
    cases q : (S.row k)[s]? with
    | none => rw [q] at e2; exact nomatch e2
    | some x =>
      rw [q] at e2
      have : x = some j := e2
      rw [this] at q
      exact List.mem_of_getElem? q
  exact G.lt _ (G.cl _ (G.hl _ hm) _ hj).1
theorem hand_set' {S : HS} {h : Nat} {y : Option Nat} (hx : h < S.hands.length) : ({ S with hands := S.hands.set h y } : HS).hand h = y := by
  unfold HS.hand
  rw [List.getD_eq_getElem?_getD]
  show ((S.hands.set h y)[h]?).getD none = _
  rw [List.getElem?_set]
  simp [hx]
theorem piece_key {S : HS} (G : Good S) {b : Nat} (e : S.piece.2 = some b) : b ∈ S.keys := by
  have e' : S.step.2 = some b := e
  unfold HS.step at e'
  split at e'
  · split at e'
    · exact nomatch e'
    · unfold HS.sweepOn at e'
      split at e'
      · exact nomatch e'
      · rename_i x r hu
        split at e'
        · exact nomatch e'
        · injection e' with e'
          subst e'
          exact (G.us _ (by rw [hu]; exact List.mem_cons_self)).2
  · exact nomatch e'
theorem work_lt {S : HS} (G : Good S) : ∀ (n b : Nat), b ∈ (HS.work n S).2 → b < S.rows.length
  | 0, b, h => nomatch h
  | n + 1, b, h => by
    rcases List.mem_append.mp (show b ∈ (HS.work n S).2 ++ (HS.work n S).1.piece.2.toList from h) with h | h
    · exact work_lt G n b h
    · have e : (HS.work n S).1.piece.2 = some b := by
        cases q : (HS.work n S).1.piece.2 with
        | none => rw [q] at h; exact nomatch h
        | some x =>
          rw [q] at h
          have : b = x := by simpa using h
          rw [this]
      have := (Good.work G n).lt _ (piece_key (Good.work G n) e)
      rw [(work_fields S n).2.1] at this
      exact this
theorem work_len' (S : HS) : ∀ n, (HS.work n S).2.length ≤ n
  | 0 => Nat.le_refl 0
  | n + 1 => by
    show ((HS.work n S).2 ++ (HS.work n S).1.piece.2.toList).length ≤ n + 1
    rw [List.length_append]
    have := work_len' S n
    have : (HS.work n S).1.piece.2.toList.length ≤ 1 := by cases (HS.work n S).1.piece.2 <;> simp
    omega
theorem ok_amake {f f1 : Addr} {fd d1 : FuncData} (F : Fun K "make" "make" sMake f fd) (D_make : Dm P w K mg base (CX P w) 2 C "make" f1 d1 ["self", "hand", "slots"] (spMake C EC)) : FnOk P w K mg base (CX P w) 3 f fd ["heap", "hand", "slots"] (spAct C EC "make") := by
  refine F.okX scMake (fun vs H Q E h => ?_) (fun cdv Aenv outer s H vs Q E hr h => ?_)
  · obtain ⟨p, F, S, ns, rfl, hc, _⟩ := h
    have hc := Option.some.inj ((show cntOf "make" = some 2 by decide +kernel).symm.trans hc)
    show (ns.map nV).length + 1 = 3
    rw [List.length_map]
    omega
  · obtain ⟨p, F, S, ns, rfl, hc, hS, r5, q⟩ := h
    have hc := Option.some.inj ((show cntOf "make" = some 2 by decide +kernel).symm.trans hc)
    obtain ⟨a, b, rfl⟩ : ∃ a b : Nat, ns = [a, b] := by
      match ns, hc with
      | [a, b], _ => exact ⟨a, b, rfl⟩
    refine ⟨_, (pss_cons (ps_set (i := 3) scMake.nd rfl (.inl rfl) (pe_meth (pv 0) D_make.c D_make.m D_make.g (hr.mono (by decide)) D_make.b .nil (passes_call (takes_of rfl rfl rfl rfl) (fun _ _ _ _ h => h)) (pa_cons (pv 1) (pa_cons (pv 2) pa_nil))))
      (pss_one (ps_ret (pe_joined (PJ.cons pe_str (PJ.cons (pe_fmt (pv 3)) PJ.nil)))))), ?_⟩
    obtain ⟨dx, fs, hob, hno⟩ := hS.ob
    have G := hS.good
    unfold outOf at q
    simp only [sn_make_take, sn_make_put, sn_make_share, sn_make_drop, sn_make_work, if_true, if_false] at q
    refine ⟨_, rfl, p, dx, _, rfl, hob, hno _ (by decide), _, rfl, _, rfl, p, F, S, ((a : Nat) : Int), ((b : Nat) : Int), rfl, hS, ?_⟩
    have okiff : okHand S ((a : Nat) : Int) ↔ a < S.hands.length := ⟨fun h => by have := h.2; omega, fun h => ⟨by omega, by omega⟩⟩
    by_cases c1 : a < S.hands.length
    · rw [if_pos c1] at q
      refine (if_pos (okiff.mpr c1)).mpr ?_
      by_cases c2 : b ≤ 4
      · rw [if_pos c2] at q
        refine (if_pos ⟨by omega, by omega⟩).mpr ?_
        by_cases c3 : S.keys.length < S.room
        · rw [if_pos c3] at q
          refine (if_pos c3).mpr fun H' F' h' fr => ?_
          rw [Int.toNat_natCast, Int.toNat_natCast] at h'
          have k60 : S.rows.length < 10 ^ 60 := small60 r5 (by decide)
          have fl := fig_len k60
          have bl : ("box " : Str).length = 4 := by decide +kernel
          refine ⟨_, rfl, by decide +kernel, _, rfl, .inr ⟨_, rfl, log_ok k60, _, rfl, ?_, ?_⟩⟩
          · rw [fig_str, len_app, empty_app]
            exact Nat.le_of_lt (size_of (by omega))
          · rw [fig_str, empty_app]
            exact q H' F' h' fr
        · rw [if_neg c3] at q
          exact (if_neg c3).mpr (q H (Same.refl H))
      · rw [if_neg c2] at q
        exact (if_neg fun h => c2 (by have := h.2; omega)).mpr (q H (Same.refl H))
    · rw [if_neg c1] at q
      exact (if_neg fun h => c1 (okiff.mp h)).mpr (q H (Same.refl H))
theorem ok_atake {f f1 f2 : Addr} {fd d1 d2 : FuncData} (F : Fun K "take" "take" sTake f fd) (D_take : Dm P w K mg base (CX P w) 2 C "take" f1 d1 ["self", "hand", "other", "slot"] (spTake C EC)) (D_holds : Df P w K mg base CX0 3 "holds" f2 d2 ["heap", "hand"] (spHolds C)) : FnOk P w K mg base (CX P w) 4 f fd ["heap", "hand", "other", "slot"] (spAct C EC "take") := by
  refine F.okX scTake (fun vs H Q E h => ?_) (fun cdv Aenv outer s H vs Q E hr h => ?_)
  · obtain ⟨p, F, S, ns, rfl, hc, _⟩ := h
    have hc := Option.some.inj ((show cntOf "take" = some 3 by decide +kernel).symm.trans hc)
    show (ns.map nV).length + 1 = 4
    rw [List.length_map]
    omega
  · obtain ⟨p, F, S, ns, rfl, hc, hS, r5, q⟩ := h
    have hc := Option.some.inj ((show cntOf "take" = some 3 by decide +kernel).symm.trans hc)
    obtain ⟨a, b, c, rfl⟩ : ∃ a b c : Nat, ns = [a, b, c] := by
      match ns, hc with
      | [a, b, c], _ => exact ⟨a, b, c, rfl⟩
    refine ⟨_, (pss_cons (ps_expr (pe_meth (pv 0) D_take.c D_take.m D_take.g (hr.mono (by decide)) D_take.b .nil (passes_call (takes_of rfl rfl rfl rfl) (fun _ _ _ _ h => h)) (pa_cons (pv 1) (pa_cons (pv 2) (pa_cons (pv 3) pa_nil)))))
      (pss_one (ps_ret (pe_call D_holds.g (hr.mono (by decide)) (by rfl) D_holds.m D_holds.k D_holds.b .nil pass0 (pa_cons (pv 0) (pa_cons (pv 1) pa_nil)))))), ?_⟩
    obtain ⟨dx, fs, hob, hno⟩ := hS.ob
    have G := hS.good
    unfold outOf at q
    simp only [sn_take_make, sn_take_put, sn_take_share, sn_take_drop, sn_take_work, if_true, if_false] at q
    have oka : okHand S ((a : Nat) : Int) ↔ a < S.hands.length := ⟨fun h => by have := h.2; omega, fun h => ⟨by omega, by omega⟩⟩
    have okb : okHand S ((b : Nat) : Int) ↔ b < S.hands.length := ⟨fun h => by have := h.2; omega, fun h => ⟨by omega, by omega⟩⟩
    refine ⟨_, rfl, p, dx, _, rfl, hob, hno _ (by decide), _, rfl, _, rfl, _, rfl, p, F, S, ((a : Nat) : Int), ((b : Nat) : Int), ((c : Nat) : Int), rfl, hS, ?_⟩
    by_cases c1 : a < S.hands.length ∧ b < S.hands.length
    · rw [if_pos c1] at q
      refine (if_pos ⟨oka.mpr c1.1, okb.mpr c1.2⟩).mpr ?_
      rw [Int.toNat_natCast]
      cases e : S.hand b with
      | none =>
        rw [e] at q
        exact q H (Same.refl H)
      | some k =>
        rw [e] at q
        dsimp only at q ⊢
        by_cases c2 : c < (S.row k).length
        · rw [if_pos c2] at q
          refine (if_pos ⟨by omega, by omega⟩).mpr fun H' F' h' fr => ?_
          rw [Int.toNat_natCast, Int.toNat_natCast] at h'
          have hh : (S.take a k c).hand a = S.slot k c := hand_set' c1.1
          refine ⟨_, rfl, _, rfl, p, F', S.take a k c, a, rfl, h', ?_, fun j ej => ?_, ?_⟩
          · show a < (S.hands.set _ _).length
            rw [List.length_set]
            exact c1.1
          · rw [hh] at ej
            exact small60 (Nat.le_trans (Nat.le_of_lt (slot_lt G e ej)) r5) (by decide)
          · rw [hh]
            exact q H' F' h' fr
        · rw [if_neg c2] at q
          exact (if_neg fun h => c2 (by have := h.2; omega)).mpr (q H (Same.refl H))
    · rw [if_neg c1] at q
      exact (if_neg fun h => c1 ⟨oka.mp h.1, okb.mp h.2⟩).mpr (q H (Same.refl H))
theorem ok_aput {f f1 : Addr} {fd d1 : FuncData} (F : Fun K "put" "put" sPut f fd) (D_put : Dm P w K mg base (CX P w) 2 C "put" f1 d1 ["self", "hand", "slot", "other"] (spPut C EC)) : FnOk P w K mg base (CX P w) 3 f fd ["heap", "hand", "slot", "other"] (spAct C EC "put") := by
  refine F.okX scPut (fun vs H Q E h => ?_) (fun cdv Aenv outer s H vs Q E hr h => ?_)
  · obtain ⟨p, F, S, ns, rfl, hc, _⟩ := h
    have hc := Option.some.inj ((show cntOf "put" = some 3 by decide +kernel).symm.trans hc)
    show (ns.map nV).length + 1 = 4
    rw [List.length_map]
    omega
  · obtain ⟨p, F, S, ns, rfl, hc, hS, r5, q⟩ := h
    have hc := Option.some.inj ((show cntOf "put" = some 3 by decide +kernel).symm.trans hc)
    obtain ⟨a, b, c, rfl⟩ : ∃ a b c : Nat, ns = [a, b, c] := by
      match ns, hc with
      | [a, b, c], _ => exact ⟨a, b, c, rfl⟩
    refine ⟨_, (pss_cons (ps_expr (pe_meth (pv 0) D_put.c D_put.m D_put.g (hr.mono (by decide)) D_put.b .nil (passes_call (takes_of rfl rfl rfl rfl) (fun _ _ _ _ h => h)) (pa_cons (pv 1) (pa_cons (pv 2) (pa_cons (pv 3) pa_nil)))))
      (pss_one (ps_ret pe_str))), ?_⟩
    obtain ⟨dx, fs, hob, hno⟩ := hS.ob
    have G := hS.good
    unfold outOf at q
    simp only [sn_put_make, sn_put_take, sn_put_share, sn_put_drop, sn_put_work, if_true, if_false] at q
    have oka : okHand S ((a : Nat) : Int) ↔ a < S.hands.length := ⟨fun h => by have := h.2; omega, fun h => ⟨by omega, by omega⟩⟩
    have okb : okHand S ((c : Nat) : Int) ↔ c < S.hands.length := ⟨fun h => by have := h.2; omega, fun h => ⟨by omega, by omega⟩⟩
    refine ⟨_, rfl, p, dx, _, rfl, hob, hno _ (by decide), _, rfl, _, rfl, _, rfl, p, F, S, ((a : Nat) : Int), ((b : Nat) : Int), ((c : Nat) : Int), rfl, hS, ?_⟩
    by_cases c1 : a < S.hands.length ∧ c < S.hands.length
    · rw [if_pos c1] at q
      refine (if_pos ⟨oka.mpr c1.1, okb.mpr c1.2⟩).mpr ?_
      rw [Int.toNat_natCast]
      cases e : S.hand a with
      | none =>
        rw [e] at q
        exact q H (Same.refl H)
      | some k =>
        rw [e] at q
        dsimp only at q ⊢
        by_cases c2 : b < (S.row k).length
        · rw [if_pos c2] at q
          refine (if_pos ⟨by omega, by omega⟩).mpr fun H' F' h' fr => ?_
          rw [Int.toNat_natCast, Int.toNat_natCast] at h'
          exact q H' F' h' fr
        · rw [if_neg c2] at q
          exact (if_neg fun h => c2 (by have := h.2; omega)).mpr (q H (Same.refl H))
    · rw [if_neg c1] at q
      exact (if_neg fun h => c1 ⟨oka.mp h.1, okb.mp h.2⟩).mpr (q H (Same.refl H))
theorem ok_ashare {f f1 f2 : Addr} {fd d1 d2 : FuncData} (F : Fun K "share" "share" sShare f fd) (D_share : Dm P w K mg base (CX P w) 2 C "share" f1 d1 ["self", "hand", "other"] (spShare C EC)) (D_holds : Df P w K mg base CX0 3 "holds" f2 d2 ["heap", "hand"] (spHolds C)) : FnOk P w K mg base (CX P w) 4 f fd ["heap", "hand", "other"] (spAct C EC "share") := by
  refine F.okX scShare (fun vs H Q E h => ?_) (fun cdv Aenv outer s H vs Q E hr h => ?_)
  · obtain ⟨p, F, S, ns, rfl, hc, _⟩ := h
    have hc := Option.some.inj ((show cntOf "share" = some 2 by decide +kernel).symm.trans hc)
    show (ns.map nV).length + 1 = 3
    rw [List.length_map]
    omega
  · obtain ⟨p, F, S, ns, rfl, hc, hS, r5, q⟩ := h
    have hc := Option.some.inj ((show cntOf "share" = some 2 by decide +kernel).symm.trans hc)
    obtain ⟨a, b, rfl⟩ : ∃ a b : Nat, ns = [a, b] := by
      match ns, hc with
      | [a, b], _ => exact ⟨a, b, rfl⟩
    refine ⟨_, (pss_cons (ps_expr (pe_meth (pv 0) D_share.c D_share.m D_share.g (hr.mono (by decide)) D_share.b .nil (passes_call (takes_of rfl rfl rfl rfl) (fun _ _ _ _ h => h)) (pa_cons (pv 1) (pa_cons (pv 2) pa_nil))))
      (pss_one (ps_ret (pe_call D_holds.g (hr.mono (by decide)) (by rfl) D_holds.m D_holds.k D_holds.b .nil pass0 (pa_cons (pv 0) (pa_cons (pv 1) pa_nil)))))), ?_⟩
    obtain ⟨dx, fs, hob, hno⟩ := hS.ob
    have G := hS.good
    unfold outOf at q
    simp only [sn_share_make, sn_share_take, sn_share_put, sn_share_drop, sn_share_work, if_true, if_false] at q
    have oka : okHand S ((a : Nat) : Int) ↔ a < S.hands.length := ⟨fun h => by have := h.2; omega, fun h => ⟨by omega, by omega⟩⟩
    have okb : okHand S ((b : Nat) : Int) ↔ b < S.hands.length := ⟨fun h => by have := h.2; omega, fun h => ⟨by omega, by omega⟩⟩
    refine ⟨_, rfl, p, dx, _, rfl, hob, hno _ (by decide), _, rfl, _, rfl, p, F, S, ((a : Nat) : Int), ((b : Nat) : Int), rfl, hS, ?_⟩
    by_cases c1 : a < S.hands.length ∧ b < S.hands.length
    · rw [if_pos c1] at q
      refine (if_pos ⟨oka.mpr c1.1, okb.mpr c1.2⟩).mpr fun H' F' h' fr => ?_
      rw [Int.toNat_natCast, Int.toNat_natCast] at h'
      have hh : (S.share a b).hand a = S.hand b := hand_set' c1.1
      refine ⟨_, rfl, _, rfl, p, F', S.share a b, a, rfl, h', ?_, fun j ej => ?_, ?_⟩
      · show a < (S.hands.set _ _).length
        rw [List.length_set]
        exact c1.1
      · rw [hh] at ej
        exact small60 (Nat.le_trans (Nat.le_of_lt (hand_lt G ej)) r5) (by decide)
      · rw [hh]
        exact q H' F' h' fr
    · rw [if_neg c1] at q
      exact (if_neg fun h => c1 ⟨oka.mp h.1, okb.mp h.2⟩).mpr (q H (Same.refl H))
theorem ok_adrop {f f1 : Addr} {fd d1 : FuncData} (F : Fun K "drop" "drop" sDrop f fd) (D_drop : Dm P w K mg base (CX P w) 2 C "drop" f1 d1 ["self", "hand"] (spDrop C EC)) : FnOk P w K mg base (CX P w) 3 f fd ["heap", "hand"] (spAct C EC "drop") := by
  refine F.okX scDrop (fun vs H Q E h => ?_) (fun cdv Aenv outer s H vs Q E hr h => ?_)
  · obtain ⟨p, F, S, ns, rfl, hc, _⟩ := h
    have hc := Option.some.inj ((show cntOf "drop" = some 1 by decide +kernel).symm.trans hc)
    show (ns.map nV).length + 1 = 2
    rw [List.length_map]
    omega
  · obtain ⟨p, F, S, ns, rfl, hc, hS, r5, q⟩ := h
    have hc := Option.some.inj ((show cntOf "drop" = some 1 by decide +kernel).symm.trans hc)
    obtain ⟨a, rfl⟩ : ∃ a : Nat, ns = [a] := by
      match ns, hc with
      | [a], _ => exact ⟨a, rfl⟩
    refine ⟨_, (pss_cons (ps_expr (pe_meth (pv 0) D_drop.c D_drop.m D_drop.g (hr.mono (by decide)) D_drop.b .nil (passes_call (takes_of rfl rfl rfl rfl) (fun _ _ _ _ h => h)) (pa_cons (pv 1) pa_nil)))
      (pss_one (ps_ret pe_str))), ?_⟩
    obtain ⟨dx, fs, hob, hno⟩ := hS.ob
    have G := hS.good
    unfold outOf at q
    simp only [sn_drop_make, sn_drop_take, sn_drop_put, sn_drop_share, sn_drop_work, if_true, if_false] at q
    have oka : okHand S ((a : Nat) : Int) ↔ a < S.hands.length := ⟨fun h => by have := h.2; omega, fun h => ⟨by omega, by omega⟩⟩
    refine ⟨_, rfl, p, dx, _, rfl, hob, hno _ (by decide), _, rfl, p, F, S, ((a : Nat) : Int), rfl, hS, ?_⟩
    by_cases c1 : a < S.hands.length
    · rw [if_pos c1] at q
      refine (if_pos (oka.mpr c1)).mpr fun H' F' h' fr => ?_
      rw [Int.toNat_natCast] at h'
      exact q H' F' h' fr
    · rw [if_neg c1] at q
      exact (if_neg fun h => c1 (oka.mp h)).mpr (q H (Same.refl H))
theorem ok_awork {f f1 : Addr} {fd d1 : FuncData} (F : Fun K "work" "work" sWork f fd) (D_work : Dm P w K mg base (CX P w) 4 C "work" f1 d1 ["self", "pieces"] (spWork C EC)) (m_str : mg "str" = none) : FnOk P w K mg base (CX P w) 5 f fd ["heap", "pieces"] (spAct C EC "work") := by
  refine F.okX scWork (fun vs H Q E h => ?_) (fun cdv Aenv outer s H vs Q E hr h => ?_)
  · obtain ⟨p, F, S, ns, rfl, hc, _⟩ := h
    have hc := Option.some.inj ((show cntOf "work" = some 1 by decide +kernel).symm.trans hc)
    show (ns.map nV).length + 1 = 2
    rw [List.length_map]
    omega
  · obtain ⟨p, F, S, ns, rfl, hc, hS, r5, q⟩ := h
    have hc := Option.some.inj ((show cntOf "work" = some 1 by decide +kernel).symm.trans hc)
    obtain ⟨a, rfl⟩ : ∃ a : Nat, ns = [a] := by
      match ns, hc with
      | [a], _ => exact ⟨a, rfl⟩
    refine ⟨_, (pss_cons (ps_set (i := 2) scWork.nd rfl (.inl rfl) (pe_meth (pv 0) D_work.c D_work.m D_work.g (hr.mono (by decide)) D_work.b .nil (passes_call (takes_of rfl rfl rfl rfl) (fun _ _ _ _ h => h)) (pa_cons (pv 1) pa_nil)))
      (pss_cons (ps_if (pt_not (pt_truth (pv 2) (by intro _; rfl))) (pss_one (ps_ret pe_str)) pss_nil)
      (pss_cons (ps_set (i := 3) scWork.nd rfl (.inl rfl) (pe_join pe_str (pe_lc (own := [("box", 4)]) (g := gName 4) (tt := tYes) rfl scWork.nd (pi_list (pv 2)) (blkOk_by (N := ["heap", "pieces", "freed", "numbers", "box"]) (sc := defScope sWork) (by decide +kernel)) (fun _ _ _ _ _ => (pg_name (i := 4) scWork.nd rfl (.inl rfl))) (fun _ _ _ _ _ => pts_nil) (fun _ _ _ _ _ => (pe_callTy call_str_int (by rfl) m_str (by decide +kernel) (pa_cons (pv 4) pa_nil))))))
      (pss_one (ps_ret (pe_joined (PJ.cons pe_str (PJ.cons (pe_fmt (pv 3)) PJ.nil)))))))), ?_⟩
    obtain ⟨dx, fs, hob, hno⟩ := hS.ob
    have G := hS.good
    unfold outOf at q
    simp only [sn_work_make, sn_work_take, sn_work_put, sn_work_share, sn_work_drop, if_true, if_false] at q
    refine ⟨_, rfl, p, dx, _, rfl, hob, hno _ (by decide), _, rfl, p, F, S, ((a : Nat) : Int), rfl, hS, ?_⟩
    by_cases c1 : a ≤ 2500
    · rw [if_pos c1] at q
      refine (if_pos ⟨by omega, by omega⟩).mpr fun H' F' l h' fr nl nFl hl => ?_
      rw [Int.toNat_natCast] at h' hl
      have wl := work_lt G a
      have wn := work_len' S a
      have q' := fun (H2 : Hp) (s2 : Same H' H2) => q H2 F' (h'.same s2) (fr.same s2)
      generalize (HS.work a S).2 = freed at hl wl wn q'
      refine ⟨_, rfl, !freed.isEmpty, .inl ⟨_, SqL.of hl, by rw [List.isEmpty_map]⟩, ?_⟩
      by_cases c2 : freed = []
      · subst c2
        exact iteT (q' H' (Same.refl H'))
      have ie : freed.isEmpty = false := by
        cases freed with
        | nil => exact absurd rfl c2
        | cons => rfl
      rw [ie]
      refine iteF ?_
      have l60 : ∀ b ∈ freed, b < 10 ^ 60 := fun b hb => small60 (Nat.le_trans (Nat.le_of_lt (wl b hb)) r5) (by decide)
      refine ⟨⟨_, rfl⟩, _, rfl, l, rfl, ⟨_, SqL.of hl⟩, fun d nd => ?_⟩
      refine lc_list (K := K) (a := l) (xs := freed.map nV) (fun i H2 => Same H' H2 ∧ H2 d = some (.lst (((freed.take i).map figS).map V.str))) ⟨same_new nd, upd_same⟩ (fun i H2 _ ⟨s, _⟩ => SqL.of (s _ _ hl)) ?_ ?_
      · rintro i y H4 hy ⟨s4, hd⟩
        rw [List.getElem?_map] at hy
        obtain ⟨b, hbi, rfl⟩ : ∃ b, freed[i]? = some b ∧ y = nV b := by
          cases e : freed[i]? with
          | none => rw [e] at hy; cases hy
          | some o => rw [e] at hy; exact ⟨o, rfl, (Option.some.inj hy).symm⟩
        refine ⟨rfl, _, rfl, _, rfl, log_ok (l60 b (List.mem_of_getElem? hbi)), _, hd, size_of (by rw [List.length_map, List.length_map, List.length_take]; omega), same_put s4 nd, ?_⟩
        rw [upd_same, List.take_add_one, hbi, List.map_append, List.map_append, fig_str]
        rfl
      rintro H4 ⟨s4, hd⟩
      rw [List.length_map, List.take_length] at hd
      have jl := join_le (freed.map figS) fun x hx => by
        obtain ⟨b, hb, rfl⟩ := List.mem_map.mp hx
        exact fig_len (l60 b hb)
      rw [List.length_map] at jl
      have b1 : (" " : Str).length = 1 := by decide +kernel
      have sm : (((freed.map figS)).map (·.length)).sum ≤ freed.length * 60 := by
        clear q' hl hd wl wn c2 ie jl s4
        induction freed with
        | nil => simp
        | cons b r ih =>
          have := fig_len (l60 b (List.mem_cons_self ..))
          have := ih fun n h => l60 n (List.mem_cons_of_mem _ h)
          simp only [List.map_cons, List.sum_cons, List.length_cons]
          omega
      refine ⟨_, d, freed.map figS, rfl, rfl, .inl (SqL.of hd), ?_, ?_⟩
      · rw [b1, List.length_map]
        omega
      rw [blank_eq]
      have f6 : ("freed " : Str).length = 6 := by decide +kernel
      refine ⟨_, rfl, by decide +kernel, _, rfl, .inl ⟨_, rfl, Nat.le_of_lt (Nat.lt_of_le_of_lt (show _ ≤ 200000 by omega) (by decide)), _, rfl, ?_, ?_⟩⟩
      · rw [empty_app, len_app, f6]
        exact Nat.le_of_lt (Nat.lt_of_le_of_lt (show _ ≤ 200000 by omega) (by decide))
      · rw [empty_app]
        have z := q' H4 s4
        unfold freedT at z
        rw [if_neg c2] at z
        exact z
    · rw [if_neg c1] at q
      exact (if_neg fun h => c1 (by have := h.2; omega)).mpr (q H (Same.refl H))
end
end MK

set_option Elab.async false
set_option linter.all false
set_option pp.maxSteps 700
set_option maxRecDepth 100000
set_option maxHeartbeats 4000000
namespace MK
open PySem PySem.Spec PyProof.Rows L2 MM KG MP SX TL
noncomputable def outZ (S : HS) (z : Str) : Out := match parse z with
  | none => .err 7
  | some (u, ns) => outOf S u ns
def ecT : Nat → Str
  | 0 => "no hand"
  | 1 => "no slot"
  | 2 => "no room"
  | 3 => "nothing held"
  | 5 => "no work"
  | _ => "no deed"
noncomputable def stepZ (S : HS) (z : Str) : Str × HS := match outZ S z with
  | .ok t S' => (t, S')
  | .err i => (ecT i, S)
theorem out_err {S : HS} {u : Str} {ns : List Nat} {i : Nat} (h : outOf S u ns = .err i) : i ∈ [0, 1, 2, 3, 5, 7] := by
  unfold outOf at h
  repeat' split at h
  all_goals first | (injection h with h; subst h; decide) | (injection h)
theorem outZ_err {S : HS} {z : Str} {i : Nat} (h : outZ S z = .err i) : i ∈ [0, 1, 2, 3, 5, 7] := by
  unfold outZ at h
  split at h
  · injection h with h; subst h; decide
  · exact out_err h
theorem OutQ.same {C p : Addr} {EC : ECs} {F : Addr → Prop} {H H1 : Hp} {Q : VK} {E : XK} {o : Out} (s : Same H H1) (q : OutQ C p EC F H Q E o) : OutQ C p EC F H1 Q E o := by
  cases o with
  | ok t S' => exact fun H' F' h fr => q H' F' h fun b o e n => fr b o (s b o e) n
  | err i => exact fun H' s' => q H' (s.trans s')
section
variable {P : Program} {w : World} {K : PySem.W.Frag} {mg : Str → Option Value} {base : Heap} {C : Addr} {EC : ECs}
def spDone (C : Addr) (EC : ECs) : Sp := fun vs H Q E => ∃ (p : Addr) (F : Addr → Prop) (S : HS) (z : Str), vs = [.ref p, .str z] ∧ z.length + 2 ≤ sizeLine ∧ HeapAt C H p F S ∧ S.rows.length ≤ 100000 ∧ OutQ C p EC F H Q E (outZ S z)
theorem ok_done {f fr cA : Addr} {fd fdr : FuncData} {es : Array DictEntry} {n : Nat} (F : Fun K "done" "done" sDone f fd) (D_read : Df P w K mg base (CX P w) 2 "read" fr fdr ["line"] (spRead EC)) (KD : KDict K w cA es n) (m_ACTIONS : mg "ACTIONS" = some (.ref cA))
    (hact : ∀ u k, cntOf u = some k → ∃ fw, PySem.W.nsIn K cA u = some (some (.ref fw)) ∧ Act P w K mg base (CX P w) 5 fw (spAct C EC u)) : FnOk P w K mg base (CX P w) 6 f fd ["heap", "line"] (spDone C EC) := by
  refine F.okX scDone (fun vs H Q E h => ?_) (fun cdv A outer s H vs Q E hr h => ?_)
  · obtain ⟨p, F, S, z, rfl, _⟩ := h
    rfl
  · obtain ⟨p, F, S, z, rfl, hz, hS, r5, q⟩ := h
    refine ⟨_, (pss_cons (ps_set (i := 2) scDone.nd rfl (.inl rfl) (pe_call D_read.g (hr.mono (by decide)) (by rfl) D_read.m D_read.k D_read.b .nil (passes_call (takes_of rfl rfl rfl rfl) (fun _ _ _ _ h => h)) (pa_cons (pv 1) pa_nil)))
      (pss_cons (ps_set (i := 3) scDone.nd rfl (.inl rfl) (pe_ix ix_kdict (pe_glob (v := .ref cA) (by rfl) m_ACTIONS rfl) (pe_ix ix_tup (pv 2) pe_int (fun _ _ => rfl)) (fun _ _ => rfl)))
      (pss_cons (ps_set (i := 4) scDone.nd rfl (.inl rfl) (pe_slice sl_tup (pv 2) (po_some pe_int) po_none))
      (pss_one (ps_ret (pe_callAS (k := 5) (i := 3) (hr.mono (by decide)) rfl (.inl rfl) (passes_call (takes_of rfl rfl rfl rfl) (fun _ _ _ _ h => h)) (pa_cons (pv 0) (StX.pa_star (pv 4) pa_nil)))))))), ?_⟩
    unfold outZ at q
    refine ⟨_, rfl, z, rfl, hz, fun u ns e t H1 s1 nt gt => ?_, fun e H1 s1 => ?_⟩
    · rw [e] at q
      dsimp only at q
      have hc := parse_cnt e
      obtain ⟨fw, hv, act⟩ := hact u _ hc
      refine ⟨_, rfl, t, _, 0, V.str u, rfl, rfl, SqT.of gt, atI_nat (j := 0) rfl, cA, u, V.ref fw, rfl, rfl, ⟨es, n, _, KD.at_, KD.lit, hv, rfl⟩, ?_⟩
      refine ⟨_, rfl, _, rfl, t, _, rfl, SqT.of gt, ?_, fun t2 nt2 => ?_⟩
      · intro h
        have := h.1
        rw [show HT.sIx (V.str u :: ns.map fun n => V.int ((n : Nat) : Int)).length 0 (some 1) = min 1 (V.str u :: ns.map fun n => V.int ((n : Nat) : Int)).length from HT.sIx_nat _ 0 1, List.length_cons] at this
        omega
      rw [cutV_tail]
      have s2 : Same H1 (upd H1 t2 (.tup (ns.map fun n => V.int ((n : Nat) : Int)))) := same_new nt2
      have g2 : (upd H1 t2 (.tup (ns.map fun n => V.int ((n : Nat) : Int)))) t2 = some (.tup (ns.map fun n => V.int ((n : Nat) : Int))) := upd_same
      generalize upd H1 t2 (.tup (ns.map fun n => V.int ((n : Nat) : Int))) = H2 at s2 g2
      have s12 := s1.trans s2
      refine ⟨fw, spAct C EC u, rfl, act, _, rfl, _, rfl, t2, _, rfl, .inl (SqT.of g2), p, F, S, ns, ?_, hc, hS.same s12, r5, q.same s12⟩
      show V.ref p :: ((ns.map fun n => V.int ((n : Nat) : Int)) ++ []) = _
      rw [List.append_nil]
      rfl
    · rw [e] at q
      exact q H1 s1
def spAnswered (C : Addr) : Sp := fun vs H Q _ => ∃ (p : Addr) (F : Addr → Prop) (S : HS) (z : Str), vs = [.ref p, .str z] ∧ z.length + 2 ≤ sizeLine ∧ HeapAt C H p F S ∧ S.rows.length ≤ 100000 ∧
  ∀ H' F', HeapAt C H' p F' (stepZ S z).2 → Frm H F H' F' → Q (.str (stepZ S z).1) H'
theorem ok_answered {f fdo : Addr} {fd fdd : FuncData} (F : Fun K "answered" "answered" sAnswered f fd) (D_done : Df P w K mg base (CX P w) 6 "done" fdo fdd ["heap", "line"] (spDone C EC)) (T_NoHand : ExC K mg "NoHand" EC.noHand) (T_NoSlot : ExC K mg "NoSlot" EC.noSlot) (T_NoRoom : ExC K mg "NoRoom" EC.noRoom) (T_NothingHeld : ExC K mg "NothingHeld" EC.nothing) (T_NoWork : ExC K mg "NoWork" EC.noWork) (T_NoDeed : ExC K mg "NoDeed" EC.noDeed)
    (SB : ∀ i j, i ∈ [0, 1, 2, 3, 5, 7] → j ∈ [0, 1, 2, 3, 5, 7] → PySem.W.subIn K (.ref (ecAt EC i)) (.ref (ecAt EC j)) = some (decide (i = j))) : FnOk P w K mg base CX0 7 f fd ["heap", "line"] (spAnswered C) := by
  refine F.ok scAnswered (fun vs H Q E h => ?_) (fun cdv A outer s H vs Q E hr h => ?_)
  · obtain ⟨p, F, S, z, rfl, _⟩ := h
    rfl
  · obtain ⟨p, F, S, z, rfl, hz, hS, r5, q⟩ := h
    refine ⟨_, (pss_one (ps_try_many rfl rfl takes0 (fun W pn xe tk _ => (pss_one (ps_ret (pe_callS D_done.g (hr.mono (by decide)) (by rfl) D_done.m D_done.k D_done.b (fun σ => passAt tk σ) (pa_cons (pv 0) (pa_cons (pv 1) pa_nil)))))) (HdsOk.cons ⟨by rfl, by decide, .inl T_NoHand.gP⟩ (fun a oe cls d pn _ _ => (pss_one (ps_ret pe_str))) (HdsOk.cons ⟨by rfl, by decide, .inl T_NoSlot.gP⟩ (fun a oe cls d pn _ _ => (pss_one (ps_ret pe_str))) (HdsOk.cons ⟨by rfl, by decide, .inl T_NoRoom.gP⟩ (fun a oe cls d pn _ _ => (pss_one (ps_ret pe_str))) (HdsOk.cons ⟨by rfl, by decide, .inl T_NothingHeld.gP⟩ (fun a oe cls d pn _ _ => (pss_one (ps_ret pe_str))) (HdsOk.cons ⟨by rfl, by decide, .inl T_NoWork.gP⟩ (fun a oe cls d pn _ _ => (pss_one (ps_ret pe_str))) (HdsOk.cons ⟨by rfl, by decide, .inl T_NoDeed.gP⟩ (fun a oe cls d pn _ _ => (pss_one (ps_ret pe_str))) HdsOk.nil)))))))), ?_⟩
    refine ⟨_, rfl, _, rfl, p, F, S, z, rfl, hz, hS, r5, ?_⟩
    unfold stepZ at q
    cases e : outZ S z with
    | ok t S' =>
      rw [e] at q
      exact q
    | err i =>
      rw [e] at q
      have hi := outZ_err e
      have q : ∀ H', Same H H' → Q (.str (ecT i)) H' := fun H' s' => q H' F (hS.same s') fun b o e n => ⟨s' b o e, n⟩
      intro H' s'
      have hi' : i = 0 ∨ i = 1 ∨ i = 2 ∨ i = 3 ∨ i = 5 ∨ i = 7 := by simpa using hi
      rcases hi' with rfl | rfl | rfl | rfl | rfl | rfl
      · exact ⟨true, exm_mk T_NoHand (SB 0 0 (by decide) (by decide)), fun _ a ha => q H' s', (fun z => nomatch z)⟩
      · exact ⟨false, exm_mk T_NoHand (SB 1 0 (by decide) (by decide)), (fun z => nomatch z), fun _ => ⟨true, exm_mk T_NoSlot (SB 1 1 (by decide) (by decide)), fun _ a ha => q H' s', (fun z => nomatch z)⟩⟩
      · exact ⟨false, exm_mk T_NoHand (SB 2 0 (by decide) (by decide)), (fun z => nomatch z), fun _ => ⟨false, exm_mk T_NoSlot (SB 2 1 (by decide) (by decide)), (fun z => nomatch z), fun _ => ⟨true, exm_mk T_NoRoom (SB 2 2 (by decide) (by decide)), fun _ a ha => q H' s', (fun z => nomatch z)⟩⟩⟩
      · exact ⟨false, exm_mk T_NoHand (SB 3 0 (by decide) (by decide)), (fun z => nomatch z), fun _ => ⟨false, exm_mk T_NoSlot (SB 3 1 (by decide) (by decide)), (fun z => nomatch z), fun _ => ⟨false, exm_mk T_NoRoom (SB 3 2 (by decide) (by decide)), (fun z => nomatch z), fun _ => ⟨true, exm_mk T_NothingHeld (SB 3 3 (by decide) (by decide)), fun _ a ha => q H' s', (fun z => nomatch z)⟩⟩⟩⟩
      · exact ⟨false, exm_mk T_NoHand (SB 5 0 (by decide) (by decide)), (fun z => nomatch z), fun _ => ⟨false, exm_mk T_NoSlot (SB 5 1 (by decide) (by decide)), (fun z => nomatch z), fun _ => ⟨false, exm_mk T_NoRoom (SB 5 2 (by decide) (by decide)), (fun z => nomatch z), fun _ => ⟨false, exm_mk T_NothingHeld (SB 5 3 (by decide) (by decide)), (fun z => nomatch z), fun _ => ⟨true, exm_mk T_NoWork (SB 5 5 (by decide) (by decide)), fun _ a ha => q H' s', (fun z => nomatch z)⟩⟩⟩⟩⟩
      · exact ⟨false, exm_mk T_NoHand (SB 7 0 (by decide) (by decide)), (fun z => nomatch z), fun _ => ⟨false, exm_mk T_NoSlot (SB 7 1 (by decide) (by decide)), (fun z => nomatch z), fun _ => ⟨false, exm_mk T_NoRoom (SB 7 2 (by decide) (by decide)), (fun z => nomatch z), fun _ => ⟨false, exm_mk T_NothingHeld (SB 7 3 (by decide) (by decide)), (fun z => nomatch z), fun _ => ⟨false, exm_mk T_NoWork (SB 7 5 (by decide) (by decide)), (fun z => nomatch z), fun _ => ⟨true, exm_mk T_NoDeed (SB 7 7 (by decide) (by decide)), fun _ a ha => q H' s', (fun z => nomatch z)⟩⟩⟩⟩⟩⟩
end
end MK

set_option Elab.async false
set_option linter.all false
set_option pp.maxSteps 700
set_option maxRecDepth 100000
set_option maxHeartbeats 4000000
namespace MK
open PySem PySem.Spec PyProof.Rows L2 MM KG MP SX TL
theorem put_rows (S : HS) (b s o : Nat) : (S.put b s o).rows.length = S.rows.length ∧ (S.put b s o).hands = S.hands ∧ (S.put b s o).room = S.room := by
  have e : (if S.line = [] then S else S.markO (S.slot b s)).rows = S.rows ∧ (if S.line = [] then S else S.markO (S.slot b s)).hands = S.hands ∧ (if S.line = [] then S else S.markO (S.slot b s)).room = S.room := by
    split
    · exact ⟨rfl, rfl, rfl⟩
    · unfold HS.markO
      split
      · exact ⟨rfl, rfl, rfl⟩
      · unfold HS.mark
        split <;> exact ⟨rfl, rfl, rfl⟩
  unfold HS.put HS.write
  refine ⟨?_, e.2.1, e.2.2⟩
  rw [List.length_set, e.1]
/-- at most one box more, the hands and the room as many -/
theorem out_fields {S S' : HS} {u : Str} {ns : List Nat} {t : Str} (h : outOf S u ns = .ok t S') : S'.rows.length ≤ S.rows.length + 1 ∧ S'.hands.length = S.hands.length ∧ S'.room = S.room := by
  unfold outOf at h
  repeat' split at h
  all_goals first
    | (injection h; done)
    | (injection h with h1 h2; subst h2; first
        | exact ⟨by show (S.rows ++ [_]).length ≤ _; rw [List.length_append]; exact Nat.le_refl _, by show (S.hands.set _ _).length = _; rw [List.length_set], rfl⟩
        | exact ⟨Nat.le_succ _, by show (S.hands.set _ _).length = _; rw [List.length_set], rfl⟩
        | (have p := put_rows S; exact ⟨by rw [(p _ _ _).1]; exact Nat.le_succ _, by rw [(p _ _ _).2.1], (p _ _ _).2.2⟩)
        | (have p := work_fields S; exact ⟨by rw [(p _).2.1]; exact Nat.le_succ _, by rw [(p _).1], (p _).2.2⟩))
theorem step_fields (S : HS) (z : Str) : (stepZ S z).2.rows.length ≤ S.rows.length + 1 ∧ (stepZ S z).2.hands.length = S.hands.length ∧ (stepZ S z).2.room = S.room := by
  unfold stepZ
  cases e : outZ S z with
  | err i => exact ⟨Nat.le_succ _, rfl, rfl⟩
  | ok t S' =>
    unfold outZ at e
    split at e
    · injection e
    · exact out_fields e
/-- the heap after i lines -/
noncomputable def stAt (S : HS) (zs : List Str) : Nat → HS
  | 0 => S
  | i + 1 => (stepZ (stAt S zs i) (zs.getD i "")).2
noncomputable def ansAt (S : HS) (zs : List Str) (i : Nat) : Str := (stepZ (stAt S zs i) (zs.getD i "")).1
theorem st_fields (S : HS) (zs : List Str) : ∀ i, (stAt S zs i).rows.length ≤ S.rows.length + i ∧ (stAt S zs i).hands.length = S.hands.length ∧ (stAt S zs i).room = S.room
  | 0 => ⟨Nat.le_refl _, rfl, rfl⟩
  | i + 1 => by
    obtain ⟨a, b, c⟩ := st_fields S zs i
    obtain ⟨d, e, f⟩ := step_fields (stAt S zs i) (zs.getD i "")
    exact ⟨by show (stepZ _ _).2.rows.length ≤ _; omega, e.trans b, f.trans c⟩
section
variable {P : Program} {w : World} {K : PySem.W.Frag} {mg : Str → Option Value} {base : Heap} {C : Addr} {EC : ECs}
def spPlayed12 : Sp := fun vs H Q _ => ∃ (lq : Addr) (M R : Nat) (zs : List Str), vs = [.int (M : Int), .int (R : Int), .ref lq] ∧ H lq = some (.lst (zs.map V.str)) ∧ 1 ≤ M ∧ M ≤ 8 ∧ 1 ≤ R ∧ R ≤ 1000 ∧ zs.length ≤ 100 ∧ (∀ z ∈ zs, z.length ≤ 10000) ∧
  ∀ H' D, Same H H' → H D = none → H' D = some (.lst (((List.range zs.length).map (ansAt (HS.new M R) zs)).map V.str)) → Q (.ref D) H'
theorem ok_played12 {f fI fa : Addr} {fd fdI fda : FuncData} (F : Fun K "played" "played" sPlayed f fd) (D_Heap : Dc P w K mg base (CX P w) 1 C "Heap" fI fdI ["self", "hands", "room"] (spInit C EC)) (D_answered : Df P w K mg base CX0 7 "answered" fa fda ["heap", "line"] (spAnswered C)) : FnOk P w K mg base CX0 8 f fd ["hands", "room", "lines"] spPlayed12 := by
  refine F.ok scPlayed (fun vs H Q E h => ?_) (fun cdv A outer s H vs Q E hr h => ?_)
  · obtain ⟨lq, M, R, zs, rfl, _⟩ := h
    rfl
  · obtain ⟨lq, M, R, zs, rfl, hl, m1, m8, r1, r2, z100, zl, q⟩ := h
    refine ⟨_, (pss_cons (ps_set (i := 3) scPlayed.nd rfl (.inr rfl) (pe_make D_Heap.mkk D_Heap.g (hr.mono (by decide)) (by rfl) D_Heap.m D_Heap.b .nil passL (pa_cons (pv 0) (pa_cons (pv 1) pa_nil))))
      (pss_one (ps_ret (pe_lc (own := [("line", 4)]) (g := gName 4) (tt := tYes) rfl scPlayed.nd (pi_list (pv 2)) (blkOk_by (N := ["hands", "room", "lines", "heap", "line"]) (sc := defScope sPlayed) (by decide +kernel)) (fun _ _ _ _ _ => (pg_name (i := 4) scPlayed.nd rfl (.inl rfl))) (fun _ _ _ _ _ => pts_nil) (fun _ _ _ _ _ => (pe_call D_answered.g (hr.mono (by decide)) (by rfl) D_answered.m D_answered.k D_answered.b .nil pass0 (pa_cons (pv 3) (pa_cons (pv 4) pa_nil)))))))), ?_⟩
    refine ⟨_, rfl, _, rfl, fun p dx np ndx ne => ⟨p, dx, (M : Int), (R : Int), rfl, upd_same, (if_pos ⟨by omega, by omega⟩).mpr fun H1 F1 h1 kp => ⟨rfl, ?_⟩⟩⟩
    rw [Int.toNat_natCast, Int.toNat_natCast] at h1
    have kp' : ∀ b o, H b = some o → H1 b = some o ∧ ¬ F1 b := fun b o e => kp b o (by rw [upd_ne (ne_of_none e np), upd_ne (ne_of_none e ndx)]; exact e) (ne_of_none e np)
    have hl1 := kp' _ _ hl
    refine ⟨_, rfl, lq, rfl, ⟨_, SqL.of hl1.1⟩, fun D nD => ?_⟩
    have nFD := h1.fresh nD
    refine lc_list (K := K) (a := lq) (xs := zs.map V.str) (fun i H' => ∃ F', HeapAt C H' p F' (stAt (HS.new M R) zs i) ∧ Frm (upd H1 D (.lst [])) (fun b => F1 b ∨ b = D) H' (fun b => F' b ∨ b = D) ∧ ¬ F' D ∧ H' D = some (.lst (((List.range i).map (ansAt (HS.new M R) zs)).map V.str)))
      ⟨F1, h1.out nFD, Frm.refl _ _, nFD, upd_same⟩ (fun i H' _ ⟨F', h', fr, _, _⟩ => ?_) ?_ ?_
    · have lqD : lq ≠ D := fun e => by rw [e, nD] at hl1; cases hl1.1
      exact SqL.of (fr lq _ (by rw [upd_ne lqD]; exact hl1.1) fun z => z.elim hl1.2 lqD).1
    · rintro i y H4 hy ⟨F4, h4, fr, nF4, hD⟩
      rw [List.getElem?_map] at hy
      obtain ⟨z, hzi, rfl⟩ : ∃ z, zs[i]? = some z ∧ y = V.str z := by
        cases e : zs[i]? with
        | none => rw [e] at hy; cases hy
        | some o => rw [e] at hy; exact ⟨o, rfl, (Option.some.inj hy).symm⟩
      have hi := (List.getElem?_eq_some_iff.mp hzi).1
      have zi := zl z (List.mem_of_getElem? hzi)
      have gz : zs.getD i "" = z := by rw [List.getD_eq_getElem?_getD, hzi]; rfl
      have rb := (st_fields (HS.new M R) zs i).1
      refine ⟨rfl, _, rfl, _, rfl, p, F4, stAt (HS.new M R) zs i, z, rfl, Nat.le_of_lt (size_of (by omega)), h4, by show (stAt (HS.new M R) zs i).rows.length ≤ _; have : (HS.new M R).rows.length = 0 := rfl; omega, fun H5 F5 h5 f5 => ?_⟩
      have hD5 := f5 _ _ hD nF4
      refine ⟨_, hD5.1, size_of (by rw [List.length_map, List.length_map, List.length_range]; omega), F5, ?_, ?_, hD5.2, ?_⟩
      · show HeapAt C _ p F5 (stepZ (stAt (HS.new M R) zs i) (zs.getD i "")).2
        rw [gz]
        exact h5.out hD5.2
      · intro b o e n
        obtain ⟨e1, n1⟩ := fr b o e n
        have nb : b ≠ D := fun z => n (.inr z)
        obtain ⟨e2, n2⟩ := f5 b o e1 fun z => n1 (.inl z)
        exact ⟨by rw [upd_ne nb]; exact e2, fun z => z.elim n2 nb⟩
      · rw [upd_same, List.range_succ, List.map_append, List.map_append]
        refine congrArg (fun l => some (HO.lst l)) (congrArg (_ ++ ·) ?_)
        show [V.str (stepZ (stAt (HS.new M R) zs i) z).1] = [V.str (stepZ (stAt (HS.new M R) zs i) (zs.getD i "")).1]
        rw [gz]
    · rintro H4 ⟨F4, h4, fr, nF4, hD⟩
      rw [List.length_map] at hD
      refine q H4 D (fun b o e => ?_) ?_ hD
      · have k := kp' b o e
        have nb : b ≠ D := fun z => by rw [z, nD] at k; cases k.1
        exact (fr b o (by rw [upd_ne nb]; exact k.1) fun z => z.elim k.2 nb).1
      · cases e : H D with
        | none => rfl
        | some o =>
          have k := kp' D o e
          rw [nD] at k
          cases k.1
end
end MK

set_option Elab.async false
set_option linter.all false
set_option pp.maxSteps 700
set_option maxRecDepth 100000
set_option maxHeartbeats 4000000
namespace MK
open PySem PySem.Spec PyProof.Rows L2 MM KG MP
section
variable {P : Program} {w : World} {K : PySem.W.Frag} {mg : Str → Option Value} {base : Heap} {C : Addr} {EC : ECs}
theorem ok_cell {f : Addr} {fd : FuncData} (F : Fun K "_law_cell_at" "_law_cell_at" sCellAt f fd) (m_len : mg "len" = none) : FnOk P w K mg base CX0 1 f fd ["_law_script", "_law_k"] (spCell K) := by
  refine F.ok scCellAt (fun vs H Q E h => ?_) (fun cdv A outer s H vs Q E hr h => ?_)
  · obtain ⟨l, ns, j, rfl, _⟩ := h
    rfl
  · obtain ⟨l, ns, j, rfl, hS, q⟩ := h
    refine ⟨_, (pss_cons (ps_if (pt_cmpR op_lt (pv 1) (pe_callB (lenS (K := K)) (by rfl) m_len (by decide +kernel) (pa_cons (pv 0) pa_nil)) (nomark _)) (pss_one (ps_ret (pe_ix (ixL (K := K)) (pv 0) (pv 1) (fun _ _ => rfl)))) pss_nil)
      (pss_one (ps_ret pe_int))), ?_⟩
    refine ⟨_, rfl, _, rfl, l, _, rfl, .inl hS, _, _, rfl, rfl, _, rfl, ite2 (fun e => ?_) (fun e => ?_)⟩
    · have e1 := of_decide_eq_true e
      rw [List.length_map] at e1
      exact ⟨_, rfl, _, rfl, l, _, _, _, rfl, rfl, hS, atI_cell (by omega), q⟩
    · have e2 : cellOf ns j = 0 := cell_out fun z => e (decide_eq_true (by rw [List.length_map]; omega))
      rw [e2] at q
      exact q
theorem ok_mixedAt {f fC : Addr} {fd fdC : FuncData} (F : Fun K "_law_mixed_at" "_law_mixed_at" sMixedAt f fd) (D__law_cell_at : Df P w K mg base CX0 1 "_law_cell_at" fC fdC ["_law_script", "_law_k"] (spCell K)) : FnOk P w K mg base CX0 2 f fd ["_law_script", "_law_k"] (spMixedAt K) := by
  refine F.ok scMixedAt (fun vs H Q E h => ?_) (fun cdv A outer s H vs Q E hr h => ?_)
  · obtain ⟨l, ns, j, rfl, _⟩ := h
    rfl
  · obtain ⟨l, ns, k, rfl, hS, q⟩ := h
    refine ⟨_, (pss_one (ps_ret (pe_op op_mod (pe_op op_add (pe_op op_mul (pe_call D__law_cell_at.g (hr.mono (by decide)) (by rfl) D__law_cell_at.m D__law_cell_at.k D__law_cell_at.b .nil pass0 (pa_cons (pv 0) (pa_cons (pv 1) pa_nil))) pe_int) (pe_op op_mul pe_int (pv 1))) pe_int))), ?_⟩
    refine ⟨_, rfl, _, rfl, l, ns, k, rfl, hS, _, _, rfl, rfl, .inr ⟨by decide, by decide⟩, _, rfl, _, _, rfl, rfl, .inl ⟨by decide, by decide⟩, _, _, rfl, rfl, _, _, rfl, rfl, (by show (0 : Int) < 1000003; decide), ?_⟩
    have e : ((mixN ns k : Nat) : Int) = (cellOf ns k * 48271 + 7919 * (k : Int)) % 1000003 := by
      unfold mixN
      have := Int.emod_nonneg (cellOf ns k * 48271 + 7919 * (k : Int)) (show (1000003 : Int) ≠ 0 by decide)
      omega
    rw [e] at q
    exact q
end
end MK

set_option Elab.async false
set_option linter.all false
set_option pp.maxSteps 700
set_option maxRecDepth 100000
set_option maxHeartbeats 4000000
namespace MK
open PySem PySem.Spec PyProof.Rows L2 MM KG MP SX TL
/-- what a line is made of: a deed's word and numbers, or an odd text -/
inductive Prt
  | deed (u : Str) (ns : List Nat)
  | odd (z : Str)
def partV : Prt → List V
  | .deed u ns => .str u :: ns.map nV
  | .odd z => [.str z]
def lineOf : Prt → Str
  | .deed u ns => Txt.join blank (u :: ns.map figS)
  | .odd z => z
def ValidP : Prt → Prop
  | .deed u ns => cntOf u = some ns.length ∧ 32 ∉ tl u ∧ u.length ≤ 5 ∧ ∀ n ∈ ns, n < 10 ^ 60
  | .odd z => parse z = none ∧ z.length ≤ 20 ∧ PyData.strOk z = true
theorem word_ok {u : Str} (h : u ∈ (["make", "take", "put", "share", "drop", "work"] : List Str)) : 32 ∉ tl u ∧ u.length ≤ 5 := by
  have h' : u = "make" ∨ u = "take" ∨ u = "put" ∨ u = "share" ∨ u = "drop" ∨ u = "work" := by simpa using h
  rcases h' with rfl | rfl | rfl | rfl | rfl | rfl <;> exact ⟨by decide +kernel, by decide +kernel⟩
theorem valid_deed {u : Str} {ns : List Nat} (h : u ∈ (["make", "take", "put", "share", "drop", "work"] : List Str)) (hc : cntOf u = some ns.length) (hn : ∀ n ∈ ns, n < 10 ^ 60) : ValidP (.deed u ns) := ⟨hc, (word_ok h).1, (word_ok h).2, hn⟩
theorem cnt_make : cntOf "make" = some 2 := by decide +kernel
theorem cnt_take : cntOf "take" = some 3 := by decide +kernel
theorem cnt_put : cntOf "put" = some 3 := by decide +kernel
theorem cnt_share : cntOf "share" = some 2 := by decide +kernel
theorem cnt_drop : cntOf "drop" = some 1 := by decide +kernel
theorem cnt_work : cntOf "work" = some 1 := by decide +kernel
def oddL : List Str := ["make 0", "drop", "", "put 0 0 01", "work -1", "share 0 0 ", "drop 0\n", "share\t0 0", " make 0 1", "\tdrop 0"]
theorem odd_ok : ∀ z ∈ oddL, ValidP (.odd z) := by
  intro z hz
  have h' : z = "make 0" ∨ z = "drop" ∨ z = "" ∨ z = "put 0 0 01" ∨ z = "work -1" ∨ z = "share 0 0 " ∨ z = "drop 0\n" ∨ z = "share\t0 0" ∨ z = " make 0 1" ∨ z = "\tdrop 0" := by simpa [oddL] using hz
  rcases h' with rfl | rfl | rfl | rfl | rfl | rfl | rfl | rfl | rfl | rfl <;> exact ⟨by decide +kernel, by decide +kernel, by decide +kernel⟩
section
variable {P : Program} {w : World} {K : PySem.W.Frag} {mg : Str → Option Value} {base : Heap} {C : Addr} {EC : ECs}
def spParts : Sp := fun vs H Q _ => ∃ (c M : Nat), vs = [.int (c : Int), .int (M : Int)] ∧ 1 ≤ M ∧ M ≤ 8 ∧ ∀ H' q prt, Same H H' → H q = none → H' q = some (.lst (partV prt)) → ValidP prt → Q (.ref q) H'
theorem ok_parts {f : Addr} {fd : FuncData} (F : Fun K "_law_parts" "_law_parts" sParts f fd) (m_int : mg "int" = none) : FnOk P w K mg base CX0 1 f fd ["_law_cell", "_law_many"] spParts := by
  refine F.ok scParts (fun vs H Q E h => ?_) (fun cdv A outer s H vs Q E hr h => ?_)
  · obtain ⟨c, M, rfl, _⟩ := h
    rfl
  · obtain ⟨c, M, rfl, m1, m8, k⟩ := h
    refine ⟨_, (pss_cons (ps_set (i := 2) scParts.nd rfl (.inl rfl) (pe_op op_fdiv (pv 0) pe_int))
      (pss_cons (ps_set (i := 3) scParts.nd rfl (.inl rfl) (pe_op op_mod (pv 2) (pe_op op_add (pv 1) pe_int)))
      (pss_cons (ps_set (i := 4) scParts.nd rfl (.inl rfl) (pe_op op_mod (pe_op op_fdivN (pv 2) (pe_op op_add (pv 1) pe_int)) (pe_op op_add (pv 1) pe_int)))
      (pss_cons (ps_set (i := 5) scParts.nd rfl (.inl rfl) (pe_op op_mod (pe_op op_fdivN (pe_op op_fdivN (pv 2) (pe_op op_add (pv 1) pe_int)) (pe_op op_add (pv 1) pe_int)) pe_int))
      (pss_cons (ps_if (pt_cmpR op_lt (pe_op op_mod (pv 0) pe_int) pe_int (nomark _)) (pss_one (ps_ret (pe_lst (pa_cons pe_str (pa_cons (pv 3) (pa_cons (pv 5) pa_nil)))))) pss_nil)
      (pss_cons (ps_if (pt_cmpR op_eq (pe_op op_mod (pv 0) pe_int) pe_int (nomark _)) (pss_one (ps_ret (pe_lst (pa_cons pe_str (pa_cons (pv 3) (pa_cons (pv 4) (pa_cons (pe_op op_mod (pv 5) pe_int) pa_nil))))))) pss_nil)
      (pss_cons (ps_if (pt_cmpR op_lt (pe_op op_mod (pv 0) pe_int) pe_int (nomark _)) (pss_one (ps_ret (pe_lst (pa_cons pe_str (pa_cons (pv 3) (pa_cons (pe_op op_mod (pv 5) pe_int) (pa_cons (pv 4) pa_nil))))))) pss_nil)
      (pss_cons (ps_if (pt_cmpR op_eq (pe_op op_mod (pv 0) pe_int) pe_int (nomark _)) (pss_one (ps_ret (pe_lst (pa_cons pe_str (pa_cons (pv 3) (pa_cons (pv 4) pa_nil)))))) pss_nil)
      (pss_cons (ps_if (pt_cmpR op_eq (pe_op op_mod (pv 0) pe_int) pe_int (nomark _)) (pss_one (ps_ret (pe_lst (pa_cons pe_str (pa_cons (pv 3) pa_nil))))) pss_nil)
      (pss_cons (ps_if (pt_cmpR op_eq (pe_op op_mod (pv 0) pe_int) pe_int (nomark _)) (pss_one (ps_ret (pe_lst (pa_cons pe_str (pa_cons (pe_ix (ixL (K := K)) (pe_lst (pa_cons (pe_op op_mod (pe_op op_fdiv (pv 2) pe_int) pe_int) (pa_cons pe_int pa_nil))) (pe_callTy call_int1 (by rfl) m_int (by decide +kernel) (pa_cons (pe_cmpR op_eq (pe_op op_mod (pv 2) pe_int) pe_int (nomark _)) pa_nil)) (fun _ _ => rfl)) pa_nil))))) pss_nil)
      (pss_cons (ps_if (pt_cmpR op_eq (pe_op op_mod (pv 2) pe_int) pe_int (nomark _)) (pss_one (ps_ret (pe_lst (pa_cons pe_str (pa_cons (pe_op op_add (pe_op op_pow pe_int pe_int) (pe_op op_mod (pe_op op_fdiv (pv 2) pe_int) pe_int)) pa_nil))))) pss_nil)
      (pss_cons (ps_set (i := 6) scParts.nd rfl (.inl rfl) (pe_lst (pa_cons pe_str (pa_cons pe_str (pa_cons pe_str (pa_cons pe_str (pa_cons pe_str (pa_cons pe_str pa_nil))))))))
      (pss_cons (ps_set (i := 6) scParts.nd rfl (.inl rfl) (pe_op op_cat (pv 6) (pe_lst (pa_cons pe_str (pa_cons pe_str (pa_cons pe_str (pa_cons pe_str pa_nil)))))))
      (pss_one (ps_ret (pe_lst (pa_cons (pe_ix (ixL (K := K)) (pv 6) (pe_op op_mod (pv 2) pe_int) (fun _ _ => rfl)) pa_nil))))))))))))))))), ?_⟩
    have M1 : (0 : Int) < (M : Int) + 1 := by omega
    have M0 : (M : Int) + 1 ≠ 0 := by omega
    have Ms : ((M : Int) + 1).natAbs < 1073741824 := by omega
    refine ⟨_, rfl, _, _, rfl, rfl, ⟨by decide, by decide⟩, ?_⟩
    refine ⟨_, rfl, _, rfl, _, _, rfl, rfl, _, _, rfl, rfl, M1, ?_⟩
    refine ⟨_, rfl, _, rfl, _, _, rfl, rfl, _, _, rfl, rfl, ⟨M0, Ms⟩, _, rfl, _, _, rfl, rfl, _, _, rfl, rfl, M1, ?_⟩
    refine ⟨_, rfl, _, rfl, _, _, rfl, rfl, _, _, rfl, rfl, ⟨M0, Ms⟩, _, rfl, _, _, rfl, rfl, _, _, rfl, rfl, ⟨M0, Ms⟩, _, _, rfl, rfl, (by show (0 : Int) < 6; decide), ?_⟩
    dsimp only
    have nat_of : ∀ x m : Int, 0 < m → m ≤ 100 → ∃ n : Nat, x % m = (n : Int) ∧ n < 100 := fun x m h h2 => by
      have h0 := Int.emod_nonneg x (show m ≠ 0 by omega)
      have h1 := Int.emod_lt_of_pos x h
      exact ⟨(x % m).toNat, by omega, by omega⟩
    obtain ⟨one, e1, o1⟩ := nat_of ((c : Int) / 9) ((M : Int) + 1) M1 (by omega)
    obtain ⟨oth, e2, o2⟩ := nat_of (((c : Int) / 9).fdiv ((M : Int) + 1)) ((M : Int) + 1) M1 (by omega)
    obtain ⟨lst, e3, o3⟩ := nat_of ((((c : Int) / 9).fdiv ((M : Int) + 1)).fdiv ((M : Int) + 1)) 6 (by decide) (by decide)
    rw [e1, e2, e3]
    obtain ⟨l4, e4, o4⟩ := nat_of (lst : Int) 4 (by decide) (by decide)
    have b60 : ∀ {n : Nat}, n < 100 → n < 10 ^ 60 := fun h => Nat.lt_trans h (by decide)
    generalize (c : Int) / 9 = rest
    have put : ∀ (u : Str) (ns : List Nat), ValidP (.deed u ns) → ∀ q, H q = none → Q (.ref q) (upd H q (.lst (.str u :: ns.map nV))) := fun u ns hv q nq => k _ q (.deed u ns) (same_new nq) nq upd_same hv
    refine ⟨_, rfl, _, _, rfl, rfl, (by show (0 : Int) < 9; decide), _, _, rfl, rfl, _, rfl, ite2 (fun _ => ?_) (fun _ => ?_)⟩
    · refine ⟨_, rfl, _, rfl, (by show 3 ≤ sizeLine; decide), fun q nq => ?_⟩
      exact put "make" [one, lst] (valid_deed (by decide +kernel) cnt_make (by intro n hn; rcases (by simpa using hn : n = one ∨ n = lst) with rfl | rfl <;> exact b60 (by assumption))) q nq
    refine ⟨_, rfl, _, _, rfl, rfl, (by show (0 : Int) < 9; decide), rfl, _, rfl, ite2 (fun _ => ?_) (fun _ => ?_)⟩
    · refine ⟨_, rfl, _, rfl, _, rfl, _, _, rfl, rfl, (by show (0 : Int) < 4; decide), ?_⟩
      dsimp only
      rw [e4]
      refine ⟨(by show 4 ≤ sizeLine; decide), fun q nq => ?_⟩
      exact put "take" [one, oth, l4] (valid_deed (by decide +kernel) cnt_take (by intro n hn; rcases (by simpa using hn : n = one ∨ n = oth ∨ n = l4) with rfl | rfl | rfl <;> exact b60 (by assumption))) q nq
    refine ⟨_, rfl, _, _, rfl, rfl, (by show (0 : Int) < 9; decide), _, _, rfl, rfl, _, rfl, ite2 (fun _ => ?_) (fun _ => ?_)⟩
    · refine ⟨_, rfl, _, rfl, _, _, rfl, rfl, (by show (0 : Int) < 4; decide), _, rfl, ?_⟩
      dsimp only
      rw [e4]
      refine ⟨(by show 4 ≤ sizeLine; decide), fun q nq => ?_⟩
      exact put "put" [one, l4, oth] (valid_deed (by decide +kernel) cnt_put (by intro n hn; rcases (by simpa using hn : n = one ∨ n = l4 ∨ n = oth) with rfl | rfl | rfl <;> exact b60 (by assumption))) q nq
    refine ⟨_, rfl, _, _, rfl, rfl, (by show (0 : Int) < 9; decide), rfl, _, rfl, ite2 (fun _ => ?_) (fun _ => ?_)⟩
    · refine ⟨_, rfl, _, rfl, (by show 3 ≤ sizeLine; decide), fun q nq => ?_⟩
      exact put "share" [one, oth] (valid_deed (by decide +kernel) cnt_share (by intro n hn; rcases (by simpa using hn : n = one ∨ n = oth) with rfl | rfl <;> exact b60 (by assumption))) q nq
    refine ⟨_, rfl, _, _, rfl, rfl, (by show (0 : Int) < 9; decide), rfl, _, rfl, ite2 (fun _ => ?_) (fun _ => ?_)⟩
    · refine ⟨_, rfl, (by show 2 ≤ sizeLine; decide), fun q nq => ?_⟩
      exact put "drop" [one] (valid_deed (by decide +kernel) cnt_drop (by intro n hn; rw [List.mem_singleton.mp hn]; exact b60 o1)) q nq
    refine ⟨_, rfl, _, _, rfl, rfl, (by show (0 : Int) < 9; decide), rfl, _, rfl, ite2 (fun _ => ?_) (fun _ => ?_)⟩
    · obtain ⟨x, ex, ox⟩ := nat_of (rest / 8) 31 (by decide) (by decide)
      refine ⟨_, rfl, _, _, rfl, rfl, ⟨by decide, by decide⟩, _, _, rfl, rfl, (by show (0 : Int) < 31; decide), ?_⟩
      dsimp only
      rw [ex]
      refine ⟨(by show 2 ≤ sizeLine; decide), fun tq ntq => ?_⟩
      have st : Same H (upd H tq (.lst [V.int (x : Int), V.int 2501])) := same_new ntq
      have gt : (upd H tq (.lst [V.int (x : Int), V.int 2501])) tq = some (.lst [V.int (x : Int), V.int 2501]) := upd_same
      generalize upd H tq (.lst [V.int (x : Int), V.int 2501]) = H1 at st gt
      refine ⟨_, rfl, _, _, rfl, rfl, (by show (0 : Int) < 8; decide), rfl, .inr ⟨_, rfl, ?_⟩⟩
      obtain ⟨n, hn, n60⟩ : ∃ n : Nat, atI [V.int (x : Int), V.int 2501] (if decide (V.int (rest % 8) = V.int 7) = true then 1 else 0) = some (V.int ((n : Nat) : Int)) ∧ n < 10 ^ 60 := by
        split
        · exact ⟨2501, rfl, by decide⟩
        · exact ⟨x, rfl, b60 ox⟩
      refine ⟨tq, _, _, _, rfl, rfl, SqL.of gt, hn, (by show 2 ≤ sizeLine; decide), fun q nq => ?_⟩
      exact k _ q (.deed "work" [n]) (st.trans (same_new nq)) (st.free nq) upd_same (valid_deed (by decide +kernel) cnt_work (by intro m hm; rw [List.mem_singleton.mp hm]; exact n60))
    refine ⟨_, rfl, _, _, rfl, rfl, (by show (0 : Int) < 11; decide), rfl, _, rfl, ite2 (fun _ => ?_) (fun n10 => ?_)⟩
    · obtain ⟨x, ex, ox⟩ := nat_of (rest / 11) 99 (by decide) (by decide)
      refine ⟨10, 30, rfl, rfl, ⟨by decide, by decide, by decide⟩, _, rfl, _, _, rfl, rfl, ⟨by decide, by decide⟩, _, _, rfl, rfl, (by show (0 : Int) < 99; decide), ?_⟩
      dsimp only
      rw [ex]
      refine ⟨_, _, rfl, rfl, (by show 2 ≤ sizeLine; decide), fun q nq => ?_⟩
      have e30 : (10 : Int) ^ (30 : Int).toNat + (x : Int) = ((10 ^ 30 + x : Nat) : Int) := by
        rw [show (10 : Int) ^ (30 : Int).toNat = ((10 ^ 30 : Nat) : Int) by decide]
        omega
      have := put "drop" [10 ^ 30 + x] (valid_deed (by decide +kernel) cnt_drop (by intro m hm; rw [List.mem_singleton.mp hm]; exact Nat.lt_trans (Nat.add_lt_add_left ox _) (by decide))) q nq
      rw [show ([10 ^ 30 + x].map nV : List V) = [V.int ((10 : Int) ^ (30 : Int).toNat + (x : Int))] by rw [e30]; rfl] at this
      exact this
    · refine ⟨(by show 6 ≤ sizeLine; decide), fun p1 np1 => ?_⟩
      have s1 : Same H (upd H p1 (.lst [V.str "make 0", V.str "drop", V.str "", V.str "put 0 0 01", V.str "work -1", V.str "share 0 0 "])) := same_new np1
      have g1 : (upd H p1 (.lst [V.str "make 0", V.str "drop", V.str "", V.str "put 0 0 01", V.str "work -1", V.str "share 0 0 "])) p1 = some (.lst [V.str "make 0", V.str "drop", V.str "", V.str "put 0 0 01", V.str "work -1", V.str "share 0 0 "]) := upd_same
      generalize upd H p1 (.lst [V.str "make 0", V.str "drop", V.str "", V.str "put 0 0 01", V.str "work -1", V.str "share 0 0 "]) = H1 at s1 g1
      refine ⟨_, rfl, (by show 4 ≤ sizeLine; decide), fun p2 np2 => ?_⟩
      have s2 : Same H1 (upd H1 p2 (.lst [V.str "drop 0\n", V.str "share\t0 0", V.str " make 0 1", V.str "\tdrop 0"])) := same_new np2
      have g2 : (upd H1 p2 (.lst [V.str "drop 0\n", V.str "share\t0 0", V.str " make 0 1", V.str "\tdrop 0"])) p2 = some (.lst [V.str "drop 0\n", V.str "share\t0 0", V.str " make 0 1", V.str "\tdrop 0"]) := upd_same
      generalize upd H1 p2 (.lst [V.str "drop 0\n", V.str "share\t0 0", V.str " make 0 1", V.str "\tdrop 0"]) = H2 at s2 g2
      refine ⟨p1, p2, _, _, rfl, rfl, s2 _ _ g1, g2, (by show 6 + 4 ≤ sizeLine; decide), fun p3 np3 => ?_⟩
      have s3 : Same H2 (upd H2 p3 (.lst ([V.str "make 0", V.str "drop", V.str "", V.str "put 0 0 01", V.str "work -1", V.str "share 0 0 "] ++ [V.str "drop 0\n", V.str "share\t0 0", V.str " make 0 1", V.str "\tdrop 0"]))) := same_new np3
      have g3 : (upd H2 p3 (.lst ([V.str "make 0", V.str "drop", V.str "", V.str "put 0 0 01", V.str "work -1", V.str "share 0 0 "] ++ [V.str "drop 0\n", V.str "share\t0 0", V.str " make 0 1", V.str "\tdrop 0"]))) p3 = some (.lst (oddL.map V.str)) := upd_same
      generalize upd H2 p3 (.lst ([V.str "make 0", V.str "drop", V.str "", V.str "put 0 0 01", V.str "work -1", V.str "share 0 0 "] ++ [V.str "drop 0\n", V.str "share\t0 0", V.str " make 0 1", V.str "\tdrop 0"])) = H3 at s3 g3
      have lt : rest % 11 < 11 := Int.emod_lt_of_pos _ (by decide)
      have ge : 0 ≤ rest % 11 := Int.emod_nonneg _ (by decide)
      have l10 : rest % 11 < 10 := by
        have : ¬ rest % 11 = 10 := fun h => n10 (decide_eq_true (congrArg V.int h))
        omega
      obtain ⟨v, hv, mv⟩ := atI_some (xs := oddL.map V.str) ge (by show _ < ((10 : Nat) : Int); omega)
      obtain ⟨z, hz, rfl⟩ := List.mem_map.mp mv
      have s03 := s1.trans (s2.trans s3)
      refine ⟨_, rfl, _, rfl, _, _, rfl, rfl, (by show (0 : Int) < 11; decide), p3, _, _, _, rfl, rfl, SqL.of g3, hv, (by show 1 ≤ sizeLine; decide), fun q nq => ?_⟩
      exact k _ q (.odd z) (s03.trans (same_new nq)) (s03.free nq) upd_same (odd_ok z hz)
/-- the text of what is held -/
def spLwHeld : Sp := fun vs H Q _ => ∃ x : Option Nat, vs = [optV x] ∧ (∀ k, x = some k → k < 10 ^ 60) ∧ Q (.str (holdsT x)) H
theorem ok_lwHeld {f : Addr} {fd : FuncData} (F : Fun K "_law_held" "_law_held" sLwHeld f fd) (m_str : mg "str" = none) : FnOk P w K mg base CX0 1 f fd ["_law_box"] spLwHeld := by
  refine F.ok scLwHeld (fun vs H Q E h => ?_) (fun cdv A outer s H vs Q E hr h => ?_)
  · obtain ⟨x, rfl, _⟩ := h
    rfl
  · obtain ⟨x, rfl, hk, q⟩ := h
    refine ⟨_, (pss_cons (ps_if (pt_cmpR op_isN (pv 0) pe_non (nomark _)) (pss_one (ps_ret pe_str)) pss_nil)
      (pss_one (ps_ret (pe_op op_add_str pe_str (pe_callTy call_str_int (by rfl) m_str (by decide +kernel) (pa_cons (pv 0) pa_nil)))))), ?_⟩
    cases x with
    | none => exact ⟨_, rfl, rfl, _, rfl, iteT q⟩
    | some n =>
      have fl := fig_len (hk n rfl)
      have b6 : ("holds " : Str).length = 6 := by decide +kernel
      refine ⟨_, rfl, rfl, _, rfl, iteF ⟨_, rfl, _, rfl, log_ok (hk n rfl), _, _, rfl, rfl, ?_, ?_⟩⟩
      · rw [fig_str, b6]
        exact Nat.le_of_lt (size_of (by omega))
      · rw [fig_str]
        exact q
end
end MK

set_option Elab.async false
set_option linter.all false
set_option pp.maxSteps 700
set_option maxRecDepth 100000
set_option maxHeartbeats 4000000
namespace MK
open PySem PySem.Spec PyProof.Rows L2 MM KG MP SX TL
theorem dn {a b : Str} (h : (a = b) = False) : decide (V.str a = V.str b) = false := decide_eq_false fun e => by
  have := V.str.inj e
  rw [h] at this
  exact this
theorem cnt_cases {u : Str} {k : Nat} (h : cntOf u = some k) : (u = "make" ∧ k = 2) ∨ (u = "take" ∧ k = 3) ∨ (u = "put" ∧ k = 3) ∨ (u = "share" ∧ k = 2) ∨ (u = "drop" ∧ k = 1) ∨ (u = "work" ∧ k = 1) := by
  unfold cntOf at h
  split at h
  · injection h with h; exact .inl ⟨by assumption, h.symm⟩
  split at h
  · injection h with h; exact .inr (.inl ⟨by assumption, h.symm⟩)
  split at h
  · injection h with h; exact .inr (.inr (.inl ⟨by assumption, h.symm⟩))
  split at h
  · injection h with h; exact .inr (.inr (.inr (.inl ⟨by assumption, h.symm⟩)))
  split at h
  · injection h with h; exact .inr (.inr (.inr (.inr (.inl ⟨by assumption, h.symm⟩))))
  split at h
  · injection h with h; exact .inr (.inr (.inr (.inr (.inr ⟨by assumption, h.symm⟩))))
  · exact nomatch h
theorem in2' (x a b : Str) : inV (V.str x) [V.str a, V.str b] = (decide (x = a) || decide (x = b)) := by
  show ((a == x) || ((b == x) || false)) = _
  have bq : ∀ p : Str, (p == x) = decide (x = p) := fun p => by
    by_cases h : x = p
    · subst h
      rw [decide_eq_true rfl]
      exact beq_self_eq_true x
    · rw [decide_eq_false h]
      exact beq_false_of_ne (Ne.symm h)
  rw [bq, bq, Bool.or_false]
theorem d0 {a b : Str} (h : (a = b) = False) : decide (a = b) = false := decide_eq_false fun e => by rw [h] at e; exact e
/-! ### what the law keeps: hands, rows, boxes that are there, the round's steps -/
structure LP (H : Hp) (st hl rl T pq : Addr) (qs : List Addr) (hands : List (Option Nat)) (rows : List MM.Row) (keys : List Nat) (items : List (Option (Nat × Bool))) : Prop where
  stA : H st = some (.lst [.ref hl, .ref rl, .ref T, .ref pq])
  law : LawAt H hl rl qs hands rows
  th : H T = some (.lst (keys.map nV))
  its : ∃ vs, H pq = some (.lst vs) ∧ ItemsAt H (fun q => ¬ footL hl rl qs q ∧ ¬ footZ st pq T q) vs items
  nx : ∀ b, footZ st pq T b → ¬ footL hl rl qs b
  n1 : st ≠ pq
  n2 : st ≠ T
  n3 : pq ≠ T
abbrev L12 (H : Hp) (st hl rl T pq : Addr) (qs : List Addr) (S : HS) : Prop := LP H st hl rl T pq qs S.hands S.rows S.keys (planOf S)
def Foot (st hl rl T pq : Addr) (qs : List Addr) (b : Addr) : Prop := footL hl rl qs b ∨ footZ st pq T b
theorem neMem {qs : List Addr} {a b : Addr} (h : a ∉ qs) (hb : b ∈ qs) : b ≠ a := by intro e; subst e; exact h hb
theorem neP {P : Addr → Prop} {a b : Addr} (h : ¬ P a) (hb : P b) : b ≠ a := by intro e; subst e; exact h hb
theorem neP' {P : Addr → Prop} {a b : Addr} (h : ¬ P a) (hb : P b) : a ≠ b := by intro e; subst e; exact h hb
section
variable {H H' : Hp} {st hl rl T pq : Addr} {qs : List Addr} {hands : List (Option Nat)} {rows : List MM.Row} {keys : List Nat} {items : List (Option (Nat × Bool))}
theorem LP.tracked (h : LP H st hl rl T pq qs hands rows keys items) {b : Addr} (z : Foot st hl rl T pq qs b) : ∃ o, H b = some o := by
  obtain ⟨vs, hv, hi⟩ := h.its
  rcases z with z | z
  · exact h.law.tracked z
  · rcases z with rfl | rfl | rfl
    · exact ⟨_, h.stA⟩
    · exact ⟨_, hv⟩
    · exact ⟨_, h.th⟩
theorem LP.fresh (h : LP H st hl rl T pq qs hands rows keys items) {b : Addr} (n : H b = none) : ¬ Foot st hl rl T pq qs b := fun z => by
  obtain ⟨o, e⟩ := h.tracked z
  rw [n] at e
  cases e
theorem LP.keep (h : LP H st hl rl T pq qs hands rows keys items) (k : ∀ b o, H b = some o → H' b = some o) : LP H' st hl rl T pq qs hands rows keys items := by
  obtain ⟨vs, hv, hi⟩ := h.its
  exact ⟨k _ _ h.stA, h.law.keep fun b _ o e => k b o e, k _ _ h.th, ⟨vs, k _ _ hv, hi.keep fun q o e n => ⟨k q o e, n⟩⟩, h.nx, h.n1, h.n2, h.n3⟩
/-- a hand is stored -/
theorem LP.setH (h : LP H st hl rl T pq qs hands rows keys items) (hs : List (Option Nat)) : LP (upd H hl (.lst (hs.map optV))) st hl rl T pq qs hs rows keys items := by
  obtain ⟨vs, hv, hi⟩ := h.its
  have nz : ∀ b, footZ st pq T b → b ≠ hl := fun b z e => h.nx b z (.inl e)
  refine ⟨by rw [upd_ne (nz _ (.inl rfl))]; exact h.stA, ⟨upd_same, by rw [upd_ne h.law.ne.symm]; exact h.law.rlA, h.law.rowsA.keep fun b hb o e => by rw [upd_ne (neMem h.law.nh hb)]; exact e, h.law.ne, h.law.nh, h.law.nr, h.law.nd⟩, by rw [upd_ne (nz _ (.inr (.inr rfl)))]; exact h.th, ⟨vs, by rw [upd_ne (nz _ (.inr (.inl rfl)))]; exact hv, ?_⟩, h.nx, h.n1, h.n2, h.n3⟩
  exact hi.keep fun q o e n => ⟨by rw [upd_ne fun z => n.1 (.inl z)]; exact e, n⟩
/-- a slot is stored -/
theorem LP.setS (h : LP H st hl rl T pq qs hands rows keys items) {k : Nat} {q : Addr} (row : MM.Row) (hq : qs[k]? = some q) : LP (upd H q (.lst (row.map optV))) st hl rl T pq qs hands (rows.set k row) keys items := by
  obtain ⟨vs, hv, hi⟩ := h.its
  have qm := List.mem_of_getElem? hq
  have nz : ∀ b, footZ st pq T b → b ≠ q := fun b z e => h.nx b z (.inr (.inr (by rw [e]; exact qm)))
  refine ⟨by rw [upd_ne (nz _ (.inl rfl))]; exact h.stA, ⟨by rw [upd_ne (neMem h.law.nh qm).symm]; exact h.law.handsA, by rw [upd_ne (neMem h.law.nr qm).symm]; exact h.law.rlA, h.law.rowsA.set hq h.law.nd, h.law.ne, h.law.nh, h.law.nr, h.law.nd⟩, by rw [upd_ne (nz _ (.inr (.inr rfl)))]; exact h.th, ⟨vs, by rw [upd_ne (nz _ (.inr (.inl rfl)))]; exact hv, ?_⟩, h.nx, h.n1, h.n2, h.n3⟩
  exact hi.keep fun q' o e n => ⟨by rw [upd_ne fun z => n.1 (.inr (.inr (by rw [z]; exact qm)))]; exact e, n⟩
/-- a row more -/
theorem LP.push (h : LP H st hl rl T pq qs hands rows keys items) {H1 : Hp} {q : Addr} {row : MM.Row} (s : Same H H1) (nq : H q = none) (hq : H1 q = some (.lst (row.map optV))) : LP (upd H1 rl (.lst ((qs ++ [q]).map V.ref))) st hl rl T pq (qs ++ [q]) hands (rows ++ [row]) keys items := by
  obtain ⟨vs, hv, hi⟩ := h.its
  have fq := h.fresh nq
  have nz : ∀ b, Foot st hl rl T pq qs b → b ≠ q := fun b z => neP fq z
  have nr : ∀ b, footZ st pq T b → b ≠ rl := fun b z e => h.nx b z (.inr (.inl e))
  have nql : q ≠ rl := fun e => fq (.inl (.inr (.inl e)))
  have fl : ∀ b, footL hl rl (qs ++ [q]) b → footL hl rl qs b ∨ b = q := fun b z => by
    rcases z with z | z | z
    · exact .inl (.inl z)
    · exact .inl (.inr (.inl z))
    · rcases List.mem_append.mp z with z | z
      · exact .inl (.inr (.inr z))
      · exact .inr (List.mem_singleton.mp z)
  refine ⟨?_, ⟨?_, upd_same, ?_, h.law.ne, ?_, ?_, ?_⟩, ?_, ⟨vs, ?_, ?_⟩, fun b z y => ?_, h.n1, h.n2, h.n3⟩
  · rw [upd_ne (nr _ (.inl rfl))]; exact s _ _ h.stA
  · rw [upd_ne h.law.ne]; exact s _ _ h.law.handsA
  · refine RowsAt.push (h.law.rowsA.keep fun b hb o e => ?_) ?_
    · rw [upd_ne (neMem h.law.nr hb)]; exact s _ _ e
    · rw [upd_ne nql]; exact hq
  · intro hm
    rcases List.mem_append.mp hm with hm | hm
    · exact h.law.nh hm
    · exact nz hl (.inl (.inl rfl)) (List.mem_singleton.mp hm)
  · intro hm
    rcases List.mem_append.mp hm with hm | hm
    · exact h.law.nr hm
    · exact nql (List.mem_singleton.mp hm).symm
  · rw [List.nodup_append]
    refine ⟨h.law.nd, by simp, fun a ha b hb => ?_⟩
    rw [List.mem_singleton.mp hb]
    exact nz a (.inl (.inr (.inr ha)))
  · rw [upd_ne (nr _ (.inr (.inr rfl)))]; exact s _ _ h.th
  · rw [upd_ne (nr _ (.inr (.inl rfl)))]; exact s _ _ hv
  · refine hi.keep fun q' o e n => ?_
    have nq' : q' ≠ q := fun z => by rw [z, nq] at e; cases e
    exact ⟨by rw [upd_ne fun z => n.1 (.inr (.inl z))]; exact s _ _ e, fun y => (fl q' y).elim n.1 nq', n.2⟩
  · exact (fl b y).elim (h.nx b z) (nz b (.inr z))
/-- the boxes that are there, stored anew -/
theorem LP.setT (h : LP H st hl rl T pq qs hands rows keys items) (ks : List Nat) : LP (upd H T (.lst (ks.map nV))) st hl rl T pq qs hands rows ks items := by
  obtain ⟨vs, hv, hi⟩ := h.its
  have nl : ∀ b, footL hl rl qs b → b ≠ T := fun b z => neP (h.nx T (.inr (.inr rfl))) z
  exact ⟨by rw [upd_ne h.n2]; exact h.stA, h.law.keep fun b hb o e => by rw [upd_ne (nl b hb)]; exact e, upd_same, ⟨vs, by rw [upd_ne h.n3]; exact hv, hi.keep fun q o e n => ⟨by rw [upd_ne fun z => n.2 (.inr (.inr z))]; exact e, n⟩⟩, h.nx, h.n1, h.n2, h.n3⟩
/-- a step is taken -/
theorem LP.pop {x : Option (Nat × Bool)} {v : V} {vs : List V} (h : LP H st hl rl T pq qs hands rows keys (x :: items)) (hv : H pq = some (.lst (v :: vs))) : LP (upd H pq (.lst vs)) st hl rl T pq qs hands rows keys items := by
  obtain ⟨vs', hv', hi⟩ := h.its
  rw [hv] at hv'
  cases hv'
  have hi' : ItemsAt H (fun q => ¬ footL hl rl qs q ∧ ¬ footZ st pq T q) vs items := by
    cases hi with
    | non r => exact r
    | one h n r => exact r
  have nl : ∀ b, footL hl rl qs b → b ≠ pq := fun b z => neP (h.nx pq (.inr (.inl rfl))) z
  exact ⟨by rw [upd_ne h.n1]; exact h.stA, h.law.keep fun b hb o e => by rw [upd_ne (nl b hb)]; exact e, by rw [upd_ne h.n3.symm]; exact h.th, ⟨vs, upd_same, hi'.keep fun q o e n => ⟨by rw [upd_ne fun z => n.2 (.inr (.inl z))]; exact e, n⟩⟩, h.nx, h.n1, h.n2, h.n3⟩
/-- a new plan -/
theorem LP.newPlan {H2 : Hp} {pq2 : Addr} {vs : List V} {xs : List (Option (Nat × Bool))} (h : LP H st hl rl T pq qs hands rows keys items) (s : Same H H2) (np : H2 pq2 = none) (it : ItemsAt H2 (fun q => H q = none) vs xs) :
    LP (upd (upd H2 pq2 (.lst vs)) st (.lst [.ref hl, .ref rl, .ref T, .ref pq2])) st hl rl T pq2 qs hands rows keys xs := by
  have h2 := h.keep s
  have f2 := h2.fresh np
  have nz : ∀ b, Foot st hl rl T pq qs b → b ≠ pq2 := fun b z => neP f2 z
  have ns : ∀ b, footL hl rl qs b → b ≠ st := fun b z => neP (h.nx st (.inl rfl)) z
  refine ⟨upd_same, h2.law.keep fun b hb o e => by rw [upd_ne (ns b hb), upd_ne (nz b (.inl hb))]; exact e, by rw [upd_ne h.n2.symm, upd_ne (nz T (.inr (.inr (.inr rfl))))]; exact h2.th, ⟨vs, by rw [upd_ne (nz st (.inr (.inl rfl))).symm, upd_same], it.keep fun q o e n => ?_⟩, fun b z y => ?_, nz st (.inr (.inl rfl)), h.n2, (nz T (.inr (.inr (.inr rfl)))).symm⟩
  · have fq := h.fresh n
    have qp : q ≠ pq2 := fun z => by rw [z, np] at e; cases e
    refine ⟨by rw [upd_ne fun z => fq (.inr (.inl z)), upd_ne qp]; exact e, fun y => fq (.inl y), fun y => ?_⟩
    rcases y with y | y | y
    · exact fq (.inr (.inl y))
    · exact qp y
    · exact fq (.inr (.inr (.inr y)))
  · rcases z with z | z | z
    · exact h.nx b (.inl z) y
    · exact nz b (.inl y) z
    · exact h.nx b (.inr (.inr z)) y
end
end MK

set_option Elab.async false
set_option linter.all false
set_option pp.maxSteps 700
set_option maxRecDepth 100000
set_option maxHeartbeats 4000000
namespace MK
open PySem PySem.Spec PyProof.Rows L2 MM KG MP
section
variable {P : Program} {w : World} {K : PySem.W.Frag} {mg : Str → Option Value} {base : Heap} {C : Addr} {EC : ECs}
def metB (n : Nat) (L : List Nat) : List V := (List.range n).map fun k => V.bl (decide (k ∈ L))
theorem metB_len (n : Nat) (L : List Nat) : (metB n L).length = n := by unfold metB; rw [List.length_map, List.length_range]
theorem metB_at {n k : Nat} {L : List Nat} (h : k < n) : atI (metB n L) (k : Int) = some (.bl (decide (k ∈ L))) := by
  refine atI_nat ?_
  unfold metB
  rw [List.getElem?_map, List.getElem?_range h]
  rfl
theorem metB_set {n k : Nat} {L : List Nat} (h : k < n) : (metB n L).set k (.bl true) = metB n (L ++ [k]) := by
  refine List.ext_getElem? fun i => ?_
  unfold metB
  rw [List.getElem?_set, List.length_map, List.length_range, List.getElem?_map, List.getElem?_map]
  by_cases e : k = i
  · subst e
    rw [if_pos rfl, if_pos h, List.getElem?_range h]
    simp
  · rw [if_neg e]
    by_cases c : i < n
    · rw [List.getElem?_range c]
      have : i ≠ k := fun z => e z.symm
      simp [this]
    · rw [List.getElem?_eq_none (by rw [List.length_range]; omega)]
      rfl
def spCame : Sp := fun vs H Q _ => ∃ (hl rl : Addr) (qs : List Addr) (hands : List (Option Nat)) (rows : List MM.Row), vs = [.ref hl, .ref rl] ∧ LawAt H hl rl qs hands rows ∧ (∀ k, Rc hands rows k → k < rows.length) ∧ hands.length ≤ 8 ∧ rows.length ≤ 2000 ∧ (∀ row ∈ rows, row.length ≤ 4) ∧
  ∀ H' D, Same H H' → H D = none → H' D = some (.lst ((came (List.range rows.length) hands rows).map nV)) → Q (.ref D) H'
/-- the state of the going -/
structure CameAt (H0 H : Hp) (cl mt : Addr) (n : Nat) (L : List Nat) : Prop where
  same : Same H0 H
  c : H cl = some (.lst (L.map nV))
  m : H mt = some (.lst (metB n L))
  ne : cl ≠ mt
  c0 : H0 cl = none
  m0 : H0 mt = none
theorem CameAt.push {H0 H : Hp} {cl mt : Addr} {n k : Nat} {L : List Nat} (h : CameAt H0 H cl mt n L) (hk : k < n) : CameAt H0 (upd (upd H mt (.lst ((metB n L).set k (.bl true)))) cl (.lst (L.map nV ++ [nV k]))) cl mt n (L ++ [k]) :=
  ⟨same_put (same_put h.same h.m0) h.c0, by rw [upd_same, List.map_append]; rfl, by rw [upd_ne h.ne.symm, upd_same, metB_set hk], h.ne, h.c0, h.m0⟩
theorem ok_came {f : Addr} {fd : FuncData} (F : Fun K "_law_came" "_law_came" sCame f fd) (m_len : mg "len" = none) : FnOk P w K mg base CX0 1 f fd (["_law_hands_here", "_law_rows"]) spCame := by
  refine F.ok scCame (fun vs H Q E h => ?_) (fun cdv A outer s H vs Q E hr h => ?_)
  · obtain ⟨hl, rl, qs, hands, rows, rfl, _⟩ := h
    rfl
  · obtain ⟨hl, rl, qs, hands, rows, rfl, Lw, hb, h8, h2000, h4, k⟩ := h
    refine ⟨_, (pss_cons (ps_set (i := 2) scCame.nd rfl (.inl rfl) (pe_lst pa_nil))
      (pss_cons (ps_setLc (i := 3) (own := [("_law_row", 6)]) (g := gName 6) (tt := tYes) rfl scCame.nd rfl rfl (sw_true rfl rfl rfl (by decide +kernel)) (pi_list (pv 1)) (blkOk_by (N := ["_law_hands_here", "_law_rows", "_law_came_here", "_law_met", "_law_box", "_law_at", "_law_row"]) (sc := defScope sCame) (by decide +kernel)) (fun _ _ _ _ _ => (pg_name (i := 6) scCame.nd rfl (.inl rfl))) (fun _ _ _ _ _ => pts_nil) (fun _ _ _ _ _ => pe_bl))
      (pss_cons (ps_for PassesOwn.never rfl (pi_list (pv 0)) (pg_name (i := 4) scCame.nd rfl (.inl rfl)) (pss_one (ps_if (PW.pt (pw_and (pt_cmpR op_notN (pv 4) pe_non (nomark _)) (pw_and1 (pt_not (pt_val (pe_ix (ixL (K := K)) (pv 3) (pv 4) (fun _ _ => rfl))))))) (pss_cons (ps_asg pe_bl (pg_sub (pv 3) (pv 4) set_list))
      (pss_one (ps_expr (pe_bm PySem.F.plainAttrs_list PySem.F.slot_list_append PySem.F.type_list_append mt_append (pv 2) (pa_cons (pv 4) pa_nil))))) pss_nil)))
      (pss_cons (ps_set (i := 5) scCame.nd rfl (.inl rfl) pe_int)
      (pss_cons (ps_while PassesOwn.never (pt_cmpR op_lt (pv 5) (pe_callB (lenS (K := K)) (by rfl) m_len (by decide +kernel) (pa_cons (pv 2) pa_nil)) (nomark _)) (pss_cons (ps_for PassesOwn.never rfl (pi_list (pe_ix (ixL (K := K)) (pv 1) (pe_ix (ixL (K := K)) (pv 2) (pv 5) (fun _ _ => rfl)) (fun _ _ => rfl))) (pg_name (i := 4) scCame.nd rfl (.inl rfl)) (pss_one (ps_if (PW.pt (pw_and (pt_cmpR op_notN (pv 4) pe_non (nomark _)) (pw_and1 (pt_not (pt_val (pe_ix (ixL (K := K)) (pv 3) (pv 4) (fun _ _ => rfl))))))) (pss_cons (ps_asg pe_bl (pg_sub (pv 3) (pv 4) set_list))
      (pss_one (ps_expr (pe_bm PySem.F.plainAttrs_list PySem.F.slot_list_append PySem.F.type_list_append mt_append (pv 2) (pa_cons (pv 4) pa_nil))))) pss_nil)))
      (pss_one (ps_aug (i := 5) scCame.nd rfl (.inl rfl) pe_int ip_add))))
      (pss_one (ps_ret (pv 2)))))))), ?_⟩
    have hB : ∀ k, Rc hands rows k → k ∈ List.range rows.length := fun k h => List.mem_range.mpr (hb k h)
    refine ⟨Nat.zero_le _, fun cl nc => ?_⟩
    have rl1 := same_new (o := .lst []) nc _ _ Lw.rlA
    refine ⟨_, rfl, rl, rfl, ⟨_, SqL.of rl1⟩, fun mt nm => ?_⟩
    have hne : cl ≠ mt := fun e => by rw [← e, upd_same] at nm; cases nm
    have s0 : Same H (upd H cl (.lst [])) := same_new nc
    have nm0 : H mt = none := s0.free nm
    refine lc_list (K := K) (a := rl) (xs := qs.map V.ref) (fun i H' => Same H H' ∧ H' cl = some (.lst []) ∧ H' mt = some (.lst (List.replicate i (V.bl false)))) ⟨s0.trans (same_new nm), by rw [upd_ne hne, upd_same], upd_same⟩ (fun i H' _ ⟨s1, _⟩ => SqL.of (s1 _ _ Lw.rlA)) ?_ ?_
    · rintro i x H1 hx ⟨s1, hc1, hm1⟩
      have hi : i < qs.length := by have := (List.getElem?_eq_some_iff.mp hx).1; rwa [List.length_map] at this
      refine ⟨rfl, _, hm1, size_of (by rw [List.length_replicate]; have := Lw.rowsA.len; omega), same_put s1 nm0, by rw [upd_ne hne]; exact hc1, ?_⟩
      rw [upd_same, List.replicate_succ']
    rintro H1 ⟨s1, hc1, hm1⟩
    have e0 : List.replicate (qs.map V.ref).length (V.bl false) = metB rows.length [] := by
      rw [List.length_map, Lw.rowsA.len]
      refine List.ext_getElem? fun i => ?_
      unfold metB
      rw [List.getElem?_map]
      by_cases c : i < rows.length
      · rw [List.getElem?_range c, List.getElem?_replicate, if_pos c]; simp
      · rw [List.getElem?_eq_none (by rw [List.length_replicate]; omega), List.getElem?_eq_none (by rw [List.length_range]; omega)]; rfl
    rw [e0] at hm1
    have g0 : CameAt H H1 cl mt rows.length (ext (List.range rows.length) [] (hands.take 0)) := ⟨s1, hc1, hm1, hne, nc, nm0⟩
    -- the hands
    refine ⟨_, rfl, hl, rfl, ⟨_, SqL.of (s1 _ _ Lw.handsA)⟩, ?_⟩
    refine for_list (K := K) (a := hl) (xs := hands.map optV) (fun i σ H' => ∃ y4, σ = [some (.ref hl), some (.ref rl), some (.ref cl), some (.ref mt), y4, none, none] ∧ CameAt H H' cl mt rows.length (ext (List.range rows.length) [] (hands.take i))) ⟨_, rfl, g0⟩ (fun i σ H' _ ⟨_, _, g⟩ => SqL.of (g.same _ _ Lw.handsA)) ?_ ?_
    · rintro i x σ H2 hx ⟨y4, rfl, g⟩
      rw [List.getElem?_map] at hx
      obtain ⟨o, ho, rfl⟩ : ∃ o, hands[i]? = some o ∧ x = optV o := by
        cases e : hands[i]? with
        | none => rw [e] at hx; cases hx
        | some o => rw [e] at hx; exact ⟨o, rfl, (Option.some.inj hx).symm⟩
      rw [List.take_add_one, ho]
      cases o with
      | none =>
        refine ⟨_, rfl, rfl, _, rfl, iteF ⟨_, rfl, ?_⟩⟩
        show CameAt _ _ _ _ _ (ext _ [] (hands.take i ++ [none]))
        rw [ext_snocN]
        exact g
      | some b =>
        have rb : Rc hands rows b := .hand (List.mem_of_getElem? ho)
        have lb := hb b rb
        refine ⟨_, rfl, rfl, _, rfl, iteT ?_⟩
        refine ⟨_, rfl, _, rfl, mt, _, _, _, rfl, rfl, SqL.of g.m, metB_at lb, _, rfl, ?_⟩
        have es : ext (List.range rows.length) [] (hands.take i ++ [some b]) = _ := ext_snoc
        by_cases c : b ∈ ext (List.range rows.length) [] (hands.take i)
        · rw [decide_eq_true c]
          refine iteF ⟨_, rfl, ?_⟩
          show CameAt _ _ _ _ _ (ext _ [] (hands.take i ++ [some b]))
          rw [es, if_neg fun z => z.2 c, List.append_nil]
          exact g
        · rw [decide_eq_false c]
          refine iteT ?_
          refine ⟨_, rfl, _, rfl, mt, _, _, b, rfl, rfl, g.m, ixN_nat (by rw [metB_len]; exact lb), ?_⟩
          have llen : (ext (List.range rows.length) [] (hands.take i)).length ≤ 8 := Nat.le_trans (ext_len _ _ _) (Nat.le_trans (by rw [List.length_take]; exact Nat.min_le_right _ _) h8)
          have hc2 : (upd H2 mt (.lst ((metB rows.length (ext (List.range rows.length) [] (hands.take i))).set b (.bl true)))) cl = some (.lst ((ext (List.range rows.length) [] (hands.take i)).map nV)) := by rw [upd_ne hne]; exact g.c
          refine ⟨_, rfl, .inl ⟨rfl, _, SqL.of hc2⟩, _, rfl, cl, _, _, rfl, rfl, hc2, size_of (by rw [List.length_map]; omega), ?_⟩
          refine ⟨_, rfl, ?_⟩
          show CameAt _ _ _ _ _ (ext _ [] (hands.take i ++ [some b]))
          rw [es, if_pos ⟨hB b rb, c⟩]
          exact g.push lb
    rintro σ H2 ⟨y4, rfl, g⟩
    rw [List.length_map, List.take_length] at g
    -- the rows, as they come
    refine ⟨fun m σ H' => ∃ (at_ : Nat) (y4 : Option V), σ = [some (.ref hl), some (.ref rl), some (.ref cl), some (.ref mt), y4, some (.int (at_ : Int)), none] ∧ CameAt H H' cl mt rows.length (bfs (List.range rows.length) hands rows at_) ∧ at_ ≤ (bfs (List.range rows.length) hands rows at_).length ∧ m = rows.length + 1 - at_, ⟨_, 0, y4, rfl, g, Nat.zero_le _, rfl⟩, ?_⟩
    rintro m σ H3 ⟨a, y4, rfl, g3, al, rfl⟩
    have bl : (bfs (List.range rows.length) hands rows a).length ≤ rows.length := by have := bfs_len (old := List.range rows.length) (hands := hands) (rows := rows) a; rwa [List.length_range] at this
    refine ⟨_, rfl, _, rfl, cl, _, rfl, .inl (SqL.of g3.c), _, _, rfl, rfl, _, rfl, ?_⟩
    rw [List.length_map]
    refine ite2 (fun z => ?_) (fun z => ?_)
    · have hlt : a < (bfs (List.range rows.length) hands rows a).length := by have := of_decide_eq_true z; omega
      obtain ⟨b, eb⟩ : ∃ b, (bfs (List.range rows.length) hands rows a)[a]? = some b := ⟨_, List.getElem?_eq_getElem hlt⟩
      have rb := bfs_rc hB a b (List.mem_of_getElem? eb)
      have lb := hb b rb
      obtain ⟨qr, e1, e2⟩ := Lw.row lb
      refine ⟨fun σ' H'' => ∃ (y4 : Option V), σ' = [some (.ref hl), some (.ref rl), some (.ref cl), some (.ref mt), y4, some (.int ((a + 1 : Nat) : Int)), none] ∧ CameAt H H'' cl mt rows.length (bfs (List.range rows.length) hands rows (a + 1)), ?_, ?_⟩
      · rintro σ' H'' ⟨y, rfl, g4⟩
        obtain ⟨r, hr⟩ := bfs_pre (old := List.range rows.length) (hands := hands) (rows := rows) a
        exact ⟨rows.length + 1 - (a + 1), by omega, a + 1, y, rfl, g4, by rw [hr, List.length_append]; omega, rfl⟩
      refine ⟨_, rfl, _, rfl, _, rfl, cl, _, _, V.int (b : Int), rfl, rfl, SqL.of g3.c, atI_nat (by rw [List.getElem?_map, eb]; rfl), rl, _, _, V.ref qr, rfl, rfl, SqL.of (g3.same _ _ Lw.rlA), atI_nat (by rw [List.getElem?_map, e1]; rfl), qr, rfl, ⟨_, SqL.of (g3.same _ _ e2)⟩, ?_⟩
      refine for_list (K := K) (a := qr) (xs := (rowOf rows b).map optV) (fun i σ H' => ∃ y4, σ = [some (.ref hl), some (.ref rl), some (.ref cl), some (.ref mt), y4, some (.int (a : Int)), none] ∧ CameAt H H' cl mt rows.length (bfs (List.range rows.length) hands rows a ++ ext (List.range rows.length) (bfs (List.range rows.length) hands rows a) ((rowOf rows b).take i))) ⟨_, rfl, by rw [List.take_zero]; show CameAt _ _ _ _ _ (_ ++ []); rw [List.append_nil]; exact g3⟩ (fun i σ H' _ ⟨_, _, g⟩ => SqL.of (g.same _ _ e2)) ?_ ?_
      · rintro i x σ H4 hx ⟨y4, rfl, g⟩
        rw [List.getElem?_map] at hx
        obtain ⟨o, ho, rfl⟩ : ∃ o, (rowOf rows b)[i]? = some o ∧ x = optV o := by
          cases e : (rowOf rows b)[i]? with
          | none => rw [e] at hx; cases hx
          | some o => rw [e] at hx; exact ⟨o, rfl, (Option.some.inj hx).symm⟩
        rw [List.take_add_one, ho]
        cases o with
        | none =>
          refine ⟨_, rfl, rfl, _, rfl, iteF ⟨_, rfl, ?_⟩⟩
          show CameAt _ _ _ _ _ (_ ++ ext _ _ ((rowOf rows b).take i ++ [none]))
          rw [ext_snocN]
          exact g
        | some j =>
          have rj : Rc hands rows j := .slot rb (List.mem_of_getElem? ho)
          have lj := hb j rj
          refine ⟨_, rfl, rfl, _, rfl, iteT ?_⟩
          refine ⟨_, rfl, _, rfl, mt, _, _, _, rfl, rfl, SqL.of g.m, metB_at lj, _, rfl, ?_⟩
          have es : ext (List.range rows.length) (bfs (List.range rows.length) hands rows a) ((rowOf rows b).take i ++ [some j]) = _ := ext_snoc
          by_cases c : j ∈ bfs (List.range rows.length) hands rows a ++ ext (List.range rows.length) (bfs (List.range rows.length) hands rows a) ((rowOf rows b).take i)
          · rw [decide_eq_true c]
            refine iteF ⟨_, rfl, ?_⟩
            show CameAt _ _ _ _ _ (_ ++ ext _ _ ((rowOf rows b).take i ++ [some j]))
            rw [es, if_neg fun z => z.2 c, List.append_nil]
            exact g
          · rw [decide_eq_false c]
            refine iteT ?_
            refine ⟨_, rfl, _, rfl, mt, _, _, j, rfl, rfl, g.m, ixN_nat (by rw [metB_len]; exact lj), ?_⟩
            have l4 : ((rowOf rows b).take i).length ≤ 4 := Nat.le_trans (by rw [List.length_take]; exact Nat.min_le_right _ _) (h4 _ (rowOf_mem lb))
            have llen := ext_len ((rowOf rows b).take i) (List.range rows.length) (bfs (List.range rows.length) hands rows a)
            have hc2 : ∀ o, (upd H4 mt o) cl = some (.lst ((bfs (List.range rows.length) hands rows a ++ ext (List.range rows.length) (bfs (List.range rows.length) hands rows a) ((rowOf rows b).take i)).map nV)) := fun o => by rw [upd_ne hne]; exact g.c
            refine ⟨_, rfl, .inl ⟨rfl, _, SqL.of (hc2 _)⟩, _, rfl, cl, _, _, rfl, rfl, hc2 _, size_of (by rw [List.length_map, List.length_append]; omega), ?_⟩
            refine ⟨_, rfl, ?_⟩
            show CameAt _ _ _ _ _ (_ ++ ext _ _ ((rowOf rows b).take i ++ [some j]))
            rw [es, if_pos ⟨hB j rj, c⟩, ← List.append_assoc]
            exact g.push lj
      · rintro σ H4 ⟨y4, rfl, g⟩
        rw [List.length_map, List.take_length, ← bfs_some eb] at g
        exact ⟨_, rfl, _, _, rfl, rfl, y4, rfl, g⟩
    · have hle : (bfs (List.range rows.length) hands rows a).length ≤ a := by
        refine Nat.le_of_not_lt fun y => z (decide_eq_true ?_)
        omega
      have := g3.c
      rw [← came_is hle] at this
      exact ⟨_, rfl, k H3 cl g3.same nc this⟩
end
end MK

set_option Elab.async false
set_option linter.all false
set_option pp.maxSteps 700
set_option maxRecDepth 100000
set_option maxHeartbeats 4000000
namespace MK
open PySem PySem.Spec PyProof.Rows L2 MM KG MP SX TL
theorem out_good {S S' : HS} {u : Str} {ns : List Nat} {t : Str} (G : Good S) (h : outOf S u ns = .ok t S') : Good S' := by
  unfold outOf at h
  repeat' split at h
  all_goals first
    | (injection h; done)
    | (injection h with h1 h2; subst h2; first
        | exact Good.make G (by assumption) (by assumption)
        | exact Good.take G (G.handLive (by assumption))
        | exact Good.put G (G.handLive (by assumption))
        | exact Good.share G
        | exact Good.drop G
        | exact Good.work G _)
theorem step_good {S : HS} (G : Good S) (z : Str) : Good (stepZ S z).2 := by
  unfold stepZ
  cases e : outZ S z with
  | err i => exact G
  | ok t S' =>
    unfold outZ at e
    split at e
    · injection e
    · exact out_good G e
theorem st_good {S : HS} (G : Good S) (zs : List Str) : ∀ i, Good (stAt S zs i)
  | 0 => G
  | i + 1 => step_good (st_good G zs i) _
/-! ### the text of what is freed, as the law gathers it -/
def accT (l : List Nat) : Str := l.foldl (fun t b => (t ++ (" " : Str)) ++ figS b) "freed"
theorem acc_snoc (l : List Nat) (b : Nat) : accT (l ++ [b]) = (accT l ++ (" " : Str)) ++ figS b := by
  unfold accT
  rw [List.foldl_append]
  rfl
theorem acc_len (l : List Nat) : 5 + l.length ≤ (accT l).length := by
  have f5 : ("freed" : Str).length = 5 := by decide +kernel
  have b1 : (" " : Str).length = 1 := by decide +kernel
  have key : ∀ (l : List Nat) (t : Str), t.length + l.length ≤ (l.foldl (fun t b => (t ++ (" " : Str)) ++ figS b) t).length := by
    intro l
    induction l with
    | nil => intro t; exact Nat.le_refl _
    | cons a r ih =>
      intro t
      have := ih ((t ++ (" " : Str)) ++ figS a)
      rw [len_app, len_app, b1] at this
      rw [List.foldl_cons, List.length_cons]
      omega
  have := key l "freed"
  rw [f5] at this
  exact this
theorem acc_big (l : List Nat) (h : ∀ b ∈ l, b < 10 ^ 60) : (accT l).length ≤ 5 + 61 * l.length := by
  have f5 : ("freed" : Str).length = 5 := by decide +kernel
  have b1 : (" " : Str).length = 1 := by decide +kernel
  have key : ∀ (l : List Nat) (t : Str), (∀ b ∈ l, b < 10 ^ 60) → (l.foldl (fun t b => (t ++ (" " : Str)) ++ figS b) t).length ≤ t.length + 61 * l.length := by
    intro l
    induction l with
    | nil => intro t _; exact Nat.le_refl _
    | cons a r ih =>
      intro t h
      have := ih ((t ++ (" " : Str)) ++ figS a) fun b hb => h b (List.mem_cons_of_mem _ hb)
      rw [len_app, len_app, b1] at this
      have fl := fig_len (h a List.mem_cons_self)
      rw [List.foldl_cons, List.length_cons]
      omega
  have := key l "freed" h
  rw [f5] at this
  exact this
theorem acc_ne {l : List Nat} (h : l ≠ []) : accT l ≠ ("freed" : Str) := fun e => by
  have := acc_len l
  have f5 : ("freed" : Str).length = 5 := by decide +kernel
  rw [e, f5] at this
  have := List.length_pos_iff.mpr h
  omega
theorem acc_freed : ∀ (r : List Nat) (a : Nat), accT (a :: r) = freedT (a :: r) := by
  intro r a
  have fb : ("freed" : Str) ++ (" " : Str) = ("freed " : Str) := by decide +kernel
  have fr : ∀ (a : Nat) (r : List Nat), freedT (a :: r) = ("freed " : Str) ++ Txt.join blank ((a :: r).map figS) := fun a r => if_neg (by simp)
  have key : ∀ (n : Nat) (r : List Nat), r.length = n → ∀ a, accT (a :: r) = ("freed " : Str) ++ Txt.join blank ((a :: r).map figS) := by
    intro n
    induction n with
    | zero =>
      intro r hr a
      have : r = [] := List.eq_nil_of_length_eq_zero hr
      subst this
      show (("freed" : Str) ++ (" " : Str)) ++ figS a = _
      rw [fb]
      rfl
    | succ n ih =>
      intro r hr a
      obtain ⟨r', b, rfl⟩ : ∃ r' b, r = r' ++ [b] := ⟨r.dropLast, r.getLast (by intro e; subst e; exact nomatch hr), (List.dropLast_concat_getLast _).symm⟩
      have hr' : r'.length = n := by rw [List.length_append, List.length_singleton] at hr; omega
      rw [show a :: (r' ++ [b]) = (a :: r') ++ [b] from rfl, acc_snoc, ih r' hr' a, List.map_append]
      have j := join_snoc blank (figS b) (r'.map figS) (figS a)
      rw [show (a :: r').map figS = figS a :: r'.map figS from rfl, show [b].map figS = [figS b] from rfl, j, blank_eq]
      rw [Str.append_assoc, Str.append_assoc, Str.append_assoc]
  rw [fr]
  exact key _ r rfl a
/-! ### the hands that a deed names -/
def handsOf (u : Str) (ns : List Nat) : List Nat := if u = ("put" : Str) then [ns.getD 0 0, ns.getD 2 0] else if u = ("take" : Str) ∨ u = ("share" : Str) then [ns.getD 0 0, ns.getD 1 0] else [ns.getD 0 0]
theorem two {ns : List Nat} (h : 2 = ns.length) : ∃ a b, ns = [a, b] := by
  match ns, h with
  | [a, b], _ => exact ⟨a, b, rfl⟩
theorem three {ns : List Nat} (h : 3 = ns.length) : ∃ a b c, ns = [a, b, c] := by
  match ns, h with
  | [a, b, c], _ => exact ⟨a, b, c, rfl⟩
theorem one' {ns : List Nat} (h : 1 = ns.length) : ∃ a, ns = [a] := by
  match ns, h with
  | [a], _ => exact ⟨a, rfl⟩
section
variable {P : Program} {w : World} {K : PySem.W.Frag} {mg : Str → Option Value} {base : Heap} {C : Addr} {EC : ECs}
def spHandsL : Sp := fun vs H Q _ => ∃ (a : Addr) (u : Str) (ns : List Nat), vs = [.ref a] ∧ H a = some (.lst (partV (.deed u ns))) ∧ cntOf u = some ns.length ∧ u ≠ ("work" : Str) ∧ ∀ q H', Same H H' → H q = none → H' q = some (.lst ((handsOf u ns).map nV)) → Q (.ref q) H'
theorem ok_hands {f : Addr} {fd : FuncData} (F : Fun K "_law_hands" "_law_hands" sHands f fd) : FnOk P w K mg base CX0 1 f fd ["_law_parts_here"] spHandsL := by
  refine F.ok scHands (fun vs H Q E h => ?_) (fun cdv A outer s H vs Q E hr h => ?_)
  · obtain ⟨a, u, ns, rfl, _⟩ := h
    rfl
  · obtain ⟨a, u, ns, rfl, ha, hc, nw, k⟩ := h
    refine ⟨_, (pss_cons (ps_if (pt_cmpR op_eq (pe_ix (ixL (K := K)) (pv 0) pe_int (fun _ _ => rfl)) pe_str (nomark _)) (pss_one (ps_ret (pe_lst (pa_cons (pe_ix (ixL (K := K)) (pv 0) pe_int (fun _ _ => rfl)) (pa_cons (pe_ix (ixL (K := K)) (pv 0) pe_int (fun _ _ => rfl)) pa_nil))))) pss_nil)
      (pss_cons (ps_if (pt_cmpR ((inSeq (K := K))) (pe_ix (ixL (K := K)) (pv 0) pe_int (fun _ _ => rfl)) (pe_tup (pa_cons pe_str (pa_cons pe_str pa_nil))) (by rfl)) (pss_one (ps_ret (pe_lst (pa_cons (pe_ix (ixL (K := K)) (pv 0) pe_int (fun _ _ => rfl)) (pa_cons (pe_ix (ixL (K := K)) (pv 0) pe_int (fun _ _ => rfl)) pa_nil))))) pss_nil)
      (pss_one (ps_ret (pe_lst (pa_cons (pe_ix (ixL (K := K)) (pv 0) pe_int (fun _ _ => rfl)) pa_nil)))))), ?_⟩
    refine ⟨_, rfl, a, _, 0, V.str u, rfl, rfl, SqL.of ha, atI_nat (j := 0) rfl, rfl, _, rfl, ?_⟩
    have tup : ∀ Q' : VK, (∀ tq H1, Same H H1 → H1 tq = some (.tup [V.str "take", V.str "share"]) → Q' (.bl (decide (u = ("take" : Str)) || decide (u = ("share" : Str)))) H1) → ∀ tq, H tq = none → rIn K false (V.str u) (.ref tq) (upd H tq (.tup [V.str "take", V.str "share"])) Q' := fun Q' q tq nt =>
      ⟨tq, [V.str "take", V.str "share"], rfl, .inr (SqT.of upd_same), rfl, rfl, by
        rw [show (if false = true then !inV (V.str u) [V.str "take", V.str "share"] else inV (V.str u) [V.str "take", V.str "share"]) = inV (V.str u) [V.str "take", V.str "share"] from rfl, in2']
        exact q tq _ (same_new nt) upd_same⟩
    rcases cnt_cases hc with ⟨rfl, h⟩ | ⟨rfl, h⟩ | ⟨rfl, h⟩ | ⟨rfl, h⟩ | ⟨rfl, h⟩ | ⟨rfl, h⟩
    · obtain ⟨x, y, rfl⟩ := two h.symm
      rw [dn sn_make_put]
      refine iteF ⟨_, rfl, a, _, 0, V.str _, rfl, rfl, SqL.of ha, atI_nat (j := 0) rfl, (by show 2 ≤ sizeLine; decide), fun tq nt => tup _ (fun tq H1 s1 g1 => ?_) tq nt⟩
      have ha := s1 _ _ ha
      rw [d0 sn_make_take, d0 sn_make_share]
      refine ⟨_, rfl, iteF ⟨_, rfl, a, _, 1, nV x, rfl, rfl, SqL.of ha, atI_nat (j := 1) rfl, (by show 1 ≤ sizeLine; decide), fun q nq => ?_⟩⟩
      refine k q _ (s1.trans (same_new nq)) (s1.free nq) ?_
      rw [upd_same]
      unfold handsOf
      simp only [sn_make_put, sn_make_take, sn_make_share, if_false, or_self]
      rfl
    · obtain ⟨x, y, z, rfl⟩ := three h.symm
      rw [dn sn_take_put]
      refine iteF ⟨_, rfl, a, _, 0, V.str _, rfl, rfl, SqL.of ha, atI_nat (j := 0) rfl, (by show 2 ≤ sizeLine; decide), fun tq nt => tup _ (fun tq H1 s1 g1 => ?_) tq nt⟩
      have ha := s1 _ _ ha
      rw [decide_eq_true rfl, Bool.true_or]
      refine ⟨_, rfl, iteT ⟨_, rfl, a, _, 1, nV x, rfl, rfl, SqL.of ha, atI_nat (j := 1) rfl, _, rfl, a, _, 2, nV y, rfl, rfl, SqL.of ha, atI_nat (j := 2) rfl, (by show 2 ≤ sizeLine; decide), fun q nq => ?_⟩⟩
      refine k q _ (s1.trans (same_new nq)) (s1.free nq) ?_
      rw [upd_same]
      unfold handsOf
      simp only [sn_take_put, if_true, if_false, or_true, true_or]
      rfl
    · obtain ⟨x, y, z, rfl⟩ := three h.symm
      rw [decide_eq_true rfl]
      refine iteT ⟨_, rfl, a, _, 1, nV x, rfl, rfl, SqL.of ha, atI_nat (j := 1) rfl, _, rfl, a, _, 3, nV z, rfl, rfl, SqL.of ha, atI_nat (j := 3) rfl, (by show 2 ≤ sizeLine; decide), fun q nq => ?_⟩
      exact k q _ (same_new nq) nq upd_same
    · obtain ⟨x, y, rfl⟩ := two h.symm
      rw [dn sn_share_put]
      refine iteF ⟨_, rfl, a, _, 0, V.str _, rfl, rfl, SqL.of ha, atI_nat (j := 0) rfl, (by show 2 ≤ sizeLine; decide), fun tq nt => tup _ (fun tq H1 s1 g1 => ?_) tq nt⟩
      have ha := s1 _ _ ha
      rw [decide_eq_true rfl, Bool.or_true]
      refine ⟨_, rfl, iteT ⟨_, rfl, a, _, 1, nV x, rfl, rfl, SqL.of ha, atI_nat (j := 1) rfl, _, rfl, a, _, 2, nV y, rfl, rfl, SqL.of ha, atI_nat (j := 2) rfl, (by show 2 ≤ sizeLine; decide), fun q nq => ?_⟩⟩
      refine k q _ (s1.trans (same_new nq)) (s1.free nq) ?_
      rw [upd_same]
      unfold handsOf
      simp only [sn_share_put, sn_share_take, if_true, if_false, or_true, true_or]
      rfl
    · obtain ⟨x, rfl⟩ := one' h.symm
      rw [dn sn_drop_put]
      refine iteF ⟨_, rfl, a, _, 0, V.str _, rfl, rfl, SqL.of ha, atI_nat (j := 0) rfl, (by show 2 ≤ sizeLine; decide), fun tq nt => tup _ (fun tq H1 s1 g1 => ?_) tq nt⟩
      have ha := s1 _ _ ha
      rw [d0 sn_drop_take, d0 sn_drop_share]
      refine ⟨_, rfl, iteF ⟨_, rfl, a, _, 1, nV x, rfl, rfl, SqL.of ha, atI_nat (j := 1) rfl, (by show 1 ≤ sizeLine; decide), fun q nq => ?_⟩⟩
      refine k q _ (s1.trans (same_new nq)) (s1.free nq) ?_
      rw [upd_same]
      unfold handsOf
      simp only [sn_drop_put, sn_drop_take, sn_drop_share, if_false, or_self]
      rfl
    · exact absurd rfl nw
end
end MK

set_option Elab.async false
set_option linter.all false
set_option pp.maxSteps 700
set_option maxRecDepth 100000
set_option maxHeartbeats 4000000
namespace MK
open PySem PySem.Spec PyProof.Rows L2 MM KG MP SX TL
section
variable {P : Program} {w : World} {K : PySem.W.Frag} {mg : Str → Option Value} {base : Heap} {C : Addr} {EC : ECs}
/-- what stood by stands by -/
def spPieces12 : Sp := fun vs H Q _ => ∃ (st hl rl T pq : Addr) (qs : List Addr) (S : HS) (n : Nat), vs = [.ref st, .int (n : Int)] ∧ L12 H st hl rl T pq qs S ∧ Good S ∧ n ≤ 2500 ∧ S.rows.length ≤ 2000 ∧
  ∀ H' pq', L12 H' st hl rl T pq' qs (HS.work n S).1 → Frm H (Foot st hl rl T pq qs) H' (Foot st hl rl T pq' qs) → Q (.str (freedT (HS.work n S).2)) H'
theorem ok_pieces12 {f fc : Addr} {fd fdc : FuncData} (F : Fun K "_law_pieces" "_law_pieces" sPieces f fd) (D__law_came : Df P w K mg base CX0 1 "_law_came" fc fdc (["_law_hands_here", "_law_rows"]) spCame) (m_range : mg "range" = none) (m_str : mg "str" = none) : FnOk P w K mg base CX0 2 f fd (["_law_state", "_law_pieces_here"]) spPieces12 := by
  refine F.ok scPieces (fun vs H Q E h => ?_) (fun cdv A outer s H vs Q E hr h => ?_)
  · obtain ⟨st, hl, rl, T, pq, qs, S, n, rfl, _⟩ := h
    rfl
  · obtain ⟨st, hl, rl, T, pq, qs, S, n, rfl, R, G, n2500, r2000, k⟩ := h
    refine ⟨_, (pss_cons (ps_set (i := 2) scPieces.nd rfl (.inl rfl) pe_str)
      (pss_cons (ps_for PassesOwn.never rfl (pi_range1 (by rfl) m_range (pa_cons (pv 1) pa_nil)) (pg_name (i := 3) scPieces.nd rfl (.inl rfl)) (pss_one (ps_if (pt_cmpR (eqDK (K := K) hr.units) (pe_ix (ixL (K := K)) (pv 0) pe_int (fun _ _ => rfl)) (pe_lst pa_nil) (nomark _)) (pss_cons (ps_set (i := 4) scPieces.nd rfl (.inr rfl) (pe_call D__law_came.g (hr.mono (by decide)) (by rfl) D__law_came.m D__law_came.k D__law_came.b .nil pass0 (pa_cons (pe_ix (ixL (K := K)) (pv 0) pe_int (fun _ _ => rfl)) (pa_cons (pe_ix (ixL (K := K)) (pv 0) pe_int (fun _ _ => rfl)) pa_nil))))
      (pss_one (ps_asg (pe_op op_cat (pe_lc (own := [("_law_box", 6)]) (g := gName 6) (tt := tYes) rfl scPieces.nd (pi_list (pv 4)) (blkOk_by (N := ["_law_state", "_law_pieces_here", "_law_due", "_law_k", "_law_came_here", "_law_step", "_law_box"]) (sc := defScope sPieces) (by decide +kernel)) (fun _ _ _ _ _ => (pg_name (i := 6) scPieces.nd rfl (.inl rfl))) (fun _ _ _ _ _ => pts_nil) (fun _ _ _ _ _ => pe_non)) (pe_lc (own := [("_law_box", 6)]) (g := gName 6) (tt := tYes) rfl scPieces.nd (pi_list (pe_ix (ixL (K := K)) (pv 0) pe_int (fun _ _ => rfl))) (blkOk_by (N := ["_law_state", "_law_pieces_here", "_law_due", "_law_k", "_law_came_here", "_law_step", "_law_box"]) (sc := defScope sPieces) (by decide +kernel)) (fun _ _ _ _ _ => (pg_name (i := 6) scPieces.nd rfl (.inl rfl))) (fun _ _ _ _ _ => pts_nil) (fun _ _ _ _ _ => (pe_lst (pa_cons (pv 6) (pa_cons (pe_cmpR (notInSeq (K := K)) (pv 6) (pv 4) (by rfl)) pa_nil)))))) (pg_sub (pv 0) pe_int set_list)))) (pss_cons (ps_set (i := 5) scPieces.nd rfl (.inl rfl) (pe_bm PySem.F.plainAttrs_list PySem.F.slot_list_pop PySem.F.type_list_pop mt_popAt (pe_ix (ixL (K := K)) (pv 0) pe_int (fun _ _ => rfl)) (pa_cons pe_int pa_nil)))
      (pss_one (ps_if (PW.pt (pw_and (pt_cmpR op_notN (pv 5) pe_non (nomark _)) (pw_and1 (pt_val (pe_ix (ixL (K := K)) (pv 5) pe_int (fun _ _ => rfl)))))) (pss_cons (ps_expr (pe_bm PySem.F.plainAttrs_list PySem.F.slot_list_remove PySem.F.type_list_remove mt_remove (pe_ix (ixL (K := K)) (pv 0) pe_int (fun _ _ => rfl)) (pa_cons (pe_ix (ixL (K := K)) (pv 5) pe_int (fun _ _ => rfl)) pa_nil)))
      (pss_one (ps_set (i := 2) scPieces.nd rfl (.inl rfl) (pe_op op_add_str (pe_op op_add_str (pv 2) pe_str) (pe_callTy call_str_int (by rfl) m_str (by decide +kernel) (pa_cons (pe_ix (ixL (K := K)) (pv 5) pe_int (fun _ _ => rfl)) pa_nil)))))) pss_nil))))))
      (pss_cons (ps_if (pt_cmpR op_eq (pv 2) pe_str (nomark _)) (pss_one (ps_ret pe_str)) pss_nil)
      (pss_one (ps_ret (pv 2)))))), ?_⟩
    refine ⟨_, rfl, (n : Int), rfl, by omega, by omega, ?_⟩
    rw [Int.toNat_natCast]
    refine for_range (lo := 0) (n := n) (fun i σ H' => ∃ pq' y3 y4 y5, σ = [some (.ref st), some (.int (n : Int)), some (.str (accT (HS.work i S).2)), y3, y4, y5, none] ∧ L12 H' st hl rl T pq' qs (HS.work i S).1 ∧ (HS.work i S).2.length ≤ i ∧ (∀ b o, H b = some o → ¬ Foot st hl rl T pq qs b → H' b = some o) ∧ (pq' = pq ∨ H pq' = none) ∧ Mono H H')
      ⟨pq, none, none, none, rfl, R, Nat.le_refl _, fun b o e _ => e, .inl rfl, Mono.refl H⟩ ?_ ?_
    · rintro i σ H1 hi ⟨pq1, y3, y4, y5, rfl, R1, dlen, kp, hpq, mo⟩
      have Gi : Good (HS.work i S).1 := G.work i
      obtain ⟨wh, wr, wm⟩ := work_fields S i
      have e1 : (HS.work (i + 1) S).1 = (HS.work i S).1.piece.1 := rfl
      have e2 : (HS.work (i + 1) S).2 = (HS.work i S).2 ++ (HS.work i S).1.piece.2.toList := rfl
      have small : ∀ b ∈ (HS.work i S).2, b < 10 ^ 60 := fun b hb => small60 (Nat.le_trans (Nat.le_of_lt (work_lt G i b hb)) r2000) (by decide)
      rw [e1, e2]
      have kk1000 := Gi.keysn
      have lle : (HS.work i S).1.piece.2.toList.length ≤ 1 := by cases (HS.work i S).1.piece.2 <;> simp
      have pf := piece_fields (HS.work i S).1
      generalize (HS.work i S).2 = gone at dlen small
      generalize (HS.work i S).1 = Si at R1 Gi wh wr kk1000 lle pf
      have acb := acc_big gone small
      obtain ⟨vs, hv, hi'⟩ := R1.its
      refine ⟨_, rfl, st, _, _, V.ref pq1, rfl, rfl, SqL.of R1.stA, atI_nat (j := 3) rfl, Nat.zero_le _, fun e0 ne0 => ?_⟩
      have s2 : Same H1 (upd H1 e0 (.lst [])) := same_new ne0
      refine ⟨.list ((planOf Si).map dItem), dI [], .lst (SqL.of (s2 _ _ hv)) (ItemsAt.dp (hi'.keep fun q o e n => ⟨s2 _ _ e, n⟩)), dp_nats (SqL.of upd_same), shaped_items _, shaped_nats _, ?_⟩
      rw [eqv_items]
      have R2 := R1.keep s2
      have kp2 : ∀ b o, H b = some o → ¬ Foot st hl rl T pq qs b → (upd H1 e0 (.lst [])) b = some o := fun b o e z => s2 _ _ (kp b o e z)
      have mo2 := mo.same s2
      have hv2 := s2 _ _ hv
      generalize upd H1 e0 (.lst []) = H2 at R2 kp2 hv2 mo2
      -- pq1 is either pq or new
      have npq : ∀ b o, H b = some o → ¬ Foot st hl rl T pq qs b → b ≠ pq1 := fun b o e y e2 => by
        rcases hpq with h | h
        · exact y (.inr (.inr (.inl (e2.trans h))))
        · rw [e2, h] at e; cases e
      refine ⟨_, rfl, ite2 (fun z => ?_) (fun z => ?_)⟩
      · -- a round begins
        have hp := of_decide_eq_true z
        have rcl : ∀ k, Rc Si.hands Si.rows k → k < Si.rows.length := fun k h => Gi.lt k (Gi.rc h).1
        refine ⟨_, rfl, st, _, _, V.ref hl, rfl, rfl, SqL.of R2.stA, atI_nat (j := 0) rfl, _, rfl, st, _, _, V.ref rl, rfl, rfl, SqL.of R2.stA, atI_nat (j := 1) rfl, hl, rl, qs, Si.hands, Si.rows, rfl, R2.law, rcl, Gi.hn.2, by rw [wr]; exact r2000, Gi.four, fun H3 cm s3 ncm hcm => ?_⟩
        have hcs : (came (List.range Si.rows.length) Si.hands Si.rows).Nodup := came_nodup
        have hcm' : ∀ k, k ∈ came (List.range Si.rows.length) Si.hands Si.rows ↔ Rc Si.hands Si.rows k := fun k => mem_came fun k h => List.mem_range.mpr (rcl k h)
        obtain ⟨p1, p2, p3, p4⟩ := Gi.piece_new hcs hcm' hp
        have clen : (came (List.range Si.rows.length) Si.hands Si.rows).length ≤ S.rows.length := by
          have := Nat.le_trans (bfs_len (old := List.range Si.rows.length) (hands := Si.hands) (rows := Si.rows) (List.range Si.rows.length).length) (Nat.le_of_eq List.length_range)
          rw [← wr]
          exact this
        generalize came (List.range Si.rows.length) Si.hands Si.rows = cs at hcm hcs hcm' p1 clen
        refine ⟨_, rfl, cm, rfl, ⟨_, SqL.of hcm⟩, fun a1 na1 => ?_⟩
        refine lc_list (K := K) (a := cm) (xs := cs.map nV) (fun j H' => Same H3 H' ∧ H' a1 = some (.lst (List.replicate j .non))) ⟨same_new na1, upd_same⟩ (fun j H' _ ⟨s, _⟩ => SqL.of (s _ _ hcm)) ?_ ?_
        · rintro j x H4 hx ⟨s4, hA⟩
          have hj := (List.getElem?_eq_some_iff.mp hx).1
          rw [List.length_map] at hj
          refine ⟨rfl, _, hA, size_of (by rw [List.length_replicate]; omega), same_put s4 na1, ?_⟩
          rw [upd_same, List.replicate_succ']
        rintro H4 ⟨s4, hA⟩
        rw [List.length_map] at hA
        have R4 := R2.keep (s3.trans s4)
        refine ⟨_, rfl, st, _, _, V.ref T, rfl, rfl, SqL.of R4.stA, atI_nat (j := 2) rfl, T, rfl, ⟨_, SqL.of R4.th⟩, fun b1 nb1 => ?_⟩
        refine lc_list (K := K) (a := T) (xs := Si.keys.map nV) (fun j H' => Same H4 H' ∧ ∃ vs, H' b1 = some (.lst vs) ∧ vs.length = j ∧ ItemsAt H' (fun q => H4 q = none ∧ q ≠ b1) vs ((Si.keys.take j).map fun b => some (b, decide (b ∉ cs)))) ⟨same_new nb1, [], upd_same, rfl, .nil⟩ (fun j H' _ ⟨s, _⟩ => SqL.of (s _ _ R4.th)) ?_ ?_
        · rintro j x H5 hx ⟨s5, vs5, hB, vl, it5⟩
          rw [List.getElem?_map] at hx
          obtain ⟨b, hbi, rfl⟩ : ∃ b, Si.keys[j]? = some b ∧ x = nV b := by
            cases e : Si.keys[j]? with
            | none => rw [e] at hx; cases hx
            | some o => rw [e] at hx; exact ⟨o, rfl, (Option.some.inj hx).symm⟩
          have hj := (List.getElem?_eq_some_iff.mp hbi).1
          refine ⟨rfl, _, rfl, _, rfl, _, rfl, cm, _, rfl, .inl (SqL.of (s5 _ _ (s4 _ _ hcm))), rfl, flat_nats _, (by show 2 ≤ sizeLine; decide), fun q nq => ?_⟩
          have hq : (upd H5 q (.lst [nV b, .bl (!inV (nV b) (cs.map nV))])) q = some (.lst [.int (b : Int), .bl (decide (b ∉ cs))]) := by
            rw [upd_same, inV_nats]
            simp [nV]
          have s6 : Same H5 (upd H5 q (.lst [nV b, .bl (!inV (nV b) (cs.map nV))])) := same_new nq
          have nqb : q ≠ b1 := fun e => by rw [e, hB] at nq; cases nq
          refine ⟨_, s6 _ _ hB, size_of (by omega), ?_⟩
          refine ⟨same_put (s5.trans s6) nb1, _, upd_same, by rw [List.length_append, vl]; rfl, ?_⟩
          rw [List.take_add_one, hbi, List.map_append]
          refine ItemsAt.app (it5.keep fun q' o e m => ⟨by rw [upd_ne m.2]; exact s6 _ _ e, m⟩) (.one (by rw [upd_ne nqb]; exact hq) ⟨s5.free nq, nqb⟩ .nil)
        rintro H5 ⟨s5, vs5, hB, vl, it5⟩
        rw [List.length_map, List.take_length] at it5
        rw [List.length_map] at vl
        refine ⟨a1, b1, _, _, rfl, rfl, s5 _ _ hA, hB, Nat.le_of_lt (size_of (by rw [List.length_replicate, vl]; omega)), fun pq2 np2 => ?_⟩
        have s6 : Same H5 (upd H5 pq2 (.lst (List.replicate cs.length .non ++ vs5))) := same_new np2
        have s26 : Same H2 H5 := (s3.trans s4).trans s5
        have R6 := (R2.keep s26).keep s6
        have nst : st ≠ pq2 := fun e => by have := (R2.keep s26).stA; rw [e, np2] at this; cases this
        refine ⟨_, rfl, st, _, _, 3, rfl, rfl, R6.stA, ixN_nat (n := 4) (by decide), ?_⟩
        have p2' : gone ++ Si.piece.2.toList = gone := by rw [p2]; exact List.append_nil _
        rw [p2']
        have nold : ∀ b, ¬ Foot st hl rl T pq qs b → ∀ o, H b = some o → ∀ w, (upd (upd H5 pq2 (.lst (List.replicate cs.length .non ++ vs5))) st w) b = some o := fun b y o e w => by
          rw [upd_ne fun z => y (.inr (.inl z))]
          exact s6 _ _ (s26 _ _ (kp2 b o e y))
        refine ⟨pq2, _, _, _, rfl, ?_, Nat.le_trans dlen (Nat.le_succ _), fun b o e y => nold b y o e _, ?_, (mo2.same (s26.trans s6)).put⟩
        · unfold L12; rw [p1, p3, pf.1, pf.2.1]
          unfold planNew
          exact R2.newPlan s26 np2 (ItemsAt.app (ItemsAt.nones _) (it5.keep fun q o e m => ⟨e, ((s3.trans s4).free m.1)⟩))
        · right
          exact (mo2.same s26).free np2
      · -- a step is taken
        have hp : planOf Si ≠ [] := fun e => z (decide_eq_true e)
        obtain ⟨x, r, ep⟩ := List.exists_cons_of_ne_nil hp
        obtain ⟨p1, p2, p3, p4, p5⟩ := Gi.piece_old ep
        have R2' := R2
        unfold L12 at R2'
        rw [ep] at R2'
        obtain ⟨vs2, hv2, hi2⟩ := R2'.its
        cases hi2 with
        | @non vs' _ r' =>
          have R3 := R2'.pop hv2
          refine ⟨_, rfl, st, _, _, V.ref pq1, rfl, rfl, SqL.of R2.stA, atI_nat (j := 3) rfl, .inl ⟨rfl, _, SqL.of hv2⟩, pq1, _, _, 0, .non, rfl, rfl, hv2, by decide, by decide, by simp [seqIndex?], rfl, ?_⟩
          refine ⟨_, rfl, rfl, _, rfl, iteF ?_⟩
          have p2' : gone ++ Si.piece.2.toList = gone := by rw [p2]; exact List.append_nil _
          rw [p2']
          refine ⟨pq1, _, _, _, rfl, ?_, Nat.le_trans dlen (Nat.le_succ _), fun b o e y => ?_, hpq, mo2.put⟩
          · unfold L12; rw [p1, p3, pf.1, pf.2.1]; exact R3
          · rw [upd_ne (npq b o e y)]
            exact kp2 b o e y
        | @one q b f vs' _ hq nq r' =>
          have R3 := R2'.pop hv2
          have nqpq : q ≠ pq1 := fun e => nq.2 (.inr (.inl e))
          have hq3 : (upd H2 pq1 (.lst vs')) q = some (.lst [.int (b : Int), .bl f]) := by rw [upd_ne nqpq]; exact hq
          have kp3 : ∀ b o, H b = some o → ¬ Foot st hl rl T pq qs b → (upd H2 pq1 (.lst vs')) b = some o := fun b o e y => by rw [upd_ne (npq b o e y)]; exact kp2 b o e y
          have mo3 : Mono H (upd H2 pq1 (.lst vs')) := mo2.put
          refine ⟨_, rfl, st, _, _, V.ref pq1, rfl, rfl, SqL.of R2.stA, atI_nat (j := 3) rfl, .inl ⟨rfl, _, SqL.of hv2⟩, pq1, _, _, 0, .ref q, rfl, rfl, hv2, by decide, by decide, by simp [seqIndex?], rfl, ?_⟩
          have eh : (List.eraseIdx (V.ref q :: vs') 0) = vs' := rfl
          rw [eh]
          generalize upd H2 pq1 (.lst vs') = H3 at R3 hq3 kp3 mo3
          refine ⟨_, rfl, rfl, _, rfl, iteT ?_⟩
          refine ⟨_, rfl, q, _, _, V.bl f, rfl, rfl, SqL.of hq3, atI_nat (j := 1) rfl, _, rfl, ?_⟩
          cases f with
          | false =>
            refine iteF ?_
            have p2' : gone ++ Si.piece.2.toList = gone := by rw [p2]; exact List.append_nil _
            rw [p2']
            refine ⟨pq1, _, _, _, rfl, ?_, Nat.le_trans dlen (Nat.le_succ _), kp3, hpq, mo3⟩
            unfold L12; rw [p1, p3, pf.1, pf.2.1]; exact R3
          | true =>
            refine iteT ?_
            have hbk := p5 b true rfl
            obtain ⟨ns, j, x1, x2, x3, x4⟩ := rem_data (rising_nodup Gi.rise) hbk
            have hT := R3.th
            rw [x1] at hT
            refine ⟨_, rfl, st, _, _, V.ref T, rfl, rfl, SqL.of R3.stA, atI_nat (j := 2) rfl, .inl ⟨rfl, _, SqL.of R3.th⟩, _, rfl, q, _, _, V.int (b : Int), rfl, rfl, SqL.of hq3, atI_nat (j := 0) rfl, T, ns, (b : Int), j, rfl, rfl, hT, x2, x3, ?_⟩
            rw [x4]
            have R4 := R3.setT (Si.keys.filter fun k => decide (k ≠ b))
            have nqT : q ≠ T := fun e => nq.2 (.inr (.inr e))
            have b60 : b < 10 ^ 60 := small60 (Nat.le_trans (Nat.le_of_lt (Gi.lt b hbk)) (by rw [wr]; exact r2000)) (by decide)
            have fl := fig_len b60
            have b1 : (" " : Str).length = 1 := by decide +kernel
            have sz : sizeLine = 16777216 := sizeLine_eq
            refine ⟨_, rfl, _, _, rfl, rfl, by rw [b1]; omega, _, rfl, q, _, _, V.int (b : Int), rfl, rfl, SqL.of (by rw [upd_ne nqT]; exact hq3), atI_nat (j := 0) rfl, _, rfl, log_ok b60, _, _, rfl, rfl, ?_, ?_⟩
            · rw [fig_str, len_app, b1]
              omega
            · have p2' : gone ++ Si.piece.2.toList = gone ++ [b] := by rw [p2]; rfl
              rw [p2', fig_str, acc_snoc]
              refine ⟨pq1, _, _, _, rfl, ?_, by rw [List.length_append, List.length_singleton]; omega, fun b' o e y => ?_, hpq, mo3.put⟩
              · unfold L12; rw [p1, p3, pf.1, pf.2.1]
                exact R4
              · rw [upd_ne fun z => y (.inr (.inr (.inr z)))]
                exact kp3 b' o e y
    · rintro σ H1 ⟨pq1, y3, y4, y5, rfl, R1, dlen, kp, hpq, mo⟩
      have fr : Frm H (Foot st hl rl T pq qs) H1 (Foot st hl rl T pq1 qs) := fun b o e y => ⟨kp b o e y, fun z => by
        rcases z with z | z | z | z
        · exact y (.inl z)
        · exact y (.inr (.inl z))
        · rcases hpq with h | h
          · exact y (.inr (.inr (.inl (z.trans h))))
          · rw [z, h] at e; cases e
        · exact y (.inr (.inr (.inr z)))⟩
      have q := k H1 pq1 R1 fr
      have sm : ∀ b ∈ (HS.work n S).2, b < 10 ^ 60 := fun b hb => small60 (Nat.le_trans (Nat.le_of_lt (work_lt G n b hb)) r2000) (by decide)
      generalize (HS.work n S).2 = gone at q dlen sm
      refine ⟨_, rfl, rfl, _, rfl, ?_⟩
      cases gone with
      | nil => rw [show decide (V.str (accT []) = V.str "freed") = true from decide_eq_true rfl]; exact iteT q
      | cons a r =>
        rw [decide_eq_false fun e => acc_ne (List.cons_ne_nil a r) (V.str.inj e)]
        refine iteF ?_
        rw [acc_freed]
        exact ⟨_, rfl, q⟩
end
end MK

set_option Elab.async false
set_option linter.all false
set_option pp.maxSteps 700
set_option maxRecDepth 100000
set_option maxHeartbeats 4000000
namespace MK
open PySem PySem.Spec PyProof.Rows L2 MM KG MP SX TL
def OutR (o : Out) (S : HS) : Str × HS := match o with
  | .ok t S' => (t, S')
  | .err i => (ecT i, S)
theorem put_is (S : HS) (b s o : Nat) : (S.put b s o).hands = S.hands ∧ (S.put b s o).rows = S.rows.set b ((S.row b).set s (S.hand o)) := by
  unfold HS.put
  obtain ⟨m1, m2, _⟩ := markO_fields S (S.slot b s)
  split
  · exact ⟨rfl, rfl⟩
  · refine ⟨m1, ?_⟩
    show (HS.markO _ _).rows.set _ (List.set (rowOf (HS.markO _ _).rows _) _ _) = _
    rw [m2]
theorem atI_row {l : MM.Row} {s : Nat} (h : s < l.length) : atI (l.map optV) ((s : Nat) : Int) = some (optV (l.getD s none)) := atI_opt h
section
variable {P : Program} {w : World} {K : PySem.W.Frag} {mg : Str → Option Value} {base : Heap} {C : Addr} {EC : ECs}
/-- the deed's answer, the law's lists told of the heap after it -/
def AnsQ (H : Hp) (st hl rl T pq : Addr) (qs : List Addr) (S : HS) (o : Out) (Q : VK) : Prop :=
  ∀ H' pq' qs', L12 H' st hl rl T pq' qs' (OutR o S).2 → Frm H (Foot st hl rl T pq qs) H' (Foot st hl rl T pq' qs') → Q (.str (OutR o S).1) H'
def spSlotted : Sp := fun vs H Q _ => ∃ (st pa hl rl T pq : Addr) (qs : List Addr) (S : HS) (u : Str) (a b c : Nat), vs = [.ref st, .ref pa] ∧ H pa = some (.lst (partV (.deed u [a, b, c]))) ∧ ¬ Foot st hl rl T pq qs pa ∧ (u = "take" ∧ a < S.hands.length ∧ b < S.hands.length ∨ u = "put" ∧ a < S.hands.length ∧ c < S.hands.length) ∧ L12 H st hl rl T pq qs S ∧ Good S ∧ S.rows.length ≤ 2000 ∧
  AnsQ H st hl rl T pq qs S (outOf S u [a, b, c]) Q
theorem ok_slotted {f fh : Addr} {fd fdh : FuncData} (F : Fun K "_law_slotted" "_law_slotted" sSlotted f fd) (D__law_held : Df P w K mg base CX0 1 "_law_held" fh fdh ["_law_box"] spLwHeld) (m_len : mg "len" = none) : FnOk P w K mg base CX0 2 f fd (["_law_state", "_law_parts_here"]) spSlotted := by
  refine F.ok scSlotted (fun vs H Q E h => ?_) (fun cdv A outer s H vs Q E hr h => ?_)
  · obtain ⟨st, pa, hl, rl, T, pq, qs, S, u, a, b, c, rfl, _⟩ := h
    rfl
  · obtain ⟨st, pa, hl, rl, T, pq, qs, S, u, a, b, c, rfl, ha, npa, hu, R, G, r2000, k⟩ := h
    refine ⟨_, (pss_cons (ps_set (i := 2) scSlotted.nd rfl (.inl rfl) (pe_ix (ixL (K := K)) (pv 1) pe_int (fun _ _ => rfl)))
      (pss_cons (ps_set (i := 3) scSlotted.nd rfl (.inl rfl) (pe_ix (ixL (K := K)) (pv 1) pe_int (fun _ _ => rfl)))
      (pss_cons (ps_if (pt_cmpR op_eq (pe_ix (ixL (K := K)) (pv 1) pe_int (fun _ _ => rfl)) pe_str (nomark _)) (pss_cons (ps_set (i := 2) scSlotted.nd rfl (.inl rfl) (pe_ix (ixL (K := K)) (pv 1) pe_int (fun _ _ => rfl)))
      (pss_one (ps_set (i := 3) scSlotted.nd rfl (.inl rfl) (pe_ix (ixL (K := K)) (pv 1) pe_int (fun _ _ => rfl))))) pss_nil)
      (pss_cons (ps_set (i := 4) scSlotted.nd rfl (.inl rfl) (pe_ix (ixL (K := K)) (pe_ix (ixL (K := K)) (pv 0) pe_int (fun _ _ => rfl)) (pv 2) (fun _ _ => rfl)))
      (pss_cons (ps_if (pt_cmpR op_isN (pv 4) pe_non (nomark _)) (pss_one (ps_ret pe_str)) pss_nil)
      (pss_cons (ps_if (pt_cmpR op_ge (pv 3) (pe_callB (lenS (K := K)) (by rfl) m_len (by decide +kernel) (pa_cons (pe_ix (ixL (K := K)) (pe_ix (ixL (K := K)) (pv 0) pe_int (fun _ _ => rfl)) (pv 4) (fun _ _ => rfl)) pa_nil)) (nomark _)) (pss_one (ps_ret pe_str)) pss_nil)
      (pss_cons (ps_if (pt_cmpR op_eq (pe_ix (ixL (K := K)) (pv 1) pe_int (fun _ _ => rfl)) pe_str (nomark _)) (pss_cons (ps_asg (pe_ix (ixL (K := K)) (pe_ix (ixL (K := K)) (pe_ix (ixL (K := K)) (pv 0) pe_int (fun _ _ => rfl)) (pv 4) (fun _ _ => rfl)) (pv 3) (fun _ _ => rfl)) (pg_sub (pe_ix (ixL (K := K)) (pv 0) pe_int (fun _ _ => rfl)) (pe_ix (ixL (K := K)) (pv 1) pe_int (fun _ _ => rfl)) set_list))
      (pss_one (ps_ret (pe_call D__law_held.g (hr.mono (by decide)) (by rfl) D__law_held.m D__law_held.k D__law_held.b .nil pass0 (pa_cons (pe_ix (ixL (K := K)) (pe_ix (ixL (K := K)) (pv 0) pe_int (fun _ _ => rfl)) (pe_ix (ixL (K := K)) (pv 1) pe_int (fun _ _ => rfl)) (fun _ _ => rfl)) pa_nil))))) pss_nil)
      (pss_cons (ps_asg (pe_ix (ixL (K := K)) (pe_ix (ixL (K := K)) (pv 0) pe_int (fun _ _ => rfl)) (pe_ix (ixL (K := K)) (pv 1) pe_int (fun _ _ => rfl)) (fun _ _ => rfl)) (pg_sub (pe_ix (ixL (K := K)) (pe_ix (ixL (K := K)) (pv 0) pe_int (fun _ _ => rfl)) (pv 4) (fun _ _ => rfl)) (pv 3) set_list))
      (pss_one (ps_ret pe_str)))))))))), ?_⟩
    unfold AnsQ at k
    have hpa : pa ≠ hl := fun e => npa (.inl (.inl e))
    refine ⟨_, rfl, pa, _, _, nV a, rfl, rfl, SqL.of ha, atI_nat (j := 1) rfl, _, rfl, pa, _, _, nV b, rfl, rfl, SqL.of ha, atI_nat (j := 2) rfl, _, rfl, pa, _, _, V.str u, rfl, rfl, SqL.of ha, atI_nat (j := 0) rfl, rfl, _, rfl, ?_⟩
    rcases hu with ⟨rfl, a1, b1⟩ | ⟨rfl, a1, c1⟩
    · -- take
      rw [decide_eq_true rfl]
      refine iteT ⟨_, rfl, pa, _, _, nV b, rfl, rfl, SqL.of ha, atI_nat (j := 2) rfl, _, rfl, pa, _, _, nV c, rfl, rfl, SqL.of ha, atI_nat (j := 3) rfl, ?_⟩
      unfold outOf at k
      simp only [sn_take_make, sn_take_put, sn_take_share, sn_take_drop, sn_take_work, if_true, if_false] at k
      rw [if_pos ⟨a1, b1⟩] at k
      refine ⟨_, rfl, st, _, _, V.ref hl, rfl, rfl, SqL.of R.stA, atI_nat (j := 0) rfl, _, rfl, hl, _, _, optV (S.hand b), rfl, rfl, SqL.of R.law.handsA, atI_opt b1, ?_⟩
      cases e : S.hand b with
      | none =>
        rw [e] at k
        exact ⟨_, rfl, rfl, _, rfl, iteT (k H pq qs R (Frm.refl _ _))⟩
      | some j =>
        rw [e] at k
        refine ⟨_, rfl, rfl, _, rfl, iteF ?_⟩
        obtain ⟨q, hq, hrow⟩ := R.law.row (hand_lt G e)
        have hq' : (qs.map V.ref)[j]? = some (V.ref q) := by rw [List.getElem?_map, hq]; rfl
        refine ⟨_, rfl, _, rfl, st, _, _, V.ref rl, rfl, rfl, SqL.of R.stA, atI_nat (j := 1) rfl, _, rfl, rl, _, _, V.ref q, rfl, rfl, SqL.of R.law.rlA, atI_nat hq', q, _, rfl, .inl (SqL.of hrow), ?_⟩
        rw [List.length_map]
        refine ⟨_, _, rfl, rfl, _, rfl, ?_⟩
        by_cases cs : c < (S.row j).length
        · rw [decide_eq_false (show ¬ (c : Int) ≥ ((rowOf S.rows j).length : Int) from fun h => by have h' : c < (rowOf S.rows j).length := cs; omega)]
          dsimp only at k
          rw [if_pos cs] at k
          refine iteF ?_
          refine ⟨_, rfl, pa, _, _, V.str _, rfl, rfl, SqL.of ha, atI_nat (j := 0) rfl, rfl, _, rfl, iteT ?_⟩
          refine ⟨_, rfl, st, _, _, V.ref rl, rfl, rfl, SqL.of R.stA, atI_nat (j := 1) rfl, _, rfl, rl, _, _, V.ref q, rfl, rfl, SqL.of R.law.rlA, atI_nat hq', _, rfl, q, _, _, optV (S.slot j c), rfl, rfl, SqL.of hrow, atI_row cs, ?_⟩
          refine ⟨_, rfl, st, _, _, V.ref hl, rfl, rfl, SqL.of R.stA, atI_nat (j := 0) rfl, _, rfl, pa, _, _, nV a, rfl, rfl, SqL.of ha, atI_nat (j := 1) rfl, hl, _, _, _, rfl, rfl, R.law.handsA, ixN_nat (by rw [List.length_map]; exact a1), ?_⟩
          have R2 := R.setH (S.hands.set a (S.slot j c))
          have eh : (S.hands.map optV).set a (optV (S.slot j c)) = (S.hands.set a (S.slot j c)).map optV := (List.map_set ..).symm
          rw [eh]
          have ha2 : (upd H hl (.lst ((S.hands.set a (S.slot j c)).map optV))) pa = _ := (upd_ne hpa).trans ha
          have fr : Frm H (Foot st hl rl T pq qs) (upd H hl (.lst ((S.hands.set a (S.slot j c)).map optV))) (Foot st hl rl T pq qs) := fun b o e n => ⟨by rw [upd_ne fun z => n (.inl (.inl z))]; exact e, n⟩
          have q' := k _ pq qs R2 fr
          generalize upd H hl (.lst ((S.hands.set a (S.slot j c)).map optV)) = H2 at R2 ha2 q'
          refine ⟨_, rfl, st, _, _, V.ref hl, rfl, rfl, SqL.of R2.stA, atI_nat (j := 0) rfl, _, rfl, pa, _, _, nV a, rfl, rfl, SqL.of ha2, atI_nat (j := 1) rfl, hl, _, _, optV (S.slot j c), rfl, rfl, SqL.of R2.law.handsA, ?_, S.slot j c, rfl, fun i ei => small60 (Nat.le_trans (Nat.le_of_lt (slot_lt G e ei)) r2000) (by decide), q'⟩
          refine atI_nat ?_
          rw [List.getElem?_map, List.getElem?_set, if_pos rfl, if_pos a1]
          rfl
        · rw [decide_eq_true (show (c : Int) ≥ ((rowOf S.rows j).length : Int) by have h' : ¬ c < (rowOf S.rows j).length := cs; omega)]
          dsimp only at k
          rw [if_neg cs] at k
          exact iteT (k H pq qs R (Frm.refl _ _))
    · -- put
      rw [dn sn_put_take]
      refine iteF ?_
      unfold outOf at k
      simp only [sn_put_make, sn_put_take, sn_put_share, sn_put_drop, sn_put_work, if_true, if_false] at k
      rw [if_pos ⟨a1, c1⟩] at k
      refine ⟨_, rfl, st, _, _, V.ref hl, rfl, rfl, SqL.of R.stA, atI_nat (j := 0) rfl, _, rfl, hl, _, _, optV (S.hand a), rfl, rfl, SqL.of R.law.handsA, atI_opt a1, ?_⟩
      cases e : S.hand a with
      | none =>
        rw [e] at k
        exact ⟨_, rfl, rfl, _, rfl, iteT (k H pq qs R (Frm.refl _ _))⟩
      | some j =>
        rw [e] at k
        refine ⟨_, rfl, rfl, _, rfl, iteF ?_⟩
        obtain ⟨q, hq, hrow⟩ := R.law.row (hand_lt G e)
        have hq' : (qs.map V.ref)[j]? = some (V.ref q) := by rw [List.getElem?_map, hq]; rfl
        refine ⟨_, rfl, _, rfl, st, _, _, V.ref rl, rfl, rfl, SqL.of R.stA, atI_nat (j := 1) rfl, _, rfl, rl, _, _, V.ref q, rfl, rfl, SqL.of R.law.rlA, atI_nat hq', q, _, rfl, .inl (SqL.of hrow), ?_⟩
        rw [List.length_map]
        refine ⟨_, _, rfl, rfl, _, rfl, ?_⟩
        by_cases cs : b < (S.row j).length
        · rw [decide_eq_false (show ¬ (b : Int) ≥ ((rowOf S.rows j).length : Int) from fun h => by have h' : b < (rowOf S.rows j).length := cs; omega)]
          dsimp only at k
          rw [if_pos cs] at k
          refine iteF ?_
          refine ⟨_, rfl, pa, _, _, V.str _, rfl, rfl, SqL.of ha, atI_nat (j := 0) rfl, rfl, _, rfl, ?_⟩
          rw [dn sn_put_take]
          refine iteF ?_
          refine ⟨_, rfl, st, _, _, V.ref hl, rfl, rfl, SqL.of R.stA, atI_nat (j := 0) rfl, _, rfl, pa, _, _, nV c, rfl, rfl, SqL.of ha, atI_nat (j := 3) rfl, hl, _, _, optV (S.hand c), rfl, rfl, SqL.of R.law.handsA, atI_opt c1, ?_⟩
          refine ⟨_, rfl, st, _, _, V.ref rl, rfl, rfl, SqL.of R.stA, atI_nat (j := 1) rfl, _, rfl, rl, _, _, V.ref q, rfl, rfl, SqL.of R.law.rlA, atI_nat hq', _, rfl, q, _, _, _, rfl, rfl, hrow, ixN_nat (by rw [List.length_map]; exact cs), ?_⟩
          have R2 := R.setS ((S.row j).set b (S.hand c)) hq
          have eh : ((rowOf S.rows j).map optV).set b (optV (S.hand c)) = ((rowOf S.rows j).set b (S.hand c)).map optV := (List.map_set ..).symm
          rw [eh]
          have pi := put_is S j b c
          refine k _ pq qs ?_ fun b o e n => ⟨by rw [upd_ne fun z => n (.inl (.inr (.inr (by rw [z]; exact List.mem_of_getElem? hq))))]; exact e, n⟩
          show LP _ st hl rl T pq qs (S.put j b c).hands (S.put j b c).rows (S.put j b c).keys (planOf (S.put j b c))
          rw [pi.1, pi.2, (put_fields S j b c).1, put_plan]
          exact R2
        · rw [decide_eq_true (show (b : Int) ≥ ((rowOf S.rows j).length : Int) by have h' : ¬ b < (rowOf S.rows j).length := cs; omega)]
          dsimp only at k
          rw [if_neg cs] at k
          exact iteT (k H pq qs R (Frm.refl _ _))
end
end MK

set_option Elab.async false
set_option linter.all false
set_option pp.maxSteps 700
set_option maxRecDepth 100000
set_option maxHeartbeats 4000000
namespace MK
open PySem PySem.Spec PyProof.Rows L2 MM KG MP SX TL
section
variable {P : Program} {w : World} {K : PySem.W.Frag} {mg : Str → Option Value} {base : Heap} {C : Addr} {EC : ECs}
def spMadeL : Sp := fun vs H Q _ => ∃ (st pa hl rl T pq : Addr) (qs : List Addr) (S : HS) (a b : Nat), vs = [.ref st, .ref pa, .int (S.room : Int)] ∧ H pa = some (.lst (partV (.deed "make" [a, b]))) ∧ ¬ Foot st hl rl T pq qs pa ∧ a < S.hands.length ∧ L12 H st hl rl T pq qs S ∧ Good S ∧ S.rows.length ≤ 2000 ∧
  AnsQ H st hl rl T pq qs S (outOf S "make" [a, b]) Q
theorem ok_madeL {f : Addr} {fd : FuncData} (F : Fun K "_law_made" "_law_made" sMade f fd) (m_len : mg "len" = none) (m_range : mg "range" = none) (m_str : mg "str" = none) : FnOk P w K mg base CX0 1 f fd (["_law_state", "_law_parts_here", "_law_room"]) spMadeL := by
  refine F.ok scMade (fun vs H Q E h => ?_) (fun cdv A outer s H vs Q E hr h => ?_)
  · obtain ⟨st, pa, hl, rl, T, pq, qs, S, a, b, rfl, _⟩ := h
    rfl
  · obtain ⟨st, pa, hl, rl, T, pq, qs, S, a, b, rfl, ha, npa, a1, R, G, r2000, k⟩ := h
    refine ⟨_, (pss_cons (ps_if (pt_cmpR op_gt (pe_ix (ixL (K := K)) (pv 1) pe_int (fun _ _ => rfl)) pe_int (nomark _)) (pss_one (ps_ret pe_str)) pss_nil)
      (pss_cons (ps_if (pt_cmpR op_eq (pe_callB (lenS (K := K)) (by rfl) m_len (by decide +kernel) (pa_cons (pe_ix (ixL (K := K)) (pv 0) pe_int (fun _ _ => rfl)) pa_nil)) (pv 2) (nomark _)) (pss_one (ps_ret pe_str)) pss_nil)
      (pss_cons (ps_expr (pe_bm PySem.F.plainAttrs_list PySem.F.slot_list_append PySem.F.type_list_append mt_append (pe_ix (ixL (K := K)) (pv 0) pe_int (fun _ _ => rfl)) (pa_cons (pe_lc (own := [("_law_k", 3)]) (g := gName 3) (tt := tYes) rfl scMade.nd (pi_range1 (by rfl) m_range (pa_cons (pe_ix (ixL (K := K)) (pv 1) pe_int (fun _ _ => rfl)) pa_nil)) (blkOk_by (N := ["_law_state", "_law_parts_here", "_law_room", "_law_k"]) (sc := defScope sMade) (by decide +kernel)) (fun _ _ _ _ _ => (pg_name (i := 3) scMade.nd rfl (.inl rfl))) (fun _ _ _ _ _ => pts_nil) (fun _ _ _ _ _ => pe_non)) pa_nil)))
      (pss_cons (ps_expr (pe_bm PySem.F.plainAttrs_list PySem.F.slot_list_append PySem.F.type_list_append mt_append (pe_ix (ixL (K := K)) (pv 0) pe_int (fun _ _ => rfl)) (pa_cons (pe_op op_sub (pe_callB (lenS (K := K)) (by rfl) m_len (by decide +kernel) (pa_cons (pe_ix (ixL (K := K)) (pv 0) pe_int (fun _ _ => rfl)) pa_nil)) pe_int) pa_nil)))
      (pss_cons (ps_asg (pe_op op_sub (pe_callB (lenS (K := K)) (by rfl) m_len (by decide +kernel) (pa_cons (pe_ix (ixL (K := K)) (pv 0) pe_int (fun _ _ => rfl)) pa_nil)) pe_int) (pg_sub (pe_ix (ixL (K := K)) (pv 0) pe_int (fun _ _ => rfl)) (pe_ix (ixL (K := K)) (pv 1) pe_int (fun _ _ => rfl)) set_list))
      (pss_one (ps_ret (pe_op op_add_str pe_str (pe_callTy call_str_int (by rfl) m_str (by decide +kernel) (pa_cons (pe_op op_sub (pe_callB (lenS (K := K)) (by rfl) m_len (by decide +kernel) (pa_cons (pe_ix (ixL (K := K)) (pv 0) pe_int (fun _ _ => rfl)) pa_nil)) pe_int) pa_nil)))))))))), ?_⟩
    unfold AnsQ at k
    have kk := G.keysn
    unfold outOf at k
    simp only [sn_make_take, sn_make_put, sn_make_share, sn_make_drop, sn_make_work, if_true, if_false] at k
    rw [if_pos a1] at k
    refine ⟨_, rfl, pa, _, _, nV b, rfl, rfl, SqL.of ha, atI_nat (j := 2) rfl, _, _, rfl, rfl, _, rfl, ?_⟩
    by_cases b4 : b ≤ 4
    · rw [if_pos b4] at k
      rw [decide_eq_false (show ¬ (b : Int) > 4 by omega)]
      refine iteF ?_
      refine ⟨_, rfl, st, _, _, V.ref T, rfl, rfl, SqL.of R.stA, atI_nat (j := 2) rfl, T, _, rfl, .inl (SqL.of R.th), _, rfl, rfl, _, rfl, ?_⟩
      rw [List.length_map]
      by_cases lt : S.keys.length < S.room
      · rw [if_pos lt] at k
        rw [decide_eq_false (show ¬ V.int (S.keys.length : Int) = V.int (S.room : Int) from fun e => by have := V.int.inj e; omega)]
        refine iteF ?_
        refine ⟨_, rfl, st, _, _, V.ref rl, rfl, rfl, SqL.of R.stA, atI_nat (j := 1) rfl, .inl ⟨rfl, _, SqL.of R.law.rlA⟩, _, rfl, pa, _, _, nV b, rfl, rfl, SqL.of ha, atI_nat (j := 2) rfl, (b : Int), rfl, by omega, by omega, fun D nD => ?_⟩
        rw [Int.toNat_natCast]
        refine lc_range (lo := 0) (n := b) (fun i H' => Same H H' ∧ H' D = some (.lst ((List.replicate i (none : Option Nat)).map optV))) ⟨same_new nD, upd_same⟩ ?_ ?_
        · rintro i H' hi ⟨s1, hD⟩
          refine ⟨rfl, _, hD, size_of (by rw [List.length_map, List.length_replicate]; omega), same_put s1 nD, ?_⟩
          rw [upd_same, List.replicate_succ', List.map_append]
          rfl
        rintro H1 ⟨s1, hD⟩
        have lq : qs.length = S.rows.length := R.law.rowsA.len
        refine ⟨rl, _, _, rfl, rfl, s1 _ _ R.law.rlA, size_of (by rw [List.length_map]; omega), ?_⟩
        have e0 : (qs.map V.ref ++ [V.ref D]) = (qs ++ [D]).map V.ref := by rw [List.map_append]; rfl
        rw [e0]
        have R2 := R.push s1 nD hD
        have npl : pa ≠ rl := fun e => npa (.inl (.inr (.inl e)))
        have npT : pa ≠ T := fun e => npa (.inr (.inr (.inr e)))
        have nph : pa ≠ hl := fun e => npa (.inl (.inl e))
        have ha2 : (upd H1 rl (.lst ((qs ++ [D]).map V.ref))) pa = _ := (upd_ne npl).trans (s1 _ _ ha)
        have kp : ∀ b' o, H b' = some o → ¬ Foot st hl rl T pq qs b' → (upd H1 rl (.lst ((qs ++ [D]).map V.ref))) b' = some o := fun b' o e n => (upd_ne fun z => n (.inl (.inr (.inl z)))).trans (s1 _ _ e)
        have rl2 := R2.law.rlA
        generalize upd H1 rl (.lst ((qs ++ [D]).map V.ref)) = H2 at R2 ha2 kp rl2
        have lq2 : ((qs ++ [D]).map V.ref).length = S.rows.length + 1 := by rw [List.length_map, List.length_append, List.length_singleton, lq]
        have i1 : (((S.rows.length + 1 : Nat) : Int) - 1) = (S.rows.length : Int) := by omega
        refine ⟨_, rfl, st, _, _, V.ref T, rfl, rfl, SqL.of R2.stA, atI_nat (j := 2) rfl, .inl ⟨rfl, _, SqL.of R2.th⟩, _, rfl, st, _, _, V.ref rl, rfl, rfl, SqL.of R2.stA, atI_nat (j := 1) rfl, rl, _, rfl, .inl (SqL.of rl2), ?_⟩
        rw [lq2]
        refine ⟨_, _, rfl, rfl, ?_⟩
        dsimp only
        rw [i1]
        refine ⟨T, _, _, rfl, rfl, R2.th, size_of (by rw [List.length_map]; omega), ?_⟩
        have eT : (S.keys.map nV ++ [V.int (S.rows.length : Int)]) = (S.keys ++ [S.rows.length]).map nV := by rw [List.map_append]; rfl
        rw [eT]
        have R3 := R2.setT (S.keys ++ [S.rows.length])
        have ha3 : (upd H2 T (.lst ((S.keys ++ [S.rows.length]).map nV))) pa = _ := (upd_ne npT).trans ha2
        have kp3 : ∀ b' o, H b' = some o → ¬ Foot st hl rl T pq qs b' → (upd H2 T (.lst ((S.keys ++ [S.rows.length]).map nV))) b' = some o := fun b' o e n => (upd_ne fun z => n (.inr (.inr (.inr z)))).trans (kp _ _ e n)
        generalize upd H2 T (.lst ((S.keys ++ [S.rows.length]).map nV)) = H3 at R3 ha3 kp3
        refine ⟨_, rfl, st, _, _, V.ref rl, rfl, rfl, SqL.of R3.stA, atI_nat (j := 1) rfl, rl, _, rfl, .inl (SqL.of R3.law.rlA), ?_⟩
        rw [lq2]
        refine ⟨_, _, rfl, rfl, ?_⟩
        dsimp only
        rw [i1]
        refine ⟨_, rfl, st, _, _, V.ref hl, rfl, rfl, SqL.of R3.stA, atI_nat (j := 0) rfl, _, rfl, pa, _, _, nV a, rfl, rfl, SqL.of ha3, atI_nat (j := 1) rfl, hl, _, _, _, rfl, rfl, R3.law.handsA, ixN_nat (by rw [List.length_map]; exact a1), ?_⟩
        have eh : (S.hands.map optV).set a (V.int (S.rows.length : Int)) = (S.hands.set a (some S.rows.length)).map optV := by rw [List.map_set]; rfl
        rw [eh]
        have R4 := R3.setH (S.hands.set a (some S.rows.length))
        have kp4 : ∀ b' o, H b' = some o → ¬ Foot st hl rl T pq qs b' → (upd H3 hl (.lst ((S.hands.set a (some S.rows.length)).map optV))) b' = some o := fun b' o e n => (upd_ne fun z => n (.inl (.inl z))).trans (kp3 _ _ e n)
        generalize upd H3 hl (.lst ((S.hands.set a (some S.rows.length)).map optV)) = H4 at R4 kp4
        have k60 : S.rows.length < 10 ^ 60 := small60 r2000 (by decide)
        have fl := fig_len k60
        have bl : ("box " : Str).length = 4 := by decide +kernel
        refine ⟨_, rfl, st, _, _, V.ref rl, rfl, rfl, SqL.of R4.stA, atI_nat (j := 1) rfl, rl, _, rfl, .inl (SqL.of R4.law.rlA), ?_⟩
        rw [lq2]
        refine ⟨_, _, rfl, rfl, ?_⟩
        dsimp only
        rw [i1]
        refine ⟨_, rfl, log_ok k60, _, _, rfl, rfl, ?_, ?_⟩
        · rw [fig_str, bl]
          exact Nat.le_of_lt (size_of (by omega))
        · rw [fig_str]
          refine k H4 pq (qs ++ [D]) R4 fun b' o e n => ⟨kp4 _ _ e n, fun z => ?_⟩
          rcases z with z | z
          · rcases z with z | z | z
            · exact n (.inl (.inl z))
            · exact n (.inl (.inr (.inl z)))
            · rcases List.mem_append.mp z with z | z
              · exact n (.inl (.inr (.inr z)))
              · rw [List.mem_singleton.mp z, nD] at e; cases e
          · exact n (.inr z)
      · rw [if_neg lt] at k
        have := G.few
        rw [decide_eq_true (show V.int (S.keys.length : Int) = V.int (S.room : Int) from by rw [show S.keys.length = S.room by omega])]
        exact iteT (k H pq qs R (Frm.refl _ _))
    · rw [if_neg b4] at k
      rw [decide_eq_true (show (b : Int) > 4 by omega)]
      exact iteT (k H pq qs R (Frm.refl _ _))
end
end MK

set_option Elab.async false
set_option linter.all false
set_option pp.maxSteps 700
set_option maxRecDepth 100000
set_option maxHeartbeats 4000000
namespace MK
open PySem PySem.Spec PyProof.Rows L2 MM KG MP SX TL
theorem step_out (S : HS) (z : Str) : stepZ S z = OutR (outZ S z) S := rfl
theorem out_deed (S : HS) {u : Str} {ns : List Nat} (v : ValidP (.deed u ns)) : outZ S (lineOf (.deed u ns)) = outOf S u ns := by
  obtain ⟨hc, h32, h5, hn⟩ := v
  unfold outZ
  show (match parse (Txt.join blank (u :: ns.map figS)) with | none => Out.err 7 | some (u, ns) => outOf S u ns) = _
  rw [parse_told hc h32 hn]
theorem out_odd (S : HS) {z : Str} (v : ValidP (.odd z)) : outZ S (lineOf (.odd z)) = .err 7 := by
  unfold outZ
  show (match parse z with | none => Out.err 7 | some (u, ns) => outOf S u ns) = _
  rw [v.1]
/-- a hand that is not there -/
theorem out_nohand {S : HS} {u : Str} {ns : List Nat} (hc : cntOf u = some ns.length) (nw : u ≠ ("work" : Str)) (h : ¬ ∀ h ∈ handsOf u ns, h < S.hands.length) : outOf S u ns = .err 0 := by
  rcases cnt_cases hc with ⟨rfl, e⟩ | ⟨rfl, e⟩ | ⟨rfl, e⟩ | ⟨rfl, e⟩ | ⟨rfl, e⟩ | ⟨rfl, e⟩
  · obtain ⟨a, b, rfl⟩ := two e.symm
    unfold handsOf at h
    unfold outOf
    simp only [sn_make_take, sn_make_put, sn_make_share, sn_make_drop, sn_make_work, if_true, if_false, or_self] at h ⊢
    rw [if_neg fun z => h fun x hx => by rw [List.mem_singleton.mp hx]; exact z]
  · obtain ⟨a, b, c, rfl⟩ := three e.symm
    unfold handsOf at h
    unfold outOf
    simp only [sn_take_make, sn_take_put, sn_take_share, sn_take_drop, sn_take_work, if_true, if_false, true_or] at h ⊢
    rw [if_neg fun z => h fun x hx => by rcases (by simpa using hx : x = a ∨ x = b) with rfl | rfl; exact z.1; exact z.2]
  · obtain ⟨a, b, c, rfl⟩ := three e.symm
    unfold handsOf at h
    unfold outOf
    simp only [sn_put_make, sn_put_take, sn_put_share, sn_put_drop, sn_put_work, if_true, if_false] at h ⊢
    rw [if_neg fun z => h fun x hx => by rcases (by simpa using hx : x = a ∨ x = c) with rfl | rfl; exact z.1; exact z.2]
  · obtain ⟨a, b, rfl⟩ := two e.symm
    unfold handsOf at h
    unfold outOf
    simp only [sn_share_make, sn_share_take, sn_share_put, sn_share_drop, sn_share_work, if_true, if_false, or_true] at h ⊢
    rw [if_neg fun z => h fun x hx => by rcases (by simpa using hx : x = a ∨ x = b) with rfl | rfl; exact z.1; exact z.2]
  · obtain ⟨a, rfl⟩ := one' e.symm
    unfold handsOf at h
    unfold outOf
    simp only [sn_drop_make, sn_drop_take, sn_drop_put, sn_drop_share, sn_drop_work, if_true, if_false, or_self] at h ⊢
    rw [if_neg fun z => h fun x hx => by rw [List.mem_singleton.mp hx]; exact z]
  · exact absurd rfl nw
theorem rIn2 {K : PySem.W.Frag} {x a b : Str} {H : Hp} {Q' : VK} (q : ∀ H1, Same H H1 → Q' (.bl (decide (x = a) || decide (x = b))) H1) : ∀ tq, H tq = none → rIn K false (V.str x) (.ref tq) (upd H tq (.tup [V.str a, V.str b])) Q' := fun tq nt =>
  ⟨tq, [V.str a, V.str b], rfl, .inr (SqT.of upd_same), rfl, rfl, by
    rw [show (if false = true then !inV (V.str x) [V.str a, V.str b] else inV (V.str x) [V.str a, V.str b]) = inV (V.str x) [V.str a, V.str b] from rfl, in2']
    exact q _ (same_new nt)⟩
section
variable {P : Program} {w : World} {K : PySem.W.Frag} {mg : Str → Option Value} {base : Heap} {C : Addr} {EC : ECs}
theorem AnsQ.same {H H1 : Hp} {st hl rl T pq : Addr} {qs : List Addr} {S : HS} {o : Out} {Q : VK} (k : AnsQ H st hl rl T pq qs S o Q) (s : Same H H1) : AnsQ H1 st hl rl T pq qs S o Q :=
  fun H' pq' qs' l fr => k H' pq' qs' l fun b o e n => fr b o (s b o e) n
def spAnswerL : Sp := fun vs H Q _ => ∃ (st pa hl rl T pq : Addr) (qs : List Addr) (S : HS) (prt : Prt), vs = [.ref st, .ref pa, .int (S.hands.length : Int), .int (S.room : Int)] ∧ H pa = some (.lst (partV prt)) ∧ ¬ Foot st hl rl T pq qs pa ∧ ValidP prt ∧ L12 H st hl rl T pq qs S ∧ Good S ∧ S.rows.length ≤ 2000 ∧
  AnsQ H st hl rl T pq qs S (outZ S (lineOf prt)) Q
theorem ok_answerL {f f1 f2 f3 f4 f5 : Addr} {fd d1 d2 d3 d4 d5 : FuncData} (F : Fun K "_law_answer" "_law_answer" sAnswer f fd) (D__law_pieces : Df P w K mg base CX0 2 "_law_pieces" f1 d1 (["_law_state", "_law_pieces_here"]) spPieces12) (D__law_hands : Df P w K mg base CX0 1 "_law_hands" f2 d2 (["_law_parts_here"]) spHandsL)
    (D__law_made : Df P w K mg base CX0 1 "_law_made" f3 d3 (["_law_state", "_law_parts_here", "_law_room"]) spMadeL) (D__law_slotted : Df P w K mg base CX0 2 "_law_slotted" f4 d4 (["_law_state", "_law_parts_here"]) spSlotted) (D__law_held : Df P w K mg base CX0 1 "_law_held" f5 d5 (["_law_box"]) spLwHeld)
    (m_len : mg "len" = none) (m_max : mg "max" = none) : FnOk P w K mg base CX0 3 f fd (["_law_state", "_law_parts_here", "_law_many", "_law_room"]) spAnswerL := by
  refine F.ok scAnswer (fun vs H Q E h => ?_) (fun cdv A outer s H vs Q E hr h => ?_)
  · obtain ⟨st, pa, hl, rl, T, pq, qs, S, prt, rfl, _⟩ := h
    rfl
  · obtain ⟨st, pa, hl, rl, T, pq, qs, S, prt, rfl, ha, npa, vp, R, G, r2000, k⟩ := h
    refine ⟨_, (pss_cons (ps_if (pt_cmpR op_eq (pe_callB (lenS (K := K)) (by rfl) m_len (by decide +kernel) (pa_cons (pv 1) pa_nil)) pe_int (nomark _)) (pss_one (ps_ret pe_str)) pss_nil)
      (pss_cons (ps_if (PW.pt (pw_and (pt_cmpR op_eq (pe_ix (ixL (K := K)) (pv 1) pe_int (fun _ _ => rfl)) pe_str (nomark _)) (pw_and1 (pt_cmpR op_gt (pe_ix (ixL (K := K)) (pv 1) pe_int (fun _ _ => rfl)) pe_int (nomark _))))) (pss_one (ps_ret pe_str)) pss_nil)
      (pss_cons (ps_if (pt_cmpR op_eq (pe_ix (ixL (K := K)) (pv 1) pe_int (fun _ _ => rfl)) pe_str (nomark _)) (pss_one (ps_ret (pe_call D__law_pieces.g (hr.mono (by decide)) (by rfl) D__law_pieces.m D__law_pieces.k D__law_pieces.b .nil pass0 (pa_cons (pv 0) (pa_cons (pe_ix (ixL (K := K)) (pv 1) pe_int (fun _ _ => rfl)) pa_nil))))) pss_nil)
      (pss_cons (ps_if (pt_cmpR op_ge (pe_callB (cr_max rfl) (by rfl) m_max (by decide +kernel) (pa_cons (pe_call D__law_hands.g (hr.mono (by decide)) (by rfl) D__law_hands.m D__law_hands.k D__law_hands.b .nil pass0 (pa_cons (pv 1) pa_nil)) pa_nil)) (pv 2) (nomark _)) (pss_one (ps_ret pe_str)) pss_nil)
      (pss_cons (ps_if (pt_cmpR op_eq (pe_ix (ixL (K := K)) (pv 1) pe_int (fun _ _ => rfl)) pe_str (nomark _)) (pss_one (ps_ret (pe_call D__law_made.g (hr.mono (by decide)) (by rfl) D__law_made.m D__law_made.k D__law_made.b .nil pass0 (pa_cons (pv 0) (pa_cons (pv 1) (pa_cons (pv 3) pa_nil)))))) pss_nil)
      (pss_cons (ps_if (pt_cmpR ((inSeq (K := K))) (pe_ix (ixL (K := K)) (pv 1) pe_int (fun _ _ => rfl)) (pe_tup (pa_cons pe_str (pa_cons pe_str pa_nil))) (by rfl)) (pss_one (ps_ret (pe_call D__law_slotted.g (hr.mono (by decide)) (by rfl) D__law_slotted.m D__law_slotted.k D__law_slotted.b .nil pass0 (pa_cons (pv 0) (pa_cons (pv 1) pa_nil))))) pss_nil)
      (pss_cons (ps_if (pt_cmpR op_eq (pe_ix (ixL (K := K)) (pv 1) pe_int (fun _ _ => rfl)) pe_str (nomark _)) (pss_cons (ps_asg (pe_ix (ixL (K := K)) (pe_ix (ixL (K := K)) (pv 0) pe_int (fun _ _ => rfl)) (pe_ix (ixL (K := K)) (pv 1) pe_int (fun _ _ => rfl)) (fun _ _ => rfl)) (pg_sub (pe_ix (ixL (K := K)) (pv 0) pe_int (fun _ _ => rfl)) (pe_ix (ixL (K := K)) (pv 1) pe_int (fun _ _ => rfl)) set_list))
      (pss_one (ps_ret (pe_call D__law_held.g (hr.mono (by decide)) (by rfl) D__law_held.m D__law_held.k D__law_held.b .nil pass0 (pa_cons (pe_ix (ixL (K := K)) (pe_ix (ixL (K := K)) (pv 0) pe_int (fun _ _ => rfl)) (pe_ix (ixL (K := K)) (pv 1) pe_int (fun _ _ => rfl)) (fun _ _ => rfl)) pa_nil))))) pss_nil)
      (pss_cons (ps_asg pe_non (pg_sub (pe_ix (ixL (K := K)) (pv 0) pe_int (fun _ _ => rfl)) (pe_ix (ixL (K := K)) (pv 1) pe_int (fun _ _ => rfl)) set_list))
      (pss_one (ps_ret pe_str)))))))))), ?_⟩
    refine ⟨_, rfl, pa, _, rfl, .inl (SqL.of ha), rfl, _, rfl, ?_⟩
    cases prt with
    | odd z =>
      rw [out_odd S vp] at k
      rw [show decide (V.int ((partV (.odd z)).length : Int) = V.int 1) = true from rfl]
      exact iteT (k H pq qs R (Frm.refl _ _))
    | deed u ns =>
      rw [out_deed S vp] at k
      have hc := vp.1
      have n1 : 1 ≤ ns.length := by
        rcases cnt_cases hc with ⟨_, e⟩ | ⟨_, e⟩ | ⟨_, e⟩ | ⟨_, e⟩ | ⟨_, e⟩ | ⟨_, e⟩ <;> omega
      rw [decide_eq_false (show ¬ V.int ((partV (.deed u ns)).length : Int) = V.int 1 from fun e => by
        have := V.int.inj e
        have l : (partV (.deed u ns)).length = ns.length + 1 := by show (V.str u :: ns.map nV).length = _; rw [List.length_cons, List.length_map]
        omega)]
      refine iteF ?_
      by_cases uw : u = ("work" : Str)
      · subst uw
        obtain ⟨n, rfl⟩ := one' (Option.some.inj (cnt_work.symm.trans hc))
        unfold outOf at k
        simp only [sn_work_make, sn_work_take, sn_work_put, sn_work_share, sn_work_drop, if_true, if_false] at k
        refine ⟨_, rfl, pa, _, _, V.str _, rfl, rfl, SqL.of ha, atI_nat (j := 0) rfl, rfl, _, rfl, ?_⟩
        rw [decide_eq_true rfl]
        refine iteT ⟨_, rfl, pa, _, _, nV n, rfl, rfl, SqL.of ha, atI_nat (j := 1) rfl, _, _, rfl, rfl, _, rfl, ?_⟩
        by_cases n25 : n ≤ 2500
        · rw [if_pos n25] at k
          rw [decide_eq_false (show ¬ (n : Int) > 2500 by omega)]
          refine iteF ?_
          refine ⟨_, rfl, pa, _, _, V.str _, rfl, rfl, SqL.of ha, atI_nat (j := 0) rfl, rfl, _, rfl, ?_⟩
          rw [decide_eq_true rfl]
          exact iteT ⟨_, rfl, _, rfl, pa, _, _, nV n, rfl, rfl, SqL.of ha, atI_nat (j := 1) rfl, st, hl, rl, T, pq, qs, S, n, rfl, R, G, n25, r2000, fun H' pq' l fr => k H' pq' qs l fr⟩
        · rw [if_neg n25] at k
          rw [decide_eq_true (show (n : Int) > 2500 by omega)]
          exact iteT (k H pq qs R (Frm.refl _ _))
      · refine ⟨_, rfl, pa, _, _, V.str _, rfl, rfl, SqL.of ha, atI_nat (j := 0) rfl, rfl, _, rfl, ?_⟩
        have dw : decide (V.str u = V.str "work") = false := decide_eq_false fun e => uw (V.str.inj e)
        rw [dw]
        refine iteF ⟨_, rfl, pa, _, _, V.str _, rfl, rfl, SqL.of ha, atI_nat (j := 0) rfl, rfl, _, rfl, ?_⟩
        rw [dw]
        refine iteF ⟨_, rfl, pa, u, ns, rfl, ha, hc, uw, fun q H1 s1 nq hq => ?_⟩
        refine ⟨q, (handsOf u ns).map fun j : Nat => (j : Int), rfl, by rw [List.map_map]; exact SqL.of hq, ?_, fun m hm hle => ?_⟩
        · rw [List.length_map]
          unfold handsOf
          split
          · exact Nat.succ_pos _
          · split <;> exact Nat.succ_pos _
        refine ⟨_, rfl, _, _, rfl, rfl, _, rfl, ?_⟩
        obtain ⟨m', hm', rfl⟩ := List.mem_map.mp hm
        have k := k.same s1
        have R := R.keep s1
        have ha := s1 _ _ ha
        by_cases all : ∀ h ∈ handsOf u ns, h < S.hands.length
        · rw [decide_eq_false (show ¬ ((m' : Nat) : Int) ≥ (S.hands.length : Int) from fun e => by have := all m' hm'; omega)]
          refine iteF ⟨_, rfl, pa, _, _, V.str _, rfl, rfl, SqL.of ha, atI_nat (j := 0) rfl, rfl, _, rfl, ?_⟩
          rcases cnt_cases hc with ⟨rfl, e⟩ | ⟨rfl, e⟩ | ⟨rfl, e⟩ | ⟨rfl, e⟩ | ⟨rfl, e⟩ | ⟨rfl, e⟩
          · -- make
            obtain ⟨a, b, rfl⟩ := two e.symm
            have a1 : a < S.hands.length := all a (by unfold handsOf; simp only [sn_make_put, sn_make_take, sn_make_share, if_false, or_self]; exact List.mem_singleton.mpr rfl)
            rw [decide_eq_true rfl]
            exact iteT ⟨_, rfl, _, rfl, _, rfl, st, pa, hl, rl, T, pq, qs, S, a, b, rfl, ha, npa, a1, R, G, r2000, k⟩
          · -- take
            obtain ⟨a, b, c, rfl⟩ := three e.symm
            have m2 : ∀ x, x = a ∨ x = b → x < S.hands.length := fun x hx => all x (by unfold handsOf; simp only [sn_take_put, if_true, if_false, true_or]; rcases hx with rfl | rfl; exact List.mem_cons_self; exact List.mem_cons_of_mem _ (List.mem_singleton.mpr rfl))
            rw [dn sn_take_make]
            refine iteF ⟨_, rfl, pa, _, _, V.str _, rfl, rfl, SqL.of ha, atI_nat (j := 0) rfl, (by show 2 ≤ sizeLine; decide), rIn2 fun H2 s2 => ?_⟩
            rw [decide_eq_true rfl, Bool.true_or]
            exact ⟨_, rfl, iteT ⟨_, rfl, _, rfl, st, pa, hl, rl, T, pq, qs, S, "take", a, b, c, rfl, s2 _ _ ha, npa, .inl ⟨rfl, m2 a (.inl rfl), m2 b (.inr rfl)⟩, R.keep s2, G, r2000, k.same s2⟩⟩
          · -- put
            obtain ⟨a, b, c, rfl⟩ := three e.symm
            have m2 : ∀ x, x = a ∨ x = c → x < S.hands.length := fun x hx => all x (by unfold handsOf; simp only [if_true]; rcases hx with rfl | rfl; exact List.mem_cons_self; exact List.mem_cons_of_mem _ (List.mem_singleton.mpr rfl))
            rw [dn sn_put_make]
            refine iteF ⟨_, rfl, pa, _, _, V.str _, rfl, rfl, SqL.of ha, atI_nat (j := 0) rfl, (by show 2 ≤ sizeLine; decide), rIn2 fun H2 s2 => ?_⟩
            rw [d0 sn_put_take, decide_eq_true rfl, Bool.or_true]
            exact ⟨_, rfl, iteT ⟨_, rfl, _, rfl, st, pa, hl, rl, T, pq, qs, S, "put", a, b, c, rfl, s2 _ _ ha, npa, .inr ⟨rfl, m2 a (.inl rfl), m2 c (.inr rfl)⟩, R.keep s2, G, r2000, k.same s2⟩⟩
          · -- share
            obtain ⟨a, b, rfl⟩ := two e.symm
            have m2 : ∀ x, x = a ∨ x = b → x < S.hands.length := fun x hx => all x (by unfold handsOf; simp only [sn_share_put, sn_share_take, if_true, if_false, or_true]; rcases hx with rfl | rfl; exact List.mem_cons_self; exact List.mem_cons_of_mem _ (List.mem_singleton.mpr rfl))
            have a1 := m2 a (.inl rfl)
            have b1 := m2 b (.inr rfl)
            rw [dn sn_share_make]
            refine iteF ⟨_, rfl, pa, _, _, V.str _, rfl, rfl, SqL.of ha, atI_nat (j := 0) rfl, (by show 2 ≤ sizeLine; decide), rIn2 fun H2 s2 => ?_⟩
            have k := k.same s2
            have R := R.keep s2
            have ha := s2 _ _ ha
            rw [d0 sn_share_take, d0 sn_share_put]
            unfold outOf at k
            simp only [sn_share_make, sn_share_take, sn_share_put, sn_share_drop, sn_share_work, if_true, if_false] at k
            rw [if_pos ⟨a1, b1⟩] at k
            refine ⟨_, rfl, iteF ⟨_, rfl, pa, _, _, V.str _, rfl, rfl, SqL.of ha, atI_nat (j := 0) rfl, rfl, _, rfl, ?_⟩⟩
            rw [decide_eq_true rfl]
            refine iteT ⟨_, rfl, st, _, _, V.ref hl, rfl, rfl, SqL.of R.stA, atI_nat (j := 0) rfl, _, rfl, pa, _, _, nV b, rfl, rfl, SqL.of ha, atI_nat (j := 2) rfl, hl, _, _, optV (S.hand b), rfl, rfl, SqL.of R.law.handsA, atI_opt b1, ?_⟩
            refine ⟨_, rfl, st, _, _, V.ref hl, rfl, rfl, SqL.of R.stA, atI_nat (j := 0) rfl, _, rfl, pa, _, _, nV a, rfl, rfl, SqL.of ha, atI_nat (j := 1) rfl, hl, _, _, _, rfl, rfl, R.law.handsA, ixN_nat (by rw [List.length_map]; exact a1), ?_⟩
            have eh : (S.hands.map optV).set a (optV (S.hand b)) = (S.hands.set a (S.hand b)).map optV := (List.map_set ..).symm
            rw [eh]
            have R2 := R.setH (S.hands.set a (S.hand b))
            have hpa : pa ≠ hl := fun e => npa (.inl (.inl e))
            have ha2 : (upd H2 hl (.lst ((S.hands.set a (S.hand b)).map optV))) pa = _ := (upd_ne hpa).trans ha
            have q' := k _ pq qs R2 fun b' o e n => ⟨by rw [upd_ne fun z => n (.inl (.inl z))]; exact e, n⟩
            generalize upd H2 hl (.lst ((S.hands.set a (S.hand b)).map optV)) = H3 at R2 ha2 q'
            refine ⟨_, rfl, st, _, _, V.ref hl, rfl, rfl, SqL.of R2.stA, atI_nat (j := 0) rfl, _, rfl, pa, _, _, nV a, rfl, rfl, SqL.of ha2, atI_nat (j := 1) rfl, hl, _, _, optV (S.hand b), rfl, rfl, SqL.of R2.law.handsA, ?_, S.hand b, rfl, fun i ei => small60 (Nat.le_trans (Nat.le_of_lt (hand_lt G ei)) r2000) (by decide), q'⟩
            refine atI_nat ?_
            rw [List.getElem?_map, List.getElem?_set, if_pos rfl, if_pos a1]
            rfl
          · -- drop
            obtain ⟨a, rfl⟩ := one' e.symm
            have a1 : a < S.hands.length := all a (by unfold handsOf; simp only [sn_drop_put, sn_drop_take, sn_drop_share, if_false, or_self]; exact List.mem_singleton.mpr rfl)
            rw [dn sn_drop_make]
            refine iteF ⟨_, rfl, pa, _, _, V.str _, rfl, rfl, SqL.of ha, atI_nat (j := 0) rfl, (by show 2 ≤ sizeLine; decide), rIn2 fun H2 s2 => ?_⟩
            have k := k.same s2
            have R := R.keep s2
            have ha := s2 _ _ ha
            rw [d0 sn_drop_take, d0 sn_drop_put]
            unfold outOf at k
            simp only [sn_drop_make, sn_drop_take, sn_drop_put, sn_drop_share, sn_drop_work, if_true, if_false] at k
            rw [if_pos a1] at k
            refine ⟨_, rfl, iteF ⟨_, rfl, pa, _, _, V.str _, rfl, rfl, SqL.of ha, atI_nat (j := 0) rfl, rfl, _, rfl, ?_⟩⟩
            rw [dn sn_drop_share]
            refine iteF ⟨_, rfl, st, _, _, V.ref hl, rfl, rfl, SqL.of R.stA, atI_nat (j := 0) rfl, _, rfl, pa, _, _, nV a, rfl, rfl, SqL.of ha, atI_nat (j := 1) rfl, hl, _, _, _, rfl, rfl, R.law.handsA, ixN_nat (by rw [List.length_map]; exact a1), ?_⟩
            have eh : (S.hands.map optV).set a V.non = (S.hands.set a none).map optV := by rw [List.map_set]; rfl
            rw [eh]
            exact k _ pq qs (R.setH (S.hands.set a none)) fun b' o e n => ⟨by rw [upd_ne fun z => n (.inl (.inl z))]; exact e, n⟩
          · exact absurd rfl uw
        · rw [out_nohand hc uw all] at k
          rw [decide_eq_true (show ((m' : Nat) : Int) ≥ (S.hands.length : Int) from by
            refine Classical.byContradiction fun c => all fun h hh => ?_
            have := hle ((h : Nat) : Int) (List.mem_map_of_mem hh)
            omega)]
          exact iteT (k H1 pq qs R (Frm.refl _ _))
end
end MK

set_option Elab.async false
set_option linter.all false
set_option pp.maxSteps 700
set_option maxRecDepth 100000
set_option maxHeartbeats 8000000
namespace MK
open PySem PySem.Spec PyProof.Rows L2 MM KG MP SX TL
theorem pe_joinK {X : Cx} {K : PySem.W.Frag} {o e : Expr} {to te : TE} {apos pos : Pos} (ho : PE X o to) (he : PE X e te) (hs : starEach [e] X.env = [(false, eval e X.env)] := by rfl) (hbase : attributeBase o "join" X.env (eval o X.env) = eval o X.env := by rfl) (hline : (apos.endLine == pos.line) = true := by rfl) (hK : X.K = K := by rfl) :
    PE X (.Call (.Attribute o "join" apos) [e] [] pos) (tM1 (fun x xs H Q => ∃ a p, ∃ ys : List Str, x = .str a ∧ xs = [.ref p] ∧ (SqL K H p (ys.map V.str) ∨ SqT K H p (ys.map V.str)) ∧
      (ys.map (·.length)).sum + ys.length * a.length ≤ 16777216 ∧ Q (.str (Txt.join a ys)) H) to te) := by
  subst hK
  exact pe_join ho he hs hbase hline
theorem pi_listK {X : Cx} {K : PySem.W.Frag} {tg l : Expr} {tl : TE} (hl : PE X l tl) (hK : X.K = K := by rfl) : PI X tg l (iList K tl) := by
  subst hK
  exact pi_list hl
/-- a comprehension within a comprehension: the outer block's names, told anew -/
def relab (sc osc : Scope) : Scope := { sc with names := sc.names.map fun (n, k) => if (k == NameKind.free && osc.kind == .function && osc.names.lookup n == some .cell) then (n, NameKind.cell) else (n, k) }
theorem blkOk_nest {N : List Str} {osc sc scope : Scope} {own : List (Str × Nat)} {env : Env} (he : env.scope = osc) (h : blkC N (relab sc osc) scope own = true) : BlkOk N (relabel sc env) scope own := by
  subst he
  exact blkOk_by h
/-! ### code points -/
theorem ok_tl {x : Str} (h : ∀ c ∈ tl x, c < 0x110000) : PyData.strOk x = true := by
  unfold PyData.strOk
  exact Array.all_eq_true_iff_forall_mem.mpr fun c hc => decide_eq_true (h c (Array.mem_toList_iff.mpr hc))
theorem tl_ok {x : Str} (h : PyData.strOk x = true) : ∀ c ∈ tl x, c < 0x110000 := fun c hc => by
  unfold PyData.strOk at h
  exact of_decide_eq_true (Array.all_eq_true_iff_forall_mem.mp h c (Array.mem_toList_iff.mp hc))
theorem joinL_ok (S : List Nat) (hS : ∀ c ∈ S, c < 0x110000) : ∀ xs : List (List Nat), (∀ x ∈ xs, ∀ c ∈ x, c < 0x110000) → ∀ c ∈ joinL S xs, c < 0x110000
  | [], _, c, hc => nomatch hc
  | [a], h, c, hc => h a List.mem_cons_self c hc
  | a :: b :: r, h, c, hc => by
    have hc : c ∈ a ++ (S ++ joinL S (b :: r)) := hc
    rcases List.mem_append.mp hc with hc | hc
    · exact h a List.mem_cons_self c hc
    · rcases List.mem_append.mp hc with hc | hc
      · exact hS c hc
      · exact joinL_ok S hS (b :: r) (fun x hx => h x (List.mem_cons_of_mem _ hx)) c hc
theorem line_ok {p : Prt} (v : ValidP p) : PyData.strOk (lineOf p) = true := by
  cases p with
  | odd z => exact v.2.2
  | deed u ns =>
    refine ok_tl ?_
    show ∀ c ∈ tl (Txt.join blank (u :: ns.map figS)), c < 0x110000
    rw [join_eq, tl_join]
    refine joinL_ok _ (by decide +kernel) _ fun x hx => ?_
    obtain ⟨y, hy, rfl⟩ := List.mem_map.mp hx
    rcases List.mem_cons.mp hy with rfl | hy
    · rcases cnt_cases v.1 with ⟨rfl, _⟩ | ⟨rfl, _⟩ | ⟨rfl, _⟩ | ⟨rfl, _⟩ | ⟨rfl, _⟩ | ⟨rfl, _⟩ <;> exact tl_ok (by decide +kernel)
    · obtain ⟨n, _, rfl⟩ := List.mem_map.mp hy
      intro c hc
      have := numL_digits n c hc
      omega
def strsOf : Prt → List Str
  | .deed u ns => u :: ns.map figS
  | .odd z => [z]
theorem line_strs (p : Prt) : Txt.join blank (strsOf p) = lineOf p := by
  cases p with
  | deed u ns => rfl
  | odd z => rfl
theorem part_at {p : Prt} (v : ValidP p) {i : Nat} {y : V} (h : (partV p)[i]? = some y) : (∃ x, y = .str x ∧ (strsOf p)[i]? = some x) ∨ ∃ n : Nat, y = nV n ∧ n < 10 ^ 60 ∧ (strsOf p)[i]? = some (figS n) := by
  cases p with
  | odd z =>
    cases i with
    | zero => exact .inl ⟨z, (Option.some.inj h).symm, rfl⟩
    | succ i => exact nomatch h
  | deed u ns =>
    cases i with
    | zero => exact .inl ⟨u, (Option.some.inj h).symm, rfl⟩
    | succ i =>
      have h : (ns.map nV)[i]? = some y := h
      rw [List.getElem?_map] at h
      obtain ⟨b, hb, rfl⟩ : ∃ b, ns[i]? = some b ∧ y = nV b := by
        cases e : ns[i]? with
        | none => rw [e] at h; cases h
        | some o => rw [e] at h; exact ⟨o, rfl, (Option.some.inj h).symm⟩
      refine .inr ⟨b, rfl, v.2.2.2 b (List.mem_of_getElem? hb), ?_⟩
      show (ns.map figS)[i]? = _
      rw [List.getElem?_map, hb]
      rfl
theorem strs_all {p : Prt} (v : ValidP p) : (strsOf p).length ≤ 4 ∧ (∀ x ∈ strsOf p, x.length ≤ 60) ∧ (partV p).length = (strsOf p).length := by
  cases p with
  | odd z => exact ⟨by show 1 ≤ 4; decide, fun x hx => by rw [List.mem_singleton.mp hx]; exact Nat.le_trans v.2.1 (by decide), rfl⟩
  | deed u ns =>
    obtain ⟨hc, h32, h5, hn⟩ := v
    refine ⟨?_, fun x hx => ?_, ?_⟩
    · show (u :: ns.map figS).length ≤ 4
      rw [List.length_cons, List.length_map]
      rcases cnt_cases hc with ⟨_, e⟩ | ⟨_, e⟩ | ⟨_, e⟩ | ⟨_, e⟩ | ⟨_, e⟩ | ⟨_, e⟩ <;> omega
    · rcases List.mem_cons.mp hx with rfl | hx
      · omega
      · obtain ⟨n, hm, rfl⟩ := List.mem_map.mp hx
        exact fig_len (hn n hm)
    · show (V.str u :: ns.map nV).length = (u :: ns.map figS).length
      simp
theorem sum60 : ∀ xs : List Str, (∀ x ∈ xs, x.length ≤ 60) → (xs.map (·.length)).sum ≤ 60 * xs.length
  | [], _ => Nat.le_refl _
  | a :: r, h => by
    have h1 := h a List.mem_cons_self
    have h2 := sum60 r fun x hx => h x (List.mem_cons_of_mem _ hx)
    rw [List.map_cons, List.sum_cons, List.length_cons]
    omega
theorem line_len {p : Prt} (v : ValidP p) : (lineOf p).length ≤ 244 := by
  obtain ⟨a, b, _⟩ := strs_all v
  have := join_le (strsOf p) b
  rw [line_strs] at this
  omega
/-! ### lists of texts told equal -/
theorem dpAll_strs {K : PySem.W.Frag} {H : Hp} : ∀ l : List Str, DpAll K H (l.map V.str) (l.map PyData.str)
  | [] => .nil
  | x :: r => .cons (.str x) (dpAll_strs r)
theorem lay_strs : ∀ l : List Str, (∀ x ∈ l, PyData.strOk x = true) → PyData.canLayAll0 (l.map PyData.str) = true
  | [], _ => by simp [PyData.canLayAll0]
  | x :: r, h => by simp [PyData.canLayAll0, PyData.canLay0, lay_strs r fun x hx => h x (List.mem_cons_of_mem _ hx), h x List.mem_cons_self]
theorem depth_strs : ∀ l : List Str, PyData.depthAll (l.map PyData.str) = 0
  | [] => by simp [PyData.depthAll]
  | x :: r => by simp [PyData.depthAll, PyData.depth, depth_strs r]
theorem shaped_strs {l : List Str} (h : ∀ x ∈ l, PyData.strOk x = true) : SeqAt.shaped (.list (l.map PyData.str)) = true := by
  unfold SeqAt.shaped
  rw [PyData.canLay0, PyData.depth, lay_strs l h, depth_strs]
  rfl
theorem eqv_strs (l : List Str) : PyData.eqv (.list (l.map PyData.str)) (.list (l.map PyData.str)) = true := by
  have key : ∀ l : List Str, PyData.eqvAll (l.map PyData.str) (l.map PyData.str) = true := by
    intro l
    induction l with
    | nil => simp [PyData.eqvAll]
    | cons x r ih => simp [PyData.eqvAll, PyData.eqv, ih]
  rw [PyData.eqv]
  exact key l
structure PrtsAt (H : Hp) (qs : List Addr) (ps : List Prt) : Prop where
  len : qs.length = ps.length
  at_ : ∀ (i : Nat) (p : Prt), ps[i]? = some p → ∃ q, qs[i]? = some q ∧ H q = some (.lst (partV p))
theorem PrtsAt.keep {H H' : Hp} {qs : List Addr} {ps : List Prt} (h : PrtsAt H qs ps) (s : ∀ b o, H b = some o → H' b = some o) : PrtsAt H' qs ps :=
  ⟨h.len, fun i p e => by
    obtain ⟨q, e1, e2⟩ := h.at_ i p e
    exact ⟨q, e1, s q _ e2⟩⟩
theorem PrtsAt.push {H : Hp} {qs : List Addr} {ps : List Prt} {q : Addr} {p : Prt} (h : PrtsAt H qs ps) (e : H q = some (.lst (partV p))) : PrtsAt H (qs ++ [q]) (ps ++ [p]) := by
  refine ⟨by rw [List.length_append, List.length_append, h.len]; rfl, fun i r er => ?_⟩
  by_cases hi : i < ps.length
  · rw [List.getElem?_append_left hi] at er
    obtain ⟨x, e1, e2⟩ := h.at_ i r er
    exact ⟨x, by rw [List.getElem?_append_left (by rw [h.len]; exact hi)]; exact e1, e2⟩
  · have hi2 : i = ps.length := by
      have := (List.getElem?_eq_some_iff.mp er).1
      rw [List.length_append, List.length_singleton] at this
      omega
    subst hi2
    rw [List.getElem?_append_right (Nat.le_refl _), Nat.sub_self] at er
    have er' : p = r := Option.some.inj er
    subst er'
    refine ⟨q, ?_, e⟩
    rw [← h.len, List.getElem?_append_right (Nat.le_refl _), Nat.sub_self]
    rfl
theorem PrtsAt.nth {H : Hp} {qs : List Addr} {ps : List Prt} (h : PrtsAt H qs ps) {i : Nat} {x : V} (e : (qs.map V.ref)[i]? = some x) : ∃ q p, x = V.ref q ∧ qs[i]? = some q ∧ ps[i]? = some p ∧ H q = some (.lst (partV p)) := by
  rw [List.getElem?_map] at e
  obtain ⟨q, hq, rfl⟩ : ∃ q, qs[i]? = some q ∧ x = V.ref q := by
    cases c : qs[i]? with
    | none => rw [c] at e; cases e
    | some o => rw [c] at e; exact ⟨o, rfl, (Option.some.inj e).symm⟩
  have hi := (List.getElem?_eq_some_iff.mp hq).1
  rw [h.len] at hi
  obtain ⟨q', a, b⟩ := h.at_ i _ (List.getElem?_eq_getElem hi)
  rw [hq] at a
  cases a
  exact ⟨q, _, rfl, hq, List.getElem?_eq_getElem hi, b⟩
section
variable {P : Program} {w : World} {K : PySem.W.Frag} {mg : Str → Option Value} {base : Heap} {C : Addr} {EC : ECs}
theorem ok_law {f fm fp fpl fa : Addr} {fd fdm fdp fdpl fda : FuncData} (F : Fun K "law" "law" sLaw f fd) (D__law_mixed_at : Df P w K mg base CX0 2 "_law_mixed_at" fm fdm ["_law_script", "_law_k"] (spMixedAt K)) (D__law_parts : Df P w K mg base CX0 1 "_law_parts" fp fdp ["_law_cell", "_law_many"] spParts)
    (D_played : Df P w K mg base CX0 8 "played" fpl fdpl ["hands", "room", "lines"] spPlayed12) (D__law_answer : Df P w K mg base CX0 3 "_law_answer" fa fda (["_law_state", "_law_parts_here", "_law_many", "_law_room"]) spAnswerL)
    (m_range : mg "range" = none) (m_min : mg "min" = none) (m_len : mg "len" = none) (m_str : mg "str" = none) (m_list : mg "list" = none) (m_isinstance : mg "isinstance" = none) : FnOk P w K mg base CX0 9 f fd ["_law_script"] (spLaw K) := by
  refine F.ok scLaw (fun vs H Q E h => ?_) (fun cdv A outer s H vs Q E hr h => ?_)
  · obtain ⟨a, ns, rfl, _⟩ := h
    rfl
  · obtain ⟨l, ns, rfl, hS, n63, k⟩ := h
    refine ⟨_, (pss_cons (ps_set (i := 1) scLaw.nd rfl (.inr rfl) (pe_op op_add pe_int (pe_op op_mod (pe_call D__law_mixed_at.g (hr.mono (by decide)) (by rfl) D__law_mixed_at.m D__law_mixed_at.k D__law_mixed_at.b .nil pass0 (pa_cons (pv 0) (pa_cons pe_int pa_nil))) pe_int)))
      (pss_cons (ps_set (i := 2) scLaw.nd rfl (.inl rfl) (pe_op op_add pe_int (pe_op op_mod (pe_call D__law_mixed_at.g (hr.mono (by decide)) (by rfl) D__law_mixed_at.m D__law_mixed_at.k D__law_mixed_at.b .nil pass0 (pa_cons (pv 0) (pa_cons pe_int pa_nil))) pe_int)))
      (C8.pss_cut (ps_if (pt_cmpR op_eq (pe_op op_mod (pe_op op_fdiv (pe_call D__law_mixed_at.g (hr.mono (by decide)) (by rfl) D__law_mixed_at.m D__law_mixed_at.k D__law_mixed_at.b .nil pass0 (pa_cons (pv 0) (pa_cons pe_int pa_nil))) pe_int) pe_int) pe_int (nomark _)) (pss_one (ps_set (i := 2) scLaw.nd rfl (.inl rfl) pe_int)) pss_nil)
      (pss_cons (ps_setLc (i := 3) (own := [("_law_k", 8)]) (g := gName 8) (tt := tYes) rfl scLaw.nd rfl rfl (sw_true rfl rfl rfl (by decide +kernel)) (pi_range2 (by rfl) m_range (pa_cons pe_int (pa_cons (pe_callB (call_min2 rfl) (by rfl) m_min (by decide +kernel) (pa_cons pe_int (pa_cons (pe_callB (lenS (K := K)) (by rfl) m_len (by decide +kernel) (pa_cons (pv 0) pa_nil)) pa_nil))) pa_nil))) (blkOk_by (N := ["_law_script", "_law_many", "_law_room", "_law_rows", "_law_lines", "_law_handed", "_law_state", "_law_found", "_law_k", "_law_parts_here", "_law_part"]) (sc := defScope sLaw) (by decide +kernel)) (fun _ _ _ _ _ => (pg_name (i := 8) scLaw.nd rfl (.inl rfl))) (fun _ _ _ _ _ => pts_nil) (fun _ _ _ _ _ => (pe_call D__law_parts.g (hr.mono (by decide)) (by rfl) D__law_parts.m D__law_parts.k D__law_parts.b .nil pass0 (pa_cons (pe_call D__law_mixed_at.g (hr.mono (by decide)) (by rfl) D__law_mixed_at.m D__law_mixed_at.k D__law_mixed_at.b .nil pass0 (pa_cons (pv 0) (pa_cons (pv 8) pa_nil))) (pa_cons (pv 1) pa_nil)))))
      (pss_cons (ps_setLc (i := 4) (own := [("_law_parts_here", 9)]) (g := gName 9) (tt := tYes) rfl scLaw.nd rfl rfl (sw_true rfl rfl rfl (by decide +kernel)) (pi_list (pv 3)) (blkOk_by (N := ["_law_script", "_law_many", "_law_room", "_law_rows", "_law_lines", "_law_handed", "_law_state", "_law_found", "_law_k", "_law_parts_here", "_law_part"]) (sc := defScope sLaw) (by decide +kernel)) (fun _ _ _ _ _ => (pg_name (i := 9) scLaw.nd rfl (.inl rfl))) (fun _ _ _ _ _ => pts_nil) (fun _ _ _ _ _ => (pe_joinK (K := K) pe_str (pe_lc (own := [("_law_part", 10)]) (g := gName 10) (tt := tYes) rfl scLaw.nd (pi_listK (K := K) (pv 9)) (blkOk_nest (N := ["_law_script", "_law_many", "_law_room", "_law_rows", "_law_lines", "_law_handed", "_law_state", "_law_found", "_law_k", "_law_parts_here", "_law_part"]) (osc := defScope sLaw) rfl (by decide +kernel)) (fun _ _ _ _ _ => (pg_name (i := 10) scLaw.nd rfl (.inl rfl))) (fun _ _ _ _ _ => pts_nil) (fun _ _ _ _ _ => (pe_callTy (SkE.call_str_str.or call_str_int) (by rfl) m_str (by decide +kernel) (pa_cons (pv 10) pa_nil)))))))
      (pss_cons (ps_set (i := 5) scLaw.nd rfl (.inl rfl) (pe_callTy (listOf (K := K)) (by rfl) m_list (by decide +kernel) (pa_cons (pv 4) pa_nil)))
      (pss_cons (ps_set (i := 6) scLaw.nd rfl (.inl rfl) (pe_lst (pa_cons (pe_lc (own := [("_law_k", 8)]) (g := gName 8) (tt := tYes) rfl scLaw.nd (pi_range1 (by rfl) m_range (pa_cons (pv 1) pa_nil)) (blkOk_by (N := ["_law_script", "_law_many", "_law_room", "_law_rows", "_law_lines", "_law_handed", "_law_state", "_law_found", "_law_k", "_law_parts_here", "_law_part"]) (sc := defScope sLaw) (by decide +kernel)) (fun _ _ _ _ _ => (pg_name (i := 8) scLaw.nd rfl (.inl rfl))) (fun _ _ _ _ _ => pts_nil) (fun _ _ _ _ _ => pe_non)) (pa_cons (pe_lst pa_nil) (pa_cons (pe_lst pa_nil) (pa_cons (pe_lst pa_nil) pa_nil))))))
      (pss_cons (ps_set (i := 7) scLaw.nd rfl (.inl rfl) (pe_call D_played.g (hr.mono (by decide)) (by rfl) D_played.m D_played.k D_played.b .nil pass0 (pa_cons (pv 1) (pa_cons (pv 2) (pa_cons (pv 5) pa_nil)))))
      (pss_cons (ps_if (PW.pt (pw_or (pt_not (pt_val (pe_callB (isiK (K := K)) (by rfl) m_isinstance (by decide +kernel) (pa_cons (pv 7) (pa_cons (pe_bltn (v := .ty "list") (by rfl) m_list (by decide +kernel) rfl) pa_nil))))) (pw_or (pt_cmpR op_ne (pe_callB (lenS (K := K)) (by rfl) m_len (by decide +kernel) (pa_cons (pv 7) pa_nil)) (pe_callB (lenS (K := K)) (by rfl) m_len (by decide +kernel) (pa_cons (pv 3) pa_nil)) (nomark _)) (pw_or1 (pt_cmpR (neDK (K := K) hr.units) (pv 5) (pv 4) (nomark _)))))) (pss_one (ps_ret pe_bl)) pss_nil)
      (pss_cons (ps_for PassesOwn.never rfl (pi_range1 (by rfl) m_range (pa_cons (pe_callB (lenS (K := K)) (by rfl) m_len (by decide +kernel) (pa_cons (pv 3) pa_nil)) pa_nil)) (pg_name (i := 8) scLaw.nd rfl (.inl rfl)) (pss_one (ps_if (PW.pt (pw_or (pt_not (pt_val (pe_callB (isiK (K := K)) (by rfl) m_isinstance (by decide +kernel) (pa_cons (pe_ix (ixL (K := K)) (pv 7) (pv 8) (fun _ _ => rfl)) (pa_cons (pe_bltn (v := .ty "str") (by rfl) m_str (by decide +kernel) rfl) pa_nil))))) (pw_or1 (pt_cmpR op_ne (pe_ix (ixL (K := K)) (pv 7) (pv 8) (fun _ _ => rfl)) (pe_call D__law_answer.g (hr.mono (by decide)) (by rfl) D__law_answer.m D__law_answer.k D__law_answer.b .nil pass0 (pa_cons (pv 6) (pa_cons (pe_ix (ixL (K := K)) (pv 3) (pv 8) (fun _ _ => rfl)) (pa_cons (pv 1) (pa_cons (pv 2) pa_nil))))) (nomark _))))) (pss_one (ps_ret pe_bl)) pss_nil)))
      (pss_one (ps_ret pe_bl)))))))))))), ?_⟩
    -- many, room
    refine ⟨_, rfl, l, ns, 0, rfl, hS, _, _, rfl, rfl, (by show (0 : Int) < 8; decide), _, _, rfl, rfl, ?_⟩
    obtain ⟨M, hM, m1, m8⟩ : ∃ M : Nat, 1 + (mixN ns 0 : Int) % 8 = (M : Int) ∧ 1 ≤ M ∧ M ≤ 8 := ⟨(1 + (mixN ns 0 : Int) % 8).toNat, by omega, by omega, by omega⟩
    dsimp only
    rw [hM]
    refine ⟨_, rfl, l, ns, 1, rfl, hS, _, _, rfl, rfl, (by show (0 : Int) < 12; decide), _, _, rfl, rfl, ?_⟩
    obtain ⟨R0, hR0, r01, r02⟩ : ∃ R : Nat, 1 + (mixN ns 1 : Int) % 12 = (R : Int) ∧ 1 ≤ R ∧ R ≤ 1000 := ⟨(1 + (mixN ns 1 : Int) % 12).toNat, by omega, by omega, by omega⟩
    dsimp only
    rw [hR0]
    refine ⟨fun σ' H' => ∃ R : Nat, σ' = [some (.ref l), some (.int (M : Int)), some (.int (R : Int)), none, none, none, none, none, none, none, none] ∧ H' = H ∧ 1 ≤ R ∧ R ≤ 1000, ?_, ?_⟩
    · refine ⟨_, rfl, l, ns, 1, rfl, hS, _, _, rfl, rfl, ⟨by decide, by decide⟩, _, _, rfl, rfl, (by show (0 : Int) < 3; decide), rfl, _, rfl, ite2 (fun _ => ?_) (fun _ => ?_)⟩
      · exact ⟨900, rfl, rfl, by decide, by decide⟩
      · exact ⟨R0, rfl, rfl, r01, r02⟩
    rintro σ' H' ⟨R, rfl, rfl, r1, r2⟩
    -- the lines' parts
    refine ⟨_, rfl, l, _, rfl, .inl hS, _, _, rfl, ?_⟩
    rw [List.length_map]
    obtain ⟨N, eN⟩ : ∃ N : Int, (if ((ns.length : Nat) : Int) < 62 then ((ns.length : Nat) : Int) else 62) = N := ⟨_, rfl⟩
    have N62 : N ≤ 62 := by rw [← eN]; split <;> omega
    have N0 : 0 ≤ N := by rw [← eN]; split <;> omega
    rw [eN]
    refine ⟨_, _, rfl, ⟨by decide, by decide, by omega, by omega⟩, fun D nD => ?_⟩
    refine lc_range (lo := 2) (n := (N - 2).toNat) (fun i Hx => Same H' Hx ∧ ∃ (qs : List Addr) (ps : List Prt), Hx D = some (.lst (qs.map V.ref)) ∧ PrtsAt Hx qs ps ∧ ps.length = i ∧ (∀ p ∈ ps, ValidP p) ∧ D ∉ qs) ⟨same_new nD, [], [], upd_same, ⟨rfl, fun i p e => nomatch e⟩, rfl, fun p hp => (nomatch hp), by simp⟩ ?_ ?_
    · rintro i Hx hi ⟨sx, qs, ps, hD, pa, pl, pv', nDq⟩
      refine ⟨rfl, _, rfl, _, rfl, l, ns, 2 + i, congrArg (fun z => [V.ref l, V.int z]) (by omega), sx.seq hS, _, rfl, mixN ns (2 + i), M, rfl, m1, m8, fun Hy q prt sy nq hq vp => ?_⟩
      have nqD : q ≠ D := fun e => by rw [e, hD] at nq; cases nq
      have kpD : ∀ b o, Hx b = some o → b ≠ D → ∀ w, (upd Hy D w) b = some o := fun b o e n w => (upd_ne n).trans (sy _ _ e)
      refine ⟨_, sy _ _ hD, size_of (by rw [List.length_map, pa.len]; omega), same_put (sx.trans sy) nD, qs ++ [q], ps ++ [prt], ?_, ?_, by rw [List.length_append, pl]; rfl, fun p hp => ?_, fun hm => ?_⟩
      · rw [upd_same, List.map_append]
        rfl
      · refine PrtsAt.push ⟨pa.len, fun j p e => ?_⟩ ((upd_ne nqD).trans hq)
        obtain ⟨q', e1, e2⟩ := pa.at_ j p e
        exact ⟨q', e1, kpD _ _ e2 (fun z => nDq (by rw [← z]; exact List.mem_of_getElem? e1)) _⟩
      · rcases List.mem_append.mp hp with hp | hp
        · exact pv' p hp
        · rw [List.mem_singleton.mp hp]; exact vp
      · rcases List.mem_append.mp hm with hm | hm
        · exact nDq hm
        · exact nqD (List.mem_singleton.mp hm).symm
    rintro H1 ⟨s1, qs, ps, hD, pa, pl, vps, nDq⟩
    have p60 : ps.length ≤ 60 := by omega
    -- the lines
    refine ⟨_, rfl, D, rfl, ⟨_, SqL.of hD⟩, fun L nL => ?_⟩
    refine lc_list (K := K) (a := D) (xs := qs.map V.ref) (fun i Hx => Same H1 Hx ∧ Hx L = some (.lst (((ps.take i).map lineOf).map V.str))) ⟨same_new nL, upd_same⟩ (fun i Hx _ ⟨s, _⟩ => SqL.of (s _ _ hD)) ?_ ?_
    · rintro i x Hx hx ⟨sx, hL⟩
      obtain ⟨q, p, rfl, hq, hp, hrow⟩ := (pa.keep sx).nth hx
      have hi := (List.getElem?_eq_some_iff.mp hp).1
      have vp := vps p (List.mem_of_getElem? hp)
      obtain ⟨l4, a60, le⟩ := strs_all vp
      refine ⟨rfl, ⟨_, rfl⟩, _, rfl, q, rfl, ⟨_, SqL.of hrow⟩, fun d nd => ?_⟩
      refine lc_list (K := K) (a := q) (xs := partV p) (fun j Hy => Same Hx Hy ∧ Hy d = some (.lst (((strsOf p).take j).map V.str))) ⟨same_new nd, upd_same⟩ (fun j Hy _ ⟨s, _⟩ => SqL.of (s _ _ hrow)) ?_ ?_
      · rintro j y Hy hy ⟨sy, hd⟩
        have len : (((strsOf p).take j).map V.str).length < sizeLine := by
          rw [List.length_map, List.length_take]
          exact size_of (by omega)
        have put : ∀ c, (strsOf p)[j]? = some c → (upd Hy d (.lst (((strsOf p).take j).map V.str ++ [V.str c]))) d = some (.lst (((strsOf p).take (j + 1)).map V.str)) := fun c hc => by
          rw [upd_same, List.take_add_one, hc, List.map_append]
          rfl
        rcases part_at vp hy with ⟨c, rfl, hc⟩ | ⟨n, rfl, n60, hc⟩
        · exact ⟨rfl, _, rfl, .inl ⟨c, rfl, _, hd, len, same_put sy nd, put c hc⟩⟩
        · refine ⟨rfl, _, rfl, .inr ⟨_, rfl, log_ok n60, _, hd, len, same_put sy nd, ?_⟩⟩
          rw [fig_str]
          exact put _ hc
      · rintro Hy ⟨sy, hd⟩
        rw [le, List.take_length] at hd
        have b1 : (" " : Str).length = 1 := by decide +kernel
        have sm := sum60 _ a60
        refine ⟨_, d, strsOf p, rfl, rfl, .inl (SqL.of hd), by rw [b1]; omega, _, sy _ _ hL, size_of (by rw [List.length_map, List.length_map, List.length_take]; omega), same_put (sx.trans sy) nL, ?_⟩
        rw [upd_same, List.take_add_one, hp, List.map_append, List.map_append, blank_eq, line_strs]
        rfl
    rintro H2 ⟨s2, hL⟩
    rw [List.length_map, pa.len, List.take_length] at hL
    have hD2 := s2 _ _ hD
    have pa2 := pa.keep s2
    have s02 := s1.trans s2
    obtain ⟨zs, ez⟩ : ∃ zs, ps.map lineOf = zs := ⟨_, rfl⟩
    rw [ez] at hL
    have zl : zs.length = ps.length := by rw [← ez, List.length_map]
    have zat : ∀ i p, ps[i]? = some p → zs.getD i "" = lineOf p := fun i p e => by rw [← ez, List.getD_eq_getElem?_getD, List.getElem?_map, e]; rfl
    have z244 : ∀ z ∈ zs, z.length ≤ 10000 := fun z hz => by
      rw [← ez] at hz
      obtain ⟨p, hp, rfl⟩ := List.mem_map.mp hz
      exact Nat.le_trans (line_len (vps p hp)) (by decide)
    have zok : ∀ z ∈ zs, PyData.strOk z = true := fun z hz => by
      rw [← ez] at hz
      obtain ⟨p, hp, rfl⟩ := List.mem_map.mp hz
      exact line_ok (vps p hp)
    -- handed, the state
    refine ⟨_, rfl, L, _, rfl, .inl (SqL.of hL), fun lq nlq => ?_⟩
    have s3 : Same H2 (upd H2 lq (.lst (zs.map V.str))) := same_new nlq
    have hlq : (upd H2 lq (.lst (zs.map V.str))) lq = some (.lst (zs.map V.str)) := upd_same
    have hL3 := s3 _ _ hL
    have hD3 := s3 _ _ hD2
    have pa3 := pa2.keep s3
    generalize upd H2 lq (.lst (zs.map V.str)) = H3 at s3 hlq hL3 hD3 pa3
    refine ⟨_, rfl, (M : Int), rfl, by omega, by omega, fun hl nhl => ?_⟩
    rw [Int.toNat_natCast]
    refine lc_range (lo := 0) (n := M) (fun i Hx => Same H3 Hx ∧ Hx hl = some (.lst ((List.replicate i (none : Option Nat)).map optV))) ⟨same_new nhl, upd_same⟩ ?_ ?_
    · rintro i Hx hi ⟨sx, hA⟩
      refine ⟨rfl, _, hA, size_of (by rw [List.length_map, List.length_replicate]; omega), same_put sx nhl, ?_⟩
      rw [upd_same, List.replicate_succ', List.map_append]
      rfl
    rintro H4 ⟨s4, hhl⟩
    have h4 : ∀ b o, H3 b = some o → H4 b = some o := s4
    refine ⟨Nat.zero_le _, fun rl nrl => ⟨Nat.zero_le _, fun T nT => ⟨Nat.zero_le _, fun pq npq => ⟨(by show 4 ≤ sizeLine; decide), fun st nst => ?_⟩⟩⟩⟩
    obtain ⟨H5, e5⟩ : ∃ H5, upd (upd (upd (upd H4 rl (.lst [])) T (.lst [])) pq (.lst [])) st (.lst [V.ref hl, V.ref rl, V.ref T, V.ref pq]) = H5 := ⟨_, rfl⟩
    have s45 : Same H4 H5 := by
      rw [← e5]
      exact ((same_new nrl).trans (same_new nT)).trans ((same_new npq).trans (same_new nst))
    have n_hr : hl ≠ rl := ne_of_none hhl nrl
    have n_hT : hl ≠ T := ne_of_none (same_new nrl _ _ hhl) nT
    have n_rT : rl ≠ T := ne_of_none upd_same nT
    have n_hp : hl ≠ pq := ne_of_none (same_new nT _ _ (same_new nrl _ _ hhl)) npq
    have n_rp : rl ≠ pq := ne_of_none (same_new nT _ _ upd_same) npq
    have n_Tp : T ≠ pq := ne_of_none upd_same npq
    have n_hs : hl ≠ st := ne_of_none (same_new npq _ _ (same_new nT _ _ (same_new nrl _ _ hhl))) nst
    have n_rs : rl ≠ st := ne_of_none (same_new npq _ _ (same_new nT _ _ upd_same)) nst
    have n_Ts : T ≠ st := ne_of_none (same_new npq _ _ upd_same) nst
    have n_ps : pq ≠ st := ne_of_none upd_same nst
    have L0 : L12 H5 st hl rl T pq [] (HS.new M R) := by
      have a1 : H5 st = some (.lst [V.ref hl, V.ref rl, V.ref T, V.ref pq]) := by rw [← e5]; exact upd_same
      have a2 : H5 pq = some (.lst []) := by rw [← e5, upd_ne n_ps]; exact upd_same
      have a3 : H5 T = some (.lst []) := by rw [← e5, upd_ne n_Ts, upd_ne n_Tp]; exact upd_same
      have a4 : H5 rl = some (.lst []) := by rw [← e5, upd_ne n_rs, upd_ne n_rp, upd_ne n_rT]; exact upd_same
      exact ⟨a1, ⟨s45 _ _ hhl, a4, RowsAt.nil, n_hr, by simp, by simp, List.nodup_nil⟩, a3, ⟨[], a2, .nil⟩, (fun b z y => by
        rcases y with y | y | y
        · rcases z with z | z | z
          · exact n_hs (y.symm.trans z)
          · exact n_hp (y.symm.trans z)
          · exact n_hT (y.symm.trans z)
        · rcases z with z | z | z
          · exact n_rs (y.symm.trans z)
          · exact n_rp (y.symm.trans z)
          · exact n_rT (y.symm.trans z)
        · exact (nomatch y)), n_ps.symm, n_Ts.symm, n_Tp.symm⟩
    have new3 : ∀ b, Foot st hl rl T pq [] b → H3 b = none := fun b z => by
      have nn : ∀ {b : Addr} {Hq : Hp}, Hq b = none → Same H3 Hq → H3 b = none := fun n s => s.free n
      have q1 : Same H3 (upd H4 rl (.lst [])) := s4.trans (same_new nrl)
      have q2 := q1.trans (same_new (o := .lst []) nT)
      have q3 := q2.trans (same_new (o := .lst []) npq)
      rcases z with (z | z | z) | z | z | z
      · rw [z]; exact nhl
      · rw [z]; exact nn nrl s4
      · exact nomatch z
      · rw [z]; exact nn nst q3
      · rw [z]; exact nn npq q2
      · rw [z]; exact nn nT q1
    rw [e5]
    have s35 := s4.trans s45
    clear e5
    refine ⟨_, rfl, _, rfl, _, rfl, lq, M, R, zs, rfl, s35 _ _ hlq, m1, m8, r1, r2, by omega, z244, fun H6 fd s6 nfd hfd => ?_⟩
    have s36 := s35.trans s6
    have hD6 := s36 _ _ hD3
    have hL6 := s36 _ _ hL3
    have hlq6 := s36 _ _ hlq
    have pa6 := pa3.keep s36
    have L6 := L0.keep s6
    have lD : (qs.map V.ref).length = ps.length := by rw [List.length_map, pa.len]
    have lF : (((List.range zs.length).map (ansAt (HS.new M R) zs)).map V.str).length = ps.length := by rw [List.length_map, List.length_map, List.length_range, zl]
    refine ⟨_, rfl, .ref fd, .ty "list", _, _, true, rfl, .ty _, .base (.lst hfd), kit_ty (by decide +kernel), true, rfl, iteF ?_⟩
    refine ⟨_, rfl, fd, _, rfl, .inl (SqL.of hfd), _, rfl, D, _, rfl, .inl (SqL.of hD6), rfl, _, rfl, ?_⟩
    rw [lD, lF, decide_eq_true rfl]
    refine iteF ⟨_, rfl, _, rfl, _, _, .lst (SqL.of hlq6) (dpAll_strs zs), .lst (SqL.of hL6) (dpAll_strs zs), shaped_strs zok, shaped_strs zok, _, rfl, ?_⟩
    rw [eqv_strs]
    refine iteF ⟨_, rfl, D, _, rfl, .inl (SqL.of hD6), (ps.length : Int), by rw [lD], by omega, by omega, ?_⟩
    rw [Int.toNat_natCast]
    have S0 : HS := HS.new M R
    refine for_range (lo := 0) (n := ps.length) (fun i σ Hx => ∃ y8 pq' qs', σ = [some (.ref l), some (.int (M : Int)), some (.int (R : Int)), some (.ref D), some (.ref L), some (.ref lq), some (.ref st), some (.ref fd), y8, none, none] ∧ L12 Hx st hl rl T pq' qs' (stAt (HS.new M R) zs i) ∧ Frm H6 (Foot st hl rl T pq []) Hx (Foot st hl rl T pq' qs'))
      ⟨none, pq, [], rfl, L6, Frm.refl _ _⟩ ?_ ?_
    · rintro i σ Hx hi ⟨y8, pq', qs', rfl, Lx, fr⟩
      have out6 : ∀ b o, H3 b = some o → Hx b = some o ∧ ¬ Foot st hl rl T pq' qs' b := fun b o e => fr b o (s36 _ _ e) fun z => by rw [new3 b z] at e; cases e
      have fdo : Hx fd = some (.lst (((List.range zs.length).map (ansAt (HS.new M R) zs)).map V.str)) := (fr fd _ hfd fun z => by
        obtain ⟨o, e⟩ := L0.tracked z
        rw [e] at nfd; cases nfd).1
      have hDx := (out6 _ _ hD3).1
      obtain ⟨q, hqi, hrow⟩ := pa3.at_ i _ (List.getElem?_eq_getElem hi)
      have hrx := out6 _ _ hrow
      have hp : ps[i]? = some ps[i] := List.getElem?_eq_getElem hi
      have vp := vps _ (List.getElem_mem hi)
      have gz := zat i _ hp
      generalize ps[i] = p at hrow hrx hp vp gz
      have hq' : (qs.map V.ref)[i]? = some (V.ref q) := by rw [List.getElem?_map, hqi]; rfl
      have ha : atI (((List.range zs.length).map (ansAt (HS.new M R) zs)).map V.str) (0 + (i : Int)) = some (V.str (ansAt (HS.new M R) zs i)) := by
        rw [Int.zero_add]
        refine atI_nat ?_
        rw [List.getElem?_map, List.getElem?_map, List.getElem?_range (by omega)]
        rfl
      have hd : atI (qs.map V.ref) (0 + (i : Int)) = some (V.ref q) := by
        rw [Int.zero_add]
        exact atI_nat hq'
      obtain ⟨f1, f2, f3⟩ := st_fields (HS.new M R) zs i
      have f2 : (stAt (HS.new M R) zs i).hands.length = M := f2.trans List.length_replicate
      have f3 : (stAt (HS.new M R) zs i).room = R := f3
      have Gi : Good (stAt (HS.new M R) zs i) := st_good (Good.new ⟨m1, m8⟩ ⟨r1, r2⟩) zs i
      have f0 : (HS.new M R).rows.length = 0 := rfl
      have es : stAt (HS.new M R) zs (i + 1) = (stepZ (stAt (HS.new M R) zs i) (lineOf p)).2 := by rw [← gz]; rfl
      have ea : ansAt (HS.new M R) zs i = (stepZ (stAt (HS.new M R) zs i) (lineOf p)).1 := by rw [← gz]; rfl
      refine ⟨_, rfl, _, rfl, fd, _, _, _, rfl, rfl, SqL.of fdo, ha, .str _, .ty "str", _, _, true, rfl, .ty _, .base (.str _), kit_ty (by decide +kernel), true, rfl, iteF ?_⟩
      refine ⟨_, rfl, _, rfl, fd, _, _, _, rfl, rfl, SqL.of fdo, ha, _, rfl, _, rfl, _, rfl, D, _, _, V.ref q, rfl, rfl, SqL.of hDx, hd, _, rfl, _, rfl, st, q, hl, rl, T, pq', qs', stAt (HS.new M R) zs i, p, ?_, hrx.1, hrx.2, vp, Lx, Gi, by omega, fun Hy pq2 qs2 Ly fy => ?_⟩
      · rw [f2, f3]
        rfl
      · refine ⟨rfl, _, rfl, ?_⟩
        rw [show decide (V.str (ansAt (HS.new M R) zs i) = V.str (OutR (outZ (stAt (HS.new M R) zs i) (lineOf p)) (stAt (HS.new M R) zs i)).1) = true from decide_eq_true (congrArg V.str ea)]
        refine iteF ⟨_, pq2, qs2, rfl, ?_, fun b o e n => ?_⟩
        · rw [es]
          exact Ly
        · obtain ⟨a, c⟩ := fr b o e n
          exact fy b o a c
    · rintro σ Hx ⟨y8, pq', qs', rfl, Lx, fr⟩
      exact k Hx
end
end MK

set_option Elab.async false
set_option linter.all false
set_option pp.maxSteps 700
set_option maxRecDepth 100000
set_option maxHeartbeats 4000000
namespace MK
open PySem PySem.Spec PyProof.Rows L2 MM KG MP
/-! ### what the top has written; the head -/
theorem all_mk {l : PySem.W.OpenLaw} {w : World} {K : PySem.W.Frag} {h : Heap} {mg : Str → Option Value} {fa : Addr} (X : K.In h) (G : h.Ns mainGlobals mg) (hfa : mg "law" = some (.ref fa))
    {C_HeapError C_NoHand C_NoSlot C_NoRoom C_NothingHeld C_NoWork C_NoHeap C_NoDeed C_Heap : Addr} {f_Heap___init__ f_Heap_make f_Heap_take f_Heap_put f_Heap_share f_Heap_drop f_Heap_held f_Heap_boxes f_Heap_work f_Heap_phase f_Heap__do_piece f_Heap__begin_round f_Heap__mark_on f_Heap__sweep_on f_Heap__end_round f_Heap__mark f_Heap__need_hand f_Heap__row_with f_read f_is_number f_make f_take f_put f_share f_drop f_work f_holds f_done f_answered f_played f__law_cell_at f__law_mixed_at f__law_came f__law_parts f__law_pieces f__law_held f__law_slotted f__law_made f__law_hands f__law_answer f_law : Addr} {od_Heap___init__ an_Heap___init__ od_Heap_make an_Heap_make od_Heap_take an_Heap_take od_Heap_put an_Heap_put od_Heap_share an_Heap_share od_Heap_drop an_Heap_drop od_Heap_held an_Heap_held od_Heap_boxes an_Heap_boxes od_Heap_work an_Heap_work od_Heap_phase an_Heap_phase od_Heap__do_piece an_Heap__do_piece od_Heap__begin_round an_Heap__begin_round od_Heap__mark_on an_Heap__mark_on od_Heap__sweep_on an_Heap__sweep_on od_Heap__end_round an_Heap__end_round od_Heap__mark an_Heap__mark od_Heap__need_hand an_Heap__need_hand od_Heap__row_with an_Heap__row_with od_read an_read od_is_number an_is_number od_make an_make od_take an_take od_put an_put od_share an_share od_drop an_drop od_work an_work od_holds an_holds od_done an_done od_answered an_answered od_played an_played od__law_cell_at an__law_cell_at od__law_mixed_at an__law_mixed_at od__law_came an__law_came od__law_parts an__law_parts od__law_pieces an__law_pieces od__law_held an__law_held od__law_slotted an__law_slotted od__law_made an__law_made od__law_hands an__law_hands od__law_answer an__law_answer od_law an_law : Option Addr} {sl_Heap___init__ sl_Heap_make sl_Heap_take sl_Heap_put sl_Heap_share sl_Heap_drop sl_Heap_held sl_Heap_boxes sl_Heap_work sl_Heap_phase sl_Heap__do_piece sl_Heap__begin_round sl_Heap__mark_on sl_Heap__sweep_on sl_Heap__end_round sl_Heap__mark sl_Heap__need_hand sl_Heap__row_with sl_read sl_is_number sl_make sl_take sl_put sl_share sl_drop sl_work sl_holds sl_done sl_answered sl_played sl__law_cell_at sl__law_mixed_at sl__law_came sl__law_parts sl__law_pieces sl__law_held sl__law_slotted sl__law_made sl__law_hands sl__law_answer sl_law : Array (Option Value)} {oc_Heap___init__ kV_Heap___init__ dc_Heap___init__ pm_Heap___init__ cd_Heap___init__ ct_Heap___init__ oc_Heap_make kV_Heap_make dc_Heap_make pm_Heap_make cd_Heap_make ct_Heap_make oc_Heap_take kV_Heap_take dc_Heap_take pm_Heap_take cd_Heap_take ct_Heap_take oc_Heap_put kV_Heap_put dc_Heap_put pm_Heap_put cd_Heap_put ct_Heap_put oc_Heap_share kV_Heap_share dc_Heap_share pm_Heap_share cd_Heap_share ct_Heap_share oc_Heap_drop kV_Heap_drop dc_Heap_drop pm_Heap_drop cd_Heap_drop ct_Heap_drop oc_Heap_held kV_Heap_held dc_Heap_held pm_Heap_held cd_Heap_held ct_Heap_held oc_Heap_boxes kV_Heap_boxes dc_Heap_boxes pm_Heap_boxes cd_Heap_boxes ct_Heap_boxes oc_Heap_work kV_Heap_work dc_Heap_work pm_Heap_work cd_Heap_work ct_Heap_work oc_Heap_phase kV_Heap_phase dc_Heap_phase pm_Heap_phase cd_Heap_phase ct_Heap_phase oc_Heap__do_piece kV_Heap__do_piece dc_Heap__do_piece pm_Heap__do_piece cd_Heap__do_piece ct_Heap__do_piece oc_Heap__begin_round kV_Heap__begin_round dc_Heap__begin_round pm_Heap__begin_round cd_Heap__begin_round ct_Heap__begin_round oc_Heap__mark_on kV_Heap__mark_on dc_Heap__mark_on pm_Heap__mark_on cd_Heap__mark_on ct_Heap__mark_on oc_Heap__sweep_on kV_Heap__sweep_on dc_Heap__sweep_on pm_Heap__sweep_on cd_Heap__sweep_on ct_Heap__sweep_on oc_Heap__end_round kV_Heap__end_round dc_Heap__end_round pm_Heap__end_round cd_Heap__end_round ct_Heap__end_round oc_Heap__mark kV_Heap__mark dc_Heap__mark pm_Heap__mark cd_Heap__mark ct_Heap__mark oc_Heap__need_hand kV_Heap__need_hand dc_Heap__need_hand pm_Heap__need_hand cd_Heap__need_hand ct_Heap__need_hand oc_Heap__row_with kV_Heap__row_with dc_Heap__row_with pm_Heap__row_with cd_Heap__row_with ct_Heap__row_with oc_read kV_read dc_read pm_read cd_read ct_read oc_is_number kV_is_number dc_is_number pm_is_number cd_is_number ct_is_number oc_make kV_make dc_make pm_make cd_make ct_make oc_take kV_take dc_take pm_take cd_take ct_take oc_put kV_put dc_put pm_put cd_put ct_put oc_share kV_share dc_share pm_share cd_share ct_share oc_drop kV_drop dc_drop pm_drop cd_drop ct_drop oc_work kV_work dc_work pm_work cd_work ct_work oc_holds kV_holds dc_holds pm_holds cd_holds ct_holds oc_done kV_done dc_done pm_done cd_done ct_done oc_answered kV_answered dc_answered pm_answered cd_answered ct_answered oc_played kV_played dc_played pm_played cd_played ct_played oc__law_cell_at kV__law_cell_at dc__law_cell_at pm__law_cell_at cd__law_cell_at ct__law_cell_at oc__law_mixed_at kV__law_mixed_at dc__law_mixed_at pm__law_mixed_at cd__law_mixed_at ct__law_mixed_at oc__law_came kV__law_came dc__law_came pm__law_came cd__law_came ct__law_came oc__law_parts kV__law_parts dc__law_parts pm__law_parts cd__law_parts ct__law_parts oc__law_pieces kV__law_pieces dc__law_pieces pm__law_pieces cd__law_pieces ct__law_pieces oc__law_held kV__law_held dc__law_held pm__law_held cd__law_held ct__law_held oc__law_slotted kV__law_slotted dc__law_slotted pm__law_slotted cd__law_slotted ct__law_slotted oc__law_made kV__law_made dc__law_made pm__law_made cd__law_made ct__law_made oc__law_hands kV__law_hands dc__law_hands pm__law_hands cd__law_hands ct__law_hands oc__law_answer kV__law_answer dc__law_answer pm__law_answer cd__law_answer ct__law_answer oc_law kV_law dc_law pm_law cd_law ct_law : Value} {t0_COUNTS u0_COUNTS : Tok} {t1_COUNTS u1_COUNTS : Tok} {t2_COUNTS u2_COUNTS : Tok} {t3_COUNTS u3_COUNTS : Tok} {t4_COUNTS u4_COUNTS : Tok} {t5_COUNTS u5_COUNTS : Tok} {C_COUNTS : Addr} {es_COUNTS : Array DictEntry} {n_COUNTS : Nat} {t0_ACTIONS : Tok} {t1_ACTIONS : Tok} {t2_ACTIONS : Tok} {t3_ACTIONS : Tok} {t4_ACTIONS : Tok} {t5_ACTIONS : Tok} {C_ACTIONS : Addr} {es_ACTIONS : Array DictEntry} {n_ACTIONS : Nat} {tN_MOST_HANDS tN_MOST_ROOM tN_MOST_SLOTS tN_MOST_PIECES tN_MOST_FIGURES : Tok}
    (aC_HeapError : PySem.W.nsIn K mainGlobals "HeapError" = some (some (.ref C_HeapError)))
    (xC_HeapError : PySem.W.excIn K C_HeapError [.type "ValueError", .type "Exception", .type "BaseException", .type "object"] "ValueError.__new__" = true) (kC_HeapError : PySem.W.keepIn K (.ref C_HeapError) = true) (bC_HeapError : PySem.W.subIn K (.ref C_HeapError) (.type "BaseException") = some true) (tC_HeapError : PySem.W.typeIn K (.ref C_HeapError) = some (.type "type")) (iC_HeapError : PySem.W.isClsIn K C_HeapError = true)
    (aC_NoHand : PySem.W.nsIn K mainGlobals "NoHand" = some (some (.ref C_NoHand)))
    (xC_NoHand : PySem.W.excIn K C_NoHand [.type "ValueError", .type "Exception", .type "BaseException", .type "object"] "ValueError.__new__" = true) (kC_NoHand : PySem.W.keepIn K (.ref C_NoHand) = true) (bC_NoHand : PySem.W.subIn K (.ref C_NoHand) (.type "BaseException") = some true) (tC_NoHand : PySem.W.typeIn K (.ref C_NoHand) = some (.type "type")) (iC_NoHand : PySem.W.isClsIn K C_NoHand = true)
    (aC_NoSlot : PySem.W.nsIn K mainGlobals "NoSlot" = some (some (.ref C_NoSlot)))
    (xC_NoSlot : PySem.W.excIn K C_NoSlot [.type "ValueError", .type "Exception", .type "BaseException", .type "object"] "ValueError.__new__" = true) (kC_NoSlot : PySem.W.keepIn K (.ref C_NoSlot) = true) (bC_NoSlot : PySem.W.subIn K (.ref C_NoSlot) (.type "BaseException") = some true) (tC_NoSlot : PySem.W.typeIn K (.ref C_NoSlot) = some (.type "type")) (iC_NoSlot : PySem.W.isClsIn K C_NoSlot = true)
    (aC_NoRoom : PySem.W.nsIn K mainGlobals "NoRoom" = some (some (.ref C_NoRoom)))
    (xC_NoRoom : PySem.W.excIn K C_NoRoom [.type "ValueError", .type "Exception", .type "BaseException", .type "object"] "ValueError.__new__" = true) (kC_NoRoom : PySem.W.keepIn K (.ref C_NoRoom) = true) (bC_NoRoom : PySem.W.subIn K (.ref C_NoRoom) (.type "BaseException") = some true) (tC_NoRoom : PySem.W.typeIn K (.ref C_NoRoom) = some (.type "type")) (iC_NoRoom : PySem.W.isClsIn K C_NoRoom = true)
    (aC_NothingHeld : PySem.W.nsIn K mainGlobals "NothingHeld" = some (some (.ref C_NothingHeld)))
    (xC_NothingHeld : PySem.W.excIn K C_NothingHeld [.type "ValueError", .type "Exception", .type "BaseException", .type "object"] "ValueError.__new__" = true) (kC_NothingHeld : PySem.W.keepIn K (.ref C_NothingHeld) = true) (bC_NothingHeld : PySem.W.subIn K (.ref C_NothingHeld) (.type "BaseException") = some true) (tC_NothingHeld : PySem.W.typeIn K (.ref C_NothingHeld) = some (.type "type")) (iC_NothingHeld : PySem.W.isClsIn K C_NothingHeld = true)
    (aC_NoWork : PySem.W.nsIn K mainGlobals "NoWork" = some (some (.ref C_NoWork)))
    (xC_NoWork : PySem.W.excIn K C_NoWork [.type "ValueError", .type "Exception", .type "BaseException", .type "object"] "ValueError.__new__" = true) (kC_NoWork : PySem.W.keepIn K (.ref C_NoWork) = true) (bC_NoWork : PySem.W.subIn K (.ref C_NoWork) (.type "BaseException") = some true) (tC_NoWork : PySem.W.typeIn K (.ref C_NoWork) = some (.type "type")) (iC_NoWork : PySem.W.isClsIn K C_NoWork = true)
    (aC_NoHeap : PySem.W.nsIn K mainGlobals "NoHeap" = some (some (.ref C_NoHeap)))
    (xC_NoHeap : PySem.W.excIn K C_NoHeap [.type "ValueError", .type "Exception", .type "BaseException", .type "object"] "ValueError.__new__" = true) (kC_NoHeap : PySem.W.keepIn K (.ref C_NoHeap) = true) (bC_NoHeap : PySem.W.subIn K (.ref C_NoHeap) (.type "BaseException") = some true) (tC_NoHeap : PySem.W.typeIn K (.ref C_NoHeap) = some (.type "type")) (iC_NoHeap : PySem.W.isClsIn K C_NoHeap = true)
    (aC_NoDeed : PySem.W.nsIn K mainGlobals "NoDeed" = some (some (.ref C_NoDeed)))
    (xC_NoDeed : PySem.W.excIn K C_NoDeed [.type "ValueError", .type "Exception", .type "BaseException", .type "object"] "ValueError.__new__" = true) (kC_NoDeed : PySem.W.keepIn K (.ref C_NoDeed) = true) (bC_NoDeed : PySem.W.subIn K (.ref C_NoDeed) (.type "BaseException") = some true) (tC_NoDeed : PySem.W.typeIn K (.ref C_NoDeed) = some (.type "type")) (iC_NoDeed : PySem.W.isClsIn K C_NoDeed = true)
    (aC_Heap : PySem.W.nsIn K mainGlobals "Heap" = some (some (.ref C_Heap)))
    (pg_Heap : PySem.W.plainGet K C_Heap Str.empty = true) (hd_Heap : PySem.W.hasDictIn K C_Heap = true) (po_Heap : PySem.W.plainOver K C_Heap = true) (sa_Heap : PySem.W.findIn K (.ref C_Heap) "__setattr__" = some (some (.builtin "object.__setattr__"))) (mk_Heap : PySem.W.makesIn K C_Heap = true) (kc_Heap : PySem.W.keepIn K (.ref C_Heap) = true)
    (n_hands : PySem.W.findIn K (.ref C_Heap) "_hands" = some none)
    (n_room : PySem.W.findIn K (.ref C_Heap) "_room" = some none)
    (n_rows : PySem.W.findIn K (.ref C_Heap) "_rows" = some none)
    (n_made : PySem.W.findIn K (.ref C_Heap) "_made" = some none)
    (n_ended : PySem.W.findIn K (.ref C_Heap) "_ended" = some none)
    (n_old : PySem.W.findIn K (.ref C_Heap) "_old" = some none)
    (n_marks : PySem.W.findIn K (.ref C_Heap) "_marks" = some none)
    (n_line : PySem.W.findIn K (.ref C_Heap) "_line" = some none)
    (n_unswept : PySem.W.findIn K (.ref C_Heap) "_unswept" = some none)
    (sub_NoHand_NoHand : PySem.W.subIn K (.ref C_NoHand) (.ref C_NoHand) = some true)
    (sub_NoHand_NoSlot : PySem.W.subIn K (.ref C_NoHand) (.ref C_NoSlot) = some false)
    (sub_NoHand_NoRoom : PySem.W.subIn K (.ref C_NoHand) (.ref C_NoRoom) = some false)
    (sub_NoHand_NothingHeld : PySem.W.subIn K (.ref C_NoHand) (.ref C_NothingHeld) = some false)
    (sub_NoHand_NoWork : PySem.W.subIn K (.ref C_NoHand) (.ref C_NoWork) = some false)
    (sub_NoHand_NoDeed : PySem.W.subIn K (.ref C_NoHand) (.ref C_NoDeed) = some false)
    (sub_NoSlot_NoHand : PySem.W.subIn K (.ref C_NoSlot) (.ref C_NoHand) = some false)
    (sub_NoSlot_NoSlot : PySem.W.subIn K (.ref C_NoSlot) (.ref C_NoSlot) = some true)
    (sub_NoSlot_NoRoom : PySem.W.subIn K (.ref C_NoSlot) (.ref C_NoRoom) = some false)
    (sub_NoSlot_NothingHeld : PySem.W.subIn K (.ref C_NoSlot) (.ref C_NothingHeld) = some false)
    (sub_NoSlot_NoWork : PySem.W.subIn K (.ref C_NoSlot) (.ref C_NoWork) = some false)
    (sub_NoSlot_NoDeed : PySem.W.subIn K (.ref C_NoSlot) (.ref C_NoDeed) = some false)
    (sub_NoRoom_NoHand : PySem.W.subIn K (.ref C_NoRoom) (.ref C_NoHand) = some false)
    (sub_NoRoom_NoSlot : PySem.W.subIn K (.ref C_NoRoom) (.ref C_NoSlot) = some false)
    (sub_NoRoom_NoRoom : PySem.W.subIn K (.ref C_NoRoom) (.ref C_NoRoom) = some true)
    (sub_NoRoom_NothingHeld : PySem.W.subIn K (.ref C_NoRoom) (.ref C_NothingHeld) = some false)
    (sub_NoRoom_NoWork : PySem.W.subIn K (.ref C_NoRoom) (.ref C_NoWork) = some false)
    (sub_NoRoom_NoDeed : PySem.W.subIn K (.ref C_NoRoom) (.ref C_NoDeed) = some false)
    (sub_NothingHeld_NoHand : PySem.W.subIn K (.ref C_NothingHeld) (.ref C_NoHand) = some false)
    (sub_NothingHeld_NoSlot : PySem.W.subIn K (.ref C_NothingHeld) (.ref C_NoSlot) = some false)
    (sub_NothingHeld_NoRoom : PySem.W.subIn K (.ref C_NothingHeld) (.ref C_NoRoom) = some false)
    (sub_NothingHeld_NothingHeld : PySem.W.subIn K (.ref C_NothingHeld) (.ref C_NothingHeld) = some true)
    (sub_NothingHeld_NoWork : PySem.W.subIn K (.ref C_NothingHeld) (.ref C_NoWork) = some false)
    (sub_NothingHeld_NoDeed : PySem.W.subIn K (.ref C_NothingHeld) (.ref C_NoDeed) = some false)
    (sub_NoWork_NoHand : PySem.W.subIn K (.ref C_NoWork) (.ref C_NoHand) = some false)
    (sub_NoWork_NoSlot : PySem.W.subIn K (.ref C_NoWork) (.ref C_NoSlot) = some false)
    (sub_NoWork_NoRoom : PySem.W.subIn K (.ref C_NoWork) (.ref C_NoRoom) = some false)
    (sub_NoWork_NothingHeld : PySem.W.subIn K (.ref C_NoWork) (.ref C_NothingHeld) = some false)
    (sub_NoWork_NoWork : PySem.W.subIn K (.ref C_NoWork) (.ref C_NoWork) = some true)
    (sub_NoWork_NoDeed : PySem.W.subIn K (.ref C_NoWork) (.ref C_NoDeed) = some false)
    (sub_NoDeed_NoHand : PySem.W.subIn K (.ref C_NoDeed) (.ref C_NoHand) = some false)
    (sub_NoDeed_NoSlot : PySem.W.subIn K (.ref C_NoDeed) (.ref C_NoSlot) = some false)
    (sub_NoDeed_NoRoom : PySem.W.subIn K (.ref C_NoDeed) (.ref C_NoRoom) = some false)
    (sub_NoDeed_NothingHeld : PySem.W.subIn K (.ref C_NoDeed) (.ref C_NothingHeld) = some false)
    (sub_NoDeed_NoWork : PySem.W.subIn K (.ref C_NoDeed) (.ref C_NoWork) = some false)
    (sub_NoDeed_NoDeed : PySem.W.subIn K (.ref C_NoDeed) (.ref C_NoDeed) = some true)
    (aD_COUNTS : PySem.W.nsIn K mainGlobals "COUNTS" = some (some (.ref C_COUNTS))) (lD_COUNTS : K.lookup C_COUNTS = some ⟨.type "dict", none, .dict es_COUNTS n_COUNTS, #[]⟩) (kD_COUNTS : PySem.W.KeysLit w.params es_COUNTS.toList) (sD_COUNTS : (C_COUNTS == sysModules) = false) (vD_COUNTS : es_COUNTS.toList.map (fun e => (e.key, e.val)) = [(.str "make" t0_COUNTS, .int 2 u0_COUNTS), (.str "take" t1_COUNTS, .int 3 u1_COUNTS), (.str "put" t2_COUNTS, .int 3 u2_COUNTS), (.str "share" t3_COUNTS, .int 2 u3_COUNTS), (.str "drop" t4_COUNTS, .int 1 u4_COUNTS), (.str "work" t5_COUNTS, .int 1 u5_COUNTS)])
    (aD_ACTIONS : PySem.W.nsIn K mainGlobals "ACTIONS" = some (some (.ref C_ACTIONS))) (lD_ACTIONS : K.lookup C_ACTIONS = some ⟨.type "dict", none, .dict es_ACTIONS n_ACTIONS, #[]⟩) (kD_ACTIONS : PySem.W.KeysLit w.params es_ACTIONS.toList) (sD_ACTIONS : (C_ACTIONS == sysModules) = false) (vD_ACTIONS : es_ACTIONS.toList.map (fun e => (e.key, e.val)) = [(.str "make" t0_ACTIONS, .ref f_make), (.str "take" t1_ACTIONS, .ref f_take), (.str "put" t2_ACTIONS, .ref f_put), (.str "share" t3_ACTIONS, .ref f_share), (.str "drop" t4_ACTIONS, .ref f_drop), (.str "work" t5_ACTIONS, .ref f_work)])
    (aN_MOST_HANDS : PySem.W.nsIn K mainGlobals "MOST_HANDS" = some (some (.int 8 tN_MOST_HANDS)))
    (aN_MOST_ROOM : PySem.W.nsIn K mainGlobals "MOST_ROOM" = some (some (.int 1000 tN_MOST_ROOM)))
    (aN_MOST_SLOTS : PySem.W.nsIn K mainGlobals "MOST_SLOTS" = some (some (.int 4 tN_MOST_SLOTS)))
    (aN_MOST_PIECES : PySem.W.nsIn K mainGlobals "MOST_PIECES" = some (some (.int 2500 tN_MOST_PIECES)))
    (aN_MOST_FIGURES : PySem.W.nsIn K mainGlobals "MOST_FIGURES" = some (some (.int 60 tN_MOST_FIGURES)))
    (a_Heap___init__ : PySem.W.findIn K (.ref C_Heap) "__init__" = some (some (.ref f_Heap___init__))) (i_Heap___init__ : PySem.W.isFn K (.ref f_Heap___init__) = true)
    (l_Heap___init__ : K.lookup f_Heap___init__ = some ⟨oc_Heap___init__, od_Heap___init__, .func (PySem.W.fnOf "__init__" "Heap.__init__" (defArgs sHeapInit) (defBody sHeapInit) (defScope sHeapInit) .none kV_Heap___init__ dc_Heap___init__ pm_Heap___init__ an_Heap___init__ cd_Heap___init__ ct_Heap___init__), sl_Heap___init__⟩) (c_Heap___init__ : PySem.W.codeIn K cd_Heap___init__ "Heap.__init__" = true) (k_Heap___init__ : PySem.W.keepIn K (.ref f_Heap___init__) = true)
    (a_Heap_make : PySem.W.findIn K (.ref C_Heap) "make" = some (some (.ref f_Heap_make))) (i_Heap_make : PySem.W.isFn K (.ref f_Heap_make) = true)
    (l_Heap_make : K.lookup f_Heap_make = some ⟨oc_Heap_make, od_Heap_make, .func (PySem.W.fnOf "make" "Heap.make" (defArgs sHeapMake) (defBody sHeapMake) (defScope sHeapMake) .none kV_Heap_make dc_Heap_make pm_Heap_make an_Heap_make cd_Heap_make ct_Heap_make), sl_Heap_make⟩) (c_Heap_make : PySem.W.codeIn K cd_Heap_make "Heap.make" = true) (k_Heap_make : PySem.W.keepIn K (.ref f_Heap_make) = true)
    (a_Heap_take : PySem.W.findIn K (.ref C_Heap) "take" = some (some (.ref f_Heap_take))) (i_Heap_take : PySem.W.isFn K (.ref f_Heap_take) = true)
    (l_Heap_take : K.lookup f_Heap_take = some ⟨oc_Heap_take, od_Heap_take, .func (PySem.W.fnOf "take" "Heap.take" (defArgs sHeapTake) (defBody sHeapTake) (defScope sHeapTake) .none kV_Heap_take dc_Heap_take pm_Heap_take an_Heap_take cd_Heap_take ct_Heap_take), sl_Heap_take⟩) (c_Heap_take : PySem.W.codeIn K cd_Heap_take "Heap.take" = true) (k_Heap_take : PySem.W.keepIn K (.ref f_Heap_take) = true)
    (a_Heap_put : PySem.W.findIn K (.ref C_Heap) "put" = some (some (.ref f_Heap_put))) (i_Heap_put : PySem.W.isFn K (.ref f_Heap_put) = true)
    (l_Heap_put : K.lookup f_Heap_put = some ⟨oc_Heap_put, od_Heap_put, .func (PySem.W.fnOf "put" "Heap.put" (defArgs sHeapPut) (defBody sHeapPut) (defScope sHeapPut) .none kV_Heap_put dc_Heap_put pm_Heap_put an_Heap_put cd_Heap_put ct_Heap_put), sl_Heap_put⟩) (c_Heap_put : PySem.W.codeIn K cd_Heap_put "Heap.put" = true) (k_Heap_put : PySem.W.keepIn K (.ref f_Heap_put) = true)
    (a_Heap_share : PySem.W.findIn K (.ref C_Heap) "share" = some (some (.ref f_Heap_share))) (i_Heap_share : PySem.W.isFn K (.ref f_Heap_share) = true)
    (l_Heap_share : K.lookup f_Heap_share = some ⟨oc_Heap_share, od_Heap_share, .func (PySem.W.fnOf "share" "Heap.share" (defArgs sHeapShare) (defBody sHeapShare) (defScope sHeapShare) .none kV_Heap_share dc_Heap_share pm_Heap_share an_Heap_share cd_Heap_share ct_Heap_share), sl_Heap_share⟩) (c_Heap_share : PySem.W.codeIn K cd_Heap_share "Heap.share" = true) (k_Heap_share : PySem.W.keepIn K (.ref f_Heap_share) = true)
    (a_Heap_drop : PySem.W.findIn K (.ref C_Heap) "drop" = some (some (.ref f_Heap_drop))) (i_Heap_drop : PySem.W.isFn K (.ref f_Heap_drop) = true)
    (l_Heap_drop : K.lookup f_Heap_drop = some ⟨oc_Heap_drop, od_Heap_drop, .func (PySem.W.fnOf "drop" "Heap.drop" (defArgs sHeapDrop) (defBody sHeapDrop) (defScope sHeapDrop) .none kV_Heap_drop dc_Heap_drop pm_Heap_drop an_Heap_drop cd_Heap_drop ct_Heap_drop), sl_Heap_drop⟩) (c_Heap_drop : PySem.W.codeIn K cd_Heap_drop "Heap.drop" = true) (k_Heap_drop : PySem.W.keepIn K (.ref f_Heap_drop) = true)
    (a_Heap_held : PySem.W.findIn K (.ref C_Heap) "held" = some (some (.ref f_Heap_held))) (i_Heap_held : PySem.W.isFn K (.ref f_Heap_held) = true)
    (l_Heap_held : K.lookup f_Heap_held = some ⟨oc_Heap_held, od_Heap_held, .func (PySem.W.fnOf "held" "Heap.held" (defArgs sHeapHeld) (defBody sHeapHeld) (defScope sHeapHeld) .none kV_Heap_held dc_Heap_held pm_Heap_held an_Heap_held cd_Heap_held ct_Heap_held), sl_Heap_held⟩) (c_Heap_held : PySem.W.codeIn K cd_Heap_held "Heap.held" = true) (k_Heap_held : PySem.W.keepIn K (.ref f_Heap_held) = true)
    (a_Heap_boxes : PySem.W.findIn K (.ref C_Heap) "boxes" = some (some (.ref f_Heap_boxes))) (i_Heap_boxes : PySem.W.isFn K (.ref f_Heap_boxes) = true)
    (l_Heap_boxes : K.lookup f_Heap_boxes = some ⟨oc_Heap_boxes, od_Heap_boxes, .func (PySem.W.fnOf "boxes" "Heap.boxes" (defArgs sHeapBoxes) (defBody sHeapBoxes) (defScope sHeapBoxes) .none kV_Heap_boxes dc_Heap_boxes pm_Heap_boxes an_Heap_boxes cd_Heap_boxes ct_Heap_boxes), sl_Heap_boxes⟩) (c_Heap_boxes : PySem.W.codeIn K cd_Heap_boxes "Heap.boxes" = true) (k_Heap_boxes : PySem.W.keepIn K (.ref f_Heap_boxes) = true)
    (a_Heap_work : PySem.W.findIn K (.ref C_Heap) "work" = some (some (.ref f_Heap_work))) (i_Heap_work : PySem.W.isFn K (.ref f_Heap_work) = true)
    (l_Heap_work : K.lookup f_Heap_work = some ⟨oc_Heap_work, od_Heap_work, .func (PySem.W.fnOf "work" "Heap.work" (defArgs sHeapWork) (defBody sHeapWork) (defScope sHeapWork) .none kV_Heap_work dc_Heap_work pm_Heap_work an_Heap_work cd_Heap_work ct_Heap_work), sl_Heap_work⟩) (c_Heap_work : PySem.W.codeIn K cd_Heap_work "Heap.work" = true) (k_Heap_work : PySem.W.keepIn K (.ref f_Heap_work) = true)
    (a_Heap_phase : PySem.W.findIn K (.ref C_Heap) "phase" = some (some (.ref f_Heap_phase))) (i_Heap_phase : PySem.W.isFn K (.ref f_Heap_phase) = true)
    (l_Heap_phase : K.lookup f_Heap_phase = some ⟨oc_Heap_phase, od_Heap_phase, .func (PySem.W.fnOf "phase" "Heap.phase" (defArgs sHeapPhase) (defBody sHeapPhase) (defScope sHeapPhase) .none kV_Heap_phase dc_Heap_phase pm_Heap_phase an_Heap_phase cd_Heap_phase ct_Heap_phase), sl_Heap_phase⟩) (c_Heap_phase : PySem.W.codeIn K cd_Heap_phase "Heap.phase" = true) (k_Heap_phase : PySem.W.keepIn K (.ref f_Heap_phase) = true)
    (a_Heap__do_piece : PySem.W.findIn K (.ref C_Heap) "_do_piece" = some (some (.ref f_Heap__do_piece))) (i_Heap__do_piece : PySem.W.isFn K (.ref f_Heap__do_piece) = true)
    (l_Heap__do_piece : K.lookup f_Heap__do_piece = some ⟨oc_Heap__do_piece, od_Heap__do_piece, .func (PySem.W.fnOf "_do_piece" "Heap._do_piece" (defArgs sHeapDoPiece) (defBody sHeapDoPiece) (defScope sHeapDoPiece) .none kV_Heap__do_piece dc_Heap__do_piece pm_Heap__do_piece an_Heap__do_piece cd_Heap__do_piece ct_Heap__do_piece), sl_Heap__do_piece⟩) (c_Heap__do_piece : PySem.W.codeIn K cd_Heap__do_piece "Heap._do_piece" = true) (k_Heap__do_piece : PySem.W.keepIn K (.ref f_Heap__do_piece) = true)
    (a_Heap__begin_round : PySem.W.findIn K (.ref C_Heap) "_begin_round" = some (some (.ref f_Heap__begin_round))) (i_Heap__begin_round : PySem.W.isFn K (.ref f_Heap__begin_round) = true)
    (l_Heap__begin_round : K.lookup f_Heap__begin_round = some ⟨oc_Heap__begin_round, od_Heap__begin_round, .func (PySem.W.fnOf "_begin_round" "Heap._begin_round" (defArgs sHeapBeginRound) (defBody sHeapBeginRound) (defScope sHeapBeginRound) .none kV_Heap__begin_round dc_Heap__begin_round pm_Heap__begin_round an_Heap__begin_round cd_Heap__begin_round ct_Heap__begin_round), sl_Heap__begin_round⟩) (c_Heap__begin_round : PySem.W.codeIn K cd_Heap__begin_round "Heap._begin_round" = true) (k_Heap__begin_round : PySem.W.keepIn K (.ref f_Heap__begin_round) = true)
    (a_Heap__mark_on : PySem.W.findIn K (.ref C_Heap) "_mark_on" = some (some (.ref f_Heap__mark_on))) (i_Heap__mark_on : PySem.W.isFn K (.ref f_Heap__mark_on) = true)
    (l_Heap__mark_on : K.lookup f_Heap__mark_on = some ⟨oc_Heap__mark_on, od_Heap__mark_on, .func (PySem.W.fnOf "_mark_on" "Heap._mark_on" (defArgs sHeapMarkOn) (defBody sHeapMarkOn) (defScope sHeapMarkOn) .none kV_Heap__mark_on dc_Heap__mark_on pm_Heap__mark_on an_Heap__mark_on cd_Heap__mark_on ct_Heap__mark_on), sl_Heap__mark_on⟩) (c_Heap__mark_on : PySem.W.codeIn K cd_Heap__mark_on "Heap._mark_on" = true) (k_Heap__mark_on : PySem.W.keepIn K (.ref f_Heap__mark_on) = true)
    (a_Heap__sweep_on : PySem.W.findIn K (.ref C_Heap) "_sweep_on" = some (some (.ref f_Heap__sweep_on))) (i_Heap__sweep_on : PySem.W.isFn K (.ref f_Heap__sweep_on) = true)
    (l_Heap__sweep_on : K.lookup f_Heap__sweep_on = some ⟨oc_Heap__sweep_on, od_Heap__sweep_on, .func (PySem.W.fnOf "_sweep_on" "Heap._sweep_on" (defArgs sHeapSweepOn) (defBody sHeapSweepOn) (defScope sHeapSweepOn) .none kV_Heap__sweep_on dc_Heap__sweep_on pm_Heap__sweep_on an_Heap__sweep_on cd_Heap__sweep_on ct_Heap__sweep_on), sl_Heap__sweep_on⟩) (c_Heap__sweep_on : PySem.W.codeIn K cd_Heap__sweep_on "Heap._sweep_on" = true) (k_Heap__sweep_on : PySem.W.keepIn K (.ref f_Heap__sweep_on) = true)
    (a_Heap__end_round : PySem.W.findIn K (.ref C_Heap) "_end_round" = some (some (.ref f_Heap__end_round))) (i_Heap__end_round : PySem.W.isFn K (.ref f_Heap__end_round) = true)
    (l_Heap__end_round : K.lookup f_Heap__end_round = some ⟨oc_Heap__end_round, od_Heap__end_round, .func (PySem.W.fnOf "_end_round" "Heap._end_round" (defArgs sHeapEndRound) (defBody sHeapEndRound) (defScope sHeapEndRound) .none kV_Heap__end_round dc_Heap__end_round pm_Heap__end_round an_Heap__end_round cd_Heap__end_round ct_Heap__end_round), sl_Heap__end_round⟩) (c_Heap__end_round : PySem.W.codeIn K cd_Heap__end_round "Heap._end_round" = true) (k_Heap__end_round : PySem.W.keepIn K (.ref f_Heap__end_round) = true)
    (a_Heap__mark : PySem.W.findIn K (.ref C_Heap) "_mark" = some (some (.ref f_Heap__mark))) (i_Heap__mark : PySem.W.isFn K (.ref f_Heap__mark) = true)
    (l_Heap__mark : K.lookup f_Heap__mark = some ⟨oc_Heap__mark, od_Heap__mark, .func (PySem.W.fnOf "_mark" "Heap._mark" (defArgs sHeapMark) (defBody sHeapMark) (defScope sHeapMark) .none kV_Heap__mark dc_Heap__mark pm_Heap__mark an_Heap__mark cd_Heap__mark ct_Heap__mark), sl_Heap__mark⟩) (c_Heap__mark : PySem.W.codeIn K cd_Heap__mark "Heap._mark" = true) (k_Heap__mark : PySem.W.keepIn K (.ref f_Heap__mark) = true)
    (a_Heap__need_hand : PySem.W.findIn K (.ref C_Heap) "_need_hand" = some (some (.ref f_Heap__need_hand))) (i_Heap__need_hand : PySem.W.isFn K (.ref f_Heap__need_hand) = true)
    (l_Heap__need_hand : K.lookup f_Heap__need_hand = some ⟨oc_Heap__need_hand, od_Heap__need_hand, .func (PySem.W.fnOf "_need_hand" "Heap._need_hand" (defArgs sHeapNeedHand) (defBody sHeapNeedHand) (defScope sHeapNeedHand) .none kV_Heap__need_hand dc_Heap__need_hand pm_Heap__need_hand an_Heap__need_hand cd_Heap__need_hand ct_Heap__need_hand), sl_Heap__need_hand⟩) (c_Heap__need_hand : PySem.W.codeIn K cd_Heap__need_hand "Heap._need_hand" = true) (k_Heap__need_hand : PySem.W.keepIn K (.ref f_Heap__need_hand) = true)
    (a_Heap__row_with : PySem.W.findIn K (.ref C_Heap) "_row_with" = some (some (.ref f_Heap__row_with))) (i_Heap__row_with : PySem.W.isFn K (.ref f_Heap__row_with) = true)
    (l_Heap__row_with : K.lookup f_Heap__row_with = some ⟨oc_Heap__row_with, od_Heap__row_with, .func (PySem.W.fnOf "_row_with" "Heap._row_with" (defArgs sHeapRowWith) (defBody sHeapRowWith) (defScope sHeapRowWith) .none kV_Heap__row_with dc_Heap__row_with pm_Heap__row_with an_Heap__row_with cd_Heap__row_with ct_Heap__row_with), sl_Heap__row_with⟩) (c_Heap__row_with : PySem.W.codeIn K cd_Heap__row_with "Heap._row_with" = true) (k_Heap__row_with : PySem.W.keepIn K (.ref f_Heap__row_with) = true)
    (a_read : PySem.W.nsIn K mainGlobals "read" = some (some (.ref f_read)))
    (l_read : K.lookup f_read = some ⟨oc_read, od_read, .func (PySem.W.fnOf "read" "read" (defArgs sRead) (defBody sRead) (defScope sRead) .none kV_read dc_read pm_read an_read cd_read ct_read), sl_read⟩) (c_read : PySem.W.codeIn K cd_read "read" = true) (k_read : PySem.W.keepIn K (.ref f_read) = true)
    (a_is_number : PySem.W.nsIn K mainGlobals "is_number" = some (some (.ref f_is_number)))
    (l_is_number : K.lookup f_is_number = some ⟨oc_is_number, od_is_number, .func (PySem.W.fnOf "is_number" "is_number" (defArgs sIsNumber) (defBody sIsNumber) (defScope sIsNumber) .none kV_is_number dc_is_number pm_is_number an_is_number cd_is_number ct_is_number), sl_is_number⟩) (c_is_number : PySem.W.codeIn K cd_is_number "is_number" = true) (k_is_number : PySem.W.keepIn K (.ref f_is_number) = true)
    (a_make : PySem.W.nsIn K mainGlobals "make" = some (some (.ref f_make)))
    (l_make : K.lookup f_make = some ⟨oc_make, od_make, .func (PySem.W.fnOf "make" "make" (defArgs sMake) (defBody sMake) (defScope sMake) .none kV_make dc_make pm_make an_make cd_make ct_make), sl_make⟩) (c_make : PySem.W.codeIn K cd_make "make" = true) (k_make : PySem.W.keepIn K (.ref f_make) = true)
    (a_take : PySem.W.nsIn K mainGlobals "take" = some (some (.ref f_take)))
    (l_take : K.lookup f_take = some ⟨oc_take, od_take, .func (PySem.W.fnOf "take" "take" (defArgs sTake) (defBody sTake) (defScope sTake) .none kV_take dc_take pm_take an_take cd_take ct_take), sl_take⟩) (c_take : PySem.W.codeIn K cd_take "take" = true) (k_take : PySem.W.keepIn K (.ref f_take) = true)
    (a_put : PySem.W.nsIn K mainGlobals "put" = some (some (.ref f_put)))
    (l_put : K.lookup f_put = some ⟨oc_put, od_put, .func (PySem.W.fnOf "put" "put" (defArgs sPut) (defBody sPut) (defScope sPut) .none kV_put dc_put pm_put an_put cd_put ct_put), sl_put⟩) (c_put : PySem.W.codeIn K cd_put "put" = true) (k_put : PySem.W.keepIn K (.ref f_put) = true)
    (a_share : PySem.W.nsIn K mainGlobals "share" = some (some (.ref f_share)))
    (l_share : K.lookup f_share = some ⟨oc_share, od_share, .func (PySem.W.fnOf "share" "share" (defArgs sShare) (defBody sShare) (defScope sShare) .none kV_share dc_share pm_share an_share cd_share ct_share), sl_share⟩) (c_share : PySem.W.codeIn K cd_share "share" = true) (k_share : PySem.W.keepIn K (.ref f_share) = true)
    (a_drop : PySem.W.nsIn K mainGlobals "drop" = some (some (.ref f_drop)))
    (l_drop : K.lookup f_drop = some ⟨oc_drop, od_drop, .func (PySem.W.fnOf "drop" "drop" (defArgs sDrop) (defBody sDrop) (defScope sDrop) .none kV_drop dc_drop pm_drop an_drop cd_drop ct_drop), sl_drop⟩) (c_drop : PySem.W.codeIn K cd_drop "drop" = true) (k_drop : PySem.W.keepIn K (.ref f_drop) = true)
    (a_work : PySem.W.nsIn K mainGlobals "work" = some (some (.ref f_work)))
    (l_work : K.lookup f_work = some ⟨oc_work, od_work, .func (PySem.W.fnOf "work" "work" (defArgs sWork) (defBody sWork) (defScope sWork) .none kV_work dc_work pm_work an_work cd_work ct_work), sl_work⟩) (c_work : PySem.W.codeIn K cd_work "work" = true) (k_work : PySem.W.keepIn K (.ref f_work) = true)
    (a_holds : PySem.W.nsIn K mainGlobals "holds" = some (some (.ref f_holds)))
    (l_holds : K.lookup f_holds = some ⟨oc_holds, od_holds, .func (PySem.W.fnOf "holds" "holds" (defArgs sHolds) (defBody sHolds) (defScope sHolds) .none kV_holds dc_holds pm_holds an_holds cd_holds ct_holds), sl_holds⟩) (c_holds : PySem.W.codeIn K cd_holds "holds" = true) (k_holds : PySem.W.keepIn K (.ref f_holds) = true)
    (a_done : PySem.W.nsIn K mainGlobals "done" = some (some (.ref f_done)))
    (l_done : K.lookup f_done = some ⟨oc_done, od_done, .func (PySem.W.fnOf "done" "done" (defArgs sDone) (defBody sDone) (defScope sDone) .none kV_done dc_done pm_done an_done cd_done ct_done), sl_done⟩) (c_done : PySem.W.codeIn K cd_done "done" = true) (k_done : PySem.W.keepIn K (.ref f_done) = true)
    (a_answered : PySem.W.nsIn K mainGlobals "answered" = some (some (.ref f_answered)))
    (l_answered : K.lookup f_answered = some ⟨oc_answered, od_answered, .func (PySem.W.fnOf "answered" "answered" (defArgs sAnswered) (defBody sAnswered) (defScope sAnswered) .none kV_answered dc_answered pm_answered an_answered cd_answered ct_answered), sl_answered⟩) (c_answered : PySem.W.codeIn K cd_answered "answered" = true) (k_answered : PySem.W.keepIn K (.ref f_answered) = true)
    (a_played : PySem.W.nsIn K mainGlobals "played" = some (some (.ref f_played)))
    (l_played : K.lookup f_played = some ⟨oc_played, od_played, .func (PySem.W.fnOf "played" "played" (defArgs sPlayed) (defBody sPlayed) (defScope sPlayed) .none kV_played dc_played pm_played an_played cd_played ct_played), sl_played⟩) (c_played : PySem.W.codeIn K cd_played "played" = true) (k_played : PySem.W.keepIn K (.ref f_played) = true)
    (a__law_cell_at : PySem.W.nsIn K mainGlobals "_law_cell_at" = some (some (.ref f__law_cell_at)))
    (l__law_cell_at : K.lookup f__law_cell_at = some ⟨oc__law_cell_at, od__law_cell_at, .func (PySem.W.fnOf "_law_cell_at" "_law_cell_at" (defArgs sCellAt) (defBody sCellAt) (defScope sCellAt) .none kV__law_cell_at dc__law_cell_at pm__law_cell_at an__law_cell_at cd__law_cell_at ct__law_cell_at), sl__law_cell_at⟩) (c__law_cell_at : PySem.W.codeIn K cd__law_cell_at "_law_cell_at" = true) (k__law_cell_at : PySem.W.keepIn K (.ref f__law_cell_at) = true)
    (a__law_mixed_at : PySem.W.nsIn K mainGlobals "_law_mixed_at" = some (some (.ref f__law_mixed_at)))
    (l__law_mixed_at : K.lookup f__law_mixed_at = some ⟨oc__law_mixed_at, od__law_mixed_at, .func (PySem.W.fnOf "_law_mixed_at" "_law_mixed_at" (defArgs sMixedAt) (defBody sMixedAt) (defScope sMixedAt) .none kV__law_mixed_at dc__law_mixed_at pm__law_mixed_at an__law_mixed_at cd__law_mixed_at ct__law_mixed_at), sl__law_mixed_at⟩) (c__law_mixed_at : PySem.W.codeIn K cd__law_mixed_at "_law_mixed_at" = true) (k__law_mixed_at : PySem.W.keepIn K (.ref f__law_mixed_at) = true)
    (a__law_came : PySem.W.nsIn K mainGlobals "_law_came" = some (some (.ref f__law_came)))
    (l__law_came : K.lookup f__law_came = some ⟨oc__law_came, od__law_came, .func (PySem.W.fnOf "_law_came" "_law_came" (defArgs sCame) (defBody sCame) (defScope sCame) .none kV__law_came dc__law_came pm__law_came an__law_came cd__law_came ct__law_came), sl__law_came⟩) (c__law_came : PySem.W.codeIn K cd__law_came "_law_came" = true) (k__law_came : PySem.W.keepIn K (.ref f__law_came) = true)
    (a__law_parts : PySem.W.nsIn K mainGlobals "_law_parts" = some (some (.ref f__law_parts)))
    (l__law_parts : K.lookup f__law_parts = some ⟨oc__law_parts, od__law_parts, .func (PySem.W.fnOf "_law_parts" "_law_parts" (defArgs sParts) (defBody sParts) (defScope sParts) .none kV__law_parts dc__law_parts pm__law_parts an__law_parts cd__law_parts ct__law_parts), sl__law_parts⟩) (c__law_parts : PySem.W.codeIn K cd__law_parts "_law_parts" = true) (k__law_parts : PySem.W.keepIn K (.ref f__law_parts) = true)
    (a__law_pieces : PySem.W.nsIn K mainGlobals "_law_pieces" = some (some (.ref f__law_pieces)))
    (l__law_pieces : K.lookup f__law_pieces = some ⟨oc__law_pieces, od__law_pieces, .func (PySem.W.fnOf "_law_pieces" "_law_pieces" (defArgs sPieces) (defBody sPieces) (defScope sPieces) .none kV__law_pieces dc__law_pieces pm__law_pieces an__law_pieces cd__law_pieces ct__law_pieces), sl__law_pieces⟩) (c__law_pieces : PySem.W.codeIn K cd__law_pieces "_law_pieces" = true) (k__law_pieces : PySem.W.keepIn K (.ref f__law_pieces) = true)
    (a__law_held : PySem.W.nsIn K mainGlobals "_law_held" = some (some (.ref f__law_held)))
    (l__law_held : K.lookup f__law_held = some ⟨oc__law_held, od__law_held, .func (PySem.W.fnOf "_law_held" "_law_held" (defArgs sLwHeld) (defBody sLwHeld) (defScope sLwHeld) .none kV__law_held dc__law_held pm__law_held an__law_held cd__law_held ct__law_held), sl__law_held⟩) (c__law_held : PySem.W.codeIn K cd__law_held "_law_held" = true) (k__law_held : PySem.W.keepIn K (.ref f__law_held) = true)
    (a__law_slotted : PySem.W.nsIn K mainGlobals "_law_slotted" = some (some (.ref f__law_slotted)))
    (l__law_slotted : K.lookup f__law_slotted = some ⟨oc__law_slotted, od__law_slotted, .func (PySem.W.fnOf "_law_slotted" "_law_slotted" (defArgs sSlotted) (defBody sSlotted) (defScope sSlotted) .none kV__law_slotted dc__law_slotted pm__law_slotted an__law_slotted cd__law_slotted ct__law_slotted), sl__law_slotted⟩) (c__law_slotted : PySem.W.codeIn K cd__law_slotted "_law_slotted" = true) (k__law_slotted : PySem.W.keepIn K (.ref f__law_slotted) = true)
    (a__law_made : PySem.W.nsIn K mainGlobals "_law_made" = some (some (.ref f__law_made)))
    (l__law_made : K.lookup f__law_made = some ⟨oc__law_made, od__law_made, .func (PySem.W.fnOf "_law_made" "_law_made" (defArgs sMade) (defBody sMade) (defScope sMade) .none kV__law_made dc__law_made pm__law_made an__law_made cd__law_made ct__law_made), sl__law_made⟩) (c__law_made : PySem.W.codeIn K cd__law_made "_law_made" = true) (k__law_made : PySem.W.keepIn K (.ref f__law_made) = true)
    (a__law_hands : PySem.W.nsIn K mainGlobals "_law_hands" = some (some (.ref f__law_hands)))
    (l__law_hands : K.lookup f__law_hands = some ⟨oc__law_hands, od__law_hands, .func (PySem.W.fnOf "_law_hands" "_law_hands" (defArgs sHands) (defBody sHands) (defScope sHands) .none kV__law_hands dc__law_hands pm__law_hands an__law_hands cd__law_hands ct__law_hands), sl__law_hands⟩) (c__law_hands : PySem.W.codeIn K cd__law_hands "_law_hands" = true) (k__law_hands : PySem.W.keepIn K (.ref f__law_hands) = true)
    (a__law_answer : PySem.W.nsIn K mainGlobals "_law_answer" = some (some (.ref f__law_answer)))
    (l__law_answer : K.lookup f__law_answer = some ⟨oc__law_answer, od__law_answer, .func (PySem.W.fnOf "_law_answer" "_law_answer" (defArgs sAnswer) (defBody sAnswer) (defScope sAnswer) .none kV__law_answer dc__law_answer pm__law_answer an__law_answer cd__law_answer ct__law_answer), sl__law_answer⟩) (c__law_answer : PySem.W.codeIn K cd__law_answer "_law_answer" = true) (k__law_answer : PySem.W.keepIn K (.ref f__law_answer) = true)
    (a_law : PySem.W.nsIn K mainGlobals "law" = some (some (.ref f_law)))
    (l_law : K.lookup f_law = some ⟨oc_law, od_law, .func (PySem.W.fnOf "law" "law" (defArgs sLaw) (defBody sLaw) (defScope sLaw) .none kV_law dc_law pm_law an_law cd_law ct_law), sl_law⟩) (c_law : PySem.W.codeIn K cd_law "law" = true) (k_law : PySem.W.keepIn K (.ref f_law) = true)
    (z_all : PySem.W.nsIn K mainGlobals "all" = some none)
    (z_int : PySem.W.nsIn K mainGlobals "int" = some none)
    (z_isinstance : PySem.W.nsIn K mainGlobals "isinstance" = some none)
    (z_len : PySem.W.nsIn K mainGlobals "len" = some none)
    (z_list : PySem.W.nsIn K mainGlobals "list" = some none)
    (z_max : PySem.W.nsIn K mainGlobals "max" = some none)
    (z_min : PySem.W.nsIn K mainGlobals "min" = some none)
    (z_range : PySem.W.nsIn K mainGlobals "range" = some none)
    (z_sorted : PySem.W.nsIn K mainGlobals "sorted" = some none)
    (z_str : PySem.W.nsIn K mainGlobals "str" = some none) :
    ∃ fd : FuncData, (∀ (s : Shared) (v : Value), BindsTo s fd ⟨[v], []⟩ [("_law_script", v)]) ∧ ∀ base : Heap, K.In base → base.Ns mainGlobals mg → FnOk l.prog w K mg base CX0 9 fa fd ["_law_script"] (spLaw K) := by
  have e := hfa.symm.trans (PySem.W.mg_of X G a_law)
  cases e
  have mC_HeapError := PySem.W.mg_of X G aC_HeapError
  have T_HeapError : ExC K mg "HeapError" C_HeapError := ⟨mC_HeapError, xC_HeapError, kC_HeapError, bC_HeapError, tC_HeapError, iC_HeapError⟩
  have mC_NoHand := PySem.W.mg_of X G aC_NoHand
  have T_NoHand : ExC K mg "NoHand" C_NoHand := ⟨mC_NoHand, xC_NoHand, kC_NoHand, bC_NoHand, tC_NoHand, iC_NoHand⟩
  have mC_NoSlot := PySem.W.mg_of X G aC_NoSlot
  have T_NoSlot : ExC K mg "NoSlot" C_NoSlot := ⟨mC_NoSlot, xC_NoSlot, kC_NoSlot, bC_NoSlot, tC_NoSlot, iC_NoSlot⟩
  have mC_NoRoom := PySem.W.mg_of X G aC_NoRoom
  have T_NoRoom : ExC K mg "NoRoom" C_NoRoom := ⟨mC_NoRoom, xC_NoRoom, kC_NoRoom, bC_NoRoom, tC_NoRoom, iC_NoRoom⟩
  have mC_NothingHeld := PySem.W.mg_of X G aC_NothingHeld
  have T_NothingHeld : ExC K mg "NothingHeld" C_NothingHeld := ⟨mC_NothingHeld, xC_NothingHeld, kC_NothingHeld, bC_NothingHeld, tC_NothingHeld, iC_NothingHeld⟩
  have mC_NoWork := PySem.W.mg_of X G aC_NoWork
  have T_NoWork : ExC K mg "NoWork" C_NoWork := ⟨mC_NoWork, xC_NoWork, kC_NoWork, bC_NoWork, tC_NoWork, iC_NoWork⟩
  have mC_NoHeap := PySem.W.mg_of X G aC_NoHeap
  have T_NoHeap : ExC K mg "NoHeap" C_NoHeap := ⟨mC_NoHeap, xC_NoHeap, kC_NoHeap, bC_NoHeap, tC_NoHeap, iC_NoHeap⟩
  have mC_NoDeed := PySem.W.mg_of X G aC_NoDeed
  have T_NoDeed : ExC K mg "NoDeed" C_NoDeed := ⟨mC_NoDeed, xC_NoDeed, kC_NoDeed, bC_NoDeed, tC_NoDeed, iC_NoDeed⟩
  have mC_Heap := PySem.W.mg_of X G aC_Heap
  have T : HeapTxt K mg C_Heap := ⟨⟨pg_Heap, hd_Heap, po_Heap, sa_Heap⟩, n_hands, n_room, n_rows, n_made, n_ended, n_old, n_marks, n_line, n_unswept, mC_Heap⟩
  have m_COUNTS := PySem.W.mg_of X G aD_COUNTS
  have KD_COUNTS : KDict K w C_COUNTS es_COUNTS n_COUNTS := ⟨lD_COUNTS, kD_COUNTS, sD_COUNTS⟩
  have m_ACTIONS := PySem.W.mg_of X G aD_ACTIONS
  have KD_ACTIONS : KDict K w C_ACTIONS es_ACTIONS n_ACTIONS := ⟨lD_ACTIONS, kD_ACTIONS, sD_ACTIONS⟩
  have m_MOST_HANDS := PySem.W.mg_of X G aN_MOST_HANDS
  have m_MOST_ROOM := PySem.W.mg_of X G aN_MOST_ROOM
  have m_MOST_SLOTS := PySem.W.mg_of X G aN_MOST_SLOTS
  have m_MOST_PIECES := PySem.W.mg_of X G aN_MOST_PIECES
  have m_MOST_FIGURES := PySem.W.mg_of X G aN_MOST_FIGURES
  have F_Heap___init__ := fun_mk (st := sHeapInit) l_Heap___init__ c_Heap___init__ k_Heap___init__
  have b_Heap___init__ := F_Heap___init__.binds (ps := ["self", "hands", "room"]) fun _ _ _ _ _ _ us hl => match us, hl with | [_, _, _], _ => rfl
  have F_Heap_make := fun_mk (st := sHeapMake) l_Heap_make c_Heap_make k_Heap_make
  have b_Heap_make := F_Heap_make.binds (ps := ["self", "hand", "slots"]) fun _ _ _ _ _ _ us hl => match us, hl with | [_, _, _], _ => rfl
  have F_Heap_take := fun_mk (st := sHeapTake) l_Heap_take c_Heap_take k_Heap_take
  have b_Heap_take := F_Heap_take.binds (ps := ["self", "hand", "other", "slot"]) fun _ _ _ _ _ _ us hl => match us, hl with | [_, _, _, _], _ => rfl
  have F_Heap_put := fun_mk (st := sHeapPut) l_Heap_put c_Heap_put k_Heap_put
  have b_Heap_put := F_Heap_put.binds (ps := ["self", "hand", "slot", "other"]) fun _ _ _ _ _ _ us hl => match us, hl with | [_, _, _, _], _ => rfl
  have F_Heap_share := fun_mk (st := sHeapShare) l_Heap_share c_Heap_share k_Heap_share
  have b_Heap_share := F_Heap_share.binds (ps := ["self", "hand", "other"]) fun _ _ _ _ _ _ us hl => match us, hl with | [_, _, _], _ => rfl
  have F_Heap_drop := fun_mk (st := sHeapDrop) l_Heap_drop c_Heap_drop k_Heap_drop
  have b_Heap_drop := F_Heap_drop.binds (ps := ["self", "hand"]) fun _ _ _ _ _ _ us hl => match us, hl with | [_, _], _ => rfl
  have F_Heap_held := fun_mk (st := sHeapHeld) l_Heap_held c_Heap_held k_Heap_held
  have b_Heap_held := F_Heap_held.binds (ps := ["self", "hand"]) fun _ _ _ _ _ _ us hl => match us, hl with | [_, _], _ => rfl
  have F_Heap_boxes := fun_mk (st := sHeapBoxes) l_Heap_boxes c_Heap_boxes k_Heap_boxes
  have b_Heap_boxes := F_Heap_boxes.binds (ps := ["self"]) fun _ _ _ _ _ _ us hl => match us, hl with | [_], _ => rfl
  have F_Heap_work := fun_mk (st := sHeapWork) l_Heap_work c_Heap_work k_Heap_work
  have b_Heap_work := F_Heap_work.binds (ps := ["self", "pieces"]) fun _ _ _ _ _ _ us hl => match us, hl with | [_, _], _ => rfl
  have F_Heap_phase := fun_mk (st := sHeapPhase) l_Heap_phase c_Heap_phase k_Heap_phase
  have b_Heap_phase := F_Heap_phase.binds (ps := ["self"]) fun _ _ _ _ _ _ us hl => match us, hl with | [_], _ => rfl
  have F_Heap__do_piece := fun_mk (st := sHeapDoPiece) l_Heap__do_piece c_Heap__do_piece k_Heap__do_piece
  have b_Heap__do_piece := F_Heap__do_piece.binds (ps := ["self"]) fun _ _ _ _ _ _ us hl => match us, hl with | [_], _ => rfl
  have F_Heap__begin_round := fun_mk (st := sHeapBeginRound) l_Heap__begin_round c_Heap__begin_round k_Heap__begin_round
  have b_Heap__begin_round := F_Heap__begin_round.binds (ps := ["self"]) fun _ _ _ _ _ _ us hl => match us, hl with | [_], _ => rfl
  have F_Heap__mark_on := fun_mk (st := sHeapMarkOn) l_Heap__mark_on c_Heap__mark_on k_Heap__mark_on
  have b_Heap__mark_on := F_Heap__mark_on.binds (ps := ["self"]) fun _ _ _ _ _ _ us hl => match us, hl with | [_], _ => rfl
  have F_Heap__sweep_on := fun_mk (st := sHeapSweepOn) l_Heap__sweep_on c_Heap__sweep_on k_Heap__sweep_on
  have b_Heap__sweep_on := F_Heap__sweep_on.binds (ps := ["self"]) fun _ _ _ _ _ _ us hl => match us, hl with | [_], _ => rfl
  have F_Heap__end_round := fun_mk (st := sHeapEndRound) l_Heap__end_round c_Heap__end_round k_Heap__end_round
  have b_Heap__end_round := F_Heap__end_round.binds (ps := ["self"]) fun _ _ _ _ _ _ us hl => match us, hl with | [_], _ => rfl
  have F_Heap__mark := fun_mk (st := sHeapMark) l_Heap__mark c_Heap__mark k_Heap__mark
  have b_Heap__mark := F_Heap__mark.binds (ps := ["self", "box"]) fun _ _ _ _ _ _ us hl => match us, hl with | [_, _], _ => rfl
  have F_Heap__need_hand := fun_mk (st := sHeapNeedHand) l_Heap__need_hand c_Heap__need_hand k_Heap__need_hand
  have b_Heap__need_hand := F_Heap__need_hand.binds (ps := ["self", "hand"]) fun _ _ _ _ _ _ us hl => match us, hl with | [_, _], _ => rfl
  have F_Heap__row_with := fun_mk (st := sHeapRowWith) l_Heap__row_with c_Heap__row_with k_Heap__row_with
  have b_Heap__row_with := F_Heap__row_with.binds (ps := ["self", "hand", "slot"]) fun _ _ _ _ _ _ us hl => match us, hl with | [_, _, _], _ => rfl
  have F_read := fun_mk (st := sRead) l_read c_read k_read
  have b_read := F_read.binds (ps := ["line"]) fun _ _ _ _ _ _ us hl => match us, hl with | [_], _ => rfl
  have m_read := PySem.W.mg_of X G a_read
  have F_is_number := fun_mk (st := sIsNumber) l_is_number c_is_number k_is_number
  have b_is_number := F_is_number.binds (ps := ["text"]) fun _ _ _ _ _ _ us hl => match us, hl with | [_], _ => rfl
  have m_is_number := PySem.W.mg_of X G a_is_number
  have F_make := fun_mk (st := sMake) l_make c_make k_make
  have b_make := F_make.binds (ps := ["heap", "hand", "slots"]) fun _ _ _ _ _ _ us hl => match us, hl with | [_, _, _], _ => rfl
  have m_make := PySem.W.mg_of X G a_make
  have F_take := fun_mk (st := sTake) l_take c_take k_take
  have b_take := F_take.binds (ps := ["heap", "hand", "other", "slot"]) fun _ _ _ _ _ _ us hl => match us, hl with | [_, _, _, _], _ => rfl
  have m_take := PySem.W.mg_of X G a_take
  have F_put := fun_mk (st := sPut) l_put c_put k_put
  have b_put := F_put.binds (ps := ["heap", "hand", "slot", "other"]) fun _ _ _ _ _ _ us hl => match us, hl with | [_, _, _, _], _ => rfl
  have m_put := PySem.W.mg_of X G a_put
  have F_share := fun_mk (st := sShare) l_share c_share k_share
  have b_share := F_share.binds (ps := ["heap", "hand", "other"]) fun _ _ _ _ _ _ us hl => match us, hl with | [_, _, _], _ => rfl
  have m_share := PySem.W.mg_of X G a_share
  have F_drop := fun_mk (st := sDrop) l_drop c_drop k_drop
  have b_drop := F_drop.binds (ps := ["heap", "hand"]) fun _ _ _ _ _ _ us hl => match us, hl with | [_, _], _ => rfl
  have m_drop := PySem.W.mg_of X G a_drop
  have F_work := fun_mk (st := sWork) l_work c_work k_work
  have b_work := F_work.binds (ps := ["heap", "pieces"]) fun _ _ _ _ _ _ us hl => match us, hl with | [_, _], _ => rfl
  have m_work := PySem.W.mg_of X G a_work
  have F_holds := fun_mk (st := sHolds) l_holds c_holds k_holds
  have b_holds := F_holds.binds (ps := ["heap", "hand"]) fun _ _ _ _ _ _ us hl => match us, hl with | [_, _], _ => rfl
  have m_holds := PySem.W.mg_of X G a_holds
  have F_done := fun_mk (st := sDone) l_done c_done k_done
  have b_done := F_done.binds (ps := ["heap", "line"]) fun _ _ _ _ _ _ us hl => match us, hl with | [_, _], _ => rfl
  have m_done := PySem.W.mg_of X G a_done
  have F_answered := fun_mk (st := sAnswered) l_answered c_answered k_answered
  have b_answered := F_answered.binds (ps := ["heap", "line"]) fun _ _ _ _ _ _ us hl => match us, hl with | [_, _], _ => rfl
  have m_answered := PySem.W.mg_of X G a_answered
  have F_played := fun_mk (st := sPlayed) l_played c_played k_played
  have b_played := F_played.binds (ps := ["hands", "room", "lines"]) fun _ _ _ _ _ _ us hl => match us, hl with | [_, _, _], _ => rfl
  have m_played := PySem.W.mg_of X G a_played
  have F__law_cell_at := fun_mk (st := sCellAt) l__law_cell_at c__law_cell_at k__law_cell_at
  have b__law_cell_at := F__law_cell_at.binds (ps := ["_law_script", "_law_k"]) fun _ _ _ _ _ _ us hl => match us, hl with | [_, _], _ => rfl
  have m__law_cell_at := PySem.W.mg_of X G a__law_cell_at
  have F__law_mixed_at := fun_mk (st := sMixedAt) l__law_mixed_at c__law_mixed_at k__law_mixed_at
  have b__law_mixed_at := F__law_mixed_at.binds (ps := ["_law_script", "_law_k"]) fun _ _ _ _ _ _ us hl => match us, hl with | [_, _], _ => rfl
  have m__law_mixed_at := PySem.W.mg_of X G a__law_mixed_at
  have F__law_came := fun_mk (st := sCame) l__law_came c__law_came k__law_came
  have b__law_came := F__law_came.binds (ps := ["_law_hands_here", "_law_rows"]) fun _ _ _ _ _ _ us hl => match us, hl with | [_, _], _ => rfl
  have m__law_came := PySem.W.mg_of X G a__law_came
  have F__law_parts := fun_mk (st := sParts) l__law_parts c__law_parts k__law_parts
  have b__law_parts := F__law_parts.binds (ps := ["_law_cell", "_law_many"]) fun _ _ _ _ _ _ us hl => match us, hl with | [_, _], _ => rfl
  have m__law_parts := PySem.W.mg_of X G a__law_parts
  have F__law_pieces := fun_mk (st := sPieces) l__law_pieces c__law_pieces k__law_pieces
  have b__law_pieces := F__law_pieces.binds (ps := ["_law_state", "_law_pieces_here"]) fun _ _ _ _ _ _ us hl => match us, hl with | [_, _], _ => rfl
  have m__law_pieces := PySem.W.mg_of X G a__law_pieces
  have F__law_held := fun_mk (st := sLwHeld) l__law_held c__law_held k__law_held
  have b__law_held := F__law_held.binds (ps := ["_law_box"]) fun _ _ _ _ _ _ us hl => match us, hl with | [_], _ => rfl
  have m__law_held := PySem.W.mg_of X G a__law_held
  have F__law_slotted := fun_mk (st := sSlotted) l__law_slotted c__law_slotted k__law_slotted
  have b__law_slotted := F__law_slotted.binds (ps := ["_law_state", "_law_parts_here"]) fun _ _ _ _ _ _ us hl => match us, hl with | [_, _], _ => rfl
  have m__law_slotted := PySem.W.mg_of X G a__law_slotted
  have F__law_made := fun_mk (st := sMade) l__law_made c__law_made k__law_made
  have b__law_made := F__law_made.binds (ps := ["_law_state", "_law_parts_here", "_law_room"]) fun _ _ _ _ _ _ us hl => match us, hl with | [_, _, _], _ => rfl
  have m__law_made := PySem.W.mg_of X G a__law_made
  have F__law_hands := fun_mk (st := sHands) l__law_hands c__law_hands k__law_hands
  have b__law_hands := F__law_hands.binds (ps := ["_law_parts_here"]) fun _ _ _ _ _ _ us hl => match us, hl with | [_], _ => rfl
  have m__law_hands := PySem.W.mg_of X G a__law_hands
  have F__law_answer := fun_mk (st := sAnswer) l__law_answer c__law_answer k__law_answer
  have b__law_answer := F__law_answer.binds (ps := ["_law_state", "_law_parts_here", "_law_many", "_law_room"]) fun _ _ _ _ _ _ us hl => match us, hl with | [_, _, _, _], _ => rfl
  have m__law_answer := PySem.W.mg_of X G a__law_answer
  have F_law := fun_mk (st := sLaw) l_law c_law k_law
  have b_law := F_law.binds (ps := ["_law_script"]) fun _ _ _ _ _ _ us hl => match us, hl with | [_], _ => rfl
  have m_law := PySem.W.mg_of X G a_law
  have m_all := PySem.W.mg_none_of X G z_all
  have m_int := PySem.W.mg_none_of X G z_int
  have m_isinstance := PySem.W.mg_none_of X G z_isinstance
  have m_len := PySem.W.mg_none_of X G z_len
  have m_list := PySem.W.mg_none_of X G z_list
  have m_max := PySem.W.mg_none_of X G z_max
  have m_min := PySem.W.mg_none_of X G z_min
  have m_range := PySem.W.mg_none_of X G z_range
  have m_sorted := PySem.W.mg_none_of X G z_sorted
  have m_str := PySem.W.mg_none_of X G z_str
  refine ⟨PySem.W.fnOf "law" "law" (defArgs sLaw) (defBody sLaw) (defScope sLaw) .none kV_law dc_law pm_law an_law cd_law ct_law, fun s v => .of_eq rfl, fun base _ _ => ?_⟩
  let EC : ECs := ⟨C_NoHand, C_NoSlot, C_NoRoom, C_NothingHeld, C_NoHand, C_NoWork, C_NoHeap, C_NoDeed⟩
  have D__need_hand : Dm l.prog w K mg base (CX l.prog w) 1 C_Heap "_need_hand" f_Heap__need_hand _ ["self", "hand"] (spNeed C_Heap EC) := ⟨T.cl, ⟨a_Heap__need_hand, i_Heap__need_hand, k_Heap__need_hand⟩, ok_need F_Heap__need_hand T T_NoHand m_len, b_Heap__need_hand⟩
  have D__row_with : Dm l.prog w K mg base (CX l.prog w) 1 C_Heap "_row_with" f_Heap__row_with _ ["self", "hand", "slot"] (spRow C_Heap EC) := ⟨T.cl, ⟨a_Heap__row_with, i_Heap__row_with, k_Heap__row_with⟩, ok_row F_Heap__row_with T T_NothingHeld T_NoSlot m_len, b_Heap__row_with⟩
  have D_phase : Dm l.prog w K mg base CX0 1 C_Heap "phase" f_Heap_phase _ ["self"] (spPhase C_Heap) := ⟨T.cl, ⟨a_Heap_phase, i_Heap_phase, k_Heap_phase⟩, ok_phase F_Heap_phase T, b_Heap_phase⟩
  have D__mark : Dm l.prog w K mg base CX0 1 C_Heap "_mark" f_Heap__mark _ ["self", "box"] (spMark C_Heap) := ⟨T.cl, ⟨a_Heap__mark, i_Heap__mark, k_Heap__mark⟩, ok_mark F_Heap__mark T, b_Heap__mark⟩
  have D_Heap : Dc l.prog w K mg base (CX l.prog w) 1 C_Heap "Heap" f_Heap___init__ _ ["self", "hands", "room"] (spInit C_Heap EC) := ⟨⟨mk_Heap, a_Heap___init__, i_Heap___init__, kc_Heap⟩, ok_init F_Heap___init__ T T_NoHeap m_MOST_HANDS m_MOST_ROOM, mC_Heap, b_Heap___init__⟩
  have D_make : Dm l.prog w K mg base (CX l.prog w) 2 C_Heap "make" f_Heap_make _ ["self", "hand", "slots"] (spMake C_Heap EC) := ⟨T.cl, ⟨a_Heap_make, i_Heap_make, k_Heap_make⟩, ok_make F_Heap_make T D__need_hand T_NoSlot T_NoRoom m_MOST_SLOTS m_len, b_Heap_make⟩
  have D_take : Dm l.prog w K mg base (CX l.prog w) 2 C_Heap "take" f_Heap_take _ ["self", "hand", "other", "slot"] (spTake C_Heap EC) := ⟨T.cl, ⟨a_Heap_take, i_Heap_take, k_Heap_take⟩, ok_take F_Heap_take T D__need_hand D__row_with, b_Heap_take⟩
  have D_put : Dm l.prog w K mg base (CX l.prog w) 2 C_Heap "put" f_Heap_put _ ["self", "hand", "slot", "other"] (spPut C_Heap EC) := ⟨T.cl, ⟨a_Heap_put, i_Heap_put, k_Heap_put⟩, ok_put F_Heap_put T D__need_hand D__row_with D_phase D__mark, b_Heap_put⟩
  have D_share : Dm l.prog w K mg base (CX l.prog w) 2 C_Heap "share" f_Heap_share _ ["self", "hand", "other"] (spShare C_Heap EC) := ⟨T.cl, ⟨a_Heap_share, i_Heap_share, k_Heap_share⟩, ok_share F_Heap_share T D__need_hand, b_Heap_share⟩
  have D_drop : Dm l.prog w K mg base (CX l.prog w) 2 C_Heap "drop" f_Heap_drop _ ["self", "hand"] (spDrop C_Heap EC) := ⟨T.cl, ⟨a_Heap_drop, i_Heap_drop, k_Heap_drop⟩, ok_drop F_Heap_drop T D__need_hand, b_Heap_drop⟩
  have D_held : Dm l.prog w K mg base (CX l.prog w) 2 C_Heap "held" f_Heap_held _ ["self", "hand"] (spHeld C_Heap EC) := ⟨T.cl, ⟨a_Heap_held, i_Heap_held, k_Heap_held⟩, ok_held F_Heap_held T D__need_hand, b_Heap_held⟩
  have D_boxes : Dm l.prog w K mg base CX0 1 C_Heap "boxes" f_Heap_boxes _ ["self"] (spList C_Heap HS.keys) := ⟨T.cl, ⟨a_Heap_boxes, i_Heap_boxes, k_Heap_boxes⟩, ok_boxes F_Heap_boxes T m_sorted, b_Heap_boxes⟩
  have D__end_round : Dm l.prog w K mg base CX0 1 C_Heap "_end_round" f_Heap__end_round _ ["self"] (spEnd C_Heap) := ⟨T.cl, ⟨a_Heap__end_round, i_Heap__end_round, k_Heap__end_round⟩, ok_end F_Heap__end_round T, b_Heap__end_round⟩
  have D__sweep_on : Dm l.prog w K mg base CX0 1 C_Heap "_sweep_on" f_Heap__sweep_on _ ["self"] (spSweepOn C_Heap) := ⟨T.cl, ⟨a_Heap__sweep_on, i_Heap__sweep_on, k_Heap__sweep_on⟩, ok_sweep F_Heap__sweep_on T, b_Heap__sweep_on⟩
  have D__mark_on : Dm l.prog w K mg base CX0 2 C_Heap "_mark_on" f_Heap__mark_on _ ["self"] (spMarkOn C_Heap) := ⟨T.cl, ⟨a_Heap__mark_on, i_Heap__mark_on, k_Heap__mark_on⟩, ok_markOn F_Heap__mark_on T D__mark, b_Heap__mark_on⟩
  have D__begin_round : Dm l.prog w K mg base CX0 2 C_Heap "_begin_round" f_Heap__begin_round _ ["self"] (spBegin C_Heap) := ⟨T.cl, ⟨a_Heap__begin_round, i_Heap__begin_round, k_Heap__begin_round⟩, ok_begin F_Heap__begin_round T D__mark m_sorted, b_Heap__begin_round⟩
  have D__do_piece : Dm l.prog w K mg base CX0 3 C_Heap "_do_piece" f_Heap__do_piece _ ["self"] (spPiece C_Heap) := ⟨T.cl, ⟨a_Heap__do_piece, i_Heap__do_piece, k_Heap__do_piece⟩, ok_piece F_Heap__do_piece T D_phase D__begin_round D__mark_on D__sweep_on D__end_round, b_Heap__do_piece⟩
  have D_work : Dm l.prog w K mg base (CX l.prog w) 4 C_Heap "work" f_Heap_work _ ["self", "pieces"] (spWork C_Heap EC) := ⟨T.cl, ⟨a_Heap_work, i_Heap_work, k_Heap_work⟩, ok_work F_Heap_work T T_NoWork D__do_piece m_MOST_PIECES m_range, b_Heap_work⟩
  have D_cell : Df l.prog w K mg base CX0 1 "_law_cell_at" f__law_cell_at _ ["_law_script", "_law_k"] (spCell K) := ⟨ok_cell F__law_cell_at m_len, m__law_cell_at, k__law_cell_at, b__law_cell_at⟩
  have D_mixedAt : Df l.prog w K mg base CX0 2 "_law_mixed_at" f__law_mixed_at _ ["_law_script", "_law_k"] (spMixedAt K) := ⟨ok_mixedAt F__law_mixed_at D_cell, m__law_mixed_at, k__law_mixed_at, b__law_mixed_at⟩
  have D_isNumber : Df l.prog w K mg base CX0 1 "is_number" f_is_number _ ["text"] spIsNum := ⟨ok_isNumber F_is_number m_len m_MOST_FIGURES, m_is_number, k_is_number, b_is_number⟩
  have D_read : Df l.prog w K mg base (CX l.prog w) 2 "read" f_read _ ["line"] (spRead EC) := ⟨ok_read F_read D_isNumber KD_COUNTS (cnt_at lD_COUNTS vD_COUNTS) m_COUNTS T_NoDeed m_len m_all m_int, m_read, k_read, b_read⟩
  have D_holds : Df l.prog w K mg base CX0 3 "holds" f_holds _ ["heap", "hand"] (MK.spHolds C_Heap) := ⟨ok_holds (EC := EC) F_holds D_held, m_holds, k_holds, b_holds⟩
  have hact : ∀ u k, cntOf u = some k → ∃ fw, PySem.W.nsIn K C_ACTIONS u = some (some (.ref fw)) ∧ Act l.prog w K mg base (CX l.prog w) 5 fw (spAct C_Heap EC u) := by
    intro u k hc
    have at6 := six_at lD_ACTIONS vD_ACTIONS u
    rcases cnt_cases hc with ⟨rfl, _⟩ | ⟨rfl, _⟩ | ⟨rfl, _⟩ | ⟨rfl, _⟩ | ⟨rfl, _⟩ | ⟨rfl, _⟩
    · simp only [if_true] at at6
      exact ⟨f_make, at6, _, _, (ok_amake F_make D_make).mono (by decide), k_make, b_make⟩
    · simp only [sn_take_make, if_true, if_false] at at6
      exact ⟨f_take, at6, _, _, (ok_atake F_take D_take D_holds).mono (by decide), k_take, b_take⟩
    · simp only [sn_put_make, sn_put_take, if_true, if_false] at at6
      exact ⟨f_put, at6, _, _, (ok_aput F_put D_put).mono (by decide), k_put, b_put⟩
    · simp only [sn_share_make, sn_share_take, sn_share_put, if_true, if_false] at at6
      exact ⟨f_share, at6, _, _, (ok_ashare F_share D_share D_holds).mono (by decide), k_share, b_share⟩
    · simp only [sn_drop_make, sn_drop_take, sn_drop_put, sn_drop_share, if_true, if_false] at at6
      exact ⟨f_drop, at6, _, _, (ok_adrop F_drop D_drop).mono (by decide), k_drop, b_drop⟩
    · simp only [sn_work_make, sn_work_take, sn_work_put, sn_work_share, sn_work_drop, if_true, if_false] at at6
      exact ⟨f_work, at6, _, _, ok_awork F_work D_work m_str, k_work, b_work⟩
  have D_done12 : Df l.prog w K mg base (CX l.prog w) 6 "done" f_done _ ["heap", "line"] (MK.spDone C_Heap EC) := ⟨ok_done F_done D_read KD_ACTIONS m_ACTIONS hact, m_done, k_done, b_done⟩
  have SB : ∀ i j, i ∈ [0, 1, 2, 3, 5, 7] → j ∈ [0, 1, 2, 3, 5, 7] → PySem.W.subIn K (.ref (ecAt EC i)) (.ref (ecAt EC j)) = some (decide (i = j)) := by
    intro i j hi hj
    have hi' : i = 0 ∨ i = 1 ∨ i = 2 ∨ i = 3 ∨ i = 5 ∨ i = 7 := by simpa using hi
    have hj' : j = 0 ∨ j = 1 ∨ j = 2 ∨ j = 3 ∨ j = 5 ∨ j = 7 := by simpa using hj
    rcases hi' with rfl | rfl | rfl | rfl | rfl | rfl <;> rcases hj' with rfl | rfl | rfl | rfl | rfl | rfl
    · exact sub_NoHand_NoHand
    · exact sub_NoHand_NoSlot
    · exact sub_NoHand_NoRoom
    · exact sub_NoHand_NothingHeld
    · exact sub_NoHand_NoWork
    · exact sub_NoHand_NoDeed
    · exact sub_NoSlot_NoHand
    · exact sub_NoSlot_NoSlot
    · exact sub_NoSlot_NoRoom
    · exact sub_NoSlot_NothingHeld
    · exact sub_NoSlot_NoWork
    · exact sub_NoSlot_NoDeed
    · exact sub_NoRoom_NoHand
    · exact sub_NoRoom_NoSlot
    · exact sub_NoRoom_NoRoom
    · exact sub_NoRoom_NothingHeld
    · exact sub_NoRoom_NoWork
    · exact sub_NoRoom_NoDeed
    · exact sub_NothingHeld_NoHand
    · exact sub_NothingHeld_NoSlot
    · exact sub_NothingHeld_NoRoom
    · exact sub_NothingHeld_NothingHeld
    · exact sub_NothingHeld_NoWork
    · exact sub_NothingHeld_NoDeed
    · exact sub_NoWork_NoHand
    · exact sub_NoWork_NoSlot
    · exact sub_NoWork_NoRoom
    · exact sub_NoWork_NothingHeld
    · exact sub_NoWork_NoWork
    · exact sub_NoWork_NoDeed
    · exact sub_NoDeed_NoHand
    · exact sub_NoDeed_NoSlot
    · exact sub_NoDeed_NoRoom
    · exact sub_NoDeed_NothingHeld
    · exact sub_NoDeed_NoWork
    · exact sub_NoDeed_NoDeed
  have D_answered : Df l.prog w K mg base CX0 7 "answered" f_answered _ ["heap", "line"] (spAnswered C_Heap) := ⟨ok_answered (EC := EC) F_answered D_done12 T_NoHand T_NoSlot T_NoRoom T_NothingHeld T_NoWork T_NoDeed SB, m_answered, k_answered, b_answered⟩
  have D_played12 : Df l.prog w K mg base CX0 8 "played" f_played _ ["hands", "room", "lines"] spPlayed12 := ⟨ok_played12 F_played D_Heap D_answered, m_played, k_played, b_played⟩
  have D_came12 : Df l.prog w K mg base CX0 1 "_law_came" f__law_came _ (["_law_hands_here", "_law_rows"]) spCame := ⟨ok_came F__law_came m_len, m__law_came, k__law_came, b__law_came⟩
  have D_parts12 : Df l.prog w K mg base CX0 1 "_law_parts" f__law_parts _ (["_law_cell", "_law_many"]) spParts := ⟨ok_parts F__law_parts m_int, m__law_parts, k__law_parts, b__law_parts⟩
  have D_pieces12 : Df l.prog w K mg base CX0 2 "_law_pieces" f__law_pieces _ (["_law_state", "_law_pieces_here"]) spPieces12 := ⟨ok_pieces12 F__law_pieces D_came12 m_range m_str, m__law_pieces, k__law_pieces, b__law_pieces⟩
  have D_held12 : Df l.prog w K mg base CX0 1 "_law_held" f__law_held _ (["_law_box"]) spLwHeld := ⟨ok_lwHeld F__law_held m_str, m__law_held, k__law_held, b__law_held⟩
  have D_slotted12 : Df l.prog w K mg base CX0 2 "_law_slotted" f__law_slotted _ (["_law_state", "_law_parts_here"]) spSlotted := ⟨ok_slotted F__law_slotted D_held12 m_len, m__law_slotted, k__law_slotted, b__law_slotted⟩
  have D_made12 : Df l.prog w K mg base CX0 1 "_law_made" f__law_made _ (["_law_state", "_law_parts_here", "_law_room"]) spMadeL := ⟨ok_madeL F__law_made m_len m_range m_str, m__law_made, k__law_made, b__law_made⟩
  have D_hands12 : Df l.prog w K mg base CX0 1 "_law_hands" f__law_hands _ (["_law_parts_here"]) spHandsL := ⟨ok_hands F__law_hands, m__law_hands, k__law_hands, b__law_hands⟩
  have D_answer12 : Df l.prog w K mg base CX0 3 "_law_answer" f__law_answer _ (["_law_state", "_law_parts_here", "_law_many", "_law_room"]) spAnswerL := ⟨ok_answerL F__law_answer D_pieces12 D_hands12 D_made12 D_slotted12 D_held12 m_len m_max, m__law_answer, k__law_answer, b__law_answer⟩
  exact ok_law F_law D_mixedAt D_parts12 D_played12 D_answer12 m_range m_min m_len m_str m_list m_isinstance
end MK
open PySem PySem.W PyProof.Rows
set_option maxHeartbeats 0 in
theorem PySem.Challenge.cw_markpause_k12_played_holds : PySem.Challenge.rw_markpause_k12_played.Holds := by
  w_on; o_law; k_head; (case hw => w_witness2)
  k_fill
  refine L2.walk_of (l := PySem.Challenge.rw_markpause_k12_played) (n := 63) (k := 9) (x := "_law_script") (CX := fun _ => L2.CX0) (sp := fun w => MP.spLaw _) rfl (by decide) rfl ⟨rfl, by decide, by decide⟩ (fun w h Y => PySem.W.kIn_of Y) ?F (fun _ _ a ns hl _ hS => ⟨a, ns, rfl, hS, hl, fun _ => rfl⟩) (fun _ _ _ _ _ h => h)
  case F =>
    intro w mg fa h KX G hmg
    refine' MK.all_mk KX G hmg ?aC_HeapError ?xC_HeapError ?kC_HeapError ?bC_HeapError ?tC_HeapError ?iC_HeapError ?aC_NoHand ?xC_NoHand ?kC_NoHand ?bC_NoHand ?tC_NoHand ?iC_NoHand ?aC_NoSlot ?xC_NoSlot ?kC_NoSlot ?bC_NoSlot ?tC_NoSlot ?iC_NoSlot ?aC_NoRoom ?xC_NoRoom ?kC_NoRoom ?bC_NoRoom ?tC_NoRoom ?iC_NoRoom ?aC_NothingHeld ?xC_NothingHeld ?kC_NothingHeld ?bC_NothingHeld ?tC_NothingHeld ?iC_NothingHeld ?aC_NoWork ?xC_NoWork ?kC_NoWork ?bC_NoWork ?tC_NoWork ?iC_NoWork ?aC_NoHeap ?xC_NoHeap ?kC_NoHeap ?bC_NoHeap ?tC_NoHeap ?iC_NoHeap ?aC_NoDeed ?xC_NoDeed ?kC_NoDeed ?bC_NoDeed ?tC_NoDeed ?iC_NoDeed ?aC_Heap ?pg_Heap ?hd_Heap ?po_Heap ?sa_Heap ?mk_Heap ?kc_Heap ?n_hands ?n_room ?n_rows ?n_made ?n_ended ?n_old ?n_marks ?n_line ?n_unswept ?sub_NoHand_NoHand ?sub_NoHand_NoSlot ?sub_NoHand_NoRoom ?sub_NoHand_NothingHeld ?sub_NoHand_NoWork ?sub_NoHand_NoDeed ?sub_NoSlot_NoHand ?sub_NoSlot_NoSlot ?sub_NoSlot_NoRoom ?sub_NoSlot_NothingHeld ?sub_NoSlot_NoWork ?sub_NoSlot_NoDeed ?sub_NoRoom_NoHand ?sub_NoRoom_NoSlot ?sub_NoRoom_NoRoom ?sub_NoRoom_NothingHeld ?sub_NoRoom_NoWork ?sub_NoRoom_NoDeed ?sub_NothingHeld_NoHand ?sub_NothingHeld_NoSlot ?sub_NothingHeld_NoRoom ?sub_NothingHeld_NothingHeld ?sub_NothingHeld_NoWork ?sub_NothingHeld_NoDeed ?sub_NoWork_NoHand ?sub_NoWork_NoSlot ?sub_NoWork_NoRoom ?sub_NoWork_NothingHeld ?sub_NoWork_NoWork ?sub_NoWork_NoDeed ?sub_NoDeed_NoHand ?sub_NoDeed_NoSlot ?sub_NoDeed_NoRoom ?sub_NoDeed_NothingHeld ?sub_NoDeed_NoWork ?sub_NoDeed_NoDeed ?aD_COUNTS ?lD_COUNTS ?kD_COUNTS ?sD_COUNTS ?vD_COUNTS ?aD_ACTIONS ?lD_ACTIONS ?kD_ACTIONS ?sD_ACTIONS ?vD_ACTIONS ?aN_MOST_HANDS ?aN_MOST_ROOM ?aN_MOST_SLOTS ?aN_MOST_PIECES ?aN_MOST_FIGURES ?a_Heap___init__ ?i_Heap___init__ ?l_Heap___init__ ?c_Heap___init__ ?k_Heap___init__ ?a_Heap_make ?i_Heap_make ?l_Heap_make ?c_Heap_make ?k_Heap_make ?a_Heap_take ?i_Heap_take ?l_Heap_take ?c_Heap_take ?k_Heap_take ?a_Heap_put ?i_Heap_put ?l_Heap_put ?c_Heap_put ?k_Heap_put ?a_Heap_share ?i_Heap_share ?l_Heap_share ?c_Heap_share ?k_Heap_share ?a_Heap_drop ?i_Heap_drop ?l_Heap_drop ?c_Heap_drop ?k_Heap_drop ?a_Heap_held ?i_Heap_held ?l_Heap_held ?c_Heap_held ?k_Heap_held ?a_Heap_boxes ?i_Heap_boxes ?l_Heap_boxes ?c_Heap_boxes ?k_Heap_boxes ?a_Heap_work ?i_Heap_work ?l_Heap_work ?c_Heap_work ?k_Heap_work ?a_Heap_phase ?i_Heap_phase ?l_Heap_phase ?c_Heap_phase ?k_Heap_phase ?a_Heap__do_piece ?i_Heap__do_piece ?l_Heap__do_piece ?c_Heap__do_piece ?k_Heap__do_piece ?a_Heap__begin_round ?i_Heap__begin_round ?l_Heap__begin_round ?c_Heap__begin_round ?k_Heap__begin_round ?a_Heap__mark_on ?i_Heap__mark_on ?l_Heap__mark_on ?c_Heap__mark_on ?k_Heap__mark_on ?a_Heap__sweep_on ?i_Heap__sweep_on ?l_Heap__sweep_on ?c_Heap__sweep_on ?k_Heap__sweep_on ?a_Heap__end_round ?i_Heap__end_round ?l_Heap__end_round ?c_Heap__end_round ?k_Heap__end_round ?a_Heap__mark ?i_Heap__mark ?l_Heap__mark ?c_Heap__mark ?k_Heap__mark ?a_Heap__need_hand ?i_Heap__need_hand ?l_Heap__need_hand ?c_Heap__need_hand ?k_Heap__need_hand ?a_Heap__row_with ?i_Heap__row_with ?l_Heap__row_with ?c_Heap__row_with ?k_Heap__row_with ?a_read ?l_read ?c_read ?k_read ?a_is_number ?l_is_number ?c_is_number ?k_is_number ?a_make ?l_make ?c_make ?k_make ?a_take ?l_take ?c_take ?k_take ?a_put ?l_put ?c_put ?k_put ?a_share ?l_share ?c_share ?k_share ?a_drop ?l_drop ?c_drop ?k_drop ?a_work ?l_work ?c_work ?k_work ?a_holds ?l_holds ?c_holds ?k_holds ?a_done ?l_done ?c_done ?k_done ?a_answered ?l_answered ?c_answered ?k_answered ?a_played ?l_played ?c_played ?k_played ?a__law_cell_at ?l__law_cell_at ?c__law_cell_at ?k__law_cell_at ?a__law_mixed_at ?l__law_mixed_at ?c__law_mixed_at ?k__law_mixed_at ?a__law_came ?l__law_came ?c__law_came ?k__law_came ?a__law_parts ?l__law_parts ?c__law_parts ?k__law_parts ?a__law_pieces ?l__law_pieces ?c__law_pieces ?k__law_pieces ?a__law_held ?l__law_held ?c__law_held ?k__law_held ?a__law_slotted ?l__law_slotted ?c__law_slotted ?k__law_slotted ?a__law_made ?l__law_made ?c__law_made ?k__law_made ?a__law_hands ?l__law_hands ?c__law_hands ?k__law_hands ?a__law_answer ?l__law_answer ?c__law_answer ?k__law_answer ?a_law ?l_law ?c_law ?k_law ?z_all ?z_int ?z_isinstance ?z_len ?z_list ?z_max ?z_min ?z_range ?z_sorted ?z_str
    (case aC_HeapError => k_is); (case xC_HeapError => k_exc); (case kC_HeapError => k_is); (case bC_HeapError => k_is); (case tC_HeapError => k_is); (case iC_HeapError => k_is); (case aC_NoHand => k_is); (case xC_NoHand => k_exc); (case kC_NoHand => k_is); (case bC_NoHand => k_is); (case tC_NoHand => k_is); (case iC_NoHand => k_is); (case aC_NoSlot => k_is); (case xC_NoSlot => k_exc); (case kC_NoSlot => k_is); (case bC_NoSlot => k_is); (case tC_NoSlot => k_is); (case iC_NoSlot => k_is); (case aC_NoRoom => k_is); (case xC_NoRoom => k_exc); (case kC_NoRoom => k_is); (case bC_NoRoom => k_is); (case tC_NoRoom => k_is); (case iC_NoRoom => k_is); (case aC_NothingHeld => k_is); (case xC_NothingHeld => k_exc); (case kC_NothingHeld => k_is); (case bC_NothingHeld => k_is); (case tC_NothingHeld => k_is); (case iC_NothingHeld => k_is); (case aC_NoWork => k_is); (case xC_NoWork => k_exc); (case kC_NoWork => k_is); (case bC_NoWork => k_is); (case tC_NoWork => k_is); (case iC_NoWork => k_is); (case aC_NoHeap => k_is); (case xC_NoHeap => k_exc); (case kC_NoHeap => k_is); (case bC_NoHeap => k_is); (case tC_NoHeap => k_is); (case iC_NoHeap => k_is); (case aC_NoDeed => k_is); (case xC_NoDeed => k_exc); (case kC_NoDeed => k_is); (case bC_NoDeed => k_is); (case tC_NoDeed => k_is); (case iC_NoDeed => k_is); (case aC_Heap => k_is); (case pg_Heap => k_is); (case hd_Heap => k_is); (case po_Heap => k_is); (case sa_Heap => k_is); (case mk_Heap => k_is); (case kc_Heap => k_is); (case n_hands => k_is); (case n_room => k_is); (case n_rows => k_is); (case n_made => k_is); (case n_ended => k_is); (case n_old => k_is); (case n_marks => k_is); (case n_line => k_is); (case n_unswept => k_is); (case sub_NoHand_NoHand => k_is); (case sub_NoHand_NoSlot => k_is); (case sub_NoHand_NoRoom => k_is); (case sub_NoHand_NothingHeld => k_is); (case sub_NoHand_NoWork => k_is); (case sub_NoHand_NoDeed => k_is); (case sub_NoSlot_NoHand => k_is); (case sub_NoSlot_NoSlot => k_is); (case sub_NoSlot_NoRoom => k_is); (case sub_NoSlot_NothingHeld => k_is); (case sub_NoSlot_NoWork => k_is); (case sub_NoSlot_NoDeed => k_is); (case sub_NoRoom_NoHand => k_is); (case sub_NoRoom_NoSlot => k_is); (case sub_NoRoom_NoRoom => k_is); (case sub_NoRoom_NothingHeld => k_is); (case sub_NoRoom_NoWork => k_is); (case sub_NoRoom_NoDeed => k_is); (case sub_NothingHeld_NoHand => k_is); (case sub_NothingHeld_NoSlot => k_is); (case sub_NothingHeld_NoRoom => k_is); (case sub_NothingHeld_NothingHeld => k_is); (case sub_NothingHeld_NoWork => k_is); (case sub_NothingHeld_NoDeed => k_is); (case sub_NoWork_NoHand => k_is); (case sub_NoWork_NoSlot => k_is); (case sub_NoWork_NoRoom => k_is); (case sub_NoWork_NothingHeld => k_is); (case sub_NoWork_NoWork => k_is); (case sub_NoWork_NoDeed => k_is); (case sub_NoDeed_NoHand => k_is); (case sub_NoDeed_NoSlot => k_is); (case sub_NoDeed_NoRoom => k_is); (case sub_NoDeed_NothingHeld => k_is); (case sub_NoDeed_NoWork => k_is); (case sub_NoDeed_NoDeed => k_is); (case aD_COUNTS => k_is); (case lD_COUNTS => k_is); (case kD_COUNTS => k_keys); (case sD_COUNTS => (first | rfl | decide)); (case vD_COUNTS => (first | rfl | (with_unfolding_all rfl))); (case aD_ACTIONS => k_is); (case lD_ACTIONS => k_is); (case kD_ACTIONS => k_keys); (case sD_ACTIONS => (first | rfl | decide)); (case vD_ACTIONS => (first | rfl | (with_unfolding_all rfl))); (case aN_MOST_HANDS => k_is); (case aN_MOST_ROOM => k_is); (case aN_MOST_SLOTS => k_is); (case aN_MOST_PIECES => k_is); (case aN_MOST_FIGURES => k_is); (case a_Heap___init__ => k_is); (case i_Heap___init__ => k_is); (case l_Heap___init__ => k_is); (case c_Heap___init__ => k_is); (case k_Heap___init__ => k_is); (case a_Heap_make => k_is); (case i_Heap_make => k_is); (case l_Heap_make => k_is); (case c_Heap_make => k_is); (case k_Heap_make => k_is); (case a_Heap_take => k_is); (case i_Heap_take => k_is); (case l_Heap_take => k_is); (case c_Heap_take => k_is); (case k_Heap_take => k_is); (case a_Heap_put => k_is); (case i_Heap_put => k_is); (case l_Heap_put => k_is); (case c_Heap_put => k_is); (case k_Heap_put => k_is); (case a_Heap_share => k_is); (case i_Heap_share => k_is); (case l_Heap_share => k_is); (case c_Heap_share => k_is); (case k_Heap_share => k_is); (case a_Heap_drop => k_is); (case i_Heap_drop => k_is); (case l_Heap_drop => k_is); (case c_Heap_drop => k_is); (case k_Heap_drop => k_is); (case a_Heap_held => k_is); (case i_Heap_held => k_is); (case l_Heap_held => k_is); (case c_Heap_held => k_is); (case k_Heap_held => k_is); (case a_Heap_boxes => k_is); (case i_Heap_boxes => k_is); (case l_Heap_boxes => k_is); (case c_Heap_boxes => k_is); (case k_Heap_boxes => k_is); (case a_Heap_work => k_is); (case i_Heap_work => k_is); (case l_Heap_work => k_is); (case c_Heap_work => k_is); (case k_Heap_work => k_is); (case a_Heap_phase => k_is); (case i_Heap_phase => k_is); (case l_Heap_phase => k_is); (case c_Heap_phase => k_is); (case k_Heap_phase => k_is); (case a_Heap__do_piece => k_is); (case i_Heap__do_piece => k_is); (case l_Heap__do_piece => k_is); (case c_Heap__do_piece => k_is); (case k_Heap__do_piece => k_is); (case a_Heap__begin_round => k_is); (case i_Heap__begin_round => k_is); (case l_Heap__begin_round => k_is); (case c_Heap__begin_round => k_is); (case k_Heap__begin_round => k_is); (case a_Heap__mark_on => k_is); (case i_Heap__mark_on => k_is); (case l_Heap__mark_on => k_is); (case c_Heap__mark_on => k_is); (case k_Heap__mark_on => k_is); (case a_Heap__sweep_on => k_is); (case i_Heap__sweep_on => k_is); (case l_Heap__sweep_on => k_is); (case c_Heap__sweep_on => k_is); (case k_Heap__sweep_on => k_is); (case a_Heap__end_round => k_is); (case i_Heap__end_round => k_is); (case l_Heap__end_round => k_is); (case c_Heap__end_round => k_is); (case k_Heap__end_round => k_is); (case a_Heap__mark => k_is); (case i_Heap__mark => k_is); (case l_Heap__mark => k_is); (case c_Heap__mark => k_is); (case k_Heap__mark => k_is); (case a_Heap__need_hand => k_is); (case i_Heap__need_hand => k_is); (case l_Heap__need_hand => k_is); (case c_Heap__need_hand => k_is); (case k_Heap__need_hand => k_is); (case a_Heap__row_with => k_is); (case i_Heap__row_with => k_is); (case l_Heap__row_with => k_is); (case c_Heap__row_with => k_is); (case k_Heap__row_with => k_is); (case a_read => k_is); (case l_read => k_is); (case c_read => k_is); (case k_read => k_is); (case a_is_number => k_is); (case l_is_number => k_is); (case c_is_number => k_is); (case k_is_number => k_is); (case a_make => k_is); (case l_make => k_is); (case c_make => k_is); (case k_make => k_is); (case a_take => k_is); (case l_take => k_is); (case c_take => k_is); (case k_take => k_is); (case a_put => k_is); (case l_put => k_is); (case c_put => k_is); (case k_put => k_is); (case a_share => k_is); (case l_share => k_is); (case c_share => k_is); (case k_share => k_is); (case a_drop => k_is); (case l_drop => k_is); (case c_drop => k_is); (case k_drop => k_is); (case a_work => k_is); (case l_work => k_is); (case c_work => k_is); (case k_work => k_is); (case a_holds => k_is); (case l_holds => k_is); (case c_holds => k_is); (case k_holds => k_is); (case a_done => k_is); (case l_done => k_is); (case c_done => k_is); (case k_done => k_is); (case a_answered => k_is); (case l_answered => k_is); (case c_answered => k_is); (case k_answered => k_is); (case a_played => k_is); (case l_played => k_is); (case c_played => k_is); (case k_played => k_is); (case a__law_cell_at => k_is); (case l__law_cell_at => k_is); (case c__law_cell_at => k_is); (case k__law_cell_at => k_is); (case a__law_mixed_at => k_is); (case l__law_mixed_at => k_is); (case c__law_mixed_at => k_is); (case k__law_mixed_at => k_is); (case a__law_came => k_is); (case l__law_came => k_is); (case c__law_came => k_is); (case k__law_came => k_is); (case a__law_parts => k_is); (case l__law_parts => k_is); (case c__law_parts => k_is); (case k__law_parts => k_is); (case a__law_pieces => k_is); (case l__law_pieces => k_is); (case c__law_pieces => k_is); (case k__law_pieces => k_is); (case a__law_held => k_is); (case l__law_held => k_is); (case c__law_held => k_is); (case k__law_held => k_is); (case a__law_slotted => k_is); (case l__law_slotted => k_is); (case c__law_slotted => k_is); (case k__law_slotted => k_is); (case a__law_made => k_is); (case l__law_made => k_is); (case c__law_made => k_is); (case k__law_made => k_is); (case a__law_hands => k_is); (case l__law_hands => k_is); (case c__law_hands => k_is); (case k__law_hands => k_is); (case a__law_answer => k_is); (case l__law_answer => k_is); (case c__law_answer => k_is); (case k__law_answer => k_is); (case a_law => k_is); (case l_law => k_is); (case c_law => k_is); (case k_law => k_is); (case z_all => k_is); (case z_int => k_is); (case z_isinstance => k_is); (case z_len => k_is); (case z_list => k_is); (case z_max => k_is); (case z_min => k_is); (case z_range => k_is); (case z_sorted => k_is); (case z_str => k_is)

