import PyProof.Rows.All
import Wide.All
import OpenK.AllK
import Wide.FinOn
import HandS.ForMost
import HandS.ForExc
import HandS.More
import HandS.TupAny
import HandS.Conv
import HandS.Style
import HandS.Strs
import HandS.SortInts
import HandS.Sort
import HandS.DeepEq
import HandS.RaiseMore
import HandS.Lambda
import HandS.EndTab
import HandS.IsInst
import HandS.ExcIs
import HandS.ExcField
import HandS.ExcInit
import HandS.ExcValue
import HandS.CallLocal
import HandS.CallSlots
import HandS.Nested
import PyProof.ReprRoads
import PyProof.ReprLen
import KE.DataMinMax
import HandS.Small
import PySem.Challenge.RW_tautrounds_k00_errors_made
import HandS.Walk
import HandS.EndBits
import KE.KNest
import KE.KNestM
import KE.RegKIsAll
set_option Elab.async false
set_option linter.all false
set_option maxRecDepth 100000
set_option maxHeartbeats 4000000
namespace SrtO
open PySem PyProof.Rows Srt
section
variable {prog : Program} {w : World} {A : Around} {E : Value → Shared → Prop} {s : Shared}
theorem tt_collect_tup {l : Addr} {vs : List Value} {Q : List Value → Shared → Prop} (hl : IsTup s.heap l vs.toArray)
    (h : Q vs { s with heap := (s.heap.push (seqObj "list" #[] 0)).update s.heap.objs.size (Obj.mapSeq (· ++ vs.toArray)) }) (hsz : vs.length ≤ sizeLine) :
    wpAny (model prog w) A (collect (.ref l)) Q E s := by
  obtain ⟨o, ho, hc, n, hd⟩ := id hl
  unfold collect
  refine wpAny_bind (wpAny_runValue (codeAny_builtin entry_proto_collect' ?_))
  show wpAny _ _ (do again (.builtin "list.__iadd__" ⟨[← newList [], .ref l], []⟩)) _ _ s
  refine wpAny_bind (wpAny_newList (wpAny_pure ⟨Code.quiet_builtin _ (by decide +kernel), codeAny_builtin entry_list_iadd' ?_⟩))
  show wpAny _ _ (Builtin.List.listExtendWith (.ref s.heap.objs.size) (.ref l) (.ref s.heap.objs.size)) _ _ { s with heap := s.heap.push (seqObj "list" #[] 0) }
  unfold Builtin.List.listExtendWith
  have ho' : (s.heap.push (seqObj "list" #[] 0)).get? l = some o := Heap.get?_push_of_some _ ho
  refine wpAny_bind (wpAny_typeOf (T := "tuple") ⟨o, ho', hc⟩ ?_)
  have ht : (Value.type "tuple" == Value.type "tuple") = true := by rfl
  rw [if_pos (by rw [ht]; simp)]
  refine wpAny_bind (listItems_at ho' hd ?_)
  refine wpAny_bind (listItems_at (xs := #[]) (n := 0) (Heap.get?_push_size _ rfl) rfl ?_)
  rw [if_neg (by simp)]
  refine wpAny_bind (listUpdate_at (xs := #[]) (n := 0) (Heap.get?_push_size _ rfl) rfl ?_ (Nat.zero_le _) (by show (#[] ++ vs.toArray).size ≤ sizeLine + 1; simp only [Array.size_append, List.size_toArray, List.length_nil]; omega))
  refine wpAny_pure ?_
  show wpAny (model prog w) A (do
      let o ← load s.heap.objs.size
      match o.data with
      | .seq xs _ => pure xs.toList
      | _ => unsupported "internal:collect") Q E { s with heap := (s.heap.push (seqObj "list" #[] 0)).update s.heap.objs.size (Obj.mapSeq (· ++ vs.toArray)) }
  refine wpAny_bind (wpAny_load (get?_update_seq (Heap.get?_push_size _ rfl) _) ?_)
  show wpAny _ _ (pure ((#[] : Array Value) ++ vs.toArray).toList) Q E _
  rw [show ((#[] : Array Value) ++ vs.toArray).toList = vs by simp]
  exact wpAny_pure h
theorem tt_sorted_tup {l : Addr} {vs : List Value} {ltv : Value → Value → Bool} {Q : Value → Shared → Prop} (O : Swo ltv) (hl : IsTup s.heap l vs.toArray) (hz : vs.length ≤ sizeLine)
    (hS : 2 ≤ vs.length → ∀ (h₁ : Heap) (a : Addr), h₁.get? a = some (seqObj "list" vs.toArray 0) → (∀ b o, s.heap.get? b = some o → b ≠ a ∧ h₁.get? b = some o) → SortableO prog w A.in1.in1 { s with heap := h₁ } a vs ltv)
    (h : ∀ out : List Value, Srtd ltv out → Stb ltv out vs → Q (.ref (s.heap.objs.size + 1)) { s with heap := sortedAll s.heap vs out.toArray }) :
    wpAny (model prog w) A (call (.builtin "sorted") [.ref l]) Q E s := by
  refine Calls.call_function_entry kind_sorted plain_sorted entry_sorted (args_sorted1 _) ?_
  unfold Builtin.«sorted»
  refine wpAny_bind (m := checkCount "sorted" 1 1 _) (wpAny_pure ?_)
  refine wpAny_bind (tt_collect_tup hl ?_ hz)
  refine wpAny_bind (wpAny_newList ?_ hz)
  have hsz : ((s.heap.push (seqObj "list" #[] 0)).update s.heap.objs.size (Obj.mapSeq (· ++ vs.toArray))).objs.size = s.heap.objs.size + 1 := by
    rw [Heap.size_update, size_push']
  have hoL : (((s.heap.push (seqObj "list" #[] 0)).update s.heap.objs.size (Obj.mapSeq (· ++ vs.toArray))).push (seqObj "list" vs.toArray 0)).get? (s.heap.objs.size + 1) = some (seqObj "list" vs.toArray 0) := by
    rw [← hsz]; exact Heap.get?_push_size _ rfl
  have keep : ∀ b o, s.heap.get? b = some o → b ≠ s.heap.objs.size + 1 ∧ (((s.heap.push (seqObj "list" #[] 0)).update s.heap.objs.size (Obj.mapSeq (· ++ vs.toArray))).push (seqObj "list" vs.toArray 0)).get? b = some o := fun b o q => by
    have hlt : b < s.heap.objs.size := Heap.lt_size q
    refine ⟨Nat.ne_of_lt (Nat.lt_succ_of_lt hlt), Heap.get?_push_of_some _ ?_⟩
    rw [Heap.get?_update_ne _ _ _ _ (Nat.ne_of_lt hlt)]
    exact Heap.get?_push_of_some _ q
  show wpAny _ _ _ _ _ { s with heap := ((s.heap.push (seqObj "list" #[] 0)).update s.heap.objs.size (Obj.mapSeq (· ++ vs.toArray))).push (seqObj "list" vs.toArray 0) }
  rw [hsz]
  refine wpAny_bind (wpAny_holding (wpAny_call_entry slot_list_sort ⟨_, hoL, rfl⟩ entry_list_sort (list_sort_ord O hoL hz (fun h2 => hS h2 _ _ hoL keep) fun out hs hb => ⟨_, rfl, ?_⟩) (args_list_sort _)))
  exact wpAny_pure ⟨_, rfl, h out hs hb⟩
end
end SrtO
namespace L2
open PySem PySem.Spec PyProof.Rows
section
variable {X : Cx}
def rSortedIT (K : PySem.W.Frag) : List V → Hp → VK → Prop := fun vs H Q => ∃ (a : Addr) (ns : List Int), vs = [V.ref a] ∧ SqT K H a (ns.map V.int) ∧
  ∀ (ns' : List Int) (p : Addr), ns'.Perm ns → ns'.Pairwise (· ≤ ·) → H p = none → Q (.ref p) (upd H p (.lst (ns'.map V.int)))
theorem cr_sortedIT : CallR X (.builtin "sorted") (rSortedIT X.K) := by
  intro pins s σ H vs us Q I r h
  obtain ⟨a, ns, rfl, hs, q⟩ := h
  obtain ⟨its, rv, hl, hz⟩ := I.tuple hs
  rw [Vals.ref1 r]
  have hi := rv.ints
  refine SrtO.tt_sorted_tup SrtO.swo_int hl (by rw [← rv.length]; exact hz) (fun h2 h₁ a' _ _ => SrtO.ints_sortable hi h2) fun out h1 h2 => ?_
  obtain ⟨k1, k2, k3⟩ := SrtO.ints_out hi h1 h2
  obtain ⟨ep, he'⟩ := PyProof.Rows.sortedAll_at s.heap its out.toArray
  have hlen : ((out.map SrtO.iv).map V.int).length ≤ sizeLine := by
    rw [List.length_map, k2.length_eq]
    rw [List.length_map] at hz
    exact hz
  exact ⟨.ref _, upd H (s.heap.objs.size + 1) (.lst ((out.map SrtO.iv).map V.int)), I.laid (t' := s.toks) (fun _ _ => PyProof.Rows.sortedAll_old) (Nat.le_succ _) ⟨hlen, out, ep, vals_of_ints k1, he'⟩, rfl, q _ _ k2 k3 (I.hok.fresh (Nat.le_succ _))⟩
def rSortedS2 (K : PySem.W.Frag) : List V → Hp → VK → Prop := fun vs H Q => rSortedI K vs H Q ∨ rSortedIT K vs H Q
theorem cr_sortedS2 : CallR X (.builtin "sorted") (rSortedS2 X.K) := by
  intro pins s σ H vs us Q I r h
  rcases h with h | h
  · exact cr_sortedI pins s σ H vs us Q I r h
  · exact cr_sortedIT pins s σ H vs us Q I r h
theorem mt_tup_indexI : MtR X "tuple.index" (fun x xs H Q => ∃ p, ∃ ys : List Int, ∃ z j, x = .ref p ∧ xs = [.int z] ∧ SqT X.K H p (ys.map V.int) ∧ ys[j]? = some z ∧ (∀ m, m < j → ys[m]? ≠ some z) ∧ Q (.int (j : Nat)) H) := by
  intro pins s σ H x xs v us Q I rx rs h
  obtain ⟨p, ys, z, j, rfl, rfl, hq, hy, hno, q⟩ := h
  cases rx
  obtain ⟨u, rfl, t, rfl⟩ := vals1 rs
  obtain ⟨its, r, pl, hz⟩ := I.tuple hq
  obtain ⟨⟨cls, dd, dt, sl⟩, ho, hc, n, hd⟩ := pl
  simp only at hc hd
  subst hc
  subst hd
  have hl : its.toArray.size = ys.length := by rw [List.size_toArray, ← r.length, List.length_map]
  have hj : j < its.toArray.size := by rw [hl]; exact (List.getElem?_eq_some_iff.mp hy).1
  have at' : ∀ (m : Nat) (hm : m < its.toArray.size), ∃ y t', ys[m]? = some y ∧ its.toArray[m] = Value.int y t' := fun m hm => by
    have hm' : m < ys.length := by rw [← hl]; exact hm
    obtain ⟨w, hw, t', hw'⟩ := r.get (i := m) (x := .int ys[m]) (by simp [hm'])
    refine ⟨ys[m], t', List.getElem?_eq_getElem hm', ?_⟩
    have e := (List.getElem?_eq_some_iff.mp hw).2
    rw [← hw', ← e]
    simp
  have flat : ∀ ys : List Int, (ys.map V.int).all flatV = true := fun ys => by
    induction ys with
    | nil => rfl
    | cons a b ih => rw [List.map_cons, List.all_cons, ih]; rfl
  refine call_meets PySem.F.slot_tuple_index ⟨_, ho, rfl⟩ PySem.F.entry_tuple_index (PySem.F.args_tuple_index_2 _ _) (TI.tuple_indexAt p its.toArray n dd sl (.int z t) (eqU (.int z)) j hj ?_ ?_)
    ⟨ho, fun w hw => mem_eqAt (x := .int z) ⟨t, rfl⟩ rfl r (flat ys) w (by simpa using hw), ⟨.int (j : Nat), H, I.tok _, ⟨_, rfl⟩, q⟩⟩
  · obtain ⟨y, t', h1, h2⟩ := at' j hj
    rw [hy] at h1
    cases h1
    rw [h2]
    show (z == z) = true
    exact beq_self_eq_true z
  · intro m hm hmj
    obtain ⟨y, t', h1, h2⟩ := at' m hm
    rw [h2]
    show (y == z) = false
    exact beq_eq_false_iff_ne.mpr fun e => hno m hmj (by rw [h1, e])
end
end L2
set_option maxRecDepth 100000
set_option maxHeartbeats 4000000
namespace HT
open PySem PySem.Spec PyProof.Rows
section
variable {prog : Program} {w : World} {A : Around} {E : Value → Shared → Prop} {s : Shared}
theorem tt_adjust_rev (n : Nat) : Builtin.Slice.sliceAdjust none none (-1) (n : Int) = ((n : Int) - 1, -1) := by
  unfold Builtin.Slice.sliceAdjust
  simp only [show (-1 : Int) < 0 by decide, if_true]
theorem tt_places_rev (n : Nat) : Builtin.Slice.slicePlaces ((n : Int) - 1) (-1) (-1) = n := by
  unfold Builtin.Slice.slicePlaces
  simp only [show ¬ ((-1 : Int) > 0) by decide, if_false, Int.neg_neg, Int.ediv_one]
  split <;> omega
theorem tt_applied_rev {sl : Addr} {vs : Value} {n : Nat} {Q : Int × Int × Nat → Shared → Prop} (hs : s.heap.IsSliceOf sl .none .none vs) (ps : IsPart vs (some (-1)))
    (h : Q ((n : Int) - 1, -1, n) s) : wpAny (model prog w) A (Builtin.Slice.sliceApplied (.ref sl) (pure (n : Int))) Q E s := by
  obtain ⟨os, hos, hcs, hds⟩ := id hs
  unfold Builtin.Slice.sliceApplied Builtin.Slice.sliceFields
  refine wpAny_bind (wpAny_bind (wpAny_field hos hds (x := .none) rfl (wpAny_bind (wpAny_field hos hds (x := .none) rfl (wpAny_bind (wpAny_field hos hds (x := vs) rfl (wpAny_pure ?_)))))))
  refine wpAny_bind (slicePart_ ps ?_)
  show wpAny _ _ (if ((-1 : Int) == 0) = true then _ else _) _ _ s
  rw [if_neg (by decide)]
  refine wpAny_bind (slicePart_ .none (wpAny_bind (slicePart_ .none (wpAny_bind (wpAny_pure ?_)))))
  show wpAny _ _ (match Builtin.Slice.sliceAdjust none none (-1) (n : Int) with | (lo, hi) => pure (lo, (-1 : Int), Builtin.Slice.slicePlaces lo hi (-1))) _ _ s
  rw [tt_adjust_rev n]
  show wpAny _ _ (pure ((n : Int) - 1, (-1 : Int), Builtin.Slice.slicePlaces ((n : Int) - 1) (-1) (-1))) _ _ s
  rw [tt_places_rev n]
  exact wpAny_pure h
theorem tt_fm {α β : Type} {f g : α → Option β} : ∀ {l : List α}, (∀ x ∈ l, f x = g x) → l.filterMap f = l.filterMap g
  | [], _ => rfl
  | a :: l, h => by
    rw [List.filterMap_cons, List.filterMap_cons, h a List.mem_cons_self, tt_fm fun x hx => h x (List.mem_cons_of_mem _ hx)]
theorem tt_pick_rev (xs : Array Value) : ((List.range xs.size).filterMap fun (m : Nat) => xs[(((xs.size : Int) - 1) + (m : Int) * (-1)).toNat]?).toArray = xs.toList.reverse.toArray := by
  have e : (List.range xs.size).filterMap (fun (m : Nat) => xs[(((xs.size : Int) - 1) + (m : Int) * (-1)).toNat]?) = xs.toList.reverse := by
    have h1 : ∀ m ∈ List.range xs.size, xs[(((xs.size : Int) - 1) + (m : Int) * (-1)).toNat]? = some (xs.toList.reverse.getD m .none) := fun m hm => by
      have hm := List.mem_range.mp hm
      have e1 : (((xs.size : Int) - 1) + (m : Int) * (-1)).toNat = xs.size - 1 - m := by omega
      rw [e1, List.getD_eq_getElem?_getD, List.getElem?_reverse (by simpa using hm)]
      have e2 : xs.size - 1 - m < xs.size := by omega
      simp [e2]
    have h2 : (List.range xs.size).filterMap (fun (m : Nat) => xs[(((xs.size : Int) - 1) + (m : Int) * (-1)).toNat]?) = (List.range xs.size).map fun m => xs.toList.reverse.getD m .none := by
      rw [← List.filterMap_eq_map]
      exact tt_fm h1
    rw [h2]
    refine List.ext_getElem? fun i => ?_
    rw [List.getElem?_map]
    by_cases hi : i < xs.size
    · rw [List.getElem?_range hi]
      have : i < xs.toList.reverse.length := by simpa using hi
      rw [List.getElem?_eq_getElem this]
      simp [List.getD_eq_getElem?_getD, List.getElem?_eq_getElem this]
    · rw [List.getElem?_eq_none (by simpa using hi), List.getElem?_eq_none (by simpa using hi)]
      rfl
  rw [e]
theorem tt_getItem_tuple_rev {t sl : Addr} {items : Array Value} {vs : Value} {Q : Value → Shared → Prop} (ht : IsTup s.heap t items) (hs : s.heap.IsSliceOf sl .none .none vs) (ps : IsPart vs (some (-1)))
    (h : Q (.ref s.heap.objs.size) { s with heap := s.heap.push { cls := .type "tuple", data := .seq items.toList.reverse.toArray } })
    (hsz : items.size ≤ sizeLine) : wpAny (model prog w) A (getItem (.ref t) (.ref sl)) Q E s := by
  have htake : sizeOk (.seq items.toList.reverse.toArray) := by
    show items.toList.reverse.toArray.size ≤ sizeLine
    rw [List.size_toArray, List.length_reverse, Array.length_toList]
    exact hsz
  obtain ⟨os, hos, hcs, hds⟩ := id hs
  have hTs : s.TypeIs (.ref sl) "slice" := ⟨os, hos, hcs⟩
  unfold getItem
  try with_reducible refine wpAny_holding ?_
  first | refine wpAny_bind (wpAny_pure ?_) | skip
  refine wpAny_bind (wpAny_sequenceKey ht.typeIs (by decide) ?_)
  refine wpAny_bind (wpAny_callSpecial?_slot (name := Str.ofString "__getitem__") ht.typeIs PyProof.Rows.slot_tuple_getitem
    (wpAny_call_entry PyProof.Rows.slot_tuple_getitem ht.typeIs entry_tuple_getitem ?_ (args_tuple_getitem _ _)))
  show wpAny _ _ (Builtin.Tuple.tupleItemsOf (.ref t) >>= _) _ _ s
  refine wpAny_bind (tupleItemsOf_ ht ?_)
  refine wpAny_bind (wpAny_typeOf hTs ?_)
  rw [if_pos (by decide)]
  refine wpAny_bind (tt_applied_rev hs ps ?_)
  have hno : ¬ (((items.size : Int) - 1 == 0 && (-1 : Int) == 1 && items.size == items.size) = true) := by
    intro q
    rw [Bool.and_eq_true, Bool.and_eq_true] at q
    exact absurd q.1.2 (by decide)
  show wpAny _ _ (if ((items.size : Int) - 1 == 0 && (-1 : Int) == 1 && items.size == items.size) = true then _ else _) _ _ s
  rw [if_neg hno, tt_pick_rev]
  first
    | exact wpAny_bind (m := Builtin.Tuple.tupleExact _) (wpAny_newObj_type (wpAny_pure ⟨_, rfl, wpAny_pure h⟩) htake)
    | exact wpAny_bind (m := Builtin.Tuple.tupleExact _) (wpAny_newObj_type (wpAny_bind (wpAny_pure (wpAny_pure ⟨_, rfl, wpAny_pure h⟩))) htake)
    | exact wpAny_bind (wpAny_bind (m := Builtin.Tuple.tupleExact _) (wpAny_newObj_type (wpAny_pure (wpAny_pure ⟨_, rfl, wpAny_pure h⟩)) htake))
    | exact wpAny_bind (wpAny_bind (m := Builtin.Tuple.tupleExact _) (wpAny_newObj_type (wpAny_pure ⟨_, rfl, wpAny_pure h⟩) htake))
end
end HT
namespace L2
open PySem PySem.Spec PyProof.Rows
section
variable {X : Cx}
def tRevT (K : PySem.W.Frag) (te : TE) : TE := fun σ H Q => te σ H fun x H1 => ∃ a xs, x = .ref a ∧ SqT K H1 a xs ∧ ∀ p, H1 p = none → Q (.ref p) (upd H1 p (.tup xs.reverse))
theorem pe_revT {e : Expr} {te : TE} {k : Nat} {p1 p2 p3 pos : Pos} (he : PE X e te) : PE X (.Subscript e (.Slice none none (some (.UnaryOp .USub (.Constant (.int 1) k p1) p2)) p3) pos) (tRevT X.K te) := by
  refine ⟨fun pins s σ H Q I h => ?_⟩
  refine Subscript_ (thn (he.run pins s σ H _ I h) fun v s1 ⟨x, H1, I1, r1, q1⟩ => ?_)
  obtain ⟨a, xs, ex, hx, q⟩ := q1
  subst ex
  cases r1
  have hst : PO X (some (.UnaryOp .USub (.Constant (.int 1) k p1) p2)) (tPart (tUn (rU fun i => .int (-i)) (tC (.int 1)))) := po_some (pe_un un_neg pe_int)
  refine wpAny_Slice (wpAny_pure ?_)
  refine wpAny_pure ?_
  refine thn (hst.run pins s1 σ H1 (fun o H4 => o = some (-1) ∧ H4 = H1) I1 ⟨1, rfl, -1, rfl, rfl, rfl⟩) fun vs s4 ⟨o, H4, I4, ps, eo, e4⟩ => ?_
  subst eo e4
  have I5 : Inv X pins σ H4 { s4 with heap := s4.heap.push { cls := .type "slice", data := .fields #[.none, .none, vs] } } := I4.kept (t' := s4.toks) fun b ob q => Heap.get?_push_of_some _ q
  obtain ⟨its, r, ht, hz⟩ := I5.tuple hx
  have hlen := r.length
  show wpAny (model X.prog X.w) X.A (subscriptTail e (.Slice none none (some (.UnaryOp .USub (.Constant (.int 1) k p1) p2)) p3) (.ref a) (.ref s4.heap.objs.size)) (EP X pins σ Q) X.xe { s4 with heap := s4.heap.push { cls := .type "slice", data := .fields #[.none, .none, vs] } }
  refine tail_any (ops := [.ref a, .ref s4.heap.objs.size]) ht.typeIs (PyProof.Rows.slot_tuple_getitem.lookup) ?_ (by with_unfolding_all rfl)
  refine HT.tt_getItem_tuple_rev ht (Heap.IsSliceOf.new _ .none .none vs) ps ?_ (by rw [List.size_toArray]; omega)
  refine ⟨.ref _, _, I5.laid (t' := s4.toks) (o := .tup xs.reverse) (fun b ob q => Heap.get?_push_of_some _ q) (Nat.le_refl _) ?_, rfl, q _ (I5.hok.fresh (Nat.le_refl _))⟩
  exact ⟨by rw [List.length_reverse]; exact hz, _, r.reverse, IsTup.new _ _⟩
end
section
variable {X : Cx} {K : PySem.W.Frag}
theorem ix_listK (h : X.K = K) : IxR X (rIxL K) := by subst h; exact ix_list
theorem ix_tupK (h : X.K = K) : IxR X (rIxT K) := by subst h; exact ix_tup
theorem call_len_seqK (h : X.K = K) : CallR X (.builtin "len") (fun xs H Q => ∃ p ys, xs = [.ref p] ∧ (SqL K H p ys ∨ SqT K H p ys) ∧ Q (.int ys.length) H) := by subst h; exact call_len_seq
theorem op_in_seqK (h : X.K = K) : OpR X (compareOp .In) (rIn K false) := by subst h; exact op_in_seq
theorem op_notIn_seqK (h : X.K = K) : OpR X (compareOp .NotIn) (rIn K true) := by subst h; exact op_notIn_seq
theorem op_eqDK (h : X.K = K) (hu : X.A.units + 64 < cLine) : OpR X (compareOp .Eq) (rEqD K) := by subst h; exact op_eqD hu
theorem op_neDK (h : X.K = K) (hu : X.A.units + 64 < cLine) : OpR X (compareOp .NotEq) (rNeD K) := by subst h; exact op_neD hu
theorem op_catAK (h : X.K = K) : OpR X (binaryOp .Add) (rCatA K) := by subst h; exact op_catA
theorem sl_listK (h : X.K = K) : SlR X (rSlL K) := by subst h; exact sl_list
theorem sl_tupAK (h : X.K = K) : SlR X (rSlA K) := by subst h; exact sl_tupA
theorem call_tuple_ofK (h : X.K = K) : CallR X (.type "tuple") (fun xs H Q => ∃ p ys, xs = [.ref p] ∧ ((SqL K H p ys ∧ ∀ l, H l = none → Q (.ref l) (upd H l (.tup ys))) ∨ (SqT K H p ys ∧ Q (.ref p) H))) := by subst h; exact call_tuple_of
theorem call_list_ofK (h : X.K = K) : CallR X (.type "list") (fun xs H Q => ∃ p ys, xs = [.ref p] ∧ (SqL K H p ys ∨ SqT K H p ys) ∧ ∀ l, H l = none → Q (.ref l) (upd H l (.lst ys))) := by subst h; exact call_list_of
theorem call_type1K (h : X.K = K) : CallR X (.type "type") (rTyp K) := by subst h; exact call_type1
theorem pe_fldK {e : Expr} {ta : TE} {f : Str} {pos : Pos} (h : X.K = K) (he : PE X e ta) (hb : attributeBase e f X.env (eval e X.env) = eval e X.env) : PE X (.Attribute e f pos) (tFld K ta f) := by subst h; exact pe_fld he hb
theorem mt_tup_indexIK (h : X.K = K) : MtR X "tuple.index" (fun x xs H Q => ∃ p, ∃ ys : List Int, ∃ z j, x = .ref p ∧ xs = [.int z] ∧ SqT K H p (ys.map V.int) ∧ ys[j]? = some z ∧ (∀ m, m < j → ys[m]? ≠ some z) ∧ Q (.int (j : Nat)) H) := by subst h; exact mt_tup_indexI
theorem pe_bmK {T name id : String} {r : V → List V → Hp → VK → Prop} {o e : Expr} {es : List Expr} {to : TE} {t : TA} {apos cpos : Pos} (hk : X.K = K) (pa : PlainAttrs T) (slot : Slot T name id) (hty : typeOf (.builtin id) = pure (.type "method_descriptor")) (hm : MtR X id r) (ho : PE X o to) (ha : PA X (e :: es) t)
    (hbase : attributeBase o name X.env (eval o X.env) = eval o X.env := by rfl)
    (hfew : ((backTo cpos (starEach (e :: es) X.env)).all (fun x => !x.1) && (backToKw cpos (keywordEach [] X.env)).all (fun x => x.1.isSome)
      && decide ((e :: es).length + ([] : List Keyword).length + (if ([] : List Keyword).isEmpty then 0 else 1) < 30)) = true := by rfl)
    (hline : (apos.endLine == cpos.line) = true := by rfl) (hpl : (backTo cpos (starEach es X.env)).any (·.1) = false := by rfl) (hs : starEach (e :: es) X.env = (false, eval e X.env) :: starEach es X.env := by rfl) :
    PE X (.Call (.Attribute o name apos) (e :: es) [] cpos) (tBM K T r to t) := by
  subst hk
  first
    | exact pe_bm pa slot hty hm ho ha hbase hfew hline hpl hs
    | exact pe_bm pa slot hty hm ho ha hbase hfew hline hs hpl
    | exact pe_bm pa slot hty hm ho ha hbase hfew hline
    | exact pe_bm pa slot hty hm ho ha
end
end L2
set_option maxRecDepth 100000
set_option maxHeartbeats 4000000
namespace PySem.W
open PySem PySem.Spec PySem.Calls PyProof.Rows
section
variable {prog : Program} {w : World} {A : Around} {E : Value → Shared → Prop} {s : Shared} {K : Frag} {x D : Addr} {ox : Obj}
theorem tt_findObj_data {C : Addr} {od : Option Obj} {name : Str} {a g : Value} (hc : (clsIn K C).isSome = true) (ha : findIn K (.ref C) name = some (some a)) (hg : specialIn K a "__get__" = some (some g)) (ht : takesIn K a = some true) : findObj K C od name = some (.bind g a) := by
  obtain ⟨cd, hc⟩ := Option.isSome_iff_exists.mp hc
  unfold findObj
  rw [hc, Option.bind_some, ha, Option.bind_some]
  simp [hg, ht]
theorem tt_kin_classE {od : Option Obj} {Q : Option Value → Shared → Prop} (hga : findIn K (.ref D) "__getattribute__" = some (some (.builtin "BaseException.__getattribute__"))) (hgt : findIn K (.ref D) "__getattr__" = some none) (hsub : subIn K (.ref D) (.type "BaseException") = some true)
    (hdct : hasDictIn K D = true) (ha : findIn K (.ref D) "__class__" = some (some (.builtin "object.__class__")))
    (hn : specialIn K (.builtin "object.__class__") "__get__" = some (some (.builtin "getset_descriptor.__get__"))) (htk : takesIn K (.builtin "object.__class__") = some true) (hm : mroIn K D (.type "object") = some true)
    (X : K.In s.heap) (I : InstAt s.heap x ox D od) (h : Q (some (.ref D)) { s with toks := s.toks + 1 }) : wpAny (model prog w) A (getAttr? (.ref x) "__class__") Q E s := by
  have hf : findObj K D od "__class__" = some (.bind (.builtin "getset_descriptor.__get__") (.builtin "object.__class__")) := tt_findObj_data (by obtain ⟨cd, hc, _⟩ := any_some hdct; rw [hc]; rfl) ha hn htk
  obtain ⟨hp, g, d, t, os⟩ := s
  have L0 := I.type (M := model prog w)
  have L1 := looks_findIn (M := model prog w) X hga
  have L2 := looks_findIn (M := model prog w) X hgt
  have L3 := looks_find (M := model prog w) X I hf
  have sub : Looks (model prog w) hp (isInstance (.ref x) (.type "BaseException")) true := L0.andThen (looks_subIn X hsub)
  have hx0 : (false && onTheHeap (Value.builtin "BaseException.__getattribute__")) = false := rfl
  have hx2 : (Value.builtin "BaseException.__getattribute__" == Value.builtin "object.__getattribute__") = false := by decide +kernel
  have hx1 : (onTheHeap (Value.ref D) && Value.builtin "BaseException.__getattribute__" == Value.builtin "object.__getattribute__") = false := by rw [hx2]; rfl
  unfold getAttr? getAttrBy? getAttrBy
  refine wpAny_bind (wpAny_mkText (wpAny_bind (wpAny_attempt (wpAny_holding (wpAny_bind (L0.at (wpAny_bind (L1.at ?_))))))))
  show wpAny _ _ (if (onTheHeap (Value.ref D) && Value.builtin "BaseException.__getattribute__" == Value.builtin "object.__getattribute__") = true then _ else _) _ _ _
  rw [hx1, if_neg Bool.false_ne_true]
  unfold getAttrByItsOwn hookBefore
  refine wpAny_bind ?_
  rw [if_pos (show onTheHeap (Value.ref D) = true from rfl)]
  refine L2.at ?_
  refine wpAny_bind (wpAny_attempt (wpAny_holding ?_))
  unfold callGetattribute
  rw [hx0, if_neg Bool.false_ne_true]
  unfold boundAndCalled
  rw [PySem.F.excAttr_ValueError.ga.bind (.ref x)]
  refine wpAny_bind (wpAny_pure ?_)
  show wpAny _ _ (call (.builtin "BaseException.__getattribute__") [.ref x, .str "__class__" t]) _ _ _
  refine wpAny_call (codeAny_call_builtin PySem.F.excAttr_ValueError.ga.plain PySem.F.entry_bexc_ga ?_)
  refine @check_slot (model prog w) _ _ ⟨hp, g, d, t + 1, os⟩ "BaseException.__getattribute__" "BaseException" "__getattribute__" (.ref x) [.str "__class__" t] [] _ (by decide +kernel) (by decide +kernel) sub (PySem.F.args_bexc_ga (.ref x) (.str "__class__" t)) ?_
  unfold Builtin.«object.__getattribute__»
  refine wpAny_bind (wpAny_of_eq (a := ((Value.ref x : Value), [Value.str "__class__" t])) (by first | rfl | (simp only [slotArgs]; rfl)) ?_)
  refine wpAny_bind (wpAny_pure (wpAny_bind (L0.at (wpAny_bind (L3.at ?_)))))
  show wpAny _ _ (holding [Value.builtin "object.__class__"] (call (.builtin "getset_descriptor.__get__") [.builtin "object.__class__", .ref x, .ref D]) >>= ret) _ _ _
  refine wpAny_bind (wpAny_holding (wpAny_call (class_get (s := ⟨hp, g, d, t + 1, os⟩) (ox := ox) (od := od) X I hm ?_)))
  refine wpAny_pure ?_
  show wpAny _ _ (handedOut (.ref D)) _ _ _
  rw [handedOut_of (v := .ref D) rfl]
  first
    | exact wpAny_pure (wpAny_pure h)
    | exact wpAny_pure h
    | exact wpAny_pure (wpAny_bind (wpAny_pure (wpAny_pure h)))
theorem tt_kitx_exc {od : Option Obj} (hga : findIn K (.ref D) "__getattribute__" = some (some (.builtin "BaseException.__getattribute__"))) (hgt : findIn K (.ref D) "__getattr__" = some none) (hsub : subIn K (.ref D) (.type "BaseException") = some true) (hdct : hasDictIn K D = true) (ha : findIn K (.ref D) "__class__" = some (some (.builtin "object.__class__")))
    (hn : specialIn K (.builtin "object.__class__") "__get__" = some (some (.builtin "getset_descriptor.__get__"))) (htk : takesIn K (.builtin "object.__class__") = some true) (hm : mroIn K D (.type "object") = some true) :
    KitX K (.ref x) (.ref D) (fun h => InstAt h x ox D od) where
  ty := fun _ _ _ I => I.type
  it := fun _ _ X _ => by
    obtain ⟨cdD, hcD, _⟩ := any_some hdct
    unfold clsIn at hcD
    split at hcD
    · rename_i c' d' cd' sl' ho
      intro A' Q' E' s' k q
      unfold isType loadHead
      exact wpAny_bind (wpAny_loadPart (k _ _ (X _ _ ho)) (wpAny_pure q))
    · cases hcD
  ne := fun h tp dd its n sl X htp => by
    obtain ⟨cdD, hcD, _⟩ := any_some hdct
    refine Bool.eq_false_iff.mpr fun q => ?_
    have e : D = tp := Value.ref.inj (beq_iff_eq.mp q)
    subst e
    unfold clsIn at hcD
    split at hcD
    · rename_i c' d' cd' sl' ho
      have z := (X _ _ ho).symm.trans htp
      cases z
    · cases hcD
  ca := fun X I k => tt_kin_classE hga hgt hsub hdct ha hn htk hm X I k
end
end PySem.W
namespace L2
open PySem PySem.Spec PyProof.Rows
def exh (cls : Value) (d : Option Addr) (a : Addr) : HO := .ext fun h => ∃ (oe : Obj) (vs : Array Value), h.get? a = some oe ∧ Zc cls d oe ∧ oe.data = .fields vs
theorem exh_ok {P : Program} {w : World} {H : Hp} {h : Heap} {a : Addr} {cls : Value} {d : Option Addr} {oe : Obj} {vs : Array Value} (e : h.get? a = some oe) (z : Zc cls d oe) (hd : oe.data = .fields vs) : ObjOk P w H h a (exh cls d a) :=
  ⟨⟨oe, vs, e, z, hd⟩, ⟨oe, e⟩, fun _ _ ⟨o, v, q, r⟩ k => ⟨o, v, k o q, r⟩⟩
theorem exh_at {P : Program} {w : World} {H : Hp} {h : Heap} {a : Addr} {cls : Value} {d : Option Addr} (hok : HOk P w H h) (e : H a = some (exh cls d a)) : ∃ (oe : Obj) (vs : Array Value), h.get? a = some oe ∧ Zc cls d oe ∧ oe.data = .fields vs := by
  have x : ObjOk P w H h a (.ext fun h => ∃ (oe : Obj) (vs : Array Value), h.get? a = some oe ∧ Zc cls d oe ∧ oe.data = .fields vs) := hok a _ e
  exact x.1
def XdOk (H : Hp) (d : Option Addr) : Prop := d = none ∨ ∃ (dd : Addr) (fs : List (Str × V)), d = some dd ∧ H dd = some (.xd fs)
section
variable {X : Cx} {pins : List (Addr × Obj)} {σ : St} {H : Hp} {s : Shared}
theorem exh_inst {a D : Addr} {d : Option Addr} (I : Inv X pins σ H s) (e : H a = some (exh (.ref D) d a)) (hd : XdOk H d) : ∃ (oe : Obj) (od : Option Obj), PySem.W.InstAt s.heap a oe D od := by
  obtain ⟨⟨oc, odc, oda, osl⟩, vs, h1, ⟨h2, h3⟩, h4⟩ := exh_at I.hok e
  dsimp only at h2 h3 h4
  subst h2 h3 h4
  rcases hd with rfl | ⟨dd, fs, rfl, ed⟩
  · exact ⟨_, none, ⟨h1, rfl, rfl, trivial⟩⟩
  · have hx : ObjOk X.prog X.w H s.heap dd (.xd fs) := I.hok dd _ ed
    obtain ⟨mA, ⟨o, _, _, ho, _⟩, _⟩ := hx
    exact ⟨_, some o, ⟨h1, rfl, rfl, ho⟩⟩
def rIsH (K : PySem.W.Frag) : List V → Hp → VK → Prop := fun xs H Q => ∃ (a D : Addr) (d : Option Addr) (c : V) (cv : Value) (b : Bool), xs = [.ref a, c] ∧ H a = some (exh (.ref D) d a) ∧ XdOk H d ∧ ExcC K D ∧ ClsV c cv ∧ PySem.W.kitOne K (.ref D) cv = some b ∧ Q (.bl b) H
theorem call_isH : CallR X (.builtin "isinstance") (rIsH X.K) := by
  intro pins s σ H xs us Q I r h
  obtain ⟨a, D, d, c, cv, b, rfl, ea, hd, C, hc, e, q⟩ := h
  cases r with
  | cons rx rr =>
    cases rr with
    | cons rt rr =>
      cases rr
      cases rx
      have ec := hc.eq rt
      subst ec
      obtain ⟨oe, od, J⟩ := exh_inst I ea hd
      exact PySem.W.kia_one (PySem.W.tt_kitx_exc C.hg C.hk C.hs C.hd C.ha C.hn C.ht C.hm) I.kIn J e (fun z => nomatch z) fun tk => ⟨.bl b, H, I.kept (t' := tk) fun _ _ z => z, rfl, q⟩
def rIsA (K : PySem.W.Frag) : List V → Hp → VK → Prop := fun xs H Q => rIsH K xs H Q ∨ rIsi K xs H Q
theorem call_isA : CallR X (.builtin "isinstance") (rIsA X.K) := by
  intro pins s σ H xs us Q I r h
  rcases h with h | h
  · exact call_isH pins s σ H xs us Q I r h
  · exact call_isi pins s σ H xs us Q I r h
def tXfH (K : PySem.W.Frag) (n : Str) (te : TE) : TE := fun σ H Q => te σ H fun x H1 => ∃ (a C dd : Addr) (fs : List (Str × V)) (v : V), x = .ref a ∧ H1 a = some (exh (.ref C) (some dd) a) ∧ H1 dd = some (.xd fs) ∧ XfC K C ∧ PySem.W.findIn K (.ref C) n = some none ∧ fs.lookup n = some v ∧ Q v H1
theorem pe_xfH {e : Expr} {te : TE} {pos : Pos} {n : Str} (he : PE X e te) (hb : attributeBase e n X.env (eval e X.env) = eval e X.env := by rfl) :
    PE X (.Attribute e n pos) (tXfH X.K n te) := by
  refine ⟨fun pins s σ H Q I h => ?_⟩
  refine attr_of hb (thn (he.run pins s σ H _ I h) fun u s1 hh => ?_)
  obtain ⟨x, H1, I1, rx, a, C, dd, fs, v, ex, ea, ed, T, hno, l, q⟩ := hh
  subst ex
  obtain rfl : u = Value.ref a := rx
  obtain ⟨oe, vs, ha, hz, hd⟩ := exh_at I1.hok ea
  have hx : ObjOk X.prog X.w H1 s1.heap dd (.xd fs) := I1.hok dd _ ed
  obtain ⟨mA, hns, hr⟩ := hx
  obtain ⟨od, ho, hl⟩ := lookIn_ns hns
  obtain ⟨u, hu, ru⟩ := RelO.some_of (v := v) (o := mA n) (by rw [← l]; exact hr n)
  have J : PySem.W.InstAt s1.heap a oe C (some od) := ⟨ha, hz.1, by unfold PySem.W.notCls; rw [hd] <;> rfl, by rw [hz.2]; exact ho⟩
  exact HandSPX.exc_get I1.kIn J T.ga T.gg T.exC (PySem.W.findObj_own T.hdC hno rfl (by rw [hl, hu])) (handed_of ru) ⟨v, H1, I1.tok _, ru, q⟩
theorem Inv.adopt {a : Addr} {o : Obj} {φ : Heap → Prop} (I : Inv X pins σ H s) (he : s.heap.get? a = some o) (na : H a = none) (n0 : X.s_0.heap.get? a = none) (nL : a ≠ X.env.locals) (np : ∀ p ∈ X.pn ++ pins, p.1 ≠ a)
    (nc : ∀ x c, X.env.cells.lookup x = some c → c ≠ a) (ok : ObjOk X.prog X.w (upd H a (.ext φ)) s.heap a (.ext φ)) : Inv X pins σ (upd H a (.ext φ)) s := by
  refine ⟨I.ok, I.os, I.bare, ⟨I.base.keep, I.base.slot, fun b u q n hx => ?_, I.base.there, fun b xs q => ?_, fun b u v q => ?_, fun b ps q => ?_⟩, I.loc, I.cell, ?_, fun x c e => ?_, fun p hp => ?_, fun b u e => ?_, I.len⟩
  · rw [upd_ne (fun z => by rw [z, n0] at q; cases q)]
    exact I.base.free b u q n hx
  · have z := I.base.tups b xs q
    rw [upd_ne (ne_of_none z na)]
    exact z
  · have z := I.base.frzs b u v q
    rw [upd_ne (ne_of_none z na)]
    exact z
  · obtain ⟨m, z⟩ := I.base.tbls b ps q
    exact ⟨m, by rw [upd_ne (ne_of_none z na)]; exact z⟩
  · rw [upd_ne nL.symm]
    exact I.free
  · rw [upd_ne (nc x c e)]
    exact I.freeC x c e
  · obtain ⟨e1, e2, e3⟩ := I.pin p hp
    exact ⟨e1, by rw [upd_ne (np p hp)]; exact e2, e3⟩
  · by_cases hb : b = a
    · subst hb
      rw [upd_same] at e
      cases e
      exact ok
    · rw [upd_ne hb] at e
      exact (I.hok b u e).stay (fun c v _ q => q) (fun c q => by rw [upd_ne (ne_of_none q na)]; exact q) fun c xs q => by rw [upd_ne (ne_of_none q na)]; exact q
end
end L2
set_option maxRecDepth 100000
set_option maxHeartbeats 4000000
namespace L2
open PySem PySem.Spec PyProof.Rows
def wKeep (K : PySem.W.Frag) (c : Value) (i : Nat) (ts : Addr → Value → Option Addr → TS) (Wout : WX) (D : Ends) : WX := fun cls d σ H =>
  ∃ b, PySem.W.exmOne K cls c = some b ∧ (b = true → ∀ a, H a = none → ts a cls d { nx := fun σ' H' => H' a = none ∧ D.nx (σ'.set i none) (upd H' a (exh cls d a)), rt := fun _ _ => False, bk := fun _ _ => False, ct := fun _ _ => False } (σ.set i (some (.ref a))) H) ∧
    (b = false → Wout cls d σ H)
section
variable {X : Cx} {x n : Str} {c : Value} {i : Nat} {body suite : List Stmt} {b₀ : Stmt} {np pos pos' : Pos} {tb : WX → TS} {ts : Addr → Value → Option Addr → TS} {Wout : WX}
theorem ps_try_keep (hs : X.stack = X.env :: X.outer) (hf : X.env.frame = some X.env.locals) (hex : X.ex = []) (hN : X.N.Nodup) (hi : X.N[i]? = some n) (hln : X.env.kindOf n = some .local) (hc : Names X x c) (tk : Takes X Wout)
    (hb : ∀ (W : WX) (pn : List (Addr × Obj)) (xe : Value → Shared → Prop), Takes (X.tr pn xe) W → PassesOwn (model X.prog X.w) X.A X.env xe → PSs (X.tr pn xe) body (tb W))
    (hsu : ∀ (a : Addr) (oe : Obj) (cls : Value) (d : Option Addr) (pn : List (Addr × Obj)), Zc cls d oe → (∃ vs, oe.data = .fields vs) → PSs (X.suite a ((a, oe) :: pn)) (b₀ :: suite) (ts a cls d)) :
    PS X (.Try body [.ExceptHandler (some (.Name x np)) (some n) (b₀ :: suite) pos'] [] [] pos) (fun D σ H => tb (wKeep X.K c i ts Wout D) D σ H) := by
  refine ⟨fun pins s σ H D I h => ?_⟩
  have ok := I.ok
  have hfr : X.A.frames = some (X.env :: X.outer) := by rw [ok.frames, hs]
  have hloc : Loc X.env.scope n := .inl hln
  refine wpAny_Try_except ?_
  refine wpAny_mono ((hb (wKeep X.K c i ts Wout D) (X.pn ++ pins) (fun e s₁ => wpAny (model X.prog X.w) X.A (noteFrame e X.env) (fun _ s₂ => wpAny (model X.prog X.w) X.A (setFlight e none) (fun _ s₃ =>
    wpAny (model X.prog X.w) X.A (handleBy e X.env [.ExceptHandler (some (.Name x np)) (some n) (b₀ :: suite) pos']) (SP X pins D) X.xe s₃) X.xe s₂) X.xe s₁) (fun u s' xx => ?_) PassesOwn.looking).run [] s σ H D (I.toTry _) h) (fun f s1 hsp => ?_) (fun e s1 he => he)
  ·
    obtain ⟨a, B, sI, pins', σ', H', cls, d, rfl, J', nb, up, sky, na, os, ag, b, hb1, hyes, hno⟩ := xx
    have J : Inv X pins σ' H' sI := J'.ofTry ok
    have sky' : Sky B (X.env :: X.outer) a (Zc cls d) X.env.locals s'.heap := by rw [← hs]; exact sky
    show wpAny (model X.prog X.w) X.A (noteFrame (.ref a) X.env) _ _ _
    refine Sky.land Zc.steady hfr hf sky' fun h3 fl3 up3 => ?_
    have J3 : Inv X pins σ' H' { s' with heap := h3 } := J.landed nb fl3.1 (up.trans up3) os ag
    obtain ⟨oe3, vs3, he3, hz3, hd3⟩ := fl3.there
    have notFr : ∀ {h : Heap} {o : Obj} {vs : Array Value}, h.FunFrames B (X.env :: X.outer) → h.get? a = some o → o.data = .fields vs → a ∉ frs (X.env :: X.outer) := fun {h o vs} ff e dd hm => by
      obtain ⟨_, o', e', hnf⟩ := ff.mem hm
      rw [e] at e'; cases e'
      exact hnf _ dd
    have nfr := notFr fl3.2.2.1 he3 hd3
    have nL : a ≠ X.env.locals := fun z => nfr (List.mem_filterMap.mpr ⟨X.env, List.mem_cons_self, by rw [hf, z]⟩)
    have nF : a ∉ X.fs := fun hm => by
      obtain ⟨e, he, q⟩ := List.mem_filterMap.mp hm
      exact nfr (List.mem_filterMap.mpr ⟨e, List.mem_cons_of_mem _ he, q⟩)
    have nB : B.get? a = none := fl3.2.1
    have nfr' : a ∉ frs X.stack := by rw [hs]; exact nfr
    have nI : sI.heap.get? a = none := by
      cases q : sI.heap.get? a with
      | none => rfl
      | some o =>
        have z := nb a o q nfr'
        rw [nB] at z
        cases z
    have n0 : X.s_0.heap.get? a = none := by
      cases q : X.s_0.heap.get? a with
      | none => rfl
      | some o =>
        obtain ⟨o', q'⟩ := J.base.there a o q (by rw [hex]; exact fun z => nomatch z)
        rw [nI] at q'
        cases q'
    have npin : ∀ p ∈ X.pn ++ pins, p.1 ≠ a := fun p hp z => by
      obtain ⟨e, _⟩ := J.pin p hp
      rw [z, nI] at e
      cases e
    have S3 := J3.suite he3 hd3 na nL nF
    refine wpAny_handleBy_cons (codeAny_handlers_test ?_) (by intro q; cases q)
    have LT : PySem.W.Looks (model X.prog X.w) h3 (typeOf (.ref a)) cls := fun A Q E s k q => wpAny_typeOf_ref (k _ _ he3) (by rw [hz3.1]; exact q)
    have LM := PySem.W.exm_one (M := model X.prog X.w) (J3.kIn) LT hb1
    have test : ∀ {Q : Value → Shared → Prop} {E : Value → Shared → Prop}, Q c { s' with heap := h3 } → wpAny (model X.prog X.w) (X.A.mark (some (.ref a))) (eval (.Name x np) X.env) Q E { s' with heap := h3 } := fun {Q E} q => by
      obtain ⟨hg, hdbg, hm | ⟨hm, hv, hnn⟩⟩ := hc
      · exact ld_glob (X := X.suite a ((a, oe3) :: (X.pn ++ pins))) S3 hg hm q hdbg
      · exact ld_blt (X := X.suite a ((a, oe3) :: (X.pn ++ pins))) S3 hg hm hv q hnn hdbg
    refine test (LM.here ?_)
    cases b with
    | true =>
      refine codeAny_handlers_suite_as ?_
      refine HandSPX.lands_againZ fl3 fun h4 fl4 up4 => ?_
      have J4 : Inv X pins σ' H' { s' with heap := h4 } := J.landed nb fl4.1 ((up.trans up3).trans up4) os ag
      obtain ⟨oe4, vs4, he4, hz4, hd4⟩ := fl4.there
      have S4 := J4.suite he4 hd4 na nL nF
      refine store_ok (X := X.suite a ((a, oe4) :: (X.pn ++ pins))) (v := .ref a) S4 hN hi hloc rfl (fun s5 S5 => ?_) (.inr hln)
      refine wpAny_mono ((hsu a oe4 cls d (X.pn ++ pins) hz4 ⟨_, hd4⟩).run [] s5 _ H' _ S5 (hyes rfl a na)) (fun f s6 hsp => ?_) (fun _ _ z => False.elim z)
      cases f with
      | next =>
        obtain ⟨σ6, H6, S6, n6, q6⟩ := hsp
        obtain ⟨he6, _⟩ := S6.pin (a, oe4) (List.mem_append.mpr (.inl List.mem_cons_self))
        have J6 : Inv X pins σ6 H6 s6 := S6.unsuite ok
        have nc : ∀ y c, X.env.cells.lookup y = some c → c ≠ a := fun y c e z => by
          obtain ⟨v, o, ho, hv⟩ := J6.cell y c e
          rw [z, he6] at ho
          cases ho
          rw [hd4] at hv
          cases hv
        have J7 : Inv X pins σ6 (upd H6 a (exh cls d a)) s6 := J6.adopt he6 n6 n0 nL npin nc (exh_ok he6 hz4 hd4)
        exact gone_ok J7 hN hi hln fun s7 J8 => ⟨_, _, J8, q6⟩
      | brk =>
        obtain ⟨σ6, H6, S6, q6⟩ := hsp
        exact False.elim q6
      | cont =>
        obtain ⟨σ6, H6, S6, q6⟩ := hsp
        exact False.elim q6
      | ret u =>
        obtain ⟨v6, σ6, H6, S6, r6, q6⟩ := hsp
        exact False.elim q6
    | false =>
      show wpAny _ X.A (handleBy (.ref a) X.env []) _ _ _
      refine wpAny_handleBy_nil ?_
      obtain ⟨k1, k2, k3, oe, vs, T, oT, ts', he, hz, hd, h1, hr⟩ := id fl3
      unfold PySem.passOn
      refine wpAny_bind (wpAny_field he hd h1 ?_)
      rw [if_neg (show ¬ ((Value.ref T == Value.none) = true) from by simp)]
      have fin : wpAny (model X.prog X.w) X.A (setFlight (.ref a) X.env.frame) (fun _ s4 => wpAny (model X.prog X.w) X.A (throw (.ref a) : Sem Flow) (SP X pins D) X.xe s4) X.xe { s' with heap := h3 } := by
        rw [hf]
        refine HandSPX.setFlight_upZ fl3 fun h4 hh4 up4 => wpAny_throw (tk _ _ ?_)
        exact ⟨a, B, sI, pins, σ', H', cls, d, rfl, J, nb, (up.trans up3).trans up4, .inr (.inr (by rw [hs]; exact hh4)), na, os, ag, hno rfl⟩
      first
        | exact wpAny_bind (wpAny_pure (wpAny_bind fin))
        | exact wpAny_bind fin
  · cases f with
    | next =>
      obtain ⟨σ', H', J', q⟩ := hsp
      exact wpAny_execs_nil ⟨σ', H', J'.ofTry ok, q⟩
    | brk =>
      obtain ⟨σ', H', J', q⟩ := hsp
      exact ⟨σ', H', J'.ofTry ok, q⟩
    | cont =>
      obtain ⟨σ', H', J', q⟩ := hsp
      exact ⟨σ', H', J'.ofTry ok, q⟩
    | ret u =>
      obtain ⟨v, σ', H', J', r, q⟩ := hsp
      exact ⟨v, σ', H', J'.ofTry ok, r, q⟩
end
end L2
set_option maxRecDepth 100000
set_option maxHeartbeats 4000000
namespace LamX
open PySem PySem.Spec PyProof.Rows L2
section
variable {X : Cx} {pins : List (Addr × Obj)} {σ : L2.St} {H : Hp} {s : Shared}
theorem tt_act {CXg : CXT} {Eg : XK} {names : List Str} {qg : Str} {sg : Scope} {g fl co : Addr} {cdg pm ctv : Value} {ps : Arguments} {bd : Expr} {lsc : Scope} {k i : Nat} {a : Str} {pn : List (Addr × Obj)} {xe : Value → Shared → Prop} {W : WX} {Ew : L2.St → XK} {rd : XK → TE} {p1 p2 : Pos}
    (I : Inv X pins σ H s) (L : LamS X.env.scope lsc) (h1 : s.heap.get? fl = some (PySem.W.kla_obj "<lambda>" (X.env.qual ++ "<lambda>") ps bd lsc (cloFrom X.env.cells lsc.names []) pm co ctv)) (h2 : H fl = none) (h3 : fl ∉ frs X.stack)
    (noArgs : bindArgs (PySem.W.kla_fn "<lambda>" (X.env.qual ++ "<lambda>") ps bd lsc (cloFrom X.env.cells lsc.names []) pm (.ref co) ctv) ⟨[], []⟩ = pure [])
    (tk : Takes ((cxOf CXg X.prog X.w X.K X.mg X.base names qg sg g cdg X.A X.stack s H Eg).tr pn xe) W) (wish : ∀ τ cls d H', Ew τ cls d H' → W cls d τ H') (room : Room (k + 1) (X.A.deeper (envOfC qg sg s.heap.objs.size g cdg)))
    (body : ∀ (E : XK) (A : Around) (outer : List Env) (s : Shared) (H : Hp), Room k (A.deeper (lamEnv X lsc s.heap.objs.size fl co)) → PE (lamCx X A outer s H E lsc fl co) bd (rd E))
    (at_ : names[i]? = some a) (vis : Vis sg a) (n1 : (a == ("__debug__" : Str)) = false) (n2 : (a == ("__classdict__" : Str)) = false) :
    PE ((cxOf CXg X.prog X.w X.K X.mg X.base names qg sg g cdg X.A X.stack s H Eg).tr pn xe) (.Call (.Name a p1) [] [] p2)
      (fun τ G Q => τ[i]? = some (some (.ref fl)) ∧ G co = some (CodeO co (X.env.qual ++ "<lambda>")) ∧ rd (Ew τ) σ G Q) := by
  refine ⟨fun pz sz τ G Q J hyp => ?_⟩
  obtain ⟨slot, code, want⟩ := hyp
  have load := (pe_var (pos := p1) (i := i) at_ vis n1 n2).run pz sz τ G (fun v G' => v = .ref fl ∧ G' = G) J ⟨.ref fl, slot, rfl, rfl⟩
  refine wpAny_Call_Name_kw (thn load fun u s1 ⟨v, G', J1, ru, ev, eG⟩ => ?_)
  subst ev eG
  obtain rfl : u = Value.ref fl := ru
  have here : s1.heap.get? fl = some (PySem.W.kla_obj "<lambda>" (X.env.qual ++ "<lambda>") ps bd lsc (cloFrom X.env.cells lsc.names []) pm co ctv) := J1.base.keep fl _ h1 h2 h3 (fun z => nomatch (show fl ∈ ([] : List Addr) from z))
  refine PySem.W.callWith_F0 ⟨_, _, _, _, here⟩ ?_
  have since : Un (frs X.stack) [] H G' s.heap s1.heap := J1.base
  obtain ⟨⟨oc, fields, tok, ho, hf, hq⟩, _, _⟩ := J1.hok co _ code
  have run : codeAny (model X.prog X.w) (X.A.deeper (envOfC qg sg s.heap.objs.size g cdg)) (.call (.ref fl) ⟨[], []⟩) (CR (L2.CX X.prog X.w) (envOfC qg sg s.heap.objs.size g cdg :: X.stack) X.prog X.w G' s1 Q (Ew τ)) s1 := by
    refine PySem.W.kla_callFunE room.depth here rfl L.co L.gen rfl ⟨co, oc, fields, tok, rfl, ho, hf, hq⟩ ?_
    rw [noArgs]
    refine wpAny_pure (wpAny_newFunctionEnv (fun y hy => (L.own y hy).2) (fun y hy => absurd hy (by simp)) (fun h' ns but => ⟨J1.nolimit.fresh _ but, ?_⟩) L.kind)
    have stays : ∀ b o, s1.heap.get? b = some o → h'.get? b = some o := fun b o e => but.extBut b o (Nat.ne_of_lt (Heap.lt_size e)) (Heap.get?_push_of_some _ e)
    have start : Inv (lamCx X (X.A.deeper (envOfC qg sg s.heap.objs.size g cdg)) (envOfC qg sg s.heap.objs.size g cdg :: X.stack) s1 G' (Ew τ) lsc fl co) [] σ G' { s1 with heap := h', toks := s1.toks + ([] : List (Str × Value)).length } :=
      lam_start2 I L J1.env0 room.hd since ns stays
    show codeAny _ _ (.expr bd (lamEnv X lsc s1.heap.objs.size fl co)) _ _
    refine PySem.W.kla_codeExpr (wpAny_mono ((body (Ew τ) _ _ s1 G' (room.deeper _)).run [] _ _ G' Q start want) (fun v s' ⟨x, G2, J2, rx, q⟩ => ?_) fun e s' q => q)
    exact ⟨x, G2, J2.os, J2.bare, J2.base, J2.hok, rx, q⟩
  refine wpAny_call (codeAny_mono run fun r s' q => ?_)
  match r with
  | .error e => exact tk e s' (XE.of_call J1 (fun cls d G2 z => wish τ cls d G2 z) q)
  | .ok (.ret u) => exact J1.after q
  | .ok .next => exact False.elim q
  | .ok .brk => exact False.elim q
  | .ok .cont => exact False.elim q
end
def GivesToS (X : Cx) (names : List Str) (x : Str) (sg : Scope) (g : Addr) (cdg : Value) (bg : List Stmt) (a : Str) (q : Str) (TT : (XK → Hp → VK → Prop) → Hp → VK → Prop) : Prop :=
  ∀ (fl co : Addr) (s : Shared) (H : Hp) (Q : VK) (tl : XK → Hp → VK → Prop),
    (∀ (W : WX) (pn : List (Addr × Obj)) (xe : Value → Shared → Prop) (Ew : L2.St → XK) (p1 p2 : Pos), Takes ((cxOf C8.CX0 X.prog X.w X.K X.mg X.base names x sg g cdg X.A X.stack s H C8.E0).tr pn xe) W → (∀ τ cls d H', Ew τ cls d H' → W cls d τ H') →
      PE ((cxOf C8.CX0 X.prog X.w X.K X.mg X.base names x sg g cdg X.A X.stack s H C8.E0).tr pn xe) (.Call (.Name a p1) [] [] p2) (fun τ G Q => τ[0]? = some (some (.ref fl)) ∧ G co = some (CodeO co q) ∧ tl (Ew τ) G Q)) →
    H co = some (CodeO co q) → TT tl H Q →
    ∃ t, PSs (cxOf C8.CX0 X.prog X.w X.K X.mg X.base names x sg g cdg X.A X.stack s H C8.E0).nox bg t ∧ t { nx := fun _ H' => Q .non H', rt := Q } (L2.start names [.ref fl]) H
section
variable {X : Cx}
theorem tt_lamcall {T : List (Addr × Str)} {TT : (XK → Hp → VK → Prop) → Hp → VK → Prop} {x a : Str} {g c P : Addr} {k : Nat} {pg : Arguments} {bg : List Stmt} {sg : Scope} {dV kV doc pm cdv ct oc : Value} {an od : Option Addr} {osl : Array (Option Value)} {names : List Str}
    {ps : Arguments} {bd : Expr} {lsc : Scope} {t : XK → TE} {p lpos pos : Pos} (hg : Gl X x) (hm : X.mg x = some (.ref g)) (hk : PySem.W.keepIn X.K (.ref g) = true)
    (lk : X.K.lookup g = some ⟨oc, od, .func (PySem.W.fnOf x x pg bg sg dV kV doc pm an cdv ct), osl⟩) (hcg : PySem.W.codeIn X.K cdv x = true) (hb : L2.Binds X.K (PySem.W.fnOf x x pg bg sg dV kV doc pm an cdv ct) [a] []) (Sg : FnScope names [a] sg) (at_ : names[0]? = some a) (vis : Vis sg a)
    (hG : GivesToS X names x sg g cdv bg a (X.env.qual ++ "<lambda>") TT)
    (TB : TabB X.base X.mg c P) (hcode : X.env.code = .ref c) (hmT : (P, X.env.qual ++ "<lambda>") ∈ T) (hu : ∀ p ∈ T, p.1 = P → p.2 = X.env.qual ++ "<lambda>") (hr : Room (k + 2) X.A) (L : LamS X.env.scope lsc) (hdef : defaultsOf ps X.env = ([], []))
    (noArgs : ∀ (q : Str) (cl : List (Str × Addr)) (pm cv ctv : Value), bindArgs (PySem.W.kla_fn "<lambda>" q ps bd lsc cl pm cv ctv) ⟨[], []⟩ = pure [])
    (body : ∀ (A : Around) (outer : List Env) (s : Shared) (H : Hp) (E : XK) (fl co : Addr), Room k (A.deeper (lamEnv X lsc s.heap.objs.size fl co)) → PE (lamCx X A outer s H E lsc fl co) bd (t E))
    (n0 : (x == ("__debug__" : Str)) = false := by decide) (n1 : (a == ("__debug__" : Str)) = false := by decide) (n2 : (a == ("__classdict__" : Str)) = false := by decide) :
    PE X (.Call (.Name x p) [.Lambda ps bd lsc lpos] [] pos) (tLam T TT t) := by
  refine ⟨fun pins s σ H Q I hyp => ?_⟩
  obtain ⟨tabs, want⟩ := hyp
  refine wpAny_Call_Name_kw (ld_glob I hg hm ?_ n0)
  refine PySem.W.callWith_K (h₀ := X.base) I.ok.mod.kin hk ?_ (by rfl) (by rfl)
  show wpAny _ _ (spliced ((false, eval (.Lambda ps bd lsc lpos) X.env) :: backTo pos (starEach [] X.env))) _ _ s
  refine Calls.spliced_cons (lam_make2 I TB hcode hmT hu tabs hdef (L.has I.ok) fun fl co pm' ctv G s' J eN tabs' f1 f2 f3 fc => ?_)
  refine Calls.spliced_nil ⟨J.kIn, ?_⟩
  have run : codeAny (model X.prog X.w) X.A (.call (.ref g) ⟨[.ref fl], []⟩) (CR C8.CX0 X.stack X.prog X.w G s' Q C8.E0) s' := by
    refine run_ofS (N := names) (ps := [a]) (us := [.ref fl]) (vs := [.ref fl]) lk hcg Sg hr J.env0 (hb s' [.ref fl] J.kIn rfl) (.cons rfl .nil) rfl fun hr' => ?_
    obtain ⟨t', ht', hq'⟩ := hG fl co s' G Q (fun E G' Q' => t E σ G' Q') (fun W pn xe Ew p1 p2 tk wish => tt_act (i := 0) J L f1 f2 f3 (noArgs _ _ _ _ _) tk wish hr' (fun E A outer s H room => body A outer s H E fl co room) at_ vis n1 n2) fc (want G eN tabs')
    exact ⟨t', ht'.nox, hq'⟩
  refine wpAny_call (codeAny_mono run fun r s2 q => ?_)
  match r with
  | .error e => exact (show False from q).elim
  | .ok (.ret u) => exact J.after q
  | .ok .next => exact False.elim q
  | .ok .brk => exact False.elim q
  | .ok .cont => exact False.elim q
end
end LamX
set_option maxRecDepth 100000
set_option maxHeartbeats 4000000
namespace L2
open PySem PySem.Spec PyProof.Rows HT
section
variable {X : Cx} {K : PySem.W.Frag}
def FzT (H : Hp) (a : Addr) (xs : List V) : Prop := ∃ ob : Obj, H a = some (.frz ob (.tup xs)) ∧ ob.dict = none
theorem FzT.sq {H : Hp} {a : Addr} {xs : List V} (h : FzT H a xs) : SqT K H a xs := by
  obtain ⟨ob, h, _⟩ := h
  exact .inl (.inr ⟨ob, h⟩)
theorem FzT.new {H : Hp} {p : Addr} {ob : Obj} {xs : List V} (h : ob.dict = none) : FzT (upd H p (.frz ob (.tup xs))) p xs := ⟨ob, upd_same, h⟩
def NwT (H : Hp) (xs : List V) (Q : VK) : Prop := ∀ (p : Addr) (ob : Obj), H p = none → ob.dict = none → Q (.ref p) (upd H p (.frz ob (.tup xs)))
def rTupF (K : PySem.W.Frag) : List V → Hp → VK → Prop := fun xs H Q => ∃ p ys, xs = [.ref p] ∧ ((SqL K H p ys ∧ NwT H ys Q) ∨ (SqT K H p ys ∧ Q (.ref p) H))
theorem call_tuple_ofF : CallR X (.type "tuple") (rTupF X.K) := by
  intro pins s σ H xs us Q I r h
  obtain ⟨p, ys, rfl, h⟩ := h
  obtain ⟨u, rfl, rx⟩ := vals1 r
  cases rx
  rcases h with ⟨hq, q⟩ | ⟨hq, q⟩
  · obtain ⟨its, rv, pl, hz⟩ := I.list hq
    have hn := rv.length
    refine call_tuple_list pl.isList (fun h' kp => ?_) (by simp only [List.size_toArray] <;> omega)
    have J : Inv X pins σ H { s with heap := h' } := I.kept (t' := s.toks) kp
    have J2 : Inv X pins σ (upd H h'.objs.size (.frz { cls := .type "tuple", data := .seq its.toArray } (.tup ys))) { s with heap := h'.push { cls := .type "tuple", data := .seq its.toArray } } :=
      J.laid (t' := s.toks) (fun b o e => Heap.get?_push_of_some _ e) (Nat.le_refl _) ⟨Heap.get?_push_size _ rfl, hz, its, rv, IsTup.new _ _⟩
    exact ⟨.ref h'.objs.size, _, J2, rfl, q _ _ (J.hok.fresh (Nat.le_refl _)) rfl⟩
  · obtain ⟨its, rv, pl, hz⟩ := I.tuple hq
    exact call_tuple_same pl ⟨.ref p, H, I, rfl, q⟩
def rCatF (K : PySem.W.Frag) : R2 := fun x y H Q => ∃ a b xs ys, x = .ref a ∧ y = .ref b ∧ SqT K H a xs ∧ SqT K H b ys ∧ xs ≠ [] ∧ xs.length + ys.length ≤ sizeLine ∧
  (ys = [] → Q (.ref a) H) ∧ (ys ≠ [] → NwT H (xs ++ ys) Q)
theorem op_catF : OpR X (binaryOp .Add) (rCatF X.K) := by
  intro pins s σ H x y v u Q I rx ry h
  obtain ⟨a, b, xs, ys, rfl, rfl, ha, hb, hx, hz, q1, q2⟩ := h
  cases rx
  cases ry
  obtain ⟨its, r1, p1, _⟩ := I.tuple ha
  obtain ⟨its2, r2, p2, _⟩ := I.tuple hb
  refine HT.cat_tup p1 p2 (fun z => hx (r1.nil_iff.mp z)) (fun z => ⟨.ref a, H, I, rfl, q1 (r2.nil_iff.mp z)⟩) (fun z => ?_) (by rw [← r1.length, ← r2.length]; exact hz)
  refine ⟨.ref s.heap.objs.size, _, I.laid (t' := s.toks) (fun b ob q => Heap.get?_push_of_some _ q) (Nat.le_refl _) ?_, rfl, q2 (fun w => z (r2.nil_iff.mpr w)) _ { cls := .type "tuple", data := .seq (its ++ its2).toArray } (I.hok.fresh (Nat.le_refl _)) rfl⟩
  exact ⟨Heap.get?_push_size _ rfl, by rw [List.length_append]; exact hz, _, r1.append r2, IsTup.new _ _⟩
def tyF (K : PySem.W.Frag) (T : String) (x : V) (H : Hp) : Prop := tyV K T x H ∨ (T = "tuple" ∧ ∃ p xs, x = .ref p ∧ FzT H p xs)
theorem tyF_is {pins : List (Addr × Obj)} {σ : St} {H : Hp} {s : Shared} {T : String} {x : V} {v : Value} (I : Inv X pins σ H s) (r : RelV x v) (ty : tyF X.K T x H) :
    s.TypeIs v T ∧ ∀ a, v = .ref a → ∃ ob, s.heap.get? a = some ob ∧ ob.dict = none := by
  rcases ty with ty | ⟨rfl, p, xs, rfl, ob, h, hd⟩
  · exact tyV_is I r ty
  · cases r
    obtain ⟨e, _, its, _, o, e2, hc, _⟩ := (show ObjOk X.prog X.w H s.heap p (.frz ob (.tup xs)) from I.hok p _ h)
    rw [e] at e2
    cases e2
    refine ⟨⟨ob, e, hc⟩, fun a z => ?_⟩
    cases z
    exact ⟨ob, e, hd⟩
def tBMF (K : PySem.W.Frag) (T : String) (r : V → List V → Hp → VK → Prop) (to : TE) (t : TA) : TE := fun σ H Q => to σ H fun x H1 => tyF K T x H1 ∧ t σ H1 fun xs H2 => r x xs H2 Q
variable {o e : Expr} {es : List Expr} {to : TE} {t : TA} {name : Str} {apos cpos : Pos} {T id : String} {r : V → List V → Hp → VK → Prop}
theorem pe_bmF (pa : PlainAttrs T) (slot : Slot T name id) (hty : typeOf (.builtin id) = pure (.type "method_descriptor")) (hm : MtR X id r) (ho : PE X o to) (ha : PA X (e :: es) t)
    (hbase : attributeBase o name X.env (eval o X.env) = eval o X.env := by rfl)
    (hfew : ((backTo cpos (starEach (e :: es) X.env)).all (fun x => !x.1) && (backToKw cpos (keywordEach [] X.env)).all (fun x => x.1.isSome)
      && decide ((e :: es).length + ([] : List Keyword).length + (if ([] : List Keyword).isEmpty then 0 else 1) < 30)) = true := by rfl)
    (hline : (apos.endLine == cpos.line) = true := by rfl) (hs : starEach (e :: es) X.env = (false, eval e X.env) :: starEach es X.env := by rfl) (hplain : (backTo cpos (starEach es X.env)).any (·.1) = false := by rfl) :
    PE X (.Call (.Attribute o name apos) (e :: es) [] cpos) (tBMF X.K T r to t) := by
  refine ⟨fun pins s σ H Q I h => ?_⟩
  refine wpAny_Call_method_late hbase hfew hline rfl (thn (ho.run pins s σ H _ I h) fun v s1 ⟨x, H1, I1, r1, ty, q1⟩ => ?_)
  obtain ⟨h1, h2⟩ := tyF_is I1 r1 ty
  refine ⟨T, id, pa, slot, hty, h1, h2, ?_⟩
  have hA := ha.run cpos pins s1 σ H1 _ I1 q1
  rw [hs] at hA ⊢
  refine Calls.callWith_builtin (by show (false || (backTo cpos (starEach es X.env)).any (·.1)) = false; rw [hplain] <;> rfl) (Calls.evalArgs_plain ?_)
  exact thn hA fun us s2 ⟨vs, H2, I2, r2, q2⟩ => hm pins s2 σ H2 x vs v us Q I2 r1 r2 q2
theorem pe_bmFK (hk : X.K = K) (pa : PlainAttrs T) (slot : Slot T name id) (hty : typeOf (.builtin id) = pure (.type "method_descriptor")) (hm : MtR X id r) (ho : PE X o to) (ha : PA X (e :: es) t)
    (hbase : attributeBase o name X.env (eval o X.env) = eval o X.env := by rfl)
    (hfew : ((backTo cpos (starEach (e :: es) X.env)).all (fun x => !x.1) && (backToKw cpos (keywordEach [] X.env)).all (fun x => x.1.isSome)
      && decide ((e :: es).length + ([] : List Keyword).length + (if ([] : List Keyword).isEmpty then 0 else 1) < 30)) = true := by rfl)
    (hline : (apos.endLine == cpos.line) = true := by rfl) (hs : starEach (e :: es) X.env = (false, eval e X.env) :: starEach es X.env := by rfl) (hplain : (backTo cpos (starEach es X.env)).any (·.1) = false := by rfl) :
    PE X (.Call (.Attribute o name apos) (e :: es) [] cpos) (tBMF K T r to t) := by
  subst hk
  exact pe_bmF pa slot hty hm ho ha hbase hfew hline hs hplain
end
end L2
set_option maxRecDepth 100000
set_option maxHeartbeats 4000000
namespace L2
open PySem PySem.Spec PyProof.Rows
def Swaps (fd : FuncData) (a b : Str) : Prop := ∀ (s : Shared) (v u : Value), BindsTo s fd ⟨[], [(b, v), (a, u)]⟩ [(a, u), (b, v)]
theorem Fun.swaps {K : PySem.W.Frag} {x qual : Str} {st : Stmt} {f : Addr} {fd : FuncData} {a b : Str} (F : Fun K x qual st f fd)
    (h : ∀ (kV doc pm : Value) (an : Option Addr) (cdv ct v u : Value), bindArgs (PySem.W.fnOf x qual (defArgs st) (defBody st) (defScope st) .none kV doc pm an cdv ct) ⟨[], [(b, v), (a, u)]⟩ = pure [(a, u), (b, v)]) : Swaps fd a b := by
  obtain ⟨oc, od, kV, doc, pm, an, cdv, ct, osl, rfl, lk, hcd⟩ := F.ex
  exact fun s v u => BindsTo.of_eq (h kV doc pm an cdv ct v u)
def tSw (sp : Sp) (E : XK) (t1 t2 : TE) : TE := fun σ H Q => tCons t1 (tCons t2 tNil) σ H fun zs H2 => sp zs.reverse H2 Q E
section
variable {X : Cx} {CX : CXT} {k : Nat} {f : Addr} {fd : FuncData} {a b : Str} {sp : Sp} {E : XK} {x : Str} {p p1 p2 pos : Pos} {e1 e2 : Expr} {t1 t2 : TE}
theorem run_sw {pins : List (Addr × Obj)} {σ : St} {H : Hp} {s : Shared} {Q : VK} {v u : V} {v' u' : Value} (F : FnOk X.prog X.w X.K X.mg X.base CX k f fd [a, b] sp) (hr : Room k X.A) (hb : Swaps fd a b) (hx : Passes CX X E)
    (I : Inv X pins σ H s) (r1 : RelV v v') (r2 : RelV u u') (h : sp [u, v] H Q E) : wpAny (model X.prog X.w) X.A (call (.ref f) [] [(b, v'), (a, u')]) (EP X pins σ Q) X.xe s := by
  refine wpAny_call (codeAny_mono (F.run X.A X.stack s H ⟨[], [(b, v'), (a, u')]⟩ [u', v'] [u, v] Q E hr I.env0 (hb s v' u') (.cons r2 (.cons r1 .nil)) h) fun r s' hq => ?_)
  cases r with
  | error e => exact hx pins σ H s e s' I hq
  | ok fl =>
    cases fl with
    | ret u => exact I.after hq
    | next => exact False.elim hq
    | brk => exact False.elim hq
    | cont => exact False.elim hq
theorem pe_callSw (F : FnOk X.prog X.w X.K X.mg X.base CX k f fd [a, b] sp) (hr : Room k X.A) (hg : Gl X x) (hm : X.mg x = some (.ref f)) (hk : PySem.W.keepIn X.K (.ref f) = true) (hb : Swaps fd a b) (hx : Passes CX X E)
    (h1 : PE X e1 t1) (h2 : PE X e2 t2) (hdb : (x == ("__debug__" : Str)) = false := by decide)
    (hall : (backToKw pos (keywordEach [⟨some b, e1, p1⟩, ⟨some a, e2, p2⟩] X.env)).all (·.1.isSome) = true := by rfl) (hks : (backToKw pos (keywordEach [⟨some b, e1, p1⟩, ⟨some a, e2, p2⟩] X.env)).filterMap (·.1) = [b, a] := by rfl)
    (hpl : ((backTo pos (starEach [] X.env)).any (·.1) || (backToKw pos (keywordEach [⟨some b, e1, p1⟩, ⟨some a, e2, p2⟩] X.env)).any (·.1.isNone)) = false := by rfl) :
    PE X (.Call (.Name x p) [] [⟨some b, e1, p1⟩, ⟨some a, e2, p2⟩] pos) (tSw sp E t1 t2) := by
  refine ⟨fun pins s σ H Q I h => ?_⟩
  refine wpAny_Call_Name_kw (ld_glob I hg hm ?_ hdb)
  refine PySem.W.callWith_KW0 (h₀ := X.base) I.ok.mod.kin hk hall ?_ hpl
  refine thn ((pk_cons h1 (pk_cons h2 pk_nil)).run pos pins s σ H _ I h) fun ws s2 ⟨zs, H2, J, rz, q⟩ => ⟨J.kIn, ?_⟩
  rw [hks]
  have hl := F.len _ _ _ _ q
  rw [List.length_reverse] at hl
  cases rz with
  | nil => exact absurd hl (by simp)
  | cons r1 rz =>
    cases rz with
    | nil => exact absurd hl (by simp)
    | cons r2 rz =>
      cases rz with
      | nil => exact run_sw F hr hb hx J r1 r2 q
      | cons r3 rz => exact absurd hl (by simp)
end
end L2
set_option maxRecDepth 100000
set_option maxHeartbeats 4000000
namespace L2
open PySem PySem.Spec PyProof.Rows
section
variable {X : Cx}
def rShow (K : PySem.W.Frag) : List V → Hp → VK → Prop := fun xs H Q => ∃ (a : Addr) (d : PyData), xs = [.ref a] ∧ Dp K H (.ref a) d ∧ d.showable = true ∧ d.hasDict = false ∧ d.depth ≤ 60 ∧ d.shown.length ≤ sizeLine ∧ Q (.str d.shown) H
theorem call_show (hg : X.A.guards = some []) (hu : X.A.units + 64 < cLine) : CallR X (.builtin "repr") (rShow X.K) := by
  intro pins s σ H xs us Q I r h
  obtain ⟨a, d, rfl, hd, h1, h2, h3, h4, q⟩ := h
  obtain ⟨u, rfl, rx⟩ := vals1 r
  cases rx
  obtain ⟨as, rd⟩ := Dp.reads I d (.ref a) (.ref a) hd rfl
  exact repr_of_reads' rd h1 (fun z => absurd (h2.symm.trans z) (by decide)) hg (by omega) (fun b o e => e) (fun h' u tk k => ⟨.str d.shown, H, I.kept (t' := tk) k, ⟨u, rfl⟩, q⟩) h4
end
end L2
set_option maxRecDepth 100000
set_option maxHeartbeats 4000000
namespace L2
open PySem PySem.Spec PyProof.Rows
open PySem.W (alike alikeAll minD min_list_data)
def rowD (m : List Int) : PyData := .tuple (m.map PyData.int)
theorem alike_ints : ∀ a b : List Int, alikeAll (a.map PyData.int) (b.map PyData.int) = true
  | [], _ => by simp [alikeAll]
  | _ :: _, [] => by simp [alikeAll]
  | x :: a, y :: b => by
    show (alike (.int x) (.int y) && alikeAll (a.map PyData.int) (b.map PyData.int)) = true
    rw [alike_ints a b]
    rfl
theorem depth_ints : ∀ a : List Int, PyData.depthAll (a.map PyData.int) = 0
  | [] => rfl
  | x :: a => by
    show max 0 (PyData.depthAll (a.map PyData.int)) = 0
    rw [depth_ints a]
    rfl
theorem depth_rows : ∀ rs : List (List Int), PyData.depthAll (rs.map rowD) ≤ 1
  | [] => Nat.zero_le _
  | r :: rs => by
    show max (PyData.depthAll (r.map PyData.int) + 1) (PyData.depthAll (rs.map rowD)) ≤ 1
    rw [depth_ints r]
    have := depth_rows rs
    omega
theorem rowD_inj {a b : List Int} (h : rowD a = rowD b) : a = b := by
  unfold rowD at h
  injection h with h
  induction a generalizing b with
  | nil =>
    cases b with
    | nil => rfl
    | cons y b => cases h
  | cons x a ih =>
    cases b with
    | nil => cases h
    | cons y b =>
      rw [List.map_cons, List.map_cons] at h
      injection h with h1 h2
      injection h1 with h1
      rw [h1, ih h2]
theorem pair_at {α β : Type} {F : α → β → Prop} : ∀ {l : List α} {k : List β}, Paired F l k → ∀ {i : Nat} {a : α} {b : β}, l[i]? = some a → k[i]? = some b → F a b
  | _, _, .nil, i, a, b, h, _ => by simp at h
  | _, _, .cons r _, 0, a, b, h, g => by
    simp at h g
    subst h
    subst g
    exact r
  | _, _, .cons _ t, i + 1, a, b, h, g => pair_at t (by simpa using h) (by simpa using g)
section
variable {X : Cx}
theorem dpAll_intsL {K : PySem.W.Frag} (H : Hp) : ∀ ls : List Int, DpAll K H (ls.map V.int) (ls.map PyData.int)
  | [] => .nil
  | a :: l => .cons (.int a) (dpAll_intsL H l)
theorem dpAll_rows {K : PySem.W.Frag} {H : Hp} : ∀ {ps : List Addr} {rows : List (List Int)}, Paired (fun p m => SqT K H p (m.map V.int)) ps rows → DpAll K H (ps.map V.ref) (rows.map rowD)
  | _, _, .nil => .nil
  | _, _, .cons h t => .cons (.tup h (dpAll_intsL H _)) (dpAll_rows t)
def rMinT (K : PySem.W.Frag) : List V → Hp → VK → Prop := fun vs H Q => ∃ (l : Addr) (ps : List Addr) (r0 : List Int) (rs : List (List Int)), vs = [.ref l] ∧ SqL K H l (ps.map V.ref) ∧ Paired (fun p m => SqT K H p (m.map V.int)) ps (r0 :: rs) ∧
  ∀ (i : Nat) (p : Addr), ps[i]? = some p → (∀ m, (r0 :: rs)[i]? = some m → rowD m = minD (rowD r0) (rs.map rowD)) → Q (.ref p) H
theorem cr_minT (hc : X.calm = true) (hu : X.A.units + 64 < cLine) : CallR X (.builtin "min") (rMinT X.K) := by
  intro pins s σ H vs us Q I r h
  obtain ⟨l, ps, r0, rs, rfl, hs, hp, q⟩ := h
  obtain ⟨its, rv, hl, _⟩ := I.list hs
  rw [Vals.ref1 r]
  obtain ⟨as, hr⟩ := Dp.readsAll I _ _ its (dpAll_rows hp) rv
  have hd := depth_rows (r0 :: rs)
  refine min_list_data (I.ok.hd hc) hl.isList (x := rowD r0) (xs := rs.map rowD) (as := as) hr ⟨fun x hx y hy => ?_, fun x hx => ?_⟩ (by show X.A.units + 1 + PyData.depthAll ((r0 :: rs).map rowD) < cLine; omega) fun i v h' tk bs hv hm hk => ?_
  · obtain ⟨a, _, rfl⟩ := List.mem_map.mp (show x ∈ (r0 :: rs).map rowD from hx)
    obtain ⟨b, _, rfl⟩ := List.mem_map.mp (show y ∈ (r0 :: rs).map rowD from hy)
    exact alike_ints a b
  · obtain ⟨a, _, rfl⟩ := List.mem_map.mp (show x ∈ (r0 :: rs).map rowD from hx)
    exact fun z => by cases z
  · have hv' : its[i]? = some v := by simpa using hv
    have hi : i < ps.length := by
      have h1 := (List.getElem?_eq_some_iff.mp hv').1
      have h2 := rv.length
      rw [List.length_map] at h2
      omega
    obtain ⟨v2, e2, rel⟩ := rv.get (i := i) (x := V.ref ps[i]) (by simp [hi])
    rw [hv'] at e2
    cases e2
    obtain rfl : v = .ref ps[i] := rel
    refine ⟨.ref ps[i], H, I.kept (t' := tk) hk, rfl, q i ps[i] (List.getElem?_eq_getElem hi) fun m hm2 => ?_⟩
    obtain ⟨as0, r0'⟩ := Dp.reads I (rowD m) (.ref ps[i]) (.ref ps[i]) (.tup (pair_at hp (List.getElem?_eq_getElem hi) hm2) (dpAll_intsL H m)) rfl
    exact (reads_det (fun b o e _ => hk b o e) r0' hm).1.symm
end
end L2
set_option maxRecDepth 100000
set_option maxHeartbeats 4000000
namespace L2
open PySem PySem.Spec PyProof.Rows
def Swaps3 (fd : FuncData) (a b c : Str) : Prop := ∀ (s : Shared) (v u z : Value), BindsTo s fd ⟨[], [(c, v), (b, u), (a, z)]⟩ [(a, z), (b, u), (c, v)]
theorem Fun.swaps3 {K : PySem.W.Frag} {x qual : Str} {st : Stmt} {f : Addr} {fd : FuncData} {a b c : Str} (F : Fun K x qual st f fd)
    (h : ∀ (kV doc pm : Value) (an : Option Addr) (cdv ct v u z : Value), bindArgs (PySem.W.fnOf x qual (defArgs st) (defBody st) (defScope st) .none kV doc pm an cdv ct) ⟨[], [(c, v), (b, u), (a, z)]⟩ = pure [(a, z), (b, u), (c, v)]) : Swaps3 fd a b c := by
  obtain ⟨oc, od, kV, doc, pm, an, cdv, ct, osl, rfl, lk, hcd⟩ := F.ex
  exact fun s v u z => BindsTo.of_eq (h kV doc pm an cdv ct v u z)
def tSw3 (sp : Sp) (E : XK) (t1 t2 t3 : TE) : TE := fun σ H Q => tCons t1 (tCons t2 (tCons t3 tNil)) σ H fun zs H2 => sp zs.reverse H2 Q E
section
variable {X : Cx} {CX : CXT} {k : Nat} {f : Addr} {fd : FuncData} {a b c : Str} {sp : Sp} {E : XK} {x : Str} {p p1 p2 p3 pos : Pos} {e1 e2 e3 : Expr} {t1 t2 t3 : TE}
theorem run_sw3 {pins : List (Addr × Obj)} {σ : St} {H : Hp} {s : Shared} {Q : VK} {v u z : V} {v' u' z' : Value} (F : FnOk X.prog X.w X.K X.mg X.base CX k f fd [a, b, c] sp) (hr : Room k X.A) (hb : Swaps3 fd a b c) (hx : Passes CX X E)
    (I : Inv X pins σ H s) (r1 : RelV v v') (r2 : RelV u u') (r3 : RelV z z') (h : sp [z, u, v] H Q E) : wpAny (model X.prog X.w) X.A (call (.ref f) [] [(c, v'), (b, u'), (a, z')]) (EP X pins σ Q) X.xe s := by
  refine wpAny_call (codeAny_mono (F.run X.A X.stack s H ⟨[], [(c, v'), (b, u'), (a, z')]⟩ [z', u', v'] [z, u, v] Q E hr I.env0 (hb s v' u' z') (.cons r3 (.cons r2 (.cons r1 .nil))) h) fun r s' hq => ?_)
  cases r with
  | error e => exact hx pins σ H s e s' I hq
  | ok fl =>
    cases fl with
    | ret u => exact I.after hq
    | next => exact False.elim hq
    | brk => exact False.elim hq
    | cont => exact False.elim hq
theorem pe_callSw3 (F : FnOk X.prog X.w X.K X.mg X.base CX k f fd [a, b, c] sp) (hr : Room k X.A) (hg : Gl X x) (hm : X.mg x = some (.ref f)) (hk : PySem.W.keepIn X.K (.ref f) = true) (hb : Swaps3 fd a b c) (hx : Passes CX X E)
    (h1 : PE X e1 t1) (h2 : PE X e2 t2) (h3 : PE X e3 t3) (hdb : (x == ("__debug__" : Str)) = false := by decide)
    (hall : (backToKw pos (keywordEach [⟨some c, e1, p1⟩, ⟨some b, e2, p2⟩, ⟨some a, e3, p3⟩] X.env)).all (·.1.isSome) = true := by rfl) (hks : (backToKw pos (keywordEach [⟨some c, e1, p1⟩, ⟨some b, e2, p2⟩, ⟨some a, e3, p3⟩] X.env)).filterMap (·.1) = [c, b, a] := by rfl)
    (hpl : ((backTo pos (starEach [] X.env)).any (·.1) || (backToKw pos (keywordEach [⟨some c, e1, p1⟩, ⟨some b, e2, p2⟩, ⟨some a, e3, p3⟩] X.env)).any (·.1.isNone)) = false := by rfl) :
    PE X (.Call (.Name x p) [] [⟨some c, e1, p1⟩, ⟨some b, e2, p2⟩, ⟨some a, e3, p3⟩] pos) (tSw3 sp E t1 t2 t3) := by
  refine ⟨fun pins s σ H Q I h => ?_⟩
  refine wpAny_Call_Name_kw (ld_glob I hg hm ?_ hdb)
  refine PySem.W.callWith_KW0 (h₀ := X.base) I.ok.mod.kin hk hall ?_ hpl
  refine thn ((pk_cons h1 (pk_cons h2 (pk_cons h3 pk_nil))).run pos pins s σ H _ I h) fun ws s2 ⟨zs, H2, J, rz, q⟩ => ⟨J.kIn, ?_⟩
  rw [hks]
  have hl := F.len _ _ _ _ q
  rw [List.length_reverse] at hl
  cases rz with
  | nil => exact absurd hl (by simp)
  | cons r1 rz =>
    cases rz with
    | nil => exact absurd hl (by simp)
    | cons r2 rz =>
      cases rz with
      | nil => exact absurd hl (by simp)
      | cons r3 rz =>
        cases rz with
        | nil => exact run_sw3 F hr hb hx J r1 r2 r3 q
        | cons r4 rz => exact absurd hl (by simp)
end
end L2
namespace Wd
def mate (x : Int) : Int := if x % 2 = 0 then x + 1 else x - 1
theorem mate_mate (x : Int) : mate (mate x) = x := by unfold mate; split <;> split <;> omega
theorem mate_eq {a b : Int} : b = mate a ↔ a = mate b := ⟨fun h => by rw [h, mate_mate], fun h => by rw [h, mate_mate]⟩
theorem mate_range {n x : Int} (h0 : 0 ≤ x) (h1 : x < 2 * n) : 0 ≤ mate x ∧ mate x < 2 * n := by unfold mate; split <;> omega
def push (st : List Int) (x : Int) : List Int := if st.getLast? = some (mate x) then st.dropLast else st ++ [x]
def freed (w : List Int) : List Int := w.foldl push []
def undo (w : List Int) : List Int := w.reverse.map mate
def Rd (st : List Int) : Prop := ∀ i a b, st[i]? = some a → st[i + 1]? = some b → b ≠ mate a
theorem rd_nil : Rd [] := fun i a b h => by simp at h
theorem last_get {st : List Int} {a : Int} : st.getLast? = some a ↔ st ≠ [] ∧ st[st.length - 1]? = some a := by
  rw [List.getLast?_eq_getElem?]
  constructor
  · intro h
    refine ⟨fun e => ?_, h⟩
    subst e
    simp at h
  · exact fun h => h.2
theorem rd_push {st : List Int} {x : Int} (h : Rd st) : Rd (push st x) := by
  unfold push
  split
  · intro i a b h1 h2
    have e1 : i + 1 < st.dropLast.length := (List.getElem?_eq_some_iff.mp h2).1
    rw [List.length_dropLast] at e1
    rw [List.getElem?_dropLast, if_pos (by omega)] at h1
    rw [List.getElem?_dropLast, if_pos (by omega)] at h2
    exact h i a b h1 h2
  · rename_i hn
    intro i a b h1 h2
    have e1 : i + 1 < (st ++ [x]).length := (List.getElem?_eq_some_iff.mp h2).1
    rw [List.length_append, List.length_singleton] at e1
    by_cases hi : i + 1 < st.length
    · rw [List.getElem?_append_left (by omega)] at h1
      rw [List.getElem?_append_left hi] at h2
      exact h i a b h1 h2
    · have ei : i + 1 = st.length := by omega
      rw [List.getElem?_append_left (by omega)] at h1
      rw [List.getElem?_append_right (by omega)] at h2
      have e0 : i + 1 - st.length = 0 := by omega
      rw [e0] at h2
      have hb : x = b := by simpa using h2
      subst hb
      intro z
      apply hn
      rw [last_get]
      refine ⟨fun e => by rw [e] at ei; simp at ei, ?_⟩
      have e2 : st.length - 1 = i := by omega
      rw [e2, h1, mate_eq.mp z]
theorem snoc_of_last {st : List Int} {a : Int} (h : st.getLast? = some a) : st.dropLast ++ [a] = st := by
  have hne := (last_get.mp h).1
  have e := List.dropLast_concat_getLast hne
  have e2 : st.getLast hne = a := by
    rw [List.getLast?_eq_some_getLast hne] at h
    exact Option.some.inj h
  rw [e2] at e
  exact e
theorem push_push {st : List Int} {x : Int} (h : Rd st) : push (push st (mate x)) x = st := by
  unfold push
  split
  · rename_i h1
    rw [mate_mate] at h1
    have e := snoc_of_last h1
    have n : ¬ st.dropLast.getLast? = some (mate x) := by
      intro z
      obtain ⟨z1, z2⟩ := last_get.mp z
      have l0 : 0 < st.dropLast.length := List.length_pos_iff.mpr z1
      have hl : st.dropLast.length = st.length - 1 := List.length_dropLast
      have g1 : st[st.dropLast.length - 1]? = some (mate x) := by
        rw [← z2, List.getElem?_dropLast, if_pos (by omega)]
      have g2 : st[st.dropLast.length - 1 + 1]? = some x := by
        have := (last_get.mp h1).2
        have e3 : st.dropLast.length - 1 + 1 = st.length - 1 := by omega
        rw [e3]
        exact this
      exact h _ _ _ g1 g2 (mate_mate x).symm
    rw [if_neg n, e]
  · rename_i h1
    rw [if_pos (by simp), List.dropLast_concat]
theorem rd_fold : ∀ (w : List Int) {st : List Int}, Rd st → Rd (w.foldl push st)
  | [], _, h => h
  | a :: w, _, h => rd_fold w (rd_push h)
theorem snoc_ind {P : List Int → Prop} (h0 : P []) (h1 : ∀ l a, P l → P (l ++ [a])) (l : List Int) : P l := by
  have h : ∀ r : List Int, P r.reverse := by
    intro r
    induction r with
    | nil => exact h0
    | cons a r ih => rw [List.reverse_cons]; exact h1 _ _ ih
  have := h l.reverse
  rwa [List.reverse_reverse] at this
theorem fold_freed {st : List Int} (h : Rd st) (b : List Int) : b.foldl push st = (freed b).foldl push st := by
  induction b using snoc_ind with
  | h0 => rfl
  | h1 l a ih =>
    have e : freed (l ++ [a]) = push (freed l) a := by unfold freed; rw [List.foldl_append]; rfl
    rw [e, List.foldl_append, ih]
    show push ((freed l).foldl push st) a = _
    by_cases c : (freed l).getLast? = some (mate a)
    · have e2 := snoc_of_last c
      unfold push
      rw [if_pos c]
      show push ((freed l).foldl push st) a = _
      conv => lhs; rw [← e2, List.foldl_append]
      exact push_push (rd_fold _ h)
    · have e2 : push (freed l) a = freed l ++ [a] := by unfold push; rw [if_neg c]
      rw [e2, List.foldl_append]
      rfl
theorem rd_freed (w : List Int) : Rd (freed w) := rd_fold w rd_nil
theorem freed_freed (w : List Int) : freed (freed w) = freed w := (fold_freed rd_nil w).symm
theorem freed_app (a b : List Int) : freed (a ++ b) = freed (freed a ++ freed b) := by
  have e1 : freed (a ++ b) = (freed b).foldl push (freed a) := by
    unfold freed
    rw [List.foldl_append]
    exact fold_freed (rd_fold a rd_nil) b
  have e2 : freed (freed a ++ freed b) = (freed b).foldl push (freed a) := by
    show (freed a ++ freed b).foldl push [] = _
    rw [List.foldl_append]
    show (freed b).foldl push (freed (freed a)) = _
    rw [freed_freed]
  rw [e1, e2]
theorem undo_cons (a : Int) (w : List Int) : undo (a :: w) = undo w ++ [mate a] := by
  unfold undo
  rw [List.reverse_cons, List.map_append]
  rfl
theorem fold_undo : ∀ (w : List Int) {st : List Int}, Rd st → (w ++ undo w).foldl push st = st
  | [], _, _ => rfl
  | a :: w, st, h => by
    rw [undo_cons, List.cons_append, List.foldl_cons, ← List.append_assoc, List.foldl_append, fold_undo w (rd_push h)]
    show push (push st a) (mate a) = st
    have := push_push (x := mate a) h
    rw [mate_mate] at this
    exact this
theorem freed_undo (w : List Int) : freed (w ++ undo w) = [] := fold_undo w rd_nil
theorem freed_cut (u v : List Int) (b : Int) : freed (u ++ mate b :: b :: v) = freed (u ++ v) := by
  unfold freed
  rw [List.foldl_append, List.foldl_append, List.foldl_cons, List.foldl_cons, push_push (rd_fold u rd_nil)]
theorem freed_of_rd (w : List Int) : Rd w → freed w = w := by
  induction w using snoc_ind with
  | h0 => intro _; rfl
  | h1 l a ih =>
    intro h
    have hl : Rd l := fun i x y h1 h2 => h i x y (by rw [List.getElem?_append_left (List.getElem?_eq_some_iff.mp h1).1]; exact h1) (by rw [List.getElem?_append_left (List.getElem?_eq_some_iff.mp h2).1]; exact h2)
    have e : freed (l ++ [a]) = push (freed l) a := by unfold freed; rw [List.foldl_append]; rfl
    rw [e, ih hl]
    unfold push
    rw [if_neg]
    intro z
    obtain ⟨z1, z2⟩ := last_get.mp z
    have l0 : 0 < l.length := List.length_pos_iff.mpr z1
    refine h (l.length - 1) (mate a) a (by rw [List.getElem?_append_left (by omega)]; exact z2) ?_ (mate_mate a).symm
    have e3 : l.length - 1 + 1 = l.length := by omega
    rw [e3, List.getElem?_append_right (Nat.le_refl _)]
    simp
theorem mem_push {st : List Int} {x y : Int} (h : y ∈ push st x) : y ∈ st ∨ y = x := by
  unfold push at h
  split at h
  · exact .inl (List.dropLast_subset _ h)
  · simpa using h
theorem mem_fold : ∀ (w : List Int) {st : List Int} {y : Int}, y ∈ w.foldl push st → y ∈ st ∨ y ∈ w
  | [], _, _, h => .inl h
  | a :: w, _, y, h => by
    rcases mem_fold w h with h | h
    · rcases mem_push h with h | h
      · exact .inl h
      · exact .inr (by rw [h]; exact List.mem_cons_self)
    · exact .inr (List.mem_cons_of_mem _ h)
theorem mem_freed {w : List Int} {y : Int} (h : y ∈ freed w) : y ∈ w := by
  rcases mem_fold w h with h | h
  · cases h
  · exact h
theorem len_push (st : List Int) (x : Int) : (push st x).length ≤ st.length + 1 := by
  unfold push
  split
  · rw [List.length_dropLast]; omega
  · rw [List.length_append]; simp
theorem len_fold : ∀ (w : List Int) (st : List Int), (w.foldl push st).length ≤ st.length + w.length
  | [], _ => by simp
  | a :: w, st => by
    have h1 := len_fold w (push st a)
    have h2 := len_push st a
    rw [List.foldl_cons, List.length_cons]
    omega
theorem len_freed (w : List Int) : (freed w).length ≤ w.length := by
  have h := len_fold w []
  show (w.foldl push []).length ≤ _
  simp only [List.length_nil, Nat.zero_add] at h
  exact h
theorem freed_snoc (w : List Int) (a : Int) : freed (w ++ [a]) = push (freed w) a := by unfold freed; rw [List.foldl_append]; rfl
theorem undo_len (w : List Int) : (undo w).length = w.length := by unfold undo; rw [List.length_map, List.length_reverse]
end Wd
set_option maxRecDepth 100000
set_option maxHeartbeats 4000000
namespace PySem
namespace HandSPX
open Builtin Builtin.ObjectAttr
section
variable {M : Model} {A : Around} {E : Value → Shared → Prop} {h : Heap} {g : Array GenState} {d : Drawn} {t : Nat} {os : OsState}
variable {nm q : Str} {C N : Addr} {bs bm bmB : List Value} {hdct : Bool} {sn : List Str} {sub : List Value} {ab : Bool} {col : Option Bool} {dd : Option Addr} {k0 k1 k2 k3 k5 : Option Value} {B newId initId : String}
theorem tk_check_new (F : ExcBaseFacts B newId initId bmB) (hT : ∀ X : String, bm.contains (.type X) = bmB.contains (.type X)) {a : Str} {z : Value} {Q : Unit → Shared → Prop}
    (hC : h.get? C = some (excClassObj nm q C N bs bm hdct sn sub ab col dd k0 k1 k2 k3 k5 newId)) (hq : Q () ⟨h, g, d, t, os⟩) : wpAny M A (checkBuiltinCall newId ⟨[.ref C], [(a, z)]⟩) Q E ⟨h, g, d, t, os⟩ := by
  have hcont : (Value.ref C :: bm).contains (.type B) = true := by rw [List.contains_cons, hT, F.hasB, Bool.or_true]
  have hstar := F.noStar
  simp only [checkBuiltinCall, F.newKind, F.newSplit, F.newRow]
  repeat (first | refine wpAny_loadPart_at hC ?_ | (refine wpAny_isSubtype_exc hC ?_; rw [hcont]) | refine wpAny_staticBase_exc hC ?_ | refine wpAny_madeBy_exc hC ?_ | simp only [bne_self_eq_false, Bool.false_eq_true, if_false] | wp_step)
  exact hq
end
section
variable {prog : Program} {w : World} {A : Around} {E : Value → Shared → Prop} {R : Result → Shared → Prop} {h : Heap} {g : Array GenState} {d : Drawn} {t : Nat} {os : OsState}
variable {nm q : Str} {C N : Addr} {bs bm bmB : List Value} {hdct : Bool} {sn : List Str} {sub : List Value} {ab : Bool} {col : Option Bool} {dd : Option Addr} {k0 k1 k2 k3 k5 : Option Value} {B newId initId : String}
theorem tk_new (F : ExcBaseFacts B newId initId bmB) (hT : ∀ X : String, bm.contains (.type X) = bmB.contains (.type X)) {kw : List (Str × Value)}
    (hC : h.get? C = some (excClassObj nm q C N bs bm hdct sn sub ab col dd k0 k1 k2 k3 k5 newId))
    (hq : R (.ok (.ret (.ref (h.objs.size + 1)))) ⟨(h.push { cls := .type "tuple", data := .seq ([] : List Value).toArray }).push
      { cls := .ref C, data := .fields #[.ref h.objs.size, .none, .none, .none, .bool false, .none] }, g, d, t, os⟩) :
    codeAny (model prog w) A (.builtin newId ⟨[.ref C], kw⟩) R ⟨h, g, d, t, os⟩ := by
  have hends := F.ends
  have hcB : (Value.ref C :: bm).contains (.type B) = true := by rw [List.contains_cons, hT, F.hasB, Bool.or_true]
  have hcA : (Value.ref C :: bm).contains (.type "AttributeError") = false := by rw [List.contains_cons, hT, F.noAttr]; rfl
  have hcN : (Value.ref C :: bm).contains (.type "NameError") = false := by rw [List.contains_cons, hT, F.noName]; rfl
  refine codeAny_builtinAt F.entry ?_
  unfold Builtin.«BaseException.__new__»
  refine wpAt_bind ?_
  show wpAt _ _ _ (stack >>= _) _ _ _
  refine wpAt_bind (wpAt_stack fun p below => wpAt_of_wpAny ?_)
  wp_walk
  refine wpAt_of_wpAny ?_
  rw [F.owner]
  repeat (first | with_reducible refine wpAny_madeHere_exc F.canon hC ?_ | with_reducible refine wpAny_loadPart_at hC ?_ | (with_reducible refine wpAny_isSubtype_exc hC ?_; first | rw [hcB] | rw [hcA] | rw [hcN]) | wp_step)
  show R _ _
  rw [Heap.size_push]
  exact hq
theorem tk_type_call (F : ExcBaseFacts B newId initId bmB) (hT : ∀ X : String, bm.contains (.type X) = bmB.contains (.type X)) {a : Str} {z : Value} {fI : Addr} {Q : Fin → Shared → Prop}
    (hC : h.get? C = some (excClassObj nm q C N bs bm hdct sn sub ab col dd k0 k1 k2 k3 k5 newId))
    (hi : W.Looks (model prog w) h (typeLookup (.ref C) "__init__") (some (.ref fI))) (hb : ∀ self, W.Looks (model prog w) h (bindSpecial (.ref fI) self) (.ref fI, [self]))
    (hq : codeAny (model prog w) A (.call (.ref fI) ⟨[.ref (h.objs.size + 1)], [(a, z)]⟩)
      (fun r s' => match r with | .ok (.ret v) => v = .none ∧ Q (.done (.ret (.ref (h.objs.size + 1)))) s' | .ok _ => False | .error e => E e s')
      ⟨(h.push (W.kdv_tup [])).push (excO C h.objs.size), g, d, t, os⟩) :
    wpAny (model prog w) A (Builtin.«type.__call__» ⟨[.ref C], [(a, z)]⟩) Q E ⟨h, g, d, t, os⟩ := by
  repeat (first | with_reducible refine wpAny_loadPart_at hC ?_ | with_reducible refine wpAny_madeBy_exc hC ?_ | wp_step)
  refine codeAny_call_builtin_code (Code.quiet_builtin _ F.quiet) (tk_check_new F hT hC ?_)
  refine tk_new F hT hC ?_
  show wpAny _ _ _ _ _ _
  have k : ∀ b o, h.get? b = some o → ((h.push (W.kdv_tup [])).push (excO C h.objs.size)).get? b = some o := fun b o e => Heap.get?_push_of_some _ (Heap.get?_push_of_some _ e)
  have hC₁ := k _ _ hC
  have hget : ((h.push (W.kdv_tup [])).push (excO C h.objs.size)).get? (h.objs.size + 1) = some (excO C h.objs.size) := by heap_get
  have hcC : (Value.ref C :: bm).contains (.ref C) = true := by simp
  have i1 := hi.keeps k
  have b1 := (hb (.ref (h.objs.size + 1))).keeps k
  unfold isInstance
  repeat (first | with_reducible refine wpAny_loadPart_at hget ?_ | (with_reducible refine wpAny_isSubtype_exc hC₁ ?_; rw [hcC]) | wp_step)
  show wpAny _ _ (typeLookup (.ref C) _) _ _ _
  refine i1.at ?_
  refine wpAny_holding (wpAny_bind (b1.at ?_))
  refine wpAny_bind (wpAny_call (codeAny_mono hq fun r s' z => ?_))
  rcases r with e | (v | _ | _ | _) <;> first | exact z | exact z.elim | skip
  obtain ⟨rfl, z⟩ := z
  first
    | exact wpAny_pure (wpAny_pure z)
    | (wp_walk; exact z)
theorem tk_call_own (F : ExcBaseFacts B newId initId bmB) (hT : ∀ X : String, bm.contains (.type X) = bmB.contains (.type X)) {a : Str} {z : Value} {fI : Addr}
    (hC : h.get? C = some (excClassObj nm q C N bs bm hdct sn sub ab col dd k0 k1 k2 k3 k5 newId))
    (hi : W.Looks (model prog w) h (typeLookup (.ref C) "__init__") (some (.ref fI))) (hb : ∀ self, W.Looks (model prog w) h (bindSpecial (.ref fI) self) (.ref fI, [self]))
    (hq : codeAny (model prog w) (A.under (.builtin "type.__call__" ⟨[.ref C], [(a, z)]⟩)) (.call (.ref fI) ⟨[.ref (h.objs.size + 1)], [(a, z)]⟩) (W.InitBack (h.objs.size + 1) R)
      ⟨(h.push (W.kdv_tup [])).push (excO C h.objs.size), g, d, t, os⟩) :
    codeAny (model prog w) A (.call (.ref C) ⟨[], [(a, z)]⟩) R ⟨h, g, d, t, os⟩ := by
  have f1 := tc_lookup
  have f2 := tc_bind (.ref C)
  have hTy : (⟨h, g, d, t, os⟩ : Shared).TypeIs (.ref C) "type" := ⟨_, hC, rfl⟩
  refine codeAny_of_tree ?_
  show wpAny _ _ (callAny (.ref C) _) _ _ _
  repeat (any_goals (first | assumption | with_reducible refine wpAny_loadPart_at hC ?_ | wp_step))
  refine ⟨rfl, ?_⟩
  refine codeAny_call_builtin_at (Code.quiet_builtin _ (by decide +kernel)) entry_typeCall ?_
  first
    | exact wpAny_check_type_call_sub hC (tk_type_call F hT hC hi hb (codeAny_mono hq fun r s' z => by rcases r with e | (v | _ | _ | _) <;> exact z))
    | skip
end
end HandSPX
end PySem
namespace L2
open PySem PySem.Spec PyProof.Rows
section
variable {X : Cx}
def tMkV (t : St → Hp → XK → Prop) : TE := fun σ H Q => t σ H fun cls d H' => ∀ a, H' a = none → Q (.ref a) (upd H' a (exh cls d a))
theorem pe_mkV {e : Expr} {t : St → Hp → XK → Prop} (h : PMk X e t) : PE X e (tMkV t) := by
  refine ⟨fun pins s σ H Q I q => thn (h pins s σ H _ I q) fun u s' hm => ?_⟩
  obtain ⟨a, oe, vs, sI, H', cls, d, rfl, J, k, hne, ha, hz, hd, h1, na, os, ag, r, q⟩ := hm
  have J2 := J.call' (ch := []) os (Un.laidN k hne na) (J.hok.laidN k na (exh_ok ha hz hd)) ag (fun b z => absurd z (by simp))
  exact ⟨.ref a, _, J2, rfl, q a na⟩
def KwB (fd : FuncData) (p0 f : Str) : Prop := ∀ (s : Shared) (u z : Value), BindsTo s fd ⟨[u], [(f, z)]⟩ [(p0, u), (f, z)]
theorem Fun.kwb {K : PySem.W.Frag} {x qual : Str} {st : Stmt} {a : Addr} {fd : FuncData} {p0 f : Str} (F : Fun K x qual st a fd)
    (h : ∀ (kV doc pm : Value) (an : Option Addr) (cdv ct u z : Value), bindArgs (PySem.W.fnOf x qual (defArgs st) (defBody st) (defScope st) .none kV doc pm an cdv ct) ⟨[u], [(f, z)]⟩ = pure [(p0, u), (f, z)]) : KwB fd p0 f := by
  obtain ⟨oc, od, kV, doc, pm, an, cdv, ct, osl, rfl, lk, hcd⟩ := F.ex
  exact fun s u z => BindsTo.of_eq (h kV doc pm an cdv ct u z)
def tMkOK (C : Addr) (sp : Sp) (t1 : TE) : St → Hp → XK → Prop := fun σ H Q => tCons t1 tNil σ H fun zs H1 => ∃ v, zs = [v] ∧ ∀ a, H1 a = none → sp [.ref a, v] (upd H1 a (exo a C none))
  (fun v H2 => v = .non ∧ ∃ (d : Addr) (fs : List (Str × V)), H2 a = some (exo a C (some d)) ∧ H2 d = some (exd d fs) ∧ H1 d = none ∧ Q (.ref C) (some d) (upd (del H2 a) d (.xd fs))) (fun _ _ _ => False)
theorem pmk_oexK {CX : CXT} {x p0 f : Str} {C fI : Addr} {k : Nat} {fd : FuncData} {sp : Sp} {e1 : Expr} {t1 : TE} {p p1 pos : Pos} (T : OexC X.K C) (iC : PySem.W.findIn X.K (.ref C) "__init__" = some (some (.ref fI))) (tI : PySem.W.typeIn X.K (.ref fI) = some (.type "function"))
    (F1 : FnOk X.prog X.w X.K X.mg X.base CX k fI fd [p0, f] sp) (hr : Room (k + 1) X.A) (hb : KwB fd p0 f) (hx : Passes CX X (fun _ _ _ => False)) (hg : Gl X x) (hm : X.mg x = some (.ref C)) (h1 : PE X e1 t1)
    (hdb : (x == ("__debug__" : Str)) = false := by decide)
    (hall : (backToKw pos (keywordEach [⟨some f, e1, p1⟩] X.env)).all (·.1.isSome) = true := by rfl) (hks : (backToKw pos (keywordEach [⟨some f, e1, p1⟩] X.env)).filterMap (·.1) = [f] := by rfl)
    (hpl : ((backTo pos (starEach [] X.env)).any (·.1) || (backToKw pos (keywordEach [⟨some f, e1, p1⟩] X.env)).any (·.1.isNone)) = false := by rfl) :
    PMk X (.Call (.Name x p) [] [⟨some f, e1, p1⟩] pos) (tMkOK C sp t1) := by
  intro pins s σ H Q I h
  obtain ⟨nm, q, N, bs, bm, sn, sub, ab, col, dd, k0, k1, k2, k3, k5, hC, hbm⟩ := T.cls
  refine wpAny_Call_Name_kw (ld_glob I hg hm ?_ hdb)
  refine PySem.W.callWith_KW0 (h₀ := X.base) I.ok.mod.kin T.kC hall ?_ hpl
  refine thn ((pk_cons h1 pk_nil).run pos pins s σ H _ I h) fun ws s1 ⟨zs, H1, I1, rz, v, ez, q1⟩ => ⟨I1.kIn, ?_⟩
  rw [hks]
  subst ez
  cases rz with
  | @cons _ u _ ur r1 rz =>
    cases rz
    show wpAny _ _ (call (.ref C) [] [(f, u)]) _ _ _
    obtain ⟨hp, g, dr, tk, os⟩ := s1
    have hsz : hp.objs.size ≤ hp.objs.size + 1 := Nat.le_succ _
    have hn : H1 (hp.objs.size + 1) = none := I1.hok.fresh hsz
    have hq := q1 (hp.objs.size + 1) hn
    have kk : ∀ b o, hp.get? b = some o → ((hp.push (PySem.W.kdv_tup [])).push (PySem.HandSPX.excO C hp.objs.size)).get? b = some o := fun b o e => Heap.get?_push_of_some _ (Heap.get?_push_of_some _ e)
    have hget : ((hp.push (PySem.W.kdv_tup [])).push (PySem.HandSPX.excO C hp.objs.size)).get? (hp.objs.size + 1) = some (PySem.HandSPX.excO C hp.objs.size) := by heap_get
    have I2 : Inv X pins σ (upd H1 (hp.objs.size + 1) (exo (hp.objs.size + 1) C none)) ⟨(hp.push (PySem.W.kdv_tup [])).push (PySem.HandSPX.excO C hp.objs.size), g, dr, tk, os⟩ :=
      I1.laid (t' := tk) (a := hp.objs.size + 1) (o := exo (hp.objs.size + 1) C none) (h' := (hp.push (PySem.W.kdv_tup [])).push (PySem.HandSPX.excO C hp.objs.size)) kk hsz (exo_ok hget)
    have r2 : Vals [V.ref (hp.objs.size + 1), v] [Value.ref (hp.objs.size + 1), u] := .cons rfl (.cons r1 .nil)
    refine wpAny_call (PySem.HandSPX.tk_call_own F.excBase_ValueError (fun Y => PySem.HandSPX.refsVE_contains Y bm hbm) (I1.kIn _ _ hC) (PySem.W.looks_findIn I1.kIn iC) (fun self => PySem.W.bind_fn I1.kIn self tI)
      (codeAny_mono (F1.run _ X.stack _ _ ⟨[Value.ref (hp.objs.size + 1)], [(f, u)]⟩ [Value.ref (hp.objs.size + 1), u] _ _ (fun _ _ _ => False) (hr.make C [] [(f, u)]) (I2.env0.make C [] [(f, u)]) (hb _ _ u) r2 hq) fun r s' hq' => ?_))
    cases r with
    | error er => exact hx pins σ _ _ er s' I2 hq'
    | ok fl =>
      cases fl with
      | ret u =>
        obtain ⟨v, H2, os2, bare2, un2, hok2, rv, ev, d, fs, ea, ed, hd1, q2⟩ := hq'
        subst ev
        obtain ⟨h2, g2, d2, t2, os'⟩ := s'
        exact ⟨rv, mk_end (raises_own T.exC T.tyC) I1 hsz kk un2 hok2 os2 bare2 ea ed hd1 q2⟩
      | next => exact False.elim hq'
      | brk => exact False.elim hq'
      | cont => exact False.elim hq'
def spI (C : Addr) (f : Str) : Sp := fun vs H Q _ => ∃ (a : Addr) (v : V), vs = [.ref a, v] ∧ H a = some (exo a C none) ∧
  ∀ dx, H dx = none → dx ≠ a → Q .non (upd (upd H dx (exd dx [(f, v)])) a (exo a C (some dx)))
theorem spI_ok {C : Addr} {f : Str} {v : V} {H1 : Hp} {R : Addr → Hp → Prop} (h : ∀ (a d : Addr) (H2 : Hp), Same H1 H2 → H2 a = some (exh (.ref C) (some d) a) → H2 d = some (.xd [(f, v)]) → R a H2) (a : Addr) (ha : H1 a = none) :
    spI C f [.ref a, v] (upd H1 a (exo a C none)) (fun v H2 => v = .non ∧ ∃ (d : Addr) (fs : List (Str × V)), H2 a = some (exo a C (some d)) ∧ H2 d = some (exd d fs) ∧ H1 d = none ∧
      ∀ b, (upd (del H2 a) d (.xd fs)) b = none → R b (upd (upd (del H2 a) d (.xd fs)) b (exh (.ref C) (some d) b))) (fun _ _ _ => False) := by
  refine ⟨a, v, rfl, upd_same, fun dx ndx ne => ⟨rfl, dx, ([(f, v)] : List (Str × V)), upd_same, ?_, ?_, fun b nb => ?_⟩⟩
  · rw [upd_ne ne, upd_same]
  · rw [upd_ne ne] at ndx
    exact ndx
  · rw [upd_ne ne] at ndx
    have nbd : b ≠ dx := fun z => by rw [z, upd_same] at nb; cases nb
    refine h b dx _ (fun c o e => ?_) upd_same (by rw [upd_ne nbd.symm, upd_same])
    have c1 : c ≠ a := ne_of_none e ha
    have c2 : c ≠ dx := ne_of_none e ndx
    have e2 : (upd (del (upd (upd (upd H1 a (exo a C none)) dx (exd dx [(f, v)])) a (exo a C (some dx))) a) dx (.xd [(f, v)])) c = some o := by
      rw [upd_ne c2, del_ne c1, upd_ne c1, upd_ne c2, upd_ne c1]
      exact e
    have c3 : c ≠ b := fun z => by rw [z] at e2; rw [nb] at e2; cases e2
    rw [upd_ne c3]
    exact e2
theorem exV1 {C : Addr} {f : Str} {v : V} {H1 : Hp} {Q : VK} (h : ∀ (a d : Addr) (H2 : Hp), Same H1 H2 → H2 a = some (exh (.ref C) (some d) a) → H2 d = some (.xd [(f, v)]) → Q (.ref a) H2) :
    ([v] : List V).length ≤ 1000 ∧ ∀ a, H1 a = none → spI C f (.ref a :: ([v] ++ [])) (upd H1 a (exo a C none)) (fun v H2 => v = .non ∧ ∃ (d : Addr) (fs : List (Str × V)), H2 a = some (exo a C (some d)) ∧ H2 d = some (exd d fs) ∧ H1 d = none ∧
      ∀ b, (upd (del H2 a) d (.xd fs)) b = none → Q (.ref b) (upd (upd (del H2 a) d (.xd fs)) b (exh (.ref C) (some d) b))) (fun _ _ _ => False) :=
  ⟨(by show 1 ≤ 1000; decide), fun a ha => spI_ok (R := fun b H2 => Q (.ref b) H2) h a ha⟩
theorem exV1K {C : Addr} {f : Str} {v : V} {H1 : Hp} {Q : VK} (h : ∀ (a d : Addr) (H2 : Hp), Same H1 H2 → H2 a = some (exh (.ref C) (some d) a) → H2 d = some (.xd [(f, v)]) → Q (.ref a) H2) :
    ∃ w, ([v] : List V) = [w] ∧ ∀ a, H1 a = none → spI C f [.ref a, w] (upd H1 a (exo a C none)) (fun v H2 => v = .non ∧ ∃ (d : Addr) (fs : List (Str × V)), H2 a = some (exo a C (some d)) ∧ H2 d = some (exd d fs) ∧ H1 d = none ∧
      ∀ b, (upd (del H2 a) d (.xd fs)) b = none → Q (.ref b) (upd (upd (del H2 a) d (.xd fs)) b (exh (.ref C) (some d) b))) (fun _ _ _ => False) :=
  ⟨v, rfl, fun a ha => spI_ok (R := fun b H2 => Q (.ref b) H2) h a ha⟩
theorem exV0 {C : Addr} {v : V} {H1 : Hp} {Q : VK} (h : ∀ (a : Addr) (H2 : Hp), Same H1 H2 → H2 a = some (exh (.ref C) none a) → Q (.ref a) H2) :
    ([v] : List V).length ≤ sizeLine ∧ ∀ a, H1 a = none → Q (.ref a) (upd H1 a (exh (.ref C) none a)) :=
  ⟨(by show 1 ≤ sizeLine; decide), fun a ha => h a _ (fun c o e => by rw [upd_ne (ne_of_none e ha)]; exact e) upd_same⟩
def tExV0 (C : Addr) (j : Nat) : TE := fun σ H Q => ∃ v, σ[j]? = some (some v) ∧ ∀ (a : Addr) (H2 : Hp), Same H H2 → H2 a = some (exh (.ref C) none a) → Q (.ref a) H2
def tExV (C : Addr) (f : Str) (j : Nat) : TE := fun σ H Q => ∃ v, σ[j]? = some (some v) ∧ ∀ (a d : Addr) (H2 : Hp), Same H H2 → H2 a = some (exh (.ref C) (some d) a) → H2 d = some (.xd [(f, v)]) → Q (.ref a) H2
theorem PE.imp {e : Expr} {t t' : TE} (h : PE X e t) (k : ∀ σ H Q, t' σ H Q → t σ H Q) : PE X e t' := ⟨fun pins s σ H Q I q => h.run pins s σ H Q I (k σ H Q q)⟩
theorem pe_ex0 {e : Expr} {C : Addr} {j : Nat} (h : PMk X e (fun σ H Q => tCons (tVar j) tNil σ H fun vs H1 => vs.length ≤ sizeLine ∧ Q (.ref C) none H1)) : PE X e (tExV0 C j) :=
  (pe_mkV h).imp fun σ H Q ⟨v, e1, q⟩ => ⟨v, e1, exV0 (Q := Q) q⟩
theorem pe_ex1 {e : Expr} {C : Addr} {f : Str} {j : Nat} (h : PMk X e (tMkO C (spI C f) [] (tCons (tVar j) tNil))) : PE X e (tExV C f j) :=
  (pe_mkV h).imp fun σ H Q ⟨v, e1, q⟩ => ⟨v, e1, exV1 (Q := Q) q⟩
theorem pe_ex1K {e : Expr} {C : Addr} {f : Str} {j : Nat} (h : PMk X e (tMkOK C (spI C f) (tVar j))) : PE X e (tExV C f j) :=
  (pe_mkV h).imp fun σ H Q ⟨v, e1, q⟩ => ⟨v, e1, exV1K (Q := Q) q⟩
def RdV (K : PySem.W.Frag) (H : Hp) (v : V) (d : PyData) : Prop := ∀ (X : Cx) (pins : List (Addr × Obj)) (σ : St) (s : Shared), X.K = K → Inv X pins σ H s → ∀ u, RelV v u → ∃ as, Reads s.heap u d as ∧ (d.hasDict = true → sysModules ∉ as)
theorem RdV.dp {K : PySem.W.Frag} {H : Hp} {v : V} {d : PyData} (h : Dp K H v d) (n : d.hasDict = false) : RdV K H v d := fun X pins σ s e I u r => by
  subst e
  obtain ⟨as, q⟩ := Dp.reads I d v u h r
  exact ⟨as, q, fun z => absurd (n.symm.trans z) (by decide)⟩
theorem RdV.dic {K : PySem.W.Frag} {H : Hp} {a : Addr} {x : Str} {i : Int} (h : H a = some (.dK [(Sum.inr x, .int i)])) : RdV K H (.ref a) (.dict [(.str x, .int i)]) := fun X pins σ s e I u r => by
  cases (show u = Value.ref a from r)
  obtain ⟨hz, hsys, vs, kv, o, es, ep, e, ex, hd, ks, ps, nd⟩ := (show ObjOk X.prog X.w H s.heap a (.dK [(Sum.inr x, .int i)]) from I.hok a _ h)
  cases kv with
  | @cons p q1 l k1 r1 kv =>
    cases kv
    obtain ⟨qa, qb⟩ := q1
    obtain ⟨z1, z2⟩ := r1
    cases z1
    obtain ⟨t1, z2⟩ := (show ∃ t, qb = Value.int i t from z2)
    subst z2
    generalize hl : es.toList = el at ps
    cases ps with
    | @cons e1 kv1 es1 kvs1 i1 v1 ps =>
      cases ps
      have hk1 : ∃ t, e1.key = Value.str x t := by
        rcases keyIs_shape (show keyIs (Sum.inr x) e1.key = true from i1) with ⟨i, t, a1, a2⟩ | ⟨y, t, a1, a2⟩
        · cases a1
        · cases a1
          exact ⟨t, a2⟩
      obtain ⟨t3, k3⟩ := hk1
      refine ⟨_, Reads.dict (as := [] ++ []) (bs := [] ++ []) e ex.1 hd ?_ ?_, fun _ z => ?_⟩
      · rw [hl]
        show ReadsAll s.heap [e1.key] [.str x] _
        rw [k3]
        exact .cons (.str x t3) .nil
      · rw [hl]
        show ReadsAll s.heap [e1.val] [.int i] _
        rw [v1]
        exact .cons (.int i t1) .nil
      · simp at z
        rw [← z] at hsys
        simp at hsys
theorem reads_rep {h : Heap} {v : V} {d : PyData} (f : ∀ u, RelV v u → ∃ as, Reads h u d as ∧ (d.hasDict = true → sysModules ∉ as)) : ∀ (n : Nat) (us : List Value), Vals (List.replicate n v) us → ∃ as, ReadsAll h us (List.replicate n d) as ∧ (d.hasDict = true → sysModules ∉ as)
  | 0, us, r => by
    cases r
    exact ⟨_, .nil, fun _ z => nomatch z⟩
  | n + 1, us, r => by
    cases r with
    | cons r1 r2 =>
      obtain ⟨as, h1, n1⟩ := f _ r1
      obtain ⟨bs, h2, n2⟩ := reads_rep f n _ r2
      exact ⟨_, .cons h1 h2, fun z m => (List.mem_append.mp m).elim (n1 z) (n2 z)⟩
def rShowR (K : PySem.W.Frag) : List V → Hp → VK → Prop := fun xs H Q => ∃ (l : Addr) (n : Nat) (v : V) (d : PyData), xs = [.ref l] ∧ l ≠ sysModules ∧ H l = some (.lst (List.replicate n v)) ∧ RdV K H v d ∧ (PyData.list (List.replicate n d)).showable = true ∧
  (PyData.hasDictAll (List.replicate n d) = true → d.hasDict = true) ∧ (PyData.list (List.replicate n d)).depth ≤ 60 ∧ (PyData.list (List.replicate n d)).shown.length ≤ sizeLine ∧ Q (.str (PyData.list (List.replicate n d)).shown) H
theorem call_showR (hg : X.A.guards = some []) (hu : X.A.units + 64 < cLine) : CallR X (.builtin "repr") (rShowR X.K) := by
  intro pins s σ H xs us Q I r h
  obtain ⟨l, n, v, d, rfl, hs, hl, rd, h1, h2, h3, h4, q⟩ := h
  obtain ⟨u, rfl, rx⟩ := vals1 r
  cases (show u = Value.ref l from rx)
  obtain ⟨its, rv, ⟨o, nn, ho, hc, _, hd⟩, _⟩ := I.list (SqL.of (K := X.K) hl)
  obtain ⟨as, ra, na⟩ := reads_rep (rd X pins σ s rfl I) n its rv
  refine repr_of_reads' (Reads.list ho hc hd ra) h1 (fun z m => ?_) hg (by omega) (fun b o e => e) (fun h' u tk k => ⟨.str _, H, I.kept (t' := tk) k, ⟨u, rfl⟩, q⟩) h4
  rcases List.mem_cons.mp m with m | m
  · exact hs m.symm
  · exact na (h2 z) m
def rCatP : R2 := fun x y H Q => ∃ l b xs zs, x = .ref l ∧ y = .ref b ∧ H l = some (.lst xs) ∧ H b = some (.lst zs) ∧ xs.length + zs.length ≤ sizeLine ∧ ∀ p, H p = none → p ≠ sysModules → Q (.ref p) (upd H p (.lst (xs ++ zs)))
theorem op_catP : OpR X (binaryOp .Add) rCatP := by
  intro pins s σ H x y v u Q I rx ry h
  obtain ⟨l, b, xs, zs, rfl, rfl, hH, hB, hz, q⟩ := h
  cases rx
  cases ry
  obtain ⟨z, its, n, r, hl, e⟩ := I.lstM hH
  obtain ⟨z2, its2, n2, r2, hl2, e2⟩ := I.lstM hB
  refine PySem.P.add_list e e2 ?_ (by rw [List.size_toArray, List.size_toArray]; omega)
  have ea : its.toArray ++ its2.toArray = (its ++ its2).toArray := by simp
  rw [ea]
  exact ⟨.ref _, _, I.lnew (t' := s.toks) (r.append r2) (by rw [List.length_append]; omega), rfl, q _ I.fresh (Nat.ne_of_gt I.big)⟩
def rRepP : R2 := fun x y H Q => ∃ l k xs, x = .ref l ∧ y = .int k ∧ H l = some (.lst xs) ∧ -(2 ^ 63) ≤ k ∧ k < 2 ^ 63 ∧ xs.length * k.toNat ≤ sizeLine ∧
  ∀ p, H p = none → p ≠ sysModules → Q (.ref p) (upd H p (.lst (List.replicate k.toNat xs).flatten))
theorem op_repP : OpR X (binaryOp .Mult) rRepP := by
  intro pins s σ H x y v u Q I rx ry h
  obtain ⟨l, k, xs, rfl, rfl, hH, h1, h2, hz, q⟩ := h
  cases rx
  obtain ⟨t, rfl⟩ := ry
  obtain ⟨z, its, n, r, hl, e⟩ := I.lstM hH
  have hlen : its.toArray.size * k.toNat ≤ sizeLine := by rw [List.size_toArray, ← hl]; exact hz
  have hcap : ¬ its.toArray.size * k.toNat > (2 ^ 63 - 1) / 8 := by
    have : (sizeLine : Nat) ≤ (2 ^ 63 - 1) / 8 := by decide
    omega
  have hfit : ¬ (!Builtin.List.listFitsIndex k) = true := by
    rw [fitsIndex_both h1 h2]
    exact Bool.false_ne_true
  have hlong : ¬ Builtin.List.listTooLong (its.toArray.size * k.toNat) = true := by
    rw [notLongL hlen]
    exact Bool.false_ne_true
  have hnew : List.foldl (fun x1 x2 => x1 ++ x2) #[] (List.replicate (if its.toArray.isEmpty = true then 0 else k.toNat) its.toArray) = (List.replicate k.toNat its).flatten.toArray := by
    have f0 : ∀ m : Nat, List.foldl (fun x1 x2 => x1 ++ x2) #[] (List.replicate m its.toArray) = (List.replicate m its).flatten.toArray := fun m => by
      have := foldl_rep its m []
      rw [List.nil_append] at this
      exact this
    rw [f0]
    cases its with
    | nil => simp
    | cons a r' => rw [if_neg (by simp)]
  refine wpAny_binaryOp_repeat_ref (T := "list") (U := "int") (by decide) ⟨_, e, rfl⟩ (fun s' => typeIs_int s' k t) noFill_list_mul F.fills_int_mul F.slot_int_rmul repeat_list F.slot_int_index.lookup
    (call_meets F.slot_int_rmul (typeIs_int s k t) F.entry_int_rmul (F.args_int_rmul_2 _ _) (int___rmul___int_list k t l its.toArray n)
      ⟨e, rfl, ⟨_, e, rfl⟩, call_meets F.slot_list_mul ⟨_, e, rfl⟩ F.entry_list_mul (F.args_list_mul_2 _ _) (AutoListH.list___mul___list_int_3 l its.toArray n k t hfit hcap hlong) ⟨e, ?_⟩⟩)
  rw [hnew]
  exact ⟨.ref _, _, I.lnew (t' := s.toks) (r.rep k.toNat) (by rw [PyProof.Rows.lm_len_rep_flat, Nat.mul_comm]; exact hz), rfl, q _ I.fresh (Nat.ne_of_gt I.big)⟩
end
end L2
set_option maxRecDepth 100000
set_option maxHeartbeats 4000000
namespace Tt
open PySem L2
structure DefAt (K : PySem.W.Frag) (mg : Str → Option Value) (x : Str) (st : Stmt) (ps : List Str) where
  a : Addr
  fd : FuncData
  F : Fun K x x st a fd
  g : mg x = some (.ref a)
  b : Binds K fd ps []
theorem DefAt.k {K : PySem.W.Frag} {mg : Str → Option Value} {x : Str} {st : Stmt} {ps : List Str} (d : DefAt K mg x st ps) : PySem.W.keepIn K (.ref d.a) = true := d.F.kp
structure Ex0 (K : PySem.W.Frag) (mg : Str → Option Value) (x : Str) where
  C : Addr
  g : mg x = some (.ref C)
  k : PySem.W.keepIn K (.ref C) = true
  q : PySem.W.excIn K C [.type "ValueError", .type "Exception", .type "BaseException", .type "object"] "ValueError.__new__" = true
  ty : PySem.W.typeIn K (.ref C) = some (.type "type")
  ec : ExcC K C
structure Ex1 (K : PySem.W.Frag) (mg : Str → Option Value) (x qual : Str) (st : Stmt) (ps : List Str) (field : Str) where
  C : Addr
  fI : Addr
  fd : FuncData
  g : mg x = some (.ref C)
  o : OexC K C
  i : PySem.W.findIn K (.ref C) "__init__" = some (some (.ref fI))
  t : PySem.W.typeIn K (.ref fI) = some (.type "function")
  F : Fun K "__init__" qual st fI fd
  b : Binds K fd ps []
  n : PySem.W.findIn K (.ref C) field = some none
  xf : XfC K C
  ec : ExcC K C
structure ClsAt (K : PySem.W.Frag) (mg : Str → Option Value) (x qual : Str) (st : Stmt) (ps : List Str) (attrs : List Str) where
  C : Addr
  fI : Addr
  fd : FuncData
  g : mg x = some (.ref C)
  c : Cls K C
  n : ∀ f ∈ attrs, NoAttr K C f
  kk : Mk K C fI
  F : Fun K "__init__" qual st fI fd
  b : Binds K fd ps []
  ha : PySem.W.findIn K (.ref C) "__class__" = some (some (.builtin "object.__class__"))
  hn : PySem.W.specialIn K (.builtin "object.__class__") "__get__" = some (some (.builtin "getset_descriptor.__get__"))
  ht : PySem.W.takesIn K (.builtin "object.__class__") = some true
  hm : PySem.W.mroIn K C (.type "object") = some true
structure FunC (K : PySem.W.Frag) (x qual : Str) (st : Stmt) (f : Addr) (fd : FuncData) (cdv : Value) : Prop where
  ex : ∃ (oc : Value) (od : Option Addr) (kV doc pm : Value) (an : Option Addr) (ct : Value) (osl : Array (Option Value)),
    fd = PySem.W.fnOf x qual (defArgs st) (defBody st) (defScope st) .none kV doc pm an cdv ct ∧ K.lookup f = some ⟨oc, od, .func fd, osl⟩ ∧ PySem.W.codeIn K cdv qual = true
theorem FunC.ok {P : Program} {w : World} {K : PySem.W.Frag} {mg : Str → Option Value} {base : Heap} {x qual : Str} {st : Stmt} {f : Addr} {fd : FuncData} {cdv : Value} {N ps : List Str} {k : Nat} {sp : Sp} (F : FunC K x qual st f fd cdv) (S : FnScope N ps (defScope st)) (len : ∀ vs H Q E, sp vs H Q E → vs.length = ps.length)
    (body : ∀ (A : Around) (outer : List Env) (s : Shared) (H : Hp) (vs : List V) (Q : VK) (E : XK), Room k (A.deeper (PyProof.Rows.envOfC qual (defScope st) s.heap.objs.size f cdv)) → sp vs H Q E →
      ∃ t, PSs (cxOf CX0 P w K mg base N qual (defScope st) f cdv A outer s H E).nox (defBody st) t ∧ t { nx := fun _ H' => Q .non H', rt := Q } (L2.start N vs) H) : FnOk P w K mg base CX0 (k + 1) f fd ps sp := by
  obtain ⟨oc, od, kV, doc, pm, an, ct, osl, rfl, lk, hc⟩ := F.ex
  refine fn_of lk hc S len fun A outer s H vs Q E hr h => ?_
  obtain ⟨t, h1, h2⟩ := body A outer s H vs Q E hr h
  exact ⟨t, h1.nox, h2⟩
def top (i : Nat) : Stmt := PySem.Challenge.pw_tautrounds_k00_errors_made.main.body.getD i (.Pass ⟨0, 0, 0, 0⟩)
abbrev s_BadBundle_init : Stmt := inClass (top 3) 0
abbrev N_BadBundle_init : List Str := ["self", "part"]
theorem sc_BadBundle_init : FnScope N_BadBundle_init ["self", "part"] (defScope s_BadBundle_init) := ⟨rfl, rfl, rfl, by decide +kernel, rfl, by decide +kernel, by decide +kernel⟩
abbrev s_BadDrawing_init : Stmt := inClass (top 5) 0
abbrev N_BadDrawing_init : List Str := ["self", "part"]
theorem sc_BadDrawing_init : FnScope N_BadDrawing_init ["self", "part"] (defScope s_BadDrawing_init) := ⟨rfl, rfl, rfl, by decide +kernel, rfl, by decide +kernel, by decide +kernel⟩
abbrev s_BadFan_init : Stmt := inClass (top 6) 0
abbrev N_BadFan_init : List Str := ["self", "part"]
theorem sc_BadFan_init : FnScope N_BadFan_init ["self", "part"] (defScope s_BadFan_init) := ⟨rfl, rfl, rfl, by decide +kernel, rfl, by decide +kernel, by decide +kernel⟩
abbrev s_BadLive_init : Stmt := inClass (top 8) 0
abbrev N_BadLive_init : List Str := ["self", "part"]
theorem sc_BadLive_init : FnScope N_BadLive_init ["self", "part"] (defScope s_BadLive_init) := ⟨rfl, rfl, rfl, by decide +kernel, rfl, by decide +kernel, by decide +kernel⟩
abbrev s_BadNumber_init : Stmt := inClass (top 10) 0
abbrev N_BadNumber_init : List Str := ["self", "part"]
theorem sc_BadNumber_init : FnScope N_BadNumber_init ["self", "part"] (defScope s_BadNumber_init) := ⟨rfl, rfl, rfl, by decide +kernel, rfl, by decide +kernel, by decide +kernel⟩
abbrev s_BadRounds_init : Stmt := inClass (top 12) 0
abbrev N_BadRounds_init : List Str := ["self", "part"]
theorem sc_BadRounds_init : FnScope N_BadRounds_init ["self", "part"] (defScope s_BadRounds_init) := ⟨rfl, rfl, rfl, by decide +kernel, rfl, by decide +kernel, by decide +kernel⟩
abbrev s_BadSkin_init : Stmt := inClass (top 13) 0
abbrev N_BadSkin_init : List Str := ["self", "part"]
theorem sc_BadSkin_init : FnScope N_BadSkin_init ["self", "part"] (defScope s_BadSkin_init) := ⟨rfl, rfl, rfl, by decide +kernel, rfl, by decide +kernel, by decide +kernel⟩
abbrev s_BadText_init : Stmt := inClass (top 16) 0
abbrev N_BadText_init : List Str := ["self", "at"]
theorem sc_BadText_init : FnScope N_BadText_init ["self", "at"] (defScope s_BadText_init) := ⟨rfl, rfl, rfl, by decide +kernel, rfl, by decide +kernel, by decide +kernel⟩
abbrev s_NoMark_init : Stmt := inClass (top 18) 0
abbrev N_NoMark_init : List Str := ["self", "name"]
theorem sc_NoMark_init : FnScope N_NoMark_init ["self", "name"] (defScope s_NoMark_init) := ⟨rfl, rfl, rfl, by decide +kernel, rfl, by decide +kernel, by decide +kernel⟩
abbrev s_TooMany_init : Stmt := inClass (top 21) 0
abbrev N_TooMany_init : List Str := ["self", "most"]
theorem sc_TooMany_init : FnScope N_TooMany_init ["self", "most"] (defScope s_TooMany_init) := ⟨rfl, rfl, rfl, by decide +kernel, rfl, by decide +kernel, by decide +kernel⟩
abbrev s_l_begun : Stmt := top 23
abbrev N_l_begun : List Str := ["script", "large", "grain"]
theorem sc_l_begun : FnScope N_l_begun ["script"] (defScope s_l_begun) := ⟨rfl, rfl, rfl, by decide +kernel, rfl, by decide +kernel, by decide +kernel⟩
abbrev s_l_mixed : Stmt := top 24
abbrev N_l_mixed : List Str := ["draw", "turn", "found", "great", "blend", "grain"]
theorem sc_l_mixed : FnScope N_l_mixed ["draw"] (defScope s_l_mixed) := ⟨rfl, rfl, rfl, by decide +kernel, rfl, by decide +kernel, by decide +kernel⟩
abbrev s_l_take : Stmt := top 25
abbrev N_l_take : List Str := ["draw", "amount", "found"]
theorem sc_l_take : FnScope N_l_take ["draw", "amount"] (defScope s_l_take) := ⟨rfl, rfl, rfl, by decide +kernel, rfl, by decide +kernel, by decide +kernel⟩
abbrev s_l_pick : Stmt := top 26
abbrev N_l_pick : List Str := ["draw", "some"]
theorem sc_l_pick : FnScope N_l_pick ["draw", "some"] (defScope s_l_pick) := ⟨rfl, rfl, rfl, by decide +kernel, rfl, by decide +kernel, by decide +kernel⟩
abbrev s_l_plain : Stmt := top 27
abbrev N_l_plain : List Str := ["text", "found"]
theorem sc_l_plain : FnScope N_l_plain ["text"] (defScope s_l_plain) := ⟨rfl, rfl, rfl, by decide +kernel, rfl, by decide +kernel, by decide +kernel⟩
abbrev s_l_made : Stmt := top 28
abbrev N_l_made : List Str := ["thing", "found"]
theorem sc_l_made : FnScope N_l_made ["thing"] (defScope s_l_made) := ⟨rfl, rfl, rfl, by decide +kernel, rfl, by decide +kernel, by decide +kernel⟩
abbrev s_l_kept : Stmt := top 29
abbrev N_l_kept : List Str := ["thing", "found"]
theorem sc_l_kept : FnScope N_l_kept ["thing"] (defScope s_l_kept) := ⟨rfl, rfl, rfl, by decide +kernel, rfl, by decide +kernel, by decide +kernel⟩
abbrev s_l_kinds : Stmt := top 30
abbrev N_l_kinds : List Str := ["error", "found"]
theorem sc_l_kinds : FnScope N_l_kinds ["error"] (defScope s_l_kinds) := ⟨rfl, rfl, rfl, by decide +kernel, rfl, by decide +kernel, by decide +kernel⟩
abbrev s_l_taken : Stmt := top 31
abbrev N_l_taken : List Str := ["text", "number", "taken", "other", "error"]
theorem sc_l_taken : FnScope N_l_taken ["text", "number"] (defScope s_l_taken) := ⟨rfl, rfl, rfl, by decide +kernel, rfl, by decide +kernel, by decide +kernel⟩
abbrev s_law : Stmt := top 32
abbrev N_law : List Str := ["script", "draw", "number", "text", "every", "at", "error", "thing", "turn", "spot"]
theorem sc_law : FnScope N_law ["script"] (defScope s_law) := ⟨rfl, rfl, rfl, by decide +kernel, rfl, by decide +kernel, by decide +kernel⟩
structure Txt (K : PySem.W.Frag) (mg : Str → Option Value) where
  RoundError : Ex0 K mg "RoundError"
  BadBridge : Ex0 K mg "BadBridge"
  BadBundle : Ex1 K mg "BadBundle" "BadBundle.__init__" s_BadBundle_init ["self", "part"] "part"
  BadDeed : Ex0 K mg "BadDeed"
  BadDrawing : Ex1 K mg "BadDrawing" "BadDrawing.__init__" s_BadDrawing_init ["self", "part"] "part"
  BadFan : Ex1 K mg "BadFan" "BadFan.__init__" s_BadFan_init ["self", "part"] "part"
  BadImages : Ex0 K mg "BadImages"
  BadLive : Ex1 K mg "BadLive" "BadLive.__init__" s_BadLive_init ["self", "part"] "part"
  BadName : Ex0 K mg "BadName"
  BadNumber : Ex1 K mg "BadNumber" "BadNumber.__init__" s_BadNumber_init ["self", "part"] "part"
  BadRound : Ex0 K mg "BadRound"
  BadRounds : Ex1 K mg "BadRounds" "BadRounds.__init__" s_BadRounds_init ["self", "part"] "part"
  BadSkin : Ex1 K mg "BadSkin" "BadSkin.__init__" s_BadSkin_init ["self", "part"] "part"
  BadStrand : Ex0 K mg "BadStrand"
  BadSum : Ex0 K mg "BadSum"
  BadText : Ex1 K mg "BadText" "BadText.__init__" s_BadText_init ["self", "at"] "at"
  BadWord : Ex0 K mg "BadWord"
  NoMark : Ex1 K mg "NoMark" "NoMark.__init__" s_NoMark_init ["self", "name"] "name"
  NotNow : Ex0 K mg "NotNow"
  NotSimple : Ex0 K mg "NotSimple"
  TooMany : Ex1 K mg "TooMany" "TooMany.__init__" s_TooMany_init ["self", "most"] "most"
  l_begun : DefAt K mg "_law_begun" s_l_begun ["script"]
  l_mixed : DefAt K mg "_law_mixed" s_l_mixed ["draw"]
  l_take : DefAt K mg "_law_take" s_l_take ["draw", "amount"]
  l_pick : DefAt K mg "_law_pick" s_l_pick ["draw", "some"]
  l_plain : DefAt K mg "_law_plain" s_l_plain ["text"]
  l_made : DefAt K mg "_law_made" s_l_made ["thing"]
  l_kept : DefAt K mg "_law_kept" s_l_kept ["thing"]
  l_kinds : DefAt K mg "_law_kinds" s_l_kinds ["error"]
  l_taken : DefAt K mg "_law_taken" s_l_taken ["text", "number"]
  law : DefAt K mg "law" s_law ["script"]
  zabs : mg "abs" = none
  zenumerate : mg "enumerate" = none
  zint : mg "int" = none
  zisinstance : mg "isinstance" = none
  zlen : mg "len" = none
  zrange : mg "range" = none
  zrepr : mg "repr" = none
  kA0_0 : PySem.W.kitOne K (.ref BadWord.C) (.ref BadWord.C) = some true
  kA0_1 : PySem.W.kitOne K (.ref BadWord.C) (.ref BadRound.C) = some false
  kA0_2 : PySem.W.kitOne K (.ref BadWord.C) (.ref BadStrand.C) = some false
  kA0_3 : PySem.W.kitOne K (.ref BadWord.C) (.ref BadSum.C) = some false
  kA0_4 : PySem.W.kitOne K (.ref BadWord.C) (.ref BadImages.C) = some false
  kA0_5 : PySem.W.kitOne K (.ref BadWord.C) (.ref BadBridge.C) = some false
  kA0_6 : PySem.W.kitOne K (.ref BadWord.C) (.ref NotSimple.C) = some false
  kA0_7 : PySem.W.kitOne K (.ref BadWord.C) (.ref BadDeed.C) = some false
  kA0_8 : PySem.W.kitOne K (.ref BadWord.C) (.ref NotNow.C) = some false
  kA0_9 : PySem.W.kitOne K (.ref BadWord.C) (.ref BadName.C) = some false
  kA0_10 : PySem.W.kitOne K (.ref BadWord.C) (.ref BadNumber.C) = some false
  kA0_11 : PySem.W.kitOne K (.ref BadWord.C) (.ref BadSkin.C) = some false
  kA0_12 : PySem.W.kitOne K (.ref BadWord.C) (.ref BadRounds.C) = some false
  kA0_13 : PySem.W.kitOne K (.ref BadWord.C) (.ref BadDrawing.C) = some false
  kA0_14 : PySem.W.kitOne K (.ref BadWord.C) (.ref BadBundle.C) = some false
  kA0_15 : PySem.W.kitOne K (.ref BadWord.C) (.ref BadLive.C) = some false
  kA0_16 : PySem.W.kitOne K (.ref BadWord.C) (.ref BadFan.C) = some false
  kA0_17 : PySem.W.kitOne K (.ref BadWord.C) (.ref NoMark.C) = some false
  kA0_18 : PySem.W.kitOne K (.ref BadWord.C) (.ref BadText.C) = some false
  kA0_19 : PySem.W.kitOne K (.ref BadWord.C) (.ref TooMany.C) = some false
  kR0 : PySem.W.kitOne K (.ref BadWord.C) (.ref RoundError.C) = some true
  kV0 : PySem.W.kitOne K (.ref BadWord.C) (.type "ValueError") = some true
  kA1_0 : PySem.W.kitOne K (.ref BadRound.C) (.ref BadWord.C) = some false
  kA1_1 : PySem.W.kitOne K (.ref BadRound.C) (.ref BadRound.C) = some true
  kA1_2 : PySem.W.kitOne K (.ref BadRound.C) (.ref BadStrand.C) = some false
  kA1_3 : PySem.W.kitOne K (.ref BadRound.C) (.ref BadSum.C) = some false
  kA1_4 : PySem.W.kitOne K (.ref BadRound.C) (.ref BadImages.C) = some false
  kA1_5 : PySem.W.kitOne K (.ref BadRound.C) (.ref BadBridge.C) = some false
  kA1_6 : PySem.W.kitOne K (.ref BadRound.C) (.ref NotSimple.C) = some false
  kA1_7 : PySem.W.kitOne K (.ref BadRound.C) (.ref BadDeed.C) = some false
  kA1_8 : PySem.W.kitOne K (.ref BadRound.C) (.ref NotNow.C) = some false
  kA1_9 : PySem.W.kitOne K (.ref BadRound.C) (.ref BadName.C) = some false
  kA1_10 : PySem.W.kitOne K (.ref BadRound.C) (.ref BadNumber.C) = some false
  kA1_11 : PySem.W.kitOne K (.ref BadRound.C) (.ref BadSkin.C) = some false
  kA1_12 : PySem.W.kitOne K (.ref BadRound.C) (.ref BadRounds.C) = some false
  kA1_13 : PySem.W.kitOne K (.ref BadRound.C) (.ref BadDrawing.C) = some false
  kA1_14 : PySem.W.kitOne K (.ref BadRound.C) (.ref BadBundle.C) = some false
  kA1_15 : PySem.W.kitOne K (.ref BadRound.C) (.ref BadLive.C) = some false
  kA1_16 : PySem.W.kitOne K (.ref BadRound.C) (.ref BadFan.C) = some false
  kA1_17 : PySem.W.kitOne K (.ref BadRound.C) (.ref NoMark.C) = some false
  kA1_18 : PySem.W.kitOne K (.ref BadRound.C) (.ref BadText.C) = some false
  kA1_19 : PySem.W.kitOne K (.ref BadRound.C) (.ref TooMany.C) = some false
  kR1 : PySem.W.kitOne K (.ref BadRound.C) (.ref RoundError.C) = some true
  kV1 : PySem.W.kitOne K (.ref BadRound.C) (.type "ValueError") = some true
  kA2_0 : PySem.W.kitOne K (.ref BadStrand.C) (.ref BadWord.C) = some false
  kA2_1 : PySem.W.kitOne K (.ref BadStrand.C) (.ref BadRound.C) = some false
  kA2_2 : PySem.W.kitOne K (.ref BadStrand.C) (.ref BadStrand.C) = some true
  kA2_3 : PySem.W.kitOne K (.ref BadStrand.C) (.ref BadSum.C) = some false
  kA2_4 : PySem.W.kitOne K (.ref BadStrand.C) (.ref BadImages.C) = some false
  kA2_5 : PySem.W.kitOne K (.ref BadStrand.C) (.ref BadBridge.C) = some false
  kA2_6 : PySem.W.kitOne K (.ref BadStrand.C) (.ref NotSimple.C) = some false
  kA2_7 : PySem.W.kitOne K (.ref BadStrand.C) (.ref BadDeed.C) = some false
  kA2_8 : PySem.W.kitOne K (.ref BadStrand.C) (.ref NotNow.C) = some false
  kA2_9 : PySem.W.kitOne K (.ref BadStrand.C) (.ref BadName.C) = some false
  kA2_10 : PySem.W.kitOne K (.ref BadStrand.C) (.ref BadNumber.C) = some false
  kA2_11 : PySem.W.kitOne K (.ref BadStrand.C) (.ref BadSkin.C) = some false
  kA2_12 : PySem.W.kitOne K (.ref BadStrand.C) (.ref BadRounds.C) = some false
  kA2_13 : PySem.W.kitOne K (.ref BadStrand.C) (.ref BadDrawing.C) = some false
  kA2_14 : PySem.W.kitOne K (.ref BadStrand.C) (.ref BadBundle.C) = some false
  kA2_15 : PySem.W.kitOne K (.ref BadStrand.C) (.ref BadLive.C) = some false
  kA2_16 : PySem.W.kitOne K (.ref BadStrand.C) (.ref BadFan.C) = some false
  kA2_17 : PySem.W.kitOne K (.ref BadStrand.C) (.ref NoMark.C) = some false
  kA2_18 : PySem.W.kitOne K (.ref BadStrand.C) (.ref BadText.C) = some false
  kA2_19 : PySem.W.kitOne K (.ref BadStrand.C) (.ref TooMany.C) = some false
  kR2 : PySem.W.kitOne K (.ref BadStrand.C) (.ref RoundError.C) = some true
  kV2 : PySem.W.kitOne K (.ref BadStrand.C) (.type "ValueError") = some true
  kA3_0 : PySem.W.kitOne K (.ref BadSum.C) (.ref BadWord.C) = some false
  kA3_1 : PySem.W.kitOne K (.ref BadSum.C) (.ref BadRound.C) = some false
  kA3_2 : PySem.W.kitOne K (.ref BadSum.C) (.ref BadStrand.C) = some false
  kA3_3 : PySem.W.kitOne K (.ref BadSum.C) (.ref BadSum.C) = some true
  kA3_4 : PySem.W.kitOne K (.ref BadSum.C) (.ref BadImages.C) = some false
  kA3_5 : PySem.W.kitOne K (.ref BadSum.C) (.ref BadBridge.C) = some false
  kA3_6 : PySem.W.kitOne K (.ref BadSum.C) (.ref NotSimple.C) = some false
  kA3_7 : PySem.W.kitOne K (.ref BadSum.C) (.ref BadDeed.C) = some false
  kA3_8 : PySem.W.kitOne K (.ref BadSum.C) (.ref NotNow.C) = some false
  kA3_9 : PySem.W.kitOne K (.ref BadSum.C) (.ref BadName.C) = some false
  kA3_10 : PySem.W.kitOne K (.ref BadSum.C) (.ref BadNumber.C) = some false
  kA3_11 : PySem.W.kitOne K (.ref BadSum.C) (.ref BadSkin.C) = some false
  kA3_12 : PySem.W.kitOne K (.ref BadSum.C) (.ref BadRounds.C) = some false
  kA3_13 : PySem.W.kitOne K (.ref BadSum.C) (.ref BadDrawing.C) = some false
  kA3_14 : PySem.W.kitOne K (.ref BadSum.C) (.ref BadBundle.C) = some false
  kA3_15 : PySem.W.kitOne K (.ref BadSum.C) (.ref BadLive.C) = some false
  kA3_16 : PySem.W.kitOne K (.ref BadSum.C) (.ref BadFan.C) = some false
  kA3_17 : PySem.W.kitOne K (.ref BadSum.C) (.ref NoMark.C) = some false
  kA3_18 : PySem.W.kitOne K (.ref BadSum.C) (.ref BadText.C) = some false
  kA3_19 : PySem.W.kitOne K (.ref BadSum.C) (.ref TooMany.C) = some false
  kR3 : PySem.W.kitOne K (.ref BadSum.C) (.ref RoundError.C) = some true
  kV3 : PySem.W.kitOne K (.ref BadSum.C) (.type "ValueError") = some true
  kA4_0 : PySem.W.kitOne K (.ref BadImages.C) (.ref BadWord.C) = some false
  kA4_1 : PySem.W.kitOne K (.ref BadImages.C) (.ref BadRound.C) = some false
  kA4_2 : PySem.W.kitOne K (.ref BadImages.C) (.ref BadStrand.C) = some false
  kA4_3 : PySem.W.kitOne K (.ref BadImages.C) (.ref BadSum.C) = some false
  kA4_4 : PySem.W.kitOne K (.ref BadImages.C) (.ref BadImages.C) = some true
  kA4_5 : PySem.W.kitOne K (.ref BadImages.C) (.ref BadBridge.C) = some false
  kA4_6 : PySem.W.kitOne K (.ref BadImages.C) (.ref NotSimple.C) = some false
  kA4_7 : PySem.W.kitOne K (.ref BadImages.C) (.ref BadDeed.C) = some false
  kA4_8 : PySem.W.kitOne K (.ref BadImages.C) (.ref NotNow.C) = some false
  kA4_9 : PySem.W.kitOne K (.ref BadImages.C) (.ref BadName.C) = some false
  kA4_10 : PySem.W.kitOne K (.ref BadImages.C) (.ref BadNumber.C) = some false
  kA4_11 : PySem.W.kitOne K (.ref BadImages.C) (.ref BadSkin.C) = some false
  kA4_12 : PySem.W.kitOne K (.ref BadImages.C) (.ref BadRounds.C) = some false
  kA4_13 : PySem.W.kitOne K (.ref BadImages.C) (.ref BadDrawing.C) = some false
  kA4_14 : PySem.W.kitOne K (.ref BadImages.C) (.ref BadBundle.C) = some false
  kA4_15 : PySem.W.kitOne K (.ref BadImages.C) (.ref BadLive.C) = some false
  kA4_16 : PySem.W.kitOne K (.ref BadImages.C) (.ref BadFan.C) = some false
  kA4_17 : PySem.W.kitOne K (.ref BadImages.C) (.ref NoMark.C) = some false
  kA4_18 : PySem.W.kitOne K (.ref BadImages.C) (.ref BadText.C) = some false
  kA4_19 : PySem.W.kitOne K (.ref BadImages.C) (.ref TooMany.C) = some false
  kR4 : PySem.W.kitOne K (.ref BadImages.C) (.ref RoundError.C) = some true
  kV4 : PySem.W.kitOne K (.ref BadImages.C) (.type "ValueError") = some true
  kA5_0 : PySem.W.kitOne K (.ref BadBridge.C) (.ref BadWord.C) = some false
  kA5_1 : PySem.W.kitOne K (.ref BadBridge.C) (.ref BadRound.C) = some false
  kA5_2 : PySem.W.kitOne K (.ref BadBridge.C) (.ref BadStrand.C) = some false
  kA5_3 : PySem.W.kitOne K (.ref BadBridge.C) (.ref BadSum.C) = some false
  kA5_4 : PySem.W.kitOne K (.ref BadBridge.C) (.ref BadImages.C) = some false
  kA5_5 : PySem.W.kitOne K (.ref BadBridge.C) (.ref BadBridge.C) = some true
  kA5_6 : PySem.W.kitOne K (.ref BadBridge.C) (.ref NotSimple.C) = some false
  kA5_7 : PySem.W.kitOne K (.ref BadBridge.C) (.ref BadDeed.C) = some false
  kA5_8 : PySem.W.kitOne K (.ref BadBridge.C) (.ref NotNow.C) = some false
  kA5_9 : PySem.W.kitOne K (.ref BadBridge.C) (.ref BadName.C) = some false
  kA5_10 : PySem.W.kitOne K (.ref BadBridge.C) (.ref BadNumber.C) = some false
  kA5_11 : PySem.W.kitOne K (.ref BadBridge.C) (.ref BadSkin.C) = some false
  kA5_12 : PySem.W.kitOne K (.ref BadBridge.C) (.ref BadRounds.C) = some false
  kA5_13 : PySem.W.kitOne K (.ref BadBridge.C) (.ref BadDrawing.C) = some false
  kA5_14 : PySem.W.kitOne K (.ref BadBridge.C) (.ref BadBundle.C) = some false
  kA5_15 : PySem.W.kitOne K (.ref BadBridge.C) (.ref BadLive.C) = some false
  kA5_16 : PySem.W.kitOne K (.ref BadBridge.C) (.ref BadFan.C) = some false
  kA5_17 : PySem.W.kitOne K (.ref BadBridge.C) (.ref NoMark.C) = some false
  kA5_18 : PySem.W.kitOne K (.ref BadBridge.C) (.ref BadText.C) = some false
  kA5_19 : PySem.W.kitOne K (.ref BadBridge.C) (.ref TooMany.C) = some false
  kR5 : PySem.W.kitOne K (.ref BadBridge.C) (.ref RoundError.C) = some true
  kV5 : PySem.W.kitOne K (.ref BadBridge.C) (.type "ValueError") = some true
  kA6_0 : PySem.W.kitOne K (.ref NotSimple.C) (.ref BadWord.C) = some false
  kA6_1 : PySem.W.kitOne K (.ref NotSimple.C) (.ref BadRound.C) = some false
  kA6_2 : PySem.W.kitOne K (.ref NotSimple.C) (.ref BadStrand.C) = some false
  kA6_3 : PySem.W.kitOne K (.ref NotSimple.C) (.ref BadSum.C) = some false
  kA6_4 : PySem.W.kitOne K (.ref NotSimple.C) (.ref BadImages.C) = some false
  kA6_5 : PySem.W.kitOne K (.ref NotSimple.C) (.ref BadBridge.C) = some false
  kA6_6 : PySem.W.kitOne K (.ref NotSimple.C) (.ref NotSimple.C) = some true
  kA6_7 : PySem.W.kitOne K (.ref NotSimple.C) (.ref BadDeed.C) = some false
  kA6_8 : PySem.W.kitOne K (.ref NotSimple.C) (.ref NotNow.C) = some false
  kA6_9 : PySem.W.kitOne K (.ref NotSimple.C) (.ref BadName.C) = some false
  kA6_10 : PySem.W.kitOne K (.ref NotSimple.C) (.ref BadNumber.C) = some false
  kA6_11 : PySem.W.kitOne K (.ref NotSimple.C) (.ref BadSkin.C) = some false
  kA6_12 : PySem.W.kitOne K (.ref NotSimple.C) (.ref BadRounds.C) = some false
  kA6_13 : PySem.W.kitOne K (.ref NotSimple.C) (.ref BadDrawing.C) = some false
  kA6_14 : PySem.W.kitOne K (.ref NotSimple.C) (.ref BadBundle.C) = some false
  kA6_15 : PySem.W.kitOne K (.ref NotSimple.C) (.ref BadLive.C) = some false
  kA6_16 : PySem.W.kitOne K (.ref NotSimple.C) (.ref BadFan.C) = some false
  kA6_17 : PySem.W.kitOne K (.ref NotSimple.C) (.ref NoMark.C) = some false
  kA6_18 : PySem.W.kitOne K (.ref NotSimple.C) (.ref BadText.C) = some false
  kA6_19 : PySem.W.kitOne K (.ref NotSimple.C) (.ref TooMany.C) = some false
  kR6 : PySem.W.kitOne K (.ref NotSimple.C) (.ref RoundError.C) = some true
  kV6 : PySem.W.kitOne K (.ref NotSimple.C) (.type "ValueError") = some true
  kA7_0 : PySem.W.kitOne K (.ref BadDeed.C) (.ref BadWord.C) = some false
  kA7_1 : PySem.W.kitOne K (.ref BadDeed.C) (.ref BadRound.C) = some false
  kA7_2 : PySem.W.kitOne K (.ref BadDeed.C) (.ref BadStrand.C) = some false
  kA7_3 : PySem.W.kitOne K (.ref BadDeed.C) (.ref BadSum.C) = some false
  kA7_4 : PySem.W.kitOne K (.ref BadDeed.C) (.ref BadImages.C) = some false
  kA7_5 : PySem.W.kitOne K (.ref BadDeed.C) (.ref BadBridge.C) = some false
  kA7_6 : PySem.W.kitOne K (.ref BadDeed.C) (.ref NotSimple.C) = some false
  kA7_7 : PySem.W.kitOne K (.ref BadDeed.C) (.ref BadDeed.C) = some true
  kA7_8 : PySem.W.kitOne K (.ref BadDeed.C) (.ref NotNow.C) = some false
  kA7_9 : PySem.W.kitOne K (.ref BadDeed.C) (.ref BadName.C) = some false
  kA7_10 : PySem.W.kitOne K (.ref BadDeed.C) (.ref BadNumber.C) = some false
  kA7_11 : PySem.W.kitOne K (.ref BadDeed.C) (.ref BadSkin.C) = some false
  kA7_12 : PySem.W.kitOne K (.ref BadDeed.C) (.ref BadRounds.C) = some false
  kA7_13 : PySem.W.kitOne K (.ref BadDeed.C) (.ref BadDrawing.C) = some false
  kA7_14 : PySem.W.kitOne K (.ref BadDeed.C) (.ref BadBundle.C) = some false
  kA7_15 : PySem.W.kitOne K (.ref BadDeed.C) (.ref BadLive.C) = some false
  kA7_16 : PySem.W.kitOne K (.ref BadDeed.C) (.ref BadFan.C) = some false
  kA7_17 : PySem.W.kitOne K (.ref BadDeed.C) (.ref NoMark.C) = some false
  kA7_18 : PySem.W.kitOne K (.ref BadDeed.C) (.ref BadText.C) = some false
  kA7_19 : PySem.W.kitOne K (.ref BadDeed.C) (.ref TooMany.C) = some false
  kR7 : PySem.W.kitOne K (.ref BadDeed.C) (.ref RoundError.C) = some true
  kV7 : PySem.W.kitOne K (.ref BadDeed.C) (.type "ValueError") = some true
  kA8_0 : PySem.W.kitOne K (.ref NotNow.C) (.ref BadWord.C) = some false
  kA8_1 : PySem.W.kitOne K (.ref NotNow.C) (.ref BadRound.C) = some false
  kA8_2 : PySem.W.kitOne K (.ref NotNow.C) (.ref BadStrand.C) = some false
  kA8_3 : PySem.W.kitOne K (.ref NotNow.C) (.ref BadSum.C) = some false
  kA8_4 : PySem.W.kitOne K (.ref NotNow.C) (.ref BadImages.C) = some false
  kA8_5 : PySem.W.kitOne K (.ref NotNow.C) (.ref BadBridge.C) = some false
  kA8_6 : PySem.W.kitOne K (.ref NotNow.C) (.ref NotSimple.C) = some false
  kA8_7 : PySem.W.kitOne K (.ref NotNow.C) (.ref BadDeed.C) = some false
  kA8_8 : PySem.W.kitOne K (.ref NotNow.C) (.ref NotNow.C) = some true
  kA8_9 : PySem.W.kitOne K (.ref NotNow.C) (.ref BadName.C) = some false
  kA8_10 : PySem.W.kitOne K (.ref NotNow.C) (.ref BadNumber.C) = some false
  kA8_11 : PySem.W.kitOne K (.ref NotNow.C) (.ref BadSkin.C) = some false
  kA8_12 : PySem.W.kitOne K (.ref NotNow.C) (.ref BadRounds.C) = some false
  kA8_13 : PySem.W.kitOne K (.ref NotNow.C) (.ref BadDrawing.C) = some false
  kA8_14 : PySem.W.kitOne K (.ref NotNow.C) (.ref BadBundle.C) = some false
  kA8_15 : PySem.W.kitOne K (.ref NotNow.C) (.ref BadLive.C) = some false
  kA8_16 : PySem.W.kitOne K (.ref NotNow.C) (.ref BadFan.C) = some false
  kA8_17 : PySem.W.kitOne K (.ref NotNow.C) (.ref NoMark.C) = some false
  kA8_18 : PySem.W.kitOne K (.ref NotNow.C) (.ref BadText.C) = some false
  kA8_19 : PySem.W.kitOne K (.ref NotNow.C) (.ref TooMany.C) = some false
  kR8 : PySem.W.kitOne K (.ref NotNow.C) (.ref RoundError.C) = some true
  kV8 : PySem.W.kitOne K (.ref NotNow.C) (.type "ValueError") = some true
  kA9_0 : PySem.W.kitOne K (.ref BadName.C) (.ref BadWord.C) = some false
  kA9_1 : PySem.W.kitOne K (.ref BadName.C) (.ref BadRound.C) = some false
  kA9_2 : PySem.W.kitOne K (.ref BadName.C) (.ref BadStrand.C) = some false
  kA9_3 : PySem.W.kitOne K (.ref BadName.C) (.ref BadSum.C) = some false
  kA9_4 : PySem.W.kitOne K (.ref BadName.C) (.ref BadImages.C) = some false
  kA9_5 : PySem.W.kitOne K (.ref BadName.C) (.ref BadBridge.C) = some false
  kA9_6 : PySem.W.kitOne K (.ref BadName.C) (.ref NotSimple.C) = some false
  kA9_7 : PySem.W.kitOne K (.ref BadName.C) (.ref BadDeed.C) = some false
  kA9_8 : PySem.W.kitOne K (.ref BadName.C) (.ref NotNow.C) = some false
  kA9_9 : PySem.W.kitOne K (.ref BadName.C) (.ref BadName.C) = some true
  kA9_10 : PySem.W.kitOne K (.ref BadName.C) (.ref BadNumber.C) = some false
  kA9_11 : PySem.W.kitOne K (.ref BadName.C) (.ref BadSkin.C) = some false
  kA9_12 : PySem.W.kitOne K (.ref BadName.C) (.ref BadRounds.C) = some false
  kA9_13 : PySem.W.kitOne K (.ref BadName.C) (.ref BadDrawing.C) = some false
  kA9_14 : PySem.W.kitOne K (.ref BadName.C) (.ref BadBundle.C) = some false
  kA9_15 : PySem.W.kitOne K (.ref BadName.C) (.ref BadLive.C) = some false
  kA9_16 : PySem.W.kitOne K (.ref BadName.C) (.ref BadFan.C) = some false
  kA9_17 : PySem.W.kitOne K (.ref BadName.C) (.ref NoMark.C) = some false
  kA9_18 : PySem.W.kitOne K (.ref BadName.C) (.ref BadText.C) = some false
  kA9_19 : PySem.W.kitOne K (.ref BadName.C) (.ref TooMany.C) = some false
  kR9 : PySem.W.kitOne K (.ref BadName.C) (.ref RoundError.C) = some true
  kV9 : PySem.W.kitOne K (.ref BadName.C) (.type "ValueError") = some true
  kA10_0 : PySem.W.kitOne K (.ref BadNumber.C) (.ref BadWord.C) = some false
  kA10_1 : PySem.W.kitOne K (.ref BadNumber.C) (.ref BadRound.C) = some false
  kA10_2 : PySem.W.kitOne K (.ref BadNumber.C) (.ref BadStrand.C) = some false
  kA10_3 : PySem.W.kitOne K (.ref BadNumber.C) (.ref BadSum.C) = some false
  kA10_4 : PySem.W.kitOne K (.ref BadNumber.C) (.ref BadImages.C) = some false
  kA10_5 : PySem.W.kitOne K (.ref BadNumber.C) (.ref BadBridge.C) = some false
  kA10_6 : PySem.W.kitOne K (.ref BadNumber.C) (.ref NotSimple.C) = some false
  kA10_7 : PySem.W.kitOne K (.ref BadNumber.C) (.ref BadDeed.C) = some false
  kA10_8 : PySem.W.kitOne K (.ref BadNumber.C) (.ref NotNow.C) = some false
  kA10_9 : PySem.W.kitOne K (.ref BadNumber.C) (.ref BadName.C) = some false
  kA10_10 : PySem.W.kitOne K (.ref BadNumber.C) (.ref BadNumber.C) = some true
  kA10_11 : PySem.W.kitOne K (.ref BadNumber.C) (.ref BadSkin.C) = some false
  kA10_12 : PySem.W.kitOne K (.ref BadNumber.C) (.ref BadRounds.C) = some false
  kA10_13 : PySem.W.kitOne K (.ref BadNumber.C) (.ref BadDrawing.C) = some false
  kA10_14 : PySem.W.kitOne K (.ref BadNumber.C) (.ref BadBundle.C) = some false
  kA10_15 : PySem.W.kitOne K (.ref BadNumber.C) (.ref BadLive.C) = some false
  kA10_16 : PySem.W.kitOne K (.ref BadNumber.C) (.ref BadFan.C) = some false
  kA10_17 : PySem.W.kitOne K (.ref BadNumber.C) (.ref NoMark.C) = some false
  kA10_18 : PySem.W.kitOne K (.ref BadNumber.C) (.ref BadText.C) = some false
  kA10_19 : PySem.W.kitOne K (.ref BadNumber.C) (.ref TooMany.C) = some false
  kR10 : PySem.W.kitOne K (.ref BadNumber.C) (.ref RoundError.C) = some true
  kV10 : PySem.W.kitOne K (.ref BadNumber.C) (.type "ValueError") = some true
  kA11_0 : PySem.W.kitOne K (.ref BadSkin.C) (.ref BadWord.C) = some false
  kA11_1 : PySem.W.kitOne K (.ref BadSkin.C) (.ref BadRound.C) = some false
  kA11_2 : PySem.W.kitOne K (.ref BadSkin.C) (.ref BadStrand.C) = some false
  kA11_3 : PySem.W.kitOne K (.ref BadSkin.C) (.ref BadSum.C) = some false
  kA11_4 : PySem.W.kitOne K (.ref BadSkin.C) (.ref BadImages.C) = some false
  kA11_5 : PySem.W.kitOne K (.ref BadSkin.C) (.ref BadBridge.C) = some false
  kA11_6 : PySem.W.kitOne K (.ref BadSkin.C) (.ref NotSimple.C) = some false
  kA11_7 : PySem.W.kitOne K (.ref BadSkin.C) (.ref BadDeed.C) = some false
  kA11_8 : PySem.W.kitOne K (.ref BadSkin.C) (.ref NotNow.C) = some false
  kA11_9 : PySem.W.kitOne K (.ref BadSkin.C) (.ref BadName.C) = some false
  kA11_10 : PySem.W.kitOne K (.ref BadSkin.C) (.ref BadNumber.C) = some false
  kA11_11 : PySem.W.kitOne K (.ref BadSkin.C) (.ref BadSkin.C) = some true
  kA11_12 : PySem.W.kitOne K (.ref BadSkin.C) (.ref BadRounds.C) = some false
  kA11_13 : PySem.W.kitOne K (.ref BadSkin.C) (.ref BadDrawing.C) = some false
  kA11_14 : PySem.W.kitOne K (.ref BadSkin.C) (.ref BadBundle.C) = some false
  kA11_15 : PySem.W.kitOne K (.ref BadSkin.C) (.ref BadLive.C) = some false
  kA11_16 : PySem.W.kitOne K (.ref BadSkin.C) (.ref BadFan.C) = some false
  kA11_17 : PySem.W.kitOne K (.ref BadSkin.C) (.ref NoMark.C) = some false
  kA11_18 : PySem.W.kitOne K (.ref BadSkin.C) (.ref BadText.C) = some false
  kA11_19 : PySem.W.kitOne K (.ref BadSkin.C) (.ref TooMany.C) = some false
  kR11 : PySem.W.kitOne K (.ref BadSkin.C) (.ref RoundError.C) = some true
  kV11 : PySem.W.kitOne K (.ref BadSkin.C) (.type "ValueError") = some true
  kA12_0 : PySem.W.kitOne K (.ref BadRounds.C) (.ref BadWord.C) = some false
  kA12_1 : PySem.W.kitOne K (.ref BadRounds.C) (.ref BadRound.C) = some false
  kA12_2 : PySem.W.kitOne K (.ref BadRounds.C) (.ref BadStrand.C) = some false
  kA12_3 : PySem.W.kitOne K (.ref BadRounds.C) (.ref BadSum.C) = some false
  kA12_4 : PySem.W.kitOne K (.ref BadRounds.C) (.ref BadImages.C) = some false
  kA12_5 : PySem.W.kitOne K (.ref BadRounds.C) (.ref BadBridge.C) = some false
  kA12_6 : PySem.W.kitOne K (.ref BadRounds.C) (.ref NotSimple.C) = some false
  kA12_7 : PySem.W.kitOne K (.ref BadRounds.C) (.ref BadDeed.C) = some false
  kA12_8 : PySem.W.kitOne K (.ref BadRounds.C) (.ref NotNow.C) = some false
  kA12_9 : PySem.W.kitOne K (.ref BadRounds.C) (.ref BadName.C) = some false
  kA12_10 : PySem.W.kitOne K (.ref BadRounds.C) (.ref BadNumber.C) = some false
  kA12_11 : PySem.W.kitOne K (.ref BadRounds.C) (.ref BadSkin.C) = some false
  kA12_12 : PySem.W.kitOne K (.ref BadRounds.C) (.ref BadRounds.C) = some true
  kA12_13 : PySem.W.kitOne K (.ref BadRounds.C) (.ref BadDrawing.C) = some false
  kA12_14 : PySem.W.kitOne K (.ref BadRounds.C) (.ref BadBundle.C) = some false
  kA12_15 : PySem.W.kitOne K (.ref BadRounds.C) (.ref BadLive.C) = some false
  kA12_16 : PySem.W.kitOne K (.ref BadRounds.C) (.ref BadFan.C) = some false
  kA12_17 : PySem.W.kitOne K (.ref BadRounds.C) (.ref NoMark.C) = some false
  kA12_18 : PySem.W.kitOne K (.ref BadRounds.C) (.ref BadText.C) = some false
  kA12_19 : PySem.W.kitOne K (.ref BadRounds.C) (.ref TooMany.C) = some false
  kR12 : PySem.W.kitOne K (.ref BadRounds.C) (.ref RoundError.C) = some true
  kV12 : PySem.W.kitOne K (.ref BadRounds.C) (.type "ValueError") = some true
  kA13_0 : PySem.W.kitOne K (.ref BadDrawing.C) (.ref BadWord.C) = some false
  kA13_1 : PySem.W.kitOne K (.ref BadDrawing.C) (.ref BadRound.C) = some false
  kA13_2 : PySem.W.kitOne K (.ref BadDrawing.C) (.ref BadStrand.C) = some false
  kA13_3 : PySem.W.kitOne K (.ref BadDrawing.C) (.ref BadSum.C) = some false
  kA13_4 : PySem.W.kitOne K (.ref BadDrawing.C) (.ref BadImages.C) = some false
  kA13_5 : PySem.W.kitOne K (.ref BadDrawing.C) (.ref BadBridge.C) = some false
  kA13_6 : PySem.W.kitOne K (.ref BadDrawing.C) (.ref NotSimple.C) = some false
  kA13_7 : PySem.W.kitOne K (.ref BadDrawing.C) (.ref BadDeed.C) = some false
  kA13_8 : PySem.W.kitOne K (.ref BadDrawing.C) (.ref NotNow.C) = some false
  kA13_9 : PySem.W.kitOne K (.ref BadDrawing.C) (.ref BadName.C) = some false
  kA13_10 : PySem.W.kitOne K (.ref BadDrawing.C) (.ref BadNumber.C) = some false
  kA13_11 : PySem.W.kitOne K (.ref BadDrawing.C) (.ref BadSkin.C) = some false
  kA13_12 : PySem.W.kitOne K (.ref BadDrawing.C) (.ref BadRounds.C) = some false
  kA13_13 : PySem.W.kitOne K (.ref BadDrawing.C) (.ref BadDrawing.C) = some true
  kA13_14 : PySem.W.kitOne K (.ref BadDrawing.C) (.ref BadBundle.C) = some false
  kA13_15 : PySem.W.kitOne K (.ref BadDrawing.C) (.ref BadLive.C) = some false
  kA13_16 : PySem.W.kitOne K (.ref BadDrawing.C) (.ref BadFan.C) = some false
  kA13_17 : PySem.W.kitOne K (.ref BadDrawing.C) (.ref NoMark.C) = some false
  kA13_18 : PySem.W.kitOne K (.ref BadDrawing.C) (.ref BadText.C) = some false
  kA13_19 : PySem.W.kitOne K (.ref BadDrawing.C) (.ref TooMany.C) = some false
  kR13 : PySem.W.kitOne K (.ref BadDrawing.C) (.ref RoundError.C) = some true
  kV13 : PySem.W.kitOne K (.ref BadDrawing.C) (.type "ValueError") = some true
  kA14_0 : PySem.W.kitOne K (.ref BadBundle.C) (.ref BadWord.C) = some false
  kA14_1 : PySem.W.kitOne K (.ref BadBundle.C) (.ref BadRound.C) = some false
  kA14_2 : PySem.W.kitOne K (.ref BadBundle.C) (.ref BadStrand.C) = some false
  kA14_3 : PySem.W.kitOne K (.ref BadBundle.C) (.ref BadSum.C) = some false
  kA14_4 : PySem.W.kitOne K (.ref BadBundle.C) (.ref BadImages.C) = some false
  kA14_5 : PySem.W.kitOne K (.ref BadBundle.C) (.ref BadBridge.C) = some false
  kA14_6 : PySem.W.kitOne K (.ref BadBundle.C) (.ref NotSimple.C) = some false
  kA14_7 : PySem.W.kitOne K (.ref BadBundle.C) (.ref BadDeed.C) = some false
  kA14_8 : PySem.W.kitOne K (.ref BadBundle.C) (.ref NotNow.C) = some false
  kA14_9 : PySem.W.kitOne K (.ref BadBundle.C) (.ref BadName.C) = some false
  kA14_10 : PySem.W.kitOne K (.ref BadBundle.C) (.ref BadNumber.C) = some false
  kA14_11 : PySem.W.kitOne K (.ref BadBundle.C) (.ref BadSkin.C) = some false
  kA14_12 : PySem.W.kitOne K (.ref BadBundle.C) (.ref BadRounds.C) = some false
  kA14_13 : PySem.W.kitOne K (.ref BadBundle.C) (.ref BadDrawing.C) = some false
  kA14_14 : PySem.W.kitOne K (.ref BadBundle.C) (.ref BadBundle.C) = some true
  kA14_15 : PySem.W.kitOne K (.ref BadBundle.C) (.ref BadLive.C) = some false
  kA14_16 : PySem.W.kitOne K (.ref BadBundle.C) (.ref BadFan.C) = some false
  kA14_17 : PySem.W.kitOne K (.ref BadBundle.C) (.ref NoMark.C) = some false
  kA14_18 : PySem.W.kitOne K (.ref BadBundle.C) (.ref BadText.C) = some false
  kA14_19 : PySem.W.kitOne K (.ref BadBundle.C) (.ref TooMany.C) = some false
  kR14 : PySem.W.kitOne K (.ref BadBundle.C) (.ref RoundError.C) = some true
  kV14 : PySem.W.kitOne K (.ref BadBundle.C) (.type "ValueError") = some true
  kA15_0 : PySem.W.kitOne K (.ref BadLive.C) (.ref BadWord.C) = some false
  kA15_1 : PySem.W.kitOne K (.ref BadLive.C) (.ref BadRound.C) = some false
  kA15_2 : PySem.W.kitOne K (.ref BadLive.C) (.ref BadStrand.C) = some false
  kA15_3 : PySem.W.kitOne K (.ref BadLive.C) (.ref BadSum.C) = some false
  kA15_4 : PySem.W.kitOne K (.ref BadLive.C) (.ref BadImages.C) = some false
  kA15_5 : PySem.W.kitOne K (.ref BadLive.C) (.ref BadBridge.C) = some false
  kA15_6 : PySem.W.kitOne K (.ref BadLive.C) (.ref NotSimple.C) = some false
  kA15_7 : PySem.W.kitOne K (.ref BadLive.C) (.ref BadDeed.C) = some false
  kA15_8 : PySem.W.kitOne K (.ref BadLive.C) (.ref NotNow.C) = some false
  kA15_9 : PySem.W.kitOne K (.ref BadLive.C) (.ref BadName.C) = some false
  kA15_10 : PySem.W.kitOne K (.ref BadLive.C) (.ref BadNumber.C) = some false
  kA15_11 : PySem.W.kitOne K (.ref BadLive.C) (.ref BadSkin.C) = some false
  kA15_12 : PySem.W.kitOne K (.ref BadLive.C) (.ref BadRounds.C) = some false
  kA15_13 : PySem.W.kitOne K (.ref BadLive.C) (.ref BadDrawing.C) = some false
  kA15_14 : PySem.W.kitOne K (.ref BadLive.C) (.ref BadBundle.C) = some false
  kA15_15 : PySem.W.kitOne K (.ref BadLive.C) (.ref BadLive.C) = some true
  kA15_16 : PySem.W.kitOne K (.ref BadLive.C) (.ref BadFan.C) = some false
  kA15_17 : PySem.W.kitOne K (.ref BadLive.C) (.ref NoMark.C) = some false
  kA15_18 : PySem.W.kitOne K (.ref BadLive.C) (.ref BadText.C) = some false
  kA15_19 : PySem.W.kitOne K (.ref BadLive.C) (.ref TooMany.C) = some false
  kR15 : PySem.W.kitOne K (.ref BadLive.C) (.ref RoundError.C) = some true
  kV15 : PySem.W.kitOne K (.ref BadLive.C) (.type "ValueError") = some true
  kA16_0 : PySem.W.kitOne K (.ref BadFan.C) (.ref BadWord.C) = some false
  kA16_1 : PySem.W.kitOne K (.ref BadFan.C) (.ref BadRound.C) = some false
  kA16_2 : PySem.W.kitOne K (.ref BadFan.C) (.ref BadStrand.C) = some false
  kA16_3 : PySem.W.kitOne K (.ref BadFan.C) (.ref BadSum.C) = some false
  kA16_4 : PySem.W.kitOne K (.ref BadFan.C) (.ref BadImages.C) = some false
  kA16_5 : PySem.W.kitOne K (.ref BadFan.C) (.ref BadBridge.C) = some false
  kA16_6 : PySem.W.kitOne K (.ref BadFan.C) (.ref NotSimple.C) = some false
  kA16_7 : PySem.W.kitOne K (.ref BadFan.C) (.ref BadDeed.C) = some false
  kA16_8 : PySem.W.kitOne K (.ref BadFan.C) (.ref NotNow.C) = some false
  kA16_9 : PySem.W.kitOne K (.ref BadFan.C) (.ref BadName.C) = some false
  kA16_10 : PySem.W.kitOne K (.ref BadFan.C) (.ref BadNumber.C) = some false
  kA16_11 : PySem.W.kitOne K (.ref BadFan.C) (.ref BadSkin.C) = some false
  kA16_12 : PySem.W.kitOne K (.ref BadFan.C) (.ref BadRounds.C) = some false
  kA16_13 : PySem.W.kitOne K (.ref BadFan.C) (.ref BadDrawing.C) = some false
  kA16_14 : PySem.W.kitOne K (.ref BadFan.C) (.ref BadBundle.C) = some false
  kA16_15 : PySem.W.kitOne K (.ref BadFan.C) (.ref BadLive.C) = some false
  kA16_16 : PySem.W.kitOne K (.ref BadFan.C) (.ref BadFan.C) = some true
  kA16_17 : PySem.W.kitOne K (.ref BadFan.C) (.ref NoMark.C) = some false
  kA16_18 : PySem.W.kitOne K (.ref BadFan.C) (.ref BadText.C) = some false
  kA16_19 : PySem.W.kitOne K (.ref BadFan.C) (.ref TooMany.C) = some false
  kR16 : PySem.W.kitOne K (.ref BadFan.C) (.ref RoundError.C) = some true
  kV16 : PySem.W.kitOne K (.ref BadFan.C) (.type "ValueError") = some true
  kA17_0 : PySem.W.kitOne K (.ref NoMark.C) (.ref BadWord.C) = some false
  kA17_1 : PySem.W.kitOne K (.ref NoMark.C) (.ref BadRound.C) = some false
  kA17_2 : PySem.W.kitOne K (.ref NoMark.C) (.ref BadStrand.C) = some false
  kA17_3 : PySem.W.kitOne K (.ref NoMark.C) (.ref BadSum.C) = some false
  kA17_4 : PySem.W.kitOne K (.ref NoMark.C) (.ref BadImages.C) = some false
  kA17_5 : PySem.W.kitOne K (.ref NoMark.C) (.ref BadBridge.C) = some false
  kA17_6 : PySem.W.kitOne K (.ref NoMark.C) (.ref NotSimple.C) = some false
  kA17_7 : PySem.W.kitOne K (.ref NoMark.C) (.ref BadDeed.C) = some false
  kA17_8 : PySem.W.kitOne K (.ref NoMark.C) (.ref NotNow.C) = some false
  kA17_9 : PySem.W.kitOne K (.ref NoMark.C) (.ref BadName.C) = some false
  kA17_10 : PySem.W.kitOne K (.ref NoMark.C) (.ref BadNumber.C) = some false
  kA17_11 : PySem.W.kitOne K (.ref NoMark.C) (.ref BadSkin.C) = some false
  kA17_12 : PySem.W.kitOne K (.ref NoMark.C) (.ref BadRounds.C) = some false
  kA17_13 : PySem.W.kitOne K (.ref NoMark.C) (.ref BadDrawing.C) = some false
  kA17_14 : PySem.W.kitOne K (.ref NoMark.C) (.ref BadBundle.C) = some false
  kA17_15 : PySem.W.kitOne K (.ref NoMark.C) (.ref BadLive.C) = some false
  kA17_16 : PySem.W.kitOne K (.ref NoMark.C) (.ref BadFan.C) = some false
  kA17_17 : PySem.W.kitOne K (.ref NoMark.C) (.ref NoMark.C) = some true
  kA17_18 : PySem.W.kitOne K (.ref NoMark.C) (.ref BadText.C) = some false
  kA17_19 : PySem.W.kitOne K (.ref NoMark.C) (.ref TooMany.C) = some false
  kR17 : PySem.W.kitOne K (.ref NoMark.C) (.ref RoundError.C) = some true
  kV17 : PySem.W.kitOne K (.ref NoMark.C) (.type "ValueError") = some true
  kA18_0 : PySem.W.kitOne K (.ref BadText.C) (.ref BadWord.C) = some false
  kA18_1 : PySem.W.kitOne K (.ref BadText.C) (.ref BadRound.C) = some false
  kA18_2 : PySem.W.kitOne K (.ref BadText.C) (.ref BadStrand.C) = some false
  kA18_3 : PySem.W.kitOne K (.ref BadText.C) (.ref BadSum.C) = some false
  kA18_4 : PySem.W.kitOne K (.ref BadText.C) (.ref BadImages.C) = some false
  kA18_5 : PySem.W.kitOne K (.ref BadText.C) (.ref BadBridge.C) = some false
  kA18_6 : PySem.W.kitOne K (.ref BadText.C) (.ref NotSimple.C) = some false
  kA18_7 : PySem.W.kitOne K (.ref BadText.C) (.ref BadDeed.C) = some false
  kA18_8 : PySem.W.kitOne K (.ref BadText.C) (.ref NotNow.C) = some false
  kA18_9 : PySem.W.kitOne K (.ref BadText.C) (.ref BadName.C) = some false
  kA18_10 : PySem.W.kitOne K (.ref BadText.C) (.ref BadNumber.C) = some false
  kA18_11 : PySem.W.kitOne K (.ref BadText.C) (.ref BadSkin.C) = some false
  kA18_12 : PySem.W.kitOne K (.ref BadText.C) (.ref BadRounds.C) = some false
  kA18_13 : PySem.W.kitOne K (.ref BadText.C) (.ref BadDrawing.C) = some false
  kA18_14 : PySem.W.kitOne K (.ref BadText.C) (.ref BadBundle.C) = some false
  kA18_15 : PySem.W.kitOne K (.ref BadText.C) (.ref BadLive.C) = some false
  kA18_16 : PySem.W.kitOne K (.ref BadText.C) (.ref BadFan.C) = some false
  kA18_17 : PySem.W.kitOne K (.ref BadText.C) (.ref NoMark.C) = some false
  kA18_18 : PySem.W.kitOne K (.ref BadText.C) (.ref BadText.C) = some true
  kA18_19 : PySem.W.kitOne K (.ref BadText.C) (.ref TooMany.C) = some false
  kR18 : PySem.W.kitOne K (.ref BadText.C) (.ref RoundError.C) = some true
  kV18 : PySem.W.kitOne K (.ref BadText.C) (.type "ValueError") = some true
  kA19_0 : PySem.W.kitOne K (.ref TooMany.C) (.ref BadWord.C) = some false
  kA19_1 : PySem.W.kitOne K (.ref TooMany.C) (.ref BadRound.C) = some false
  kA19_2 : PySem.W.kitOne K (.ref TooMany.C) (.ref BadStrand.C) = some false
  kA19_3 : PySem.W.kitOne K (.ref TooMany.C) (.ref BadSum.C) = some false
  kA19_4 : PySem.W.kitOne K (.ref TooMany.C) (.ref BadImages.C) = some false
  kA19_5 : PySem.W.kitOne K (.ref TooMany.C) (.ref BadBridge.C) = some false
  kA19_6 : PySem.W.kitOne K (.ref TooMany.C) (.ref NotSimple.C) = some false
  kA19_7 : PySem.W.kitOne K (.ref TooMany.C) (.ref BadDeed.C) = some false
  kA19_8 : PySem.W.kitOne K (.ref TooMany.C) (.ref NotNow.C) = some false
  kA19_9 : PySem.W.kitOne K (.ref TooMany.C) (.ref BadName.C) = some false
  kA19_10 : PySem.W.kitOne K (.ref TooMany.C) (.ref BadNumber.C) = some false
  kA19_11 : PySem.W.kitOne K (.ref TooMany.C) (.ref BadSkin.C) = some false
  kA19_12 : PySem.W.kitOne K (.ref TooMany.C) (.ref BadRounds.C) = some false
  kA19_13 : PySem.W.kitOne K (.ref TooMany.C) (.ref BadDrawing.C) = some false
  kA19_14 : PySem.W.kitOne K (.ref TooMany.C) (.ref BadBundle.C) = some false
  kA19_15 : PySem.W.kitOne K (.ref TooMany.C) (.ref BadLive.C) = some false
  kA19_16 : PySem.W.kitOne K (.ref TooMany.C) (.ref BadFan.C) = some false
  kA19_17 : PySem.W.kitOne K (.ref TooMany.C) (.ref NoMark.C) = some false
  kA19_18 : PySem.W.kitOne K (.ref TooMany.C) (.ref BadText.C) = some false
  kA19_19 : PySem.W.kitOne K (.ref TooMany.C) (.ref TooMany.C) = some true
  kR19 : PySem.W.kitOne K (.ref TooMany.C) (.ref RoundError.C) = some true
  kV19 : PySem.W.kitOne K (.ref TooMany.C) (.type "ValueError") = some true
  sNR : PySem.W.subIn K (.ref NotNow.C) (.ref RoundError.C) = some true
  sTR : PySem.W.subIn K (.ref TooMany.C) (.ref RoundError.C) = some true
  zValueError : mg "ValueError" = none
structure Dw where
  d : Addr
  l : Addr
  c : Addr
def drK (D : Dw) (r t : Int) : List (Key × V) := [(Sum.inr "large", .ref D.l), (Sum.inr "rest", .int r), (Sum.inr "cells", .ref D.c), (Sum.inr "turn", .int t)]
structure DrAt (D : Dw) (H : Hp) (ls cs : List Int) (r t : Int) : Prop where
  hd : H D.d = some (.dK (drK D r t))
  hl : H D.l = some (.lst (ls.map V.int))
  hc : H D.c = some (.lst (cs.map V.int))
  ne : D.l ≠ D.c
  nl : ls.length ≤ 63
  nc : cs.length ≤ 63
def DrOk (D : Dw) (H : Hp) : Prop := ∃ ls cs r t, DrAt D H ls cs r t
def Kp (D : Dw) (H H' : Hp) : Prop := ∀ b o, H b = some o → b ≠ D.d → b ≠ D.l → H' b = some o
theorem Kp.refl {D : Dw} {H : Hp} : Kp D H H := fun _ _ h _ _ => h
theorem Kp.trans {D : Dw} {H H1 H2 : Hp} (a : Kp D H H1) (b : Kp D H1 H2) : Kp D H H2 := fun c o h n m => b c o (a c o h n m) n m
theorem Kp.of {D : Dw} {H H' : Hp} (a : Same H H') : Kp D H H' := fun c o h _ _ => a c o h
theorem Kp.new {D : Dw} {H : Hp} {p : Addr} {o : HO} (h : H p = none) : Kp D H (upd H p o) := fun c u e _ _ => by
  rw [upd_ne (ne_of_none e h)]
  exact e
theorem DrAt.dne {D : Dw} {H : Hp} {ls cs : List Int} {r t : Int} (h : DrAt D H ls cs r t) {b : Addr} {o : HO} (e : H b = some o) (n : ∀ kvs, o ≠ .dK kvs) : b ≠ D.d := fun z => by
  rw [z, h.hd] at e
  exact n _ (Option.some.inj e).symm
theorem DrAt.lne {D : Dw} {H : Hp} {ls cs : List Int} {r t : Int} (h : DrAt D H ls cs r t) {b : Addr} {o : HO} (e : H b = some o) (n : ∀ xs, o ≠ .lst xs) : b ≠ D.l := fun z => by
  rw [z, h.hl] at e
  exact n _ (Option.some.inj e).symm
theorem DrAt.new {D : Dw} {H : Hp} {ls cs : List Int} {r t : Int} (h : DrAt D H ls cs r t) {p : Addr} {o : HO} (n : H p = none) : DrAt D (upd H p o) ls cs r t :=
  ⟨by rw [upd_ne (ne_of_none h.hd n)]; exact h.hd, by rw [upd_ne (ne_of_none h.hl n)]; exact h.hl, by rw [upd_ne (ne_of_none h.hc n)]; exact h.hc, h.ne, h.nl, h.nc⟩
theorem DrAt.same {D : Dw} {H H' : Hp} {ls cs : List Int} {r t : Int} (h : DrAt D H ls cs r t) (s : Same H H') : DrAt D H' ls cs r t := ⟨s _ _ h.hd, s _ _ h.hl, s _ _ h.hc, h.ne, h.nl, h.nc⟩
theorem DrAt.nelc {D : Dw} {H : Hp} {ls cs : List Int} {r t : Int} (h : DrAt D H ls cs r t) : D.l ≠ D.d := h.dne h.hl (fun _ z => nomatch z)
theorem DrAt.necd {D : Dw} {H : Hp} {ls cs : List Int} {r t : Int} (h : DrAt D H ls cs r t) : D.c ≠ D.d := h.dne h.hc (fun _ z => nomatch z)
theorem DrAt.put {D : Dw} {H : Hp} {ls cs : List Int} {r t r' t' : Int} (h : DrAt D H ls cs r t) : DrAt D (upd H D.d (.dK (drK D r' t'))) ls cs r' t' :=
  ⟨upd_same, by rw [upd_ne h.nelc]; exact h.hl, by rw [upd_ne h.necd]; exact h.hc, h.ne, h.nl, h.nc⟩
theorem Kp.put {D : Dw} {H : Hp} {o : HO} : Kp D H (upd H D.d o) := fun b u e n _ => by rw [upd_ne n]; exact e
theorem Kp.putl {D : Dw} {H : Hp} {o : HO} : Kp D H (upd H D.l o) := fun b u e _ n => by rw [upd_ne n]; exact e
theorem DrAt.pop {D : Dw} {H : Hp} {ls cs ls' : List Int} {r t : Int} (h : DrAt D H ls cs r t) (n : ls'.length ≤ 63) : DrAt D (upd H D.l (.lst (ls'.map V.int))) ls' cs r t :=
  ⟨by rw [upd_ne h.nelc.symm]; exact h.hd, upd_same, by rw [upd_ne h.ne.symm]; exact h.hc, h.ne, n, h.nc⟩
theorem val_large (D : Dw) (r t : Int) : valV (drK D r t) (Sum.inr "large") = some (.ref D.l) := rfl
theorem val_rest (D : Dw) (r t : Int) : valV (drK D r t) (Sum.inr "rest") = some (.int r) := rfl
theorem val_cells (D : Dw) (r t : Int) : valV (drK D r t) (Sum.inr "cells") = some (.ref D.c) := rfl
theorem val_turn (D : Dw) (r t : Int) : valV (drK D r t) (Sum.inr "turn") = some (.int t) := rfl
theorem put_rest (D : Dw) (r t r' : Int) : putK (drK D r t) (Sum.inr "rest") (.int r') = drK D r' t := rfl
theorem put_turn (D : Dw) (r t t' : Int) : putK (drK D r t) (Sum.inr "turn") (.int t') = drK D r t' := rfl
end Tt
set_option maxRecDepth 100000
set_option maxHeartbeats 4000000
namespace Tt
open PySem L2
local macro_rules | `(tactic| walk_at "v") => `(tactic| refine ⟨_, rfl, ?_⟩)
local macro_rules | `(tactic| walk_at "ii") => `(tactic| refine ⟨_, _, rfl, rfl, ?_⟩)
section
variable {P : Program} {w : World} {K : PySem.W.Frag} {mg : Str → Option Value} {base : Heap}
def spMixed : Sp := fun vs H Q _ => ∃ D : Dw, vs = [.ref D.d] ∧ DrOk D H ∧ ∀ z H', DrOk D H' → Kp D H H' → Q (.int z) H'
theorem ok_l_mixed (T : Txt K mg) : FnOk P w K mg base CX0 1 T.l_mixed.a T.l_mixed.fd ["draw"] spMixed := by
  refine T.l_mixed.F.ok sc_l_mixed (fun vs H Q E h => ?_) (fun cdv A outer s H vs Q E hr h => ?_)
  · obtain ⟨D, rfl, _⟩ := h
    rfl
  · obtain ⟨D, rfl, ⟨ls, cs, r, t, dr⟩, k⟩ := h
    have hu := hu_of hr
    have nd := sc_l_mixed.nd
    refine ⟨_, pss_cons (ps_dput hu (pv 0) pe_str (pe_op op_add (pe_dget hu (pv 0) pe_str (fun _ _ => rfl)) pe_int) rfl)
      (pss_cons (ps_par (i := 1) (j := 2) rfl nd rfl rfl (by decide) rfl rfl (pa_cons (pe_callTy call_int1 (by rfl) T.zint (by decide +kernel) (pa_cons (pe_dget hu (pv 0) pe_str (fun _ _ => rfl)) pa_nil)) (pa_cons pe_int pa_nil)) rfl)
      (pss_cons (ps_for PassesOwn.never rfl (pi_list (pe_lst (pa_cons pe_int (pa_cons pe_int (pa_cons pe_int pa_nil))))) (pg_name (i := 3) nd rfl (Or.inl rfl))
        (pss_cons (ps_set (i := 4) nd rfl (Or.inl rfl) (pe_op op_mod (pe_op op_add (pe_op op_mul (pv 1) pe_int) (pe_op op_fdiv (pv 3) pe_int)) (pv 3)))
        (pss_cons (ps_for PassesOwn.never rfl (pi_list (pe_dget hu (pv 0) pe_str (fun _ _ => rfl))) (pg_name (i := 5) nd rfl (Or.inl rfl))
          (pss_one (ps_set (i := 4) nd rfl (Or.inl rfl) (pe_op op_mod (pe_op op_add (pe_op op_mul (pv 4) pe_int) (pe_callTy call_int1 (by rfl) T.zint (by decide +kernel) (pa_cons (pv 5) pa_nil))) (pv 3)))))
        (pss_one (ps_set (i := 2) nd rfl (Or.inl rfl) (pe_op op_add (pe_op op_mul (pv 2) pe_int) (pe_op op_mod (pe_op op_pow (pv 4) pe_int) (pv 3))))))))
      (pss_one (ps_ret (pv 2))))), ?_⟩
    refine ⟨_, rfl, _, _, rfl, DGet.k (k := Sum.inr "turn") dr.hd, _, _, rfl, rfl, _, rfl, _, _, rfl, DPut.k (k := Sum.inr "turn") dr.hd (small1000 (by show 4 ≤ 1000; decide)), ?_⟩
    have dr1 : DrAt D (upd H D.d (.dK (drK D r (t + 1)))) ls cs r (t + 1) := dr.put
    have k1 : Kp D H (upd H D.d (.dK (drK D r (t + 1)))) := Kp.put
    generalize hH1 : upd H D.d (.dK (drK D r (t + 1))) = H1 at dr1 k1
    have eH1 : upd H D.d (.dK (putK (drK D r t) (Sum.inr "turn") (.int (t + 1)))) = H1 := hH1
    rw [eH1]
    refine ⟨_, rfl, _, _, rfl, DGet.k (k := Sum.inr "turn") dr1.hd, .inl ⟨_, rfl, ?_⟩⟩
    refine ⟨_, _, rfl, ?_⟩
    refine ⟨(by show 3 ≤ sizeLine; decide), fun p hp => ?_⟩
    have dr2 := dr1.new (o := .lst [.int 2147483629, .int 2147483587, .int 2147483579]) hp
    have k2 : Kp D H1 (upd H1 p (.lst [.int 2147483629, .int 2147483587, .int 2147483579])) := Kp.new hp
    refine ⟨p, rfl, ⟨_, SqL.of upd_same⟩, ?_⟩
    have hp2 : (upd H1 p (.lst [.int 2147483629, .int 2147483587, .int 2147483579])) p = some (.lst [.int 2147483629, .int 2147483587, .int 2147483579]) := upd_same
    generalize upd H1 p (.lst [.int 2147483629, .int 2147483587, .int 2147483579]) = H2 at dr2 k2 hp2
    refine for_list (K := K) (a := p) (xs := [.int 2147483629, .int 2147483587, .int 2147483579]) (fun i σ H' => H' = H2 ∧ ∃ f v3 v4 v5, σ = [some (.ref D.d), some (.int (t + 1)), some (.int f), v3, v4, v5])
      ⟨rfl, 0, _, _, _, rfl⟩ (fun i σ H' _ q => by rw [q.1]; exact SqL.of hp2) ?_ ?_
    · rintro i x σ H' hi ⟨rfl, f, v3, v4, v5, rfl⟩
      obtain ⟨g, rfl, g0, g1⟩ : ∃ g : Int, x = .int g ∧ 0 < g ∧ g < 2147483648 := by
        match i, hi with
        | 0, hi => exact ⟨_, (Option.some.inj hi).symm, by decide, by decide⟩
        | 1, hi => exact ⟨_, (Option.some.inj hi).symm, by decide, by decide⟩
        | 2, hi => exact ⟨_, (Option.some.inj hi).symm, by decide, by decide⟩
      refine ⟨_, rfl, _, _, rfl, rfl, .inr ⟨by decide, by decide⟩, _, rfl, _, _, rfl, rfl, ⟨by decide, by decide⟩, _, _, rfl, rfl, _, rfl, _, _, rfl, rfl, g0, ?_⟩
      refine ⟨_, rfl, _, _, rfl, DGet.k (k := Sum.inr "cells") dr2.hd, _, rfl, ⟨_, SqL.of dr2.hc⟩, ?_⟩
      refine for_list (K := K) (a := D.c) (xs := cs.map V.int) (fun i σ H'' => H'' = H' ∧ ∃ b v5, (0 ≤ b ∧ b < g) ∧ σ = [some (.ref D.d), some (.int (t + 1)), some (.int f), some (.int g), some (.int b), v5])
        ⟨rfl, _, _, ⟨Int.emod_nonneg _ (by omega), Int.emod_lt_of_pos _ g0⟩, rfl⟩ (fun i σ H'' _ q => by rw [q.1]; exact SqL.of dr2.hc) ?_ ?_
      · rintro j y σ H'' hj ⟨rfl, b, v5, hb, rfl⟩
        obtain ⟨z, rfl⟩ : ∃ z, y = V.int z := by
          rw [List.getElem?_map] at hj
          cases e : cs[j]? with
          | none => rw [e] at hj; cases hj
          | some z => rw [e] at hj; exact ⟨z, (Option.some.inj hj).symm⟩
        refine ⟨_, rfl, _, _, rfl, rfl, .inr ⟨by decide, by decide⟩, _, rfl, .inl ⟨_, rfl, _, _, rfl, rfl, _, rfl, _, _, rfl, rfl, g0, ?_⟩⟩
        exact ⟨rfl, _, _, ⟨Int.emod_nonneg _ (by omega), Int.emod_lt_of_pos _ g0⟩, rfl⟩
      · rintro σ H'' ⟨rfl, b, v5, hb, rfl⟩
        refine ⟨_, rfl, _, _, rfl, rfl, .inr ⟨by decide, by decide⟩, _, rfl, _, _, rfl, rfl, ⟨by decide, by decide, by omega⟩, _, rfl, _, _, rfl, rfl, g0, _, _, rfl, rfl, ?_⟩
        exact ⟨rfl, _, _, _, _, rfl⟩
    · rintro σ H' ⟨rfl, f, v3, v4, v5, rfl⟩
      refine ⟨_, rfl, ?_⟩
      exact k _ _ ⟨_, _, _, _, dr2⟩ (k1.trans k2)
end
end Tt
set_option maxRecDepth 100000
set_option maxHeartbeats 4000000
namespace Tt
open PySem L2
section
variable {P : Program} {w : World} {K : PySem.W.Frag} {mg : Str → Option Value} {base : Heap}
theorem dpAll_ints (H : Hp) : ∀ ls : List Int, DpAll K H (ls.map V.int) (ls.map PyData.int)
  | [] => .nil
  | a :: l => .cons (.int a) (dpAll_ints H l)
theorem shapedAll_ints : ∀ ls : List Int, SeqAt.shaped (.list (ls.map PyData.int)) = true
  | [] => by first | rfl | decide
  | a :: l => by
    have h := shapedAll_ints l
    first | exact h | (simp [SeqAt.shaped] at h ⊢) | trace_state
theorem eqv_nil (ls : List Int) : PyData.eqv (.list (ls.map PyData.int)) (.list []) = decide (ls = []) := by
  cases ls with
  | nil => rfl
  | cons a l => simp [PyData.eqv] <;> rfl
theorem yes_t {σ : L2.St} {H : Hp} {A B : Hp → Prop} (h : A H) : tYes σ H (fun b H3 => if b = true then A H3 else B H3) := by
  show if true = true then A H else B H
  rw [if_pos rfl]
  exact h
theorem ints_at {cs : List Int} {j : Nat} {y : V} (hj : (cs.map V.int)[j]? = some y) : ∃ z, y = V.int z ∧ cs[j]? = some z := by
  rw [List.getElem?_map] at hj
  cases e : cs[j]? with
  | none => rw [e] at hj; cases hj
  | some z => rw [e] at hj; exact ⟨z, (Option.some.inj hj).symm, rfl⟩
def spTake : Sp := fun vs H Q _ => ∃ (D : Dw) (m : Int), vs = [.ref D.d, .int m] ∧ 0 < m ∧ m < 1073741824 ∧ DrOk D H ∧ ∀ n H', 0 ≤ n → n < m → DrOk D H' → Kp D H H' → Q (.int n) H'
theorem ok_l_take (T : Txt K mg) : FnOk P w K mg base CX0 2 T.l_take.a T.l_take.fd ["draw", "amount"] spTake := by
  refine T.l_take.F.ok sc_l_take (fun vs H Q E h => ?_) (fun cdv A outer s H vs Q E hr h => ?_)
  · obtain ⟨D, m, rfl, _⟩ := h
    rfl
  · obtain ⟨D, m, rfl, m0, m1, ⟨ls, cs, r, t, dr⟩, k⟩ := h
    have hu := hu_of hr
    have nd := sc_l_take.nd
    refine ⟨_, (pss_cons (ps_if (pt_cmpR op_eq (pe_dget hu (pv 0) pe_str (fun _ _ => rfl)) pe_int (nomark _))
      (pss_one (ps_dput hu (pv 0) pe_str (pe_ifExp (pt_cmpR (op_neD hr.units) (pe_dget hu (pv 0) pe_str (fun _ _ => rfl)) (pe_lst pa_nil) (nomark _)) (pe_bm PySem.F.plainAttrs_list PySem.F.slot_list_pop PySem.F.type_list_pop mt_popAt (pe_dget hu (pv 0) pe_str (fun _ _ => rfl)) (pa_cons pe_int pa_nil)) (pe_call (ok_l_mixed T) (hr.mono (by decide)) (by rfl) T.l_mixed.g T.l_mixed.k T.l_mixed.b .nil pass0 (pa_cons (pv 0) pa_nil))) rfl))
      pss_nil)
    (pss_cons (ps_set (i := 2) nd rfl (Or.inl rfl) (pe_op op_mod (pe_callTy call_int1 (by rfl) T.zint (by decide +kernel) (pa_cons (pe_dget hu (pv 0) pe_str (fun _ _ => rfl)) pa_nil)) (pv 1)))
    (pss_cons (ps_dput hu (pv 0) pe_str (pe_op op_fdiv (pe_callTy call_int1 (by rfl) T.zint (by decide +kernel) (pa_cons (pe_dget hu (pv 0) pe_str (fun _ _ => rfl)) pa_nil)) (pv 1)) rfl)
    (pss_one (ps_ret (pv 2)))))), ?_⟩
    refine ⟨_, rfl, _, _, rfl, DGet.k (k := Sum.inr "rest") dr.hd, rfl, _, rfl, ?_⟩
    have fin : ∀ r' ls' cs' t' H', DrAt D H' ls' cs' r' t' → Kp D H H' → tSeq (tAsg (tOp (rI (fun _ j => 0 < j) fun i j => .int (i % j)) (tCB (fun xs H Q => (∃ i, xs = [.int i] ∧ Q (.int i) H) ∨ ∃ k, xs = [.bl k] ∧ Q (.int (if k then 1 else 0)) H) (tCons (tDGet (tVar 0) (tC (.str "rest"))) tNil)) (tVar 1)) (gName 2))
        (tSeq (sDPut (tVar 0) (tC (.str "rest")) (tOp (rI CDiv fun i j => .int (i / j)) (tCB (fun xs H Q => (∃ i, xs = [.int i] ∧ Q (.int i) H) ∨ ∃ k, xs = [.bl k] ∧ Q (.int (if k then 1 else 0)) H) (tCons (tDGet (tVar 0) (tC (.str "rest"))) tNil)) (tVar 1))) (tRet (tVar 2))) { nx := fun _ H' => Q .non H', rt := Q } [some (.ref D.d), some (.int m), none] H' := by
      intro r' ls' cs' t' H' d' k'
      refine ⟨_, rfl, _, _, rfl, DGet.k (k := Sum.inr "rest") d'.hd, .inl ⟨_, rfl, _, rfl, _, _, rfl, rfl, m0, ?_⟩⟩
      refine ⟨_, rfl, _, _, rfl, DGet.k (k := Sum.inr "rest") d'.hd, .inl ⟨_, rfl, _, rfl, _, _, rfl, rfl, ⟨m0, m1⟩, _, rfl, _, _, rfl, DPut.k (k := Sum.inr "rest") d'.hd (small1000 (by show 4 ≤ 1000; decide)), ?_⟩⟩
      refine ⟨_, rfl, k _ _ (Int.emod_nonneg _ (by omega)) (Int.emod_lt_of_pos _ m0) ⟨ls', cs', r' / m, t', ?_⟩ (k'.trans ?_)⟩
      · exact d'.put
      · exact Kp.put
    refine ite2 (fun _ => ?_) (fun _ => fin r ls cs t H dr Kp.refl)
    refine ⟨_, rfl, _, _, rfl, DGet.k (k := Sum.inr "large") dr.hd, (by show 0 ≤ sizeLine; decide), fun p hp => ?_⟩
    have dr1 := dr.new (o := .lst []) hp
    have k1 : Kp D H (upd H p (.lst [])) := Kp.new hp
    refine ⟨_, _, .lst (SqL.of dr1.hl) (dpAll_ints _ ls), .lst (SqL.of upd_same) .nil, shapedAll_ints ls, rfl, _, rfl, ?_⟩
    rw [eqv_nil]
    cases ls with
    | nil =>
      refine iteF ?_
      refine ⟨_, rfl, D, rfl, ⟨_, _, _, _, dr1⟩, fun z H2 ⟨ls2, cs2, r2, t2, d2⟩ k2 => ?_⟩
      refine ⟨_, rfl, _, _, rfl, DPut.k (k := Sum.inr "rest") d2.hd (small1000 (by show 4 ≤ 1000; decide)), ?_⟩
      exact fin z ls2 cs2 t2 _ (d2.put : DrAt D (upd H2 D.d (.dK (drK D z t2))) ls2 cs2 z t2) ((k1.trans k2).trans Kp.put)
    | cons a l =>
      refine iteT ?_
      refine ⟨_, rfl, _, _, rfl, DGet.k (k := Sum.inr "large") dr1.hd, .inl ⟨rfl, _, SqL.of dr1.hl⟩, D.l, _, 0, 0, _, rfl, rfl, dr1.hl, by decide, by decide, by simp [seqIndex?], rfl, ?_⟩
      have d2 : DrAt D (upd (upd H p (.lst [])) D.l (.lst (l.map V.int))) l cs r t := dr1.pop (Nat.le_trans (Nat.le_succ _) dr.nl)
      refine ⟨_, rfl, _, _, rfl, DPut.k (k := Sum.inr "rest") d2.hd (small1000 (by show 4 ≤ 1000; decide)), ?_⟩
      exact fin a l cs t _ (d2.put : DrAt D (upd _ D.d (.dK (drK D a t))) l cs a t) ((k1.trans Kp.putl).trans Kp.put)
def spPick (K : PySem.W.Frag) : Sp := fun vs H Q _ => ∃ (D : Dw) (p : Addr) (xs : List V), vs = [.ref D.d, .ref p] ∧ (SqL K H p xs ∨ SqT K H p xs) ∧ p ≠ D.l ∧ xs ≠ [] ∧ xs.length < 1073741824 ∧ DrOk D H ∧
  ∀ (i : Nat) x H', xs[i]? = some x → DrOk D H' → Kp D H H' → Q x H'
theorem Kp.seqL {D : Dw} {H H' : Hp} {p : Addr} {xs : List V} (k : Kp D H H') (dr : DrOk D H) (n : p ≠ D.l) (h : SqL K H p xs) : SqL K H' p xs := by
  obtain ⟨ls, cs, r, t, d⟩ := dr
  rcases h with (h | ⟨o, h⟩) | h
  · exact .inl (.inl (k _ _ h (d.dne h fun _ z => nomatch z) n))
  · exact .inl (.inr ⟨o, k _ _ h (d.dne h fun _ z => nomatch z) n⟩)
  · exact .inr h
theorem Kp.seqT {D : Dw} {H H' : Hp} {p : Addr} {xs : List V} (k : Kp D H H') (dr : DrOk D H) (h : SqT K H p xs) : SqT K H' p xs := by
  obtain ⟨ls, cs, r, t, d⟩ := dr
  rcases h with (h | ⟨o, h⟩) | h
  · exact .inl (.inl (k _ _ h (d.dne h fun _ z => nomatch z) (d.lne h fun _ z => nomatch z)))
  · exact .inl (.inr ⟨o, k _ _ h (d.dne h fun _ z => nomatch z) (d.lne h fun _ z => nomatch z)⟩)
  · exact .inr h
theorem ok_l_pick (T : Txt K mg) : FnOk P w K mg base CX0 3 T.l_pick.a T.l_pick.fd ["draw", "some"] (spPick K) := by
  refine T.l_pick.F.ok sc_l_pick (fun vs H Q E h => ?_) (fun cdv A outer s H vs Q E hr h => ?_)
  · obtain ⟨D, p, xs, rfl, _⟩ := h
    rfl
  · obtain ⟨D, p, xs, rfl, hs, np, ne, ln, dr, k⟩ := h
    have hu := hu_of hr
    have nd := sc_l_pick.nd
    refine ⟨_, (pss_one (ps_ret (pe_ix (IxR.or ix_list ix_tup) (pv 1) (pe_call (ok_l_take T) (hr.mono (by decide)) (by rfl) T.l_take.g T.l_take.k T.l_take.b .nil pass0 (pa_cons (pv 0) (pa_cons (pe_callB call_len_seq (by rfl) T.zlen (by decide +kernel) (pa_cons (pv 1) pa_nil)) pa_nil))) (fun _ _ => rfl)))), ?_⟩
    have l0 : 0 < xs.length := List.length_pos_iff.mpr ne
    refine ⟨_, rfl, _, rfl, _, rfl, p, xs, rfl, hs, D, (xs.length : Int), rfl, by omega, by omega, dr, fun n H' n0 n1 dr' k' => ?_⟩
    obtain ⟨m, rfl⟩ := Int.eq_ofNat_of_zero_le n0
    have hn : m < xs.length := by omega
    have hat : atI xs (m : Int) = some xs[m] := atI_nat (List.getElem?_eq_getElem hn)
    have fin : Q xs[m] H' := k m _ H' (List.getElem?_eq_getElem hn) dr' k'
    rcases hs with hs | hs
    · exact .inl ⟨p, xs, m, _, rfl, rfl, k'.seqL dr np hs, hat, fin⟩
    · exact .inr ⟨p, xs, m, _, rfl, rfl, k'.seqT dr hs, hat, fin⟩
def spBegun (K : PySem.W.Frag) : Sp := fun vs H Q _ => ∃ (a : Addr) (ns : List Int), vs = [.ref a] ∧ SqL K H a (ns.map V.int) ∧ ns.length ≤ 63 ∧ ∀ (D : Dw) H', DrOk D H' → Same H H' → Q (.ref D.d) H'
theorem ok_l_begun (T : Txt K mg) : FnOk P w K mg base CX0 1 T.l_begun.a T.l_begun.fd ["script"] (spBegun K) := by
  refine T.l_begun.F.ok sc_l_begun (fun vs H Q E h => ?_) (fun cdv A outer s H vs Q E hr h => ?_)
  · obtain ⟨a, ns, rfl, _⟩ := h
    rfl
  · obtain ⟨a, ns, rfl, hs, hl, k⟩ := h
    have hu := hu_of hr
    have nd := sc_l_begun.nd
    refine ⟨_, (pss_cons (ps_setLc (i := 1) (own := [("grain", 2)]) (g := gName 2) rfl nd rfl rfl (sw_true rfl rfl rfl (by decide +kernel)) (pi_list (pv 0)) (blkOk_by (own := [("grain", 2)]) (N := N_l_begun) (sc := defScope s_l_begun) (by decide +kernel)) (fun _ _ _ _ _ => pg_name (i := 2) nd rfl (Or.inl rfl)) (fun _ _ _ _ _ => pts_one (pt_cmpR op_ge (pe_callB call_abs (by rfl) T.zabs (by decide +kernel) (pa_cons (pv 2) pa_nil)) (pe_op op_pow pe_int pe_int) (nomark _))) (fun _ _ _ _ _ => (pe_op op_sub (pe_callB call_abs (by rfl) T.zabs (by decide +kernel) (pa_cons (pv 2) pa_nil)) (pe_op op_pow pe_int pe_int))))
    (pss_one (ps_ret (pe_disp (pps_cons pe_str (pv 1) (pps_cons pe_str pe_int (pps_cons pe_str (pe_lc (own := [("grain", 2)]) (g := gName 2) rfl nd (pi_list (pv 0)) (blkOk_by (own := [("grain", 2)]) (N := N_l_begun) (sc := defScope s_l_begun) (by decide +kernel)) (fun _ _ _ _ _ => pg_name (i := 2) nd rfl (Or.inl rfl)) (fun _ _ _ _ _ => pts_nil) (fun _ _ _ _ _ => (pe_callB call_abs (by rfl) T.zabs (by decide +kernel) (pa_cons (pv 2) pa_nil)))) (pps_cons pe_str pe_int pps_nil)))) (by rfl) (by rfl) (fun z => by cases z) (by decide))))), ?_⟩
    refine ⟨_, rfl, a, rfl, ⟨_, hs⟩, fun D1 hD1 => lc_list (K := K) (a := a) (xs := ns.map V.int) (fun i H' => ∃ ls : List Int, ls.length ≤ i ∧ H' D1 = some (.lst (ls.map V.int)) ∧ Same H H')
      ⟨[], Nat.le_refl _, upd_same, fun b o e => by rw [upd_ne (ne_of_none e hD1)]; exact e⟩ (fun i H' _ ⟨_, _, _, s⟩ => s.seq hs) ?_ ?_⟩
    · rintro i y H' hi ⟨ls, hls, h1, s1⟩
      obtain ⟨z, rfl, hz⟩ := ints_at hi
      have hi63 : i < ns.length := (List.getElem?_eq_some_iff.mp hz).1
      refine ⟨rfl, _, rfl, _, rfl, _, _, rfl, rfl, ⟨by decide, by decide, by decide⟩, _, _, rfl, rfl, _, rfl, ?_⟩
      refine ite2 (fun _ => ?_) (fun _ => ⟨ls, by omega, h1, s1⟩)
      refine ⟨_, rfl, _, rfl, _, _, rfl, rfl, ⟨by decide, by decide, by decide⟩, _, _, rfl, rfl, _, h1, ?_, ?_⟩
      · rw [List.length_map]
        exact small1000 (by omega)
      · refine ⟨ls ++ [(if z < 0 then -z else z) - 10 ^ (18 : Int).toNat], by rw [List.length_append]; show ls.length + 1 ≤ i + 1; omega, ?_, ?_⟩
        · rw [upd_same, List.map_append]
          rfl
        · intro b o e
          have e1 := s1 b o e
          rw [upd_ne (ne_of_none e hD1)]
          exact e1
    · rintro H1 ⟨ls, hls, h1, s1⟩
      rw [List.length_map] at hls
      refine fun p hp => ?_
      refine ⟨_, rfl, ?_⟩
      have s2 : Same H (upd H1 p (.dK [])) := fun b o e => by rw [upd_ne (ne_of_none (s1 b o e) hp)]; exact s1 b o e
      refine ⟨_, rfl, a, rfl, ⟨_, s2.seq hs⟩, fun D2 hD2 => lc_list (K := K) (a := a) (xs := ns.map V.int) (fun i H' => ∃ cs : List Int, cs.length ≤ i ∧ H' D2 = some (.lst (cs.map V.int)) ∧ Same (upd H1 p (.dK [])) H')
        ⟨[], Nat.le_refl _, upd_same, fun b o e => by rw [upd_ne (ne_of_none e hD2)]; exact e⟩ (fun i H' _ ⟨_, _, _, s⟩ => s.seq (s2.seq hs)) ?_ ?_⟩
      · rintro i y H' hi ⟨cs, hcs, h2, s3⟩
        obtain ⟨z, rfl, hz⟩ := ints_at hi
        have hi63 : i < ns.length := (List.getElem?_eq_some_iff.mp hz).1
        refine ⟨rfl, yes_t ?_⟩
        refine ⟨_, rfl, _, rfl, _, h2, by rw [List.length_map]; exact small1000 (by omega), ?_⟩
        refine ⟨cs ++ [if z < 0 then -z else z], by rw [List.length_append]; show cs.length + 1 ≤ i + 1; omega, ?_, ?_⟩
        · rw [upd_same, List.map_append]
          rfl
        · intro b o e
          rw [upd_ne (ne_of_none e hD2)]
          exact s3 b o e
      · rintro H2 ⟨cs, hcs, h2, s3⟩
        rw [List.length_map] at hcs
        have hp2 : H2 p = some (.dK []) := s3 _ _ upd_same
        have nDp : D2 ≠ p := fun z => by rw [z, upd_same] at hD2; cases hD2
        have nD1p : D1 ≠ p := ne_of_none h1 hp
        have h12 : H2 D1 = some (.lst (ls.map V.int)) := s3 _ _ (by rw [upd_ne nD1p]; exact h1)
        have nD12 : D1 ≠ D2 := fun z => by
          rw [← z, upd_ne nD1p, h1] at hD2
          cases hD2
        refine ⟨hp2, drK ⟨p, D1, D2⟩ 0 0, rfl, by show 4 ≤ 15; decide, ?_⟩
        refine k ⟨p, D1, D2⟩ _ ⟨ls, cs, 0, 0, ⟨upd_same, by rw [upd_ne nD1p]; exact h12, by rw [upd_ne nDp]; exact h2, nD12, by omega, by omega⟩⟩ ?_
        intro b o e
        rw [upd_ne (ne_of_none (s1 b o e) hp)]
        exact s3 _ _ (s2 b o e)
end
end Tt
set_option maxRecDepth 100000
set_option maxHeartbeats 4000000
namespace Tt
open PySem L2
section
variable {P : Program} {w : World} {K : PySem.W.Frag} {mg : Str → Option Value} {base : Heap}
theorem ok_BadNumber_init (T : Txt K mg) : FnOk P w K mg base CX0 1 T.BadNumber.fI T.BadNumber.fd ["self", "part"] (spI T.BadNumber.C "part") := by
  refine T.BadNumber.F.ok sc_BadNumber_init (fun vs H Q E h => ?_) (fun cdv A outer s H vs Q E hr h => ?_)
  · obtain ⟨a, v, rfl, _⟩ := h
    rfl
  · obtain ⟨a, v, rfl, ha, k⟩ := h
    refine ⟨_, (pss_one (ps_ost (pv 0) (pv 1))), ?_⟩
    exact ⟨v, rfl, _, rfl, a, T.BadNumber.C, rfl, T.BadNumber.o, T.BadNumber.n, .inl ⟨ha, fun dx n ne => k dx n ne⟩⟩
theorem kw_BadNumber (T : Txt K mg) : KwB T.BadNumber.fd "self" "part" := T.BadNumber.F.kwb fun _ _ _ _ _ _ _ _ => rfl
theorem ok_BadSkin_init (T : Txt K mg) : FnOk P w K mg base CX0 1 T.BadSkin.fI T.BadSkin.fd ["self", "part"] (spI T.BadSkin.C "part") := by
  refine T.BadSkin.F.ok sc_BadSkin_init (fun vs H Q E h => ?_) (fun cdv A outer s H vs Q E hr h => ?_)
  · obtain ⟨a, v, rfl, _⟩ := h
    rfl
  · obtain ⟨a, v, rfl, ha, k⟩ := h
    refine ⟨_, (pss_one (ps_ost (pv 0) (pv 1))), ?_⟩
    exact ⟨v, rfl, _, rfl, a, T.BadSkin.C, rfl, T.BadSkin.o, T.BadSkin.n, .inl ⟨ha, fun dx n ne => k dx n ne⟩⟩
theorem kw_BadSkin (T : Txt K mg) : KwB T.BadSkin.fd "self" "part" := T.BadSkin.F.kwb fun _ _ _ _ _ _ _ _ => rfl
theorem ok_BadRounds_init (T : Txt K mg) : FnOk P w K mg base CX0 1 T.BadRounds.fI T.BadRounds.fd ["self", "part"] (spI T.BadRounds.C "part") := by
  refine T.BadRounds.F.ok sc_BadRounds_init (fun vs H Q E h => ?_) (fun cdv A outer s H vs Q E hr h => ?_)
  · obtain ⟨a, v, rfl, _⟩ := h
    rfl
  · obtain ⟨a, v, rfl, ha, k⟩ := h
    refine ⟨_, (pss_one (ps_ost (pv 0) (pv 1))), ?_⟩
    exact ⟨v, rfl, _, rfl, a, T.BadRounds.C, rfl, T.BadRounds.o, T.BadRounds.n, .inl ⟨ha, fun dx n ne => k dx n ne⟩⟩
theorem kw_BadRounds (T : Txt K mg) : KwB T.BadRounds.fd "self" "part" := T.BadRounds.F.kwb fun _ _ _ _ _ _ _ _ => rfl
theorem ok_BadDrawing_init (T : Txt K mg) : FnOk P w K mg base CX0 1 T.BadDrawing.fI T.BadDrawing.fd ["self", "part"] (spI T.BadDrawing.C "part") := by
  refine T.BadDrawing.F.ok sc_BadDrawing_init (fun vs H Q E h => ?_) (fun cdv A outer s H vs Q E hr h => ?_)
  · obtain ⟨a, v, rfl, _⟩ := h
    rfl
  · obtain ⟨a, v, rfl, ha, k⟩ := h
    refine ⟨_, (pss_one (ps_ost (pv 0) (pv 1))), ?_⟩
    exact ⟨v, rfl, _, rfl, a, T.BadDrawing.C, rfl, T.BadDrawing.o, T.BadDrawing.n, .inl ⟨ha, fun dx n ne => k dx n ne⟩⟩
theorem kw_BadDrawing (T : Txt K mg) : KwB T.BadDrawing.fd "self" "part" := T.BadDrawing.F.kwb fun _ _ _ _ _ _ _ _ => rfl
theorem ok_BadBundle_init (T : Txt K mg) : FnOk P w K mg base CX0 1 T.BadBundle.fI T.BadBundle.fd ["self", "part"] (spI T.BadBundle.C "part") := by
  refine T.BadBundle.F.ok sc_BadBundle_init (fun vs H Q E h => ?_) (fun cdv A outer s H vs Q E hr h => ?_)
  · obtain ⟨a, v, rfl, _⟩ := h
    rfl
  · obtain ⟨a, v, rfl, ha, k⟩ := h
    refine ⟨_, (pss_one (ps_ost (pv 0) (pv 1))), ?_⟩
    exact ⟨v, rfl, _, rfl, a, T.BadBundle.C, rfl, T.BadBundle.o, T.BadBundle.n, .inl ⟨ha, fun dx n ne => k dx n ne⟩⟩
theorem kw_BadBundle (T : Txt K mg) : KwB T.BadBundle.fd "self" "part" := T.BadBundle.F.kwb fun _ _ _ _ _ _ _ _ => rfl
theorem ok_BadLive_init (T : Txt K mg) : FnOk P w K mg base CX0 1 T.BadLive.fI T.BadLive.fd ["self", "part"] (spI T.BadLive.C "part") := by
  refine T.BadLive.F.ok sc_BadLive_init (fun vs H Q E h => ?_) (fun cdv A outer s H vs Q E hr h => ?_)
  · obtain ⟨a, v, rfl, _⟩ := h
    rfl
  · obtain ⟨a, v, rfl, ha, k⟩ := h
    refine ⟨_, (pss_one (ps_ost (pv 0) (pv 1))), ?_⟩
    exact ⟨v, rfl, _, rfl, a, T.BadLive.C, rfl, T.BadLive.o, T.BadLive.n, .inl ⟨ha, fun dx n ne => k dx n ne⟩⟩
theorem kw_BadLive (T : Txt K mg) : KwB T.BadLive.fd "self" "part" := T.BadLive.F.kwb fun _ _ _ _ _ _ _ _ => rfl
theorem ok_BadFan_init (T : Txt K mg) : FnOk P w K mg base CX0 1 T.BadFan.fI T.BadFan.fd ["self", "part"] (spI T.BadFan.C "part") := by
  refine T.BadFan.F.ok sc_BadFan_init (fun vs H Q E h => ?_) (fun cdv A outer s H vs Q E hr h => ?_)
  · obtain ⟨a, v, rfl, _⟩ := h
    rfl
  · obtain ⟨a, v, rfl, ha, k⟩ := h
    refine ⟨_, (pss_one (ps_ost (pv 0) (pv 1))), ?_⟩
    exact ⟨v, rfl, _, rfl, a, T.BadFan.C, rfl, T.BadFan.o, T.BadFan.n, .inl ⟨ha, fun dx n ne => k dx n ne⟩⟩
theorem kw_BadFan (T : Txt K mg) : KwB T.BadFan.fd "self" "part" := T.BadFan.F.kwb fun _ _ _ _ _ _ _ _ => rfl
theorem ok_NoMark_init (T : Txt K mg) : FnOk P w K mg base CX0 1 T.NoMark.fI T.NoMark.fd ["self", "name"] (spI T.NoMark.C "name") := by
  refine T.NoMark.F.ok sc_NoMark_init (fun vs H Q E h => ?_) (fun cdv A outer s H vs Q E hr h => ?_)
  · obtain ⟨a, v, rfl, _⟩ := h
    rfl
  · obtain ⟨a, v, rfl, ha, k⟩ := h
    refine ⟨_, (pss_one (ps_ost (pv 0) (pv 1))), ?_⟩
    exact ⟨v, rfl, _, rfl, a, T.NoMark.C, rfl, T.NoMark.o, T.NoMark.n, .inl ⟨ha, fun dx n ne => k dx n ne⟩⟩
theorem kw_NoMark (T : Txt K mg) : KwB T.NoMark.fd "self" "name" := T.NoMark.F.kwb fun _ _ _ _ _ _ _ _ => rfl
theorem ok_BadText_init (T : Txt K mg) : FnOk P w K mg base CX0 1 T.BadText.fI T.BadText.fd ["self", "at"] (spI T.BadText.C "at") := by
  refine T.BadText.F.ok sc_BadText_init (fun vs H Q E h => ?_) (fun cdv A outer s H vs Q E hr h => ?_)
  · obtain ⟨a, v, rfl, _⟩ := h
    rfl
  · obtain ⟨a, v, rfl, ha, k⟩ := h
    refine ⟨_, (pss_one (ps_ost (pv 0) (pv 1))), ?_⟩
    exact ⟨v, rfl, _, rfl, a, T.BadText.C, rfl, T.BadText.o, T.BadText.n, .inl ⟨ha, fun dx n ne => k dx n ne⟩⟩
theorem kw_BadText (T : Txt K mg) : KwB T.BadText.fd "self" "at" := T.BadText.F.kwb fun _ _ _ _ _ _ _ _ => rfl
theorem ok_TooMany_init (T : Txt K mg) : FnOk P w K mg base CX0 1 T.TooMany.fI T.TooMany.fd ["self", "most"] (spI T.TooMany.C "most") := by
  refine T.TooMany.F.ok sc_TooMany_init (fun vs H Q E h => ?_) (fun cdv A outer s H vs Q E hr h => ?_)
  · obtain ⟨a, v, rfl, _⟩ := h
    rfl
  · obtain ⟨a, v, rfl, ha, k⟩ := h
    refine ⟨_, (pss_one (ps_ost (pv 0) (pv 1))), ?_⟩
    exact ⟨v, rfl, _, rfl, a, T.TooMany.C, rfl, T.TooMany.o, T.TooMany.n, .inl ⟨ha, fun dx n ne => k dx n ne⟩⟩
theorem kw_TooMany (T : Txt K mg) : KwB T.TooMany.fd "self" "most" := T.TooMany.F.kwb fun _ _ _ _ _ _ _ _ => rfl
def cls (T : Txt K mg) : Nat → Addr
  | 0 => T.BadWord.C
  | 1 => T.BadRound.C
  | 2 => T.BadStrand.C
  | 3 => T.BadSum.C
  | 4 => T.BadImages.C
  | 5 => T.BadBridge.C
  | 6 => T.NotSimple.C
  | 7 => T.BadDeed.C
  | 8 => T.NotNow.C
  | 9 => T.BadName.C
  | 10 => T.BadNumber.C
  | 11 => T.BadSkin.C
  | 12 => T.BadRounds.C
  | 13 => T.BadDrawing.C
  | 14 => T.BadBundle.C
  | 15 => T.BadLive.C
  | 16 => T.BadFan.C
  | 17 => T.NoMark.C
  | 18 => T.BadText.C
  | 19 => T.TooMany.C
  | _ => 0
def ErrAt (T : Txt K mg) (H : Hp) (v : V) (i : Nat) : Prop := ∃ (a : Addr) (d : Option Addr), v = .ref a ∧ H a = some (exh (.ref (cls T i)) d a) ∧ XdOk H d
theorem ErrAt.same {T : Txt K mg} {H H' : Hp} {v : V} {i : Nat} (h : ErrAt T H v i) (s : Same H H') : ErrAt T H' v i := by
  obtain ⟨a, d, e, h1, h2⟩ := h
  refine ⟨a, d, e, s _ _ h1, ?_⟩
  rcases h2 with h2 | ⟨dd, fs, e2, h2⟩
  · exact .inl h2
  · exact .inr ⟨dd, fs, e2, s _ _ h2⟩
def ErrsAt (T : Txt K mg) (H : Hp) : Nat → List V → Prop
  | _, [] => True
  | i, v :: vs => ErrAt T H v i ∧ ErrsAt T H (i + 1) vs
theorem ErrsAt.same {T : Txt K mg} {H H' : Hp} (s : Same H H') : ∀ {vs : List V} {i : Nat}, ErrsAt T H i vs → ErrsAt T H' i vs
  | [], _, _ => trivial
  | _ :: _, _, h => ⟨h.1.same s, h.2.same s⟩
theorem ErrsAt.app {T : Txt K mg} {H : Hp} : ∀ {vs us : List V} {i : Nat}, ErrsAt T H i vs → ErrsAt T H (i + vs.length) us → ErrsAt T H i (vs ++ us)
  | [], _, _, _, h => h
  | v :: vs, us, i, h, g => ⟨h.1, ErrsAt.app h.2 (by
      have e : i + 1 + vs.length = i + (v :: vs).length := by rw [List.length_cons]; omega
      rw [e]
      exact g)⟩
theorem ErrsAt.get {T : Txt K mg} {H : Hp} : ∀ {vs : List V} {i j : Nat} {v : V}, ErrsAt T H i vs → vs[j]? = some v → ErrAt T H v (i + j)
  | [], _, _, _, _, e => by simp at e
  | v :: vs, i, 0, _, h, e => by
    cases e
    exact h.1
  | v :: vs, i, j + 1, _, h, e => by
    have e2 : i + (j + 1) = i + 1 + j := by omega
    rw [e2]
    exact h.2.get e
theorem _root_.L2.Same.none {H H' : Hp} {p : Addr} (s : Same H H') (h : H' p = none) : H p = none := by
  cases e : H p with
  | none => rfl
  | some o =>
    have z := s _ _ e
    rw [h] at z
    cases z
theorem nw {H : Hp} {p : Addr} {o : HO} (h : H p = none) : Same H (upd H p o) := fun b u e => by
  rw [upd_ne (ne_of_none e h)]
  exact e
def spplain (T : Txt K mg) : Sp := fun vs H Q _ => ∃ v : V, vs = [v] ∧ ∀ (l : Addr) (xs : List V) (H' : Hp), H l = none → Same H H' → H' l = some (.lst xs) → xs.length = 10 → ErrsAt T H' 0 xs → Q (.ref l) H'
theorem ok_l_plain (T : Txt K mg) : FnOk P w K mg base CX0 3 T.l_plain.a T.l_plain.fd ["text"] (spplain T) := by
  refine T.l_plain.F.ok sc_l_plain (fun vs H Q E h => ?_) (fun cdv A outer s H vs Q E hr h => ?_)
  · obtain ⟨v, rfl, _⟩ := h
    rfl
  · obtain ⟨v, rfl, k⟩ := h
    have nd := sc_l_plain.nd
    refine ⟨_, (pss_cons (ps_set (i := 1) nd rfl (Or.inl rfl) (pe_lst (pa_cons (pe_ex0 (pmk_ownA PySem.F.excBase_ValueError T.BadWord.q T.BadWord.g T.BadWord.k (raises_own T.BadWord.ec.hs T.BadWord.ty) rfl (pa_cons (pv 0) pa_nil))) (pa_cons (pe_ex0 (pmk_ownA PySem.F.excBase_ValueError T.BadRound.q T.BadRound.g T.BadRound.k (raises_own T.BadRound.ec.hs T.BadRound.ty) rfl (pa_cons (pv 0) pa_nil))) (pa_cons (pe_ex0 (pmk_ownA PySem.F.excBase_ValueError T.BadStrand.q T.BadStrand.g T.BadStrand.k (raises_own T.BadStrand.ec.hs T.BadStrand.ty) rfl (pa_cons (pv 0) pa_nil))) (pa_cons (pe_ex0 (pmk_ownA PySem.F.excBase_ValueError T.BadSum.q T.BadSum.g T.BadSum.k (raises_own T.BadSum.ec.hs T.BadSum.ty) rfl (pa_cons (pv 0) pa_nil))) (pa_cons (pe_ex0 (pmk_ownA PySem.F.excBase_ValueError T.BadImages.q T.BadImages.g T.BadImages.k (raises_own T.BadImages.ec.hs T.BadImages.ty) rfl (pa_cons (pv 0) pa_nil))) pa_nil)))))))
    (pss_one (ps_ret (pe_op op_cat (pv 1) (pe_lst (pa_cons (pe_ex0 (pmk_ownA PySem.F.excBase_ValueError T.BadBridge.q T.BadBridge.g T.BadBridge.k (raises_own T.BadBridge.ec.hs T.BadBridge.ty) rfl (pa_cons (pv 0) pa_nil))) (pa_cons (pe_ex0 (pmk_ownA PySem.F.excBase_ValueError T.NotSimple.q T.NotSimple.g T.NotSimple.k (raises_own T.NotSimple.ec.hs T.NotSimple.ty) rfl (pa_cons (pv 0) pa_nil))) (pa_cons (pe_ex0 (pmk_ownA PySem.F.excBase_ValueError T.BadDeed.q T.BadDeed.g T.BadDeed.k (raises_own T.BadDeed.ec.hs T.BadDeed.ty) rfl (pa_cons (pv 0) pa_nil))) (pa_cons (pe_ex0 (pmk_ownA PySem.F.excBase_ValueError T.NotNow.q T.NotNow.g T.NotNow.k (raises_own T.NotNow.ec.hs T.NotNow.ty) rfl (pa_cons (pv 0) pa_nil))) (pa_cons (pe_ex0 (pmk_ownA PySem.F.excBase_ValueError T.BadName.q T.BadName.g T.BadName.k (raises_own T.BadName.ec.hs T.BadName.ty) rfl (pa_cons (pv 0) pa_nil))) pa_nil)))))))))), ?_⟩
    refine ⟨_, rfl, fun a0 H0 s0 e0 => ⟨_, rfl, fun a1 H1 s1 e1 => ⟨_, rfl, fun a2 H2 s2 e2 => ⟨_, rfl, fun a3 H3 s3 e3 => ⟨_, rfl, fun a4 H4 s4 e4 => ⟨(by show 5 ≤ sizeLine; decide), fun p hp => ?_⟩⟩⟩⟩⟩⟩
    have f0 := (ErrAt.same (ErrAt.same (ErrAt.same (ErrAt.same (show ErrAt T H0 (.ref a0) 0 from ⟨a0, none, rfl, e0, .inl rfl⟩) s1) s2) s3) s4)
    have f1 := (ErrAt.same (ErrAt.same (ErrAt.same (show ErrAt T H1 (.ref a1) 1 from ⟨a1, none, rfl, e1, .inl rfl⟩) s2) s3) s4)
    have f2 := (ErrAt.same (ErrAt.same (show ErrAt T H2 (.ref a2) 2 from ⟨a2, none, rfl, e2, .inl rfl⟩) s3) s4)
    have f3 := (ErrAt.same (show ErrAt T H3 (.ref a3) 3 from ⟨a3, none, rfl, e3, .inl rfl⟩) s4)
    have f4 := (show ErrAt T H4 (.ref a4) 4 from ⟨a4, none, rfl, e4, .inl rfl⟩)
    have g0 : ErrsAt T H4 0 [.ref a0, .ref a1, .ref a2, .ref a3, .ref a4] := ⟨f0, f1, f2, f3, f4, trivial⟩
    have t0 : Same H H4 := fun b o e => s4 _ _ (s3 _ _ (s2 _ _ (s1 _ _ (s0 _ _ (e)))))
    have u0 : Same H4 (upd H4 p (.lst [.ref a0, .ref a1, .ref a2, .ref a3, .ref a4])) := nw hp
    have eq0 : (upd H4 p (.lst [.ref a0, .ref a1, .ref a2, .ref a3, .ref a4])) p = some (.lst [.ref a0, .ref a1, .ref a2, .ref a3, .ref a4]) := upd_same
    generalize upd H4 p (.lst [.ref a0, .ref a1, .ref a2, .ref a3, .ref a4]) = J0 at u0 eq0 ⊢
    refine ⟨_, rfl, ?_⟩
    refine ⟨_, rfl, fun a5 H5 s5 e5 => ⟨_, rfl, fun a6 H6 s6 e6 => ⟨_, rfl, fun a7 H7 s7 e7 => ⟨_, rfl, fun a8 H8 s8 e8 => ⟨_, rfl, fun a9 H9 s9 e9 => ⟨(by show 5 ≤ sizeLine; decide), fun q hq => ?_⟩⟩⟩⟩⟩⟩
    have f5 := (ErrAt.same (ErrAt.same (ErrAt.same (ErrAt.same (show ErrAt T H5 (.ref a5) 5 from ⟨a5, none, rfl, e5, .inl rfl⟩) s6) s7) s8) s9)
    have f6 := (ErrAt.same (ErrAt.same (ErrAt.same (show ErrAt T H6 (.ref a6) 6 from ⟨a6, none, rfl, e6, .inl rfl⟩) s7) s8) s9)
    have f7 := (ErrAt.same (ErrAt.same (show ErrAt T H7 (.ref a7) 7 from ⟨a7, none, rfl, e7, .inl rfl⟩) s8) s9)
    have f8 := (ErrAt.same (show ErrAt T H8 (.ref a8) 8 from ⟨a8, none, rfl, e8, .inl rfl⟩) s9)
    have f9 := (show ErrAt T H9 (.ref a9) 9 from ⟨a9, none, rfl, e9, .inl rfl⟩)
    have g5 : ErrsAt T H9 5 [.ref a5, .ref a6, .ref a7, .ref a8, .ref a9] := ⟨f5, f6, f7, f8, f9, trivial⟩
    have t5 : Same J0 H9 := fun b o e => s9 _ _ (s8 _ _ (s7 _ _ (s6 _ _ (s5 _ _ (e)))))
    have u5 : Same H9 (upd H9 q (.lst [.ref a5, .ref a6, .ref a7, .ref a8, .ref a9])) := nw hq
    have eq5 : (upd H9 q (.lst [.ref a5, .ref a6, .ref a7, .ref a8, .ref a9])) q = some (.lst [.ref a5, .ref a6, .ref a7, .ref a8, .ref a9]) := upd_same
    generalize upd H9 q (.lst [.ref a5, .ref a6, .ref a7, .ref a8, .ref a9]) = J5 at u5 eq5 ⊢
    refine ⟨p, q, _, _, rfl, rfl, u5 _ _ (t5 _ _ eq0), eq5, (by show 5 + 5 ≤ sizeLine; decide), fun r hr' => ?_⟩
    have w1 := nw (o := .lst ([.ref a0, .ref a1, .ref a2, .ref a3, .ref a4] ++ [.ref a5, .ref a6, .ref a7, .ref a8, .ref a9])) hr'
    have sm : Same H J5 := fun b o e => u5 _ _ (t5 _ _ (u0 _ _ (t0 _ _ e)))
    refine k r _ _ (sm.none hr') (fun b o e => w1 _ _ (sm _ _ e)) upd_same rfl ?_
    exact ErrsAt.app ((((g0.same u0).same t5).same u5).same w1) ((g5.same u5).same w1)
def spmade (T : Txt K mg) : Sp := fun vs H Q _ => ∃ v : V, vs = [v] ∧ ∀ (l : Addr) (xs : List V) (H' : Hp), H l = none → Same H H' → H' l = some (.lst xs) → xs.length = 10 → ErrsAt T H' 10 xs → Q (.ref l) H'
theorem ok_l_made (T : Txt K mg) : FnOk P w K mg base CX0 3 T.l_made.a T.l_made.fd ["thing"] (spmade T) := by
  refine T.l_made.F.ok sc_l_made (fun vs H Q E h => ?_) (fun cdv A outer s H vs Q E hr h => ?_)
  · obtain ⟨v, rfl, _⟩ := h
    rfl
  · obtain ⟨v, rfl, k⟩ := h
    have nd := sc_l_made.nd
    refine ⟨_, (pss_cons (ps_set (i := 1) nd rfl (Or.inl rfl) (pe_lst (pa_cons (pe_ex1 (pmk_oex T.BadNumber.o T.BadNumber.i T.BadNumber.t (ok_BadNumber_init T) (hr.mono (by decide)) T.BadNumber.b .nil pass0 (by rfl) T.BadNumber.g (pa_cons (pv 0) pa_nil))) (pa_cons (pe_ex1 (pmk_oex T.BadSkin.o T.BadSkin.i T.BadSkin.t (ok_BadSkin_init T) (hr.mono (by decide)) T.BadSkin.b .nil pass0 (by rfl) T.BadSkin.g (pa_cons (pv 0) pa_nil))) (pa_cons (pe_ex1 (pmk_oex T.BadRounds.o T.BadRounds.i T.BadRounds.t (ok_BadRounds_init T) (hr.mono (by decide)) T.BadRounds.b .nil pass0 (by rfl) T.BadRounds.g (pa_cons (pv 0) pa_nil))) (pa_cons (pe_ex1 (pmk_oex T.BadDrawing.o T.BadDrawing.i T.BadDrawing.t (ok_BadDrawing_init T) (hr.mono (by decide)) T.BadDrawing.b .nil pass0 (by rfl) T.BadDrawing.g (pa_cons (pv 0) pa_nil))) (pa_cons (pe_ex1 (pmk_oex T.BadBundle.o T.BadBundle.i T.BadBundle.t (ok_BadBundle_init T) (hr.mono (by decide)) T.BadBundle.b .nil pass0 (by rfl) T.BadBundle.g (pa_cons (pv 0) pa_nil))) pa_nil)))))))
    (pss_one (ps_ret (pe_op op_cat (pv 1) (pe_lst (pa_cons (pe_ex1 (pmk_oex T.BadLive.o T.BadLive.i T.BadLive.t (ok_BadLive_init T) (hr.mono (by decide)) T.BadLive.b .nil pass0 (by rfl) T.BadLive.g (pa_cons (pv 0) pa_nil))) (pa_cons (pe_ex1 (pmk_oex T.BadFan.o T.BadFan.i T.BadFan.t (ok_BadFan_init T) (hr.mono (by decide)) T.BadFan.b .nil pass0 (by rfl) T.BadFan.g (pa_cons (pv 0) pa_nil))) (pa_cons (pe_ex1 (pmk_oex T.NoMark.o T.NoMark.i T.NoMark.t (ok_NoMark_init T) (hr.mono (by decide)) T.NoMark.b .nil pass0 (by rfl) T.NoMark.g (pa_cons (pv 0) pa_nil))) (pa_cons (pe_ex1 (pmk_oex T.BadText.o T.BadText.i T.BadText.t (ok_BadText_init T) (hr.mono (by decide)) T.BadText.b .nil pass0 (by rfl) T.BadText.g (pa_cons (pv 0) pa_nil))) (pa_cons (pe_ex1 (pmk_oex T.TooMany.o T.TooMany.i T.TooMany.t (ok_TooMany_init T) (hr.mono (by decide)) T.TooMany.b .nil pass0 (by rfl) T.TooMany.g (pa_cons (pv 0) pa_nil))) pa_nil)))))))))), ?_⟩
    refine ⟨_, rfl, fun a0 d0 H0 s0 e0 x0 => ⟨_, rfl, fun a1 d1 H1 s1 e1 x1 => ⟨_, rfl, fun a2 d2 H2 s2 e2 x2 => ⟨_, rfl, fun a3 d3 H3 s3 e3 x3 => ⟨_, rfl, fun a4 d4 H4 s4 e4 x4 => ⟨(by show 5 ≤ sizeLine; decide), fun p hp => ?_⟩⟩⟩⟩⟩⟩
    have f0 := (ErrAt.same (ErrAt.same (ErrAt.same (ErrAt.same (show ErrAt T H0 (.ref a0) 10 from ⟨a0, some d0, rfl, e0, .inr ⟨d0, _, rfl, x0⟩⟩) s1) s2) s3) s4)
    have f1 := (ErrAt.same (ErrAt.same (ErrAt.same (show ErrAt T H1 (.ref a1) 11 from ⟨a1, some d1, rfl, e1, .inr ⟨d1, _, rfl, x1⟩⟩) s2) s3) s4)
    have f2 := (ErrAt.same (ErrAt.same (show ErrAt T H2 (.ref a2) 12 from ⟨a2, some d2, rfl, e2, .inr ⟨d2, _, rfl, x2⟩⟩) s3) s4)
    have f3 := (ErrAt.same (show ErrAt T H3 (.ref a3) 13 from ⟨a3, some d3, rfl, e3, .inr ⟨d3, _, rfl, x3⟩⟩) s4)
    have f4 := (show ErrAt T H4 (.ref a4) 14 from ⟨a4, some d4, rfl, e4, .inr ⟨d4, _, rfl, x4⟩⟩)
    have g0 : ErrsAt T H4 10 [.ref a0, .ref a1, .ref a2, .ref a3, .ref a4] := ⟨f0, f1, f2, f3, f4, trivial⟩
    have t0 : Same H H4 := fun b o e => s4 _ _ (s3 _ _ (s2 _ _ (s1 _ _ (s0 _ _ (e)))))
    have u0 : Same H4 (upd H4 p (.lst [.ref a0, .ref a1, .ref a2, .ref a3, .ref a4])) := nw hp
    have eq0 : (upd H4 p (.lst [.ref a0, .ref a1, .ref a2, .ref a3, .ref a4])) p = some (.lst [.ref a0, .ref a1, .ref a2, .ref a3, .ref a4]) := upd_same
    generalize upd H4 p (.lst [.ref a0, .ref a1, .ref a2, .ref a3, .ref a4]) = J0 at u0 eq0 ⊢
    refine ⟨_, rfl, ?_⟩
    refine ⟨_, rfl, fun a5 d5 H5 s5 e5 x5 => ⟨_, rfl, fun a6 d6 H6 s6 e6 x6 => ⟨_, rfl, fun a7 d7 H7 s7 e7 x7 => ⟨_, rfl, fun a8 d8 H8 s8 e8 x8 => ⟨_, rfl, fun a9 d9 H9 s9 e9 x9 => ⟨(by show 5 ≤ sizeLine; decide), fun q hq => ?_⟩⟩⟩⟩⟩⟩
    have f5 := (ErrAt.same (ErrAt.same (ErrAt.same (ErrAt.same (show ErrAt T H5 (.ref a5) 15 from ⟨a5, some d5, rfl, e5, .inr ⟨d5, _, rfl, x5⟩⟩) s6) s7) s8) s9)
    have f6 := (ErrAt.same (ErrAt.same (ErrAt.same (show ErrAt T H6 (.ref a6) 16 from ⟨a6, some d6, rfl, e6, .inr ⟨d6, _, rfl, x6⟩⟩) s7) s8) s9)
    have f7 := (ErrAt.same (ErrAt.same (show ErrAt T H7 (.ref a7) 17 from ⟨a7, some d7, rfl, e7, .inr ⟨d7, _, rfl, x7⟩⟩) s8) s9)
    have f8 := (ErrAt.same (show ErrAt T H8 (.ref a8) 18 from ⟨a8, some d8, rfl, e8, .inr ⟨d8, _, rfl, x8⟩⟩) s9)
    have f9 := (show ErrAt T H9 (.ref a9) 19 from ⟨a9, some d9, rfl, e9, .inr ⟨d9, _, rfl, x9⟩⟩)
    have g5 : ErrsAt T H9 15 [.ref a5, .ref a6, .ref a7, .ref a8, .ref a9] := ⟨f5, f6, f7, f8, f9, trivial⟩
    have t5 : Same J0 H9 := fun b o e => s9 _ _ (s8 _ _ (s7 _ _ (s6 _ _ (s5 _ _ (e)))))
    have u5 : Same H9 (upd H9 q (.lst [.ref a5, .ref a6, .ref a7, .ref a8, .ref a9])) := nw hq
    have eq5 : (upd H9 q (.lst [.ref a5, .ref a6, .ref a7, .ref a8, .ref a9])) q = some (.lst [.ref a5, .ref a6, .ref a7, .ref a8, .ref a9]) := upd_same
    generalize upd H9 q (.lst [.ref a5, .ref a6, .ref a7, .ref a8, .ref a9]) = J5 at u5 eq5 ⊢
    refine ⟨p, q, _, _, rfl, rfl, u5 _ _ (t5 _ _ eq0), eq5, (by show 5 + 5 ≤ sizeLine; decide), fun r hr' => ?_⟩
    have w1 := nw (o := .lst ([.ref a0, .ref a1, .ref a2, .ref a3, .ref a4] ++ [.ref a5, .ref a6, .ref a7, .ref a8, .ref a9])) hr'
    have sm : Same H J5 := fun b o e => u5 _ _ (t5 _ _ (u0 _ _ (t0 _ _ e)))
    refine k r _ _ (sm.none hr') (fun b o e => w1 _ _ (sm _ _ e)) upd_same rfl ?_
    exact ErrsAt.app ((((g0.same u0).same t5).same u5).same w1) ((g5.same u5).same w1)
end
end Tt
set_option maxRecDepth 100000
set_option maxHeartbeats 4000000
namespace Tt
open PySem L2
section
variable {P : Program} {w : World} {K : PySem.W.Frag} {mg : Str → Option Value} {base : Heap}
def spKept : Sp := fun vs H Q _ => ∃ v : V, vs = [v] ∧ ∀ (l : Addr) (H' : Hp), Same H H' → l ≠ sysModules → H' l = some (.lst (List.replicate 20 v)) → Q (.ref l) H'
theorem ok_l_kept (T : Txt K mg) : FnOk P w K mg base CX0 3 T.l_kept.a T.l_kept.fd ["thing"] spKept := by
  refine T.l_kept.F.ok sc_l_kept (fun vs H Q E h => ?_) (fun cdv A outer s H vs Q E hr h => ?_)
  · obtain ⟨v, rfl, _⟩ := h
    rfl
  · obtain ⟨v, rfl, k⟩ := h
    have nd := sc_l_kept.nd
    refine ⟨_, (pss_cons (ps_set (i := 1) nd rfl (Or.inl rfl) (pe_lst (pa_cons (pe_xfH (pe_ex1 (pmk_oex T.BadNumber.o T.BadNumber.i T.BadNumber.t (ok_BadNumber_init T) (hr.mono (by decide)) T.BadNumber.b .nil pass0 (by rfl) T.BadNumber.g (pa_cons (pv 0) pa_nil)))) (pa_cons (pe_xfH (pe_ex1K (pmk_oexK T.BadNumber.o T.BadNumber.i T.BadNumber.t (ok_BadNumber_init T) (hr.mono (by decide)) (kw_BadNumber T) pass0 (by rfl) T.BadNumber.g (pv 0)))) (pa_cons (pe_xfH (pe_ex1 (pmk_oex T.BadSkin.o T.BadSkin.i T.BadSkin.t (ok_BadSkin_init T) (hr.mono (by decide)) T.BadSkin.b .nil pass0 (by rfl) T.BadSkin.g (pa_cons (pv 0) pa_nil)))) (pa_cons (pe_xfH (pe_ex1K (pmk_oexK T.BadSkin.o T.BadSkin.i T.BadSkin.t (ok_BadSkin_init T) (hr.mono (by decide)) (kw_BadSkin T) pass0 (by rfl) T.BadSkin.g (pv 0)))) (pa_cons (pe_xfH (pe_ex1 (pmk_oex T.BadRounds.o T.BadRounds.i T.BadRounds.t (ok_BadRounds_init T) (hr.mono (by decide)) T.BadRounds.b .nil pass0 (by rfl) T.BadRounds.g (pa_cons (pv 0) pa_nil)))) (pa_cons (pe_xfH (pe_ex1K (pmk_oexK T.BadRounds.o T.BadRounds.i T.BadRounds.t (ok_BadRounds_init T) (hr.mono (by decide)) (kw_BadRounds T) pass0 (by rfl) T.BadRounds.g (pv 0)))) pa_nil))))))))
    (pss_cons (ps_set (i := 1) nd rfl (Or.inl rfl) (pe_op op_catP (pv 1) (pe_lst (pa_cons (pe_xfH (pe_ex1 (pmk_oex T.BadDrawing.o T.BadDrawing.i T.BadDrawing.t (ok_BadDrawing_init T) (hr.mono (by decide)) T.BadDrawing.b .nil pass0 (by rfl) T.BadDrawing.g (pa_cons (pv 0) pa_nil)))) (pa_cons (pe_xfH (pe_ex1K (pmk_oexK T.BadDrawing.o T.BadDrawing.i T.BadDrawing.t (ok_BadDrawing_init T) (hr.mono (by decide)) (kw_BadDrawing T) pass0 (by rfl) T.BadDrawing.g (pv 0)))) (pa_cons (pe_xfH (pe_ex1 (pmk_oex T.BadBundle.o T.BadBundle.i T.BadBundle.t (ok_BadBundle_init T) (hr.mono (by decide)) T.BadBundle.b .nil pass0 (by rfl) T.BadBundle.g (pa_cons (pv 0) pa_nil)))) (pa_cons (pe_xfH (pe_ex1K (pmk_oexK T.BadBundle.o T.BadBundle.i T.BadBundle.t (ok_BadBundle_init T) (hr.mono (by decide)) (kw_BadBundle T) pass0 (by rfl) T.BadBundle.g (pv 0)))) (pa_cons (pe_xfH (pe_ex1 (pmk_oex T.BadLive.o T.BadLive.i T.BadLive.t (ok_BadLive_init T) (hr.mono (by decide)) T.BadLive.b .nil pass0 (by rfl) T.BadLive.g (pa_cons (pv 0) pa_nil)))) (pa_cons (pe_xfH (pe_ex1K (pmk_oexK T.BadLive.o T.BadLive.i T.BadLive.t (ok_BadLive_init T) (hr.mono (by decide)) (kw_BadLive T) pass0 (by rfl) T.BadLive.g (pv 0)))) pa_nil)))))))))
    (pss_cons (ps_set (i := 1) nd rfl (Or.inl rfl) (pe_op op_catP (pv 1) (pe_lst (pa_cons (pe_xfH (pe_ex1 (pmk_oex T.BadFan.o T.BadFan.i T.BadFan.t (ok_BadFan_init T) (hr.mono (by decide)) T.BadFan.b .nil pass0 (by rfl) T.BadFan.g (pa_cons (pv 0) pa_nil)))) (pa_cons (pe_xfH (pe_ex1K (pmk_oexK T.BadFan.o T.BadFan.i T.BadFan.t (ok_BadFan_init T) (hr.mono (by decide)) (kw_BadFan T) pass0 (by rfl) T.BadFan.g (pv 0)))) (pa_cons (pe_xfH (pe_ex1 (pmk_oex T.NoMark.o T.NoMark.i T.NoMark.t (ok_NoMark_init T) (hr.mono (by decide)) T.NoMark.b .nil pass0 (by rfl) T.NoMark.g (pa_cons (pv 0) pa_nil)))) (pa_cons (pe_xfH (pe_ex1K (pmk_oexK T.NoMark.o T.NoMark.i T.NoMark.t (ok_NoMark_init T) (hr.mono (by decide)) (kw_NoMark T) pass0 (by rfl) T.NoMark.g (pv 0)))) pa_nil)))))))
    (pss_one (ps_ret (pe_op op_catP (pv 1) (pe_lst (pa_cons (pe_xfH (pe_ex1 (pmk_oex T.BadText.o T.BadText.i T.BadText.t (ok_BadText_init T) (hr.mono (by decide)) T.BadText.b .nil pass0 (by rfl) T.BadText.g (pa_cons (pv 0) pa_nil)))) (pa_cons (pe_xfH (pe_ex1K (pmk_oexK T.BadText.o T.BadText.i T.BadText.t (ok_BadText_init T) (hr.mono (by decide)) (kw_BadText T) pass0 (by rfl) T.BadText.g (pv 0)))) (pa_cons (pe_xfH (pe_ex1 (pmk_oex T.TooMany.o T.TooMany.i T.TooMany.t (ok_TooMany_init T) (hr.mono (by decide)) T.TooMany.b .nil pass0 (by rfl) T.TooMany.g (pa_cons (pv 0) pa_nil)))) (pa_cons (pe_xfH (pe_ex1K (pmk_oexK T.TooMany.o T.TooMany.i T.TooMany.t (ok_TooMany_init T) (hr.mono (by decide)) (kw_TooMany T) pass0 (by rfl) T.TooMany.g (pv 0)))) pa_nil))))))))))), ?_⟩
    refine ⟨_, rfl, fun a0 d0 H0 s0 e0 x0 => ⟨a0, _, d0, _, _, rfl, e0, x0, T.BadNumber.xf, T.BadNumber.n, rfl, ⟨_, rfl, fun a1 d1 H1 s1 e1 x1 => ⟨a1, _, d1, _, _, rfl, e1, x1, T.BadNumber.xf, T.BadNumber.n, rfl, ⟨_, rfl, fun a2 d2 H2 s2 e2 x2 => ⟨a2, _, d2, _, _, rfl, e2, x2, T.BadSkin.xf, T.BadSkin.n, rfl, ⟨_, rfl, fun a3 d3 H3 s3 e3 x3 => ⟨a3, _, d3, _, _, rfl, e3, x3, T.BadSkin.xf, T.BadSkin.n, rfl, ⟨_, rfl, fun a4 d4 H4 s4 e4 x4 => ⟨a4, _, d4, _, _, rfl, e4, x4, T.BadRounds.xf, T.BadRounds.n, rfl, ⟨_, rfl, fun a5 d5 H5 s5 e5 x5 => ⟨a5, _, d5, _, _, rfl, e5, x5, T.BadRounds.xf, T.BadRounds.n, rfl, ⟨(by show 6 ≤ sizeLine; decide), fun p hp => ?_⟩⟩⟩⟩⟩⟩⟩⟩⟩⟩⟩⟩⟩
    have t0 : Same H H5 := fun b o e => s5 _ _ (s4 _ _ (s3 _ _ (s2 _ _ (s1 _ _ (s0 _ _ (e))))))
    have u0 : Same H (upd H5 p (.lst [v, v, v, v, v, v])) := fun b o e => nw hp _ _ (t0 _ _ e)
    have eqp : (upd H5 p (.lst [v, v, v, v, v, v])) p = some (.lst [v, v, v, v, v, v]) := upd_same
    generalize upd H5 p (.lst [v, v, v, v, v, v]) = Jp at u0 eqp ⊢
    clear s0 e0 x0 s1 e1 x1 s2 e2 x2 s3 e3 x3 s4 e4 x4 s5 e5 x5 t0
    refine ⟨_, rfl, ?_⟩
    refine ⟨_, rfl, fun a6 d6 H6 s6 e6 x6 => ⟨a6, _, d6, _, _, rfl, e6, x6, T.BadDrawing.xf, T.BadDrawing.n, rfl, ⟨_, rfl, fun a7 d7 H7 s7 e7 x7 => ⟨a7, _, d7, _, _, rfl, e7, x7, T.BadDrawing.xf, T.BadDrawing.n, rfl, ⟨_, rfl, fun a8 d8 H8 s8 e8 x8 => ⟨a8, _, d8, _, _, rfl, e8, x8, T.BadBundle.xf, T.BadBundle.n, rfl, ⟨_, rfl, fun a9 d9 H9 s9 e9 x9 => ⟨a9, _, d9, _, _, rfl, e9, x9, T.BadBundle.xf, T.BadBundle.n, rfl, ⟨_, rfl, fun a10 d10 H10 s10 e10 x10 => ⟨a10, _, d10, _, _, rfl, e10, x10, T.BadLive.xf, T.BadLive.n, rfl, ⟨_, rfl, fun a11 d11 H11 s11 e11 x11 => ⟨a11, _, d11, _, _, rfl, e11, x11, T.BadLive.xf, T.BadLive.n, rfl, ⟨(by show 6 ≤ sizeLine; decide), fun q hq => ?_⟩⟩⟩⟩⟩⟩⟩⟩⟩⟩⟩⟩⟩
    have t6 : Same Jp H11 := fun b o e => s11 _ _ (s10 _ _ (s9 _ _ (s8 _ _ (s7 _ _ (s6 _ _ (e))))))
    have u6 : Same Jp (upd H11 q (.lst [v, v, v, v, v, v])) := fun b o e => nw hq _ _ (t6 _ _ e)
    have eqq : (upd H11 q (.lst [v, v, v, v, v, v])) q = some (.lst [v, v, v, v, v, v]) := upd_same
    generalize upd H11 q (.lst [v, v, v, v, v, v]) = Jq at u6 eqq ⊢
    clear s6 e6 x6 s7 e7 x7 s8 e8 x8 s9 e9 x9 s10 e10 x10 s11 e11 x11 t6
    refine ⟨p, q, _, _, rfl, rfl, u6 _ _ eqp, eqq, (by show 6 + 6 ≤ sizeLine; decide), fun z0 hz0 nz0 => ?_⟩
    have w0 : Same Jq (upd Jq z0 (.lst [v, v, v, v, v, v, v, v, v, v, v, v])) := nw hz0
    have eqz0 : (upd Jq z0 (.lst [v, v, v, v, v, v, v, v, v, v, v, v])) z0 = some (.lst [v, v, v, v, v, v, v, v, v, v, v, v]) := upd_same
    refine ⟨_, rfl, ?_⟩
    show _
    have ek : upd Jq z0 (.lst ([v, v, v, v, v, v] ++ [v, v, v, v, v, v])) = upd Jq z0 (.lst [v, v, v, v, v, v, v, v, v, v, v, v]) := rfl
    rw [ek]
    clear ek
    generalize upd Jq z0 (.lst [v, v, v, v, v, v, v, v, v, v, v, v]) = Jz0 at w0 eqz0 ⊢
    refine ⟨_, rfl, fun a12 d12 H12 s12 e12 x12 => ⟨a12, _, d12, _, _, rfl, e12, x12, T.BadFan.xf, T.BadFan.n, rfl, ⟨_, rfl, fun a13 d13 H13 s13 e13 x13 => ⟨a13, _, d13, _, _, rfl, e13, x13, T.BadFan.xf, T.BadFan.n, rfl, ⟨_, rfl, fun a14 d14 H14 s14 e14 x14 => ⟨a14, _, d14, _, _, rfl, e14, x14, T.NoMark.xf, T.NoMark.n, rfl, ⟨_, rfl, fun a15 d15 H15 s15 e15 x15 => ⟨a15, _, d15, _, _, rfl, e15, x15, T.NoMark.xf, T.NoMark.n, rfl, ⟨(by show 4 ≤ sizeLine; decide), fun r hr => ?_⟩⟩⟩⟩⟩⟩⟩⟩⟩
    have t12 : Same Jz0 H15 := fun b o e => s15 _ _ (s14 _ _ (s13 _ _ (s12 _ _ (e))))
    have u12 : Same Jz0 (upd H15 r (.lst [v, v, v, v])) := fun b o e => nw hr _ _ (t12 _ _ e)
    have eqr : (upd H15 r (.lst [v, v, v, v])) r = some (.lst [v, v, v, v]) := upd_same
    generalize upd H15 r (.lst [v, v, v, v]) = Jr at u12 eqr ⊢
    clear s12 e12 x12 s13 e13 x13 s14 e14 x14 s15 e15 x15 t12
    refine ⟨z0, r, _, _, rfl, rfl, u12 _ _ eqz0, eqr, (by show 12 + 4 ≤ sizeLine; decide), fun z1 hz1 nz1 => ?_⟩
    have w1 : Same Jr (upd Jr z1 (.lst [v, v, v, v, v, v, v, v, v, v, v, v, v, v, v, v])) := nw hz1
    have eqz1 : (upd Jr z1 (.lst [v, v, v, v, v, v, v, v, v, v, v, v, v, v, v, v])) z1 = some (.lst [v, v, v, v, v, v, v, v, v, v, v, v, v, v, v, v]) := upd_same
    refine ⟨_, rfl, ?_⟩
    show _
    have ek : upd Jr z1 (.lst ([v, v, v, v, v, v, v, v, v, v, v, v] ++ [v, v, v, v])) = upd Jr z1 (.lst [v, v, v, v, v, v, v, v, v, v, v, v, v, v, v, v]) := rfl
    rw [ek]
    clear ek
    generalize upd Jr z1 (.lst [v, v, v, v, v, v, v, v, v, v, v, v, v, v, v, v]) = Jz1 at w1 eqz1 ⊢
    refine ⟨_, rfl, fun a16 d16 H16 s16 e16 x16 => ⟨a16, _, d16, _, _, rfl, e16, x16, T.BadText.xf, T.BadText.n, rfl, ⟨_, rfl, fun a17 d17 H17 s17 e17 x17 => ⟨a17, _, d17, _, _, rfl, e17, x17, T.BadText.xf, T.BadText.n, rfl, ⟨_, rfl, fun a18 d18 H18 s18 e18 x18 => ⟨a18, _, d18, _, _, rfl, e18, x18, T.TooMany.xf, T.TooMany.n, rfl, ⟨_, rfl, fun a19 d19 H19 s19 e19 x19 => ⟨a19, _, d19, _, _, rfl, e19, x19, T.TooMany.xf, T.TooMany.n, rfl, ⟨(by show 4 ≤ sizeLine; decide), fun t ht => ?_⟩⟩⟩⟩⟩⟩⟩⟩⟩
    have t16 : Same Jz1 H19 := fun b o e => s19 _ _ (s18 _ _ (s17 _ _ (s16 _ _ (e))))
    have u16 : Same Jz1 (upd H19 t (.lst [v, v, v, v])) := fun b o e => nw ht _ _ (t16 _ _ e)
    have eqt : (upd H19 t (.lst [v, v, v, v])) t = some (.lst [v, v, v, v]) := upd_same
    generalize upd H19 t (.lst [v, v, v, v]) = Jt at u16 eqt ⊢
    clear s16 e16 x16 s17 e17 x17 s18 e18 x18 s19 e19 x19 t16
    refine ⟨z1, t, _, _, rfl, rfl, u16 _ _ eqz1, eqt, (by show 16 + 4 ≤ sizeLine; decide), fun z2 hz2 nz2 => ?_⟩
    refine k z2 _ (fun b o e => nw hz2 _ _ (u16 _ _ (w1 _ _ (u12 _ _ (w0 _ _ (u6 _ _ (u0 _ _ (e)))))))) nz2 upd_same
end
end Tt
set_option maxRecDepth 100000
set_option maxHeartbeats 4000000
namespace Tt
open PySem L2
section
variable {P : Program} {w : World} {K : PySem.W.Frag} {mg : Str → Option Value} {base : Heap}
theorem kk0 (T : Txt K mg) (j : Nat) (h : j < 20) : PySem.W.kitOne K (.ref (cls T j)) (.ref (cls T 0)) = some (decide (0 = j)) := by
  match j, h with
  | 0, _ => exact T.kA0_0
  | 1, _ => exact T.kA1_0
  | 2, _ => exact T.kA2_0
  | 3, _ => exact T.kA3_0
  | 4, _ => exact T.kA4_0
  | 5, _ => exact T.kA5_0
  | 6, _ => exact T.kA6_0
  | 7, _ => exact T.kA7_0
  | 8, _ => exact T.kA8_0
  | 9, _ => exact T.kA9_0
  | 10, _ => exact T.kA10_0
  | 11, _ => exact T.kA11_0
  | 12, _ => exact T.kA12_0
  | 13, _ => exact T.kA13_0
  | 14, _ => exact T.kA14_0
  | 15, _ => exact T.kA15_0
  | 16, _ => exact T.kA16_0
  | 17, _ => exact T.kA17_0
  | 18, _ => exact T.kA18_0
  | 19, _ => exact T.kA19_0
  | j + 20, h => exact absurd h (by omega)
theorem kk1 (T : Txt K mg) (j : Nat) (h : j < 20) : PySem.W.kitOne K (.ref (cls T j)) (.ref (cls T 1)) = some (decide (1 = j)) := by
  match j, h with
  | 0, _ => exact T.kA0_1
  | 1, _ => exact T.kA1_1
  | 2, _ => exact T.kA2_1
  | 3, _ => exact T.kA3_1
  | 4, _ => exact T.kA4_1
  | 5, _ => exact T.kA5_1
  | 6, _ => exact T.kA6_1
  | 7, _ => exact T.kA7_1
  | 8, _ => exact T.kA8_1
  | 9, _ => exact T.kA9_1
  | 10, _ => exact T.kA10_1
  | 11, _ => exact T.kA11_1
  | 12, _ => exact T.kA12_1
  | 13, _ => exact T.kA13_1
  | 14, _ => exact T.kA14_1
  | 15, _ => exact T.kA15_1
  | 16, _ => exact T.kA16_1
  | 17, _ => exact T.kA17_1
  | 18, _ => exact T.kA18_1
  | 19, _ => exact T.kA19_1
  | j + 20, h => exact absurd h (by omega)
theorem kk2 (T : Txt K mg) (j : Nat) (h : j < 20) : PySem.W.kitOne K (.ref (cls T j)) (.ref (cls T 2)) = some (decide (2 = j)) := by
  match j, h with
  | 0, _ => exact T.kA0_2
  | 1, _ => exact T.kA1_2
  | 2, _ => exact T.kA2_2
  | 3, _ => exact T.kA3_2
  | 4, _ => exact T.kA4_2
  | 5, _ => exact T.kA5_2
  | 6, _ => exact T.kA6_2
  | 7, _ => exact T.kA7_2
  | 8, _ => exact T.kA8_2
  | 9, _ => exact T.kA9_2
  | 10, _ => exact T.kA10_2
  | 11, _ => exact T.kA11_2
  | 12, _ => exact T.kA12_2
  | 13, _ => exact T.kA13_2
  | 14, _ => exact T.kA14_2
  | 15, _ => exact T.kA15_2
  | 16, _ => exact T.kA16_2
  | 17, _ => exact T.kA17_2
  | 18, _ => exact T.kA18_2
  | 19, _ => exact T.kA19_2
  | j + 20, h => exact absurd h (by omega)
theorem kk3 (T : Txt K mg) (j : Nat) (h : j < 20) : PySem.W.kitOne K (.ref (cls T j)) (.ref (cls T 3)) = some (decide (3 = j)) := by
  match j, h with
  | 0, _ => exact T.kA0_3
  | 1, _ => exact T.kA1_3
  | 2, _ => exact T.kA2_3
  | 3, _ => exact T.kA3_3
  | 4, _ => exact T.kA4_3
  | 5, _ => exact T.kA5_3
  | 6, _ => exact T.kA6_3
  | 7, _ => exact T.kA7_3
  | 8, _ => exact T.kA8_3
  | 9, _ => exact T.kA9_3
  | 10, _ => exact T.kA10_3
  | 11, _ => exact T.kA11_3
  | 12, _ => exact T.kA12_3
  | 13, _ => exact T.kA13_3
  | 14, _ => exact T.kA14_3
  | 15, _ => exact T.kA15_3
  | 16, _ => exact T.kA16_3
  | 17, _ => exact T.kA17_3
  | 18, _ => exact T.kA18_3
  | 19, _ => exact T.kA19_3
  | j + 20, h => exact absurd h (by omega)
theorem kk4 (T : Txt K mg) (j : Nat) (h : j < 20) : PySem.W.kitOne K (.ref (cls T j)) (.ref (cls T 4)) = some (decide (4 = j)) := by
  match j, h with
  | 0, _ => exact T.kA0_4
  | 1, _ => exact T.kA1_4
  | 2, _ => exact T.kA2_4
  | 3, _ => exact T.kA3_4
  | 4, _ => exact T.kA4_4
  | 5, _ => exact T.kA5_4
  | 6, _ => exact T.kA6_4
  | 7, _ => exact T.kA7_4
  | 8, _ => exact T.kA8_4
  | 9, _ => exact T.kA9_4
  | 10, _ => exact T.kA10_4
  | 11, _ => exact T.kA11_4
  | 12, _ => exact T.kA12_4
  | 13, _ => exact T.kA13_4
  | 14, _ => exact T.kA14_4
  | 15, _ => exact T.kA15_4
  | 16, _ => exact T.kA16_4
  | 17, _ => exact T.kA17_4
  | 18, _ => exact T.kA18_4
  | 19, _ => exact T.kA19_4
  | j + 20, h => exact absurd h (by omega)
theorem kk5 (T : Txt K mg) (j : Nat) (h : j < 20) : PySem.W.kitOne K (.ref (cls T j)) (.ref (cls T 5)) = some (decide (5 = j)) := by
  match j, h with
  | 0, _ => exact T.kA0_5
  | 1, _ => exact T.kA1_5
  | 2, _ => exact T.kA2_5
  | 3, _ => exact T.kA3_5
  | 4, _ => exact T.kA4_5
  | 5, _ => exact T.kA5_5
  | 6, _ => exact T.kA6_5
  | 7, _ => exact T.kA7_5
  | 8, _ => exact T.kA8_5
  | 9, _ => exact T.kA9_5
  | 10, _ => exact T.kA10_5
  | 11, _ => exact T.kA11_5
  | 12, _ => exact T.kA12_5
  | 13, _ => exact T.kA13_5
  | 14, _ => exact T.kA14_5
  | 15, _ => exact T.kA15_5
  | 16, _ => exact T.kA16_5
  | 17, _ => exact T.kA17_5
  | 18, _ => exact T.kA18_5
  | 19, _ => exact T.kA19_5
  | j + 20, h => exact absurd h (by omega)
theorem kk6 (T : Txt K mg) (j : Nat) (h : j < 20) : PySem.W.kitOne K (.ref (cls T j)) (.ref (cls T 6)) = some (decide (6 = j)) := by
  match j, h with
  | 0, _ => exact T.kA0_6
  | 1, _ => exact T.kA1_6
  | 2, _ => exact T.kA2_6
  | 3, _ => exact T.kA3_6
  | 4, _ => exact T.kA4_6
  | 5, _ => exact T.kA5_6
  | 6, _ => exact T.kA6_6
  | 7, _ => exact T.kA7_6
  | 8, _ => exact T.kA8_6
  | 9, _ => exact T.kA9_6
  | 10, _ => exact T.kA10_6
  | 11, _ => exact T.kA11_6
  | 12, _ => exact T.kA12_6
  | 13, _ => exact T.kA13_6
  | 14, _ => exact T.kA14_6
  | 15, _ => exact T.kA15_6
  | 16, _ => exact T.kA16_6
  | 17, _ => exact T.kA17_6
  | 18, _ => exact T.kA18_6
  | 19, _ => exact T.kA19_6
  | j + 20, h => exact absurd h (by omega)
theorem kk7 (T : Txt K mg) (j : Nat) (h : j < 20) : PySem.W.kitOne K (.ref (cls T j)) (.ref (cls T 7)) = some (decide (7 = j)) := by
  match j, h with
  | 0, _ => exact T.kA0_7
  | 1, _ => exact T.kA1_7
  | 2, _ => exact T.kA2_7
  | 3, _ => exact T.kA3_7
  | 4, _ => exact T.kA4_7
  | 5, _ => exact T.kA5_7
  | 6, _ => exact T.kA6_7
  | 7, _ => exact T.kA7_7
  | 8, _ => exact T.kA8_7
  | 9, _ => exact T.kA9_7
  | 10, _ => exact T.kA10_7
  | 11, _ => exact T.kA11_7
  | 12, _ => exact T.kA12_7
  | 13, _ => exact T.kA13_7
  | 14, _ => exact T.kA14_7
  | 15, _ => exact T.kA15_7
  | 16, _ => exact T.kA16_7
  | 17, _ => exact T.kA17_7
  | 18, _ => exact T.kA18_7
  | 19, _ => exact T.kA19_7
  | j + 20, h => exact absurd h (by omega)
theorem kk8 (T : Txt K mg) (j : Nat) (h : j < 20) : PySem.W.kitOne K (.ref (cls T j)) (.ref (cls T 8)) = some (decide (8 = j)) := by
  match j, h with
  | 0, _ => exact T.kA0_8
  | 1, _ => exact T.kA1_8
  | 2, _ => exact T.kA2_8
  | 3, _ => exact T.kA3_8
  | 4, _ => exact T.kA4_8
  | 5, _ => exact T.kA5_8
  | 6, _ => exact T.kA6_8
  | 7, _ => exact T.kA7_8
  | 8, _ => exact T.kA8_8
  | 9, _ => exact T.kA9_8
  | 10, _ => exact T.kA10_8
  | 11, _ => exact T.kA11_8
  | 12, _ => exact T.kA12_8
  | 13, _ => exact T.kA13_8
  | 14, _ => exact T.kA14_8
  | 15, _ => exact T.kA15_8
  | 16, _ => exact T.kA16_8
  | 17, _ => exact T.kA17_8
  | 18, _ => exact T.kA18_8
  | 19, _ => exact T.kA19_8
  | j + 20, h => exact absurd h (by omega)
theorem kk9 (T : Txt K mg) (j : Nat) (h : j < 20) : PySem.W.kitOne K (.ref (cls T j)) (.ref (cls T 9)) = some (decide (9 = j)) := by
  match j, h with
  | 0, _ => exact T.kA0_9
  | 1, _ => exact T.kA1_9
  | 2, _ => exact T.kA2_9
  | 3, _ => exact T.kA3_9
  | 4, _ => exact T.kA4_9
  | 5, _ => exact T.kA5_9
  | 6, _ => exact T.kA6_9
  | 7, _ => exact T.kA7_9
  | 8, _ => exact T.kA8_9
  | 9, _ => exact T.kA9_9
  | 10, _ => exact T.kA10_9
  | 11, _ => exact T.kA11_9
  | 12, _ => exact T.kA12_9
  | 13, _ => exact T.kA13_9
  | 14, _ => exact T.kA14_9
  | 15, _ => exact T.kA15_9
  | 16, _ => exact T.kA16_9
  | 17, _ => exact T.kA17_9
  | 18, _ => exact T.kA18_9
  | 19, _ => exact T.kA19_9
  | j + 20, h => exact absurd h (by omega)
theorem kk10 (T : Txt K mg) (j : Nat) (h : j < 20) : PySem.W.kitOne K (.ref (cls T j)) (.ref (cls T 10)) = some (decide (10 = j)) := by
  match j, h with
  | 0, _ => exact T.kA0_10
  | 1, _ => exact T.kA1_10
  | 2, _ => exact T.kA2_10
  | 3, _ => exact T.kA3_10
  | 4, _ => exact T.kA4_10
  | 5, _ => exact T.kA5_10
  | 6, _ => exact T.kA6_10
  | 7, _ => exact T.kA7_10
  | 8, _ => exact T.kA8_10
  | 9, _ => exact T.kA9_10
  | 10, _ => exact T.kA10_10
  | 11, _ => exact T.kA11_10
  | 12, _ => exact T.kA12_10
  | 13, _ => exact T.kA13_10
  | 14, _ => exact T.kA14_10
  | 15, _ => exact T.kA15_10
  | 16, _ => exact T.kA16_10
  | 17, _ => exact T.kA17_10
  | 18, _ => exact T.kA18_10
  | 19, _ => exact T.kA19_10
  | j + 20, h => exact absurd h (by omega)
theorem kk11 (T : Txt K mg) (j : Nat) (h : j < 20) : PySem.W.kitOne K (.ref (cls T j)) (.ref (cls T 11)) = some (decide (11 = j)) := by
  match j, h with
  | 0, _ => exact T.kA0_11
  | 1, _ => exact T.kA1_11
  | 2, _ => exact T.kA2_11
  | 3, _ => exact T.kA3_11
  | 4, _ => exact T.kA4_11
  | 5, _ => exact T.kA5_11
  | 6, _ => exact T.kA6_11
  | 7, _ => exact T.kA7_11
  | 8, _ => exact T.kA8_11
  | 9, _ => exact T.kA9_11
  | 10, _ => exact T.kA10_11
  | 11, _ => exact T.kA11_11
  | 12, _ => exact T.kA12_11
  | 13, _ => exact T.kA13_11
  | 14, _ => exact T.kA14_11
  | 15, _ => exact T.kA15_11
  | 16, _ => exact T.kA16_11
  | 17, _ => exact T.kA17_11
  | 18, _ => exact T.kA18_11
  | 19, _ => exact T.kA19_11
  | j + 20, h => exact absurd h (by omega)
theorem kk12 (T : Txt K mg) (j : Nat) (h : j < 20) : PySem.W.kitOne K (.ref (cls T j)) (.ref (cls T 12)) = some (decide (12 = j)) := by
  match j, h with
  | 0, _ => exact T.kA0_12
  | 1, _ => exact T.kA1_12
  | 2, _ => exact T.kA2_12
  | 3, _ => exact T.kA3_12
  | 4, _ => exact T.kA4_12
  | 5, _ => exact T.kA5_12
  | 6, _ => exact T.kA6_12
  | 7, _ => exact T.kA7_12
  | 8, _ => exact T.kA8_12
  | 9, _ => exact T.kA9_12
  | 10, _ => exact T.kA10_12
  | 11, _ => exact T.kA11_12
  | 12, _ => exact T.kA12_12
  | 13, _ => exact T.kA13_12
  | 14, _ => exact T.kA14_12
  | 15, _ => exact T.kA15_12
  | 16, _ => exact T.kA16_12
  | 17, _ => exact T.kA17_12
  | 18, _ => exact T.kA18_12
  | 19, _ => exact T.kA19_12
  | j + 20, h => exact absurd h (by omega)
theorem kk13 (T : Txt K mg) (j : Nat) (h : j < 20) : PySem.W.kitOne K (.ref (cls T j)) (.ref (cls T 13)) = some (decide (13 = j)) := by
  match j, h with
  | 0, _ => exact T.kA0_13
  | 1, _ => exact T.kA1_13
  | 2, _ => exact T.kA2_13
  | 3, _ => exact T.kA3_13
  | 4, _ => exact T.kA4_13
  | 5, _ => exact T.kA5_13
  | 6, _ => exact T.kA6_13
  | 7, _ => exact T.kA7_13
  | 8, _ => exact T.kA8_13
  | 9, _ => exact T.kA9_13
  | 10, _ => exact T.kA10_13
  | 11, _ => exact T.kA11_13
  | 12, _ => exact T.kA12_13
  | 13, _ => exact T.kA13_13
  | 14, _ => exact T.kA14_13
  | 15, _ => exact T.kA15_13
  | 16, _ => exact T.kA16_13
  | 17, _ => exact T.kA17_13
  | 18, _ => exact T.kA18_13
  | 19, _ => exact T.kA19_13
  | j + 20, h => exact absurd h (by omega)
theorem kk14 (T : Txt K mg) (j : Nat) (h : j < 20) : PySem.W.kitOne K (.ref (cls T j)) (.ref (cls T 14)) = some (decide (14 = j)) := by
  match j, h with
  | 0, _ => exact T.kA0_14
  | 1, _ => exact T.kA1_14
  | 2, _ => exact T.kA2_14
  | 3, _ => exact T.kA3_14
  | 4, _ => exact T.kA4_14
  | 5, _ => exact T.kA5_14
  | 6, _ => exact T.kA6_14
  | 7, _ => exact T.kA7_14
  | 8, _ => exact T.kA8_14
  | 9, _ => exact T.kA9_14
  | 10, _ => exact T.kA10_14
  | 11, _ => exact T.kA11_14
  | 12, _ => exact T.kA12_14
  | 13, _ => exact T.kA13_14
  | 14, _ => exact T.kA14_14
  | 15, _ => exact T.kA15_14
  | 16, _ => exact T.kA16_14
  | 17, _ => exact T.kA17_14
  | 18, _ => exact T.kA18_14
  | 19, _ => exact T.kA19_14
  | j + 20, h => exact absurd h (by omega)
theorem kk15 (T : Txt K mg) (j : Nat) (h : j < 20) : PySem.W.kitOne K (.ref (cls T j)) (.ref (cls T 15)) = some (decide (15 = j)) := by
  match j, h with
  | 0, _ => exact T.kA0_15
  | 1, _ => exact T.kA1_15
  | 2, _ => exact T.kA2_15
  | 3, _ => exact T.kA3_15
  | 4, _ => exact T.kA4_15
  | 5, _ => exact T.kA5_15
  | 6, _ => exact T.kA6_15
  | 7, _ => exact T.kA7_15
  | 8, _ => exact T.kA8_15
  | 9, _ => exact T.kA9_15
  | 10, _ => exact T.kA10_15
  | 11, _ => exact T.kA11_15
  | 12, _ => exact T.kA12_15
  | 13, _ => exact T.kA13_15
  | 14, _ => exact T.kA14_15
  | 15, _ => exact T.kA15_15
  | 16, _ => exact T.kA16_15
  | 17, _ => exact T.kA17_15
  | 18, _ => exact T.kA18_15
  | 19, _ => exact T.kA19_15
  | j + 20, h => exact absurd h (by omega)
theorem kk16 (T : Txt K mg) (j : Nat) (h : j < 20) : PySem.W.kitOne K (.ref (cls T j)) (.ref (cls T 16)) = some (decide (16 = j)) := by
  match j, h with
  | 0, _ => exact T.kA0_16
  | 1, _ => exact T.kA1_16
  | 2, _ => exact T.kA2_16
  | 3, _ => exact T.kA3_16
  | 4, _ => exact T.kA4_16
  | 5, _ => exact T.kA5_16
  | 6, _ => exact T.kA6_16
  | 7, _ => exact T.kA7_16
  | 8, _ => exact T.kA8_16
  | 9, _ => exact T.kA9_16
  | 10, _ => exact T.kA10_16
  | 11, _ => exact T.kA11_16
  | 12, _ => exact T.kA12_16
  | 13, _ => exact T.kA13_16
  | 14, _ => exact T.kA14_16
  | 15, _ => exact T.kA15_16
  | 16, _ => exact T.kA16_16
  | 17, _ => exact T.kA17_16
  | 18, _ => exact T.kA18_16
  | 19, _ => exact T.kA19_16
  | j + 20, h => exact absurd h (by omega)
theorem kk17 (T : Txt K mg) (j : Nat) (h : j < 20) : PySem.W.kitOne K (.ref (cls T j)) (.ref (cls T 17)) = some (decide (17 = j)) := by
  match j, h with
  | 0, _ => exact T.kA0_17
  | 1, _ => exact T.kA1_17
  | 2, _ => exact T.kA2_17
  | 3, _ => exact T.kA3_17
  | 4, _ => exact T.kA4_17
  | 5, _ => exact T.kA5_17
  | 6, _ => exact T.kA6_17
  | 7, _ => exact T.kA7_17
  | 8, _ => exact T.kA8_17
  | 9, _ => exact T.kA9_17
  | 10, _ => exact T.kA10_17
  | 11, _ => exact T.kA11_17
  | 12, _ => exact T.kA12_17
  | 13, _ => exact T.kA13_17
  | 14, _ => exact T.kA14_17
  | 15, _ => exact T.kA15_17
  | 16, _ => exact T.kA16_17
  | 17, _ => exact T.kA17_17
  | 18, _ => exact T.kA18_17
  | 19, _ => exact T.kA19_17
  | j + 20, h => exact absurd h (by omega)
theorem kk18 (T : Txt K mg) (j : Nat) (h : j < 20) : PySem.W.kitOne K (.ref (cls T j)) (.ref (cls T 18)) = some (decide (18 = j)) := by
  match j, h with
  | 0, _ => exact T.kA0_18
  | 1, _ => exact T.kA1_18
  | 2, _ => exact T.kA2_18
  | 3, _ => exact T.kA3_18
  | 4, _ => exact T.kA4_18
  | 5, _ => exact T.kA5_18
  | 6, _ => exact T.kA6_18
  | 7, _ => exact T.kA7_18
  | 8, _ => exact T.kA8_18
  | 9, _ => exact T.kA9_18
  | 10, _ => exact T.kA10_18
  | 11, _ => exact T.kA11_18
  | 12, _ => exact T.kA12_18
  | 13, _ => exact T.kA13_18
  | 14, _ => exact T.kA14_18
  | 15, _ => exact T.kA15_18
  | 16, _ => exact T.kA16_18
  | 17, _ => exact T.kA17_18
  | 18, _ => exact T.kA18_18
  | 19, _ => exact T.kA19_18
  | j + 20, h => exact absurd h (by omega)
theorem kk19 (T : Txt K mg) (j : Nat) (h : j < 20) : PySem.W.kitOne K (.ref (cls T j)) (.ref (cls T 19)) = some (decide (19 = j)) := by
  match j, h with
  | 0, _ => exact T.kA0_19
  | 1, _ => exact T.kA1_19
  | 2, _ => exact T.kA2_19
  | 3, _ => exact T.kA3_19
  | 4, _ => exact T.kA4_19
  | 5, _ => exact T.kA5_19
  | 6, _ => exact T.kA6_19
  | 7, _ => exact T.kA7_19
  | 8, _ => exact T.kA8_19
  | 9, _ => exact T.kA9_19
  | 10, _ => exact T.kA10_19
  | 11, _ => exact T.kA11_19
  | 12, _ => exact T.kA12_19
  | 13, _ => exact T.kA13_19
  | 14, _ => exact T.kA14_19
  | 15, _ => exact T.kA15_19
  | 16, _ => exact T.kA16_19
  | 17, _ => exact T.kA17_19
  | 18, _ => exact T.kA18_19
  | 19, _ => exact T.kA19_19
  | j + 20, h => exact absurd h (by omega)
theorem kkR (T : Txt K mg) (j : Nat) (h : j < 20) : PySem.W.kitOne K (.ref (cls T j)) (.ref T.RoundError.C) = some true := by
  match j, h with
  | 0, _ => exact T.kR0
  | 1, _ => exact T.kR1
  | 2, _ => exact T.kR2
  | 3, _ => exact T.kR3
  | 4, _ => exact T.kR4
  | 5, _ => exact T.kR5
  | 6, _ => exact T.kR6
  | 7, _ => exact T.kR7
  | 8, _ => exact T.kR8
  | 9, _ => exact T.kR9
  | 10, _ => exact T.kR10
  | 11, _ => exact T.kR11
  | 12, _ => exact T.kR12
  | 13, _ => exact T.kR13
  | 14, _ => exact T.kR14
  | 15, _ => exact T.kR15
  | 16, _ => exact T.kR16
  | 17, _ => exact T.kR17
  | 18, _ => exact T.kR18
  | 19, _ => exact T.kR19
  | j + 20, h => exact absurd h (by omega)
theorem kkV (T : Txt K mg) (j : Nat) (h : j < 20) : PySem.W.kitOne K (.ref (cls T j)) (.type "ValueError") = some true := by
  match j, h with
  | 0, _ => exact T.kV0
  | 1, _ => exact T.kV1
  | 2, _ => exact T.kV2
  | 3, _ => exact T.kV3
  | 4, _ => exact T.kV4
  | 5, _ => exact T.kV5
  | 6, _ => exact T.kV6
  | 7, _ => exact T.kV7
  | 8, _ => exact T.kV8
  | 9, _ => exact T.kV9
  | 10, _ => exact T.kV10
  | 11, _ => exact T.kV11
  | 12, _ => exact T.kV12
  | 13, _ => exact T.kV13
  | 14, _ => exact T.kV14
  | 15, _ => exact T.kV15
  | 16, _ => exact T.kV16
  | 17, _ => exact T.kV17
  | 18, _ => exact T.kV18
  | 19, _ => exact T.kV19
  | j + 20, h => exact absurd h (by omega)
theorem cls_ec (T : Txt K mg) (j : Nat) (h : j < 20) : ExcC K (cls T j) := by
  match j, h with
  | 0, _ => exact T.BadWord.ec
  | 1, _ => exact T.BadRound.ec
  | 2, _ => exact T.BadStrand.ec
  | 3, _ => exact T.BadSum.ec
  | 4, _ => exact T.BadImages.ec
  | 5, _ => exact T.BadBridge.ec
  | 6, _ => exact T.NotSimple.ec
  | 7, _ => exact T.BadDeed.ec
  | 8, _ => exact T.NotNow.ec
  | 9, _ => exact T.BadName.ec
  | 10, _ => exact T.BadNumber.ec
  | 11, _ => exact T.BadSkin.ec
  | 12, _ => exact T.BadRounds.ec
  | 13, _ => exact T.BadDrawing.ec
  | 14, _ => exact T.BadBundle.ec
  | 15, _ => exact T.BadLive.ec
  | 16, _ => exact T.BadFan.ec
  | 17, _ => exact T.NoMark.ec
  | 18, _ => exact T.BadText.ec
  | 19, _ => exact T.TooMany.ec
  | j + 20, h => exact absurd h (by omega)
theorem isA_err {T : Txt K mg} {H : Hp} {v : V} {i : Nat} {c : V} {cv : Value} {b : Bool} {Q : VK} (h : ErrAt T H v i) (hi : i < 20) (hc : ClsV c cv) (hk : PySem.W.kitOne K (.ref (cls T i)) cv = some b) (k : Q (.bl b) H) : rIsA K [v, c] H Q := by
  obtain ⟨a, d, rfl, h1, h2⟩ := h
  exact .inl ⟨a, _, d, c, cv, b, rfl, h1, h2, cls_ec T i hi, hc, hk, k⟩
def kinds (i : Nat) : List V := (List.range 20).map fun j => V.bl (decide (j = i))
def spKinds (T : Txt K mg) : Sp := fun vs H Q _ => ∃ (v : V) (i : Nat), vs = [v] ∧ i < 20 ∧ ErrAt T H v i ∧ ∀ (l : Addr) (H' : Hp), Same H H' → H' l = some (.lst (kinds i)) → Q (.ref l) H'
theorem ok_l_kinds (T : Txt K mg) : FnOk P w K mg base CX0 3 T.l_kinds.a T.l_kinds.fd ["error"] (spKinds T) := by
  refine T.l_kinds.F.ok sc_l_kinds (fun vs H Q E h => ?_) (fun cdv A outer s H vs Q E hr h => ?_)
  · obtain ⟨v, i, rfl, _⟩ := h
    rfl
  · obtain ⟨v, i, rfl, hi, er, k⟩ := h
    have nd := sc_l_kinds.nd
    refine ⟨_, (pss_cons (ps_set (i := 1) nd rfl (Or.inl rfl) (pe_lst (pa_cons (pe_callB call_isA (by rfl) T.zisinstance (by decide +kernel) (pa_cons (pv 0) (pa_cons (pe_glob (v := .ref T.BadWord.C) rfl T.BadWord.g rfl) pa_nil))) (pa_cons (pe_callB call_isA (by rfl) T.zisinstance (by decide +kernel) (pa_cons (pv 0) (pa_cons (pe_glob (v := .ref T.BadRound.C) rfl T.BadRound.g rfl) pa_nil))) (pa_cons (pe_callB call_isA (by rfl) T.zisinstance (by decide +kernel) (pa_cons (pv 0) (pa_cons (pe_glob (v := .ref T.BadStrand.C) rfl T.BadStrand.g rfl) pa_nil))) (pa_cons (pe_callB call_isA (by rfl) T.zisinstance (by decide +kernel) (pa_cons (pv 0) (pa_cons (pe_glob (v := .ref T.BadSum.C) rfl T.BadSum.g rfl) pa_nil))) (pa_cons (pe_callB call_isA (by rfl) T.zisinstance (by decide +kernel) (pa_cons (pv 0) (pa_cons (pe_glob (v := .ref T.BadImages.C) rfl T.BadImages.g rfl) pa_nil))) pa_nil)))))))
    (pss_cons (ps_set (i := 1) nd rfl (Or.inl rfl) (pe_op op_cat (pv 1) (pe_lst (pa_cons (pe_callB call_isA (by rfl) T.zisinstance (by decide +kernel) (pa_cons (pv 0) (pa_cons (pe_glob (v := .ref T.BadBridge.C) rfl T.BadBridge.g rfl) pa_nil))) (pa_cons (pe_callB call_isA (by rfl) T.zisinstance (by decide +kernel) (pa_cons (pv 0) (pa_cons (pe_glob (v := .ref T.NotSimple.C) rfl T.NotSimple.g rfl) pa_nil))) (pa_cons (pe_callB call_isA (by rfl) T.zisinstance (by decide +kernel) (pa_cons (pv 0) (pa_cons (pe_glob (v := .ref T.BadDeed.C) rfl T.BadDeed.g rfl) pa_nil))) (pa_cons (pe_callB call_isA (by rfl) T.zisinstance (by decide +kernel) (pa_cons (pv 0) (pa_cons (pe_glob (v := .ref T.NotNow.C) rfl T.NotNow.g rfl) pa_nil))) (pa_cons (pe_callB call_isA (by rfl) T.zisinstance (by decide +kernel) (pa_cons (pv 0) (pa_cons (pe_glob (v := .ref T.BadName.C) rfl T.BadName.g rfl) pa_nil))) pa_nil))))))))
    (pss_cons (ps_set (i := 1) nd rfl (Or.inl rfl) (pe_op op_cat (pv 1) (pe_lst (pa_cons (pe_callB call_isA (by rfl) T.zisinstance (by decide +kernel) (pa_cons (pv 0) (pa_cons (pe_glob (v := .ref T.BadNumber.C) rfl T.BadNumber.g rfl) pa_nil))) (pa_cons (pe_callB call_isA (by rfl) T.zisinstance (by decide +kernel) (pa_cons (pv 0) (pa_cons (pe_glob (v := .ref T.BadSkin.C) rfl T.BadSkin.g rfl) pa_nil))) (pa_cons (pe_callB call_isA (by rfl) T.zisinstance (by decide +kernel) (pa_cons (pv 0) (pa_cons (pe_glob (v := .ref T.BadRounds.C) rfl T.BadRounds.g rfl) pa_nil))) (pa_cons (pe_callB call_isA (by rfl) T.zisinstance (by decide +kernel) (pa_cons (pv 0) (pa_cons (pe_glob (v := .ref T.BadDrawing.C) rfl T.BadDrawing.g rfl) pa_nil))) (pa_cons (pe_callB call_isA (by rfl) T.zisinstance (by decide +kernel) (pa_cons (pv 0) (pa_cons (pe_glob (v := .ref T.BadBundle.C) rfl T.BadBundle.g rfl) pa_nil))) pa_nil))))))))
    (pss_one (ps_ret (pe_op op_cat (pv 1) (pe_lst (pa_cons (pe_callB call_isA (by rfl) T.zisinstance (by decide +kernel) (pa_cons (pv 0) (pa_cons (pe_glob (v := .ref T.BadLive.C) rfl T.BadLive.g rfl) pa_nil))) (pa_cons (pe_callB call_isA (by rfl) T.zisinstance (by decide +kernel) (pa_cons (pv 0) (pa_cons (pe_glob (v := .ref T.BadFan.C) rfl T.BadFan.g rfl) pa_nil))) (pa_cons (pe_callB call_isA (by rfl) T.zisinstance (by decide +kernel) (pa_cons (pv 0) (pa_cons (pe_glob (v := .ref T.NoMark.C) rfl T.NoMark.g rfl) pa_nil))) (pa_cons (pe_callB call_isA (by rfl) T.zisinstance (by decide +kernel) (pa_cons (pv 0) (pa_cons (pe_glob (v := .ref T.BadText.C) rfl T.BadText.g rfl) pa_nil))) (pa_cons (pe_callB call_isA (by rfl) T.zisinstance (by decide +kernel) (pa_cons (pv 0) (pa_cons (pe_glob (v := .ref T.TooMany.C) rfl T.TooMany.g rfl) pa_nil))) pa_nil)))))))))))), ?_⟩
    refine ⟨_, rfl, isA_err (c := .ref T.BadWord.C) (b := decide (0 = i)) er hi (.own _) (kk0 T i hi) ⟨_, rfl, isA_err (c := .ref T.BadRound.C) (b := decide (1 = i)) er hi (.own _) (kk1 T i hi) ⟨_, rfl, isA_err (c := .ref T.BadStrand.C) (b := decide (2 = i)) er hi (.own _) (kk2 T i hi) ⟨_, rfl, isA_err (c := .ref T.BadSum.C) (b := decide (3 = i)) er hi (.own _) (kk3 T i hi) ⟨_, rfl, isA_err (c := .ref T.BadImages.C) (b := decide (4 = i)) er hi (.own _) (kk4 T i hi) ⟨(by show 5 ≤ sizeLine; decide), fun p hp => ?_⟩⟩⟩⟩⟩⟩
    have up : Same H (upd H p (.lst [.bl (decide (0 = i)), .bl (decide (1 = i)), .bl (decide (2 = i)), .bl (decide (3 = i)), .bl (decide (4 = i))])) := nw hp
    have eqp : (upd H p (.lst [.bl (decide (0 = i)), .bl (decide (1 = i)), .bl (decide (2 = i)), .bl (decide (3 = i)), .bl (decide (4 = i))])) p = some (.lst [.bl (decide (0 = i)), .bl (decide (1 = i)), .bl (decide (2 = i)), .bl (decide (3 = i)), .bl (decide (4 = i))]) := upd_same
    generalize upd H p (.lst [.bl (decide (0 = i)), .bl (decide (1 = i)), .bl (decide (2 = i)), .bl (decide (3 = i)), .bl (decide (4 = i))]) = Jp at up eqp ⊢
    replace er := er.same up
    refine ⟨_, rfl, ?_⟩
    refine ⟨_, rfl, isA_err (c := .ref T.BadBridge.C) (b := decide (5 = i)) er hi (.own _) (kk5 T i hi) ⟨_, rfl, isA_err (c := .ref T.NotSimple.C) (b := decide (6 = i)) er hi (.own _) (kk6 T i hi) ⟨_, rfl, isA_err (c := .ref T.BadDeed.C) (b := decide (7 = i)) er hi (.own _) (kk7 T i hi) ⟨_, rfl, isA_err (c := .ref T.NotNow.C) (b := decide (8 = i)) er hi (.own _) (kk8 T i hi) ⟨_, rfl, isA_err (c := .ref T.BadName.C) (b := decide (9 = i)) er hi (.own _) (kk9 T i hi) ⟨(by show 5 ≤ sizeLine; decide), fun q hq => ?_⟩⟩⟩⟩⟩⟩
    have uq : Same Jp (upd Jp q (.lst [.bl (decide (5 = i)), .bl (decide (6 = i)), .bl (decide (7 = i)), .bl (decide (8 = i)), .bl (decide (9 = i))])) := nw hq
    have eqq : (upd Jp q (.lst [.bl (decide (5 = i)), .bl (decide (6 = i)), .bl (decide (7 = i)), .bl (decide (8 = i)), .bl (decide (9 = i))])) q = some (.lst [.bl (decide (5 = i)), .bl (decide (6 = i)), .bl (decide (7 = i)), .bl (decide (8 = i)), .bl (decide (9 = i))]) := upd_same
    generalize upd Jp q (.lst [.bl (decide (5 = i)), .bl (decide (6 = i)), .bl (decide (7 = i)), .bl (decide (8 = i)), .bl (decide (9 = i))]) = Jq at uq eqq ⊢
    replace er := er.same uq
    refine ⟨p, q, _, _, rfl, rfl, uq _ _ eqp, eqq, (by show 5 + 5 ≤ sizeLine; decide), fun z1 hz1 => ?_⟩
    refine ⟨_, rfl, ?_⟩
    have ek : upd Jq z1 (.lst ([.bl (decide (0 = i)), .bl (decide (1 = i)), .bl (decide (2 = i)), .bl (decide (3 = i)), .bl (decide (4 = i))] ++ [.bl (decide (5 = i)), .bl (decide (6 = i)), .bl (decide (7 = i)), .bl (decide (8 = i)), .bl (decide (9 = i))])) = upd Jq z1 (.lst [.bl (decide (0 = i)), .bl (decide (1 = i)), .bl (decide (2 = i)), .bl (decide (3 = i)), .bl (decide (4 = i)), .bl (decide (5 = i)), .bl (decide (6 = i)), .bl (decide (7 = i)), .bl (decide (8 = i)), .bl (decide (9 = i))]) := rfl
    rw [ek]
    clear ek
    have uz1 : Same Jq (upd Jq z1 (.lst [.bl (decide (0 = i)), .bl (decide (1 = i)), .bl (decide (2 = i)), .bl (decide (3 = i)), .bl (decide (4 = i)), .bl (decide (5 = i)), .bl (decide (6 = i)), .bl (decide (7 = i)), .bl (decide (8 = i)), .bl (decide (9 = i))])) := nw hz1
    have eqz1 : (upd Jq z1 (.lst [.bl (decide (0 = i)), .bl (decide (1 = i)), .bl (decide (2 = i)), .bl (decide (3 = i)), .bl (decide (4 = i)), .bl (decide (5 = i)), .bl (decide (6 = i)), .bl (decide (7 = i)), .bl (decide (8 = i)), .bl (decide (9 = i))])) z1 = some (.lst [.bl (decide (0 = i)), .bl (decide (1 = i)), .bl (decide (2 = i)), .bl (decide (3 = i)), .bl (decide (4 = i)), .bl (decide (5 = i)), .bl (decide (6 = i)), .bl (decide (7 = i)), .bl (decide (8 = i)), .bl (decide (9 = i))]) := upd_same
    generalize upd Jq z1 (.lst [.bl (decide (0 = i)), .bl (decide (1 = i)), .bl (decide (2 = i)), .bl (decide (3 = i)), .bl (decide (4 = i)), .bl (decide (5 = i)), .bl (decide (6 = i)), .bl (decide (7 = i)), .bl (decide (8 = i)), .bl (decide (9 = i))]) = Jz1 at uz1 eqz1 ⊢
    replace er := er.same uz1
    refine ⟨_, rfl, isA_err (c := .ref T.BadNumber.C) (b := decide (10 = i)) er hi (.own _) (kk10 T i hi) ⟨_, rfl, isA_err (c := .ref T.BadSkin.C) (b := decide (11 = i)) er hi (.own _) (kk11 T i hi) ⟨_, rfl, isA_err (c := .ref T.BadRounds.C) (b := decide (12 = i)) er hi (.own _) (kk12 T i hi) ⟨_, rfl, isA_err (c := .ref T.BadDrawing.C) (b := decide (13 = i)) er hi (.own _) (kk13 T i hi) ⟨_, rfl, isA_err (c := .ref T.BadBundle.C) (b := decide (14 = i)) er hi (.own _) (kk14 T i hi) ⟨(by show 5 ≤ sizeLine; decide), fun r hr => ?_⟩⟩⟩⟩⟩⟩
    have ur : Same Jz1 (upd Jz1 r (.lst [.bl (decide (10 = i)), .bl (decide (11 = i)), .bl (decide (12 = i)), .bl (decide (13 = i)), .bl (decide (14 = i))])) := nw hr
    have eqr : (upd Jz1 r (.lst [.bl (decide (10 = i)), .bl (decide (11 = i)), .bl (decide (12 = i)), .bl (decide (13 = i)), .bl (decide (14 = i))])) r = some (.lst [.bl (decide (10 = i)), .bl (decide (11 = i)), .bl (decide (12 = i)), .bl (decide (13 = i)), .bl (decide (14 = i))]) := upd_same
    generalize upd Jz1 r (.lst [.bl (decide (10 = i)), .bl (decide (11 = i)), .bl (decide (12 = i)), .bl (decide (13 = i)), .bl (decide (14 = i))]) = Jr at ur eqr ⊢
    replace er := er.same ur
    refine ⟨z1, r, _, _, rfl, rfl, ur _ _ eqz1, eqr, (by show 10 + 5 ≤ sizeLine; decide), fun z2 hz2 => ?_⟩
    refine ⟨_, rfl, ?_⟩
    have ek : upd Jr z2 (.lst ([.bl (decide (0 = i)), .bl (decide (1 = i)), .bl (decide (2 = i)), .bl (decide (3 = i)), .bl (decide (4 = i)), .bl (decide (5 = i)), .bl (decide (6 = i)), .bl (decide (7 = i)), .bl (decide (8 = i)), .bl (decide (9 = i))] ++ [.bl (decide (10 = i)), .bl (decide (11 = i)), .bl (decide (12 = i)), .bl (decide (13 = i)), .bl (decide (14 = i))])) = upd Jr z2 (.lst [.bl (decide (0 = i)), .bl (decide (1 = i)), .bl (decide (2 = i)), .bl (decide (3 = i)), .bl (decide (4 = i)), .bl (decide (5 = i)), .bl (decide (6 = i)), .bl (decide (7 = i)), .bl (decide (8 = i)), .bl (decide (9 = i)), .bl (decide (10 = i)), .bl (decide (11 = i)), .bl (decide (12 = i)), .bl (decide (13 = i)), .bl (decide (14 = i))]) := rfl
    rw [ek]
    clear ek
    have uz2 : Same Jr (upd Jr z2 (.lst [.bl (decide (0 = i)), .bl (decide (1 = i)), .bl (decide (2 = i)), .bl (decide (3 = i)), .bl (decide (4 = i)), .bl (decide (5 = i)), .bl (decide (6 = i)), .bl (decide (7 = i)), .bl (decide (8 = i)), .bl (decide (9 = i)), .bl (decide (10 = i)), .bl (decide (11 = i)), .bl (decide (12 = i)), .bl (decide (13 = i)), .bl (decide (14 = i))])) := nw hz2
    have eqz2 : (upd Jr z2 (.lst [.bl (decide (0 = i)), .bl (decide (1 = i)), .bl (decide (2 = i)), .bl (decide (3 = i)), .bl (decide (4 = i)), .bl (decide (5 = i)), .bl (decide (6 = i)), .bl (decide (7 = i)), .bl (decide (8 = i)), .bl (decide (9 = i)), .bl (decide (10 = i)), .bl (decide (11 = i)), .bl (decide (12 = i)), .bl (decide (13 = i)), .bl (decide (14 = i))])) z2 = some (.lst [.bl (decide (0 = i)), .bl (decide (1 = i)), .bl (decide (2 = i)), .bl (decide (3 = i)), .bl (decide (4 = i)), .bl (decide (5 = i)), .bl (decide (6 = i)), .bl (decide (7 = i)), .bl (decide (8 = i)), .bl (decide (9 = i)), .bl (decide (10 = i)), .bl (decide (11 = i)), .bl (decide (12 = i)), .bl (decide (13 = i)), .bl (decide (14 = i))]) := upd_same
    generalize upd Jr z2 (.lst [.bl (decide (0 = i)), .bl (decide (1 = i)), .bl (decide (2 = i)), .bl (decide (3 = i)), .bl (decide (4 = i)), .bl (decide (5 = i)), .bl (decide (6 = i)), .bl (decide (7 = i)), .bl (decide (8 = i)), .bl (decide (9 = i)), .bl (decide (10 = i)), .bl (decide (11 = i)), .bl (decide (12 = i)), .bl (decide (13 = i)), .bl (decide (14 = i))]) = Jz2 at uz2 eqz2 ⊢
    replace er := er.same uz2
    refine ⟨_, rfl, isA_err (c := .ref T.BadLive.C) (b := decide (15 = i)) er hi (.own _) (kk15 T i hi) ⟨_, rfl, isA_err (c := .ref T.BadFan.C) (b := decide (16 = i)) er hi (.own _) (kk16 T i hi) ⟨_, rfl, isA_err (c := .ref T.NoMark.C) (b := decide (17 = i)) er hi (.own _) (kk17 T i hi) ⟨_, rfl, isA_err (c := .ref T.BadText.C) (b := decide (18 = i)) er hi (.own _) (kk18 T i hi) ⟨_, rfl, isA_err (c := .ref T.TooMany.C) (b := decide (19 = i)) er hi (.own _) (kk19 T i hi) ⟨(by show 5 ≤ sizeLine; decide), fun t ht => ?_⟩⟩⟩⟩⟩⟩
    have ut : Same Jz2 (upd Jz2 t (.lst [.bl (decide (15 = i)), .bl (decide (16 = i)), .bl (decide (17 = i)), .bl (decide (18 = i)), .bl (decide (19 = i))])) := nw ht
    have eqt : (upd Jz2 t (.lst [.bl (decide (15 = i)), .bl (decide (16 = i)), .bl (decide (17 = i)), .bl (decide (18 = i)), .bl (decide (19 = i))])) t = some (.lst [.bl (decide (15 = i)), .bl (decide (16 = i)), .bl (decide (17 = i)), .bl (decide (18 = i)), .bl (decide (19 = i))]) := upd_same
    generalize upd Jz2 t (.lst [.bl (decide (15 = i)), .bl (decide (16 = i)), .bl (decide (17 = i)), .bl (decide (18 = i)), .bl (decide (19 = i))]) = Jt at ut eqt ⊢
    replace er := er.same ut
    refine ⟨z2, t, _, _, rfl, rfl, ut _ _ eqz2, eqt, (by show 15 + 5 ≤ sizeLine; decide), fun z3 hz3 => ?_⟩
    exact k z3 _ (fun b o e => nw hz3 _ _ (ut _ _ (uz2 _ _ (ur _ _ (uz1 _ _ (uq _ _ (up _ _ (e)))))))) upd_same
end
end Tt
set_option maxRecDepth 100000
set_option maxHeartbeats 4000000
namespace Tt
open PySem L2
section
variable {P : Program} {w : World} {K : PySem.W.Frag} {mg : Str → Option Value} {base : Heap}
theorem exm_N (T : Txt K mg) : PySem.W.exmOne K (.ref T.NotNow.C) (.ref T.RoundError.C) = some true := PySem.W.exm_ref T.RoundError.ec.hs T.RoundError.ec.hd T.RoundError.ty T.sNR
theorem exm_T (T : Txt K mg) : PySem.W.exmOne K (.ref T.TooMany.C) (.ref T.RoundError.C) = some true := PySem.W.exm_ref T.RoundError.ec.hs T.RoundError.ec.hd T.RoundError.ty T.sTR
def spTaken : Sp := fun vs H Q _ => ∃ (x : V) (n : Int), vs = [x, .int n] ∧ ∀ H', Q (.bl true) H'
theorem ok_l_taken (T : Txt K mg) : FnOk P w K mg base CX0 3 T.l_taken.a T.l_taken.fd ["text", "number"] spTaken := by
  refine T.l_taken.F.ok sc_l_taken (fun vs H Q E h => ?_) (fun cdv A outer s H vs Q E hr h => ?_)
  · obtain ⟨x, n, rfl, _⟩ := h
    rfl
  · obtain ⟨x, n, rfl, k⟩ := h
    have nd := sc_l_taken.nd
    refine ⟨_, (pss_cons (ps_asg (pe_tup (pa_cons pe_non (pa_cons pe_non pa_nil))) (pg_tup rfl (pgs_cons (pg_name (i := 2) nd rfl (Or.inl rfl)) (pgs_cons (pg_name (i := 3) nd rfl (Or.inl rfl)) pgs_nil))))
    (pss_cons (ps_try_keep (c := .ref T.RoundError.C) (i := 4) rfl rfl rfl nd rfl rfl ⟨rfl, by decide, .inl T.RoundError.g⟩ LamX.takes0 (fun _ _ _ tk _ => (pss_one (ps_raise rfl tk (pmk_ownA PySem.F.excBase_ValueError T.NotNow.q T.NotNow.g T.NotNow.k (raises_own T.NotNow.ec.hs T.NotNow.ty) rfl (pa_cons (pv 0) pa_nil))))) (fun _ _ _ _ _ _ _ => (pss_one (ps_set (i := 2) nd rfl (Or.inl rfl) (pv 4)))))
    (pss_cons (ps_try_keep (c := .ref T.RoundError.C) (i := 4) rfl rfl rfl nd rfl rfl ⟨rfl, by decide, .inl T.RoundError.g⟩ LamX.takes0 (fun _ _ _ tk _ => (pss_one (ps_raise rfl tk (pmk_oex T.TooMany.o T.TooMany.i T.TooMany.t (ok_TooMany_init T) (hr.mono (by decide)) T.TooMany.b .nil pass0 (by rfl) T.TooMany.g (pa_cons (pv 1) pa_nil))))) (fun _ _ _ _ _ _ _ => (pss_one (ps_set (i := 3) nd rfl (Or.inl rfl) (pv 4)))))
    (pss_one (ps_ret (pe_and (pe_callB call_isA (by rfl) T.zisinstance (by decide +kernel) (pa_cons (pv 2) (pa_cons (pe_glob (v := .ref T.NotNow.C) rfl T.NotNow.g rfl) pa_nil))) (pe_and (pe_callB call_isA (by rfl) T.zisinstance (by decide +kernel) (pa_cons (pv 3) (pa_cons (pe_glob (v := .ref T.TooMany.C) rfl T.TooMany.g rfl) pa_nil))) (pe_one (pe_cmpR op_eq (pe_xfH (pv 3)) (pv 1) (nomark _)))))))))), ?_⟩
    refine ⟨(by show 2 ≤ sizeLine; decide), fun t ht => ?_⟩
    refine ⟨t, _, rfl, SqT.of upd_same, rfl, _, _, rfl, _, _, rfl, rfl, ?_⟩
    generalize upd H t (.tup [V.non, V.non]) = H1
    refine ⟨_, rfl, (by show 1 ≤ sizeLine; decide), true, exm_N T, fun _ a1 h1 => ⟨_, rfl, h1, ?_⟩, fun z => nomatch z⟩
    have e1 : (upd H1 a1 (exh (.ref T.NotNow.C) none a1)) a1 = some (exh (.ref T.NotNow.C) none a1) := upd_same
    generalize upd H1 a1 (exh (.ref T.NotNow.C) none a1) = H2 at e1 ⊢
    refine ⟨_, rfl, (by show 1 ≤ 1000; decide), fun a ha => ⟨a, .int n, rfl, upd_same, fun dx ndx ne => ⟨rfl, dx, ([("most", V.int n)] : List (Str × V)), upd_same, ?_, ?_, ?_⟩⟩⟩
    · rw [upd_ne ne, upd_same]
    · rw [upd_ne ne] at ndx
      exact ndx
    · rw [upd_ne ne] at ndx
      have ex : (upd (del (upd (upd (upd H2 a (exo a T.TooMany.C none)) dx (exd dx [("most", V.int n)])) a (exo a T.TooMany.C (some dx))) a) dx (.xd [("most", V.int n)])) dx = some (.xd [("most", V.int n)]) := upd_same
      have e2 : (upd (del (upd (upd (upd H2 a (exo a T.TooMany.C none)) dx (exd dx [("most", V.int n)])) a (exo a T.TooMany.C (some dx))) a) dx (.xd [("most", V.int n)])) a1 = some (exh (.ref T.NotNow.C) none a1) := by
        have c1 : a1 ≠ a := ne_of_none e1 ha
        have c2 : a1 ≠ dx := ne_of_none e1 ndx
        rw [upd_ne c2, del_ne c1, upd_ne c1, upd_ne c2, upd_ne c1]
        exact e1
      generalize upd (del (upd (upd (upd H2 a (exo a T.TooMany.C none)) dx (exd dx [("most", V.int n)])) a (exo a T.TooMany.C (some dx))) a) dx (.xd [("most", V.int n)]) = H3 at ex e2 ⊢
      refine ⟨true, exm_T T, fun _ a2 h2 => ⟨_, rfl, h2, ?_⟩, fun z => nomatch z⟩
      have e3 : (upd H3 a2 (exh (.ref T.TooMany.C) (some dx) a2)) a2 = some (exh (.ref T.TooMany.C) (some dx) a2) := upd_same
      have ex3 := nw (o := exh (.ref T.TooMany.C) (some dx) a2) h2 _ _ ex
      have e23 := nw (o := exh (.ref T.TooMany.C) (some dx) a2) h2 _ _ e2
      generalize upd H3 a2 (exh (.ref T.TooMany.C) (some dx) a2) = H4 at e3 ex3 e23 ⊢
      refine ⟨_, rfl, .inl ⟨a1, T.NotNow.C, none, _, _, true, rfl, e23, .inl rfl, T.NotNow.ec, .own T.NotNow.C, T.kA8_8, ?_⟩⟩
      refine ⟨true, rfl, iteT ⟨_, rfl, .inl ⟨a2, T.TooMany.C, some dx, _, _, true, rfl, e3, .inr ⟨dx, _, rfl, ex3⟩, T.TooMany.ec, .own T.TooMany.C, T.kA19_19, true, rfl, iteT ?_⟩⟩⟩
      refine ⟨_, rfl, a2, T.TooMany.C, dx, _, .int n, rfl, e3, ex3, T.TooMany.xf, T.TooMany.n, rfl, _, rfl, ?_⟩
      have e : decide (V.int n = V.int n) = true := decide_eq_true rfl
      have q := k H4
      rw [← e] at q
      exact ⟨rfl, q⟩
end
end Tt
set_option maxRecDepth 100000
set_option maxHeartbeats 4000000
namespace Tt
open PySem L2
section
variable {P : Program} {w : World} {K : PySem.W.Frag} {mg : Str → Option Value} {base : Heap}
def Off (D : Dw) (b : Addr) : Prop := b ≠ D.d ∧ b ≠ D.l ∧ b ≠ D.c
theorem DrOk.off {D : Dw} {H : Hp} {b : Addr} (h : DrOk D H) (n : H b = none) : Off D b := by
  obtain ⟨ls, cs, r, t, d⟩ := h
  exact ⟨(ne_of_none d.hd n).symm, (ne_of_none d.hl n).symm, (ne_of_none d.hc n).symm⟩
theorem DrOk.new {D : Dw} {H : Hp} {p : Addr} {o : HO} (h : DrOk D H) (n : H p = none) : DrOk D (upd H p o) := by
  obtain ⟨ls, cs, r, t, d⟩ := h
  exact ⟨ls, cs, r, t, d.new n⟩
theorem DrOk.put {D : Dw} {H : Hp} {p : Addr} {o : HO} (h : DrOk D H) (n : Off D p) : DrOk D (upd H p o) := by
  obtain ⟨ls, cs, r, t, d⟩ := h
  exact ⟨ls, cs, r, t, ⟨by rw [upd_ne n.1.symm]; exact d.hd, by rw [upd_ne n.2.1.symm]; exact d.hl, by rw [upd_ne n.2.2.symm]; exact d.hc, d.ne, d.nl, d.nc⟩⟩
theorem DrOk.same {D : Dw} {H H' : Hp} (h : DrOk D H) (s : Same H H') : DrOk D H' := by
  obtain ⟨ls, cs, r, t, d⟩ := h
  exact ⟨ls, cs, r, t, d.same s⟩
theorem Kp.at {D : Dw} {H H' : Hp} {b : Addr} {o : HO} (k : Kp D H H') (n : Off D b) (h : H b = some o) : H' b = some o := k b o h n.1 n.2.1
theorem ErrAt.kp {T : Txt K mg} {D : Dw} {H H' : Hp} {v : V} {i : Nat} (h : ErrAt T H v i) (dr : DrOk D H) (k : Kp D H H') : ErrAt T H' v i := by
  obtain ⟨ls, cs, r, t, dd⟩ := dr
  obtain ⟨a, d, e, h1, h2⟩ := h
  have z1 : ∀ (φ : Heap → Prop) kvs, (HO.ext φ) ≠ .dK kvs := fun _ _ z => nomatch z
  have z2 : ∀ (φ : Heap → Prop) xs, (HO.ext φ) ≠ .lst xs := fun _ _ z => nomatch z
  refine ⟨a, d, e, k _ _ h1 (dd.dne h1 (z1 _)) (dd.lne h1 (z2 _)), ?_⟩
  rcases h2 with h2 | ⟨x, fs, e2, h2⟩
  · exact .inl h2
  · exact .inr ⟨x, fs, e2, k _ _ h2 (dd.dne h2 fun _ z => nomatch z) (dd.lne h2 fun _ z => nomatch z)⟩
theorem ErrsAt.kp {T : Txt K mg} {D : Dw} {H H' : Hp} (dr : DrOk D H) (k : Kp D H H') : ∀ {vs : List V} {i : Nat}, ErrsAt T H i vs → ErrsAt T H' i vs
  | [], _, _ => trivial
  | _ :: _, _, h => ⟨h.1.kp dr k, h.2.kp dr k⟩
structure TxOk (x : Str) : Prop where
  ln : x.length ≤ 16
  cp : ∀ c ∈ x.cps.toList, c < 16 ^ 8
theorem fold_cp {B : Nat} : ∀ (rest : List Str) (acc : Array Nat), (∀ c ∈ acc.toList, c < B) → (∀ p ∈ rest, ∀ c ∈ p.cps.toList, c < B) → ∀ c ∈ (rest.foldl (fun acc p => acc ++ ("" : Str).cps ++ p.cps) acc).toList, c < B
  | [], _, h, _ => h
  | p :: rest, acc, h, g => fold_cp rest _ (fun c hc => by
      simp only [Array.toList_append, List.mem_append] at hc
      rcases hc with (hc | hc) | hc
      · exact h c hc
      · have e : (("" : Str).cps.toList : List Nat) = [] := rfl
        rw [e] at hc
        cases hc
      · exact g p List.mem_cons_self c hc) fun q hq => g q (List.mem_cons_of_mem _ hq)
theorem sum_le2 : ∀ ys : List Str, (∀ y ∈ ys, y.length ≤ 2) → (ys.map (·.length)).sum ≤ 2 * ys.length
  | [], _ => Nat.le_refl _
  | y :: ys, h => by
    have a := h y List.mem_cons_self
    have b := sum_le2 ys fun z hz => h z (List.mem_cons_of_mem _ hz)
    rw [List.map_cons, List.sum_cons, List.length_cons]
    omega
theorem txok_join {ys : List Str} (h : ∀ y ∈ ys, y.length ≤ 2 ∧ ∀ c ∈ y.cps.toList, c < 16 ^ 8) (l : ys.length ≤ 8) : TxOk (Txt.join "" ys) := by
  refine ⟨?_, ?_⟩
  · have e : (Txt.join "" ys).length = (ys.map (·.length)).sum + (ys.length - 1) * ("" : Str).length := size_glued "" ys
    have e0 : ("" : Str).length = 0 := rfl
    have := sum_le2 ys fun y hy => (h y hy).1
    rw [e, e0]
    omega
  · cases ys with
    | nil =>
      intro c hc
      have e : ((Txt.join "" []).cps.toList : List Nat) = [] := rfl
      rw [e] at hc
      cases hc
    | cons y ys => exact fold_cp ys y.cps (h y List.mem_cons_self).2 fun p hp => (h p (List.mem_cons_of_mem _ hp)).2
structure Sx (k N : Nat) (d : PyData) : Prop where
  sh : d.showable = true
  dp : d.depth ≤ k
  ln : d.shown.length ≤ N
theorem sx_all {k N : Nat} : ∀ ds : List PyData, (∀ d ∈ ds, Sx k N d) → PyData.showableAll ds = true ∧ PyData.depthAll ds ≤ k ∧ ((PyData.shownAll ds).map (·.length)).sum ≤ ds.length * N ∧ (PyData.shownAll ds).length = ds.length
  | [], _ => ⟨rfl, Nat.zero_le _, Nat.zero_le _, rfl⟩
  | d :: ds, h => by
    obtain ⟨a1, a3, a4, a5⟩ := sx_all ds fun x hx => h x (List.mem_cons_of_mem _ hx)
    have b := h d List.mem_cons_self
    refine ⟨?_, ?_, ?_, ?_⟩
    · show (d.showable && PyData.showableAll ds) = true
      rw [b.sh, a1]
      rfl
    · show max d.depth (PyData.depthAll ds) ≤ k
      have := b.dp
      omega
    · show (d.shown.length :: (PyData.shownAll ds).map (·.length)).sum ≤ (ds.length + 1) * N
      rw [List.sum_cons, Nat.add_mul, Nat.one_mul]
      have := b.ln
      omega
    · show (d.shown :: PyData.shownAll ds).length = ds.length + 1
      rw [List.length_cons, a5]
theorem Sx.list {k N : Nat} {ds : List PyData} (h : ∀ d ∈ ds, Sx k N d) : Sx (k + 1) (ds.length * N + 2 * ds.length + 3) (.list ds) := by
  obtain ⟨a1, a3, a4, a5⟩ := sx_all ds h
  refine ⟨a1, ?_, ?_⟩
  · show PyData.depthAll ds + 1 ≤ k + 1
    omega
  · have := listText_len_le (PyData.shownAll ds)
    show (listText (PyData.shownAll ds)).length ≤ _
    omega
theorem Sx.tuple {k N : Nat} {ds : List PyData} (h : ∀ d ∈ ds, Sx k N d) : Sx (k + 1) (ds.length * N + 2 * ds.length + 3) (.tuple ds) := by
  obtain ⟨a1, a3, a4, a5⟩ := sx_all ds h
  refine ⟨a1, ?_, ?_⟩
  · show PyData.depthAll ds + 1 ≤ k + 1
    omega
  · have := tupleText_len_le (PyData.shownAll ds)
    show (tupleText (PyData.shownAll ds)).length ≤ _
    omega
theorem Sx.mono {k k' N N' : Nat} {d : PyData} (h : Sx k N d) (a : k ≤ k') (b : N ≤ N') : Sx k' N' d := ⟨h.sh, Nat.le_trans h.dp a, Nat.le_trans h.ln b⟩
theorem Sx.int31 {i : Int} (h : i.natAbs < 10 ^ 31) : Sx 0 200 (.int i) := by
  have l : i.natAbs.log2 < 1920 := by
    rcases Nat.eq_zero_or_pos i.natAbs with z | z
    · rw [z]
      decide
    · exact (Nat.log2_lt (by omega)).mpr (Nat.lt_of_lt_of_le h (Nat.le_trans (show 10 ^ 31 ≤ 2 ^ 110 by decide) (Nat.pow_le_pow_right (by decide) (by decide))))
  refine ⟨decide_eq_true l, Nat.zero_le _, ?_⟩
  have q := int_text_length_le10 (a := i) (k := 31) (by decide) h
  have e : (PyData.int i).shown = Str.ofString (toString i) := rfl
  have e2 : (Str.ofString (toString i)).length = (toString i).length := by
    exact ofString_length _
  rw [e, e2]
  omega
theorem Sx.int {i : Int} (h0 : -9 ≤ i) (h1 : i < 991) : Sx 0 200 (.int i) := Sx.int31 (Nat.lt_of_lt_of_le (show i.natAbs < 1000 by omega) (by decide))
theorem Sx.big {i : Int} (h0 : -9 ≤ i) (h1 : i < 991) : Sx 0 200 (.int (10 ^ 30 + i)) := Sx.int31 (by
  have e : (10 : Int) ^ 30 = 1000000000000000000000000000000 := by decide
  have e2 : (10 : Nat) ^ 31 = 10000000000000000000000000000000 := by decide
  rw [e, e2]
  omega)
theorem Sx.str {x : Str} (h : TxOk x) : Sx 0 200 (.str x) := by
  refine ⟨rfl, Nat.zero_le _, ?_⟩
  have := StrLaws.reprText_len x h.cp
  have := h.ln
  rw [PyData.shown_str]
  omega
theorem strLen_app (x y : Str) : (x ++ y).length = x.length + y.length := by
  first | exact StrLaws.strLen_append x y | exact strLen_append x y
theorem Sx.dict {x : Str} {i : Int} (hx : TxOk x) (h0 : -9 ≤ i) (h1 : i < 991) : Sx 1 600 (.dict [(.str x, .int i)]) := by
  have a := Sx.str hx
  have b := Sx.int h0 h1
  refine ⟨?_, Nat.le_refl _, ?_⟩
  · show ((PyData.str x).showable && (PyData.int i).showable && true) = true
    rw [a.sh, b.sh]
    rfl
  · have := dictText_len_le (PyData.shownKv [(.str x, .int i)])
    have e : ((PyData.shownKv [(.str x, .int i)]).map (·.length)).sum = ((PyData.str x).shown ++ ": " ++ (PyData.int i).shown).length + 0 := rfl
    have e2 : (": " : Str).length = 2 := rfl
    have l : (PyData.shownKv [(PyData.str x, PyData.int i)]).length = 1 := rfl
    rw [e, strLen_app, strLen_app, e2, l] at this
    have := a.ln
    have := b.ln
    show (dictText (PyData.shownKv [(.str x, .int i)])).length ≤ 600
    omega
theorem hasDict_rep {d : PyData} : ∀ n, PyData.hasDictAll (List.replicate n d) = true → d.hasDict = true
  | 0, h => by cases h
  | n + 1, h => by
    have h' : (d.hasDict || PyData.hasDictAll (List.replicate n d)) = true := h
    cases e : d.hasDict with
    | true => rfl
    | false =>
      rw [e, Bool.false_or] at h'
      exact e.symm.trans (hasDict_rep n h')
def Th (K : PySem.W.Frag) (H : Hp) (v : V) : Prop := ∃ d, Sx 6 5000 d ∧ ∀ H', Same H H' → RdV K H' v d
theorem Th.same {H H' : Hp} {v : V} (h : Th K H v) (s : Same H H') : Th K H' v := by
  obtain ⟨d, a, b⟩ := h
  exact ⟨d, a, fun H2 s2 => b H2 (s.trans s2)⟩
theorem show20 {H : Hp} {l : Addr} {v : V} {d : PyData} {Q : VK} (a : Sx 6 5000 d) (b : RdV K H v d) (n : l ≠ sysModules) (h : H l = some (.lst (List.replicate 20 v))) (q : Q (.str (PyData.list (List.replicate 20 d)).shown) H) : rShowR K [.ref l] H Q := by
  have s := Sx.list (k := 6) (N := 5000) (ds := List.replicate 20 d) fun x hx => by rw [List.eq_of_mem_replicate hx]; exact a
  rw [List.length_replicate] at s
  exact ⟨l, 20, v, d, rfl, n, h, b, s.sh, hasDict_rep 20, Nat.le_trans s.dp (by decide), Nat.le_trans s.ln (by decide), q⟩
end
end Tt
set_option maxRecDepth 100000
set_option maxHeartbeats 4000000
namespace Tt
open PySem L2
section
variable {P : Program} {w : World} {K : PySem.W.Frag} {mg : Str → Option Value} {base : Heap}
theorem nil_i {σ : L2.St} {H : Hp} {Q : List V → Hp → Prop} (h : Q [] H) : tNil σ H Q := h
theorem dpAll_bl (H : Hp) : ∀ bs : List Bool, DpAll K H (bs.map V.bl) (bs.map PyData.bool)
  | [] => .nil
  | b :: bs => .cons (.bl b) (dpAll_bl H bs)
theorem shapedAll_bl : ∀ bs : List Bool, SeqAt.shaped (.list (bs.map PyData.bool)) = true
  | [] => by first | rfl | decide
  | a :: l => by
    have h := shapedAll_bl l
    first | exact h | (simp [SeqAt.shaped] at h ⊢; exact h)
theorem eqv_bl : ∀ bs : List Bool, PyData.eqv (.list (bs.map PyData.bool)) (.list (bs.map PyData.bool)) = true
  | [] => by first | rfl | simp [PyData.eqv]
  | a :: l => by
    have h := eqv_bl l
    first | (cases a <;> exact h) | (cases a <;> simp [PyData.eqv] at h ⊢ <;> exact h)
theorem law_body (T : Txt K mg) {cdv : Value} {A : Around} {outer : List Env} {s : Shared} {H : Hp} {E : XK} {Q : VK} {a : Addr} {zs : List Int} (hA : A.guards = some []) (hr : Room 14 (A.deeper (PyProof.Rows.envOfC "law" (defScope s_law) s.heap.objs.size T.law.a cdv)))
    (hs : SqL K H a (zs.map V.int)) (hl : zs.length ≤ 63) (k : ∀ H', Q (.bl true) H') :
    ∃ t, PSs (cxOf CX0 P w K mg base N_law "law" (defScope s_law) T.law.a cdv A outer s H E).nox (defBody s_law) t ∧ t { nx := fun _ H' => Q .non H', rt := Q } (L2.start N_law [.ref a]) H := by
  have nd := sc_law.nd
  have hg : (cxOf CX0 P w K mg base N_law "law" (defScope s_law) T.law.a cdv A outer s H E).nox.A.guards = some [] := hA
  have hu := hu_of hr
  refine ⟨_, (pss_cons (ps_set (i := 1) nd rfl (Or.inr rfl) (pe_call (ok_l_begun T) (hr.mono (by decide)) (by rfl) T.l_begun.g T.l_begun.k T.l_begun.b .nil pass0 (pa_cons (pv 0) pa_nil)))
    (pss_cons (ps_set (i := 2) nd rfl (Or.inl rfl) (pe_op op_sub (pe_call (ok_l_take T) (hr.mono (by decide)) (by rfl) T.l_take.g T.l_take.k T.l_take.b .nil pass0 (pa_cons (pv 1) (pa_cons pe_int pa_nil))) pe_int))
    (pss_cons (ps_set (i := 3) nd rfl (Or.inl rfl) (pe_join pe_str (pe_lc (own := [("turn", 8)]) (g := gName 8) rfl nd (pi_range1 rfl T.zrange (pa_cons (pe_call (ok_l_take T) (hr.mono (by decide)) (by rfl) T.l_take.g T.l_take.k T.l_take.b .nil pass0 (pa_cons (pv 1) (pa_cons pe_int pa_nil))) pa_nil)) (blkOk_by (own := [("turn", 8)]) (N := N_law) (sc := defScope s_law) (by decide +kernel)) (fun _ _ _ _ _ => pg_name (i := 8) nd rfl (Or.inl rfl)) (fun _ _ _ _ _ => pts_nil) (fun _ _ _ _ _ => (pe_call (ok_l_pick T) (hr.mono (by decide)) (by rfl) T.l_pick.g T.l_pick.k T.l_pick.b .nil pass0 (pa_cons (pv 1) (pa_cons (pe_lst (pa_cons pe_str (pa_cons pe_str (pa_cons pe_str (pa_cons pe_str (pa_cons pe_str pa_nil)))))) pa_nil)))))))
    (pss_cons (ps_set (i := 4) nd rfl (Or.inl rfl) (pe_op op_cat (pe_call (ok_l_plain T) (hr.mono (by decide)) (by rfl) T.l_plain.g T.l_plain.k T.l_plain.b .nil pass0 (pa_cons (pv 3) pa_nil)) (pe_call (ok_l_made T) (hr.mono (by decide)) (by rfl) T.l_made.g T.l_made.k T.l_made.b .nil pass0 (pa_cons (pe_call (ok_l_pick T) (hr.mono (by decide)) (by rfl) T.l_pick.g T.l_pick.k T.l_pick.b .nil pass0 (pa_cons (pv 1) (pa_cons (pe_lst (pa_cons (pv 2) (pa_cons (pv 3) (pa_cons pe_non (pa_cons (pe_tup (pa_cons (pv 2) (pa_cons (pv 3) pa_nil))) pa_nil))))) pa_nil))) pa_nil))))
    (pss_cons (ps_for PassesOwn.never rfl (pi_enum (by rfl) T.zenumerate (pa_cons (pv 4) pa_nil)) (pg_tup rfl (pgs_cons (pg_name (i := 5) nd rfl (Or.inr rfl)) (pgs_cons (pg_name (i := 6) nd rfl (Or.inl rfl)) pgs_nil)))
      (pss_cons (ps_if (PW.pt (pw_or (pt_not (pt_val (pe_callB call_isA (by rfl) T.zisinstance (by decide +kernel) (pa_cons (pv 6) (pa_cons (pe_glob (v := .ref T.RoundError.C) rfl T.RoundError.g rfl) pa_nil))))) (pw_or1 (pt_not (pt_val (pe_callB call_isA (by rfl) T.zisinstance (by decide +kernel) (pa_cons (pv 6) (pa_cons (pe_bltn (v := .ty "ValueError") (by rfl) T.zValueError (by decide +kernel) rfl) pa_nil))))))))
        (pss_one (ps_ret pe_bl))
        pss_nil)
      (pss_one (ps_if (pt_cmpR (op_neD hr.units) (pe_call (ok_l_kinds T) (hr.mono (by decide)) (by rfl) T.l_kinds.g T.l_kinds.k T.l_kinds.b .nil pass0 (pa_cons (pv 6) pa_nil)) (pe_lc (own := [("spot", 9)]) (g := gName 9) rfl nd (pi_range1 rfl T.zrange (pa_cons (pe_callB call_len_seq (by rfl) T.zlen (by decide +kernel) (pa_cons (pv 4) pa_nil)) pa_nil)) (blkOk_by (own := [("spot", 9)]) (N := N_law) (sc := defScope s_law) (by decide +kernel)) (fun _ _ _ _ _ => pg_name (i := 9) nd rfl (Or.inl rfl)) (fun _ _ _ _ _ => pts_nil) (fun _ _ _ _ _ => (pe_cmpR op_eq (pv 9) (pv 5) (nomark _)))) (nomark _))
        (pss_one (ps_ret pe_bl))
        pss_nil))))
    (pss_cons (ps_for PassesOwn.never rfl (pi_list (pe_lst (pa_cons (pv 2) (pa_cons (pv 3) (pa_cons pe_non (pa_cons pe_bl (pa_cons (pe_tup (pa_cons (pv 2) (pa_cons (pe_tup (pa_cons (pv 3) pa_nil)) pa_nil))) (pa_cons (pe_lst (pa_cons (pv 2) pa_nil)) (pa_cons (pe_disp (pps_cons (pv 3) (pv 2) pps_nil) (by rfl) (by rfl) (fun z => by cases z) (by decide)) (pa_cons (pe_op op_add (pe_op op_pow pe_int pe_int) (pv 2)) (pa_cons pe_str pa_nil))))))))))) (pg_name (i := 7) nd rfl (Or.inl rfl))
      (pss_one (ps_if (pt_cmpR op_ne (pe_callB (call_showR hg hr.units) (by rfl) T.zrepr (by decide +kernel) (pa_cons (pe_call (ok_l_kept T) (hr.mono (by decide)) (by rfl) T.l_kept.g T.l_kept.k T.l_kept.b .nil pass0 (pa_cons (pv 7) pa_nil)) pa_nil)) (pe_callB (call_showR hg hr.units) (by rfl) T.zrepr (by decide +kernel) (pa_cons (pe_op op_repP (pe_lst (pa_cons (pv 7) pa_nil)) pe_int) pa_nil)) (nomark _))
        (pss_one (ps_ret pe_bl))
        pss_nil)))
    (pss_one (ps_ret (pe_call (ok_l_taken T) (hr.mono (by decide)) (by rfl) T.l_taken.g T.l_taken.k T.l_taken.b .nil pass0 (pa_cons (pv 3) (pa_cons (pv 2) pa_nil))))))))))), ?_⟩
  refine ⟨_, rfl, a, zs, rfl, hs, hl, fun D H1 d1 s1 => ?_⟩
  refine ⟨_, rfl, D, 1000, rfl, by decide, by decide, d1, fun n0 H2 n1 n2 d2 k2 => ⟨_, _, rfl, rfl, ?_⟩⟩
  show gName 2 (.int (n0 - 9)) _ _ _
  have b0 : -9 ≤ n0 - 9 := by omega
  have b1 : n0 - 9 < 991 := by omega
  generalize n0 - 9 = n at b0 b1 ⊢
  clear n1 n2 k2 d1 s1
  refine ⟨⟨_, rfl⟩, _, rfl, D, 9, rfl, by decide, by decide, d2, fun m H3 m0 m1 d3 k3 => ⟨m, rfl, by omega, by omega, fun D1 hD1 => ?_⟩⟩
  have off1 : Off D D1 := d3.off hD1
  refine lc_range (lo := 0) (n := m.toNat) (fun i H' => ∃ ys : List Str, ys.length ≤ i ∧ (∀ y ∈ ys, y.length ≤ 2 ∧ ∀ c ∈ y.cps.toList, c < 16 ^ 8) ∧ H' D1 = some (.lst (ys.map V.str)) ∧ DrOk D H')
    ⟨[], Nat.le_refl _, (fun _ h => nomatch h), upd_same, d3.new hD1⟩ ?_ ?_
  · rintro i H' hi ⟨ys, ly, hy, h1, dd⟩
    refine ⟨rfl, yes_t ?_⟩
    refine ⟨_, rfl, (by show 5 ≤ sizeLine; decide), fun l1 hl1 => ⟨D, l1, _, rfl, .inl (SqL.of upd_same), (dd.off hl1).2.1, by simp, (by show 5 < 1073741824; decide), dd.new hl1, fun j x H4 hj d4 k4 => ?_⟩⟩
    obtain ⟨y, rfl, hy2⟩ : ∃ y, x = V.str y ∧ y.length ≤ 2 ∧ ∀ c ∈ y.cps.toList, c < 16 ^ 8 := by
      have hx := List.mem_of_getElem? hj
      simp only [List.mem_cons, List.not_mem_nil, or_false] at hx
      rcases hx with rfl | rfl | rfl | rfl | rfl
      · exact ⟨_, rfl, by decide +kernel, by decide +kernel⟩
      · exact ⟨_, rfl, by decide +kernel, by decide +kernel⟩
      · exact ⟨_, rfl, by decide +kernel, by decide +kernel⟩
      · exact ⟨_, rfl, by decide +kernel, by decide +kernel⟩
      · exact ⟨_, rfl, by decide +kernel, by decide +kernel⟩
    refine ⟨_, k4.at off1 (nw hl1 _ _ h1), by rw [List.length_map]; exact small1000 (by omega), ?_⟩
    refine ⟨ys ++ [y], by rw [List.length_append]; show ys.length + 1 ≤ i + 1; omega, fun z hz => ?_, ?_, d4.put off1⟩
    · rcases List.mem_append.mp hz with hz | hz
      · exact hy z hz
      · rw [List.mem_singleton.mp hz]
        exact hy2
    · rw [upd_same, List.map_append]
      rfl
  rintro H' ⟨ys, ly, hy, h1, dd⟩
  have l8 : ys.length ≤ 8 := by omega
  have sm := sum_le2 ys fun y hz => (hy y hz).1
  refine ⟨"", D1, ys, rfl, rfl, .inl (SqL.of h1), by have e0 : ("" : Str).length = 0 := rfl; rw [e0]; omega, ?_⟩
  have tx := txok_join hy l8
  generalize Txt.join "" ys = x at tx ⊢
  clear sm l8 hy ly h1 off1 hD1 d3 d2 k3
  refine ⟨_, rfl, _, rfl, fun l1 xs1 H4 nl1 s4 e4 len4 er4 => ?_⟩
  have d4 := dd.same s4
  have o1 := dd.off nl1
  refine ⟨_, rfl, _, rfl, _, rfl, _, rfl, _, rfl, (by show 2 ≤ sizeLine; decide), fun t ht => ⟨(by show 4 ≤ sizeLine; decide), fun l2 hl2 => ?_⟩⟩
  have s5 : Same H4 (upd (upd H4 t (.tup [.int n, .str x])) l2 (.lst [.int n, .str x, .non, .ref t])) := fun b o e => nw hl2 _ _ (nw ht _ _ e)
  have d5 := d4.same s5
  refine ⟨D, l2, _, rfl, .inl (SqL.of upd_same), ((d4.new ht).off hl2).2.1, by simp, (by show 4 < 1073741824; decide), d5, fun j v H7 hj d7 k7 => ⟨v, rfl, fun l3 xs3 H8 nl3 s8 e8 len8 er8 => ⟨l1, l3, xs1, xs3, rfl, rfl, s8 _ _ (k7.at o1 (s5 _ _ e4)), e8, (by rw [len4, len8]; decide), fun p hp => ?_⟩⟩⟩
  have erA : ErrsAt T H8 0 (xs1 ++ xs3) := ErrsAt.app (((er4.same s5).kp d5 k7).same s8) (by rw [len4]; exact er8)
  have lA : (xs1 ++ xs3).length = 20 := by rw [List.length_append, len4, len8]
  generalize xs1 ++ xs3 = L at erA lA ⊢
  have er9 := erA.same (nw (o := .lst L) hp)
  have e9 : (upd H8 p (.lst L)) p = some (.lst L) := upd_same
  generalize upd H8 p (.lst L) = H9 at er9 e9 ⊢
  clear erA nl3 s8 e8 len8 er8 hj d7 k7 d5 s5 hl2 ht o1 d4 nl1 s4 e4 len4 er4 dd hp
  refine ⟨_, rfl, p, _, rfl, SqL.of e9, ?_⟩
  refine for_it (walk_enum (K := K) (a := p) (xs := L)) (fun i σ H' => ∃ v5 v6, σ = [some (.ref a), some (.ref D.d), some (.int n), some (.str x), some (.ref p), v5, v6, none, none, none] ∧ H' p = some (.lst L) ∧ ErrsAt T H' 0 L)
    ⟨none, none, rfl, e9, er9⟩ (fun i σ H' _ ⟨_, _, _, h, _⟩ => SqL.of h) ?_ ?_
  · rintro i y σ H5 H6 hi ⟨v5, v6, rfl, hp, er⟩ ⟨t, yi, yx, rfl, ht, rfl, e1, e2⟩
    cases e1
    have er6 := er.same (nw (o := .tup [.int (i : Int), yx]) ht)
    have hp6 := nw (o := .tup [.int (i : Int), yx]) ht _ _ hp
    refine ⟨t, _, rfl, SqT.of upd_same, rfl, _, _, rfl, _, _, rfl, rfl, ?_⟩
    generalize upd H5 t (.tup [.int (i : Int), yx]) = H6 at er6 hp6 ⊢
    have ea : ErrAt T H6 yx i := by
      have := er6.get e2
      rw [Nat.zero_add] at this
      exact this
    have i20 : i < 20 := by omega
    dsimp only [tSeq]
    refine ⟨_, rfl, isA_err ea i20 (.own T.RoundError.C) (kkR T i i20) ⟨true, rfl, iteF ⟨_, rfl, isA_err ea i20 (.ty "ValueError") (kkV T i i20) ⟨true, rfl, iteF ?_⟩⟩⟩⟩
    refine ⟨_, rfl, yx, i, rfl, i20, ea, fun l H7 s7 e7 => ?_⟩
    have hp7 := s7 _ _ hp6
    have er7 := er6.same s7
    refine ⟨_, rfl, p, _, rfl, .inl (SqL.of hp7), _, rfl, by omega, by omega, fun D1 hD1 => ?_⟩
    refine lc_range (lo := 0) (n := (L.length : Int).toNat) (fun j H' => H' D1 = some (.lst (((List.range j).map fun j => decide (j = i)).map V.bl)) ∧ Same H7 H')
      ⟨upd_same, nw hD1⟩ ?_ ?_
    · rintro j H' hj ⟨h1, sm⟩
      refine ⟨rfl, yes_t ?_⟩
      have j20 : j < 20 := by omega
      refine ⟨_, rfl, _, rfl, rfl, _, h1, (by rw [List.length_map, List.length_map, List.length_range]; exact small1000 (by omega)), ?_, fun b o e => ?_⟩
      · rw [upd_same, List.range_succ, List.map_append, List.map_append]
        have e3 : decide (V.int (0 + (j : Int)) = V.int (i : Int)) = decide (j = i) := by
          by_cases z : j = i
          · rw [z, decide_eq_true rfl, decide_eq_true (by rw [Int.zero_add])]
          · rw [decide_eq_false z, decide_eq_false (fun q => z (by have := V.int.inj q; omega))]
        have e4 : (V.bl (decide (V.int (0 + (j : Int)) = V.int (i : Int)))) = V.bl (decide (j = i)) := by rw [e3]
        exact congrArg (fun z => some (HO.lst (_ ++ [z]))) e4
      · rw [upd_ne (ne_of_none e hD1)]
        exact sm _ _ e
    · rintro H' ⟨h1, sm⟩
      rw [lA] at h1
      have e8 : H' l = some (.lst (((List.range 20).map fun j => decide (j = i)).map V.bl)) := by
        rw [List.map_map]
        exact sm _ _ e7
      refine ⟨_, _, .lst (SqL.of e8) (dpAll_bl _ _), .lst (SqL.of h1) (dpAll_bl _ _), shapedAll_bl _, shapedAll_bl _, _, rfl, ite2 (fun c => absurd c (by rw [show ((20 : Nat) : Int).toNat = 20 from rfl, eqv_bl]; decide)) (fun _ => ?_)⟩
      exact ⟨_, _, rfl, sm _ _ hp7, er7.same sm⟩
  · rintro σ H6 ⟨v5, v6, rfl, hp, er⟩
    dsimp only [tSeq]
    clear er9 e9 hp er lA
    refine ⟨_, rfl, _, rfl, _, rfl, _, rfl, (by show 1 ≤ sizeLine; decide), fun t1 ht1 => ⟨(by show 2 ≤ sizeLine; decide), fun t2 ht2 => ?_⟩⟩
    refine ⟨_, rfl, (by show 1 ≤ sizeLine; decide), fun t3 ht3 => fun d hd => ⟨_, rfl, _, rfl, upd_same, [(Sum.inr x, .int n)], rfl, (by show 1 ≤ 15; decide), ?_⟩⟩
    have e1 : (upd H6 t1 (.tup [V.str x])) t1 = some (.tup [.str x]) := upd_same
    generalize upd H6 t1 (.tup [V.str x]) = H7 at e1 ht2 ht3 hd ⊢
    have e2 : (upd H7 t2 (.tup [V.int n, V.ref t1])) t2 = some (.tup [.int n, .ref t1]) := upd_same
    replace e1 := nw (o := .tup [V.int n, V.ref t1]) ht2 _ _ e1
    generalize upd H7 t2 (.tup [V.int n, V.ref t1]) = H8 at e1 e2 ht3 hd ⊢
    have e3 : (upd H8 t3 (.lst [V.int n])) t3 = some (.lst [.int n]) := upd_same
    replace e1 := nw (o := .lst [V.int n]) ht3 _ _ e1
    replace e2 := nw (o := .lst [V.int n]) ht3 _ _ e2
    generalize upd H8 t3 (.lst [V.int n]) = H9 at e1 e2 e3 hd ⊢
    have ed : (upd (upd H9 d (.dK [])) d (.dK (mergeK [] [(Sum.inr x, V.int n)]))) d = some (.dK [(Sum.inr x, .int n)]) := upd_same
    have sd : Same H9 (upd (upd H9 d (.dK [])) d (.dK (mergeK [] [(Sum.inr x, V.int n)]))) := fun b o e => by
      rw [upd_ne (ne_of_none e hd), upd_ne (ne_of_none e hd)]
      exact e
    replace e1 := sd _ _ e1
    replace e2 := sd _ _ e2
    replace e3 := sd _ _ e3
    generalize upd (upd H9 d (.dK [])) d (.dK (mergeK [] [(Sum.inr x, V.int n)])) = H10 at e1 e2 e3 ed ⊢
    refine ⟨_, _, rfl, rfl, ⟨by decide, by decide, by decide⟩, _, rfl, _, _, rfl, rfl, (by show 9 ≤ sizeLine; decide), fun l hl => ⟨l, rfl, ⟨_, SqL.of upd_same⟩, ?_⟩⟩
    show ∃ W, _
    have el : (upd H10 l (.lst [.int n, .str x, .non, .bl true, .ref t2, .ref t3, .ref d, .int (10 ^ 30 + n), .str ""])) l = some (.lst [.int n, .str x, .non, .bl true, .ref t2, .ref t3, .ref d, .int (10 ^ 30 + n), .str ""]) := upd_same
    have sl : Same H10 (upd H10 l (.lst [.int n, .str x, .non, .bl true, .ref t2, .ref t3, .ref d, .int (10 ^ 30 + n), .str ""])) := nw hl
    have ek : upd H10 l (.lst [.int n, .str x, .non, .bl true, .ref t2, .ref t3, .ref d, (fun i j : Int => V.int (i + j)) (10 ^ (30 : Int).toNat) n, .str ""]) = upd H10 l (.lst [.int n, .str x, .non, .bl true, .ref t2, .ref t3, .ref d, .int (10 ^ 30 + n), .str ""]) := rfl
    replace e1 := sl _ _ e1
    replace e2 := sl _ _ e2
    replace e3 := sl _ _ e3
    replace ed := sl _ _ ed
    have fin : ∀ HH, upd H10 l (.lst [.int n, .str x, .non, .bl true, .ref t2, .ref t3, .ref d, .int (10 ^ 30 + n), .str ""]) = HH → True := fun _ _ => trivial
    have th : ∀ v, v ∈ ([.int n, .str x, .non, .bl true, .ref t2, .ref t3, .ref d, .int (10 ^ 30 + n), .str ""] : List V) → Th K (upd H10 l (.lst [.int n, .str x, .non, .bl true, .ref t2, .ref t3, .ref d, .int (10 ^ 30 + n), .str ""])) v := fun v hv => by
      generalize upd H10 l (.lst [.int n, .str x, .non, .bl true, .ref t2, .ref t3, .ref d, .int (10 ^ 30 + n), .str ""]) = HH at e1 e2 e3 ed ⊢
      simp only [List.mem_cons, List.not_mem_nil, or_false] at hv
      rcases hv with rfl | rfl | rfl | rfl | rfl | rfl | rfl | rfl | rfl
      · exact ⟨_, (Sx.int b0 b1).mono (by decide) (by decide), fun _ _ => .dp (.int n) rfl⟩
      · exact ⟨_, (Sx.str tx).mono (by decide) (by decide), fun _ _ => .dp (.str x) rfl⟩
      · exact ⟨.none, ⟨rfl, by decide, by decide +kernel⟩, fun _ _ => .dp .non rfl⟩
      · exact ⟨.bool true, ⟨rfl, by decide, by decide +kernel⟩, fun _ _ => .dp (.bl true) rfl⟩
      · refine ⟨.tuple [.int n, .tuple [.str x]], ?_, fun H' s => .dp (.tup (SqT.of (s _ _ e2)) (.cons (.int n) (.cons (.tup (SqT.of (s _ _ e1)) (.cons (.str x) .nil)) .nil))) rfl⟩
        have a1 : Sx 1 205 (.tuple [.str x]) := Sx.tuple (ds := [.str x]) fun d hd => by rw [List.mem_singleton.mp hd]; exact Sx.str tx
        have a2 : Sx 2 417 (.tuple [.int n, .tuple [.str x]]) := Sx.tuple (k := 1) (N := 205) (ds := [.int n, .tuple [.str x]]) fun d hd => by
          rcases List.mem_cons.mp hd with rfl | hd
          · exact (Sx.int b0 b1).mono (by decide) (by decide)
          · rw [List.mem_singleton.mp hd]
            exact a1
        exact a2.mono (by decide) (by decide)
      · refine ⟨.list [.int n], ?_, fun H' s => .dp (.lst (SqL.of (s _ _ e3)) (.cons (.int n) .nil)) rfl⟩
        have a1 : Sx 1 205 (.list [.int n]) := Sx.list (ds := [.int n]) fun d hd => by rw [List.mem_singleton.mp hd]; exact Sx.int b0 b1
        exact a1.mono (by decide) (by decide)
      · exact ⟨_, (Sx.dict tx b0 b1).mono (by decide) (by decide), fun H' s => RdV.dic (s _ _ ed)⟩
      · exact ⟨_, (Sx.big b0 b1).mono (by decide) (by decide), fun _ _ => .dp (.int (10 ^ 30 + n)) rfl⟩
      · exact ⟨.str "", ⟨rfl, by decide, by decide +kernel⟩, fun _ _ => .dp (.str "") rfl⟩
    clear fin ek
    show ∃ W : Nat → Nat → L2.St → Hp → Prop, (∃ m, W 0 m _ (upd H10 l (.lst [.int n, .str x, .non, .bl true, .ref t2, .ref t3, .ref d, .int (10 ^ 30 + n), .str ""]))) ∧ _
    generalize upd H10 l (.lst [.int n, .str x, .non, .bl true, .ref t2, .ref t3, .ref d, .int (10 ^ 30 + n), .str ""]) = HH at th el ⊢
    generalize ([.int n, .str x, .non, .bl true, .ref t2, .ref t3, .ref d, .int (10 ^ 30 + n), .str ""] : List V) = Xs at th el
    refine for_list (K := K) (a := l) (xs := Xs) (fun i σ H' => ∃ v7, σ = [some (.ref a), some (.ref D.d), some (.int n), some (.str x), some (.ref p), v5, v6, v7, none, none] ∧ Same HH H')
      ⟨none, rfl, fun _ _ e => e⟩ (fun i σ H' _ ⟨_, _, s⟩ => SqL.of (s _ _ el)) ?_ ?_
    · rintro i v σ H' hi ⟨v7, rfl, sm⟩
      obtain ⟨dd, sx, rd⟩ := th v (List.mem_of_getElem? hi)
      refine ⟨_, rfl, v, rfl, fun lk Hk sk nk ek => nil_i (show20 sx (rd _ (sm.trans sk)) nk ek ?_)⟩
      refine ⟨_, rfl, (by show 1 ≤ sizeLine; decide), fun q hq => ⟨q, 20, [v], rfl, rfl, upd_same, by decide, by decide, (by show 1 * 20 ≤ sizeLine; decide), fun r hr' nr => ?_⟩⟩
      have sr : Same HH (upd (upd Hk q (.lst [v])) r (.lst (List.replicate (20 : Int).toNat [v]).flatten)) := fun b o e => nw hr' _ _ (nw hq _ _ (sk _ _ (sm _ _ e)))
      refine nil_i (show20 sx (rd _ sr) nr (by rw [upd_same]; rfl) ⟨rfl, _, rfl, ite2 (fun c => absurd c (by simp)) (fun _ => ⟨_, rfl, sr⟩)⟩)
    · rintro σ H' ⟨v7, rfl, sm⟩
      exact ⟨_, rfl, _, rfl, _, n, rfl, fun H' => k H'⟩
end
end Tt
set_option maxRecDepth 100000
set_option maxHeartbeats 4000000
namespace Tt
open PySem PySem.Spec PyProof.Rows L2
open LamX (TabB)
def firstH (a : Addr) (ts : List (Addr × Addr)) (u : Option HO) : Hp := fun b => if b = a then u else if b ∈ ts.map (·.2) then some (.tbl #[]) else none
theorem firstH_a {a : Addr} {ts : List (Addr × Addr)} {u : Option HO} : firstH a ts u a = u := if_pos rfl
theorem firstH_t {a t : Addr} {ts : List (Addr × Addr)} {u : Option HO} (n : t ≠ a) (h : t ∈ ts.map (·.2)) : firstH a ts u t = some (.tbl #[]) := (if_neg n).trans (if_pos h)
theorem firstH_o {a b : Addr} {ts : List (Addr × Addr)} {u : Option HO} (n : b ≠ a) (m : b ∉ ts.map (·.2)) : firstH a ts u b = none := (if_neg n).trans (if_neg m)
theorem law_run {P : Program} {w : World} {K : PySem.W.Frag} {mg mb : Str → Option Value} {fa a : Addr} {ts : List (Addr × Addr)} {s₁ : Shared} {vs : List Value} {ns : List Int}
    (KX : K.In s₁.heap) (hg : s₁.heap.Ns mainGlobals mg) (hb : s₁.heap.Ns builtinsNs mb) (hbb : ∀ x : Str, x ≠ "__name__" → mb x = bootBuiltins x) (lim : s₁.heap.NoLimit) (gens : s₁.gens = #[])
    (hts : ∀ p ∈ ts, s₁.heap.get? p.2 = some { cls := .none, data := .fields #[] } ∧ K.lookup p.2 = none ∧ PySem.W.CodeHd s₁.heap p.1 p.2)
    (bmain : ∃ (bm : Addr) (ob : Obj), mg "__builtins__" = some (.ref bm) ∧ bm ≠ builtinsNs ∧ s₁.heap.get? bm = some ob ∧ ob.cls = .type "module" ∧ ob.dict = some builtinsNs ∧ ob.data = .plain)
    (ha : s₁.heap.get? a = some { cls := .type "list", data := .seq vs.toArray }) (hi : IntsAre vs ns) (hl : ns.length ≤ sizeLine)
    (run : ∀ (base : Heap) (H : Hp), (∀ p ∈ ts, TabB base mg p.1 p.2) → Env0 P w K mg base callerA [] s₁ H → (∀ p ∈ ts, H p.2 = some (.tbl #[])) → SqL K H a (ns.map V.int) → codeAny (model P w) callerA (.call (.ref fa) ⟨[.ref a], []⟩) (CR CX0 [] P w H s₁ (fun v _ => v = .bl true) E0) s₁) :
    codeAny (model P w) callerA (.call (.ref fa) ⟨[.ref a], []⟩) (fun r s' => r = .ok (.ret (.bool true)) ∧ OldK s₁.heap s'.heap ∧ s'.os = s₁.os ∧ AllBare s'.gens) s₁ := by
  have rv := vals_ints hi
  have mem : ∀ {t : Addr}, t ∈ ts.map (·.2) → ∃ c, (c, t) ∈ ts := fun {t} h => by
    obtain ⟨⟨c, t'⟩, h1, rfl⟩ := List.mem_map.mp h
    exact ⟨c, h1⟩
  have nta : ∀ t ∈ ts.map (·.2), t ≠ a := fun t ht z => by
    obtain ⟨c, hc⟩ := mem ht
    have h1 := (hts _ hc).1
    rw [z, ha] at h1
    have z' : Data.seq vs.toArray _ = Data.fields #[] := congrArg Obj.data (Option.some.inj h1)
    cases z'
  obtain ⟨u, hu, hS, hK⟩ : ∃ u : Option HO, (u = none ∨ u = some (.frz { cls := .type "list", data := .seq vs.toArray } (.lst (ns.map V.int)))) ∧ SqL K (firstH a ts u) a (ns.map V.int) ∧ (u ≠ none → K.lookup a = none) := by
    cases hk : K.lookup a with
    | none => exact ⟨_, .inr rfl, .inl (.inr ⟨_, firstH_a⟩), fun _ => rfl⟩
    | some o =>
      have e := KX a o hk
      rw [ha] at e
      cases e
      exact ⟨none, .inl rfl, .inr ⟨_, vs.toArray, _, hk, rfl, rfl, rfl, by rw [List.size_toArray, hi.length]; exact hl, by simpa using rv⟩, fun z => absurd rfl z⟩
  have hT : ∀ t ∈ ts.map (·.2), firstH a ts u t = some (.tbl #[]) := fun t ht => firstH_t (nta t ht) ht
  have look : ∀ b x, firstH a ts u b = some x → (b = a ∧ u = some x) ∨ (b ∈ ts.map (·.2) ∧ x = .tbl #[]) := fun b x e => by
    by_cases h1 : b = a
    · subst h1
      exact .inl ⟨rfl, firstH_a.symm.trans e⟩
    · by_cases h2 : b ∈ ts.map (·.2)
      · rw [hT b h2] at e
        exact .inr ⟨h2, (Option.some.inj e).symm⟩
      · rw [firstH_o h1 h2] at e
        cases e
  generalize hH : firstH a ts u = H at hS hT look
  have free : ∀ {b : Addr} {o : Obj}, s₁.heap.get? b = some o → (∀ vs n, o.data ≠ .seq vs n) → o.data ≠ .fields #[] → H b = none := fun {b o} e h1 h2 => by
    cases q : H b with
    | none => rfl
    | some x =>
      rcases look b x q with ⟨rfl, _⟩ | ⟨hb, _⟩
      · rw [ha] at e
        cases e
        exact (h1 _ _ rfl).elim
      · obtain ⟨c, hc⟩ := mem hb
        rw [(hts _ hc).1] at e
        cases e
        exact (h2 rfl).elim
  have dict : ∀ {b : Addr} {m : Str → Option Value}, s₁.heap.Ns b m → (hidT s₁.heap H).Ns b m := fun {b m} ⟨o, es, ep, e, d, r⟩ =>
    ⟨o, es, ep, hidT_get e (free e (fun _ _ z => by rw [d] at z; cases z) (fun z => by rw [d] at z; cases z)), d, r⟩
  have kin : K.In (hidT s₁.heap H) := fun b o e => hidT_get (KX b o e) (by
    cases q : H b with
    | none => rfl
    | some x =>
      rcases look b x q with ⟨rfl, hx⟩ | ⟨hb, _⟩
      · rw [hK (by rw [hx]; simp)] at e
        cases e
      · obtain ⟨c, hc⟩ := mem hb
        rw [(hts _ hc).2.1] at e
        cases e)
  have mod : L2.Mod K mg (hidT s₁.heap H) := ⟨kin, dict hg, ⟨mb, dict hb, hbb⟩, let ⟨mc, h1, h2⟩ := lim; ⟨mc, dict h1, h2⟩⟩
  have TB : ∀ p ∈ ts, TabB (hidT s₁.heap H) mg p.1 p.2 := fun p hp => by
    obtain ⟨ht, nt, C⟩ := hts p hp
    refine ⟨?_, ?_, fun z => ?_⟩
    · obtain ⟨o, us, file, tf, flags, tg, inF, text, tt, e1, r1, r2, r3, rest⟩ := C
      refine ⟨o, us, file, tf, flags, tg, inF, text, tt, hidT_get e1 (free e1 (fun _ _ z => by rw [r2] at z; cases z) fun z => ?_), r1, r2, r3, rest⟩
      rw [r2] at z
      cases z
      simp at r3
    · obtain ⟨bm, ob, b1, b2, b3, b4, b5, b6⟩ := bmain
      refine ⟨bm, ob, b1, b2, fun q => ?_, fun q => ?_, hidT_get b3 (free b3 (fun _ _ z => by rw [b6] at z; cases z) (fun z => by rw [b6] at z; cases z)), b4, b5, b6⟩
      · obtain ⟨o, es, ep, e, hd, _⟩ := hg
        rw [q, e] at b3
        cases b3
        rw [hd] at b6
        cases b6
      · rw [q, ht] at b3
        cases b3
        cases b6
    · obtain ⟨o, es, ep, e, hd, _⟩ := hg
      rw [z, ht] at e
      cases e
      cases hd
  have hok : HOk P w H s₁.heap := fun b x e => by
    rcases look b x e with ⟨rfl, hx⟩ | ⟨hb, rfl⟩
    · rcases hu with rfl | rfl
      · cases hx
      · cases hx
        exact ⟨ha, by rw [List.length_map]; exact hl, vs, _, rv, ha⟩
    · obtain ⟨c, hc⟩ := mem hb
      exact (hts _ hc).1
  have e0 : Env0 P w K mg (hidT s₁.heap H) callerA [] s₁ H := ⟨rfl, mod, fun b o e => of_hidT e, Nat.le_of_eq (hidT_size _ _), trivial, fun b hb => absurd (show b ∈ ([] : List Addr) from hb) (by simp), hok, .of_eq gens⟩
  refine codeAny_mono (run _ H TB e0 (fun p hp => hT _ (List.mem_map_of_mem hp)) hS) fun r s' h => ?_
  match r, h with
  | .error e, h => exact (show False from h).elim
  | .ok .next, h => exact (show False from h).elim
  | .ok .brk, h => exact (show False from h).elim
  | .ok .cont, h => exact (show False from h).elim
  | .ok (.ret v'), h =>
    obtain ⟨v, H', os, bare, un, hok', rr, rfl⟩ := h
    obtain rfl : v' = Value.bool true := rr
    have ends : ∀ t ∈ ts.map (·.2), ∃ more : Array Value, s'.heap.get? t = some { cls := .none, data := .fields more } := fun t ht => by
      obtain ⟨more, e3⟩ := un.tbls t #[] (hT t ht)
      have e4 : s'.heap.get? t = some { cls := .none, data := .fields (#[] ++ more) } := hok' t _ e3
      rw [Array.empty_append] at e4
      exact ⟨more, e4⟩
    have stay : ∀ b o, b ∉ ts.map (·.2) → s₁.heap.get? b = some o → s'.heap.get? b = some o := fun b o nb e => by
      cases q : H b with
      | none => exact un.keep b o e q (fun z => absurd (show b ∈ ([] : List Addr) from z) (by simp)) (by simp)
      | some x =>
        rcases look b x q with ⟨rfl, hx⟩ | ⟨hb, _⟩
        · rcases hu with rfl | rfl
          · cases hx
          · cases hx
            obtain ⟨e1, _⟩ := hok b _ q
            obtain ⟨e2, _⟩ := hok' b _ (un.frzs b _ _ q)
            rw [e] at e1
            cases e1
            exact e2
        · exact absurd hb nb
    refine ⟨rfl, ⟨fun b o e => ?_, fun b o e => ?_⟩, os, bare⟩
    · by_cases nb : b ∈ ts.map (·.2)
      · obtain ⟨c, hc⟩ := mem nb
        obtain ⟨ht, nt, C⟩ := hts _ hc
        obtain ⟨more, e4⟩ := ends b nb
        have ht' : s₁.heap.get? b = some { cls := .none, data := .fields #[] } := ht
        rw [ht'] at e
        cases e
        exact .inr (.inl ⟨(C.tab ht).isCodeTable, rfl, #[], more, rfl, by rw [Array.empty_append]; exact e4⟩)
      · exact .inl (stay b o nb e)
    · by_cases nb : b ∈ ts.map (·.2)
      · obtain ⟨more, e4⟩ := ends b nb
        exact ⟨_, e4⟩
      · exact ⟨o, stay b o nb e⟩
end Tt
set_option maxRecDepth 100000
set_option maxHeartbeats 4000000
namespace Tt
open PySem PySem.Spec PyProof.Rows L2
open LamX (TabB)
theorem all_mk {K : PySem.W.Frag} {h : Heap} {mg : Str → Option Value} {fa  : Addr} (X : K.In h) (G : h.Ns mainGlobals mg) (hfa : mg "law" = some (.ref fa))
    {C_RoundError : Addr}
    {C_BadBridge : Addr}
    {C_BadBundle : Addr}
    {od_BadBundle an_BadBundle : Option Addr} {sl_BadBundle : Array (Option Value)} {oc_BadBundle kV_BadBundle dc_BadBundle pm_BadBundle cd_BadBundle ct_BadBundle : Value} {f_BadBundle : Addr}
    {nm_BadBundle qn_BadBundle : Str} {N_BadBundle : Addr} {bs_BadBundle bm_BadBundle : List Value} {sn_BadBundle : List Str} {sb_BadBundle : List Value} {ab_BadBundle : Bool} {co_BadBundle : Option Bool} {dd_BadBundle : Option Addr} {m0_BadBundle m1_BadBundle m2_BadBundle m3_BadBundle m5_BadBundle : Option Value}
    {C_BadDeed : Addr}
    {C_BadDrawing : Addr}
    {od_BadDrawing an_BadDrawing : Option Addr} {sl_BadDrawing : Array (Option Value)} {oc_BadDrawing kV_BadDrawing dc_BadDrawing pm_BadDrawing cd_BadDrawing ct_BadDrawing : Value} {f_BadDrawing : Addr}
    {nm_BadDrawing qn_BadDrawing : Str} {N_BadDrawing : Addr} {bs_BadDrawing bm_BadDrawing : List Value} {sn_BadDrawing : List Str} {sb_BadDrawing : List Value} {ab_BadDrawing : Bool} {co_BadDrawing : Option Bool} {dd_BadDrawing : Option Addr} {m0_BadDrawing m1_BadDrawing m2_BadDrawing m3_BadDrawing m5_BadDrawing : Option Value}
    {C_BadFan : Addr}
    {od_BadFan an_BadFan : Option Addr} {sl_BadFan : Array (Option Value)} {oc_BadFan kV_BadFan dc_BadFan pm_BadFan cd_BadFan ct_BadFan : Value} {f_BadFan : Addr}
    {nm_BadFan qn_BadFan : Str} {N_BadFan : Addr} {bs_BadFan bm_BadFan : List Value} {sn_BadFan : List Str} {sb_BadFan : List Value} {ab_BadFan : Bool} {co_BadFan : Option Bool} {dd_BadFan : Option Addr} {m0_BadFan m1_BadFan m2_BadFan m3_BadFan m5_BadFan : Option Value}
    {C_BadImages : Addr}
    {C_BadLive : Addr}
    {od_BadLive an_BadLive : Option Addr} {sl_BadLive : Array (Option Value)} {oc_BadLive kV_BadLive dc_BadLive pm_BadLive cd_BadLive ct_BadLive : Value} {f_BadLive : Addr}
    {nm_BadLive qn_BadLive : Str} {N_BadLive : Addr} {bs_BadLive bm_BadLive : List Value} {sn_BadLive : List Str} {sb_BadLive : List Value} {ab_BadLive : Bool} {co_BadLive : Option Bool} {dd_BadLive : Option Addr} {m0_BadLive m1_BadLive m2_BadLive m3_BadLive m5_BadLive : Option Value}
    {C_BadName : Addr}
    {C_BadNumber : Addr}
    {od_BadNumber an_BadNumber : Option Addr} {sl_BadNumber : Array (Option Value)} {oc_BadNumber kV_BadNumber dc_BadNumber pm_BadNumber cd_BadNumber ct_BadNumber : Value} {f_BadNumber : Addr}
    {nm_BadNumber qn_BadNumber : Str} {N_BadNumber : Addr} {bs_BadNumber bm_BadNumber : List Value} {sn_BadNumber : List Str} {sb_BadNumber : List Value} {ab_BadNumber : Bool} {co_BadNumber : Option Bool} {dd_BadNumber : Option Addr} {m0_BadNumber m1_BadNumber m2_BadNumber m3_BadNumber m5_BadNumber : Option Value}
    {C_BadRound : Addr}
    {C_BadRounds : Addr}
    {od_BadRounds an_BadRounds : Option Addr} {sl_BadRounds : Array (Option Value)} {oc_BadRounds kV_BadRounds dc_BadRounds pm_BadRounds cd_BadRounds ct_BadRounds : Value} {f_BadRounds : Addr}
    {nm_BadRounds qn_BadRounds : Str} {N_BadRounds : Addr} {bs_BadRounds bm_BadRounds : List Value} {sn_BadRounds : List Str} {sb_BadRounds : List Value} {ab_BadRounds : Bool} {co_BadRounds : Option Bool} {dd_BadRounds : Option Addr} {m0_BadRounds m1_BadRounds m2_BadRounds m3_BadRounds m5_BadRounds : Option Value}
    {C_BadSkin : Addr}
    {od_BadSkin an_BadSkin : Option Addr} {sl_BadSkin : Array (Option Value)} {oc_BadSkin kV_BadSkin dc_BadSkin pm_BadSkin cd_BadSkin ct_BadSkin : Value} {f_BadSkin : Addr}
    {nm_BadSkin qn_BadSkin : Str} {N_BadSkin : Addr} {bs_BadSkin bm_BadSkin : List Value} {sn_BadSkin : List Str} {sb_BadSkin : List Value} {ab_BadSkin : Bool} {co_BadSkin : Option Bool} {dd_BadSkin : Option Addr} {m0_BadSkin m1_BadSkin m2_BadSkin m3_BadSkin m5_BadSkin : Option Value}
    {C_BadStrand : Addr}
    {C_BadSum : Addr}
    {C_BadText : Addr}
    {od_BadText an_BadText : Option Addr} {sl_BadText : Array (Option Value)} {oc_BadText kV_BadText dc_BadText pm_BadText cd_BadText ct_BadText : Value} {f_BadText : Addr}
    {nm_BadText qn_BadText : Str} {N_BadText : Addr} {bs_BadText bm_BadText : List Value} {sn_BadText : List Str} {sb_BadText : List Value} {ab_BadText : Bool} {co_BadText : Option Bool} {dd_BadText : Option Addr} {m0_BadText m1_BadText m2_BadText m3_BadText m5_BadText : Option Value}
    {C_BadWord : Addr}
    {C_NoMark : Addr}
    {od_NoMark an_NoMark : Option Addr} {sl_NoMark : Array (Option Value)} {oc_NoMark kV_NoMark dc_NoMark pm_NoMark cd_NoMark ct_NoMark : Value} {f_NoMark : Addr}
    {nm_NoMark qn_NoMark : Str} {N_NoMark : Addr} {bs_NoMark bm_NoMark : List Value} {sn_NoMark : List Str} {sb_NoMark : List Value} {ab_NoMark : Bool} {co_NoMark : Option Bool} {dd_NoMark : Option Addr} {m0_NoMark m1_NoMark m2_NoMark m3_NoMark m5_NoMark : Option Value}
    {C_NotNow : Addr}
    {C_NotSimple : Addr}
    {C_TooMany : Addr}
    {od_TooMany an_TooMany : Option Addr} {sl_TooMany : Array (Option Value)} {oc_TooMany kV_TooMany dc_TooMany pm_TooMany cd_TooMany ct_TooMany : Value} {f_TooMany : Addr}
    {nm_TooMany qn_TooMany : Str} {N_TooMany : Addr} {bs_TooMany bm_TooMany : List Value} {sn_TooMany : List Str} {sb_TooMany : List Value} {ab_TooMany : Bool} {co_TooMany : Option Bool} {dd_TooMany : Option Addr} {m0_TooMany m1_TooMany m2_TooMany m3_TooMany m5_TooMany : Option Value}
    {od_l_begun an_l_begun : Option Addr} {sl_l_begun : Array (Option Value)} {oc_l_begun kV_l_begun dc_l_begun pm_l_begun cd_l_begun ct_l_begun : Value} {f_l_begun : Addr}
    {od_l_mixed an_l_mixed : Option Addr} {sl_l_mixed : Array (Option Value)} {oc_l_mixed kV_l_mixed dc_l_mixed pm_l_mixed cd_l_mixed ct_l_mixed : Value} {f_l_mixed : Addr}
    {od_l_take an_l_take : Option Addr} {sl_l_take : Array (Option Value)} {oc_l_take kV_l_take dc_l_take pm_l_take cd_l_take ct_l_take : Value} {f_l_take : Addr}
    {od_l_pick an_l_pick : Option Addr} {sl_l_pick : Array (Option Value)} {oc_l_pick kV_l_pick dc_l_pick pm_l_pick cd_l_pick ct_l_pick : Value} {f_l_pick : Addr}
    {od_l_plain an_l_plain : Option Addr} {sl_l_plain : Array (Option Value)} {oc_l_plain kV_l_plain dc_l_plain pm_l_plain cd_l_plain ct_l_plain : Value} {f_l_plain : Addr}
    {od_l_made an_l_made : Option Addr} {sl_l_made : Array (Option Value)} {oc_l_made kV_l_made dc_l_made pm_l_made cd_l_made ct_l_made : Value} {f_l_made : Addr}
    {od_l_kept an_l_kept : Option Addr} {sl_l_kept : Array (Option Value)} {oc_l_kept kV_l_kept dc_l_kept pm_l_kept cd_l_kept ct_l_kept : Value} {f_l_kept : Addr}
    {od_l_kinds an_l_kinds : Option Addr} {sl_l_kinds : Array (Option Value)} {oc_l_kinds kV_l_kinds dc_l_kinds pm_l_kinds cd_l_kinds ct_l_kinds : Value} {f_l_kinds : Addr}
    {od_l_taken an_l_taken : Option Addr} {sl_l_taken : Array (Option Value)} {oc_l_taken kV_l_taken dc_l_taken pm_l_taken cd_l_taken ct_l_taken : Value} {f_l_taken : Addr}
    {od_law an_law : Option Addr} {sl_law : Array (Option Value)} {oc_law kV_law dc_law pm_law cd_law ct_law : Value} {f_law : Addr}
    (hn0 : PySem.W.specialIn K (.builtin "object.__class__") "__get__" = some (some (.builtin "getset_descriptor.__get__")))
    (ht0 : PySem.W.takesIn K (.builtin "object.__class__") = some true)
    (a_RoundError : PySem.W.nsIn K mainGlobals "RoundError" = some (some (.ref C_RoundError)))
    (k_RoundError : PySem.W.keepIn K (.ref C_RoundError) = true)
    (q_RoundError : PySem.W.excIn K C_RoundError [.type "ValueError", .type "Exception", .type "BaseException", .type "object"] "ValueError.__new__" = true)
    (ty_RoundError : PySem.W.typeIn K (.ref C_RoundError) = some (.type "type"))
    (ga_RoundError : PySem.W.findIn K (.ref C_RoundError) "__getattribute__" = some (some (.builtin "BaseException.__getattribute__")))
    (gg_RoundError : PySem.W.findIn K (.ref C_RoundError) "__getattr__" = some none)
    (ex_RoundError : PySem.W.subIn K (.ref C_RoundError) (.type "BaseException") = some true)
    (hd_RoundError : PySem.W.hasDictIn K C_RoundError = true)
    (ca_RoundError : PySem.W.findIn K (.ref C_RoundError) "__class__" = some (some (.builtin "object.__class__")))
    (mo_RoundError : PySem.W.mroIn K C_RoundError (.type "object") = some true)
    (a_BadBridge : PySem.W.nsIn K mainGlobals "BadBridge" = some (some (.ref C_BadBridge)))
    (k_BadBridge : PySem.W.keepIn K (.ref C_BadBridge) = true)
    (q_BadBridge : PySem.W.excIn K C_BadBridge [.type "ValueError", .type "Exception", .type "BaseException", .type "object"] "ValueError.__new__" = true)
    (ty_BadBridge : PySem.W.typeIn K (.ref C_BadBridge) = some (.type "type"))
    (ga_BadBridge : PySem.W.findIn K (.ref C_BadBridge) "__getattribute__" = some (some (.builtin "BaseException.__getattribute__")))
    (gg_BadBridge : PySem.W.findIn K (.ref C_BadBridge) "__getattr__" = some none)
    (ex_BadBridge : PySem.W.subIn K (.ref C_BadBridge) (.type "BaseException") = some true)
    (hd_BadBridge : PySem.W.hasDictIn K C_BadBridge = true)
    (ca_BadBridge : PySem.W.findIn K (.ref C_BadBridge) "__class__" = some (some (.builtin "object.__class__")))
    (mo_BadBridge : PySem.W.mroIn K C_BadBridge (.type "object") = some true)
    (a_BadBundle : PySem.W.nsIn K mainGlobals "BadBundle" = some (some (.ref C_BadBundle)))
    (x_BadBundle : K.lookup C_BadBundle = some (excClassObj nm_BadBundle qn_BadBundle C_BadBundle N_BadBundle bs_BadBundle bm_BadBundle true sn_BadBundle sb_BadBundle ab_BadBundle co_BadBundle dd_BadBundle m0_BadBundle m1_BadBundle m2_BadBundle m3_BadBundle m5_BadBundle "ValueError.__new__"))
    (rv_BadBundle : PySem.HandSPX.refsVE bm_BadBundle = true)
    (sa_BadBundle : PySem.W.findIn K (.ref C_BadBundle) "__setattr__" = some (some (.builtin "object.__setattr__")))
    (ty_BadBundle : PySem.W.typeIn K (.ref C_BadBundle) = some (.type "type"))
    (kc_BadBundle : PySem.W.keepIn K (.ref C_BadBundle) = true)
    (i_BadBundle : PySem.W.findIn K (.ref C_BadBundle) "__init__" = some (some (.ref f_BadBundle)))
    (t_BadBundle : PySem.W.typeIn K (.ref f_BadBundle) = some (.type "function"))
    (l_BadBundle : K.lookup f_BadBundle = some ⟨oc_BadBundle, od_BadBundle, .func (PySem.W.fnOf "__init__" "BadBundle.__init__" (defArgs s_BadBundle_init) (defBody s_BadBundle_init) (defScope s_BadBundle_init) .none kV_BadBundle dc_BadBundle pm_BadBundle an_BadBundle cd_BadBundle ct_BadBundle), sl_BadBundle⟩)
    (c_BadBundle : PySem.W.codeIn K cd_BadBundle "BadBundle.__init__" = true)
    (k_BadBundle : PySem.W.keepIn K (.ref f_BadBundle) = true)
    (nf_BadBundle : PySem.W.findIn K (.ref C_BadBundle) "part" = some none)
    (ga_BadBundle : PySem.W.findIn K (.ref C_BadBundle) "__getattribute__" = some (some (.builtin "BaseException.__getattribute__")))
    (gg_BadBundle : PySem.W.findIn K (.ref C_BadBundle) "__getattr__" = some none)
    (ex_BadBundle : PySem.W.subIn K (.ref C_BadBundle) (.type "BaseException") = some true)
    (hd_BadBundle : PySem.W.hasDictIn K C_BadBundle = true)
    (ca_BadBundle : PySem.W.findIn K (.ref C_BadBundle) "__class__" = some (some (.builtin "object.__class__")))
    (mo_BadBundle : PySem.W.mroIn K C_BadBundle (.type "object") = some true)
    (a_BadDeed : PySem.W.nsIn K mainGlobals "BadDeed" = some (some (.ref C_BadDeed)))
    (k_BadDeed : PySem.W.keepIn K (.ref C_BadDeed) = true)
    (q_BadDeed : PySem.W.excIn K C_BadDeed [.type "ValueError", .type "Exception", .type "BaseException", .type "object"] "ValueError.__new__" = true)
    (ty_BadDeed : PySem.W.typeIn K (.ref C_BadDeed) = some (.type "type"))
    (ga_BadDeed : PySem.W.findIn K (.ref C_BadDeed) "__getattribute__" = some (some (.builtin "BaseException.__getattribute__")))
    (gg_BadDeed : PySem.W.findIn K (.ref C_BadDeed) "__getattr__" = some none)
    (ex_BadDeed : PySem.W.subIn K (.ref C_BadDeed) (.type "BaseException") = some true)
    (hd_BadDeed : PySem.W.hasDictIn K C_BadDeed = true)
    (ca_BadDeed : PySem.W.findIn K (.ref C_BadDeed) "__class__" = some (some (.builtin "object.__class__")))
    (mo_BadDeed : PySem.W.mroIn K C_BadDeed (.type "object") = some true)
    (a_BadDrawing : PySem.W.nsIn K mainGlobals "BadDrawing" = some (some (.ref C_BadDrawing)))
    (x_BadDrawing : K.lookup C_BadDrawing = some (excClassObj nm_BadDrawing qn_BadDrawing C_BadDrawing N_BadDrawing bs_BadDrawing bm_BadDrawing true sn_BadDrawing sb_BadDrawing ab_BadDrawing co_BadDrawing dd_BadDrawing m0_BadDrawing m1_BadDrawing m2_BadDrawing m3_BadDrawing m5_BadDrawing "ValueError.__new__"))
    (rv_BadDrawing : PySem.HandSPX.refsVE bm_BadDrawing = true)
    (sa_BadDrawing : PySem.W.findIn K (.ref C_BadDrawing) "__setattr__" = some (some (.builtin "object.__setattr__")))
    (ty_BadDrawing : PySem.W.typeIn K (.ref C_BadDrawing) = some (.type "type"))
    (kc_BadDrawing : PySem.W.keepIn K (.ref C_BadDrawing) = true)
    (i_BadDrawing : PySem.W.findIn K (.ref C_BadDrawing) "__init__" = some (some (.ref f_BadDrawing)))
    (t_BadDrawing : PySem.W.typeIn K (.ref f_BadDrawing) = some (.type "function"))
    (l_BadDrawing : K.lookup f_BadDrawing = some ⟨oc_BadDrawing, od_BadDrawing, .func (PySem.W.fnOf "__init__" "BadDrawing.__init__" (defArgs s_BadDrawing_init) (defBody s_BadDrawing_init) (defScope s_BadDrawing_init) .none kV_BadDrawing dc_BadDrawing pm_BadDrawing an_BadDrawing cd_BadDrawing ct_BadDrawing), sl_BadDrawing⟩)
    (c_BadDrawing : PySem.W.codeIn K cd_BadDrawing "BadDrawing.__init__" = true)
    (k_BadDrawing : PySem.W.keepIn K (.ref f_BadDrawing) = true)
    (nf_BadDrawing : PySem.W.findIn K (.ref C_BadDrawing) "part" = some none)
    (ga_BadDrawing : PySem.W.findIn K (.ref C_BadDrawing) "__getattribute__" = some (some (.builtin "BaseException.__getattribute__")))
    (gg_BadDrawing : PySem.W.findIn K (.ref C_BadDrawing) "__getattr__" = some none)
    (ex_BadDrawing : PySem.W.subIn K (.ref C_BadDrawing) (.type "BaseException") = some true)
    (hd_BadDrawing : PySem.W.hasDictIn K C_BadDrawing = true)
    (ca_BadDrawing : PySem.W.findIn K (.ref C_BadDrawing) "__class__" = some (some (.builtin "object.__class__")))
    (mo_BadDrawing : PySem.W.mroIn K C_BadDrawing (.type "object") = some true)
    (a_BadFan : PySem.W.nsIn K mainGlobals "BadFan" = some (some (.ref C_BadFan)))
    (x_BadFan : K.lookup C_BadFan = some (excClassObj nm_BadFan qn_BadFan C_BadFan N_BadFan bs_BadFan bm_BadFan true sn_BadFan sb_BadFan ab_BadFan co_BadFan dd_BadFan m0_BadFan m1_BadFan m2_BadFan m3_BadFan m5_BadFan "ValueError.__new__"))
    (rv_BadFan : PySem.HandSPX.refsVE bm_BadFan = true)
    (sa_BadFan : PySem.W.findIn K (.ref C_BadFan) "__setattr__" = some (some (.builtin "object.__setattr__")))
    (ty_BadFan : PySem.W.typeIn K (.ref C_BadFan) = some (.type "type"))
    (kc_BadFan : PySem.W.keepIn K (.ref C_BadFan) = true)
    (i_BadFan : PySem.W.findIn K (.ref C_BadFan) "__init__" = some (some (.ref f_BadFan)))
    (t_BadFan : PySem.W.typeIn K (.ref f_BadFan) = some (.type "function"))
    (l_BadFan : K.lookup f_BadFan = some ⟨oc_BadFan, od_BadFan, .func (PySem.W.fnOf "__init__" "BadFan.__init__" (defArgs s_BadFan_init) (defBody s_BadFan_init) (defScope s_BadFan_init) .none kV_BadFan dc_BadFan pm_BadFan an_BadFan cd_BadFan ct_BadFan), sl_BadFan⟩)
    (c_BadFan : PySem.W.codeIn K cd_BadFan "BadFan.__init__" = true)
    (k_BadFan : PySem.W.keepIn K (.ref f_BadFan) = true)
    (nf_BadFan : PySem.W.findIn K (.ref C_BadFan) "part" = some none)
    (ga_BadFan : PySem.W.findIn K (.ref C_BadFan) "__getattribute__" = some (some (.builtin "BaseException.__getattribute__")))
    (gg_BadFan : PySem.W.findIn K (.ref C_BadFan) "__getattr__" = some none)
    (ex_BadFan : PySem.W.subIn K (.ref C_BadFan) (.type "BaseException") = some true)
    (hd_BadFan : PySem.W.hasDictIn K C_BadFan = true)
    (ca_BadFan : PySem.W.findIn K (.ref C_BadFan) "__class__" = some (some (.builtin "object.__class__")))
    (mo_BadFan : PySem.W.mroIn K C_BadFan (.type "object") = some true)
    (a_BadImages : PySem.W.nsIn K mainGlobals "BadImages" = some (some (.ref C_BadImages)))
    (k_BadImages : PySem.W.keepIn K (.ref C_BadImages) = true)
    (q_BadImages : PySem.W.excIn K C_BadImages [.type "ValueError", .type "Exception", .type "BaseException", .type "object"] "ValueError.__new__" = true)
    (ty_BadImages : PySem.W.typeIn K (.ref C_BadImages) = some (.type "type"))
    (ga_BadImages : PySem.W.findIn K (.ref C_BadImages) "__getattribute__" = some (some (.builtin "BaseException.__getattribute__")))
    (gg_BadImages : PySem.W.findIn K (.ref C_BadImages) "__getattr__" = some none)
    (ex_BadImages : PySem.W.subIn K (.ref C_BadImages) (.type "BaseException") = some true)
    (hd_BadImages : PySem.W.hasDictIn K C_BadImages = true)
    (ca_BadImages : PySem.W.findIn K (.ref C_BadImages) "__class__" = some (some (.builtin "object.__class__")))
    (mo_BadImages : PySem.W.mroIn K C_BadImages (.type "object") = some true)
    (a_BadLive : PySem.W.nsIn K mainGlobals "BadLive" = some (some (.ref C_BadLive)))
    (x_BadLive : K.lookup C_BadLive = some (excClassObj nm_BadLive qn_BadLive C_BadLive N_BadLive bs_BadLive bm_BadLive true sn_BadLive sb_BadLive ab_BadLive co_BadLive dd_BadLive m0_BadLive m1_BadLive m2_BadLive m3_BadLive m5_BadLive "ValueError.__new__"))
    (rv_BadLive : PySem.HandSPX.refsVE bm_BadLive = true)
    (sa_BadLive : PySem.W.findIn K (.ref C_BadLive) "__setattr__" = some (some (.builtin "object.__setattr__")))
    (ty_BadLive : PySem.W.typeIn K (.ref C_BadLive) = some (.type "type"))
    (kc_BadLive : PySem.W.keepIn K (.ref C_BadLive) = true)
    (i_BadLive : PySem.W.findIn K (.ref C_BadLive) "__init__" = some (some (.ref f_BadLive)))
    (t_BadLive : PySem.W.typeIn K (.ref f_BadLive) = some (.type "function"))
    (l_BadLive : K.lookup f_BadLive = some ⟨oc_BadLive, od_BadLive, .func (PySem.W.fnOf "__init__" "BadLive.__init__" (defArgs s_BadLive_init) (defBody s_BadLive_init) (defScope s_BadLive_init) .none kV_BadLive dc_BadLive pm_BadLive an_BadLive cd_BadLive ct_BadLive), sl_BadLive⟩)
    (c_BadLive : PySem.W.codeIn K cd_BadLive "BadLive.__init__" = true)
    (k_BadLive : PySem.W.keepIn K (.ref f_BadLive) = true)
    (nf_BadLive : PySem.W.findIn K (.ref C_BadLive) "part" = some none)
    (ga_BadLive : PySem.W.findIn K (.ref C_BadLive) "__getattribute__" = some (some (.builtin "BaseException.__getattribute__")))
    (gg_BadLive : PySem.W.findIn K (.ref C_BadLive) "__getattr__" = some none)
    (ex_BadLive : PySem.W.subIn K (.ref C_BadLive) (.type "BaseException") = some true)
    (hd_BadLive : PySem.W.hasDictIn K C_BadLive = true)
    (ca_BadLive : PySem.W.findIn K (.ref C_BadLive) "__class__" = some (some (.builtin "object.__class__")))
    (mo_BadLive : PySem.W.mroIn K C_BadLive (.type "object") = some true)
    (a_BadName : PySem.W.nsIn K mainGlobals "BadName" = some (some (.ref C_BadName)))
    (k_BadName : PySem.W.keepIn K (.ref C_BadName) = true)
    (q_BadName : PySem.W.excIn K C_BadName [.type "ValueError", .type "Exception", .type "BaseException", .type "object"] "ValueError.__new__" = true)
    (ty_BadName : PySem.W.typeIn K (.ref C_BadName) = some (.type "type"))
    (ga_BadName : PySem.W.findIn K (.ref C_BadName) "__getattribute__" = some (some (.builtin "BaseException.__getattribute__")))
    (gg_BadName : PySem.W.findIn K (.ref C_BadName) "__getattr__" = some none)
    (ex_BadName : PySem.W.subIn K (.ref C_BadName) (.type "BaseException") = some true)
    (hd_BadName : PySem.W.hasDictIn K C_BadName = true)
    (ca_BadName : PySem.W.findIn K (.ref C_BadName) "__class__" = some (some (.builtin "object.__class__")))
    (mo_BadName : PySem.W.mroIn K C_BadName (.type "object") = some true)
    (a_BadNumber : PySem.W.nsIn K mainGlobals "BadNumber" = some (some (.ref C_BadNumber)))
    (x_BadNumber : K.lookup C_BadNumber = some (excClassObj nm_BadNumber qn_BadNumber C_BadNumber N_BadNumber bs_BadNumber bm_BadNumber true sn_BadNumber sb_BadNumber ab_BadNumber co_BadNumber dd_BadNumber m0_BadNumber m1_BadNumber m2_BadNumber m3_BadNumber m5_BadNumber "ValueError.__new__"))
    (rv_BadNumber : PySem.HandSPX.refsVE bm_BadNumber = true)
    (sa_BadNumber : PySem.W.findIn K (.ref C_BadNumber) "__setattr__" = some (some (.builtin "object.__setattr__")))
    (ty_BadNumber : PySem.W.typeIn K (.ref C_BadNumber) = some (.type "type"))
    (kc_BadNumber : PySem.W.keepIn K (.ref C_BadNumber) = true)
    (i_BadNumber : PySem.W.findIn K (.ref C_BadNumber) "__init__" = some (some (.ref f_BadNumber)))
    (t_BadNumber : PySem.W.typeIn K (.ref f_BadNumber) = some (.type "function"))
    (l_BadNumber : K.lookup f_BadNumber = some ⟨oc_BadNumber, od_BadNumber, .func (PySem.W.fnOf "__init__" "BadNumber.__init__" (defArgs s_BadNumber_init) (defBody s_BadNumber_init) (defScope s_BadNumber_init) .none kV_BadNumber dc_BadNumber pm_BadNumber an_BadNumber cd_BadNumber ct_BadNumber), sl_BadNumber⟩)
    (c_BadNumber : PySem.W.codeIn K cd_BadNumber "BadNumber.__init__" = true)
    (k_BadNumber : PySem.W.keepIn K (.ref f_BadNumber) = true)
    (nf_BadNumber : PySem.W.findIn K (.ref C_BadNumber) "part" = some none)
    (ga_BadNumber : PySem.W.findIn K (.ref C_BadNumber) "__getattribute__" = some (some (.builtin "BaseException.__getattribute__")))
    (gg_BadNumber : PySem.W.findIn K (.ref C_BadNumber) "__getattr__" = some none)
    (ex_BadNumber : PySem.W.subIn K (.ref C_BadNumber) (.type "BaseException") = some true)
    (hd_BadNumber : PySem.W.hasDictIn K C_BadNumber = true)
    (ca_BadNumber : PySem.W.findIn K (.ref C_BadNumber) "__class__" = some (some (.builtin "object.__class__")))
    (mo_BadNumber : PySem.W.mroIn K C_BadNumber (.type "object") = some true)
    (a_BadRound : PySem.W.nsIn K mainGlobals "BadRound" = some (some (.ref C_BadRound)))
    (k_BadRound : PySem.W.keepIn K (.ref C_BadRound) = true)
    (q_BadRound : PySem.W.excIn K C_BadRound [.type "ValueError", .type "Exception", .type "BaseException", .type "object"] "ValueError.__new__" = true)
    (ty_BadRound : PySem.W.typeIn K (.ref C_BadRound) = some (.type "type"))
    (ga_BadRound : PySem.W.findIn K (.ref C_BadRound) "__getattribute__" = some (some (.builtin "BaseException.__getattribute__")))
    (gg_BadRound : PySem.W.findIn K (.ref C_BadRound) "__getattr__" = some none)
    (ex_BadRound : PySem.W.subIn K (.ref C_BadRound) (.type "BaseException") = some true)
    (hd_BadRound : PySem.W.hasDictIn K C_BadRound = true)
    (ca_BadRound : PySem.W.findIn K (.ref C_BadRound) "__class__" = some (some (.builtin "object.__class__")))
    (mo_BadRound : PySem.W.mroIn K C_BadRound (.type "object") = some true)
    (a_BadRounds : PySem.W.nsIn K mainGlobals "BadRounds" = some (some (.ref C_BadRounds)))
    (x_BadRounds : K.lookup C_BadRounds = some (excClassObj nm_BadRounds qn_BadRounds C_BadRounds N_BadRounds bs_BadRounds bm_BadRounds true sn_BadRounds sb_BadRounds ab_BadRounds co_BadRounds dd_BadRounds m0_BadRounds m1_BadRounds m2_BadRounds m3_BadRounds m5_BadRounds "ValueError.__new__"))
    (rv_BadRounds : PySem.HandSPX.refsVE bm_BadRounds = true)
    (sa_BadRounds : PySem.W.findIn K (.ref C_BadRounds) "__setattr__" = some (some (.builtin "object.__setattr__")))
    (ty_BadRounds : PySem.W.typeIn K (.ref C_BadRounds) = some (.type "type"))
    (kc_BadRounds : PySem.W.keepIn K (.ref C_BadRounds) = true)
    (i_BadRounds : PySem.W.findIn K (.ref C_BadRounds) "__init__" = some (some (.ref f_BadRounds)))
    (t_BadRounds : PySem.W.typeIn K (.ref f_BadRounds) = some (.type "function"))
    (l_BadRounds : K.lookup f_BadRounds = some ⟨oc_BadRounds, od_BadRounds, .func (PySem.W.fnOf "__init__" "BadRounds.__init__" (defArgs s_BadRounds_init) (defBody s_BadRounds_init) (defScope s_BadRounds_init) .none kV_BadRounds dc_BadRounds pm_BadRounds an_BadRounds cd_BadRounds ct_BadRounds), sl_BadRounds⟩)
    (c_BadRounds : PySem.W.codeIn K cd_BadRounds "BadRounds.__init__" = true)
    (k_BadRounds : PySem.W.keepIn K (.ref f_BadRounds) = true)
    (nf_BadRounds : PySem.W.findIn K (.ref C_BadRounds) "part" = some none)
    (ga_BadRounds : PySem.W.findIn K (.ref C_BadRounds) "__getattribute__" = some (some (.builtin "BaseException.__getattribute__")))
    (gg_BadRounds : PySem.W.findIn K (.ref C_BadRounds) "__getattr__" = some none)
    (ex_BadRounds : PySem.W.subIn K (.ref C_BadRounds) (.type "BaseException") = some true)
    (hd_BadRounds : PySem.W.hasDictIn K C_BadRounds = true)
    (ca_BadRounds : PySem.W.findIn K (.ref C_BadRounds) "__class__" = some (some (.builtin "object.__class__")))
    (mo_BadRounds : PySem.W.mroIn K C_BadRounds (.type "object") = some true)
    (a_BadSkin : PySem.W.nsIn K mainGlobals "BadSkin" = some (some (.ref C_BadSkin)))
    (x_BadSkin : K.lookup C_BadSkin = some (excClassObj nm_BadSkin qn_BadSkin C_BadSkin N_BadSkin bs_BadSkin bm_BadSkin true sn_BadSkin sb_BadSkin ab_BadSkin co_BadSkin dd_BadSkin m0_BadSkin m1_BadSkin m2_BadSkin m3_BadSkin m5_BadSkin "ValueError.__new__"))
    (rv_BadSkin : PySem.HandSPX.refsVE bm_BadSkin = true)
    (sa_BadSkin : PySem.W.findIn K (.ref C_BadSkin) "__setattr__" = some (some (.builtin "object.__setattr__")))
    (ty_BadSkin : PySem.W.typeIn K (.ref C_BadSkin) = some (.type "type"))
    (kc_BadSkin : PySem.W.keepIn K (.ref C_BadSkin) = true)
    (i_BadSkin : PySem.W.findIn K (.ref C_BadSkin) "__init__" = some (some (.ref f_BadSkin)))
    (t_BadSkin : PySem.W.typeIn K (.ref f_BadSkin) = some (.type "function"))
    (l_BadSkin : K.lookup f_BadSkin = some ⟨oc_BadSkin, od_BadSkin, .func (PySem.W.fnOf "__init__" "BadSkin.__init__" (defArgs s_BadSkin_init) (defBody s_BadSkin_init) (defScope s_BadSkin_init) .none kV_BadSkin dc_BadSkin pm_BadSkin an_BadSkin cd_BadSkin ct_BadSkin), sl_BadSkin⟩)
    (c_BadSkin : PySem.W.codeIn K cd_BadSkin "BadSkin.__init__" = true)
    (k_BadSkin : PySem.W.keepIn K (.ref f_BadSkin) = true)
    (nf_BadSkin : PySem.W.findIn K (.ref C_BadSkin) "part" = some none)
    (ga_BadSkin : PySem.W.findIn K (.ref C_BadSkin) "__getattribute__" = some (some (.builtin "BaseException.__getattribute__")))
    (gg_BadSkin : PySem.W.findIn K (.ref C_BadSkin) "__getattr__" = some none)
    (ex_BadSkin : PySem.W.subIn K (.ref C_BadSkin) (.type "BaseException") = some true)
    (hd_BadSkin : PySem.W.hasDictIn K C_BadSkin = true)
    (ca_BadSkin : PySem.W.findIn K (.ref C_BadSkin) "__class__" = some (some (.builtin "object.__class__")))
    (mo_BadSkin : PySem.W.mroIn K C_BadSkin (.type "object") = some true)
    (a_BadStrand : PySem.W.nsIn K mainGlobals "BadStrand" = some (some (.ref C_BadStrand)))
    (k_BadStrand : PySem.W.keepIn K (.ref C_BadStrand) = true)
    (q_BadStrand : PySem.W.excIn K C_BadStrand [.type "ValueError", .type "Exception", .type "BaseException", .type "object"] "ValueError.__new__" = true)
    (ty_BadStrand : PySem.W.typeIn K (.ref C_BadStrand) = some (.type "type"))
    (ga_BadStrand : PySem.W.findIn K (.ref C_BadStrand) "__getattribute__" = some (some (.builtin "BaseException.__getattribute__")))
    (gg_BadStrand : PySem.W.findIn K (.ref C_BadStrand) "__getattr__" = some none)
    (ex_BadStrand : PySem.W.subIn K (.ref C_BadStrand) (.type "BaseException") = some true)
    (hd_BadStrand : PySem.W.hasDictIn K C_BadStrand = true)
    (ca_BadStrand : PySem.W.findIn K (.ref C_BadStrand) "__class__" = some (some (.builtin "object.__class__")))
    (mo_BadStrand : PySem.W.mroIn K C_BadStrand (.type "object") = some true)
    (a_BadSum : PySem.W.nsIn K mainGlobals "BadSum" = some (some (.ref C_BadSum)))
    (k_BadSum : PySem.W.keepIn K (.ref C_BadSum) = true)
    (q_BadSum : PySem.W.excIn K C_BadSum [.type "ValueError", .type "Exception", .type "BaseException", .type "object"] "ValueError.__new__" = true)
    (ty_BadSum : PySem.W.typeIn K (.ref C_BadSum) = some (.type "type"))
    (ga_BadSum : PySem.W.findIn K (.ref C_BadSum) "__getattribute__" = some (some (.builtin "BaseException.__getattribute__")))
    (gg_BadSum : PySem.W.findIn K (.ref C_BadSum) "__getattr__" = some none)
    (ex_BadSum : PySem.W.subIn K (.ref C_BadSum) (.type "BaseException") = some true)
    (hd_BadSum : PySem.W.hasDictIn K C_BadSum = true)
    (ca_BadSum : PySem.W.findIn K (.ref C_BadSum) "__class__" = some (some (.builtin "object.__class__")))
    (mo_BadSum : PySem.W.mroIn K C_BadSum (.type "object") = some true)
    (a_BadText : PySem.W.nsIn K mainGlobals "BadText" = some (some (.ref C_BadText)))
    (x_BadText : K.lookup C_BadText = some (excClassObj nm_BadText qn_BadText C_BadText N_BadText bs_BadText bm_BadText true sn_BadText sb_BadText ab_BadText co_BadText dd_BadText m0_BadText m1_BadText m2_BadText m3_BadText m5_BadText "ValueError.__new__"))
    (rv_BadText : PySem.HandSPX.refsVE bm_BadText = true)
    (sa_BadText : PySem.W.findIn K (.ref C_BadText) "__setattr__" = some (some (.builtin "object.__setattr__")))
    (ty_BadText : PySem.W.typeIn K (.ref C_BadText) = some (.type "type"))
    (kc_BadText : PySem.W.keepIn K (.ref C_BadText) = true)
    (i_BadText : PySem.W.findIn K (.ref C_BadText) "__init__" = some (some (.ref f_BadText)))
    (t_BadText : PySem.W.typeIn K (.ref f_BadText) = some (.type "function"))
    (l_BadText : K.lookup f_BadText = some ⟨oc_BadText, od_BadText, .func (PySem.W.fnOf "__init__" "BadText.__init__" (defArgs s_BadText_init) (defBody s_BadText_init) (defScope s_BadText_init) .none kV_BadText dc_BadText pm_BadText an_BadText cd_BadText ct_BadText), sl_BadText⟩)
    (c_BadText : PySem.W.codeIn K cd_BadText "BadText.__init__" = true)
    (k_BadText : PySem.W.keepIn K (.ref f_BadText) = true)
    (nf_BadText : PySem.W.findIn K (.ref C_BadText) "at" = some none)
    (ga_BadText : PySem.W.findIn K (.ref C_BadText) "__getattribute__" = some (some (.builtin "BaseException.__getattribute__")))
    (gg_BadText : PySem.W.findIn K (.ref C_BadText) "__getattr__" = some none)
    (ex_BadText : PySem.W.subIn K (.ref C_BadText) (.type "BaseException") = some true)
    (hd_BadText : PySem.W.hasDictIn K C_BadText = true)
    (ca_BadText : PySem.W.findIn K (.ref C_BadText) "__class__" = some (some (.builtin "object.__class__")))
    (mo_BadText : PySem.W.mroIn K C_BadText (.type "object") = some true)
    (a_BadWord : PySem.W.nsIn K mainGlobals "BadWord" = some (some (.ref C_BadWord)))
    (k_BadWord : PySem.W.keepIn K (.ref C_BadWord) = true)
    (q_BadWord : PySem.W.excIn K C_BadWord [.type "ValueError", .type "Exception", .type "BaseException", .type "object"] "ValueError.__new__" = true)
    (ty_BadWord : PySem.W.typeIn K (.ref C_BadWord) = some (.type "type"))
    (ga_BadWord : PySem.W.findIn K (.ref C_BadWord) "__getattribute__" = some (some (.builtin "BaseException.__getattribute__")))
    (gg_BadWord : PySem.W.findIn K (.ref C_BadWord) "__getattr__" = some none)
    (ex_BadWord : PySem.W.subIn K (.ref C_BadWord) (.type "BaseException") = some true)
    (hd_BadWord : PySem.W.hasDictIn K C_BadWord = true)
    (ca_BadWord : PySem.W.findIn K (.ref C_BadWord) "__class__" = some (some (.builtin "object.__class__")))
    (mo_BadWord : PySem.W.mroIn K C_BadWord (.type "object") = some true)
    (a_NoMark : PySem.W.nsIn K mainGlobals "NoMark" = some (some (.ref C_NoMark)))
    (x_NoMark : K.lookup C_NoMark = some (excClassObj nm_NoMark qn_NoMark C_NoMark N_NoMark bs_NoMark bm_NoMark true sn_NoMark sb_NoMark ab_NoMark co_NoMark dd_NoMark m0_NoMark m1_NoMark m2_NoMark m3_NoMark m5_NoMark "ValueError.__new__"))
    (rv_NoMark : PySem.HandSPX.refsVE bm_NoMark = true)
    (sa_NoMark : PySem.W.findIn K (.ref C_NoMark) "__setattr__" = some (some (.builtin "object.__setattr__")))
    (ty_NoMark : PySem.W.typeIn K (.ref C_NoMark) = some (.type "type"))
    (kc_NoMark : PySem.W.keepIn K (.ref C_NoMark) = true)
    (i_NoMark : PySem.W.findIn K (.ref C_NoMark) "__init__" = some (some (.ref f_NoMark)))
    (t_NoMark : PySem.W.typeIn K (.ref f_NoMark) = some (.type "function"))
    (l_NoMark : K.lookup f_NoMark = some ⟨oc_NoMark, od_NoMark, .func (PySem.W.fnOf "__init__" "NoMark.__init__" (defArgs s_NoMark_init) (defBody s_NoMark_init) (defScope s_NoMark_init) .none kV_NoMark dc_NoMark pm_NoMark an_NoMark cd_NoMark ct_NoMark), sl_NoMark⟩)
    (c_NoMark : PySem.W.codeIn K cd_NoMark "NoMark.__init__" = true)
    (k_NoMark : PySem.W.keepIn K (.ref f_NoMark) = true)
    (nf_NoMark : PySem.W.findIn K (.ref C_NoMark) "name" = some none)
    (ga_NoMark : PySem.W.findIn K (.ref C_NoMark) "__getattribute__" = some (some (.builtin "BaseException.__getattribute__")))
    (gg_NoMark : PySem.W.findIn K (.ref C_NoMark) "__getattr__" = some none)
    (ex_NoMark : PySem.W.subIn K (.ref C_NoMark) (.type "BaseException") = some true)
    (hd_NoMark : PySem.W.hasDictIn K C_NoMark = true)
    (ca_NoMark : PySem.W.findIn K (.ref C_NoMark) "__class__" = some (some (.builtin "object.__class__")))
    (mo_NoMark : PySem.W.mroIn K C_NoMark (.type "object") = some true)
    (a_NotNow : PySem.W.nsIn K mainGlobals "NotNow" = some (some (.ref C_NotNow)))
    (k_NotNow : PySem.W.keepIn K (.ref C_NotNow) = true)
    (q_NotNow : PySem.W.excIn K C_NotNow [.type "ValueError", .type "Exception", .type "BaseException", .type "object"] "ValueError.__new__" = true)
    (ty_NotNow : PySem.W.typeIn K (.ref C_NotNow) = some (.type "type"))
    (ga_NotNow : PySem.W.findIn K (.ref C_NotNow) "__getattribute__" = some (some (.builtin "BaseException.__getattribute__")))
    (gg_NotNow : PySem.W.findIn K (.ref C_NotNow) "__getattr__" = some none)
    (ex_NotNow : PySem.W.subIn K (.ref C_NotNow) (.type "BaseException") = some true)
    (hd_NotNow : PySem.W.hasDictIn K C_NotNow = true)
    (ca_NotNow : PySem.W.findIn K (.ref C_NotNow) "__class__" = some (some (.builtin "object.__class__")))
    (mo_NotNow : PySem.W.mroIn K C_NotNow (.type "object") = some true)
    (a_NotSimple : PySem.W.nsIn K mainGlobals "NotSimple" = some (some (.ref C_NotSimple)))
    (k_NotSimple : PySem.W.keepIn K (.ref C_NotSimple) = true)
    (q_NotSimple : PySem.W.excIn K C_NotSimple [.type "ValueError", .type "Exception", .type "BaseException", .type "object"] "ValueError.__new__" = true)
    (ty_NotSimple : PySem.W.typeIn K (.ref C_NotSimple) = some (.type "type"))
    (ga_NotSimple : PySem.W.findIn K (.ref C_NotSimple) "__getattribute__" = some (some (.builtin "BaseException.__getattribute__")))
    (gg_NotSimple : PySem.W.findIn K (.ref C_NotSimple) "__getattr__" = some none)
    (ex_NotSimple : PySem.W.subIn K (.ref C_NotSimple) (.type "BaseException") = some true)
    (hd_NotSimple : PySem.W.hasDictIn K C_NotSimple = true)
    (ca_NotSimple : PySem.W.findIn K (.ref C_NotSimple) "__class__" = some (some (.builtin "object.__class__")))
    (mo_NotSimple : PySem.W.mroIn K C_NotSimple (.type "object") = some true)
    (a_TooMany : PySem.W.nsIn K mainGlobals "TooMany" = some (some (.ref C_TooMany)))
    (x_TooMany : K.lookup C_TooMany = some (excClassObj nm_TooMany qn_TooMany C_TooMany N_TooMany bs_TooMany bm_TooMany true sn_TooMany sb_TooMany ab_TooMany co_TooMany dd_TooMany m0_TooMany m1_TooMany m2_TooMany m3_TooMany m5_TooMany "ValueError.__new__"))
    (rv_TooMany : PySem.HandSPX.refsVE bm_TooMany = true)
    (sa_TooMany : PySem.W.findIn K (.ref C_TooMany) "__setattr__" = some (some (.builtin "object.__setattr__")))
    (ty_TooMany : PySem.W.typeIn K (.ref C_TooMany) = some (.type "type"))
    (kc_TooMany : PySem.W.keepIn K (.ref C_TooMany) = true)
    (i_TooMany : PySem.W.findIn K (.ref C_TooMany) "__init__" = some (some (.ref f_TooMany)))
    (t_TooMany : PySem.W.typeIn K (.ref f_TooMany) = some (.type "function"))
    (l_TooMany : K.lookup f_TooMany = some ⟨oc_TooMany, od_TooMany, .func (PySem.W.fnOf "__init__" "TooMany.__init__" (defArgs s_TooMany_init) (defBody s_TooMany_init) (defScope s_TooMany_init) .none kV_TooMany dc_TooMany pm_TooMany an_TooMany cd_TooMany ct_TooMany), sl_TooMany⟩)
    (c_TooMany : PySem.W.codeIn K cd_TooMany "TooMany.__init__" = true)
    (k_TooMany : PySem.W.keepIn K (.ref f_TooMany) = true)
    (nf_TooMany : PySem.W.findIn K (.ref C_TooMany) "most" = some none)
    (ga_TooMany : PySem.W.findIn K (.ref C_TooMany) "__getattribute__" = some (some (.builtin "BaseException.__getattribute__")))
    (gg_TooMany : PySem.W.findIn K (.ref C_TooMany) "__getattr__" = some none)
    (ex_TooMany : PySem.W.subIn K (.ref C_TooMany) (.type "BaseException") = some true)
    (hd_TooMany : PySem.W.hasDictIn K C_TooMany = true)
    (ca_TooMany : PySem.W.findIn K (.ref C_TooMany) "__class__" = some (some (.builtin "object.__class__")))
    (mo_TooMany : PySem.W.mroIn K C_TooMany (.type "object") = some true)
    (a_l_begun : PySem.W.nsIn K mainGlobals "_law_begun" = some (some (.ref f_l_begun)))
    (l_l_begun : K.lookup f_l_begun = some ⟨oc_l_begun, od_l_begun, .func (PySem.W.fnOf "_law_begun" "_law_begun" (defArgs s_l_begun) (defBody s_l_begun) (defScope s_l_begun) .none kV_l_begun dc_l_begun pm_l_begun an_l_begun cd_l_begun ct_l_begun), sl_l_begun⟩)
    (c_l_begun : PySem.W.codeIn K cd_l_begun "_law_begun" = true)
    (k_l_begun : PySem.W.keepIn K (.ref f_l_begun) = true)
    (a_l_mixed : PySem.W.nsIn K mainGlobals "_law_mixed" = some (some (.ref f_l_mixed)))
    (l_l_mixed : K.lookup f_l_mixed = some ⟨oc_l_mixed, od_l_mixed, .func (PySem.W.fnOf "_law_mixed" "_law_mixed" (defArgs s_l_mixed) (defBody s_l_mixed) (defScope s_l_mixed) .none kV_l_mixed dc_l_mixed pm_l_mixed an_l_mixed cd_l_mixed ct_l_mixed), sl_l_mixed⟩)
    (c_l_mixed : PySem.W.codeIn K cd_l_mixed "_law_mixed" = true)
    (k_l_mixed : PySem.W.keepIn K (.ref f_l_mixed) = true)
    (a_l_take : PySem.W.nsIn K mainGlobals "_law_take" = some (some (.ref f_l_take)))
    (l_l_take : K.lookup f_l_take = some ⟨oc_l_take, od_l_take, .func (PySem.W.fnOf "_law_take" "_law_take" (defArgs s_l_take) (defBody s_l_take) (defScope s_l_take) .none kV_l_take dc_l_take pm_l_take an_l_take cd_l_take ct_l_take), sl_l_take⟩)
    (c_l_take : PySem.W.codeIn K cd_l_take "_law_take" = true)
    (k_l_take : PySem.W.keepIn K (.ref f_l_take) = true)
    (a_l_pick : PySem.W.nsIn K mainGlobals "_law_pick" = some (some (.ref f_l_pick)))
    (l_l_pick : K.lookup f_l_pick = some ⟨oc_l_pick, od_l_pick, .func (PySem.W.fnOf "_law_pick" "_law_pick" (defArgs s_l_pick) (defBody s_l_pick) (defScope s_l_pick) .none kV_l_pick dc_l_pick pm_l_pick an_l_pick cd_l_pick ct_l_pick), sl_l_pick⟩)
    (c_l_pick : PySem.W.codeIn K cd_l_pick "_law_pick" = true)
    (k_l_pick : PySem.W.keepIn K (.ref f_l_pick) = true)
    (a_l_plain : PySem.W.nsIn K mainGlobals "_law_plain" = some (some (.ref f_l_plain)))
    (l_l_plain : K.lookup f_l_plain = some ⟨oc_l_plain, od_l_plain, .func (PySem.W.fnOf "_law_plain" "_law_plain" (defArgs s_l_plain) (defBody s_l_plain) (defScope s_l_plain) .none kV_l_plain dc_l_plain pm_l_plain an_l_plain cd_l_plain ct_l_plain), sl_l_plain⟩)
    (c_l_plain : PySem.W.codeIn K cd_l_plain "_law_plain" = true)
    (k_l_plain : PySem.W.keepIn K (.ref f_l_plain) = true)
    (a_l_made : PySem.W.nsIn K mainGlobals "_law_made" = some (some (.ref f_l_made)))
    (l_l_made : K.lookup f_l_made = some ⟨oc_l_made, od_l_made, .func (PySem.W.fnOf "_law_made" "_law_made" (defArgs s_l_made) (defBody s_l_made) (defScope s_l_made) .none kV_l_made dc_l_made pm_l_made an_l_made cd_l_made ct_l_made), sl_l_made⟩)
    (c_l_made : PySem.W.codeIn K cd_l_made "_law_made" = true)
    (k_l_made : PySem.W.keepIn K (.ref f_l_made) = true)
    (a_l_kept : PySem.W.nsIn K mainGlobals "_law_kept" = some (some (.ref f_l_kept)))
    (l_l_kept : K.lookup f_l_kept = some ⟨oc_l_kept, od_l_kept, .func (PySem.W.fnOf "_law_kept" "_law_kept" (defArgs s_l_kept) (defBody s_l_kept) (defScope s_l_kept) .none kV_l_kept dc_l_kept pm_l_kept an_l_kept cd_l_kept ct_l_kept), sl_l_kept⟩)
    (c_l_kept : PySem.W.codeIn K cd_l_kept "_law_kept" = true)
    (k_l_kept : PySem.W.keepIn K (.ref f_l_kept) = true)
    (a_l_kinds : PySem.W.nsIn K mainGlobals "_law_kinds" = some (some (.ref f_l_kinds)))
    (l_l_kinds : K.lookup f_l_kinds = some ⟨oc_l_kinds, od_l_kinds, .func (PySem.W.fnOf "_law_kinds" "_law_kinds" (defArgs s_l_kinds) (defBody s_l_kinds) (defScope s_l_kinds) .none kV_l_kinds dc_l_kinds pm_l_kinds an_l_kinds cd_l_kinds ct_l_kinds), sl_l_kinds⟩)
    (c_l_kinds : PySem.W.codeIn K cd_l_kinds "_law_kinds" = true)
    (k_l_kinds : PySem.W.keepIn K (.ref f_l_kinds) = true)
    (a_l_taken : PySem.W.nsIn K mainGlobals "_law_taken" = some (some (.ref f_l_taken)))
    (l_l_taken : K.lookup f_l_taken = some ⟨oc_l_taken, od_l_taken, .func (PySem.W.fnOf "_law_taken" "_law_taken" (defArgs s_l_taken) (defBody s_l_taken) (defScope s_l_taken) .none kV_l_taken dc_l_taken pm_l_taken an_l_taken cd_l_taken ct_l_taken), sl_l_taken⟩)
    (c_l_taken : PySem.W.codeIn K cd_l_taken "_law_taken" = true)
    (k_l_taken : PySem.W.keepIn K (.ref f_l_taken) = true)
    (a_law : PySem.W.nsIn K mainGlobals "law" = some (some (.ref f_law)))
    (l_law : K.lookup f_law = some ⟨oc_law, od_law, .func (PySem.W.fnOf "law" "law" (defArgs s_law) (defBody s_law) (defScope s_law) .none kV_law dc_law pm_law an_law cd_law ct_law), sl_law⟩)
    (c_law : PySem.W.codeIn K cd_law "law" = true)
    (k_law : PySem.W.keepIn K (.ref f_law) = true)
    (zabs : PySem.W.nsIn K mainGlobals "abs" = some none)
    (zenumerate : PySem.W.nsIn K mainGlobals "enumerate" = some none)
    (zint : PySem.W.nsIn K mainGlobals "int" = some none)
    (zisinstance : PySem.W.nsIn K mainGlobals "isinstance" = some none)
    (zlen : PySem.W.nsIn K mainGlobals "len" = some none)
    (zrange : PySem.W.nsIn K mainGlobals "range" = some none)
    (zrepr : PySem.W.nsIn K mainGlobals "repr" = some none)
    (kA0_0 : PySem.W.kitOne K (.ref C_BadWord) (.ref C_BadWord) = some true)
    (kA0_1 : PySem.W.kitOne K (.ref C_BadWord) (.ref C_BadRound) = some false)
    (kA0_2 : PySem.W.kitOne K (.ref C_BadWord) (.ref C_BadStrand) = some false)
    (kA0_3 : PySem.W.kitOne K (.ref C_BadWord) (.ref C_BadSum) = some false)
    (kA0_4 : PySem.W.kitOne K (.ref C_BadWord) (.ref C_BadImages) = some false)
    (kA0_5 : PySem.W.kitOne K (.ref C_BadWord) (.ref C_BadBridge) = some false)
    (kA0_6 : PySem.W.kitOne K (.ref C_BadWord) (.ref C_NotSimple) = some false)
    (kA0_7 : PySem.W.kitOne K (.ref C_BadWord) (.ref C_BadDeed) = some false)
    (kA0_8 : PySem.W.kitOne K (.ref C_BadWord) (.ref C_NotNow) = some false)
    (kA0_9 : PySem.W.kitOne K (.ref C_BadWord) (.ref C_BadName) = some false)
    (kA0_10 : PySem.W.kitOne K (.ref C_BadWord) (.ref C_BadNumber) = some false)
    (kA0_11 : PySem.W.kitOne K (.ref C_BadWord) (.ref C_BadSkin) = some false)
    (kA0_12 : PySem.W.kitOne K (.ref C_BadWord) (.ref C_BadRounds) = some false)
    (kA0_13 : PySem.W.kitOne K (.ref C_BadWord) (.ref C_BadDrawing) = some false)
    (kA0_14 : PySem.W.kitOne K (.ref C_BadWord) (.ref C_BadBundle) = some false)
    (kA0_15 : PySem.W.kitOne K (.ref C_BadWord) (.ref C_BadLive) = some false)
    (kA0_16 : PySem.W.kitOne K (.ref C_BadWord) (.ref C_BadFan) = some false)
    (kA0_17 : PySem.W.kitOne K (.ref C_BadWord) (.ref C_NoMark) = some false)
    (kA0_18 : PySem.W.kitOne K (.ref C_BadWord) (.ref C_BadText) = some false)
    (kA0_19 : PySem.W.kitOne K (.ref C_BadWord) (.ref C_TooMany) = some false)
    (kR0 : PySem.W.kitOne K (.ref C_BadWord) (.ref C_RoundError) = some true)
    (kV0 : PySem.W.kitOne K (.ref C_BadWord) (.type "ValueError") = some true)
    (kA1_0 : PySem.W.kitOne K (.ref C_BadRound) (.ref C_BadWord) = some false)
    (kA1_1 : PySem.W.kitOne K (.ref C_BadRound) (.ref C_BadRound) = some true)
    (kA1_2 : PySem.W.kitOne K (.ref C_BadRound) (.ref C_BadStrand) = some false)
    (kA1_3 : PySem.W.kitOne K (.ref C_BadRound) (.ref C_BadSum) = some false)
    (kA1_4 : PySem.W.kitOne K (.ref C_BadRound) (.ref C_BadImages) = some false)
    (kA1_5 : PySem.W.kitOne K (.ref C_BadRound) (.ref C_BadBridge) = some false)
    (kA1_6 : PySem.W.kitOne K (.ref C_BadRound) (.ref C_NotSimple) = some false)
    (kA1_7 : PySem.W.kitOne K (.ref C_BadRound) (.ref C_BadDeed) = some false)
    (kA1_8 : PySem.W.kitOne K (.ref C_BadRound) (.ref C_NotNow) = some false)
    (kA1_9 : PySem.W.kitOne K (.ref C_BadRound) (.ref C_BadName) = some false)
    (kA1_10 : PySem.W.kitOne K (.ref C_BadRound) (.ref C_BadNumber) = some false)
    (kA1_11 : PySem.W.kitOne K (.ref C_BadRound) (.ref C_BadSkin) = some false)
    (kA1_12 : PySem.W.kitOne K (.ref C_BadRound) (.ref C_BadRounds) = some false)
    (kA1_13 : PySem.W.kitOne K (.ref C_BadRound) (.ref C_BadDrawing) = some false)
    (kA1_14 : PySem.W.kitOne K (.ref C_BadRound) (.ref C_BadBundle) = some false)
    (kA1_15 : PySem.W.kitOne K (.ref C_BadRound) (.ref C_BadLive) = some false)
    (kA1_16 : PySem.W.kitOne K (.ref C_BadRound) (.ref C_BadFan) = some false)
    (kA1_17 : PySem.W.kitOne K (.ref C_BadRound) (.ref C_NoMark) = some false)
    (kA1_18 : PySem.W.kitOne K (.ref C_BadRound) (.ref C_BadText) = some false)
    (kA1_19 : PySem.W.kitOne K (.ref C_BadRound) (.ref C_TooMany) = some false)
    (kR1 : PySem.W.kitOne K (.ref C_BadRound) (.ref C_RoundError) = some true)
    (kV1 : PySem.W.kitOne K (.ref C_BadRound) (.type "ValueError") = some true)
    (kA2_0 : PySem.W.kitOne K (.ref C_BadStrand) (.ref C_BadWord) = some false)
    (kA2_1 : PySem.W.kitOne K (.ref C_BadStrand) (.ref C_BadRound) = some false)
    (kA2_2 : PySem.W.kitOne K (.ref C_BadStrand) (.ref C_BadStrand) = some true)
    (kA2_3 : PySem.W.kitOne K (.ref C_BadStrand) (.ref C_BadSum) = some false)
    (kA2_4 : PySem.W.kitOne K (.ref C_BadStrand) (.ref C_BadImages) = some false)
    (kA2_5 : PySem.W.kitOne K (.ref C_BadStrand) (.ref C_BadBridge) = some false)
    (kA2_6 : PySem.W.kitOne K (.ref C_BadStrand) (.ref C_NotSimple) = some false)
    (kA2_7 : PySem.W.kitOne K (.ref C_BadStrand) (.ref C_BadDeed) = some false)
    (kA2_8 : PySem.W.kitOne K (.ref C_BadStrand) (.ref C_NotNow) = some false)
    (kA2_9 : PySem.W.kitOne K (.ref C_BadStrand) (.ref C_BadName) = some false)
    (kA2_10 : PySem.W.kitOne K (.ref C_BadStrand) (.ref C_BadNumber) = some false)
    (kA2_11 : PySem.W.kitOne K (.ref C_BadStrand) (.ref C_BadSkin) = some false)
    (kA2_12 : PySem.W.kitOne K (.ref C_BadStrand) (.ref C_BadRounds) = some false)
    (kA2_13 : PySem.W.kitOne K (.ref C_BadStrand) (.ref C_BadDrawing) = some false)
    (kA2_14 : PySem.W.kitOne K (.ref C_BadStrand) (.ref C_BadBundle) = some false)
    (kA2_15 : PySem.W.kitOne K (.ref C_BadStrand) (.ref C_BadLive) = some false)
    (kA2_16 : PySem.W.kitOne K (.ref C_BadStrand) (.ref C_BadFan) = some false)
    (kA2_17 : PySem.W.kitOne K (.ref C_BadStrand) (.ref C_NoMark) = some false)
    (kA2_18 : PySem.W.kitOne K (.ref C_BadStrand) (.ref C_BadText) = some false)
    (kA2_19 : PySem.W.kitOne K (.ref C_BadStrand) (.ref C_TooMany) = some false)
    (kR2 : PySem.W.kitOne K (.ref C_BadStrand) (.ref C_RoundError) = some true)
    (kV2 : PySem.W.kitOne K (.ref C_BadStrand) (.type "ValueError") = some true)
    (kA3_0 : PySem.W.kitOne K (.ref C_BadSum) (.ref C_BadWord) = some false)
    (kA3_1 : PySem.W.kitOne K (.ref C_BadSum) (.ref C_BadRound) = some false)
    (kA3_2 : PySem.W.kitOne K (.ref C_BadSum) (.ref C_BadStrand) = some false)
    (kA3_3 : PySem.W.kitOne K (.ref C_BadSum) (.ref C_BadSum) = some true)
    (kA3_4 : PySem.W.kitOne K (.ref C_BadSum) (.ref C_BadImages) = some false)
    (kA3_5 : PySem.W.kitOne K (.ref C_BadSum) (.ref C_BadBridge) = some false)
    (kA3_6 : PySem.W.kitOne K (.ref C_BadSum) (.ref C_NotSimple) = some false)
    (kA3_7 : PySem.W.kitOne K (.ref C_BadSum) (.ref C_BadDeed) = some false)
    (kA3_8 : PySem.W.kitOne K (.ref C_BadSum) (.ref C_NotNow) = some false)
    (kA3_9 : PySem.W.kitOne K (.ref C_BadSum) (.ref C_BadName) = some false)
    (kA3_10 : PySem.W.kitOne K (.ref C_BadSum) (.ref C_BadNumber) = some false)
    (kA3_11 : PySem.W.kitOne K (.ref C_BadSum) (.ref C_BadSkin) = some false)
    (kA3_12 : PySem.W.kitOne K (.ref C_BadSum) (.ref C_BadRounds) = some false)
    (kA3_13 : PySem.W.kitOne K (.ref C_BadSum) (.ref C_BadDrawing) = some false)
    (kA3_14 : PySem.W.kitOne K (.ref C_BadSum) (.ref C_BadBundle) = some false)
    (kA3_15 : PySem.W.kitOne K (.ref C_BadSum) (.ref C_BadLive) = some false)
    (kA3_16 : PySem.W.kitOne K (.ref C_BadSum) (.ref C_BadFan) = some false)
    (kA3_17 : PySem.W.kitOne K (.ref C_BadSum) (.ref C_NoMark) = some false)
    (kA3_18 : PySem.W.kitOne K (.ref C_BadSum) (.ref C_BadText) = some false)
    (kA3_19 : PySem.W.kitOne K (.ref C_BadSum) (.ref C_TooMany) = some false)
    (kR3 : PySem.W.kitOne K (.ref C_BadSum) (.ref C_RoundError) = some true)
    (kV3 : PySem.W.kitOne K (.ref C_BadSum) (.type "ValueError") = some true)
    (kA4_0 : PySem.W.kitOne K (.ref C_BadImages) (.ref C_BadWord) = some false)
    (kA4_1 : PySem.W.kitOne K (.ref C_BadImages) (.ref C_BadRound) = some false)
    (kA4_2 : PySem.W.kitOne K (.ref C_BadImages) (.ref C_BadStrand) = some false)
    (kA4_3 : PySem.W.kitOne K (.ref C_BadImages) (.ref C_BadSum) = some false)
    (kA4_4 : PySem.W.kitOne K (.ref C_BadImages) (.ref C_BadImages) = some true)
    (kA4_5 : PySem.W.kitOne K (.ref C_BadImages) (.ref C_BadBridge) = some false)
    (kA4_6 : PySem.W.kitOne K (.ref C_BadImages) (.ref C_NotSimple) = some false)
    (kA4_7 : PySem.W.kitOne K (.ref C_BadImages) (.ref C_BadDeed) = some false)
    (kA4_8 : PySem.W.kitOne K (.ref C_BadImages) (.ref C_NotNow) = some false)
    (kA4_9 : PySem.W.kitOne K (.ref C_BadImages) (.ref C_BadName) = some false)
    (kA4_10 : PySem.W.kitOne K (.ref C_BadImages) (.ref C_BadNumber) = some false)
    (kA4_11 : PySem.W.kitOne K (.ref C_BadImages) (.ref C_BadSkin) = some false)
    (kA4_12 : PySem.W.kitOne K (.ref C_BadImages) (.ref C_BadRounds) = some false)
    (kA4_13 : PySem.W.kitOne K (.ref C_BadImages) (.ref C_BadDrawing) = some false)
    (kA4_14 : PySem.W.kitOne K (.ref C_BadImages) (.ref C_BadBundle) = some false)
    (kA4_15 : PySem.W.kitOne K (.ref C_BadImages) (.ref C_BadLive) = some false)
    (kA4_16 : PySem.W.kitOne K (.ref C_BadImages) (.ref C_BadFan) = some false)
    (kA4_17 : PySem.W.kitOne K (.ref C_BadImages) (.ref C_NoMark) = some false)
    (kA4_18 : PySem.W.kitOne K (.ref C_BadImages) (.ref C_BadText) = some false)
    (kA4_19 : PySem.W.kitOne K (.ref C_BadImages) (.ref C_TooMany) = some false)
    (kR4 : PySem.W.kitOne K (.ref C_BadImages) (.ref C_RoundError) = some true)
    (kV4 : PySem.W.kitOne K (.ref C_BadImages) (.type "ValueError") = some true)
    (kA5_0 : PySem.W.kitOne K (.ref C_BadBridge) (.ref C_BadWord) = some false)
    (kA5_1 : PySem.W.kitOne K (.ref C_BadBridge) (.ref C_BadRound) = some false)
    (kA5_2 : PySem.W.kitOne K (.ref C_BadBridge) (.ref C_BadStrand) = some false)
    (kA5_3 : PySem.W.kitOne K (.ref C_BadBridge) (.ref C_BadSum) = some false)
    (kA5_4 : PySem.W.kitOne K (.ref C_BadBridge) (.ref C_BadImages) = some false)
    (kA5_5 : PySem.W.kitOne K (.ref C_BadBridge) (.ref C_BadBridge) = some true)
    (kA5_6 : PySem.W.kitOne K (.ref C_BadBridge) (.ref C_NotSimple) = some false)
    (kA5_7 : PySem.W.kitOne K (.ref C_BadBridge) (.ref C_BadDeed) = some false)
    (kA5_8 : PySem.W.kitOne K (.ref C_BadBridge) (.ref C_NotNow) = some false)
    (kA5_9 : PySem.W.kitOne K (.ref C_BadBridge) (.ref C_BadName) = some false)
    (kA5_10 : PySem.W.kitOne K (.ref C_BadBridge) (.ref C_BadNumber) = some false)
    (kA5_11 : PySem.W.kitOne K (.ref C_BadBridge) (.ref C_BadSkin) = some false)
    (kA5_12 : PySem.W.kitOne K (.ref C_BadBridge) (.ref C_BadRounds) = some false)
    (kA5_13 : PySem.W.kitOne K (.ref C_BadBridge) (.ref C_BadDrawing) = some false)
    (kA5_14 : PySem.W.kitOne K (.ref C_BadBridge) (.ref C_BadBundle) = some false)
    (kA5_15 : PySem.W.kitOne K (.ref C_BadBridge) (.ref C_BadLive) = some false)
    (kA5_16 : PySem.W.kitOne K (.ref C_BadBridge) (.ref C_BadFan) = some false)
    (kA5_17 : PySem.W.kitOne K (.ref C_BadBridge) (.ref C_NoMark) = some false)
    (kA5_18 : PySem.W.kitOne K (.ref C_BadBridge) (.ref C_BadText) = some false)
    (kA5_19 : PySem.W.kitOne K (.ref C_BadBridge) (.ref C_TooMany) = some false)
    (kR5 : PySem.W.kitOne K (.ref C_BadBridge) (.ref C_RoundError) = some true)
    (kV5 : PySem.W.kitOne K (.ref C_BadBridge) (.type "ValueError") = some true)
    (kA6_0 : PySem.W.kitOne K (.ref C_NotSimple) (.ref C_BadWord) = some false)
    (kA6_1 : PySem.W.kitOne K (.ref C_NotSimple) (.ref C_BadRound) = some false)
    (kA6_2 : PySem.W.kitOne K (.ref C_NotSimple) (.ref C_BadStrand) = some false)
    (kA6_3 : PySem.W.kitOne K (.ref C_NotSimple) (.ref C_BadSum) = some false)
    (kA6_4 : PySem.W.kitOne K (.ref C_NotSimple) (.ref C_BadImages) = some false)
    (kA6_5 : PySem.W.kitOne K (.ref C_NotSimple) (.ref C_BadBridge) = some false)
    (kA6_6 : PySem.W.kitOne K (.ref C_NotSimple) (.ref C_NotSimple) = some true)
    (kA6_7 : PySem.W.kitOne K (.ref C_NotSimple) (.ref C_BadDeed) = some false)
    (kA6_8 : PySem.W.kitOne K (.ref C_NotSimple) (.ref C_NotNow) = some false)
    (kA6_9 : PySem.W.kitOne K (.ref C_NotSimple) (.ref C_BadName) = some false)
    (kA6_10 : PySem.W.kitOne K (.ref C_NotSimple) (.ref C_BadNumber) = some false)
    (kA6_11 : PySem.W.kitOne K (.ref C_NotSimple) (.ref C_BadSkin) = some false)
    (kA6_12 : PySem.W.kitOne K (.ref C_NotSimple) (.ref C_BadRounds) = some false)
    (kA6_13 : PySem.W.kitOne K (.ref C_NotSimple) (.ref C_BadDrawing) = some false)
    (kA6_14 : PySem.W.kitOne K (.ref C_NotSimple) (.ref C_BadBundle) = some false)
    (kA6_15 : PySem.W.kitOne K (.ref C_NotSimple) (.ref C_BadLive) = some false)
    (kA6_16 : PySem.W.kitOne K (.ref C_NotSimple) (.ref C_BadFan) = some false)
    (kA6_17 : PySem.W.kitOne K (.ref C_NotSimple) (.ref C_NoMark) = some false)
    (kA6_18 : PySem.W.kitOne K (.ref C_NotSimple) (.ref C_BadText) = some false)
    (kA6_19 : PySem.W.kitOne K (.ref C_NotSimple) (.ref C_TooMany) = some false)
    (kR6 : PySem.W.kitOne K (.ref C_NotSimple) (.ref C_RoundError) = some true)
    (kV6 : PySem.W.kitOne K (.ref C_NotSimple) (.type "ValueError") = some true)
    (kA7_0 : PySem.W.kitOne K (.ref C_BadDeed) (.ref C_BadWord) = some false)
    (kA7_1 : PySem.W.kitOne K (.ref C_BadDeed) (.ref C_BadRound) = some false)
    (kA7_2 : PySem.W.kitOne K (.ref C_BadDeed) (.ref C_BadStrand) = some false)
    (kA7_3 : PySem.W.kitOne K (.ref C_BadDeed) (.ref C_BadSum) = some false)
    (kA7_4 : PySem.W.kitOne K (.ref C_BadDeed) (.ref C_BadImages) = some false)
    (kA7_5 : PySem.W.kitOne K (.ref C_BadDeed) (.ref C_BadBridge) = some false)
    (kA7_6 : PySem.W.kitOne K (.ref C_BadDeed) (.ref C_NotSimple) = some false)
    (kA7_7 : PySem.W.kitOne K (.ref C_BadDeed) (.ref C_BadDeed) = some true)
    (kA7_8 : PySem.W.kitOne K (.ref C_BadDeed) (.ref C_NotNow) = some false)
    (kA7_9 : PySem.W.kitOne K (.ref C_BadDeed) (.ref C_BadName) = some false)
    (kA7_10 : PySem.W.kitOne K (.ref C_BadDeed) (.ref C_BadNumber) = some false)
    (kA7_11 : PySem.W.kitOne K (.ref C_BadDeed) (.ref C_BadSkin) = some false)
    (kA7_12 : PySem.W.kitOne K (.ref C_BadDeed) (.ref C_BadRounds) = some false)
    (kA7_13 : PySem.W.kitOne K (.ref C_BadDeed) (.ref C_BadDrawing) = some false)
    (kA7_14 : PySem.W.kitOne K (.ref C_BadDeed) (.ref C_BadBundle) = some false)
    (kA7_15 : PySem.W.kitOne K (.ref C_BadDeed) (.ref C_BadLive) = some false)
    (kA7_16 : PySem.W.kitOne K (.ref C_BadDeed) (.ref C_BadFan) = some false)
    (kA7_17 : PySem.W.kitOne K (.ref C_BadDeed) (.ref C_NoMark) = some false)
    (kA7_18 : PySem.W.kitOne K (.ref C_BadDeed) (.ref C_BadText) = some false)
    (kA7_19 : PySem.W.kitOne K (.ref C_BadDeed) (.ref C_TooMany) = some false)
    (kR7 : PySem.W.kitOne K (.ref C_BadDeed) (.ref C_RoundError) = some true)
    (kV7 : PySem.W.kitOne K (.ref C_BadDeed) (.type "ValueError") = some true)
    (kA8_0 : PySem.W.kitOne K (.ref C_NotNow) (.ref C_BadWord) = some false)
    (kA8_1 : PySem.W.kitOne K (.ref C_NotNow) (.ref C_BadRound) = some false)
    (kA8_2 : PySem.W.kitOne K (.ref C_NotNow) (.ref C_BadStrand) = some false)
    (kA8_3 : PySem.W.kitOne K (.ref C_NotNow) (.ref C_BadSum) = some false)
    (kA8_4 : PySem.W.kitOne K (.ref C_NotNow) (.ref C_BadImages) = some false)
    (kA8_5 : PySem.W.kitOne K (.ref C_NotNow) (.ref C_BadBridge) = some false)
    (kA8_6 : PySem.W.kitOne K (.ref C_NotNow) (.ref C_NotSimple) = some false)
    (kA8_7 : PySem.W.kitOne K (.ref C_NotNow) (.ref C_BadDeed) = some false)
    (kA8_8 : PySem.W.kitOne K (.ref C_NotNow) (.ref C_NotNow) = some true)
    (kA8_9 : PySem.W.kitOne K (.ref C_NotNow) (.ref C_BadName) = some false)
    (kA8_10 : PySem.W.kitOne K (.ref C_NotNow) (.ref C_BadNumber) = some false)
    (kA8_11 : PySem.W.kitOne K (.ref C_NotNow) (.ref C_BadSkin) = some false)
    (kA8_12 : PySem.W.kitOne K (.ref C_NotNow) (.ref C_BadRounds) = some false)
    (kA8_13 : PySem.W.kitOne K (.ref C_NotNow) (.ref C_BadDrawing) = some false)
    (kA8_14 : PySem.W.kitOne K (.ref C_NotNow) (.ref C_BadBundle) = some false)
    (kA8_15 : PySem.W.kitOne K (.ref C_NotNow) (.ref C_BadLive) = some false)
    (kA8_16 : PySem.W.kitOne K (.ref C_NotNow) (.ref C_BadFan) = some false)
    (kA8_17 : PySem.W.kitOne K (.ref C_NotNow) (.ref C_NoMark) = some false)
    (kA8_18 : PySem.W.kitOne K (.ref C_NotNow) (.ref C_BadText) = some false)
    (kA8_19 : PySem.W.kitOne K (.ref C_NotNow) (.ref C_TooMany) = some false)
    (kR8 : PySem.W.kitOne K (.ref C_NotNow) (.ref C_RoundError) = some true)
    (kV8 : PySem.W.kitOne K (.ref C_NotNow) (.type "ValueError") = some true)
    (kA9_0 : PySem.W.kitOne K (.ref C_BadName) (.ref C_BadWord) = some false)
    (kA9_1 : PySem.W.kitOne K (.ref C_BadName) (.ref C_BadRound) = some false)
    (kA9_2 : PySem.W.kitOne K (.ref C_BadName) (.ref C_BadStrand) = some false)
    (kA9_3 : PySem.W.kitOne K (.ref C_BadName) (.ref C_BadSum) = some false)
    (kA9_4 : PySem.W.kitOne K (.ref C_BadName) (.ref C_BadImages) = some false)
    (kA9_5 : PySem.W.kitOne K (.ref C_BadName) (.ref C_BadBridge) = some false)
    (kA9_6 : PySem.W.kitOne K (.ref C_BadName) (.ref C_NotSimple) = some false)
    (kA9_7 : PySem.W.kitOne K (.ref C_BadName) (.ref C_BadDeed) = some false)
    (kA9_8 : PySem.W.kitOne K (.ref C_BadName) (.ref C_NotNow) = some false)
    (kA9_9 : PySem.W.kitOne K (.ref C_BadName) (.ref C_BadName) = some true)
    (kA9_10 : PySem.W.kitOne K (.ref C_BadName) (.ref C_BadNumber) = some false)
    (kA9_11 : PySem.W.kitOne K (.ref C_BadName) (.ref C_BadSkin) = some false)
    (kA9_12 : PySem.W.kitOne K (.ref C_BadName) (.ref C_BadRounds) = some false)
    (kA9_13 : PySem.W.kitOne K (.ref C_BadName) (.ref C_BadDrawing) = some false)
    (kA9_14 : PySem.W.kitOne K (.ref C_BadName) (.ref C_BadBundle) = some false)
    (kA9_15 : PySem.W.kitOne K (.ref C_BadName) (.ref C_BadLive) = some false)
    (kA9_16 : PySem.W.kitOne K (.ref C_BadName) (.ref C_BadFan) = some false)
    (kA9_17 : PySem.W.kitOne K (.ref C_BadName) (.ref C_NoMark) = some false)
    (kA9_18 : PySem.W.kitOne K (.ref C_BadName) (.ref C_BadText) = some false)
    (kA9_19 : PySem.W.kitOne K (.ref C_BadName) (.ref C_TooMany) = some false)
    (kR9 : PySem.W.kitOne K (.ref C_BadName) (.ref C_RoundError) = some true)
    (kV9 : PySem.W.kitOne K (.ref C_BadName) (.type "ValueError") = some true)
    (kA10_0 : PySem.W.kitOne K (.ref C_BadNumber) (.ref C_BadWord) = some false)
    (kA10_1 : PySem.W.kitOne K (.ref C_BadNumber) (.ref C_BadRound) = some false)
    (kA10_2 : PySem.W.kitOne K (.ref C_BadNumber) (.ref C_BadStrand) = some false)
    (kA10_3 : PySem.W.kitOne K (.ref C_BadNumber) (.ref C_BadSum) = some false)
    (kA10_4 : PySem.W.kitOne K (.ref C_BadNumber) (.ref C_BadImages) = some false)
    (kA10_5 : PySem.W.kitOne K (.ref C_BadNumber) (.ref C_BadBridge) = some false)
    (kA10_6 : PySem.W.kitOne K (.ref C_BadNumber) (.ref C_NotSimple) = some false)
    (kA10_7 : PySem.W.kitOne K (.ref C_BadNumber) (.ref C_BadDeed) = some false)
    (kA10_8 : PySem.W.kitOne K (.ref C_BadNumber) (.ref C_NotNow) = some false)
    (kA10_9 : PySem.W.kitOne K (.ref C_BadNumber) (.ref C_BadName) = some false)
    (kA10_10 : PySem.W.kitOne K (.ref C_BadNumber) (.ref C_BadNumber) = some true)
    (kA10_11 : PySem.W.kitOne K (.ref C_BadNumber) (.ref C_BadSkin) = some false)
    (kA10_12 : PySem.W.kitOne K (.ref C_BadNumber) (.ref C_BadRounds) = some false)
    (kA10_13 : PySem.W.kitOne K (.ref C_BadNumber) (.ref C_BadDrawing) = some false)
    (kA10_14 : PySem.W.kitOne K (.ref C_BadNumber) (.ref C_BadBundle) = some false)
    (kA10_15 : PySem.W.kitOne K (.ref C_BadNumber) (.ref C_BadLive) = some false)
    (kA10_16 : PySem.W.kitOne K (.ref C_BadNumber) (.ref C_BadFan) = some false)
    (kA10_17 : PySem.W.kitOne K (.ref C_BadNumber) (.ref C_NoMark) = some false)
    (kA10_18 : PySem.W.kitOne K (.ref C_BadNumber) (.ref C_BadText) = some false)
    (kA10_19 : PySem.W.kitOne K (.ref C_BadNumber) (.ref C_TooMany) = some false)
    (kR10 : PySem.W.kitOne K (.ref C_BadNumber) (.ref C_RoundError) = some true)
    (kV10 : PySem.W.kitOne K (.ref C_BadNumber) (.type "ValueError") = some true)
    (kA11_0 : PySem.W.kitOne K (.ref C_BadSkin) (.ref C_BadWord) = some false)
    (kA11_1 : PySem.W.kitOne K (.ref C_BadSkin) (.ref C_BadRound) = some false)
    (kA11_2 : PySem.W.kitOne K (.ref C_BadSkin) (.ref C_BadStrand) = some false)
    (kA11_3 : PySem.W.kitOne K (.ref C_BadSkin) (.ref C_BadSum) = some false)
    (kA11_4 : PySem.W.kitOne K (.ref C_BadSkin) (.ref C_BadImages) = some false)
    (kA11_5 : PySem.W.kitOne K (.ref C_BadSkin) (.ref C_BadBridge) = some false)
    (kA11_6 : PySem.W.kitOne K (.ref C_BadSkin) (.ref C_NotSimple) = some false)
    (kA11_7 : PySem.W.kitOne K (.ref C_BadSkin) (.ref C_BadDeed) = some false)
    (kA11_8 : PySem.W.kitOne K (.ref C_BadSkin) (.ref C_NotNow) = some false)
    (kA11_9 : PySem.W.kitOne K (.ref C_BadSkin) (.ref C_BadName) = some false)
    (kA11_10 : PySem.W.kitOne K (.ref C_BadSkin) (.ref C_BadNumber) = some false)
    (kA11_11 : PySem.W.kitOne K (.ref C_BadSkin) (.ref C_BadSkin) = some true)
    (kA11_12 : PySem.W.kitOne K (.ref C_BadSkin) (.ref C_BadRounds) = some false)
    (kA11_13 : PySem.W.kitOne K (.ref C_BadSkin) (.ref C_BadDrawing) = some false)
    (kA11_14 : PySem.W.kitOne K (.ref C_BadSkin) (.ref C_BadBundle) = some false)
    (kA11_15 : PySem.W.kitOne K (.ref C_BadSkin) (.ref C_BadLive) = some false)
    (kA11_16 : PySem.W.kitOne K (.ref C_BadSkin) (.ref C_BadFan) = some false)
    (kA11_17 : PySem.W.kitOne K (.ref C_BadSkin) (.ref C_NoMark) = some false)
    (kA11_18 : PySem.W.kitOne K (.ref C_BadSkin) (.ref C_BadText) = some false)
    (kA11_19 : PySem.W.kitOne K (.ref C_BadSkin) (.ref C_TooMany) = some false)
    (kR11 : PySem.W.kitOne K (.ref C_BadSkin) (.ref C_RoundError) = some true)
    (kV11 : PySem.W.kitOne K (.ref C_BadSkin) (.type "ValueError") = some true)
    (kA12_0 : PySem.W.kitOne K (.ref C_BadRounds) (.ref C_BadWord) = some false)
    (kA12_1 : PySem.W.kitOne K (.ref C_BadRounds) (.ref C_BadRound) = some false)
    (kA12_2 : PySem.W.kitOne K (.ref C_BadRounds) (.ref C_BadStrand) = some false)
    (kA12_3 : PySem.W.kitOne K (.ref C_BadRounds) (.ref C_BadSum) = some false)
    (kA12_4 : PySem.W.kitOne K (.ref C_BadRounds) (.ref C_BadImages) = some false)
    (kA12_5 : PySem.W.kitOne K (.ref C_BadRounds) (.ref C_BadBridge) = some false)
    (kA12_6 : PySem.W.kitOne K (.ref C_BadRounds) (.ref C_NotSimple) = some false)
    (kA12_7 : PySem.W.kitOne K (.ref C_BadRounds) (.ref C_BadDeed) = some false)
    (kA12_8 : PySem.W.kitOne K (.ref C_BadRounds) (.ref C_NotNow) = some false)
    (kA12_9 : PySem.W.kitOne K (.ref C_BadRounds) (.ref C_BadName) = some false)
    (kA12_10 : PySem.W.kitOne K (.ref C_BadRounds) (.ref C_BadNumber) = some false)
    (kA12_11 : PySem.W.kitOne K (.ref C_BadRounds) (.ref C_BadSkin) = some false)
    (kA12_12 : PySem.W.kitOne K (.ref C_BadRounds) (.ref C_BadRounds) = some true)
    (kA12_13 : PySem.W.kitOne K (.ref C_BadRounds) (.ref C_BadDrawing) = some false)
    (kA12_14 : PySem.W.kitOne K (.ref C_BadRounds) (.ref C_BadBundle) = some false)
    (kA12_15 : PySem.W.kitOne K (.ref C_BadRounds) (.ref C_BadLive) = some false)
    (kA12_16 : PySem.W.kitOne K (.ref C_BadRounds) (.ref C_BadFan) = some false)
    (kA12_17 : PySem.W.kitOne K (.ref C_BadRounds) (.ref C_NoMark) = some false)
    (kA12_18 : PySem.W.kitOne K (.ref C_BadRounds) (.ref C_BadText) = some false)
    (kA12_19 : PySem.W.kitOne K (.ref C_BadRounds) (.ref C_TooMany) = some false)
    (kR12 : PySem.W.kitOne K (.ref C_BadRounds) (.ref C_RoundError) = some true)
    (kV12 : PySem.W.kitOne K (.ref C_BadRounds) (.type "ValueError") = some true)
    (kA13_0 : PySem.W.kitOne K (.ref C_BadDrawing) (.ref C_BadWord) = some false)
    (kA13_1 : PySem.W.kitOne K (.ref C_BadDrawing) (.ref C_BadRound) = some false)
    (kA13_2 : PySem.W.kitOne K (.ref C_BadDrawing) (.ref C_BadStrand) = some false)
    (kA13_3 : PySem.W.kitOne K (.ref C_BadDrawing) (.ref C_BadSum) = some false)
    (kA13_4 : PySem.W.kitOne K (.ref C_BadDrawing) (.ref C_BadImages) = some false)
    (kA13_5 : PySem.W.kitOne K (.ref C_BadDrawing) (.ref C_BadBridge) = some false)
    (kA13_6 : PySem.W.kitOne K (.ref C_BadDrawing) (.ref C_NotSimple) = some false)
    (kA13_7 : PySem.W.kitOne K (.ref C_BadDrawing) (.ref C_BadDeed) = some false)
    (kA13_8 : PySem.W.kitOne K (.ref C_BadDrawing) (.ref C_NotNow) = some false)
    (kA13_9 : PySem.W.kitOne K (.ref C_BadDrawing) (.ref C_BadName) = some false)
    (kA13_10 : PySem.W.kitOne K (.ref C_BadDrawing) (.ref C_BadNumber) = some false)
    (kA13_11 : PySem.W.kitOne K (.ref C_BadDrawing) (.ref C_BadSkin) = some false)
    (kA13_12 : PySem.W.kitOne K (.ref C_BadDrawing) (.ref C_BadRounds) = some false)
    (kA13_13 : PySem.W.kitOne K (.ref C_BadDrawing) (.ref C_BadDrawing) = some true)
    (kA13_14 : PySem.W.kitOne K (.ref C_BadDrawing) (.ref C_BadBundle) = some false)
    (kA13_15 : PySem.W.kitOne K (.ref C_BadDrawing) (.ref C_BadLive) = some false)
    (kA13_16 : PySem.W.kitOne K (.ref C_BadDrawing) (.ref C_BadFan) = some false)
    (kA13_17 : PySem.W.kitOne K (.ref C_BadDrawing) (.ref C_NoMark) = some false)
    (kA13_18 : PySem.W.kitOne K (.ref C_BadDrawing) (.ref C_BadText) = some false)
    (kA13_19 : PySem.W.kitOne K (.ref C_BadDrawing) (.ref C_TooMany) = some false)
    (kR13 : PySem.W.kitOne K (.ref C_BadDrawing) (.ref C_RoundError) = some true)
    (kV13 : PySem.W.kitOne K (.ref C_BadDrawing) (.type "ValueError") = some true)
    (kA14_0 : PySem.W.kitOne K (.ref C_BadBundle) (.ref C_BadWord) = some false)
    (kA14_1 : PySem.W.kitOne K (.ref C_BadBundle) (.ref C_BadRound) = some false)
    (kA14_2 : PySem.W.kitOne K (.ref C_BadBundle) (.ref C_BadStrand) = some false)
    (kA14_3 : PySem.W.kitOne K (.ref C_BadBundle) (.ref C_BadSum) = some false)
    (kA14_4 : PySem.W.kitOne K (.ref C_BadBundle) (.ref C_BadImages) = some false)
    (kA14_5 : PySem.W.kitOne K (.ref C_BadBundle) (.ref C_BadBridge) = some false)
    (kA14_6 : PySem.W.kitOne K (.ref C_BadBundle) (.ref C_NotSimple) = some false)
    (kA14_7 : PySem.W.kitOne K (.ref C_BadBundle) (.ref C_BadDeed) = some false)
    (kA14_8 : PySem.W.kitOne K (.ref C_BadBundle) (.ref C_NotNow) = some false)
    (kA14_9 : PySem.W.kitOne K (.ref C_BadBundle) (.ref C_BadName) = some false)
    (kA14_10 : PySem.W.kitOne K (.ref C_BadBundle) (.ref C_BadNumber) = some false)
    (kA14_11 : PySem.W.kitOne K (.ref C_BadBundle) (.ref C_BadSkin) = some false)
    (kA14_12 : PySem.W.kitOne K (.ref C_BadBundle) (.ref C_BadRounds) = some false)
    (kA14_13 : PySem.W.kitOne K (.ref C_BadBundle) (.ref C_BadDrawing) = some false)
    (kA14_14 : PySem.W.kitOne K (.ref C_BadBundle) (.ref C_BadBundle) = some true)
    (kA14_15 : PySem.W.kitOne K (.ref C_BadBundle) (.ref C_BadLive) = some false)
    (kA14_16 : PySem.W.kitOne K (.ref C_BadBundle) (.ref C_BadFan) = some false)
    (kA14_17 : PySem.W.kitOne K (.ref C_BadBundle) (.ref C_NoMark) = some false)
    (kA14_18 : PySem.W.kitOne K (.ref C_BadBundle) (.ref C_BadText) = some false)
    (kA14_19 : PySem.W.kitOne K (.ref C_BadBundle) (.ref C_TooMany) = some false)
    (kR14 : PySem.W.kitOne K (.ref C_BadBundle) (.ref C_RoundError) = some true)
    (kV14 : PySem.W.kitOne K (.ref C_BadBundle) (.type "ValueError") = some true)
    (kA15_0 : PySem.W.kitOne K (.ref C_BadLive) (.ref C_BadWord) = some false)
    (kA15_1 : PySem.W.kitOne K (.ref C_BadLive) (.ref C_BadRound) = some false)
    (kA15_2 : PySem.W.kitOne K (.ref C_BadLive) (.ref C_BadStrand) = some false)
    (kA15_3 : PySem.W.kitOne K (.ref C_BadLive) (.ref C_BadSum) = some false)
    (kA15_4 : PySem.W.kitOne K (.ref C_BadLive) (.ref C_BadImages) = some false)
    (kA15_5 : PySem.W.kitOne K (.ref C_BadLive) (.ref C_BadBridge) = some false)
    (kA15_6 : PySem.W.kitOne K (.ref C_BadLive) (.ref C_NotSimple) = some false)
    (kA15_7 : PySem.W.kitOne K (.ref C_BadLive) (.ref C_BadDeed) = some false)
    (kA15_8 : PySem.W.kitOne K (.ref C_BadLive) (.ref C_NotNow) = some false)
    (kA15_9 : PySem.W.kitOne K (.ref C_BadLive) (.ref C_BadName) = some false)
    (kA15_10 : PySem.W.kitOne K (.ref C_BadLive) (.ref C_BadNumber) = some false)
    (kA15_11 : PySem.W.kitOne K (.ref C_BadLive) (.ref C_BadSkin) = some false)
    (kA15_12 : PySem.W.kitOne K (.ref C_BadLive) (.ref C_BadRounds) = some false)
    (kA15_13 : PySem.W.kitOne K (.ref C_BadLive) (.ref C_BadDrawing) = some false)
    (kA15_14 : PySem.W.kitOne K (.ref C_BadLive) (.ref C_BadBundle) = some false)
    (kA15_15 : PySem.W.kitOne K (.ref C_BadLive) (.ref C_BadLive) = some true)
    (kA15_16 : PySem.W.kitOne K (.ref C_BadLive) (.ref C_BadFan) = some false)
    (kA15_17 : PySem.W.kitOne K (.ref C_BadLive) (.ref C_NoMark) = some false)
    (kA15_18 : PySem.W.kitOne K (.ref C_BadLive) (.ref C_BadText) = some false)
    (kA15_19 : PySem.W.kitOne K (.ref C_BadLive) (.ref C_TooMany) = some false)
    (kR15 : PySem.W.kitOne K (.ref C_BadLive) (.ref C_RoundError) = some true)
    (kV15 : PySem.W.kitOne K (.ref C_BadLive) (.type "ValueError") = some true)
    (kA16_0 : PySem.W.kitOne K (.ref C_BadFan) (.ref C_BadWord) = some false)
    (kA16_1 : PySem.W.kitOne K (.ref C_BadFan) (.ref C_BadRound) = some false)
    (kA16_2 : PySem.W.kitOne K (.ref C_BadFan) (.ref C_BadStrand) = some false)
    (kA16_3 : PySem.W.kitOne K (.ref C_BadFan) (.ref C_BadSum) = some false)
    (kA16_4 : PySem.W.kitOne K (.ref C_BadFan) (.ref C_BadImages) = some false)
    (kA16_5 : PySem.W.kitOne K (.ref C_BadFan) (.ref C_BadBridge) = some false)
    (kA16_6 : PySem.W.kitOne K (.ref C_BadFan) (.ref C_NotSimple) = some false)
    (kA16_7 : PySem.W.kitOne K (.ref C_BadFan) (.ref C_BadDeed) = some false)
    (kA16_8 : PySem.W.kitOne K (.ref C_BadFan) (.ref C_NotNow) = some false)
    (kA16_9 : PySem.W.kitOne K (.ref C_BadFan) (.ref C_BadName) = some false)
    (kA16_10 : PySem.W.kitOne K (.ref C_BadFan) (.ref C_BadNumber) = some false)
    (kA16_11 : PySem.W.kitOne K (.ref C_BadFan) (.ref C_BadSkin) = some false)
    (kA16_12 : PySem.W.kitOne K (.ref C_BadFan) (.ref C_BadRounds) = some false)
    (kA16_13 : PySem.W.kitOne K (.ref C_BadFan) (.ref C_BadDrawing) = some false)
    (kA16_14 : PySem.W.kitOne K (.ref C_BadFan) (.ref C_BadBundle) = some false)
    (kA16_15 : PySem.W.kitOne K (.ref C_BadFan) (.ref C_BadLive) = some false)
    (kA16_16 : PySem.W.kitOne K (.ref C_BadFan) (.ref C_BadFan) = some true)
    (kA16_17 : PySem.W.kitOne K (.ref C_BadFan) (.ref C_NoMark) = some false)
    (kA16_18 : PySem.W.kitOne K (.ref C_BadFan) (.ref C_BadText) = some false)
    (kA16_19 : PySem.W.kitOne K (.ref C_BadFan) (.ref C_TooMany) = some false)
    (kR16 : PySem.W.kitOne K (.ref C_BadFan) (.ref C_RoundError) = some true)
    (kV16 : PySem.W.kitOne K (.ref C_BadFan) (.type "ValueError") = some true)
    (kA17_0 : PySem.W.kitOne K (.ref C_NoMark) (.ref C_BadWord) = some false)
    (kA17_1 : PySem.W.kitOne K (.ref C_NoMark) (.ref C_BadRound) = some false)
    (kA17_2 : PySem.W.kitOne K (.ref C_NoMark) (.ref C_BadStrand) = some false)
    (kA17_3 : PySem.W.kitOne K (.ref C_NoMark) (.ref C_BadSum) = some false)
    (kA17_4 : PySem.W.kitOne K (.ref C_NoMark) (.ref C_BadImages) = some false)
    (kA17_5 : PySem.W.kitOne K (.ref C_NoMark) (.ref C_BadBridge) = some false)
    (kA17_6 : PySem.W.kitOne K (.ref C_NoMark) (.ref C_NotSimple) = some false)
    (kA17_7 : PySem.W.kitOne K (.ref C_NoMark) (.ref C_BadDeed) = some false)
    (kA17_8 : PySem.W.kitOne K (.ref C_NoMark) (.ref C_NotNow) = some false)
    (kA17_9 : PySem.W.kitOne K (.ref C_NoMark) (.ref C_BadName) = some false)
    (kA17_10 : PySem.W.kitOne K (.ref C_NoMark) (.ref C_BadNumber) = some false)
    (kA17_11 : PySem.W.kitOne K (.ref C_NoMark) (.ref C_BadSkin) = some false)
    (kA17_12 : PySem.W.kitOne K (.ref C_NoMark) (.ref C_BadRounds) = some false)
    (kA17_13 : PySem.W.kitOne K (.ref C_NoMark) (.ref C_BadDrawing) = some false)
    (kA17_14 : PySem.W.kitOne K (.ref C_NoMark) (.ref C_BadBundle) = some false)
    (kA17_15 : PySem.W.kitOne K (.ref C_NoMark) (.ref C_BadLive) = some false)
    (kA17_16 : PySem.W.kitOne K (.ref C_NoMark) (.ref C_BadFan) = some false)
    (kA17_17 : PySem.W.kitOne K (.ref C_NoMark) (.ref C_NoMark) = some true)
    (kA17_18 : PySem.W.kitOne K (.ref C_NoMark) (.ref C_BadText) = some false)
    (kA17_19 : PySem.W.kitOne K (.ref C_NoMark) (.ref C_TooMany) = some false)
    (kR17 : PySem.W.kitOne K (.ref C_NoMark) (.ref C_RoundError) = some true)
    (kV17 : PySem.W.kitOne K (.ref C_NoMark) (.type "ValueError") = some true)
    (kA18_0 : PySem.W.kitOne K (.ref C_BadText) (.ref C_BadWord) = some false)
    (kA18_1 : PySem.W.kitOne K (.ref C_BadText) (.ref C_BadRound) = some false)
    (kA18_2 : PySem.W.kitOne K (.ref C_BadText) (.ref C_BadStrand) = some false)
    (kA18_3 : PySem.W.kitOne K (.ref C_BadText) (.ref C_BadSum) = some false)
    (kA18_4 : PySem.W.kitOne K (.ref C_BadText) (.ref C_BadImages) = some false)
    (kA18_5 : PySem.W.kitOne K (.ref C_BadText) (.ref C_BadBridge) = some false)
    (kA18_6 : PySem.W.kitOne K (.ref C_BadText) (.ref C_NotSimple) = some false)
    (kA18_7 : PySem.W.kitOne K (.ref C_BadText) (.ref C_BadDeed) = some false)
    (kA18_8 : PySem.W.kitOne K (.ref C_BadText) (.ref C_NotNow) = some false)
    (kA18_9 : PySem.W.kitOne K (.ref C_BadText) (.ref C_BadName) = some false)
    (kA18_10 : PySem.W.kitOne K (.ref C_BadText) (.ref C_BadNumber) = some false)
    (kA18_11 : PySem.W.kitOne K (.ref C_BadText) (.ref C_BadSkin) = some false)
    (kA18_12 : PySem.W.kitOne K (.ref C_BadText) (.ref C_BadRounds) = some false)
    (kA18_13 : PySem.W.kitOne K (.ref C_BadText) (.ref C_BadDrawing) = some false)
    (kA18_14 : PySem.W.kitOne K (.ref C_BadText) (.ref C_BadBundle) = some false)
    (kA18_15 : PySem.W.kitOne K (.ref C_BadText) (.ref C_BadLive) = some false)
    (kA18_16 : PySem.W.kitOne K (.ref C_BadText) (.ref C_BadFan) = some false)
    (kA18_17 : PySem.W.kitOne K (.ref C_BadText) (.ref C_NoMark) = some false)
    (kA18_18 : PySem.W.kitOne K (.ref C_BadText) (.ref C_BadText) = some true)
    (kA18_19 : PySem.W.kitOne K (.ref C_BadText) (.ref C_TooMany) = some false)
    (kR18 : PySem.W.kitOne K (.ref C_BadText) (.ref C_RoundError) = some true)
    (kV18 : PySem.W.kitOne K (.ref C_BadText) (.type "ValueError") = some true)
    (kA19_0 : PySem.W.kitOne K (.ref C_TooMany) (.ref C_BadWord) = some false)
    (kA19_1 : PySem.W.kitOne K (.ref C_TooMany) (.ref C_BadRound) = some false)
    (kA19_2 : PySem.W.kitOne K (.ref C_TooMany) (.ref C_BadStrand) = some false)
    (kA19_3 : PySem.W.kitOne K (.ref C_TooMany) (.ref C_BadSum) = some false)
    (kA19_4 : PySem.W.kitOne K (.ref C_TooMany) (.ref C_BadImages) = some false)
    (kA19_5 : PySem.W.kitOne K (.ref C_TooMany) (.ref C_BadBridge) = some false)
    (kA19_6 : PySem.W.kitOne K (.ref C_TooMany) (.ref C_NotSimple) = some false)
    (kA19_7 : PySem.W.kitOne K (.ref C_TooMany) (.ref C_BadDeed) = some false)
    (kA19_8 : PySem.W.kitOne K (.ref C_TooMany) (.ref C_NotNow) = some false)
    (kA19_9 : PySem.W.kitOne K (.ref C_TooMany) (.ref C_BadName) = some false)
    (kA19_10 : PySem.W.kitOne K (.ref C_TooMany) (.ref C_BadNumber) = some false)
    (kA19_11 : PySem.W.kitOne K (.ref C_TooMany) (.ref C_BadSkin) = some false)
    (kA19_12 : PySem.W.kitOne K (.ref C_TooMany) (.ref C_BadRounds) = some false)
    (kA19_13 : PySem.W.kitOne K (.ref C_TooMany) (.ref C_BadDrawing) = some false)
    (kA19_14 : PySem.W.kitOne K (.ref C_TooMany) (.ref C_BadBundle) = some false)
    (kA19_15 : PySem.W.kitOne K (.ref C_TooMany) (.ref C_BadLive) = some false)
    (kA19_16 : PySem.W.kitOne K (.ref C_TooMany) (.ref C_BadFan) = some false)
    (kA19_17 : PySem.W.kitOne K (.ref C_TooMany) (.ref C_NoMark) = some false)
    (kA19_18 : PySem.W.kitOne K (.ref C_TooMany) (.ref C_BadText) = some false)
    (kA19_19 : PySem.W.kitOne K (.ref C_TooMany) (.ref C_TooMany) = some true)
    (kR19 : PySem.W.kitOne K (.ref C_TooMany) (.ref C_RoundError) = some true)
    (kV19 : PySem.W.kitOne K (.ref C_TooMany) (.type "ValueError") = some true)
    (sNR : PySem.W.subIn K (.ref C_NotNow) (.ref C_RoundError) = some true)
    (sTR : PySem.W.subIn K (.ref C_TooMany) (.ref C_RoundError) = some true)
    (zValueError : PySem.W.nsIn K mainGlobals "ValueError" = some none)
    :
    ∃ T : Txt K mg, fa = T.law.a := by
  have e := hfa.symm.trans (PySem.W.mg_of X G a_law)
  cases e
  refine ⟨{
    RoundError := ⟨C_RoundError, PySem.W.mg_of X G a_RoundError, k_RoundError, q_RoundError, ty_RoundError, ⟨ga_RoundError, gg_RoundError, ex_RoundError, hd_RoundError, ca_RoundError, hn0, ht0, mo_RoundError⟩⟩,
    BadBridge := ⟨C_BadBridge, PySem.W.mg_of X G a_BadBridge, k_BadBridge, q_BadBridge, ty_BadBridge, ⟨ga_BadBridge, gg_BadBridge, ex_BadBridge, hd_BadBridge, ca_BadBridge, hn0, ht0, mo_BadBridge⟩⟩,
    BadBundle := ⟨C_BadBundle, f_BadBundle, _, PySem.W.mg_of X G a_BadBundle, ⟨⟨_, _, _, _, _, _, _, _, _, _, _, _, _, _, _, x_BadBundle, rv_BadBundle⟩, sa_BadBundle, ex_BadBundle, ty_BadBundle, kc_BadBundle⟩, i_BadBundle, t_BadBundle, fun_mk (st := s_BadBundle_init) l_BadBundle c_BadBundle k_BadBundle, (fun_mk (st := s_BadBundle_init) l_BadBundle c_BadBundle k_BadBundle).binds (ps := ["self", "part"]) (fun _ _ _ _ _ _ us hl => match us, hl with | [_, _], _ => rfl), nf_BadBundle, ⟨ga_BadBundle, gg_BadBundle, ex_BadBundle, hd_BadBundle⟩, ⟨ga_BadBundle, gg_BadBundle, ex_BadBundle, hd_BadBundle, ca_BadBundle, hn0, ht0, mo_BadBundle⟩⟩,
    BadDeed := ⟨C_BadDeed, PySem.W.mg_of X G a_BadDeed, k_BadDeed, q_BadDeed, ty_BadDeed, ⟨ga_BadDeed, gg_BadDeed, ex_BadDeed, hd_BadDeed, ca_BadDeed, hn0, ht0, mo_BadDeed⟩⟩,
    BadDrawing := ⟨C_BadDrawing, f_BadDrawing, _, PySem.W.mg_of X G a_BadDrawing, ⟨⟨_, _, _, _, _, _, _, _, _, _, _, _, _, _, _, x_BadDrawing, rv_BadDrawing⟩, sa_BadDrawing, ex_BadDrawing, ty_BadDrawing, kc_BadDrawing⟩, i_BadDrawing, t_BadDrawing, fun_mk (st := s_BadDrawing_init) l_BadDrawing c_BadDrawing k_BadDrawing, (fun_mk (st := s_BadDrawing_init) l_BadDrawing c_BadDrawing k_BadDrawing).binds (ps := ["self", "part"]) (fun _ _ _ _ _ _ us hl => match us, hl with | [_, _], _ => rfl), nf_BadDrawing, ⟨ga_BadDrawing, gg_BadDrawing, ex_BadDrawing, hd_BadDrawing⟩, ⟨ga_BadDrawing, gg_BadDrawing, ex_BadDrawing, hd_BadDrawing, ca_BadDrawing, hn0, ht0, mo_BadDrawing⟩⟩,
    BadFan := ⟨C_BadFan, f_BadFan, _, PySem.W.mg_of X G a_BadFan, ⟨⟨_, _, _, _, _, _, _, _, _, _, _, _, _, _, _, x_BadFan, rv_BadFan⟩, sa_BadFan, ex_BadFan, ty_BadFan, kc_BadFan⟩, i_BadFan, t_BadFan, fun_mk (st := s_BadFan_init) l_BadFan c_BadFan k_BadFan, (fun_mk (st := s_BadFan_init) l_BadFan c_BadFan k_BadFan).binds (ps := ["self", "part"]) (fun _ _ _ _ _ _ us hl => match us, hl with | [_, _], _ => rfl), nf_BadFan, ⟨ga_BadFan, gg_BadFan, ex_BadFan, hd_BadFan⟩, ⟨ga_BadFan, gg_BadFan, ex_BadFan, hd_BadFan, ca_BadFan, hn0, ht0, mo_BadFan⟩⟩,
    BadImages := ⟨C_BadImages, PySem.W.mg_of X G a_BadImages, k_BadImages, q_BadImages, ty_BadImages, ⟨ga_BadImages, gg_BadImages, ex_BadImages, hd_BadImages, ca_BadImages, hn0, ht0, mo_BadImages⟩⟩,
    BadLive := ⟨C_BadLive, f_BadLive, _, PySem.W.mg_of X G a_BadLive, ⟨⟨_, _, _, _, _, _, _, _, _, _, _, _, _, _, _, x_BadLive, rv_BadLive⟩, sa_BadLive, ex_BadLive, ty_BadLive, kc_BadLive⟩, i_BadLive, t_BadLive, fun_mk (st := s_BadLive_init) l_BadLive c_BadLive k_BadLive, (fun_mk (st := s_BadLive_init) l_BadLive c_BadLive k_BadLive).binds (ps := ["self", "part"]) (fun _ _ _ _ _ _ us hl => match us, hl with | [_, _], _ => rfl), nf_BadLive, ⟨ga_BadLive, gg_BadLive, ex_BadLive, hd_BadLive⟩, ⟨ga_BadLive, gg_BadLive, ex_BadLive, hd_BadLive, ca_BadLive, hn0, ht0, mo_BadLive⟩⟩,
    BadName := ⟨C_BadName, PySem.W.mg_of X G a_BadName, k_BadName, q_BadName, ty_BadName, ⟨ga_BadName, gg_BadName, ex_BadName, hd_BadName, ca_BadName, hn0, ht0, mo_BadName⟩⟩,
    BadNumber := ⟨C_BadNumber, f_BadNumber, _, PySem.W.mg_of X G a_BadNumber, ⟨⟨_, _, _, _, _, _, _, _, _, _, _, _, _, _, _, x_BadNumber, rv_BadNumber⟩, sa_BadNumber, ex_BadNumber, ty_BadNumber, kc_BadNumber⟩, i_BadNumber, t_BadNumber, fun_mk (st := s_BadNumber_init) l_BadNumber c_BadNumber k_BadNumber, (fun_mk (st := s_BadNumber_init) l_BadNumber c_BadNumber k_BadNumber).binds (ps := ["self", "part"]) (fun _ _ _ _ _ _ us hl => match us, hl with | [_, _], _ => rfl), nf_BadNumber, ⟨ga_BadNumber, gg_BadNumber, ex_BadNumber, hd_BadNumber⟩, ⟨ga_BadNumber, gg_BadNumber, ex_BadNumber, hd_BadNumber, ca_BadNumber, hn0, ht0, mo_BadNumber⟩⟩,
    BadRound := ⟨C_BadRound, PySem.W.mg_of X G a_BadRound, k_BadRound, q_BadRound, ty_BadRound, ⟨ga_BadRound, gg_BadRound, ex_BadRound, hd_BadRound, ca_BadRound, hn0, ht0, mo_BadRound⟩⟩,
    BadRounds := ⟨C_BadRounds, f_BadRounds, _, PySem.W.mg_of X G a_BadRounds, ⟨⟨_, _, _, _, _, _, _, _, _, _, _, _, _, _, _, x_BadRounds, rv_BadRounds⟩, sa_BadRounds, ex_BadRounds, ty_BadRounds, kc_BadRounds⟩, i_BadRounds, t_BadRounds, fun_mk (st := s_BadRounds_init) l_BadRounds c_BadRounds k_BadRounds, (fun_mk (st := s_BadRounds_init) l_BadRounds c_BadRounds k_BadRounds).binds (ps := ["self", "part"]) (fun _ _ _ _ _ _ us hl => match us, hl with | [_, _], _ => rfl), nf_BadRounds, ⟨ga_BadRounds, gg_BadRounds, ex_BadRounds, hd_BadRounds⟩, ⟨ga_BadRounds, gg_BadRounds, ex_BadRounds, hd_BadRounds, ca_BadRounds, hn0, ht0, mo_BadRounds⟩⟩,
    BadSkin := ⟨C_BadSkin, f_BadSkin, _, PySem.W.mg_of X G a_BadSkin, ⟨⟨_, _, _, _, _, _, _, _, _, _, _, _, _, _, _, x_BadSkin, rv_BadSkin⟩, sa_BadSkin, ex_BadSkin, ty_BadSkin, kc_BadSkin⟩, i_BadSkin, t_BadSkin, fun_mk (st := s_BadSkin_init) l_BadSkin c_BadSkin k_BadSkin, (fun_mk (st := s_BadSkin_init) l_BadSkin c_BadSkin k_BadSkin).binds (ps := ["self", "part"]) (fun _ _ _ _ _ _ us hl => match us, hl with | [_, _], _ => rfl), nf_BadSkin, ⟨ga_BadSkin, gg_BadSkin, ex_BadSkin, hd_BadSkin⟩, ⟨ga_BadSkin, gg_BadSkin, ex_BadSkin, hd_BadSkin, ca_BadSkin, hn0, ht0, mo_BadSkin⟩⟩,
    BadStrand := ⟨C_BadStrand, PySem.W.mg_of X G a_BadStrand, k_BadStrand, q_BadStrand, ty_BadStrand, ⟨ga_BadStrand, gg_BadStrand, ex_BadStrand, hd_BadStrand, ca_BadStrand, hn0, ht0, mo_BadStrand⟩⟩,
    BadSum := ⟨C_BadSum, PySem.W.mg_of X G a_BadSum, k_BadSum, q_BadSum, ty_BadSum, ⟨ga_BadSum, gg_BadSum, ex_BadSum, hd_BadSum, ca_BadSum, hn0, ht0, mo_BadSum⟩⟩,
    BadText := ⟨C_BadText, f_BadText, _, PySem.W.mg_of X G a_BadText, ⟨⟨_, _, _, _, _, _, _, _, _, _, _, _, _, _, _, x_BadText, rv_BadText⟩, sa_BadText, ex_BadText, ty_BadText, kc_BadText⟩, i_BadText, t_BadText, fun_mk (st := s_BadText_init) l_BadText c_BadText k_BadText, (fun_mk (st := s_BadText_init) l_BadText c_BadText k_BadText).binds (ps := ["self", "at"]) (fun _ _ _ _ _ _ us hl => match us, hl with | [_, _], _ => rfl), nf_BadText, ⟨ga_BadText, gg_BadText, ex_BadText, hd_BadText⟩, ⟨ga_BadText, gg_BadText, ex_BadText, hd_BadText, ca_BadText, hn0, ht0, mo_BadText⟩⟩,
    BadWord := ⟨C_BadWord, PySem.W.mg_of X G a_BadWord, k_BadWord, q_BadWord, ty_BadWord, ⟨ga_BadWord, gg_BadWord, ex_BadWord, hd_BadWord, ca_BadWord, hn0, ht0, mo_BadWord⟩⟩,
    NoMark := ⟨C_NoMark, f_NoMark, _, PySem.W.mg_of X G a_NoMark, ⟨⟨_, _, _, _, _, _, _, _, _, _, _, _, _, _, _, x_NoMark, rv_NoMark⟩, sa_NoMark, ex_NoMark, ty_NoMark, kc_NoMark⟩, i_NoMark, t_NoMark, fun_mk (st := s_NoMark_init) l_NoMark c_NoMark k_NoMark, (fun_mk (st := s_NoMark_init) l_NoMark c_NoMark k_NoMark).binds (ps := ["self", "name"]) (fun _ _ _ _ _ _ us hl => match us, hl with | [_, _], _ => rfl), nf_NoMark, ⟨ga_NoMark, gg_NoMark, ex_NoMark, hd_NoMark⟩, ⟨ga_NoMark, gg_NoMark, ex_NoMark, hd_NoMark, ca_NoMark, hn0, ht0, mo_NoMark⟩⟩,
    NotNow := ⟨C_NotNow, PySem.W.mg_of X G a_NotNow, k_NotNow, q_NotNow, ty_NotNow, ⟨ga_NotNow, gg_NotNow, ex_NotNow, hd_NotNow, ca_NotNow, hn0, ht0, mo_NotNow⟩⟩,
    NotSimple := ⟨C_NotSimple, PySem.W.mg_of X G a_NotSimple, k_NotSimple, q_NotSimple, ty_NotSimple, ⟨ga_NotSimple, gg_NotSimple, ex_NotSimple, hd_NotSimple, ca_NotSimple, hn0, ht0, mo_NotSimple⟩⟩,
    TooMany := ⟨C_TooMany, f_TooMany, _, PySem.W.mg_of X G a_TooMany, ⟨⟨_, _, _, _, _, _, _, _, _, _, _, _, _, _, _, x_TooMany, rv_TooMany⟩, sa_TooMany, ex_TooMany, ty_TooMany, kc_TooMany⟩, i_TooMany, t_TooMany, fun_mk (st := s_TooMany_init) l_TooMany c_TooMany k_TooMany, (fun_mk (st := s_TooMany_init) l_TooMany c_TooMany k_TooMany).binds (ps := ["self", "most"]) (fun _ _ _ _ _ _ us hl => match us, hl with | [_, _], _ => rfl), nf_TooMany, ⟨ga_TooMany, gg_TooMany, ex_TooMany, hd_TooMany⟩, ⟨ga_TooMany, gg_TooMany, ex_TooMany, hd_TooMany, ca_TooMany, hn0, ht0, mo_TooMany⟩⟩,
    l_begun := ⟨f_l_begun, _, fun_mk (st := s_l_begun) l_l_begun c_l_begun k_l_begun, PySem.W.mg_of X G a_l_begun, (fun_mk (st := s_l_begun) l_l_begun c_l_begun k_l_begun).binds (ps := ["script"]) (fun _ _ _ _ _ _ us hl => match us, hl with | [_], _ => rfl)⟩,
    l_mixed := ⟨f_l_mixed, _, fun_mk (st := s_l_mixed) l_l_mixed c_l_mixed k_l_mixed, PySem.W.mg_of X G a_l_mixed, (fun_mk (st := s_l_mixed) l_l_mixed c_l_mixed k_l_mixed).binds (ps := ["draw"]) (fun _ _ _ _ _ _ us hl => match us, hl with | [_], _ => rfl)⟩,
    l_take := ⟨f_l_take, _, fun_mk (st := s_l_take) l_l_take c_l_take k_l_take, PySem.W.mg_of X G a_l_take, (fun_mk (st := s_l_take) l_l_take c_l_take k_l_take).binds (ps := ["draw", "amount"]) (fun _ _ _ _ _ _ us hl => match us, hl with | [_, _], _ => rfl)⟩,
    l_pick := ⟨f_l_pick, _, fun_mk (st := s_l_pick) l_l_pick c_l_pick k_l_pick, PySem.W.mg_of X G a_l_pick, (fun_mk (st := s_l_pick) l_l_pick c_l_pick k_l_pick).binds (ps := ["draw", "some"]) (fun _ _ _ _ _ _ us hl => match us, hl with | [_, _], _ => rfl)⟩,
    l_plain := ⟨f_l_plain, _, fun_mk (st := s_l_plain) l_l_plain c_l_plain k_l_plain, PySem.W.mg_of X G a_l_plain, (fun_mk (st := s_l_plain) l_l_plain c_l_plain k_l_plain).binds (ps := ["text"]) (fun _ _ _ _ _ _ us hl => match us, hl with | [_], _ => rfl)⟩,
    l_made := ⟨f_l_made, _, fun_mk (st := s_l_made) l_l_made c_l_made k_l_made, PySem.W.mg_of X G a_l_made, (fun_mk (st := s_l_made) l_l_made c_l_made k_l_made).binds (ps := ["thing"]) (fun _ _ _ _ _ _ us hl => match us, hl with | [_], _ => rfl)⟩,
    l_kept := ⟨f_l_kept, _, fun_mk (st := s_l_kept) l_l_kept c_l_kept k_l_kept, PySem.W.mg_of X G a_l_kept, (fun_mk (st := s_l_kept) l_l_kept c_l_kept k_l_kept).binds (ps := ["thing"]) (fun _ _ _ _ _ _ us hl => match us, hl with | [_], _ => rfl)⟩,
    l_kinds := ⟨f_l_kinds, _, fun_mk (st := s_l_kinds) l_l_kinds c_l_kinds k_l_kinds, PySem.W.mg_of X G a_l_kinds, (fun_mk (st := s_l_kinds) l_l_kinds c_l_kinds k_l_kinds).binds (ps := ["error"]) (fun _ _ _ _ _ _ us hl => match us, hl with | [_], _ => rfl)⟩,
    l_taken := ⟨f_l_taken, _, fun_mk (st := s_l_taken) l_l_taken c_l_taken k_l_taken, PySem.W.mg_of X G a_l_taken, (fun_mk (st := s_l_taken) l_l_taken c_l_taken k_l_taken).binds (ps := ["text", "number"]) (fun _ _ _ _ _ _ us hl => match us, hl with | [_, _], _ => rfl)⟩,
    law := ⟨fa, _, fun_mk (st := s_law) l_law c_law k_law, PySem.W.mg_of X G a_law, (fun_mk (st := s_law) l_law c_law k_law).binds (ps := ["script"]) (fun _ _ _ _ _ _ us hl => match us, hl with | [_], _ => rfl)⟩,
    zabs := PySem.W.mg_none_of X G zabs,
    zenumerate := PySem.W.mg_none_of X G zenumerate,
    zint := PySem.W.mg_none_of X G zint,
    zisinstance := PySem.W.mg_none_of X G zisinstance,
    zlen := PySem.W.mg_none_of X G zlen,
    zrange := PySem.W.mg_none_of X G zrange,
    zrepr := PySem.W.mg_none_of X G zrepr,
    kA0_0 := kA0_0,
    kA0_1 := kA0_1,
    kA0_2 := kA0_2,
    kA0_3 := kA0_3,
    kA0_4 := kA0_4,
    kA0_5 := kA0_5,
    kA0_6 := kA0_6,
    kA0_7 := kA0_7,
    kA0_8 := kA0_8,
    kA0_9 := kA0_9,
    kA0_10 := kA0_10,
    kA0_11 := kA0_11,
    kA0_12 := kA0_12,
    kA0_13 := kA0_13,
    kA0_14 := kA0_14,
    kA0_15 := kA0_15,
    kA0_16 := kA0_16,
    kA0_17 := kA0_17,
    kA0_18 := kA0_18,
    kA0_19 := kA0_19,
    kR0 := kR0,
    kV0 := kV0,
    kA1_0 := kA1_0,
    kA1_1 := kA1_1,
    kA1_2 := kA1_2,
    kA1_3 := kA1_3,
    kA1_4 := kA1_4,
    kA1_5 := kA1_5,
    kA1_6 := kA1_6,
    kA1_7 := kA1_7,
    kA1_8 := kA1_8,
    kA1_9 := kA1_9,
    kA1_10 := kA1_10,
    kA1_11 := kA1_11,
    kA1_12 := kA1_12,
    kA1_13 := kA1_13,
    kA1_14 := kA1_14,
    kA1_15 := kA1_15,
    kA1_16 := kA1_16,
    kA1_17 := kA1_17,
    kA1_18 := kA1_18,
    kA1_19 := kA1_19,
    kR1 := kR1,
    kV1 := kV1,
    kA2_0 := kA2_0,
    kA2_1 := kA2_1,
    kA2_2 := kA2_2,
    kA2_3 := kA2_3,
    kA2_4 := kA2_4,
    kA2_5 := kA2_5,
    kA2_6 := kA2_6,
    kA2_7 := kA2_7,
    kA2_8 := kA2_8,
    kA2_9 := kA2_9,
    kA2_10 := kA2_10,
    kA2_11 := kA2_11,
    kA2_12 := kA2_12,
    kA2_13 := kA2_13,
    kA2_14 := kA2_14,
    kA2_15 := kA2_15,
    kA2_16 := kA2_16,
    kA2_17 := kA2_17,
    kA2_18 := kA2_18,
    kA2_19 := kA2_19,
    kR2 := kR2,
    kV2 := kV2,
    kA3_0 := kA3_0,
    kA3_1 := kA3_1,
    kA3_2 := kA3_2,
    kA3_3 := kA3_3,
    kA3_4 := kA3_4,
    kA3_5 := kA3_5,
    kA3_6 := kA3_6,
    kA3_7 := kA3_7,
    kA3_8 := kA3_8,
    kA3_9 := kA3_9,
    kA3_10 := kA3_10,
    kA3_11 := kA3_11,
    kA3_12 := kA3_12,
    kA3_13 := kA3_13,
    kA3_14 := kA3_14,
    kA3_15 := kA3_15,
    kA3_16 := kA3_16,
    kA3_17 := kA3_17,
    kA3_18 := kA3_18,
    kA3_19 := kA3_19,
    kR3 := kR3,
    kV3 := kV3,
    kA4_0 := kA4_0,
    kA4_1 := kA4_1,
    kA4_2 := kA4_2,
    kA4_3 := kA4_3,
    kA4_4 := kA4_4,
    kA4_5 := kA4_5,
    kA4_6 := kA4_6,
    kA4_7 := kA4_7,
    kA4_8 := kA4_8,
    kA4_9 := kA4_9,
    kA4_10 := kA4_10,
    kA4_11 := kA4_11,
    kA4_12 := kA4_12,
    kA4_13 := kA4_13,
    kA4_14 := kA4_14,
    kA4_15 := kA4_15,
    kA4_16 := kA4_16,
    kA4_17 := kA4_17,
    kA4_18 := kA4_18,
    kA4_19 := kA4_19,
    kR4 := kR4,
    kV4 := kV4,
    kA5_0 := kA5_0,
    kA5_1 := kA5_1,
    kA5_2 := kA5_2,
    kA5_3 := kA5_3,
    kA5_4 := kA5_4,
    kA5_5 := kA5_5,
    kA5_6 := kA5_6,
    kA5_7 := kA5_7,
    kA5_8 := kA5_8,
    kA5_9 := kA5_9,
    kA5_10 := kA5_10,
    kA5_11 := kA5_11,
    kA5_12 := kA5_12,
    kA5_13 := kA5_13,
    kA5_14 := kA5_14,
    kA5_15 := kA5_15,
    kA5_16 := kA5_16,
    kA5_17 := kA5_17,
    kA5_18 := kA5_18,
    kA5_19 := kA5_19,
    kR5 := kR5,
    kV5 := kV5,
    kA6_0 := kA6_0,
    kA6_1 := kA6_1,
    kA6_2 := kA6_2,
    kA6_3 := kA6_3,
    kA6_4 := kA6_4,
    kA6_5 := kA6_5,
    kA6_6 := kA6_6,
    kA6_7 := kA6_7,
    kA6_8 := kA6_8,
    kA6_9 := kA6_9,
    kA6_10 := kA6_10,
    kA6_11 := kA6_11,
    kA6_12 := kA6_12,
    kA6_13 := kA6_13,
    kA6_14 := kA6_14,
    kA6_15 := kA6_15,
    kA6_16 := kA6_16,
    kA6_17 := kA6_17,
    kA6_18 := kA6_18,
    kA6_19 := kA6_19,
    kR6 := kR6,
    kV6 := kV6,
    kA7_0 := kA7_0,
    kA7_1 := kA7_1,
    kA7_2 := kA7_2,
    kA7_3 := kA7_3,
    kA7_4 := kA7_4,
    kA7_5 := kA7_5,
    kA7_6 := kA7_6,
    kA7_7 := kA7_7,
    kA7_8 := kA7_8,
    kA7_9 := kA7_9,
    kA7_10 := kA7_10,
    kA7_11 := kA7_11,
    kA7_12 := kA7_12,
    kA7_13 := kA7_13,
    kA7_14 := kA7_14,
    kA7_15 := kA7_15,
    kA7_16 := kA7_16,
    kA7_17 := kA7_17,
    kA7_18 := kA7_18,
    kA7_19 := kA7_19,
    kR7 := kR7,
    kV7 := kV7,
    kA8_0 := kA8_0,
    kA8_1 := kA8_1,
    kA8_2 := kA8_2,
    kA8_3 := kA8_3,
    kA8_4 := kA8_4,
    kA8_5 := kA8_5,
    kA8_6 := kA8_6,
    kA8_7 := kA8_7,
    kA8_8 := kA8_8,
    kA8_9 := kA8_9,
    kA8_10 := kA8_10,
    kA8_11 := kA8_11,
    kA8_12 := kA8_12,
    kA8_13 := kA8_13,
    kA8_14 := kA8_14,
    kA8_15 := kA8_15,
    kA8_16 := kA8_16,
    kA8_17 := kA8_17,
    kA8_18 := kA8_18,
    kA8_19 := kA8_19,
    kR8 := kR8,
    kV8 := kV8,
    kA9_0 := kA9_0,
    kA9_1 := kA9_1,
    kA9_2 := kA9_2,
    kA9_3 := kA9_3,
    kA9_4 := kA9_4,
    kA9_5 := kA9_5,
    kA9_6 := kA9_6,
    kA9_7 := kA9_7,
    kA9_8 := kA9_8,
    kA9_9 := kA9_9,
    kA9_10 := kA9_10,
    kA9_11 := kA9_11,
    kA9_12 := kA9_12,
    kA9_13 := kA9_13,
    kA9_14 := kA9_14,
    kA9_15 := kA9_15,
    kA9_16 := kA9_16,
    kA9_17 := kA9_17,
    kA9_18 := kA9_18,
    kA9_19 := kA9_19,
    kR9 := kR9,
    kV9 := kV9,
    kA10_0 := kA10_0,
    kA10_1 := kA10_1,
    kA10_2 := kA10_2,
    kA10_3 := kA10_3,
    kA10_4 := kA10_4,
    kA10_5 := kA10_5,
    kA10_6 := kA10_6,
    kA10_7 := kA10_7,
    kA10_8 := kA10_8,
    kA10_9 := kA10_9,
    kA10_10 := kA10_10,
    kA10_11 := kA10_11,
    kA10_12 := kA10_12,
    kA10_13 := kA10_13,
    kA10_14 := kA10_14,
    kA10_15 := kA10_15,
    kA10_16 := kA10_16,
    kA10_17 := kA10_17,
    kA10_18 := kA10_18,
    kA10_19 := kA10_19,
    kR10 := kR10,
    kV10 := kV10,
    kA11_0 := kA11_0,
    kA11_1 := kA11_1,
    kA11_2 := kA11_2,
    kA11_3 := kA11_3,
    kA11_4 := kA11_4,
    kA11_5 := kA11_5,
    kA11_6 := kA11_6,
    kA11_7 := kA11_7,
    kA11_8 := kA11_8,
    kA11_9 := kA11_9,
    kA11_10 := kA11_10,
    kA11_11 := kA11_11,
    kA11_12 := kA11_12,
    kA11_13 := kA11_13,
    kA11_14 := kA11_14,
    kA11_15 := kA11_15,
    kA11_16 := kA11_16,
    kA11_17 := kA11_17,
    kA11_18 := kA11_18,
    kA11_19 := kA11_19,
    kR11 := kR11,
    kV11 := kV11,
    kA12_0 := kA12_0,
    kA12_1 := kA12_1,
    kA12_2 := kA12_2,
    kA12_3 := kA12_3,
    kA12_4 := kA12_4,
    kA12_5 := kA12_5,
    kA12_6 := kA12_6,
    kA12_7 := kA12_7,
    kA12_8 := kA12_8,
    kA12_9 := kA12_9,
    kA12_10 := kA12_10,
    kA12_11 := kA12_11,
    kA12_12 := kA12_12,
    kA12_13 := kA12_13,
    kA12_14 := kA12_14,
    kA12_15 := kA12_15,
    kA12_16 := kA12_16,
    kA12_17 := kA12_17,
    kA12_18 := kA12_18,
    kA12_19 := kA12_19,
    kR12 := kR12,
    kV12 := kV12,
    kA13_0 := kA13_0,
    kA13_1 := kA13_1,
    kA13_2 := kA13_2,
    kA13_3 := kA13_3,
    kA13_4 := kA13_4,
    kA13_5 := kA13_5,
    kA13_6 := kA13_6,
    kA13_7 := kA13_7,
    kA13_8 := kA13_8,
    kA13_9 := kA13_9,
    kA13_10 := kA13_10,
    kA13_11 := kA13_11,
    kA13_12 := kA13_12,
    kA13_13 := kA13_13,
    kA13_14 := kA13_14,
    kA13_15 := kA13_15,
    kA13_16 := kA13_16,
    kA13_17 := kA13_17,
    kA13_18 := kA13_18,
    kA13_19 := kA13_19,
    kR13 := kR13,
    kV13 := kV13,
    kA14_0 := kA14_0,
    kA14_1 := kA14_1,
    kA14_2 := kA14_2,
    kA14_3 := kA14_3,
    kA14_4 := kA14_4,
    kA14_5 := kA14_5,
    kA14_6 := kA14_6,
    kA14_7 := kA14_7,
    kA14_8 := kA14_8,
    kA14_9 := kA14_9,
    kA14_10 := kA14_10,
    kA14_11 := kA14_11,
    kA14_12 := kA14_12,
    kA14_13 := kA14_13,
    kA14_14 := kA14_14,
    kA14_15 := kA14_15,
    kA14_16 := kA14_16,
    kA14_17 := kA14_17,
    kA14_18 := kA14_18,
    kA14_19 := kA14_19,
    kR14 := kR14,
    kV14 := kV14,
    kA15_0 := kA15_0,
    kA15_1 := kA15_1,
    kA15_2 := kA15_2,
    kA15_3 := kA15_3,
    kA15_4 := kA15_4,
    kA15_5 := kA15_5,
    kA15_6 := kA15_6,
    kA15_7 := kA15_7,
    kA15_8 := kA15_8,
    kA15_9 := kA15_9,
    kA15_10 := kA15_10,
    kA15_11 := kA15_11,
    kA15_12 := kA15_12,
    kA15_13 := kA15_13,
    kA15_14 := kA15_14,
    kA15_15 := kA15_15,
    kA15_16 := kA15_16,
    kA15_17 := kA15_17,
    kA15_18 := kA15_18,
    kA15_19 := kA15_19,
    kR15 := kR15,
    kV15 := kV15,
    kA16_0 := kA16_0,
    kA16_1 := kA16_1,
    kA16_2 := kA16_2,
    kA16_3 := kA16_3,
    kA16_4 := kA16_4,
    kA16_5 := kA16_5,
    kA16_6 := kA16_6,
    kA16_7 := kA16_7,
    kA16_8 := kA16_8,
    kA16_9 := kA16_9,
    kA16_10 := kA16_10,
    kA16_11 := kA16_11,
    kA16_12 := kA16_12,
    kA16_13 := kA16_13,
    kA16_14 := kA16_14,
    kA16_15 := kA16_15,
    kA16_16 := kA16_16,
    kA16_17 := kA16_17,
    kA16_18 := kA16_18,
    kA16_19 := kA16_19,
    kR16 := kR16,
    kV16 := kV16,
    kA17_0 := kA17_0,
    kA17_1 := kA17_1,
    kA17_2 := kA17_2,
    kA17_3 := kA17_3,
    kA17_4 := kA17_4,
    kA17_5 := kA17_5,
    kA17_6 := kA17_6,
    kA17_7 := kA17_7,
    kA17_8 := kA17_8,
    kA17_9 := kA17_9,
    kA17_10 := kA17_10,
    kA17_11 := kA17_11,
    kA17_12 := kA17_12,
    kA17_13 := kA17_13,
    kA17_14 := kA17_14,
    kA17_15 := kA17_15,
    kA17_16 := kA17_16,
    kA17_17 := kA17_17,
    kA17_18 := kA17_18,
    kA17_19 := kA17_19,
    kR17 := kR17,
    kV17 := kV17,
    kA18_0 := kA18_0,
    kA18_1 := kA18_1,
    kA18_2 := kA18_2,
    kA18_3 := kA18_3,
    kA18_4 := kA18_4,
    kA18_5 := kA18_5,
    kA18_6 := kA18_6,
    kA18_7 := kA18_7,
    kA18_8 := kA18_8,
    kA18_9 := kA18_9,
    kA18_10 := kA18_10,
    kA18_11 := kA18_11,
    kA18_12 := kA18_12,
    kA18_13 := kA18_13,
    kA18_14 := kA18_14,
    kA18_15 := kA18_15,
    kA18_16 := kA18_16,
    kA18_17 := kA18_17,
    kA18_18 := kA18_18,
    kA18_19 := kA18_19,
    kR18 := kR18,
    kV18 := kV18,
    kA19_0 := kA19_0,
    kA19_1 := kA19_1,
    kA19_2 := kA19_2,
    kA19_3 := kA19_3,
    kA19_4 := kA19_4,
    kA19_5 := kA19_5,
    kA19_6 := kA19_6,
    kA19_7 := kA19_7,
    kA19_8 := kA19_8,
    kA19_9 := kA19_9,
    kA19_10 := kA19_10,
    kA19_11 := kA19_11,
    kA19_12 := kA19_12,
    kA19_13 := kA19_13,
    kA19_14 := kA19_14,
    kA19_15 := kA19_15,
    kA19_16 := kA19_16,
    kA19_17 := kA19_17,
    kA19_18 := kA19_18,
    kA19_19 := kA19_19,
    kR19 := kR19,
    kV19 := kV19,
    sNR := sNR,
    sTR := sTR,
    zValueError := PySem.W.mg_none_of X G zValueError }, rfl, ⟩
theorem walk_law {l : PySem.W.OpenLaw} {q : Program} {loose : List Str} {XP : (Str → Option Value) → Heap → Prop} {YP : World → Heap → Prop} {d : DefRec} {K : Params → PySem.W.Frag} (hn : l.most = some 63) (hdf : d.params.defaults = [])
    (hY : ∀ (w : World) (h : Heap), YP w h → (K w.params).In h)
    (F : ∀ (w : World) (mg : Str → Option Value) (fa : Addr) (h : Heap), YP w h → (K w.params).In h → h.Ns mainGlobals mg → mg d.name = some (.ref fa) →
      ∃ T : Txt (K w.params) mg, fa = T.law.a) :
    PySem.W.WalkO q loose XP YP l.row.toRowW d [] (fun f vs => PySem.call f vs) := by
  refine Att.attach_callB hn hdf fun w s₀ s₁ mg mb fa o pm cd doc a vs ns G Y ho hd hcd hmg hobj hints hlen hbits hg => ?_
  have KX := hY w _ Y
  obtain ⟨T, rfl⟩ := F w mg fa _ Y KX G.T.g hmg
  refine law_run (ts := []) KX G.T.g G.T.b G.T.builtins G.T.nolimit hg (fun p hp => ?_) G.T.bmain hobj hints (Nat.le_trans hlen (by decide)) fun base H TB e0 hT hS => ?_
  · cases hp
  obtain ⟨oc, od, kV, doc', pm', an, cdv, ct, osl, e, lk, hc⟩ := T.law.F.ex
  have hb := T.law.b s₁ [.ref a] KX rfl
  rw [e] at lk hb
  refine LamX.run_ofS (N := N_law) (ps := ["script"]) (k := 14) (us := [.ref a]) (vs := [.ref a]) lk hc sc_law ⟨rfl, by decide, by decide⟩ e0 hb (.cons rfl .nil) rfl fun hr' => ?_
  obtain ⟨t, h1, h2⟩ := law_body (w := w) (base := base) (E := E0) (outer := []) (Q := fun v _ => v = .bl true) T  (cdv := cdv) (A := callerA) (s := s₁) rfl hr' hS hlen (fun _ => rfl)
  exact ⟨t, h1.nox, h2⟩
end Tt
open PySem PySem.W PyProof.Rows in
set_option maxRecDepth 100000 in
set_option maxHeartbeats 0 in
theorem PySem.Challenge.cw_tautrounds_k00_errors_made_holds : PySem.Challenge.rw_tautrounds_k00_errors_made.Holds := by
  w_on; o_law; k_head; (case hw => w_witness2)
  k_fill
  refine' Tt.walk_law (l := PySem.Challenge.rw_tautrounds_k00_errors_made) rfl rfl (fun w h Y => PySem.W.kIn_of Y) ?F
  case F =>
    intro w mg fa h Y KX G hmg
    refine' Tt.all_mk KX G hmg ?hn0 ?ht0 ?a_RoundError ?k_RoundError ?q_RoundError ?ty_RoundError ?ga_RoundError ?gg_RoundError ?ex_RoundError ?hd_RoundError ?ca_RoundError ?mo_RoundError ?a_BadBridge ?k_BadBridge ?q_BadBridge ?ty_BadBridge ?ga_BadBridge ?gg_BadBridge ?ex_BadBridge ?hd_BadBridge ?ca_BadBridge ?mo_BadBridge ?a_BadBundle ?x_BadBundle ?rv_BadBundle ?sa_BadBundle ?ty_BadBundle ?kc_BadBundle ?i_BadBundle ?t_BadBundle ?l_BadBundle ?c_BadBundle ?k_BadBundle ?nf_BadBundle ?ga_BadBundle ?gg_BadBundle ?ex_BadBundle ?hd_BadBundle ?ca_BadBundle ?mo_BadBundle ?a_BadDeed ?k_BadDeed ?q_BadDeed ?ty_BadDeed ?ga_BadDeed ?gg_BadDeed ?ex_BadDeed ?hd_BadDeed ?ca_BadDeed ?mo_BadDeed ?a_BadDrawing ?x_BadDrawing ?rv_BadDrawing ?sa_BadDrawing ?ty_BadDrawing ?kc_BadDrawing ?i_BadDrawing ?t_BadDrawing ?l_BadDrawing ?c_BadDrawing ?k_BadDrawing ?nf_BadDrawing ?ga_BadDrawing ?gg_BadDrawing ?ex_BadDrawing ?hd_BadDrawing ?ca_BadDrawing ?mo_BadDrawing ?a_BadFan ?x_BadFan ?rv_BadFan ?sa_BadFan ?ty_BadFan ?kc_BadFan ?i_BadFan ?t_BadFan ?l_BadFan ?c_BadFan ?k_BadFan ?nf_BadFan ?ga_BadFan ?gg_BadFan ?ex_BadFan ?hd_BadFan ?ca_BadFan ?mo_BadFan ?a_BadImages ?k_BadImages ?q_BadImages ?ty_BadImages ?ga_BadImages ?gg_BadImages ?ex_BadImages ?hd_BadImages ?ca_BadImages ?mo_BadImages ?a_BadLive ?x_BadLive ?rv_BadLive ?sa_BadLive ?ty_BadLive ?kc_BadLive ?i_BadLive ?t_BadLive ?l_BadLive ?c_BadLive ?k_BadLive ?nf_BadLive ?ga_BadLive ?gg_BadLive ?ex_BadLive ?hd_BadLive ?ca_BadLive ?mo_BadLive ?a_BadName ?k_BadName ?q_BadName ?ty_BadName ?ga_BadName ?gg_BadName ?ex_BadName ?hd_BadName ?ca_BadName ?mo_BadName ?a_BadNumber ?x_BadNumber ?rv_BadNumber ?sa_BadNumber ?ty_BadNumber ?kc_BadNumber ?i_BadNumber ?t_BadNumber ?l_BadNumber ?c_BadNumber ?k_BadNumber ?nf_BadNumber ?ga_BadNumber ?gg_BadNumber ?ex_BadNumber ?hd_BadNumber ?ca_BadNumber ?mo_BadNumber ?a_BadRound ?k_BadRound ?q_BadRound ?ty_BadRound ?ga_BadRound ?gg_BadRound ?ex_BadRound ?hd_BadRound ?ca_BadRound ?mo_BadRound ?a_BadRounds ?x_BadRounds ?rv_BadRounds ?sa_BadRounds ?ty_BadRounds ?kc_BadRounds ?i_BadRounds ?t_BadRounds ?l_BadRounds ?c_BadRounds ?k_BadRounds ?nf_BadRounds ?ga_BadRounds ?gg_BadRounds ?ex_BadRounds ?hd_BadRounds ?ca_BadRounds ?mo_BadRounds ?a_BadSkin ?x_BadSkin ?rv_BadSkin ?sa_BadSkin ?ty_BadSkin ?kc_BadSkin ?i_BadSkin ?t_BadSkin ?l_BadSkin ?c_BadSkin ?k_BadSkin ?nf_BadSkin ?ga_BadSkin ?gg_BadSkin ?ex_BadSkin ?hd_BadSkin ?ca_BadSkin ?mo_BadSkin ?a_BadStrand ?k_BadStrand ?q_BadStrand ?ty_BadStrand ?ga_BadStrand ?gg_BadStrand ?ex_BadStrand ?hd_BadStrand ?ca_BadStrand ?mo_BadStrand ?a_BadSum ?k_BadSum ?q_BadSum ?ty_BadSum ?ga_BadSum ?gg_BadSum ?ex_BadSum ?hd_BadSum ?ca_BadSum ?mo_BadSum ?a_BadText ?x_BadText ?rv_BadText ?sa_BadText ?ty_BadText ?kc_BadText ?i_BadText ?t_BadText ?l_BadText ?c_BadText ?k_BadText ?nf_BadText ?ga_BadText ?gg_BadText ?ex_BadText ?hd_BadText ?ca_BadText ?mo_BadText ?a_BadWord ?k_BadWord ?q_BadWord ?ty_BadWord ?ga_BadWord ?gg_BadWord ?ex_BadWord ?hd_BadWord ?ca_BadWord ?mo_BadWord ?a_NoMark ?x_NoMark ?rv_NoMark ?sa_NoMark ?ty_NoMark ?kc_NoMark ?i_NoMark ?t_NoMark ?l_NoMark ?c_NoMark ?k_NoMark ?nf_NoMark ?ga_NoMark ?gg_NoMark ?ex_NoMark ?hd_NoMark ?ca_NoMark ?mo_NoMark ?a_NotNow ?k_NotNow ?q_NotNow ?ty_NotNow ?ga_NotNow ?gg_NotNow ?ex_NotNow ?hd_NotNow ?ca_NotNow ?mo_NotNow ?a_NotSimple ?k_NotSimple ?q_NotSimple ?ty_NotSimple ?ga_NotSimple ?gg_NotSimple ?ex_NotSimple ?hd_NotSimple ?ca_NotSimple ?mo_NotSimple ?a_TooMany ?x_TooMany ?rv_TooMany ?sa_TooMany ?ty_TooMany ?kc_TooMany ?i_TooMany ?t_TooMany ?l_TooMany ?c_TooMany ?k_TooMany ?nf_TooMany ?ga_TooMany ?gg_TooMany ?ex_TooMany ?hd_TooMany ?ca_TooMany ?mo_TooMany ?a_l_begun ?l_l_begun ?c_l_begun ?k_l_begun ?a_l_mixed ?l_l_mixed ?c_l_mixed ?k_l_mixed ?a_l_take ?l_l_take ?c_l_take ?k_l_take ?a_l_pick ?l_l_pick ?c_l_pick ?k_l_pick ?a_l_plain ?l_l_plain ?c_l_plain ?k_l_plain ?a_l_made ?l_l_made ?c_l_made ?k_l_made ?a_l_kept ?l_l_kept ?c_l_kept ?k_l_kept ?a_l_kinds ?l_l_kinds ?c_l_kinds ?k_l_kinds ?a_l_taken ?l_l_taken ?c_l_taken ?k_l_taken ?a_law ?l_law ?c_law ?k_law ?zabs ?zenumerate ?zint ?zisinstance ?zlen ?zrange ?zrepr ?kA0_0 ?kA0_1 ?kA0_2 ?kA0_3 ?kA0_4 ?kA0_5 ?kA0_6 ?kA0_7 ?kA0_8 ?kA0_9 ?kA0_10 ?kA0_11 ?kA0_12 ?kA0_13 ?kA0_14 ?kA0_15 ?kA0_16 ?kA0_17 ?kA0_18 ?kA0_19 ?kR0 ?kV0 ?kA1_0 ?kA1_1 ?kA1_2 ?kA1_3 ?kA1_4 ?kA1_5 ?kA1_6 ?kA1_7 ?kA1_8 ?kA1_9 ?kA1_10 ?kA1_11 ?kA1_12 ?kA1_13 ?kA1_14 ?kA1_15 ?kA1_16 ?kA1_17 ?kA1_18 ?kA1_19 ?kR1 ?kV1 ?kA2_0 ?kA2_1 ?kA2_2 ?kA2_3 ?kA2_4 ?kA2_5 ?kA2_6 ?kA2_7 ?kA2_8 ?kA2_9 ?kA2_10 ?kA2_11 ?kA2_12 ?kA2_13 ?kA2_14 ?kA2_15 ?kA2_16 ?kA2_17 ?kA2_18 ?kA2_19 ?kR2 ?kV2 ?kA3_0 ?kA3_1 ?kA3_2 ?kA3_3 ?kA3_4 ?kA3_5 ?kA3_6 ?kA3_7 ?kA3_8 ?kA3_9 ?kA3_10 ?kA3_11 ?kA3_12 ?kA3_13 ?kA3_14 ?kA3_15 ?kA3_16 ?kA3_17 ?kA3_18 ?kA3_19 ?kR3 ?kV3 ?kA4_0 ?kA4_1 ?kA4_2 ?kA4_3 ?kA4_4 ?kA4_5 ?kA4_6 ?kA4_7 ?kA4_8 ?kA4_9 ?kA4_10 ?kA4_11 ?kA4_12 ?kA4_13 ?kA4_14 ?kA4_15 ?kA4_16 ?kA4_17 ?kA4_18 ?kA4_19 ?kR4 ?kV4 ?kA5_0 ?kA5_1 ?kA5_2 ?kA5_3 ?kA5_4 ?kA5_5 ?kA5_6 ?kA5_7 ?kA5_8 ?kA5_9 ?kA5_10 ?kA5_11 ?kA5_12 ?kA5_13 ?kA5_14 ?kA5_15 ?kA5_16 ?kA5_17 ?kA5_18 ?kA5_19 ?kR5 ?kV5 ?kA6_0 ?kA6_1 ?kA6_2 ?kA6_3 ?kA6_4 ?kA6_5 ?kA6_6 ?kA6_7 ?kA6_8 ?kA6_9 ?kA6_10 ?kA6_11 ?kA6_12 ?kA6_13 ?kA6_14 ?kA6_15 ?kA6_16 ?kA6_17 ?kA6_18 ?kA6_19 ?kR6 ?kV6 ?kA7_0 ?kA7_1 ?kA7_2 ?kA7_3 ?kA7_4 ?kA7_5 ?kA7_6 ?kA7_7 ?kA7_8 ?kA7_9 ?kA7_10 ?kA7_11 ?kA7_12 ?kA7_13 ?kA7_14 ?kA7_15 ?kA7_16 ?kA7_17 ?kA7_18 ?kA7_19 ?kR7 ?kV7 ?kA8_0 ?kA8_1 ?kA8_2 ?kA8_3 ?kA8_4 ?kA8_5 ?kA8_6 ?kA8_7 ?kA8_8 ?kA8_9 ?kA8_10 ?kA8_11 ?kA8_12 ?kA8_13 ?kA8_14 ?kA8_15 ?kA8_16 ?kA8_17 ?kA8_18 ?kA8_19 ?kR8 ?kV8 ?kA9_0 ?kA9_1 ?kA9_2 ?kA9_3 ?kA9_4 ?kA9_5 ?kA9_6 ?kA9_7 ?kA9_8 ?kA9_9 ?kA9_10 ?kA9_11 ?kA9_12 ?kA9_13 ?kA9_14 ?kA9_15 ?kA9_16 ?kA9_17 ?kA9_18 ?kA9_19 ?kR9 ?kV9 ?kA10_0 ?kA10_1 ?kA10_2 ?kA10_3 ?kA10_4 ?kA10_5 ?kA10_6 ?kA10_7 ?kA10_8 ?kA10_9 ?kA10_10 ?kA10_11 ?kA10_12 ?kA10_13 ?kA10_14 ?kA10_15 ?kA10_16 ?kA10_17 ?kA10_18 ?kA10_19 ?kR10 ?kV10 ?kA11_0 ?kA11_1 ?kA11_2 ?kA11_3 ?kA11_4 ?kA11_5 ?kA11_6 ?kA11_7 ?kA11_8 ?kA11_9 ?kA11_10 ?kA11_11 ?kA11_12 ?kA11_13 ?kA11_14 ?kA11_15 ?kA11_16 ?kA11_17 ?kA11_18 ?kA11_19 ?kR11 ?kV11 ?kA12_0 ?kA12_1 ?kA12_2 ?kA12_3 ?kA12_4 ?kA12_5 ?kA12_6 ?kA12_7 ?kA12_8 ?kA12_9 ?kA12_10 ?kA12_11 ?kA12_12 ?kA12_13 ?kA12_14 ?kA12_15 ?kA12_16 ?kA12_17 ?kA12_18 ?kA12_19 ?kR12 ?kV12 ?kA13_0 ?kA13_1 ?kA13_2 ?kA13_3 ?kA13_4 ?kA13_5 ?kA13_6 ?kA13_7 ?kA13_8 ?kA13_9 ?kA13_10 ?kA13_11 ?kA13_12 ?kA13_13 ?kA13_14 ?kA13_15 ?kA13_16 ?kA13_17 ?kA13_18 ?kA13_19 ?kR13 ?kV13 ?kA14_0 ?kA14_1 ?kA14_2 ?kA14_3 ?kA14_4 ?kA14_5 ?kA14_6 ?kA14_7 ?kA14_8 ?kA14_9 ?kA14_10 ?kA14_11 ?kA14_12 ?kA14_13 ?kA14_14 ?kA14_15 ?kA14_16 ?kA14_17 ?kA14_18 ?kA14_19 ?kR14 ?kV14 ?kA15_0 ?kA15_1 ?kA15_2 ?kA15_3 ?kA15_4 ?kA15_5 ?kA15_6 ?kA15_7 ?kA15_8 ?kA15_9 ?kA15_10 ?kA15_11 ?kA15_12 ?kA15_13 ?kA15_14 ?kA15_15 ?kA15_16 ?kA15_17 ?kA15_18 ?kA15_19 ?kR15 ?kV15 ?kA16_0 ?kA16_1 ?kA16_2 ?kA16_3 ?kA16_4 ?kA16_5 ?kA16_6 ?kA16_7 ?kA16_8 ?kA16_9 ?kA16_10 ?kA16_11 ?kA16_12 ?kA16_13 ?kA16_14 ?kA16_15 ?kA16_16 ?kA16_17 ?kA16_18 ?kA16_19 ?kR16 ?kV16 ?kA17_0 ?kA17_1 ?kA17_2 ?kA17_3 ?kA17_4 ?kA17_5 ?kA17_6 ?kA17_7 ?kA17_8 ?kA17_9 ?kA17_10 ?kA17_11 ?kA17_12 ?kA17_13 ?kA17_14 ?kA17_15 ?kA17_16 ?kA17_17 ?kA17_18 ?kA17_19 ?kR17 ?kV17 ?kA18_0 ?kA18_1 ?kA18_2 ?kA18_3 ?kA18_4 ?kA18_5 ?kA18_6 ?kA18_7 ?kA18_8 ?kA18_9 ?kA18_10 ?kA18_11 ?kA18_12 ?kA18_13 ?kA18_14 ?kA18_15 ?kA18_16 ?kA18_17 ?kA18_18 ?kA18_19 ?kR18 ?kV18 ?kA19_0 ?kA19_1 ?kA19_2 ?kA19_3 ?kA19_4 ?kA19_5 ?kA19_6 ?kA19_7 ?kA19_8 ?kA19_9 ?kA19_10 ?kA19_11 ?kA19_12 ?kA19_13 ?kA19_14 ?kA19_15 ?kA19_16 ?kA19_17 ?kA19_18 ?kA19_19 ?kR19 ?kV19 ?sNR ?sTR ?zValueError
    (case hn0 => k_is)
    (case ht0 => k_is)
    (case a_RoundError => k_is)
    (case k_RoundError => k_is)
    (case q_RoundError => k_exc)
    (case ty_RoundError => k_is)
    (case ga_RoundError => k_is)
    (case gg_RoundError => k_is)
    (case ex_RoundError => k_is)
    (case hd_RoundError => k_is)
    (case ca_RoundError => k_is)
    (case mo_RoundError => k_is)
    (case a_BadBridge => k_is)
    (case k_BadBridge => k_is)
    (case q_BadBridge => k_exc)
    (case ty_BadBridge => k_is)
    (case ga_BadBridge => k_is)
    (case gg_BadBridge => k_is)
    (case ex_BadBridge => k_is)
    (case hd_BadBridge => k_is)
    (case ca_BadBridge => k_is)
    (case mo_BadBridge => k_is)
    (case a_BadBundle => k_is)
    (case x_BadBundle => k_is)
    (case rv_BadBundle => decide +kernel)
    (case sa_BadBundle => k_is)
    (case ty_BadBundle => k_is)
    (case kc_BadBundle => k_is)
    (case i_BadBundle => k_is)
    (case t_BadBundle => k_is)
    (case l_BadBundle => k_is)
    (case c_BadBundle => k_is)
    (case k_BadBundle => k_is)
    (case nf_BadBundle => k_is)
    (case ga_BadBundle => k_is)
    (case gg_BadBundle => k_is)
    (case ex_BadBundle => k_is)
    (case hd_BadBundle => k_is)
    (case ca_BadBundle => k_is)
    (case mo_BadBundle => k_is)
    (case a_BadDeed => k_is)
    (case k_BadDeed => k_is)
    (case q_BadDeed => k_exc)
    (case ty_BadDeed => k_is)
    (case ga_BadDeed => k_is)
    (case gg_BadDeed => k_is)
    (case ex_BadDeed => k_is)
    (case hd_BadDeed => k_is)
    (case ca_BadDeed => k_is)
    (case mo_BadDeed => k_is)
    (case a_BadDrawing => k_is)
    (case x_BadDrawing => k_is)
    (case rv_BadDrawing => decide +kernel)
    (case sa_BadDrawing => k_is)
    (case ty_BadDrawing => k_is)
    (case kc_BadDrawing => k_is)
    (case i_BadDrawing => k_is)
    (case t_BadDrawing => k_is)
    (case l_BadDrawing => k_is)
    (case c_BadDrawing => k_is)
    (case k_BadDrawing => k_is)
    (case nf_BadDrawing => k_is)
    (case ga_BadDrawing => k_is)
    (case gg_BadDrawing => k_is)
    (case ex_BadDrawing => k_is)
    (case hd_BadDrawing => k_is)
    (case ca_BadDrawing => k_is)
    (case mo_BadDrawing => k_is)
    (case a_BadFan => k_is)
    (case x_BadFan => k_is)
    (case rv_BadFan => decide +kernel)
    (case sa_BadFan => k_is)
    (case ty_BadFan => k_is)
    (case kc_BadFan => k_is)
    (case i_BadFan => k_is)
    (case t_BadFan => k_is)
    (case l_BadFan => k_is)
    (case c_BadFan => k_is)
    (case k_BadFan => k_is)
    (case nf_BadFan => k_is)
    (case ga_BadFan => k_is)
    (case gg_BadFan => k_is)
    (case ex_BadFan => k_is)
    (case hd_BadFan => k_is)
    (case ca_BadFan => k_is)
    (case mo_BadFan => k_is)
    (case a_BadImages => k_is)
    (case k_BadImages => k_is)
    (case q_BadImages => k_exc)
    (case ty_BadImages => k_is)
    (case ga_BadImages => k_is)
    (case gg_BadImages => k_is)
    (case ex_BadImages => k_is)
    (case hd_BadImages => k_is)
    (case ca_BadImages => k_is)
    (case mo_BadImages => k_is)
    (case a_BadLive => k_is)
    (case x_BadLive => k_is)
    (case rv_BadLive => decide +kernel)
    (case sa_BadLive => k_is)
    (case ty_BadLive => k_is)
    (case kc_BadLive => k_is)
    (case i_BadLive => k_is)
    (case t_BadLive => k_is)
    (case l_BadLive => k_is)
    (case c_BadLive => k_is)
    (case k_BadLive => k_is)
    (case nf_BadLive => k_is)
    (case ga_BadLive => k_is)
    (case gg_BadLive => k_is)
    (case ex_BadLive => k_is)
    (case hd_BadLive => k_is)
    (case ca_BadLive => k_is)
    (case mo_BadLive => k_is)
    (case a_BadName => k_is)
    (case k_BadName => k_is)
    (case q_BadName => k_exc)
    (case ty_BadName => k_is)
    (case ga_BadName => k_is)
    (case gg_BadName => k_is)
    (case ex_BadName => k_is)
    (case hd_BadName => k_is)
    (case ca_BadName => k_is)
    (case mo_BadName => k_is)
    (case a_BadNumber => k_is)
    (case x_BadNumber => k_is)
    (case rv_BadNumber => decide +kernel)
    (case sa_BadNumber => k_is)
    (case ty_BadNumber => k_is)
    (case kc_BadNumber => k_is)
    (case i_BadNumber => k_is)
    (case t_BadNumber => k_is)
    (case l_BadNumber => k_is)
    (case c_BadNumber => k_is)
    (case k_BadNumber => k_is)
    (case nf_BadNumber => k_is)
    (case ga_BadNumber => k_is)
    (case gg_BadNumber => k_is)
    (case ex_BadNumber => k_is)
    (case hd_BadNumber => k_is)
    (case ca_BadNumber => k_is)
    (case mo_BadNumber => k_is)
    (case a_BadRound => k_is)
    (case k_BadRound => k_is)
    (case q_BadRound => k_exc)
    (case ty_BadRound => k_is)
    (case ga_BadRound => k_is)
    (case gg_BadRound => k_is)
    (case ex_BadRound => k_is)
    (case hd_BadRound => k_is)
    (case ca_BadRound => k_is)
    (case mo_BadRound => k_is)
    (case a_BadRounds => k_is)
    (case x_BadRounds => k_is)
    (case rv_BadRounds => decide +kernel)
    (case sa_BadRounds => k_is)
    (case ty_BadRounds => k_is)
    (case kc_BadRounds => k_is)
    (case i_BadRounds => k_is)
    (case t_BadRounds => k_is)
    (case l_BadRounds => k_is)
    (case c_BadRounds => k_is)
    (case k_BadRounds => k_is)
    (case nf_BadRounds => k_is)
    (case ga_BadRounds => k_is)
    (case gg_BadRounds => k_is)
    (case ex_BadRounds => k_is)
    (case hd_BadRounds => k_is)
    (case ca_BadRounds => k_is)
    (case mo_BadRounds => k_is)
    (case a_BadSkin => k_is)
    (case x_BadSkin => k_is)
    (case rv_BadSkin => decide +kernel)
    (case sa_BadSkin => k_is)
    (case ty_BadSkin => k_is)
    (case kc_BadSkin => k_is)
    (case i_BadSkin => k_is)
    (case t_BadSkin => k_is)
    (case l_BadSkin => k_is)
    (case c_BadSkin => k_is)
    (case k_BadSkin => k_is)
    (case nf_BadSkin => k_is)
    (case ga_BadSkin => k_is)
    (case gg_BadSkin => k_is)
    (case ex_BadSkin => k_is)
    (case hd_BadSkin => k_is)
    (case ca_BadSkin => k_is)
    (case mo_BadSkin => k_is)
    (case a_BadStrand => k_is)
    (case k_BadStrand => k_is)
    (case q_BadStrand => k_exc)
    (case ty_BadStrand => k_is)
    (case ga_BadStrand => k_is)
    (case gg_BadStrand => k_is)
    (case ex_BadStrand => k_is)
    (case hd_BadStrand => k_is)
    (case ca_BadStrand => k_is)
    (case mo_BadStrand => k_is)
    (case a_BadSum => k_is)
    (case k_BadSum => k_is)
    (case q_BadSum => k_exc)
    (case ty_BadSum => k_is)
    (case ga_BadSum => k_is)
    (case gg_BadSum => k_is)
    (case ex_BadSum => k_is)
    (case hd_BadSum => k_is)
    (case ca_BadSum => k_is)
    (case mo_BadSum => k_is)
    (case a_BadText => k_is)
    (case x_BadText => k_is)
    (case rv_BadText => decide +kernel)
    (case sa_BadText => k_is)
    (case ty_BadText => k_is)
    (case kc_BadText => k_is)
    (case i_BadText => k_is)
    (case t_BadText => k_is)
    (case l_BadText => k_is)
    (case c_BadText => k_is)
    (case k_BadText => k_is)
    (case nf_BadText => k_is)
    (case ga_BadText => k_is)
    (case gg_BadText => k_is)
    (case ex_BadText => k_is)
    (case hd_BadText => k_is)
    (case ca_BadText => k_is)
    (case mo_BadText => k_is)
    (case a_BadWord => k_is)
    (case k_BadWord => k_is)
    (case q_BadWord => k_exc)
    (case ty_BadWord => k_is)
    (case ga_BadWord => k_is)
    (case gg_BadWord => k_is)
    (case ex_BadWord => k_is)
    (case hd_BadWord => k_is)
    (case ca_BadWord => k_is)
    (case mo_BadWord => k_is)
    (case a_NoMark => k_is)
    (case x_NoMark => k_is)
    (case rv_NoMark => decide +kernel)
    (case sa_NoMark => k_is)
    (case ty_NoMark => k_is)
    (case kc_NoMark => k_is)
    (case i_NoMark => k_is)
    (case t_NoMark => k_is)
    (case l_NoMark => k_is)
    (case c_NoMark => k_is)
    (case k_NoMark => k_is)
    (case nf_NoMark => k_is)
    (case ga_NoMark => k_is)
    (case gg_NoMark => k_is)
    (case ex_NoMark => k_is)
    (case hd_NoMark => k_is)
    (case ca_NoMark => k_is)
    (case mo_NoMark => k_is)
    (case a_NotNow => k_is)
    (case k_NotNow => k_is)
    (case q_NotNow => k_exc)
    (case ty_NotNow => k_is)
    (case ga_NotNow => k_is)
    (case gg_NotNow => k_is)
    (case ex_NotNow => k_is)
    (case hd_NotNow => k_is)
    (case ca_NotNow => k_is)
    (case mo_NotNow => k_is)
    (case a_NotSimple => k_is)
    (case k_NotSimple => k_is)
    (case q_NotSimple => k_exc)
    (case ty_NotSimple => k_is)
    (case ga_NotSimple => k_is)
    (case gg_NotSimple => k_is)
    (case ex_NotSimple => k_is)
    (case hd_NotSimple => k_is)
    (case ca_NotSimple => k_is)
    (case mo_NotSimple => k_is)
    (case a_TooMany => k_is)
    (case x_TooMany => k_is)
    (case rv_TooMany => decide +kernel)
    (case sa_TooMany => k_is)
    (case ty_TooMany => k_is)
    (case kc_TooMany => k_is)
    (case i_TooMany => k_is)
    (case t_TooMany => k_is)
    (case l_TooMany => k_is)
    (case c_TooMany => k_is)
    (case k_TooMany => k_is)
    (case nf_TooMany => k_is)
    (case ga_TooMany => k_is)
    (case gg_TooMany => k_is)
    (case ex_TooMany => k_is)
    (case hd_TooMany => k_is)
    (case ca_TooMany => k_is)
    (case mo_TooMany => k_is)
    (case a_l_begun => k_is)
    (case l_l_begun => k_is)
    (case c_l_begun => k_is)
    (case k_l_begun => k_is)
    (case a_l_mixed => k_is)
    (case l_l_mixed => k_is)
    (case c_l_mixed => k_is)
    (case k_l_mixed => k_is)
    (case a_l_take => k_is)
    (case l_l_take => k_is)
    (case c_l_take => k_is)
    (case k_l_take => k_is)
    (case a_l_pick => k_is)
    (case l_l_pick => k_is)
    (case c_l_pick => k_is)
    (case k_l_pick => k_is)
    (case a_l_plain => k_is)
    (case l_l_plain => k_is)
    (case c_l_plain => k_is)
    (case k_l_plain => k_is)
    (case a_l_made => k_is)
    (case l_l_made => k_is)
    (case c_l_made => k_is)
    (case k_l_made => k_is)
    (case a_l_kept => k_is)
    (case l_l_kept => k_is)
    (case c_l_kept => k_is)
    (case k_l_kept => k_is)
    (case a_l_kinds => k_is)
    (case l_l_kinds => k_is)
    (case c_l_kinds => k_is)
    (case k_l_kinds => k_is)
    (case a_l_taken => k_is)
    (case l_l_taken => k_is)
    (case c_l_taken => k_is)
    (case k_l_taken => k_is)
    (case a_law => k_is)
    (case l_law => k_is)
    (case c_law => k_is)
    (case k_law => k_is)
    (case zabs => k_is)
    (case zenumerate => k_is)
    (case zint => k_is)
    (case zisinstance => k_is)
    (case zlen => k_is)
    (case zrange => k_is)
    (case zrepr => k_is)
    (case kA0_0 => kit_is)
    (case kA0_1 => kit_is)
    (case kA0_2 => kit_is)
    (case kA0_3 => kit_is)
    (case kA0_4 => kit_is)
    (case kA0_5 => kit_is)
    (case kA0_6 => kit_is)
    (case kA0_7 => kit_is)
    (case kA0_8 => kit_is)
    (case kA0_9 => kit_is)
    (case kA0_10 => kit_is)
    (case kA0_11 => kit_is)
    (case kA0_12 => kit_is)
    (case kA0_13 => kit_is)
    (case kA0_14 => kit_is)
    (case kA0_15 => kit_is)
    (case kA0_16 => kit_is)
    (case kA0_17 => kit_is)
    (case kA0_18 => kit_is)
    (case kA0_19 => kit_is)
    (case kR0 => kit_is)
    (case kV0 => kit_is)
    (case kA1_0 => kit_is)
    (case kA1_1 => kit_is)
    (case kA1_2 => kit_is)
    (case kA1_3 => kit_is)
    (case kA1_4 => kit_is)
    (case kA1_5 => kit_is)
    (case kA1_6 => kit_is)
    (case kA1_7 => kit_is)
    (case kA1_8 => kit_is)
    (case kA1_9 => kit_is)
    (case kA1_10 => kit_is)
    (case kA1_11 => kit_is)
    (case kA1_12 => kit_is)
    (case kA1_13 => kit_is)
    (case kA1_14 => kit_is)
    (case kA1_15 => kit_is)
    (case kA1_16 => kit_is)
    (case kA1_17 => kit_is)
    (case kA1_18 => kit_is)
    (case kA1_19 => kit_is)
    (case kR1 => kit_is)
    (case kV1 => kit_is)
    (case kA2_0 => kit_is)
    (case kA2_1 => kit_is)
    (case kA2_2 => kit_is)
    (case kA2_3 => kit_is)
    (case kA2_4 => kit_is)
    (case kA2_5 => kit_is)
    (case kA2_6 => kit_is)
    (case kA2_7 => kit_is)
    (case kA2_8 => kit_is)
    (case kA2_9 => kit_is)
    (case kA2_10 => kit_is)
    (case kA2_11 => kit_is)
    (case kA2_12 => kit_is)
    (case kA2_13 => kit_is)
    (case kA2_14 => kit_is)
    (case kA2_15 => kit_is)
    (case kA2_16 => kit_is)
    (case kA2_17 => kit_is)
    (case kA2_18 => kit_is)
    (case kA2_19 => kit_is)
    (case kR2 => kit_is)
    (case kV2 => kit_is)
    (case kA3_0 => kit_is)
    (case kA3_1 => kit_is)
    (case kA3_2 => kit_is)
    (case kA3_3 => kit_is)
    (case kA3_4 => kit_is)
    (case kA3_5 => kit_is)
    (case kA3_6 => kit_is)
    (case kA3_7 => kit_is)
    (case kA3_8 => kit_is)
    (case kA3_9 => kit_is)
    (case kA3_10 => kit_is)
    (case kA3_11 => kit_is)
    (case kA3_12 => kit_is)
    (case kA3_13 => kit_is)
    (case kA3_14 => kit_is)
    (case kA3_15 => kit_is)
    (case kA3_16 => kit_is)
    (case kA3_17 => kit_is)
    (case kA3_18 => kit_is)
    (case kA3_19 => kit_is)
    (case kR3 => kit_is)
    (case kV3 => kit_is)
    (case kA4_0 => kit_is)
    (case kA4_1 => kit_is)
    (case kA4_2 => kit_is)
    (case kA4_3 => kit_is)
    (case kA4_4 => kit_is)
    (case kA4_5 => kit_is)
    (case kA4_6 => kit_is)
    (case kA4_7 => kit_is)
    (case kA4_8 => kit_is)
    (case kA4_9 => kit_is)
    (case kA4_10 => kit_is)
    (case kA4_11 => kit_is)
    (case kA4_12 => kit_is)
    (case kA4_13 => kit_is)
    (case kA4_14 => kit_is)
    (case kA4_15 => kit_is)
    (case kA4_16 => kit_is)
    (case kA4_17 => kit_is)
    (case kA4_18 => kit_is)
    (case kA4_19 => kit_is)
    (case kR4 => kit_is)
    (case kV4 => kit_is)
    (case kA5_0 => kit_is)
    (case kA5_1 => kit_is)
    (case kA5_2 => kit_is)
    (case kA5_3 => kit_is)
    (case kA5_4 => kit_is)
    (case kA5_5 => kit_is)
    (case kA5_6 => kit_is)
    (case kA5_7 => kit_is)
    (case kA5_8 => kit_is)
    (case kA5_9 => kit_is)
    (case kA5_10 => kit_is)
    (case kA5_11 => kit_is)
    (case kA5_12 => kit_is)
    (case kA5_13 => kit_is)
    (case kA5_14 => kit_is)
    (case kA5_15 => kit_is)
    (case kA5_16 => kit_is)
    (case kA5_17 => kit_is)
    (case kA5_18 => kit_is)
    (case kA5_19 => kit_is)
    (case kR5 => kit_is)
    (case kV5 => kit_is)
    (case kA6_0 => kit_is)
    (case kA6_1 => kit_is)
    (case kA6_2 => kit_is)
    (case kA6_3 => kit_is)
    (case kA6_4 => kit_is)
    (case kA6_5 => kit_is)
    (case kA6_6 => kit_is)
    (case kA6_7 => kit_is)
    (case kA6_8 => kit_is)
    (case kA6_9 => kit_is)
    (case kA6_10 => kit_is)
    (case kA6_11 => kit_is)
    (case kA6_12 => kit_is)
    (case kA6_13 => kit_is)
    (case kA6_14 => kit_is)
    (case kA6_15 => kit_is)
    (case kA6_16 => kit_is)
    (case kA6_17 => kit_is)
    (case kA6_18 => kit_is)
    (case kA6_19 => kit_is)
    (case kR6 => kit_is)
    (case kV6 => kit_is)
    (case kA7_0 => kit_is)
    (case kA7_1 => kit_is)
    (case kA7_2 => kit_is)
    (case kA7_3 => kit_is)
    (case kA7_4 => kit_is)
    (case kA7_5 => kit_is)
    (case kA7_6 => kit_is)
    (case kA7_7 => kit_is)
    (case kA7_8 => kit_is)
    (case kA7_9 => kit_is)
    (case kA7_10 => kit_is)
    (case kA7_11 => kit_is)
    (case kA7_12 => kit_is)
    (case kA7_13 => kit_is)
    (case kA7_14 => kit_is)
    (case kA7_15 => kit_is)
    (case kA7_16 => kit_is)
    (case kA7_17 => kit_is)
    (case kA7_18 => kit_is)
    (case kA7_19 => kit_is)
    (case kR7 => kit_is)
    (case kV7 => kit_is)
    (case kA8_0 => kit_is)
    (case kA8_1 => kit_is)
    (case kA8_2 => kit_is)
    (case kA8_3 => kit_is)
    (case kA8_4 => kit_is)
    (case kA8_5 => kit_is)
    (case kA8_6 => kit_is)
    (case kA8_7 => kit_is)
    (case kA8_8 => kit_is)
    (case kA8_9 => kit_is)
    (case kA8_10 => kit_is)
    (case kA8_11 => kit_is)
    (case kA8_12 => kit_is)
    (case kA8_13 => kit_is)
    (case kA8_14 => kit_is)
    (case kA8_15 => kit_is)
    (case kA8_16 => kit_is)
    (case kA8_17 => kit_is)
    (case kA8_18 => kit_is)
    (case kA8_19 => kit_is)
    (case kR8 => kit_is)
    (case kV8 => kit_is)
    (case kA9_0 => kit_is)
    (case kA9_1 => kit_is)
    (case kA9_2 => kit_is)
    (case kA9_3 => kit_is)
    (case kA9_4 => kit_is)
    (case kA9_5 => kit_is)
    (case kA9_6 => kit_is)
    (case kA9_7 => kit_is)
    (case kA9_8 => kit_is)
    (case kA9_9 => kit_is)
    (case kA9_10 => kit_is)
    (case kA9_11 => kit_is)
    (case kA9_12 => kit_is)
    (case kA9_13 => kit_is)
    (case kA9_14 => kit_is)
    (case kA9_15 => kit_is)
    (case kA9_16 => kit_is)
    (case kA9_17 => kit_is)
    (case kA9_18 => kit_is)
    (case kA9_19 => kit_is)
    (case kR9 => kit_is)
    (case kV9 => kit_is)
    (case kA10_0 => kit_is)
    (case kA10_1 => kit_is)
    (case kA10_2 => kit_is)
    (case kA10_3 => kit_is)
    (case kA10_4 => kit_is)
    (case kA10_5 => kit_is)
    (case kA10_6 => kit_is)
    (case kA10_7 => kit_is)
    (case kA10_8 => kit_is)
    (case kA10_9 => kit_is)
    (case kA10_10 => kit_is)
    (case kA10_11 => kit_is)
    (case kA10_12 => kit_is)
    (case kA10_13 => kit_is)
    (case kA10_14 => kit_is)
    (case kA10_15 => kit_is)
    (case kA10_16 => kit_is)
    (case kA10_17 => kit_is)
    (case kA10_18 => kit_is)
    (case kA10_19 => kit_is)
    (case kR10 => kit_is)
    (case kV10 => kit_is)
    (case kA11_0 => kit_is)
    (case kA11_1 => kit_is)
    (case kA11_2 => kit_is)
    (case kA11_3 => kit_is)
    (case kA11_4 => kit_is)
    (case kA11_5 => kit_is)
    (case kA11_6 => kit_is)
    (case kA11_7 => kit_is)
    (case kA11_8 => kit_is)
    (case kA11_9 => kit_is)
    (case kA11_10 => kit_is)
    (case kA11_11 => kit_is)
    (case kA11_12 => kit_is)
    (case kA11_13 => kit_is)
    (case kA11_14 => kit_is)
    (case kA11_15 => kit_is)
    (case kA11_16 => kit_is)
    (case kA11_17 => kit_is)
    (case kA11_18 => kit_is)
    (case kA11_19 => kit_is)
    (case kR11 => kit_is)
    (case kV11 => kit_is)
    (case kA12_0 => kit_is)
    (case kA12_1 => kit_is)
    (case kA12_2 => kit_is)
    (case kA12_3 => kit_is)
    (case kA12_4 => kit_is)
    (case kA12_5 => kit_is)
    (case kA12_6 => kit_is)
    (case kA12_7 => kit_is)
    (case kA12_8 => kit_is)
    (case kA12_9 => kit_is)
    (case kA12_10 => kit_is)
    (case kA12_11 => kit_is)
    (case kA12_12 => kit_is)
    (case kA12_13 => kit_is)
    (case kA12_14 => kit_is)
    (case kA12_15 => kit_is)
    (case kA12_16 => kit_is)
    (case kA12_17 => kit_is)
    (case kA12_18 => kit_is)
    (case kA12_19 => kit_is)
    (case kR12 => kit_is)
    (case kV12 => kit_is)
    (case kA13_0 => kit_is)
    (case kA13_1 => kit_is)
    (case kA13_2 => kit_is)
    (case kA13_3 => kit_is)
    (case kA13_4 => kit_is)
    (case kA13_5 => kit_is)
    (case kA13_6 => kit_is)
    (case kA13_7 => kit_is)
    (case kA13_8 => kit_is)
    (case kA13_9 => kit_is)
    (case kA13_10 => kit_is)
    (case kA13_11 => kit_is)
    (case kA13_12 => kit_is)
    (case kA13_13 => kit_is)
    (case kA13_14 => kit_is)
    (case kA13_15 => kit_is)
    (case kA13_16 => kit_is)
    (case kA13_17 => kit_is)
    (case kA13_18 => kit_is)
    (case kA13_19 => kit_is)
    (case kR13 => kit_is)
    (case kV13 => kit_is)
    (case kA14_0 => kit_is)
    (case kA14_1 => kit_is)
    (case kA14_2 => kit_is)
    (case kA14_3 => kit_is)
    (case kA14_4 => kit_is)
    (case kA14_5 => kit_is)
    (case kA14_6 => kit_is)
    (case kA14_7 => kit_is)
    (case kA14_8 => kit_is)
    (case kA14_9 => kit_is)
    (case kA14_10 => kit_is)
    (case kA14_11 => kit_is)
    (case kA14_12 => kit_is)
    (case kA14_13 => kit_is)
    (case kA14_14 => kit_is)
    (case kA14_15 => kit_is)
    (case kA14_16 => kit_is)
    (case kA14_17 => kit_is)
    (case kA14_18 => kit_is)
    (case kA14_19 => kit_is)
    (case kR14 => kit_is)
    (case kV14 => kit_is)
    (case kA15_0 => kit_is)
    (case kA15_1 => kit_is)
    (case kA15_2 => kit_is)
    (case kA15_3 => kit_is)
    (case kA15_4 => kit_is)
    (case kA15_5 => kit_is)
    (case kA15_6 => kit_is)
    (case kA15_7 => kit_is)
    (case kA15_8 => kit_is)
    (case kA15_9 => kit_is)
    (case kA15_10 => kit_is)
    (case kA15_11 => kit_is)
    (case kA15_12 => kit_is)
    (case kA15_13 => kit_is)
    (case kA15_14 => kit_is)
    (case kA15_15 => kit_is)
    (case kA15_16 => kit_is)
    (case kA15_17 => kit_is)
    (case kA15_18 => kit_is)
    (case kA15_19 => kit_is)
    (case kR15 => kit_is)
    (case kV15 => kit_is)
    (case kA16_0 => kit_is)
    (case kA16_1 => kit_is)
    (case kA16_2 => kit_is)
    (case kA16_3 => kit_is)
    (case kA16_4 => kit_is)
    (case kA16_5 => kit_is)
    (case kA16_6 => kit_is)
    (case kA16_7 => kit_is)
    (case kA16_8 => kit_is)
    (case kA16_9 => kit_is)
    (case kA16_10 => kit_is)
    (case kA16_11 => kit_is)
    (case kA16_12 => kit_is)
    (case kA16_13 => kit_is)
    (case kA16_14 => kit_is)
    (case kA16_15 => kit_is)
    (case kA16_16 => kit_is)
    (case kA16_17 => kit_is)
    (case kA16_18 => kit_is)
    (case kA16_19 => kit_is)
    (case kR16 => kit_is)
    (case kV16 => kit_is)
    (case kA17_0 => kit_is)
    (case kA17_1 => kit_is)
    (case kA17_2 => kit_is)
    (case kA17_3 => kit_is)
    (case kA17_4 => kit_is)
    (case kA17_5 => kit_is)
    (case kA17_6 => kit_is)
    (case kA17_7 => kit_is)
    (case kA17_8 => kit_is)
    (case kA17_9 => kit_is)
    (case kA17_10 => kit_is)
    (case kA17_11 => kit_is)
    (case kA17_12 => kit_is)
    (case kA17_13 => kit_is)
    (case kA17_14 => kit_is)
    (case kA17_15 => kit_is)
    (case kA17_16 => kit_is)
    (case kA17_17 => kit_is)
    (case kA17_18 => kit_is)
    (case kA17_19 => kit_is)
    (case kR17 => kit_is)
    (case kV17 => kit_is)
    (case kA18_0 => kit_is)
    (case kA18_1 => kit_is)
    (case kA18_2 => kit_is)
    (case kA18_3 => kit_is)
    (case kA18_4 => kit_is)
    (case kA18_5 => kit_is)
    (case kA18_6 => kit_is)
    (case kA18_7 => kit_is)
    (case kA18_8 => kit_is)
    (case kA18_9 => kit_is)
    (case kA18_10 => kit_is)
    (case kA18_11 => kit_is)
    (case kA18_12 => kit_is)
    (case kA18_13 => kit_is)
    (case kA18_14 => kit_is)
    (case kA18_15 => kit_is)
    (case kA18_16 => kit_is)
    (case kA18_17 => kit_is)
    (case kA18_18 => kit_is)
    (case kA18_19 => kit_is)
    (case kR18 => kit_is)
    (case kV18 => kit_is)
    (case kA19_0 => kit_is)
    (case kA19_1 => kit_is)
    (case kA19_2 => kit_is)
    (case kA19_3 => kit_is)
    (case kA19_4 => kit_is)
    (case kA19_5 => kit_is)
    (case kA19_6 => kit_is)
    (case kA19_7 => kit_is)
    (case kA19_8 => kit_is)
    (case kA19_9 => kit_is)
    (case kA19_10 => kit_is)
    (case kA19_11 => kit_is)
    (case kA19_12 => kit_is)
    (case kA19_13 => kit_is)
    (case kA19_14 => kit_is)
    (case kA19_15 => kit_is)
    (case kA19_16 => kit_is)
    (case kA19_17 => kit_is)
    (case kA19_18 => kit_is)
    (case kA19_19 => kit_is)
    (case kR19 => kit_is)
    (case kV19 => kit_is)
    (case sNR => k_is)
    (case sTR => k_is)
    (case zValueError => k_is)
