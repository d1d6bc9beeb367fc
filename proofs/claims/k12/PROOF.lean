import PyProof.Rows.All
import Wide.All
import OpenK.AllK
import Wide.FinOn
import HandS.ForMost
import HandS.ForExc
import HandS.More
import HandS.TupAny
import HandS.Conv
import HandS.Style
import HandS.Strs
import HandS.SortInts
import HandS.Sort
import HandS.DeepEq
import HandS.RaiseMore
import HandS.Lambda
import HandS.EndTab
import HandS.IsInst
import HandS.ExcIs
import HandS.ExcField
import HandS.ExcInit
import HandS.ExcValue
import HandS.CallLocal
import HandS.CallSlots
import HandS.Nested
import PyProof.ReprRoads
import PyProof.ReprLen
import KE.DataMinMax
import HandS.TupMul
import PyProof.CallFns
import HandS.Deep
import KE.SortData
import PyProof.SumAny
import KE.GoesMore
import HandS.Iter
import HandS.Walk
import KE.KTupSum
import HandS.TupSets
import PyProof.Rows.RowHeap
import PySem.Challenge.RW_tautrounds_k12_whole_powers
import HandS.WordsDict
import PyProof.Rows.SetFrom
import HandS.EndBits
import KE.KNest
import KE.KNestM
import KE.RegKIsAll
set_option Elab.async false
set_option linter.all false
set_option maxRecDepth 100000
set_option maxHeartbeats 4000000
namespace SrtO
open PySem PyProof.Rows Srt
section
variable {prog : Program} {w : World} {A : Around} {E : Value → Shared → Prop} {s : Shared}
theorem tt_collect_tup {l : Addr} {vs : List Value} {Q : List Value → Shared → Prop} (hl : IsTup s.heap l vs.toArray)
    (h : Q vs { s with heap := (s.heap.push (seqObj "list" #[] 0)).update s.heap.objs.size (Obj.mapSeq (· ++ vs.toArray)) }) (hsz : vs.length ≤ sizeLine) :
    wpAny (model prog w) A (collect (.ref l)) Q E s := by
  obtain ⟨o, ho, hc, n, hd⟩ := id hl
  unfold collect
  refine wpAny_bind (wpAny_runValue (codeAny_builtin entry_proto_collect' ?_))
  show wpAny _ _ (do again (.builtin "list.__iadd__" ⟨[← newList [], .ref l], []⟩)) _ _ s
  refine wpAny_bind (wpAny_newList (wpAny_pure ⟨Code.quiet_builtin _ (by decide +kernel), codeAny_builtin entry_list_iadd' ?_⟩))
  show wpAny _ _ (Builtin.List.listExtendWith (.ref s.heap.objs.size) (.ref l) (.ref s.heap.objs.size)) _ _ { s with heap := s.heap.push (seqObj "list" #[] 0) }
  unfold Builtin.List.listExtendWith
  have ho' : (s.heap.push (seqObj "list" #[] 0)).get? l = some o := Heap.get?_push_of_some _ ho
  refine wpAny_bind (wpAny_typeOf (T := "tuple") ⟨o, ho', hc⟩ ?_)
  have ht : (Value.type "tuple" == Value.type "tuple") = true := by rfl
  rw [if_pos (by rw [ht]; simp)]
  refine wpAny_bind (listItems_at ho' hd ?_)
  refine wpAny_bind (listItems_at (xs := #[]) (n := 0) (Heap.get?_push_size _ rfl) rfl ?_)
  rw [if_neg (by simp)]
  refine wpAny_bind (listUpdate_at (xs := #[]) (n := 0) (Heap.get?_push_size _ rfl) rfl ?_ (Nat.zero_le _) (by show (#[] ++ vs.toArray).size ≤ sizeLine + 1; simp only [Array.size_append, List.size_toArray, List.length_nil]; omega))
  refine wpAny_pure ?_
  show wpAny (model prog w) A (do
      let o ← load s.heap.objs.size
      match o.data with
      | .seq xs _ => pure xs.toList
      | _ => unsupported "internal:collect") Q E { s with heap := (s.heap.push (seqObj "list" #[] 0)).update s.heap.objs.size (Obj.mapSeq (· ++ vs.toArray)) }
  refine wpAny_bind (wpAny_load (get?_update_seq (Heap.get?_push_size _ rfl) _) ?_)
  show wpAny _ _ (pure ((#[] : Array Value) ++ vs.toArray).toList) Q E _
  rw [show ((#[] : Array Value) ++ vs.toArray).toList = vs by simp]
  exact wpAny_pure h
theorem tt_sorted_tup {l : Addr} {vs : List Value} {ltv : Value → Value → Bool} {Q : Value → Shared → Prop} (O : Swo ltv) (hl : IsTup s.heap l vs.toArray) (hz : vs.length ≤ sizeLine)
    (hS : 2 ≤ vs.length → ∀ (h₁ : Heap) (a : Addr), h₁.get? a = some (seqObj "list" vs.toArray 0) → (∀ b o, s.heap.get? b = some o → b ≠ a ∧ h₁.get? b = some o) → SortableO prog w A.in1.in1 { s with heap := h₁ } a vs ltv)
    (h : ∀ out : List Value, Srtd ltv out → Stb ltv out vs → Q (.ref (s.heap.objs.size + 1)) { s with heap := sortedAll s.heap vs out.toArray }) :
    wpAny (model prog w) A (call (.builtin "sorted") [.ref l]) Q E s := by
  refine Calls.call_function_entry kind_sorted plain_sorted entry_sorted (args_sorted1 _) ?_
  unfold Builtin.«sorted»
  refine wpAny_bind (m := checkCount "sorted" 1 1 _) (wpAny_pure ?_)
  refine wpAny_bind (tt_collect_tup hl ?_ hz)
  refine wpAny_bind (wpAny_newList ?_ hz)
  have hsz : ((s.heap.push (seqObj "list" #[] 0)).update s.heap.objs.size (Obj.mapSeq (· ++ vs.toArray))).objs.size = s.heap.objs.size + 1 := by
    rw [Heap.size_update, size_push']
  have hoL : (((s.heap.push (seqObj "list" #[] 0)).update s.heap.objs.size (Obj.mapSeq (· ++ vs.toArray))).push (seqObj "list" vs.toArray 0)).get? (s.heap.objs.size + 1) = some (seqObj "list" vs.toArray 0) := by
    rw [← hsz]; exact Heap.get?_push_size _ rfl
  have keep : ∀ b o, s.heap.get? b = some o → b ≠ s.heap.objs.size + 1 ∧ (((s.heap.push (seqObj "list" #[] 0)).update s.heap.objs.size (Obj.mapSeq (· ++ vs.toArray))).push (seqObj "list" vs.toArray 0)).get? b = some o := fun b o q => by
    have hlt : b < s.heap.objs.size := Heap.lt_size q
    refine ⟨Nat.ne_of_lt (Nat.lt_succ_of_lt hlt), Heap.get?_push_of_some _ ?_⟩
    rw [Heap.get?_update_ne _ _ _ _ (Nat.ne_of_lt hlt)]
    exact Heap.get?_push_of_some _ q
  show wpAny _ _ _ _ _ { s with heap := ((s.heap.push (seqObj "list" #[] 0)).update s.heap.objs.size (Obj.mapSeq (· ++ vs.toArray))).push (seqObj "list" vs.toArray 0) }
  rw [hsz]
  refine wpAny_bind (wpAny_holding (wpAny_call_entry slot_list_sort ⟨_, hoL, rfl⟩ entry_list_sort (list_sort_ord O hoL hz (fun h2 => hS h2 _ _ hoL keep) fun out hs hb => ⟨_, rfl, ?_⟩) (args_list_sort _)))
  exact wpAny_pure ⟨_, rfl, h out hs hb⟩
end
end SrtO
namespace L2
open PySem PySem.Spec PyProof.Rows
section
variable {X : Cx}
def rSortedIT (K : PySem.W.Frag) : List V → Hp → VK → Prop := fun vs H Q => ∃ (a : Addr) (ns : List Int), vs = [V.ref a] ∧ SqT K H a (ns.map V.int) ∧
  ∀ (ns' : List Int) (p : Addr), ns'.Perm ns → ns'.Pairwise (· ≤ ·) → H p = none → Q (.ref p) (upd H p (.lst (ns'.map V.int)))
theorem cr_sortedIT : CallR X (.builtin "sorted") (rSortedIT X.K) := by
  intro pins s σ H vs us Q I r h
  obtain ⟨a, ns, rfl, hs, q⟩ := h
  obtain ⟨its, rv, hl, hz⟩ := I.tuple hs
  rw [Vals.ref1 r]
  have hi := rv.ints
  refine SrtO.tt_sorted_tup SrtO.swo_int hl (by rw [← rv.length]; exact hz) (fun h2 h₁ a' _ _ => SrtO.ints_sortable hi h2) fun out h1 h2 => ?_
  obtain ⟨k1, k2, k3⟩ := SrtO.ints_out hi h1 h2
  obtain ⟨ep, he'⟩ := PyProof.Rows.sortedAll_at s.heap its out.toArray
  have hlen : ((out.map SrtO.iv).map V.int).length ≤ sizeLine := by
    rw [List.length_map, k2.length_eq]
    rw [List.length_map] at hz
    exact hz
  exact ⟨.ref _, upd H (s.heap.objs.size + 1) (.lst ((out.map SrtO.iv).map V.int)), I.laid (t' := s.toks) (fun _ _ => PyProof.Rows.sortedAll_old) (Nat.le_succ _) ⟨hlen, out, ep, vals_of_ints k1, he'⟩, rfl, q _ _ k2 k3 (I.hok.fresh (Nat.le_succ _))⟩
def rSortedS2 (K : PySem.W.Frag) : List V → Hp → VK → Prop := fun vs H Q => rSortedI K vs H Q ∨ rSortedIT K vs H Q
theorem cr_sortedS2 : CallR X (.builtin "sorted") (rSortedS2 X.K) := by
  intro pins s σ H vs us Q I r h
  rcases h with h | h
  · exact cr_sortedI pins s σ H vs us Q I r h
  · exact cr_sortedIT pins s σ H vs us Q I r h
theorem mt_tup_indexI : MtR X "tuple.index" (fun x xs H Q => ∃ p, ∃ ys : List Int, ∃ z j, x = .ref p ∧ xs = [.int z] ∧ SqT X.K H p (ys.map V.int) ∧ ys[j]? = some z ∧ (∀ m, m < j → ys[m]? ≠ some z) ∧ Q (.int (j : Nat)) H) := by
  intro pins s σ H x xs v us Q I rx rs h
  obtain ⟨p, ys, z, j, rfl, rfl, hq, hy, hno, q⟩ := h
  cases rx
  obtain ⟨u, rfl, t, rfl⟩ := vals1 rs
  obtain ⟨its, r, pl, hz⟩ := I.tuple hq
  obtain ⟨⟨cls, dd, dt, sl⟩, ho, hc, n, hd⟩ := pl
  simp only at hc hd
  subst hc
  subst hd
  have hl : its.toArray.size = ys.length := by rw [List.size_toArray, ← r.length, List.length_map]
  have hj : j < its.toArray.size := by rw [hl]; exact (List.getElem?_eq_some_iff.mp hy).1
  have at' : ∀ (m : Nat) (hm : m < its.toArray.size), ∃ y t', ys[m]? = some y ∧ its.toArray[m] = Value.int y t' := fun m hm => by
    have hm' : m < ys.length := by rw [← hl]; exact hm
    obtain ⟨w, hw, t', hw'⟩ := r.get (i := m) (x := .int ys[m]) (by simp [hm'])
    refine ⟨ys[m], t', List.getElem?_eq_getElem hm', ?_⟩
    have e := (List.getElem?_eq_some_iff.mp hw).2
    rw [← hw', ← e]
    simp
  have flat : ∀ ys : List Int, (ys.map V.int).all flatV = true := fun ys => by
    induction ys with
    | nil => rfl
    | cons a b ih => rw [List.map_cons, List.all_cons, ih]; rfl
  refine call_meets PySem.F.slot_tuple_index ⟨_, ho, rfl⟩ PySem.F.entry_tuple_index (PySem.F.args_tuple_index_2 _ _) (TI.tuple_indexAt p its.toArray n dd sl (.int z t) (eqU (.int z)) j hj ?_ ?_)
    ⟨ho, fun w hw => mem_eqAt (x := .int z) ⟨t, rfl⟩ rfl r (flat ys) w (by simpa using hw), ⟨.int (j : Nat), H, I.tok _, ⟨_, rfl⟩, q⟩⟩
  · obtain ⟨y, t', h1, h2⟩ := at' j hj
    rw [hy] at h1
    cases h1
    rw [h2]
    show (z == z) = true
    exact beq_self_eq_true z
  · intro m hm hmj
    obtain ⟨y, t', h1, h2⟩ := at' m hm
    rw [h2]
    show (y == z) = false
    exact beq_eq_false_iff_ne.mpr fun e => hno m hmj (by rw [h1, e])
end
end L2
set_option maxRecDepth 100000
set_option maxHeartbeats 4000000
namespace HT
open PySem PySem.Spec PyProof.Rows
section
variable {prog : Program} {w : World} {A : Around} {E : Value → Shared → Prop} {s : Shared}
theorem tt_adjust_rev (n : Nat) : Builtin.Slice.sliceAdjust none none (-1) (n : Int) = ((n : Int) - 1, -1) := by
  unfold Builtin.Slice.sliceAdjust
  simp only [show (-1 : Int) < 0 by decide, if_true]
theorem tt_places_rev (n : Nat) : Builtin.Slice.slicePlaces ((n : Int) - 1) (-1) (-1) = n := by
  unfold Builtin.Slice.slicePlaces
  simp only [show ¬ ((-1 : Int) > 0) by decide, if_false, Int.neg_neg, Int.ediv_one]
  split <;> omega
theorem tt_applied_rev {sl : Addr} {vs : Value} {n : Nat} {Q : Int × Int × Nat → Shared → Prop} (hs : s.heap.IsSliceOf sl .none .none vs) (ps : IsPart vs (some (-1)))
    (h : Q ((n : Int) - 1, -1, n) s) : wpAny (model prog w) A (Builtin.Slice.sliceApplied (.ref sl) (pure (n : Int))) Q E s := by
  obtain ⟨os, hos, hcs, hds⟩ := id hs
  unfold Builtin.Slice.sliceApplied Builtin.Slice.sliceFields
  refine wpAny_bind (wpAny_bind (wpAny_field hos hds (x := .none) rfl (wpAny_bind (wpAny_field hos hds (x := .none) rfl (wpAny_bind (wpAny_field hos hds (x := vs) rfl (wpAny_pure ?_)))))))
  refine wpAny_bind (slicePart_ ps ?_)
  show wpAny _ _ (if ((-1 : Int) == 0) = true then _ else _) _ _ s
  rw [if_neg (by decide)]
  refine wpAny_bind (slicePart_ .none (wpAny_bind (slicePart_ .none (wpAny_bind (wpAny_pure ?_)))))
  show wpAny _ _ (match Builtin.Slice.sliceAdjust none none (-1) (n : Int) with | (lo, hi) => pure (lo, (-1 : Int), Builtin.Slice.slicePlaces lo hi (-1))) _ _ s
  rw [tt_adjust_rev n]
  show wpAny _ _ (pure ((n : Int) - 1, (-1 : Int), Builtin.Slice.slicePlaces ((n : Int) - 1) (-1) (-1))) _ _ s
  rw [tt_places_rev n]
  exact wpAny_pure h
theorem tt_fm {α β : Type} {f g : α → Option β} : ∀ {l : List α}, (∀ x ∈ l, f x = g x) → l.filterMap f = l.filterMap g
  | [], _ => rfl
  | a :: l, h => by
    rw [List.filterMap_cons, List.filterMap_cons, h a List.mem_cons_self, tt_fm fun x hx => h x (List.mem_cons_of_mem _ hx)]
theorem tt_pick_rev (xs : Array Value) : ((List.range xs.size).filterMap fun (m : Nat) => xs[(((xs.size : Int) - 1) + (m : Int) * (-1)).toNat]?).toArray = xs.toList.reverse.toArray := by
  have e : (List.range xs.size).filterMap (fun (m : Nat) => xs[(((xs.size : Int) - 1) + (m : Int) * (-1)).toNat]?) = xs.toList.reverse := by
    have h1 : ∀ m ∈ List.range xs.size, xs[(((xs.size : Int) - 1) + (m : Int) * (-1)).toNat]? = some (xs.toList.reverse.getD m .none) := fun m hm => by
      have hm := List.mem_range.mp hm
      have e1 : (((xs.size : Int) - 1) + (m : Int) * (-1)).toNat = xs.size - 1 - m := by omega
      rw [e1, List.getD_eq_getElem?_getD, List.getElem?_reverse (by simpa using hm)]
      have e2 : xs.size - 1 - m < xs.size := by omega
      simp [e2]
    have h2 : (List.range xs.size).filterMap (fun (m : Nat) => xs[(((xs.size : Int) - 1) + (m : Int) * (-1)).toNat]?) = (List.range xs.size).map fun m => xs.toList.reverse.getD m .none := by
      rw [← List.filterMap_eq_map]
      exact tt_fm h1
    rw [h2]
    refine List.ext_getElem? fun i => ?_
    rw [List.getElem?_map]
    by_cases hi : i < xs.size
    · rw [List.getElem?_range hi]
      have : i < xs.toList.reverse.length := by simpa using hi
      rw [List.getElem?_eq_getElem this]
      simp [List.getD_eq_getElem?_getD, List.getElem?_eq_getElem this]
    · rw [List.getElem?_eq_none (by simpa using hi), List.getElem?_eq_none (by simpa using hi)]
      rfl
  rw [e]
theorem tt_getItem_tuple_rev {t sl : Addr} {items : Array Value} {vs : Value} {Q : Value → Shared → Prop} (ht : IsTup s.heap t items) (hs : s.heap.IsSliceOf sl .none .none vs) (ps : IsPart vs (some (-1)))
    (h : Q (.ref s.heap.objs.size) { s with heap := s.heap.push { cls := .type "tuple", data := .seq items.toList.reverse.toArray } })
    (hsz : items.size ≤ sizeLine) : wpAny (model prog w) A (getItem (.ref t) (.ref sl)) Q E s := by
  have htake : sizeOk (.seq items.toList.reverse.toArray) := by
    show items.toList.reverse.toArray.size ≤ sizeLine
    rw [List.size_toArray, List.length_reverse, Array.length_toList]
    exact hsz
  obtain ⟨os, hos, hcs, hds⟩ := id hs
  have hTs : s.TypeIs (.ref sl) "slice" := ⟨os, hos, hcs⟩
  unfold getItem
  try with_reducible refine wpAny_holding ?_
  first | refine wpAny_bind (wpAny_pure ?_) | skip
  refine wpAny_bind (wpAny_sequenceKey ht.typeIs (by decide) ?_)
  refine wpAny_bind (wpAny_callSpecial?_slot (name := Str.ofString "__getitem__") ht.typeIs PyProof.Rows.slot_tuple_getitem
    (wpAny_call_entry PyProof.Rows.slot_tuple_getitem ht.typeIs entry_tuple_getitem ?_ (args_tuple_getitem _ _)))
  show wpAny _ _ (Builtin.Tuple.tupleItemsOf (.ref t) >>= _) _ _ s
  refine wpAny_bind (tupleItemsOf_ ht ?_)
  refine wpAny_bind (wpAny_typeOf hTs ?_)
  rw [if_pos (by decide)]
  refine wpAny_bind (tt_applied_rev hs ps ?_)
  have hno : ¬ (((items.size : Int) - 1 == 0 && (-1 : Int) == 1 && items.size == items.size) = true) := by
    intro q
    rw [Bool.and_eq_true, Bool.and_eq_true] at q
    exact absurd q.1.2 (by decide)
  show wpAny _ _ (if ((items.size : Int) - 1 == 0 && (-1 : Int) == 1 && items.size == items.size) = true then _ else _) _ _ s
  rw [if_neg hno, tt_pick_rev]
  first
    | exact wpAny_bind (m := Builtin.Tuple.tupleExact _) (wpAny_newObj_type (wpAny_pure ⟨_, rfl, wpAny_pure h⟩) htake)
    | exact wpAny_bind (m := Builtin.Tuple.tupleExact _) (wpAny_newObj_type (wpAny_bind (wpAny_pure (wpAny_pure ⟨_, rfl, wpAny_pure h⟩))) htake)
    | exact wpAny_bind (wpAny_bind (m := Builtin.Tuple.tupleExact _) (wpAny_newObj_type (wpAny_pure (wpAny_pure ⟨_, rfl, wpAny_pure h⟩)) htake))
    | exact wpAny_bind (wpAny_bind (m := Builtin.Tuple.tupleExact _) (wpAny_newObj_type (wpAny_pure ⟨_, rfl, wpAny_pure h⟩) htake))
end
end HT
namespace L2
open PySem PySem.Spec PyProof.Rows
section
variable {X : Cx}
def tRevT (K : PySem.W.Frag) (te : TE) : TE := fun σ H Q => te σ H fun x H1 => ∃ a xs, x = .ref a ∧ SqT K H1 a xs ∧ ∀ p, H1 p = none → Q (.ref p) (upd H1 p (.tup xs.reverse))
theorem pe_revT {e : Expr} {te : TE} {k : Nat} {p1 p2 p3 pos : Pos} (he : PE X e te) : PE X (.Subscript e (.Slice none none (some (.UnaryOp .USub (.Constant (.int 1) k p1) p2)) p3) pos) (tRevT X.K te) := by
  refine ⟨fun pins s σ H Q I h => ?_⟩
  refine Subscript_ (thn (he.run pins s σ H _ I h) fun v s1 ⟨x, H1, I1, r1, q1⟩ => ?_)
  obtain ⟨a, xs, ex, hx, q⟩ := q1
  subst ex
  cases r1
  have hst : PO X (some (.UnaryOp .USub (.Constant (.int 1) k p1) p2)) (tPart (tUn (rU fun i => .int (-i)) (tC (.int 1)))) := po_some (pe_un un_neg pe_int)
  refine wpAny_Slice (wpAny_pure ?_)
  refine wpAny_pure ?_
  refine thn (hst.run pins s1 σ H1 (fun o H4 => o = some (-1) ∧ H4 = H1) I1 ⟨1, rfl, -1, rfl, rfl, rfl⟩) fun vs s4 ⟨o, H4, I4, ps, eo, e4⟩ => ?_
  subst eo e4
  have I5 : Inv X pins σ H4 { s4 with heap := s4.heap.push { cls := .type "slice", data := .fields #[.none, .none, vs] } } := I4.kept (t' := s4.toks) fun b ob q => Heap.get?_push_of_some _ q
  obtain ⟨its, r, ht, hz⟩ := I5.tuple hx
  have hlen := r.length
  show wpAny (model X.prog X.w) X.A (subscriptTail e (.Slice none none (some (.UnaryOp .USub (.Constant (.int 1) k p1) p2)) p3) (.ref a) (.ref s4.heap.objs.size)) (EP X pins σ Q) X.xe { s4 with heap := s4.heap.push { cls := .type "slice", data := .fields #[.none, .none, vs] } }
  refine tail_any (ops := [.ref a, .ref s4.heap.objs.size]) ht.typeIs (PyProof.Rows.slot_tuple_getitem.lookup) ?_ (by with_unfolding_all rfl)
  refine HT.tt_getItem_tuple_rev ht (Heap.IsSliceOf.new _ .none .none vs) ps ?_ (by rw [List.size_toArray]; omega)
  refine ⟨.ref _, _, I5.laid (t' := s4.toks) (o := .tup xs.reverse) (fun b ob q => Heap.get?_push_of_some _ q) (Nat.le_refl _) ?_, rfl, q _ (I5.hok.fresh (Nat.le_refl _))⟩
  exact ⟨by rw [List.length_reverse]; exact hz, _, r.reverse, IsTup.new _ _⟩
end
section
variable {X : Cx} {K : PySem.W.Frag}
theorem ix_listK (h : X.K = K) : IxR X (rIxL K) := by subst h; exact ix_list
theorem ix_tupK (h : X.K = K) : IxR X (rIxT K) := by subst h; exact ix_tup
theorem call_len_seqK (h : X.K = K) : CallR X (.builtin "len") (fun xs H Q => ∃ p ys, xs = [.ref p] ∧ (SqL K H p ys ∨ SqT K H p ys) ∧ Q (.int ys.length) H) := by subst h; exact call_len_seq
theorem op_in_seqK (h : X.K = K) : OpR X (compareOp .In) (rIn K false) := by subst h; exact op_in_seq
theorem op_notIn_seqK (h : X.K = K) : OpR X (compareOp .NotIn) (rIn K true) := by subst h; exact op_notIn_seq
theorem op_eqDK (h : X.K = K) (hu : X.A.units + 64 < cLine) : OpR X (compareOp .Eq) (rEqD K) := by subst h; exact op_eqD hu
theorem op_neDK (h : X.K = K) (hu : X.A.units + 64 < cLine) : OpR X (compareOp .NotEq) (rNeD K) := by subst h; exact op_neD hu
theorem op_catAK (h : X.K = K) : OpR X (binaryOp .Add) (rCatA K) := by subst h; exact op_catA
theorem sl_listK (h : X.K = K) : SlR X (rSlL K) := by subst h; exact sl_list
theorem sl_tupAK (h : X.K = K) : SlR X (rSlA K) := by subst h; exact sl_tupA
theorem call_tuple_ofK (h : X.K = K) : CallR X (.type "tuple") (fun xs H Q => ∃ p ys, xs = [.ref p] ∧ ((SqL K H p ys ∧ ∀ l, H l = none → Q (.ref l) (upd H l (.tup ys))) ∨ (SqT K H p ys ∧ Q (.ref p) H))) := by subst h; exact call_tuple_of
theorem call_list_ofK (h : X.K = K) : CallR X (.type "list") (fun xs H Q => ∃ p ys, xs = [.ref p] ∧ (SqL K H p ys ∨ SqT K H p ys) ∧ ∀ l, H l = none → Q (.ref l) (upd H l (.lst ys))) := by subst h; exact call_list_of
theorem call_type1K (h : X.K = K) : CallR X (.type "type") (rTyp K) := by subst h; exact call_type1
theorem pe_fldK {e : Expr} {ta : TE} {f : Str} {pos : Pos} (h : X.K = K) (he : PE X e ta) (hb : attributeBase e f X.env (eval e X.env) = eval e X.env) : PE X (.Attribute e f pos) (tFld K ta f) := by subst h; exact pe_fld he hb
theorem mt_tup_indexIK (h : X.K = K) : MtR X "tuple.index" (fun x xs H Q => ∃ p, ∃ ys : List Int, ∃ z j, x = .ref p ∧ xs = [.int z] ∧ SqT K H p (ys.map V.int) ∧ ys[j]? = some z ∧ (∀ m, m < j → ys[m]? ≠ some z) ∧ Q (.int (j : Nat)) H) := by subst h; exact mt_tup_indexI
theorem pe_bmK {T name id : String} {r : V → List V → Hp → VK → Prop} {o e : Expr} {es : List Expr} {to : TE} {t : TA} {apos cpos : Pos} (hk : X.K = K) (pa : PlainAttrs T) (slot : Slot T name id) (hty : typeOf (.builtin id) = pure (.type "method_descriptor")) (hm : MtR X id r) (ho : PE X o to) (ha : PA X (e :: es) t)
    (hbase : attributeBase o name X.env (eval o X.env) = eval o X.env := by rfl)
    (hfew : ((backTo cpos (starEach (e :: es) X.env)).all (fun x => !x.1) && (backToKw cpos (keywordEach [] X.env)).all (fun x => x.1.isSome)
      && decide ((e :: es).length + ([] : List Keyword).length + (if ([] : List Keyword).isEmpty then 0 else 1) < 30)) = true := by rfl)
    (hline : (apos.endLine == cpos.line) = true := by rfl) (hpl : (backTo cpos (starEach es X.env)).any (·.1) = false := by rfl) (hs : starEach (e :: es) X.env = (false, eval e X.env) :: starEach es X.env := by rfl) :
    PE X (.Call (.Attribute o name apos) (e :: es) [] cpos) (tBM K T r to t) := by
  subst hk
  first
    | exact pe_bm pa slot hty hm ho ha hbase hfew hline hpl hs
    | exact pe_bm pa slot hty hm ho ha hbase hfew hline hs hpl
    | exact pe_bm pa slot hty hm ho ha hbase hfew hline
    | exact pe_bm pa slot hty hm ho ha
end
end L2
set_option maxRecDepth 100000
set_option maxHeartbeats 4000000
namespace PySem.W
open PySem PySem.Spec PySem.Calls PyProof.Rows
section
variable {prog : Program} {w : World} {A : Around} {E : Value → Shared → Prop} {s : Shared} {K : Frag} {x D : Addr} {ox : Obj}
theorem tt_findObj_data {C : Addr} {od : Option Obj} {name : Str} {a g : Value} (hc : (clsIn K C).isSome = true) (ha : findIn K (.ref C) name = some (some a)) (hg : specialIn K a "__get__" = some (some g)) (ht : takesIn K a = some true) : findObj K C od name = some (.bind g a) := by
  obtain ⟨cd, hc⟩ := Option.isSome_iff_exists.mp hc
  unfold findObj
  rw [hc, Option.bind_some, ha, Option.bind_some]
  simp [hg, ht]
theorem tt_kin_classE {od : Option Obj} {Q : Option Value → Shared → Prop} (hga : findIn K (.ref D) "__getattribute__" = some (some (.builtin "BaseException.__getattribute__"))) (hgt : findIn K (.ref D) "__getattr__" = some none) (hsub : subIn K (.ref D) (.type "BaseException") = some true)
    (hdct : hasDictIn K D = true) (ha : findIn K (.ref D) "__class__" = some (some (.builtin "object.__class__")))
    (hn : specialIn K (.builtin "object.__class__") "__get__" = some (some (.builtin "getset_descriptor.__get__"))) (htk : takesIn K (.builtin "object.__class__") = some true) (hm : mroIn K D (.type "object") = some true)
    (X : K.In s.heap) (I : InstAt s.heap x ox D od) (h : Q (some (.ref D)) { s with toks := s.toks + 1 }) : wpAny (model prog w) A (getAttr? (.ref x) "__class__") Q E s := by
  have hf : findObj K D od "__class__" = some (.bind (.builtin "getset_descriptor.__get__") (.builtin "object.__class__")) := tt_findObj_data (by obtain ⟨cd, hc, _⟩ := any_some hdct; rw [hc]; rfl) ha hn htk
  obtain ⟨hp, g, d, t, os⟩ := s
  have L0 := I.type (M := model prog w)
  have L1 := looks_findIn (M := model prog w) X hga
  have L2 := looks_findIn (M := model prog w) X hgt
  have L3 := looks_find (M := model prog w) X I hf
  have sub : Looks (model prog w) hp (isInstance (.ref x) (.type "BaseException")) true := L0.andThen (looks_subIn X hsub)
  have hx0 : (false && onTheHeap (Value.builtin "BaseException.__getattribute__")) = false := rfl
  have hx2 : (Value.builtin "BaseException.__getattribute__" == Value.builtin "object.__getattribute__") = false := by decide +kernel
  have hx1 : (onTheHeap (Value.ref D) && Value.builtin "BaseException.__getattribute__" == Value.builtin "object.__getattribute__") = false := by rw [hx2]; rfl
  unfold getAttr? getAttrBy? getAttrBy
  refine wpAny_bind (wpAny_mkText (wpAny_bind (wpAny_attempt (wpAny_holding (wpAny_bind (L0.at (wpAny_bind (L1.at ?_))))))))
  show wpAny _ _ (if (onTheHeap (Value.ref D) && Value.builtin "BaseException.__getattribute__" == Value.builtin "object.__getattribute__") = true then _ else _) _ _ _
  rw [hx1, if_neg Bool.false_ne_true]
  unfold getAttrByItsOwn hookBefore
  refine wpAny_bind ?_
  rw [if_pos (show onTheHeap (Value.ref D) = true from rfl)]
  refine L2.at ?_
  refine wpAny_bind (wpAny_attempt (wpAny_holding ?_))
  unfold callGetattribute
  rw [hx0, if_neg Bool.false_ne_true]
  unfold boundAndCalled
  rw [PySem.F.excAttr_ValueError.ga.bind (.ref x)]
  refine wpAny_bind (wpAny_pure ?_)
  show wpAny _ _ (call (.builtin "BaseException.__getattribute__") [.ref x, .str "__class__" t]) _ _ _
  refine wpAny_call (codeAny_call_builtin PySem.F.excAttr_ValueError.ga.plain PySem.F.entry_bexc_ga ?_)
  refine @check_slot (model prog w) _ _ ⟨hp, g, d, t + 1, os⟩ "BaseException.__getattribute__" "BaseException" "__getattribute__" (.ref x) [.str "__class__" t] [] _ (by decide +kernel) (by decide +kernel) sub (PySem.F.args_bexc_ga (.ref x) (.str "__class__" t)) ?_
  unfold Builtin.«object.__getattribute__»
  refine wpAny_bind (wpAny_of_eq (a := ((Value.ref x : Value), [Value.str "__class__" t])) (by first | rfl | (simp only [slotArgs]; rfl)) ?_)
  refine wpAny_bind (wpAny_pure (wpAny_bind (L0.at (wpAny_bind (L3.at ?_)))))
  show wpAny _ _ (holding [Value.builtin "object.__class__"] (call (.builtin "getset_descriptor.__get__") [.builtin "object.__class__", .ref x, .ref D]) >>= ret) _ _ _
  refine wpAny_bind (wpAny_holding (wpAny_call (class_get (s := ⟨hp, g, d, t + 1, os⟩) (ox := ox) (od := od) X I hm ?_)))
  refine wpAny_pure ?_
  show wpAny _ _ (handedOut (.ref D)) _ _ _
  rw [handedOut_of (v := .ref D) rfl]
  first
    | exact wpAny_pure (wpAny_pure h)
    | exact wpAny_pure h
    | exact wpAny_pure (wpAny_bind (wpAny_pure (wpAny_pure h)))
theorem tt_kitx_exc {od : Option Obj} (hga : findIn K (.ref D) "__getattribute__" = some (some (.builtin "BaseException.__getattribute__"))) (hgt : findIn K (.ref D) "__getattr__" = some none) (hsub : subIn K (.ref D) (.type "BaseException") = some true) (hdct : hasDictIn K D = true) (ha : findIn K (.ref D) "__class__" = some (some (.builtin "object.__class__")))
    (hn : specialIn K (.builtin "object.__class__") "__get__" = some (some (.builtin "getset_descriptor.__get__"))) (htk : takesIn K (.builtin "object.__class__") = some true) (hm : mroIn K D (.type "object") = some true) :
    KitX K (.ref x) (.ref D) (fun h => InstAt h x ox D od) where
  ty := fun _ _ _ I => I.type
  it := fun _ _ X _ => by
    obtain ⟨cdD, hcD, _⟩ := any_some hdct
    unfold clsIn at hcD
    split at hcD
    · rename_i c' d' cd' sl' ho
      intro A' Q' E' s' k q
      unfold isType loadHead
      exact wpAny_bind (wpAny_loadPart (k _ _ (X _ _ ho)) (wpAny_pure q))
    · cases hcD
  ne := fun h tp dd its n sl X htp => by
    obtain ⟨cdD, hcD, _⟩ := any_some hdct
    refine Bool.eq_false_iff.mpr fun q => ?_
    have e : D = tp := Value.ref.inj (beq_iff_eq.mp q)
    subst e
    unfold clsIn at hcD
    split at hcD
    · rename_i c' d' cd' sl' ho
      have z := (X _ _ ho).symm.trans htp
      cases z
    · cases hcD
  ca := fun X I k => tt_kin_classE hga hgt hsub hdct ha hn htk hm X I k
end
end PySem.W
namespace L2
open PySem PySem.Spec PyProof.Rows
def exh (cls : Value) (d : Option Addr) (a : Addr) : HO := .ext fun h => ∃ (oe : Obj) (vs : Array Value), h.get? a = some oe ∧ Zc cls d oe ∧ oe.data = .fields vs
theorem exh_ok {P : Program} {w : World} {H : Hp} {h : Heap} {a : Addr} {cls : Value} {d : Option Addr} {oe : Obj} {vs : Array Value} (e : h.get? a = some oe) (z : Zc cls d oe) (hd : oe.data = .fields vs) : ObjOk P w H h a (exh cls d a) :=
  ⟨⟨oe, vs, e, z, hd⟩, ⟨oe, e⟩, fun _ _ ⟨o, v, q, r⟩ k => ⟨o, v, k o q, r⟩⟩
theorem exh_at {P : Program} {w : World} {H : Hp} {h : Heap} {a : Addr} {cls : Value} {d : Option Addr} (hok : HOk P w H h) (e : H a = some (exh cls d a)) : ∃ (oe : Obj) (vs : Array Value), h.get? a = some oe ∧ Zc cls d oe ∧ oe.data = .fields vs := by
  have x : ObjOk P w H h a (.ext fun h => ∃ (oe : Obj) (vs : Array Value), h.get? a = some oe ∧ Zc cls d oe ∧ oe.data = .fields vs) := hok a _ e
  exact x.1
def XdOk (H : Hp) (d : Option Addr) : Prop := d = none ∨ ∃ (dd : Addr) (fs : List (Str × V)), d = some dd ∧ H dd = some (.xd fs)
section
variable {X : Cx} {pins : List (Addr × Obj)} {σ : St} {H : Hp} {s : Shared}
theorem exh_inst {a D : Addr} {d : Option Addr} (I : Inv X pins σ H s) (e : H a = some (exh (.ref D) d a)) (hd : XdOk H d) : ∃ (oe : Obj) (od : Option Obj), PySem.W.InstAt s.heap a oe D od := by
  obtain ⟨⟨oc, odc, oda, osl⟩, vs, h1, ⟨h2, h3⟩, h4⟩ := exh_at I.hok e
  dsimp only at h2 h3 h4
  subst h2 h3 h4
  rcases hd with rfl | ⟨dd, fs, rfl, ed⟩
  · exact ⟨_, none, ⟨h1, rfl, rfl, trivial⟩⟩
  · have hx : ObjOk X.prog X.w H s.heap dd (.xd fs) := I.hok dd _ ed
    obtain ⟨mA, ⟨o, _, _, ho, _⟩, _⟩ := hx
    exact ⟨_, some o, ⟨h1, rfl, rfl, ho⟩⟩
def rIsH (K : PySem.W.Frag) : List V → Hp → VK → Prop := fun xs H Q => ∃ (a D : Addr) (d : Option Addr) (c : V) (cv : Value) (b : Bool), xs = [.ref a, c] ∧ H a = some (exh (.ref D) d a) ∧ XdOk H d ∧ ExcC K D ∧ ClsV c cv ∧ PySem.W.kitOne K (.ref D) cv = some b ∧ Q (.bl b) H
theorem call_isH : CallR X (.builtin "isinstance") (rIsH X.K) := by
  intro pins s σ H xs us Q I r h
  obtain ⟨a, D, d, c, cv, b, rfl, ea, hd, C, hc, e, q⟩ := h
  cases r with
  | cons rx rr =>
    cases rr with
    | cons rt rr =>
      cases rr
      cases rx
      have ec := hc.eq rt
      subst ec
      obtain ⟨oe, od, J⟩ := exh_inst I ea hd
      exact PySem.W.kia_one (PySem.W.tt_kitx_exc C.hg C.hk C.hs C.hd C.ha C.hn C.ht C.hm) I.kIn J e (fun z => nomatch z) fun tk => ⟨.bl b, H, I.kept (t' := tk) fun _ _ z => z, rfl, q⟩
def rIsA (K : PySem.W.Frag) : List V → Hp → VK → Prop := fun xs H Q => rIsH K xs H Q ∨ rIsi K xs H Q
theorem call_isA : CallR X (.builtin "isinstance") (rIsA X.K) := by
  intro pins s σ H xs us Q I r h
  rcases h with h | h
  · exact call_isH pins s σ H xs us Q I r h
  · exact call_isi pins s σ H xs us Q I r h
def tXfH (K : PySem.W.Frag) (n : Str) (te : TE) : TE := fun σ H Q => te σ H fun x H1 => ∃ (a C dd : Addr) (fs : List (Str × V)) (v : V), x = .ref a ∧ H1 a = some (exh (.ref C) (some dd) a) ∧ H1 dd = some (.xd fs) ∧ XfC K C ∧ PySem.W.findIn K (.ref C) n = some none ∧ fs.lookup n = some v ∧ Q v H1
theorem pe_xfH {e : Expr} {te : TE} {pos : Pos} {n : Str} (he : PE X e te) (hb : attributeBase e n X.env (eval e X.env) = eval e X.env := by rfl) :
    PE X (.Attribute e n pos) (tXfH X.K n te) := by
  refine ⟨fun pins s σ H Q I h => ?_⟩
  refine attr_of hb (thn (he.run pins s σ H _ I h) fun u s1 hh => ?_)
  obtain ⟨x, H1, I1, rx, a, C, dd, fs, v, ex, ea, ed, T, hno, l, q⟩ := hh
  subst ex
  obtain rfl : u = Value.ref a := rx
  obtain ⟨oe, vs, ha, hz, hd⟩ := exh_at I1.hok ea
  have hx : ObjOk X.prog X.w H1 s1.heap dd (.xd fs) := I1.hok dd _ ed
  obtain ⟨mA, hns, hr⟩ := hx
  obtain ⟨od, ho, hl⟩ := lookIn_ns hns
  obtain ⟨u, hu, ru⟩ := RelO.some_of (v := v) (o := mA n) (by rw [← l]; exact hr n)
  have J : PySem.W.InstAt s1.heap a oe C (some od) := ⟨ha, hz.1, by unfold PySem.W.notCls; rw [hd] <;> rfl, by rw [hz.2]; exact ho⟩
  exact HandSPX.exc_get I1.kIn J T.ga T.gg T.exC (PySem.W.findObj_own T.hdC hno rfl (by rw [hl, hu])) (handed_of ru) ⟨v, H1, I1.tok _, ru, q⟩
theorem Inv.adopt {a : Addr} {o : Obj} {φ : Heap → Prop} (I : Inv X pins σ H s) (he : s.heap.get? a = some o) (na : H a = none) (n0 : X.s_0.heap.get? a = none) (nL : a ≠ X.env.locals) (np : ∀ p ∈ X.pn ++ pins, p.1 ≠ a)
    (nc : ∀ x c, X.env.cells.lookup x = some c → c ≠ a) (ok : ObjOk X.prog X.w (upd H a (.ext φ)) s.heap a (.ext φ)) : Inv X pins σ (upd H a (.ext φ)) s := by
  refine ⟨I.ok, I.os, I.bare, ⟨I.base.keep, I.base.slot, fun b u q n hx => ?_, I.base.there, fun b xs q => ?_, fun b u v q => ?_, fun b ps q => ?_⟩, I.loc, I.cell, ?_, fun x c e => ?_, fun p hp => ?_, fun b u e => ?_, I.len⟩
  · rw [upd_ne (fun z => by rw [z, n0] at q; cases q)]
    exact I.base.free b u q n hx
  · have z := I.base.tups b xs q
    rw [upd_ne (ne_of_none z na)]
    exact z
  · have z := I.base.frzs b u v q
    rw [upd_ne (ne_of_none z na)]
    exact z
  · obtain ⟨m, z⟩ := I.base.tbls b ps q
    exact ⟨m, by rw [upd_ne (ne_of_none z na)]; exact z⟩
  · rw [upd_ne nL.symm]
    exact I.free
  · rw [upd_ne (nc x c e)]
    exact I.freeC x c e
  · obtain ⟨e1, e2, e3⟩ := I.pin p hp
    exact ⟨e1, by rw [upd_ne (np p hp)]; exact e2, e3⟩
  · by_cases hb : b = a
    · subst hb
      rw [upd_same] at e
      cases e
      exact ok
    · rw [upd_ne hb] at e
      exact (I.hok b u e).stay (fun c v _ q => q) (fun c q => by rw [upd_ne (ne_of_none q na)]; exact q) fun c xs q => by rw [upd_ne (ne_of_none q na)]; exact q
end
end L2
set_option maxRecDepth 100000
set_option maxHeartbeats 4000000
namespace L2
open PySem PySem.Spec PyProof.Rows
def wKeep (K : PySem.W.Frag) (c : Value) (i : Nat) (ts : Addr → Value → Option Addr → TS) (Wout : WX) (D : Ends) : WX := fun cls d σ H =>
  ∃ b, PySem.W.exmOne K cls c = some b ∧ (b = true → ∀ a, H a = none → ts a cls d { nx := fun σ' H' => H' a = none ∧ D.nx (σ'.set i none) (upd H' a (exh cls d a)), rt := fun _ _ => False, bk := fun _ _ => False, ct := fun _ _ => False } (σ.set i (some (.ref a))) H) ∧
    (b = false → Wout cls d σ H)
section
variable {X : Cx} {x n : Str} {c : Value} {i : Nat} {body suite : List Stmt} {b₀ : Stmt} {np pos pos' : Pos} {tb : WX → TS} {ts : Addr → Value → Option Addr → TS} {Wout : WX}
theorem ps_try_keep (hs : X.stack = X.env :: X.outer) (hf : X.env.frame = some X.env.locals) (hex : X.ex = []) (hN : X.N.Nodup) (hi : X.N[i]? = some n) (hln : X.env.kindOf n = some .local) (hc : Names X x c) (tk : Takes X Wout)
    (hb : ∀ (W : WX) (pn : List (Addr × Obj)) (xe : Value → Shared → Prop), Takes (X.tr pn xe) W → PassesOwn (model X.prog X.w) X.A X.env xe → PSs (X.tr pn xe) body (tb W))
    (hsu : ∀ (a : Addr) (oe : Obj) (cls : Value) (d : Option Addr) (pn : List (Addr × Obj)), Zc cls d oe → (∃ vs, oe.data = .fields vs) → PSs (X.suite a ((a, oe) :: pn)) (b₀ :: suite) (ts a cls d)) :
    PS X (.Try body [.ExceptHandler (some (.Name x np)) (some n) (b₀ :: suite) pos'] [] [] pos) (fun D σ H => tb (wKeep X.K c i ts Wout D) D σ H) := by
  refine ⟨fun pins s σ H D I h => ?_⟩
  have ok := I.ok
  have hfr : X.A.frames = some (X.env :: X.outer) := by rw [ok.frames, hs]
  have hloc : Loc X.env.scope n := .inl hln
  refine wpAny_Try_except ?_
  refine wpAny_mono ((hb (wKeep X.K c i ts Wout D) (X.pn ++ pins) (fun e s₁ => wpAny (model X.prog X.w) X.A (noteFrame e X.env) (fun _ s₂ => wpAny (model X.prog X.w) X.A (setFlight e none) (fun _ s₃ =>
    wpAny (model X.prog X.w) X.A (handleBy e X.env [.ExceptHandler (some (.Name x np)) (some n) (b₀ :: suite) pos']) (SP X pins D) X.xe s₃) X.xe s₂) X.xe s₁) (fun u s' xx => ?_) PassesOwn.looking).run [] s σ H D (I.toTry _) h) (fun f s1 hsp => ?_) (fun e s1 he => he)
  ·
    obtain ⟨a, B, sI, pins', σ', H', cls, d, rfl, J', nb, up, sky, na, os, ag, b, hb1, hyes, hno⟩ := xx
    have J : Inv X pins σ' H' sI := J'.ofTry ok
    have sky' : Sky B (X.env :: X.outer) a (Zc cls d) X.env.locals s'.heap := by rw [← hs]; exact sky
    show wpAny (model X.prog X.w) X.A (noteFrame (.ref a) X.env) _ _ _
    refine Sky.land Zc.steady hfr hf sky' fun h3 fl3 up3 => ?_
    have J3 : Inv X pins σ' H' { s' with heap := h3 } := J.landed nb fl3.1 (up.trans up3) os ag
    obtain ⟨oe3, vs3, he3, hz3, hd3⟩ := fl3.there
    have notFr : ∀ {h : Heap} {o : Obj} {vs : Array Value}, h.FunFrames B (X.env :: X.outer) → h.get? a = some o → o.data = .fields vs → a ∉ frs (X.env :: X.outer) := fun {h o vs} ff e dd hm => by
      obtain ⟨_, o', e', hnf⟩ := ff.mem hm
      rw [e] at e'; cases e'
      exact hnf _ dd
    have nfr := notFr fl3.2.2.1 he3 hd3
    have nL : a ≠ X.env.locals := fun z => nfr (List.mem_filterMap.mpr ⟨X.env, List.mem_cons_self, by rw [hf, z]⟩)
    have nF : a ∉ X.fs := fun hm => by
      obtain ⟨e, he, q⟩ := List.mem_filterMap.mp hm
      exact nfr (List.mem_filterMap.mpr ⟨e, List.mem_cons_of_mem _ he, q⟩)
    have nB : B.get? a = none := fl3.2.1
    have nfr' : a ∉ frs X.stack := by rw [hs]; exact nfr
    have nI : sI.heap.get? a = none := by
      cases q : sI.heap.get? a with
      | none => rfl
      | some o =>
        have z := nb a o q nfr'
        rw [nB] at z
        cases z
    have n0 : X.s_0.heap.get? a = none := by
      cases q : X.s_0.heap.get? a with
      | none => rfl
      | some o =>
        obtain ⟨o', q'⟩ := J.base.there a o q (by rw [hex]; exact fun z => nomatch z)
        rw [nI] at q'
        cases q'
    have npin : ∀ p ∈ X.pn ++ pins, p.1 ≠ a := fun p hp z => by
      obtain ⟨e, _⟩ := J.pin p hp
      rw [z, nI] at e
      cases e
    have S3 := J3.suite he3 hd3 na nL nF
    refine wpAny_handleBy_cons (codeAny_handlers_test ?_) (by intro q; cases q)
    have LT : PySem.W.Looks (model X.prog X.w) h3 (typeOf (.ref a)) cls := fun A Q E s k q => wpAny_typeOf_ref (k _ _ he3) (by rw [hz3.1]; exact q)
    have LM := PySem.W.exm_one (M := model X.prog X.w) (J3.kIn) LT hb1
    have test : ∀ {Q : Value → Shared → Prop} {E : Value → Shared → Prop}, Q c { s' with heap := h3 } → wpAny (model X.prog X.w) (X.A.mark (some (.ref a))) (eval (.Name x np) X.env) Q E { s' with heap := h3 } := fun {Q E} q => by
      obtain ⟨hg, hdbg, hm | ⟨hm, hv, hnn⟩⟩ := hc
      · exact ld_glob (X := X.suite a ((a, oe3) :: (X.pn ++ pins))) S3 hg hm q hdbg
      · exact ld_blt (X := X.suite a ((a, oe3) :: (X.pn ++ pins))) S3 hg hm hv q hnn hdbg
    refine test (LM.here ?_)
    cases b with
    | true =>
      refine codeAny_handlers_suite_as ?_
      refine HandSPX.lands_againZ fl3 fun h4 fl4 up4 => ?_
      have J4 : Inv X pins σ' H' { s' with heap := h4 } := J.landed nb fl4.1 ((up.trans up3).trans up4) os ag
      obtain ⟨oe4, vs4, he4, hz4, hd4⟩ := fl4.there
      have S4 := J4.suite he4 hd4 na nL nF
      refine store_ok (X := X.suite a ((a, oe4) :: (X.pn ++ pins))) (v := .ref a) S4 hN hi hloc rfl (fun s5 S5 => ?_) (.inr hln)
      refine wpAny_mono ((hsu a oe4 cls d (X.pn ++ pins) hz4 ⟨_, hd4⟩).run [] s5 _ H' _ S5 (hyes rfl a na)) (fun f s6 hsp => ?_) (fun _ _ z => False.elim z)
      cases f with
      | next =>
        obtain ⟨σ6, H6, S6, n6, q6⟩ := hsp
        obtain ⟨he6, _⟩ := S6.pin (a, oe4) (List.mem_append.mpr (.inl List.mem_cons_self))
        have J6 : Inv X pins σ6 H6 s6 := S6.unsuite ok
        have nc : ∀ y c, X.env.cells.lookup y = some c → c ≠ a := fun y c e z => by
          obtain ⟨v, o, ho, hv⟩ := J6.cell y c e
          rw [z, he6] at ho
          cases ho
          rw [hd4] at hv
          cases hv
        have J7 : Inv X pins σ6 (upd H6 a (exh cls d a)) s6 := J6.adopt he6 n6 n0 nL npin nc (exh_ok he6 hz4 hd4)
        exact gone_ok J7 hN hi hln fun s7 J8 => ⟨_, _, J8, q6⟩
      | brk =>
        obtain ⟨σ6, H6, S6, q6⟩ := hsp
        exact False.elim q6
      | cont =>
        obtain ⟨σ6, H6, S6, q6⟩ := hsp
        exact False.elim q6
      | ret u =>
        obtain ⟨v6, σ6, H6, S6, r6, q6⟩ := hsp
        exact False.elim q6
    | false =>
      show wpAny _ X.A (handleBy (.ref a) X.env []) _ _ _
      refine wpAny_handleBy_nil ?_
      obtain ⟨k1, k2, k3, oe, vs, T, oT, ts', he, hz, hd, h1, hr⟩ := id fl3
      unfold PySem.passOn
      refine wpAny_bind (wpAny_field he hd h1 ?_)
      rw [if_neg (show ¬ ((Value.ref T == Value.none) = true) from by simp)]
      have fin : wpAny (model X.prog X.w) X.A (setFlight (.ref a) X.env.frame) (fun _ s4 => wpAny (model X.prog X.w) X.A (throw (.ref a) : Sem Flow) (SP X pins D) X.xe s4) X.xe { s' with heap := h3 } := by
        rw [hf]
        refine HandSPX.setFlight_upZ fl3 fun h4 hh4 up4 => wpAny_throw (tk _ _ ?_)
        exact ⟨a, B, sI, pins, σ', H', cls, d, rfl, J, nb, (up.trans up3).trans up4, .inr (.inr (by rw [hs]; exact hh4)), na, os, ag, hno rfl⟩
      first
        | exact wpAny_bind (wpAny_pure (wpAny_bind fin))
        | exact wpAny_bind fin
  · cases f with
    | next =>
      obtain ⟨σ', H', J', q⟩ := hsp
      exact wpAny_execs_nil ⟨σ', H', J'.ofTry ok, q⟩
    | brk =>
      obtain ⟨σ', H', J', q⟩ := hsp
      exact ⟨σ', H', J'.ofTry ok, q⟩
    | cont =>
      obtain ⟨σ', H', J', q⟩ := hsp
      exact ⟨σ', H', J'.ofTry ok, q⟩
    | ret u =>
      obtain ⟨v, σ', H', J', r, q⟩ := hsp
      exact ⟨v, σ', H', J'.ofTry ok, r, q⟩
end
end L2
set_option maxRecDepth 100000
set_option maxHeartbeats 4000000
namespace LamX
open PySem PySem.Spec PyProof.Rows L2
section
variable {X : Cx} {pins : List (Addr × Obj)} {σ : L2.St} {H : Hp} {s : Shared}
theorem tt_act {CXg : CXT} {Eg : XK} {names : List Str} {qg : Str} {sg : Scope} {g fl co : Addr} {cdg pm ctv : Value} {ps : Arguments} {bd : Expr} {lsc : Scope} {k i : Nat} {a : Str} {pn : List (Addr × Obj)} {xe : Value → Shared → Prop} {W : WX} {Ew : L2.St → XK} {rd : XK → TE} {p1 p2 : Pos}
    (I : Inv X pins σ H s) (L : LamS X.env.scope lsc) (h1 : s.heap.get? fl = some (PySem.W.kla_obj "<lambda>" (X.env.qual ++ "<lambda>") ps bd lsc (cloFrom X.env.cells lsc.names []) pm co ctv)) (h2 : H fl = none) (h3 : fl ∉ frs X.stack)
    (noArgs : bindArgs (PySem.W.kla_fn "<lambda>" (X.env.qual ++ "<lambda>") ps bd lsc (cloFrom X.env.cells lsc.names []) pm (.ref co) ctv) ⟨[], []⟩ = pure [])
    (tk : Takes ((cxOf CXg X.prog X.w X.K X.mg X.base names qg sg g cdg X.A X.stack s H Eg).tr pn xe) W) (wish : ∀ τ cls d H', Ew τ cls d H' → W cls d τ H') (room : Room (k + 1) (X.A.deeper (envOfC qg sg s.heap.objs.size g cdg)))
    (body : ∀ (E : XK) (A : Around) (outer : List Env) (s : Shared) (H : Hp), Room k (A.deeper (lamEnv X lsc s.heap.objs.size fl co)) → PE (lamCx X A outer s H E lsc fl co) bd (rd E))
    (at_ : names[i]? = some a) (vis : Vis sg a) (n1 : (a == ("__debug__" : Str)) = false) (n2 : (a == ("__classdict__" : Str)) = false) :
    PE ((cxOf CXg X.prog X.w X.K X.mg X.base names qg sg g cdg X.A X.stack s H Eg).tr pn xe) (.Call (.Name a p1) [] [] p2)
      (fun τ G Q => τ[i]? = some (some (.ref fl)) ∧ G co = some (CodeO co (X.env.qual ++ "<lambda>")) ∧ rd (Ew τ) σ G Q) := by
  refine ⟨fun pz sz τ G Q J hyp => ?_⟩
  obtain ⟨slot, code, want⟩ := hyp
  have load := (pe_var (pos := p1) (i := i) at_ vis n1 n2).run pz sz τ G (fun v G' => v = .ref fl ∧ G' = G) J ⟨.ref fl, slot, rfl, rfl⟩
  refine wpAny_Call_Name_kw (thn load fun u s1 ⟨v, G', J1, ru, ev, eG⟩ => ?_)
  subst ev eG
  obtain rfl : u = Value.ref fl := ru
  have here : s1.heap.get? fl = some (PySem.W.kla_obj "<lambda>" (X.env.qual ++ "<lambda>") ps bd lsc (cloFrom X.env.cells lsc.names []) pm co ctv) := J1.base.keep fl _ h1 h2 h3 (fun z => nomatch (show fl ∈ ([] : List Addr) from z))
  refine PySem.W.callWith_F0 ⟨_, _, _, _, here⟩ ?_
  have since : Un (frs X.stack) [] H G' s.heap s1.heap := J1.base
  obtain ⟨⟨oc, fields, tok, ho, hf, hq⟩, _, _⟩ := J1.hok co _ code
  have run : codeAny (model X.prog X.w) (X.A.deeper (envOfC qg sg s.heap.objs.size g cdg)) (.call (.ref fl) ⟨[], []⟩) (CR (L2.CX X.prog X.w) (envOfC qg sg s.heap.objs.size g cdg :: X.stack) X.prog X.w G' s1 Q (Ew τ)) s1 := by
    refine PySem.W.kla_callFunE room.depth here rfl L.co L.gen rfl ⟨co, oc, fields, tok, rfl, ho, hf, hq⟩ ?_
    rw [noArgs]
    refine wpAny_pure (wpAny_newFunctionEnv (fun y hy => (L.own y hy).2) (fun y hy => absurd hy (by simp)) (fun h' ns but => ⟨J1.nolimit.fresh _ but, ?_⟩) L.kind)
    have stays : ∀ b o, s1.heap.get? b = some o → h'.get? b = some o := fun b o e => but.extBut b o (Nat.ne_of_lt (Heap.lt_size e)) (Heap.get?_push_of_some _ e)
    have start : Inv (lamCx X (X.A.deeper (envOfC qg sg s.heap.objs.size g cdg)) (envOfC qg sg s.heap.objs.size g cdg :: X.stack) s1 G' (Ew τ) lsc fl co) [] σ G' { s1 with heap := h', toks := s1.toks + ([] : List (Str × Value)).length } :=
      lam_start2 I L J1.env0 room.hd since ns stays
    show codeAny _ _ (.expr bd (lamEnv X lsc s1.heap.objs.size fl co)) _ _
    refine PySem.W.kla_codeExpr (wpAny_mono ((body (Ew τ) _ _ s1 G' (room.deeper _)).run [] _ _ G' Q start want) (fun v s' ⟨x, G2, J2, rx, q⟩ => ?_) fun e s' q => q)
    exact ⟨x, G2, J2.os, J2.bare, J2.base, J2.hok, rx, q⟩
  refine wpAny_call (codeAny_mono run fun r s' q => ?_)
  match r with
  | .error e => exact tk e s' (XE.of_call J1 (fun cls d G2 z => wish τ cls d G2 z) q)
  | .ok (.ret u) => exact J1.after q
  | .ok .next => exact False.elim q
  | .ok .brk => exact False.elim q
  | .ok .cont => exact False.elim q
end
def GivesToS (X : Cx) (names : List Str) (x : Str) (sg : Scope) (g : Addr) (cdg : Value) (bg : List Stmt) (a : Str) (q : Str) (TT : (XK → Hp → VK → Prop) → Hp → VK → Prop) : Prop :=
  ∀ (fl co : Addr) (s : Shared) (H : Hp) (Q : VK) (tl : XK → Hp → VK → Prop),
    (∀ (W : WX) (pn : List (Addr × Obj)) (xe : Value → Shared → Prop) (Ew : L2.St → XK) (p1 p2 : Pos), Takes ((cxOf C8.CX0 X.prog X.w X.K X.mg X.base names x sg g cdg X.A X.stack s H C8.E0).tr pn xe) W → (∀ τ cls d H', Ew τ cls d H' → W cls d τ H') →
      PE ((cxOf C8.CX0 X.prog X.w X.K X.mg X.base names x sg g cdg X.A X.stack s H C8.E0).tr pn xe) (.Call (.Name a p1) [] [] p2) (fun τ G Q => τ[0]? = some (some (.ref fl)) ∧ G co = some (CodeO co q) ∧ tl (Ew τ) G Q)) →
    H co = some (CodeO co q) → TT tl H Q →
    ∃ t, PSs (cxOf C8.CX0 X.prog X.w X.K X.mg X.base names x sg g cdg X.A X.stack s H C8.E0).nox bg t ∧ t { nx := fun _ H' => Q .non H', rt := Q } (L2.start names [.ref fl]) H
section
variable {X : Cx}
theorem tt_lamcall {T : List (Addr × Str)} {TT : (XK → Hp → VK → Prop) → Hp → VK → Prop} {x a : Str} {g c P : Addr} {k : Nat} {pg : Arguments} {bg : List Stmt} {sg : Scope} {dV kV doc pm cdv ct oc : Value} {an od : Option Addr} {osl : Array (Option Value)} {names : List Str}
    {ps : Arguments} {bd : Expr} {lsc : Scope} {t : XK → TE} {p lpos pos : Pos} (hg : Gl X x) (hm : X.mg x = some (.ref g)) (hk : PySem.W.keepIn X.K (.ref g) = true)
    (lk : X.K.lookup g = some ⟨oc, od, .func (PySem.W.fnOf x x pg bg sg dV kV doc pm an cdv ct), osl⟩) (hcg : PySem.W.codeIn X.K cdv x = true) (hb : L2.Binds X.K (PySem.W.fnOf x x pg bg sg dV kV doc pm an cdv ct) [a] []) (Sg : FnScope names [a] sg) (at_ : names[0]? = some a) (vis : Vis sg a)
    (hG : GivesToS X names x sg g cdv bg a (X.env.qual ++ "<lambda>") TT)
    (TB : TabB X.base X.mg c P) (hcode : X.env.code = .ref c) (hmT : (P, X.env.qual ++ "<lambda>") ∈ T) (hu : ∀ p ∈ T, p.1 = P → p.2 = X.env.qual ++ "<lambda>") (hr : Room (k + 2) X.A) (L : LamS X.env.scope lsc) (hdef : defaultsOf ps X.env = ([], []))
    (noArgs : ∀ (q : Str) (cl : List (Str × Addr)) (pm cv ctv : Value), bindArgs (PySem.W.kla_fn "<lambda>" q ps bd lsc cl pm cv ctv) ⟨[], []⟩ = pure [])
    (body : ∀ (A : Around) (outer : List Env) (s : Shared) (H : Hp) (E : XK) (fl co : Addr), Room k (A.deeper (lamEnv X lsc s.heap.objs.size fl co)) → PE (lamCx X A outer s H E lsc fl co) bd (t E))
    (n0 : (x == ("__debug__" : Str)) = false := by decide) (n1 : (a == ("__debug__" : Str)) = false := by decide) (n2 : (a == ("__classdict__" : Str)) = false := by decide) :
    PE X (.Call (.Name x p) [.Lambda ps bd lsc lpos] [] pos) (tLam T TT t) := by
  refine ⟨fun pins s σ H Q I hyp => ?_⟩
  obtain ⟨tabs, want⟩ := hyp
  refine wpAny_Call_Name_kw (ld_glob I hg hm ?_ n0)
  refine PySem.W.callWith_K (h₀ := X.base) I.ok.mod.kin hk ?_ (by rfl) (by rfl)
  show wpAny _ _ (spliced ((false, eval (.Lambda ps bd lsc lpos) X.env) :: backTo pos (starEach [] X.env))) _ _ s
  refine Calls.spliced_cons (lam_make2 I TB hcode hmT hu tabs hdef (L.has I.ok) fun fl co pm' ctv G s' J eN tabs' f1 f2 f3 fc => ?_)
  refine Calls.spliced_nil ⟨J.kIn, ?_⟩
  have run : codeAny (model X.prog X.w) X.A (.call (.ref g) ⟨[.ref fl], []⟩) (CR C8.CX0 X.stack X.prog X.w G s' Q C8.E0) s' := by
    refine run_ofS (N := names) (ps := [a]) (us := [.ref fl]) (vs := [.ref fl]) lk hcg Sg hr J.env0 (hb s' [.ref fl] J.kIn rfl) (.cons rfl .nil) rfl fun hr' => ?_
    obtain ⟨t', ht', hq'⟩ := hG fl co s' G Q (fun E G' Q' => t E σ G' Q') (fun W pn xe Ew p1 p2 tk wish => tt_act (i := 0) J L f1 f2 f3 (noArgs _ _ _ _ _) tk wish hr' (fun E A outer s H room => body A outer s H E fl co room) at_ vis n1 n2) fc (want G eN tabs')
    exact ⟨t', ht'.nox, hq'⟩
  refine wpAny_call (codeAny_mono run fun r s2 q => ?_)
  match r with
  | .error e => exact (show False from q).elim
  | .ok (.ret u) => exact J.after q
  | .ok .next => exact False.elim q
  | .ok .brk => exact False.elim q
  | .ok .cont => exact False.elim q
end
end LamX
set_option maxRecDepth 100000
set_option maxHeartbeats 4000000
namespace L2
open PySem PySem.Spec PyProof.Rows HT
section
variable {X : Cx} {K : PySem.W.Frag}
def FzT (H : Hp) (a : Addr) (xs : List V) : Prop := ∃ ob : Obj, H a = some (.frz ob (.tup xs)) ∧ ob.dict = none
theorem FzT.sq {H : Hp} {a : Addr} {xs : List V} (h : FzT H a xs) : SqT K H a xs := by
  obtain ⟨ob, h, _⟩ := h
  exact .inl (.inr ⟨ob, h⟩)
theorem FzT.new {H : Hp} {p : Addr} {ob : Obj} {xs : List V} (h : ob.dict = none) : FzT (upd H p (.frz ob (.tup xs))) p xs := ⟨ob, upd_same, h⟩
def NwT (H : Hp) (xs : List V) (Q : VK) : Prop := ∀ (p : Addr) (ob : Obj), H p = none → ob.dict = none → Q (.ref p) (upd H p (.frz ob (.tup xs)))
def rTupF (K : PySem.W.Frag) : List V → Hp → VK → Prop := fun xs H Q => ∃ p ys, xs = [.ref p] ∧ ((SqL K H p ys ∧ NwT H ys Q) ∨ (SqT K H p ys ∧ Q (.ref p) H))
theorem call_tuple_ofF : CallR X (.type "tuple") (rTupF X.K) := by
  intro pins s σ H xs us Q I r h
  obtain ⟨p, ys, rfl, h⟩ := h
  obtain ⟨u, rfl, rx⟩ := vals1 r
  cases rx
  rcases h with ⟨hq, q⟩ | ⟨hq, q⟩
  · obtain ⟨its, rv, pl, hz⟩ := I.list hq
    have hn := rv.length
    refine call_tuple_list pl.isList (fun h' kp => ?_) (by simp only [List.size_toArray] <;> omega)
    have J : Inv X pins σ H { s with heap := h' } := I.kept (t' := s.toks) kp
    have J2 : Inv X pins σ (upd H h'.objs.size (.frz { cls := .type "tuple", data := .seq its.toArray } (.tup ys))) { s with heap := h'.push { cls := .type "tuple", data := .seq its.toArray } } :=
      J.laid (t' := s.toks) (fun b o e => Heap.get?_push_of_some _ e) (Nat.le_refl _) ⟨Heap.get?_push_size _ rfl, hz, its, rv, IsTup.new _ _⟩
    exact ⟨.ref h'.objs.size, _, J2, rfl, q _ _ (J.hok.fresh (Nat.le_refl _)) rfl⟩
  · obtain ⟨its, rv, pl, hz⟩ := I.tuple hq
    exact call_tuple_same pl ⟨.ref p, H, I, rfl, q⟩
def rCatF (K : PySem.W.Frag) : R2 := fun x y H Q => ∃ a b xs ys, x = .ref a ∧ y = .ref b ∧ SqT K H a xs ∧ SqT K H b ys ∧ xs ≠ [] ∧ xs.length + ys.length ≤ sizeLine ∧
  (ys = [] → Q (.ref a) H) ∧ (ys ≠ [] → NwT H (xs ++ ys) Q)
theorem op_catF : OpR X (binaryOp .Add) (rCatF X.K) := by
  intro pins s σ H x y v u Q I rx ry h
  obtain ⟨a, b, xs, ys, rfl, rfl, ha, hb, hx, hz, q1, q2⟩ := h
  cases rx
  cases ry
  obtain ⟨its, r1, p1, _⟩ := I.tuple ha
  obtain ⟨its2, r2, p2, _⟩ := I.tuple hb
  refine HT.cat_tup p1 p2 (fun z => hx (r1.nil_iff.mp z)) (fun z => ⟨.ref a, H, I, rfl, q1 (r2.nil_iff.mp z)⟩) (fun z => ?_) (by rw [← r1.length, ← r2.length]; exact hz)
  refine ⟨.ref s.heap.objs.size, _, I.laid (t' := s.toks) (fun b ob q => Heap.get?_push_of_some _ q) (Nat.le_refl _) ?_, rfl, q2 (fun w => z (r2.nil_iff.mpr w)) _ { cls := .type "tuple", data := .seq (its ++ its2).toArray } (I.hok.fresh (Nat.le_refl _)) rfl⟩
  exact ⟨Heap.get?_push_size _ rfl, by rw [List.length_append]; exact hz, _, r1.append r2, IsTup.new _ _⟩
def tyF (K : PySem.W.Frag) (T : String) (x : V) (H : Hp) : Prop := tyV K T x H ∨ (T = "tuple" ∧ ∃ p xs, x = .ref p ∧ FzT H p xs)
theorem tyF_is {pins : List (Addr × Obj)} {σ : St} {H : Hp} {s : Shared} {T : String} {x : V} {v : Value} (I : Inv X pins σ H s) (r : RelV x v) (ty : tyF X.K T x H) :
    s.TypeIs v T ∧ ∀ a, v = .ref a → ∃ ob, s.heap.get? a = some ob ∧ ob.dict = none := by
  rcases ty with ty | ⟨rfl, p, xs, rfl, ob, h, hd⟩
  · exact tyV_is I r ty
  · cases r
    obtain ⟨e, _, its, _, o, e2, hc, _⟩ := (show ObjOk X.prog X.w H s.heap p (.frz ob (.tup xs)) from I.hok p _ h)
    rw [e] at e2
    cases e2
    refine ⟨⟨ob, e, hc⟩, fun a z => ?_⟩
    cases z
    exact ⟨ob, e, hd⟩
def tBMF (K : PySem.W.Frag) (T : String) (r : V → List V → Hp → VK → Prop) (to : TE) (t : TA) : TE := fun σ H Q => to σ H fun x H1 => tyF K T x H1 ∧ t σ H1 fun xs H2 => r x xs H2 Q
variable {o e : Expr} {es : List Expr} {to : TE} {t : TA} {name : Str} {apos cpos : Pos} {T id : String} {r : V → List V → Hp → VK → Prop}
theorem pe_bmF (pa : PlainAttrs T) (slot : Slot T name id) (hty : typeOf (.builtin id) = pure (.type "method_descriptor")) (hm : MtR X id r) (ho : PE X o to) (ha : PA X (e :: es) t)
    (hbase : attributeBase o name X.env (eval o X.env) = eval o X.env := by rfl)
    (hfew : ((backTo cpos (starEach (e :: es) X.env)).all (fun x => !x.1) && (backToKw cpos (keywordEach [] X.env)).all (fun x => x.1.isSome)
      && decide ((e :: es).length + ([] : List Keyword).length + (if ([] : List Keyword).isEmpty then 0 else 1) < 30)) = true := by rfl)
    (hline : (apos.endLine == cpos.line) = true := by rfl) (hs : starEach (e :: es) X.env = (false, eval e X.env) :: starEach es X.env := by rfl) (hplain : (backTo cpos (starEach es X.env)).any (·.1) = false := by rfl) :
    PE X (.Call (.Attribute o name apos) (e :: es) [] cpos) (tBMF X.K T r to t) := by
  refine ⟨fun pins s σ H Q I h => ?_⟩
  refine wpAny_Call_method_late hbase hfew hline rfl (thn (ho.run pins s σ H _ I h) fun v s1 ⟨x, H1, I1, r1, ty, q1⟩ => ?_)
  obtain ⟨h1, h2⟩ := tyF_is I1 r1 ty
  refine ⟨T, id, pa, slot, hty, h1, h2, ?_⟩
  have hA := ha.run cpos pins s1 σ H1 _ I1 q1
  rw [hs] at hA ⊢
  refine Calls.callWith_builtin (by show (false || (backTo cpos (starEach es X.env)).any (·.1)) = false; rw [hplain] <;> rfl) (Calls.evalArgs_plain ?_)
  exact thn hA fun us s2 ⟨vs, H2, I2, r2, q2⟩ => hm pins s2 σ H2 x vs v us Q I2 r1 r2 q2
theorem pe_bmFK (hk : X.K = K) (pa : PlainAttrs T) (slot : Slot T name id) (hty : typeOf (.builtin id) = pure (.type "method_descriptor")) (hm : MtR X id r) (ho : PE X o to) (ha : PA X (e :: es) t)
    (hbase : attributeBase o name X.env (eval o X.env) = eval o X.env := by rfl)
    (hfew : ((backTo cpos (starEach (e :: es) X.env)).all (fun x => !x.1) && (backToKw cpos (keywordEach [] X.env)).all (fun x => x.1.isSome)
      && decide ((e :: es).length + ([] : List Keyword).length + (if ([] : List Keyword).isEmpty then 0 else 1) < 30)) = true := by rfl)
    (hline : (apos.endLine == cpos.line) = true := by rfl) (hs : starEach (e :: es) X.env = (false, eval e X.env) :: starEach es X.env := by rfl) (hplain : (backTo cpos (starEach es X.env)).any (·.1) = false := by rfl) :
    PE X (.Call (.Attribute o name apos) (e :: es) [] cpos) (tBMF K T r to t) := by
  subst hk
  exact pe_bmF pa slot hty hm ho ha hbase hfew hline hs hplain
end
end L2
set_option maxRecDepth 100000
set_option maxHeartbeats 4000000
namespace L2
open PySem PySem.Spec PyProof.Rows
def Swaps (fd : FuncData) (a b : Str) : Prop := ∀ (s : Shared) (v u : Value), BindsTo s fd ⟨[], [(b, v), (a, u)]⟩ [(a, u), (b, v)]
theorem Fun.swaps {K : PySem.W.Frag} {x qual : Str} {st : Stmt} {f : Addr} {fd : FuncData} {a b : Str} (F : Fun K x qual st f fd)
    (h : ∀ (kV doc pm : Value) (an : Option Addr) (cdv ct v u : Value), bindArgs (PySem.W.fnOf x qual (defArgs st) (defBody st) (defScope st) .none kV doc pm an cdv ct) ⟨[], [(b, v), (a, u)]⟩ = pure [(a, u), (b, v)]) : Swaps fd a b := by
  obtain ⟨oc, od, kV, doc, pm, an, cdv, ct, osl, rfl, lk, hcd⟩ := F.ex
  exact fun s v u => BindsTo.of_eq (h kV doc pm an cdv ct v u)
def tSw (sp : Sp) (E : XK) (t1 t2 : TE) : TE := fun σ H Q => tCons t1 (tCons t2 tNil) σ H fun zs H2 => sp zs.reverse H2 Q E
section
variable {X : Cx} {CX : CXT} {k : Nat} {f : Addr} {fd : FuncData} {a b : Str} {sp : Sp} {E : XK} {x : Str} {p p1 p2 pos : Pos} {e1 e2 : Expr} {t1 t2 : TE}
theorem run_sw {pins : List (Addr × Obj)} {σ : St} {H : Hp} {s : Shared} {Q : VK} {v u : V} {v' u' : Value} (F : FnOk X.prog X.w X.K X.mg X.base CX k f fd [a, b] sp) (hr : Room k X.A) (hb : Swaps fd a b) (hx : Passes CX X E)
    (I : Inv X pins σ H s) (r1 : RelV v v') (r2 : RelV u u') (h : sp [u, v] H Q E) : wpAny (model X.prog X.w) X.A (call (.ref f) [] [(b, v'), (a, u')]) (EP X pins σ Q) X.xe s := by
  refine wpAny_call (codeAny_mono (F.run X.A X.stack s H ⟨[], [(b, v'), (a, u')]⟩ [u', v'] [u, v] Q E hr I.env0 (hb s v' u') (.cons r2 (.cons r1 .nil)) h) fun r s' hq => ?_)
  cases r with
  | error e => exact hx pins σ H s e s' I hq
  | ok fl =>
    cases fl with
    | ret u => exact I.after hq
    | next => exact False.elim hq
    | brk => exact False.elim hq
    | cont => exact False.elim hq
theorem pe_callSw (F : FnOk X.prog X.w X.K X.mg X.base CX k f fd [a, b] sp) (hr : Room k X.A) (hg : Gl X x) (hm : X.mg x = some (.ref f)) (hk : PySem.W.keepIn X.K (.ref f) = true) (hb : Swaps fd a b) (hx : Passes CX X E)
    (h1 : PE X e1 t1) (h2 : PE X e2 t2) (hdb : (x == ("__debug__" : Str)) = false := by decide)
    (hall : (backToKw pos (keywordEach [⟨some b, e1, p1⟩, ⟨some a, e2, p2⟩] X.env)).all (·.1.isSome) = true := by rfl) (hks : (backToKw pos (keywordEach [⟨some b, e1, p1⟩, ⟨some a, e2, p2⟩] X.env)).filterMap (·.1) = [b, a] := by rfl)
    (hpl : ((backTo pos (starEach [] X.env)).any (·.1) || (backToKw pos (keywordEach [⟨some b, e1, p1⟩, ⟨some a, e2, p2⟩] X.env)).any (·.1.isNone)) = false := by rfl) :
    PE X (.Call (.Name x p) [] [⟨some b, e1, p1⟩, ⟨some a, e2, p2⟩] pos) (tSw sp E t1 t2) := by
  refine ⟨fun pins s σ H Q I h => ?_⟩
  refine wpAny_Call_Name_kw (ld_glob I hg hm ?_ hdb)
  refine PySem.W.callWith_KW0 (h₀ := X.base) I.ok.mod.kin hk hall ?_ hpl
  refine thn ((pk_cons h1 (pk_cons h2 pk_nil)).run pos pins s σ H _ I h) fun ws s2 ⟨zs, H2, J, rz, q⟩ => ⟨J.kIn, ?_⟩
  rw [hks]
  have hl := F.len _ _ _ _ q
  rw [List.length_reverse] at hl
  cases rz with
  | nil => exact absurd hl (by simp)
  | cons r1 rz =>
    cases rz with
    | nil => exact absurd hl (by simp)
    | cons r2 rz =>
      cases rz with
      | nil => exact run_sw F hr hb hx J r1 r2 q
      | cons r3 rz => exact absurd hl (by simp)
end
end L2
set_option maxRecDepth 100000
set_option maxHeartbeats 4000000
namespace L2
open PySem PySem.Spec PyProof.Rows
section
variable {X : Cx}
def rShow (K : PySem.W.Frag) : List V → Hp → VK → Prop := fun xs H Q => ∃ (a : Addr) (d : PyData), xs = [.ref a] ∧ Dp K H (.ref a) d ∧ d.showable = true ∧ d.hasDict = false ∧ d.depth ≤ 60 ∧ d.shown.length ≤ sizeLine ∧ Q (.str d.shown) H
theorem call_show (hg : X.A.guards = some []) (hu : X.A.units + 64 < cLine) : CallR X (.builtin "repr") (rShow X.K) := by
  intro pins s σ H xs us Q I r h
  obtain ⟨a, d, rfl, hd, h1, h2, h3, h4, q⟩ := h
  obtain ⟨u, rfl, rx⟩ := vals1 r
  cases rx
  obtain ⟨as, rd⟩ := Dp.reads I d (.ref a) (.ref a) hd rfl
  exact repr_of_reads' rd h1 (fun z => absurd (h2.symm.trans z) (by decide)) hg (by omega) (fun b o e => e) (fun h' u tk k => ⟨.str d.shown, H, I.kept (t' := tk) k, ⟨u, rfl⟩, q⟩) h4
end
end L2
set_option maxRecDepth 100000
set_option maxHeartbeats 4000000
namespace L2
open PySem PySem.Spec PyProof.Rows
open PySem.W (alike alikeAll minD min_list_data)
def rowD (m : List Int) : PyData := .tuple (m.map PyData.int)
theorem alike_ints : ∀ a b : List Int, alikeAll (a.map PyData.int) (b.map PyData.int) = true
  | [], _ => by simp [alikeAll]
  | _ :: _, [] => by simp [alikeAll]
  | x :: a, y :: b => by
    show (alike (.int x) (.int y) && alikeAll (a.map PyData.int) (b.map PyData.int)) = true
    rw [alike_ints a b]
    rfl
theorem depth_ints : ∀ a : List Int, PyData.depthAll (a.map PyData.int) = 0
  | [] => rfl
  | x :: a => by
    show max 0 (PyData.depthAll (a.map PyData.int)) = 0
    rw [depth_ints a]
    rfl
theorem depth_rows : ∀ rs : List (List Int), PyData.depthAll (rs.map rowD) ≤ 1
  | [] => Nat.zero_le _
  | r :: rs => by
    show max (PyData.depthAll (r.map PyData.int) + 1) (PyData.depthAll (rs.map rowD)) ≤ 1
    rw [depth_ints r]
    have := depth_rows rs
    omega
theorem rowD_inj {a b : List Int} (h : rowD a = rowD b) : a = b := by
  unfold rowD at h
  injection h with h
  induction a generalizing b with
  | nil =>
    cases b with
    | nil => rfl
    | cons y b => cases h
  | cons x a ih =>
    cases b with
    | nil => cases h
    | cons y b =>
      rw [List.map_cons, List.map_cons] at h
      injection h with h1 h2
      injection h1 with h1
      rw [h1, ih h2]
theorem pair_at {α β : Type} {F : α → β → Prop} : ∀ {l : List α} {k : List β}, Paired F l k → ∀ {i : Nat} {a : α} {b : β}, l[i]? = some a → k[i]? = some b → F a b
  | _, _, .nil, i, a, b, h, _ => by simp at h
  | _, _, .cons r _, 0, a, b, h, g => by
    simp at h g
    subst h
    subst g
    exact r
  | _, _, .cons _ t, i + 1, a, b, h, g => pair_at t (by simpa using h) (by simpa using g)
section
variable {X : Cx}
theorem dpAll_intsL {K : PySem.W.Frag} (H : Hp) : ∀ ls : List Int, DpAll K H (ls.map V.int) (ls.map PyData.int)
  | [] => .nil
  | a :: l => .cons (.int a) (dpAll_intsL H l)
theorem dpAll_rows {K : PySem.W.Frag} {H : Hp} : ∀ {ps : List Addr} {rows : List (List Int)}, Paired (fun p m => SqT K H p (m.map V.int)) ps rows → DpAll K H (ps.map V.ref) (rows.map rowD)
  | _, _, .nil => .nil
  | _, _, .cons h t => .cons (.tup h (dpAll_intsL H _)) (dpAll_rows t)
def rMinT (K : PySem.W.Frag) : List V → Hp → VK → Prop := fun vs H Q => ∃ (l : Addr) (ps : List Addr) (r0 : List Int) (rs : List (List Int)), vs = [.ref l] ∧ SqL K H l (ps.map V.ref) ∧ Paired (fun p m => SqT K H p (m.map V.int)) ps (r0 :: rs) ∧
  ∀ (i : Nat) (p : Addr), ps[i]? = some p → (∀ m, (r0 :: rs)[i]? = some m → rowD m = minD (rowD r0) (rs.map rowD)) → Q (.ref p) H
theorem cr_minT (hc : X.calm = true) (hu : X.A.units + 64 < cLine) : CallR X (.builtin "min") (rMinT X.K) := by
  intro pins s σ H vs us Q I r h
  obtain ⟨l, ps, r0, rs, rfl, hs, hp, q⟩ := h
  obtain ⟨its, rv, hl, _⟩ := I.list hs
  rw [Vals.ref1 r]
  obtain ⟨as, hr⟩ := Dp.readsAll I _ _ its (dpAll_rows hp) rv
  have hd := depth_rows (r0 :: rs)
  refine min_list_data (I.ok.hd hc) hl.isList (x := rowD r0) (xs := rs.map rowD) (as := as) hr ⟨fun x hx y hy => ?_, fun x hx => ?_⟩ (by show X.A.units + 1 + PyData.depthAll ((r0 :: rs).map rowD) < cLine; omega) fun i v h' tk bs hv hm hk => ?_
  · obtain ⟨a, _, rfl⟩ := List.mem_map.mp (show x ∈ (r0 :: rs).map rowD from hx)
    obtain ⟨b, _, rfl⟩ := List.mem_map.mp (show y ∈ (r0 :: rs).map rowD from hy)
    exact alike_ints a b
  · obtain ⟨a, _, rfl⟩ := List.mem_map.mp (show x ∈ (r0 :: rs).map rowD from hx)
    exact fun z => by cases z
  · have hv' : its[i]? = some v := by simpa using hv
    have hi : i < ps.length := by
      have h1 := (List.getElem?_eq_some_iff.mp hv').1
      have h2 := rv.length
      rw [List.length_map] at h2
      omega
    obtain ⟨v2, e2, rel⟩ := rv.get (i := i) (x := V.ref ps[i]) (by simp [hi])
    rw [hv'] at e2
    cases e2
    obtain rfl : v = .ref ps[i] := rel
    refine ⟨.ref ps[i], H, I.kept (t' := tk) hk, rfl, q i ps[i] (List.getElem?_eq_getElem hi) fun m hm2 => ?_⟩
    obtain ⟨as0, r0'⟩ := Dp.reads I (rowD m) (.ref ps[i]) (.ref ps[i]) (.tup (pair_at hp (List.getElem?_eq_getElem hi) hm2) (dpAll_intsL H m)) rfl
    exact (reads_det (fun b o e _ => hk b o e) r0' hm).1.symm
end
end L2
set_option maxRecDepth 100000
set_option maxHeartbeats 4000000
namespace L2
open PySem PySem.Spec PyProof.Rows
def Swaps3 (fd : FuncData) (a b c : Str) : Prop := ∀ (s : Shared) (v u z : Value), BindsTo s fd ⟨[], [(c, v), (b, u), (a, z)]⟩ [(a, z), (b, u), (c, v)]
theorem Fun.swaps3 {K : PySem.W.Frag} {x qual : Str} {st : Stmt} {f : Addr} {fd : FuncData} {a b c : Str} (F : Fun K x qual st f fd)
    (h : ∀ (kV doc pm : Value) (an : Option Addr) (cdv ct v u z : Value), bindArgs (PySem.W.fnOf x qual (defArgs st) (defBody st) (defScope st) .none kV doc pm an cdv ct) ⟨[], [(c, v), (b, u), (a, z)]⟩ = pure [(a, z), (b, u), (c, v)]) : Swaps3 fd a b c := by
  obtain ⟨oc, od, kV, doc, pm, an, cdv, ct, osl, rfl, lk, hcd⟩ := F.ex
  exact fun s v u z => BindsTo.of_eq (h kV doc pm an cdv ct v u z)
def tSw3 (sp : Sp) (E : XK) (t1 t2 t3 : TE) : TE := fun σ H Q => tCons t1 (tCons t2 (tCons t3 tNil)) σ H fun zs H2 => sp zs.reverse H2 Q E
section
variable {X : Cx} {CX : CXT} {k : Nat} {f : Addr} {fd : FuncData} {a b c : Str} {sp : Sp} {E : XK} {x : Str} {p p1 p2 p3 pos : Pos} {e1 e2 e3 : Expr} {t1 t2 t3 : TE}
theorem run_sw3 {pins : List (Addr × Obj)} {σ : St} {H : Hp} {s : Shared} {Q : VK} {v u z : V} {v' u' z' : Value} (F : FnOk X.prog X.w X.K X.mg X.base CX k f fd [a, b, c] sp) (hr : Room k X.A) (hb : Swaps3 fd a b c) (hx : Passes CX X E)
    (I : Inv X pins σ H s) (r1 : RelV v v') (r2 : RelV u u') (r3 : RelV z z') (h : sp [z, u, v] H Q E) : wpAny (model X.prog X.w) X.A (call (.ref f) [] [(c, v'), (b, u'), (a, z')]) (EP X pins σ Q) X.xe s := by
  refine wpAny_call (codeAny_mono (F.run X.A X.stack s H ⟨[], [(c, v'), (b, u'), (a, z')]⟩ [z', u', v'] [z, u, v] Q E hr I.env0 (hb s v' u' z') (.cons r3 (.cons r2 (.cons r1 .nil))) h) fun r s' hq => ?_)
  cases r with
  | error e => exact hx pins σ H s e s' I hq
  | ok fl =>
    cases fl with
    | ret u => exact I.after hq
    | next => exact False.elim hq
    | brk => exact False.elim hq
    | cont => exact False.elim hq
theorem pe_callSw3 (F : FnOk X.prog X.w X.K X.mg X.base CX k f fd [a, b, c] sp) (hr : Room k X.A) (hg : Gl X x) (hm : X.mg x = some (.ref f)) (hk : PySem.W.keepIn X.K (.ref f) = true) (hb : Swaps3 fd a b c) (hx : Passes CX X E)
    (h1 : PE X e1 t1) (h2 : PE X e2 t2) (h3 : PE X e3 t3) (hdb : (x == ("__debug__" : Str)) = false := by decide)
    (hall : (backToKw pos (keywordEach [⟨some c, e1, p1⟩, ⟨some b, e2, p2⟩, ⟨some a, e3, p3⟩] X.env)).all (·.1.isSome) = true := by rfl) (hks : (backToKw pos (keywordEach [⟨some c, e1, p1⟩, ⟨some b, e2, p2⟩, ⟨some a, e3, p3⟩] X.env)).filterMap (·.1) = [c, b, a] := by rfl)
    (hpl : ((backTo pos (starEach [] X.env)).any (·.1) || (backToKw pos (keywordEach [⟨some c, e1, p1⟩, ⟨some b, e2, p2⟩, ⟨some a, e3, p3⟩] X.env)).any (·.1.isNone)) = false := by rfl) :
    PE X (.Call (.Name x p) [] [⟨some c, e1, p1⟩, ⟨some b, e2, p2⟩, ⟨some a, e3, p3⟩] pos) (tSw3 sp E t1 t2 t3) := by
  refine ⟨fun pins s σ H Q I h => ?_⟩
  refine wpAny_Call_Name_kw (ld_glob I hg hm ?_ hdb)
  refine PySem.W.callWith_KW0 (h₀ := X.base) I.ok.mod.kin hk hall ?_ hpl
  refine thn ((pk_cons h1 (pk_cons h2 (pk_cons h3 pk_nil))).run pos pins s σ H _ I h) fun ws s2 ⟨zs, H2, J, rz, q⟩ => ⟨J.kIn, ?_⟩
  rw [hks]
  have hl := F.len _ _ _ _ q
  rw [List.length_reverse] at hl
  cases rz with
  | nil => exact absurd hl (by simp)
  | cons r1 rz =>
    cases rz with
    | nil => exact absurd hl (by simp)
    | cons r2 rz =>
      cases rz with
      | nil => exact absurd hl (by simp)
      | cons r3 rz =>
        cases rz with
        | nil => exact run_sw3 F hr hb hx J r1 r2 r3 q
        | cons r4 rz => exact absurd hl (by simp)
end
end L2
namespace Wd
def mate (x : Int) : Int := if x % 2 = 0 then x + 1 else x - 1
theorem mate_mate (x : Int) : mate (mate x) = x := by unfold mate; split <;> split <;> omega
theorem mate_eq {a b : Int} : b = mate a ↔ a = mate b := ⟨fun h => by rw [h, mate_mate], fun h => by rw [h, mate_mate]⟩
theorem mate_range {n x : Int} (h0 : 0 ≤ x) (h1 : x < 2 * n) : 0 ≤ mate x ∧ mate x < 2 * n := by unfold mate; split <;> omega
def push (st : List Int) (x : Int) : List Int := if st.getLast? = some (mate x) then st.dropLast else st ++ [x]
def freed (w : List Int) : List Int := w.foldl push []
def undo (w : List Int) : List Int := w.reverse.map mate
def Rd (st : List Int) : Prop := ∀ i a b, st[i]? = some a → st[i + 1]? = some b → b ≠ mate a
theorem rd_nil : Rd [] := fun i a b h => by simp at h
theorem last_get {st : List Int} {a : Int} : st.getLast? = some a ↔ st ≠ [] ∧ st[st.length - 1]? = some a := by
  rw [List.getLast?_eq_getElem?]
  constructor
  · intro h
    refine ⟨fun e => ?_, h⟩
    subst e
    simp at h
  · exact fun h => h.2
theorem rd_push {st : List Int} {x : Int} (h : Rd st) : Rd (push st x) := by
  unfold push
  split
  · intro i a b h1 h2
    have e1 : i + 1 < st.dropLast.length := (List.getElem?_eq_some_iff.mp h2).1
    rw [List.length_dropLast] at e1
    rw [List.getElem?_dropLast, if_pos (by omega)] at h1
    rw [List.getElem?_dropLast, if_pos (by omega)] at h2
    exact h i a b h1 h2
  · rename_i hn
    intro i a b h1 h2
    have e1 : i + 1 < (st ++ [x]).length := (List.getElem?_eq_some_iff.mp h2).1
    rw [List.length_append, List.length_singleton] at e1
    by_cases hi : i + 1 < st.length
    · rw [List.getElem?_append_left (by omega)] at h1
      rw [List.getElem?_append_left hi] at h2
      exact h i a b h1 h2
    · have ei : i + 1 = st.length := by omega
      rw [List.getElem?_append_left (by omega)] at h1
      rw [List.getElem?_append_right (by omega)] at h2
      have e0 : i + 1 - st.length = 0 := by omega
      rw [e0] at h2
      have hb : x = b := by simpa using h2
      subst hb
      intro z
      apply hn
      rw [last_get]
      refine ⟨fun e => by rw [e] at ei; simp at ei, ?_⟩
      have e2 : st.length - 1 = i := by omega
      rw [e2, h1, mate_eq.mp z]
theorem snoc_of_last {st : List Int} {a : Int} (h : st.getLast? = some a) : st.dropLast ++ [a] = st := by
  have hne := (last_get.mp h).1
  have e := List.dropLast_concat_getLast hne
  have e2 : st.getLast hne = a := by
    rw [List.getLast?_eq_some_getLast hne] at h
    exact Option.some.inj h
  rw [e2] at e
  exact e
theorem push_push {st : List Int} {x : Int} (h : Rd st) : push (push st (mate x)) x = st := by
  unfold push
  split
  · rename_i h1
    rw [mate_mate] at h1
    have e := snoc_of_last h1
    have n : ¬ st.dropLast.getLast? = some (mate x) := by
      intro z
      obtain ⟨z1, z2⟩ := last_get.mp z
      have l0 : 0 < st.dropLast.length := List.length_pos_iff.mpr z1
      have hl : st.dropLast.length = st.length - 1 := List.length_dropLast
      have g1 : st[st.dropLast.length - 1]? = some (mate x) := by
        rw [← z2, List.getElem?_dropLast, if_pos (by omega)]
      have g2 : st[st.dropLast.length - 1 + 1]? = some x := by
        have := (last_get.mp h1).2
        have e3 : st.dropLast.length - 1 + 1 = st.length - 1 := by omega
        rw [e3]
        exact this
      exact h _ _ _ g1 g2 (mate_mate x).symm
    rw [if_neg n, e]
  · rename_i h1
    rw [if_pos (by simp), List.dropLast_concat]
theorem rd_fold : ∀ (w : List Int) {st : List Int}, Rd st → Rd (w.foldl push st)
  | [], _, h => h
  | a :: w, _, h => rd_fold w (rd_push h)
theorem snoc_ind {P : List Int → Prop} (h0 : P []) (h1 : ∀ l a, P l → P (l ++ [a])) (l : List Int) : P l := by
  have h : ∀ r : List Int, P r.reverse := by
    intro r
    induction r with
    | nil => exact h0
    | cons a r ih => rw [List.reverse_cons]; exact h1 _ _ ih
  have := h l.reverse
  rwa [List.reverse_reverse] at this
theorem fold_freed {st : List Int} (h : Rd st) (b : List Int) : b.foldl push st = (freed b).foldl push st := by
  induction b using snoc_ind with
  | h0 => rfl
  | h1 l a ih =>
    have e : freed (l ++ [a]) = push (freed l) a := by unfold freed; rw [List.foldl_append]; rfl
    rw [e, List.foldl_append, ih]
    show push ((freed l).foldl push st) a = _
    by_cases c : (freed l).getLast? = some (mate a)
    · have e2 := snoc_of_last c
      unfold push
      rw [if_pos c]
      show push ((freed l).foldl push st) a = _
      conv => lhs; rw [← e2, List.foldl_append]
      exact push_push (rd_fold _ h)
    · have e2 : push (freed l) a = freed l ++ [a] := by unfold push; rw [if_neg c]
      rw [e2, List.foldl_append]
      rfl
theorem rd_freed (w : List Int) : Rd (freed w) := rd_fold w rd_nil
theorem freed_freed (w : List Int) : freed (freed w) = freed w := (fold_freed rd_nil w).symm
theorem freed_app (a b : List Int) : freed (a ++ b) = freed (freed a ++ freed b) := by
  have e1 : freed (a ++ b) = (freed b).foldl push (freed a) := by
    unfold freed
    rw [List.foldl_append]
    exact fold_freed (rd_fold a rd_nil) b
  have e2 : freed (freed a ++ freed b) = (freed b).foldl push (freed a) := by
    show (freed a ++ freed b).foldl push [] = _
    rw [List.foldl_append]
    show (freed b).foldl push (freed (freed a)) = _
    rw [freed_freed]
  rw [e1, e2]
theorem undo_cons (a : Int) (w : List Int) : undo (a :: w) = undo w ++ [mate a] := by
  unfold undo
  rw [List.reverse_cons, List.map_append]
  rfl
theorem fold_undo : ∀ (w : List Int) {st : List Int}, Rd st → (w ++ undo w).foldl push st = st
  | [], _, _ => rfl
  | a :: w, st, h => by
    rw [undo_cons, List.cons_append, List.foldl_cons, ← List.append_assoc, List.foldl_append, fold_undo w (rd_push h)]
    show push (push st a) (mate a) = st
    have := push_push (x := mate a) h
    rw [mate_mate] at this
    exact this
theorem freed_undo (w : List Int) : freed (w ++ undo w) = [] := fold_undo w rd_nil
theorem freed_cut (u v : List Int) (b : Int) : freed (u ++ mate b :: b :: v) = freed (u ++ v) := by
  unfold freed
  rw [List.foldl_append, List.foldl_append, List.foldl_cons, List.foldl_cons, push_push (rd_fold u rd_nil)]
theorem freed_of_rd (w : List Int) : Rd w → freed w = w := by
  induction w using snoc_ind with
  | h0 => intro _; rfl
  | h1 l a ih =>
    intro h
    have hl : Rd l := fun i x y h1 h2 => h i x y (by rw [List.getElem?_append_left (List.getElem?_eq_some_iff.mp h1).1]; exact h1) (by rw [List.getElem?_append_left (List.getElem?_eq_some_iff.mp h2).1]; exact h2)
    have e : freed (l ++ [a]) = push (freed l) a := by unfold freed; rw [List.foldl_append]; rfl
    rw [e, ih hl]
    unfold push
    rw [if_neg]
    intro z
    obtain ⟨z1, z2⟩ := last_get.mp z
    have l0 : 0 < l.length := List.length_pos_iff.mpr z1
    refine h (l.length - 1) (mate a) a (by rw [List.getElem?_append_left (by omega)]; exact z2) ?_ (mate_mate a).symm
    have e3 : l.length - 1 + 1 = l.length := by omega
    rw [e3, List.getElem?_append_right (Nat.le_refl _)]
    simp
theorem mem_push {st : List Int} {x y : Int} (h : y ∈ push st x) : y ∈ st ∨ y = x := by
  unfold push at h
  split at h
  · exact .inl (List.dropLast_subset _ h)
  · simpa using h
theorem mem_fold : ∀ (w : List Int) {st : List Int} {y : Int}, y ∈ w.foldl push st → y ∈ st ∨ y ∈ w
  | [], _, _, h => .inl h
  | a :: w, _, y, h => by
    rcases mem_fold w h with h | h
    · rcases mem_push h with h | h
      · exact .inl h
      · exact .inr (by rw [h]; exact List.mem_cons_self)
    · exact .inr (List.mem_cons_of_mem _ h)
theorem mem_freed {w : List Int} {y : Int} (h : y ∈ freed w) : y ∈ w := by
  rcases mem_fold w h with h | h
  · cases h
  · exact h
theorem len_push (st : List Int) (x : Int) : (push st x).length ≤ st.length + 1 := by
  unfold push
  split
  · rw [List.length_dropLast]; omega
  · rw [List.length_append]; simp
theorem len_fold : ∀ (w : List Int) (st : List Int), (w.foldl push st).length ≤ st.length + w.length
  | [], _ => by simp
  | a :: w, st => by
    have h1 := len_fold w (push st a)
    have h2 := len_push st a
    rw [List.foldl_cons, List.length_cons]
    omega
theorem len_freed (w : List Int) : (freed w).length ≤ w.length := by
  have h := len_fold w []
  show (w.foldl push []).length ≤ _
  simp only [List.length_nil, Nat.zero_add] at h
  exact h
theorem freed_snoc (w : List Int) (a : Int) : freed (w ++ [a]) = push (freed w) a := by unfold freed; rw [List.foldl_append]; rfl
theorem undo_len (w : List Int) : (undo w).length = w.length := by unfold undo; rw [List.length_map, List.length_reverse]
end Wd
set_option maxRecDepth 100000
set_option maxHeartbeats 4000000
namespace L2
open PySem PySem.Spec PyProof.Rows
theorem tuple_mulS (l : Addr) (items : Array Value) (n : Nat) (dd : Option Addr) (sl : Array (Option Value)) (x : Int) (u : Tok) (c0 : (decide (x < -(2 ^ 63)) || decide (x ≥ 2 ^ 63)) = false) (c1 : (items.isEmpty || x == 1) = true) :
    Meets (Builtin.«tuple.__mul__» ⟨[.ref l, .int x u], []⟩) (fun _ R s => s.heap.get? l = some { cls := .type "tuple", dict := dd, data := .seq items n, slots := sl } ∧ R (.ok (.ret (Value.ref l))) s) :=
  .of_wp fun prog w A R s h => by
    obtain ⟨hp, g, d, tk, os⟩ := s
    obtain ⟨hl, h⟩ := h
    have f1 := AutoSeq1.idx_int
    wp_walk using wpAny_loadPart' hl
    repeat (first
      | (refine wpAny_ite_false (decide_eq_false (by rw [c0]; exact Bool.false_ne_true)) ?_; wp_walk using wpAny_loadPart' hl)
      | (refine wpAny_ite_true (decide_eq_true (by rw [c1])) ?_; wp_walk using wpAny_loadPart' hl)
      | (refine wpAny_ite_true c1 ?_; wp_walk using wpAny_loadPart' hl))
    exact ⟨_, rfl, h⟩
def rRepA (K : PySem.W.Frag) : R2 := fun x y H Q => ∃ l k xs, x = .ref l ∧ y = .int k ∧ SqT K H l xs ∧ xs ≠ [] ∧ 1 ≤ k ∧ k ≤ 1000 ∧ xs.length ≤ 1000 ∧ (k = 1 → Q (.ref l) H) ∧ (2 ≤ k → ∀ p, H p = none → Q (.ref p) (upd H p (.tup (List.replicate k.toNat xs).flatten)))
section
variable {X : Cx} {K : PySem.W.Frag}
theorem op_repA : OpR X (binaryOp .Mult) (rRepA X.K) := by
  intro pins s σ H x y v u Q I rx ry h
  obtain ⟨l, k, xs, rfl, rfl, hT, hne, h1, h2, hz, q1, q2⟩ := h
  by_cases hk : k = 1
  · subst hk
    cases rx
    obtain ⟨t, rfl⟩ := ry
    obtain ⟨its, r, ⟨⟨cls, dd, data, sl⟩, ho, hc, n, hd⟩, hs⟩ := I.tuple hT
    simp only at hc hd
    subst hc hd
    refine wpAny_binaryOp_repeat_ref (T := "tuple") (U := "int") (by decide) ⟨_, ho, rfl⟩ (fun s' => typeIs_int s' 1 t) noFill_tuple_mul F.fills_int_mul F.slot_int_rmul repeat_tuple F.slot_int_index.lookup
      (call_meets F.slot_int_rmul (typeIs_int s 1 t) F.entry_int_rmul (F.args_int_rmul_2 _ _) (int_rmul_tuple 1 t l its.toArray n dd sl)
        ⟨ho, rfl, ⟨_, ho, rfl⟩, call_meets F.slot_tuple_mul ⟨_, ho, rfl⟩ F.entry_tuple_mul (F.args_tuple_mul_2 _ _) (tuple_mulS l its.toArray n dd sl 1 t (by decide) (by simp)) ⟨ho, ?_⟩⟩)
    exact ⟨.ref l, H, I, rfl, q1 rfl⟩
  · exact op_repT pins s σ H _ _ v u Q I rx ry ⟨l, k, xs, rfl, rfl, hT, hne, by omega, h2, hz, q2 (by omega)⟩
theorem op_repAK (h : X.K = K) : OpR X (binaryOp .Mult) (rRepA K) := by subst h; exact op_repA
def rShowS : List V → Hp → VK → Prop := fun xs H Q => ∃ x, xs = [.str x] ∧ (reprText x).length ≤ sizeLine ∧ Q (.str (reprText x)) H
theorem call_showS : CallR X (.builtin "repr") rShowS := by
  intro pins s σ H xs us Q I r h
  obtain ⟨x, rfl, hz, q⟩ := h
  obtain ⟨u, rfl, rx⟩ := vals1 r
  obtain ⟨t, rfl⟩ := rx
  exact PySem.P.repr_of_str ⟨.str (reprText x), H, I.tok _, ⟨_, rfl⟩, q⟩ hz
def rInDT (K : PySem.W.Frag) : R2 := fun x y H Q => ∃ d ds, Dp K H x d ∧ Dp K H y (.tuple ds) ∧ SeqAt.shaped d = true ∧ SeqAt.shaped (.list ds) = true ∧ Q (.bl (ds.any fun z => PyData.eqv z d)) H
theorem op_inDT (hu : X.A.units + 65 < cLine) : OpR X (compareOp .In) (rInDT X.K) := by
  intro pins s σ H x y v u Q I rx ry h
  obtain ⟨d, ds, hd, he, sd, se, q⟩ := h
  obtain ⟨as, r1⟩ := Dp.reads I d x v hd rx
  obtain ⟨bs, r2⟩ := Dp.reads I (.tuple ds) y u he ry
  exact SeqAt.in_tuple_reads r2 r1 (SeqAt.canLay_of_shaped se) (SeqAt.canLay_of_shaped sd) (room_in_shaped sd hu) ⟨.bl _, H, I, rfl, q⟩
theorem Room.units65 {k : Nat} {A : Around} (r : Room k A) : A.units + 65 < cLine := by
  have := r.un
  omega
end
end L2
set_option maxRecDepth 100000
set_option maxHeartbeats 4000000
namespace L2
open PySem PySem.Spec PyProof.Rows
def Swaps1 (fd : FuncData) (a : Str) : Prop := ∀ (s : Shared) (z : Value), BindsTo s fd ⟨[], [(a, z)]⟩ [(a, z)]
theorem Fun.swaps1 {K : PySem.W.Frag} {x qual : Str} {st : Stmt} {f : Addr} {fd : FuncData} {a : Str} (F : Fun K x qual st f fd)
    (h : ∀ (kV doc pm : Value) (an : Option Addr) (cdv ct z : Value), bindArgs (PySem.W.fnOf x qual (defArgs st) (defBody st) (defScope st) .none kV doc pm an cdv ct) ⟨[], [(a, z)]⟩ = pure [(a, z)]) : Swaps1 fd a := by
  obtain ⟨oc, od, kV, doc, pm, an, cdv, ct, osl, rfl, lk, hcd⟩ := F.ex
  exact fun s z => BindsTo.of_eq (h kV doc pm an cdv ct z)
def tSw1 (sp : Sp) (E : XK) (t1 : TE) : TE := fun σ H Q => tCons t1 tNil σ H fun zs H2 => sp zs.reverse H2 Q E
section
variable {X : Cx} {CX : CXT} {k : Nat} {f : Addr} {fd : FuncData} {a : Str} {sp : Sp} {E : XK} {x : Str} {p p1 pos : Pos} {e1 : Expr} {t1 : TE}
theorem run_sw1 {pins : List (Addr × Obj)} {σ : St} {H : Hp} {s : Shared} {Q : VK} {z : V} {z' : Value} (F : FnOk X.prog X.w X.K X.mg X.base CX k f fd [a] sp) (hr : Room k X.A) (hb : Swaps1 fd a) (hx : Passes CX X E)
    (I : Inv X pins σ H s) (r1 : RelV z z') (h : sp [z] H Q E) : wpAny (model X.prog X.w) X.A (call (.ref f) [] [(a, z')]) (EP X pins σ Q) X.xe s := by
  refine wpAny_call (codeAny_mono (F.run X.A X.stack s H ⟨[], [(a, z')]⟩ [z'] [z] Q E hr I.env0 (hb s z') (.cons r1 .nil) h) fun r s' hq => ?_)
  cases r with
  | error e => exact hx pins σ H s e s' I hq
  | ok fl =>
    cases fl with
    | ret u => exact I.after hq
    | next => exact False.elim hq
    | brk => exact False.elim hq
    | cont => exact False.elim hq
theorem pe_callSw1 (F : FnOk X.prog X.w X.K X.mg X.base CX k f fd [a] sp) (hr : Room k X.A) (hg : Gl X x) (hm : X.mg x = some (.ref f)) (hk : PySem.W.keepIn X.K (.ref f) = true) (hb : Swaps1 fd a) (hx : Passes CX X E)
    (h1 : PE X e1 t1) (hdb : (x == ("__debug__" : Str)) = false := by decide)
    (hall : (backToKw pos (keywordEach [⟨some a, e1, p1⟩] X.env)).all (·.1.isSome) = true := by rfl) (hks : (backToKw pos (keywordEach [⟨some a, e1, p1⟩] X.env)).filterMap (·.1) = [a] := by rfl)
    (hpl : ((backTo pos (starEach [] X.env)).any (·.1) || (backToKw pos (keywordEach [⟨some a, e1, p1⟩] X.env)).any (·.1.isNone)) = false := by rfl) :
    PE X (.Call (.Name x p) [] [⟨some a, e1, p1⟩] pos) (tSw1 sp E t1) := by
  refine ⟨fun pins s σ H Q I h => ?_⟩
  refine wpAny_Call_Name_kw (ld_glob I hg hm ?_ hdb)
  refine PySem.W.callWith_KW0 (h₀ := X.base) I.ok.mod.kin hk hall ?_ hpl
  refine thn ((pk_cons h1 pk_nil).run pos pins s σ H _ I h) fun ws s2 ⟨zs, H2, J, rz, q⟩ => ⟨J.kIn, ?_⟩
  rw [hks]
  have hl := F.len _ _ _ _ q
  rw [List.length_reverse] at hl
  cases rz with
  | nil => exact absurd hl (by simp)
  | cons r1 rz =>
    cases rz with
    | nil => exact run_sw1 F hr hb hx J r1 q
    | cons r4 rz => exact absurd hl (by simp)
end
theorem dataLe_tups {β : Type} (x : β → List Int) : PySem.W.dataLe false (fun b => rowD (x b)) = fun p q => decide (x p ≤ x q) := by
  funext p q
  have e := congrFun (congrFun (PySem.W.dataLe_rows x) p) q
  rw [← e]
  show (!PySem.W.dataLt (.tuple ((x q).map PyData.int)) (.tuple ((x p).map PyData.int))) = !PySem.W.dataLt (.list ((x q).map PyData.int)) (.list ((x p).map PyData.int))
  rw [PySem.W.dataLt_tuple, PySem.W.dataLt_list]
def rSortTW (K : PySem.W.Frag) : List V → Hp → VK → Prop := fun vs H Q => ∃ (l : Addr) (bs : List (Addr × List Int)), vs = [.ref l] ∧ SqL K H l (bs.map fun b => V.ref b.1) ∧ (∀ b ∈ bs, b.2 ≠ [] ∧ SqT K H b.1 (b.2.map V.int)) ∧
  ∀ (bs' : List (Addr × List Int)) (p : Addr), bs'.Perm bs → bs'.Pairwise (fun a b => a.2 ≤ b.2) → H p = none → Q (.ref p) (upd H p (.lst (bs'.map fun b => V.ref b.1)))
theorem each_of {R : Value → Addr × List Int → Prop} (h : ∀ b : Addr × List Int, R (.ref b.1) b) : ∀ {bs : List (Addr × List Int)} {its : List Value}, Vals (bs.map fun b => V.ref b.1) its → PySem.W.EachIs R its bs
  | [], _, r => by
    cases r
    exact .nil
  | b :: bs, _, r => by
    cases r with
    | cons r1 r2 =>
      obtain rfl := r1
      exact .cons (h b) (each_of h r2)
theorem vals_each : ∀ {bs : List (Addr × List Int)} {its : List Value}, PySem.W.EachIs (fun v (b : Addr × List Int) => v = .ref b.1) its bs → Vals (bs.map fun b => V.ref b.1) its
  | _, _, .nil => .nil
  | _, _, .cons h t => by
    subst h
    exact .cons rfl (vals_each t)
section
variable {X : Cx}
theorem cr_sortedTW (hu : X.A.units + 64 < cLine) : CallR X (.builtin "sorted") (rSortTW X.K) := by
  intro pins s σ H vs us Q I r h
  obtain ⟨l, bs, rfl, hs, hb, q⟩ := h
  obtain ⟨its, rv, hl, hz⟩ := I.list hs
  rw [Vals.ref1 r]
  have lb : bs.length ≤ sizeLine := by rw [List.length_map] at hz; exact hz
  refine PySem.W.sorted_data (R := fun v (b : Addr × List Int) => v = .ref b.1) (enc := fun b => rowD b.2) hl.isList (each_of (fun _ => rfl) rv) ?_ ?_ ?_ lb (fun b _ => ?_) fun out ho eo => ?_
  · have e1 : PySem.W.EachIs (fun v (b : Addr × List Int) => v = .ref b.1) its bs := each_of (fun _ => rfl) rv
    refine (PySem.W.each_mem e1).mono fun v b ⟨e, hm⟩ => ?_
    subst e
    obtain ⟨as, r2⟩ := Dp.reads I (rowD b.2) (.ref b.1) (.ref b.1) (.tup (hb b hm).2 (dpAll_intsL H b.2)) rfl
    exact ⟨as, r2⟩
  · exact PySem.W.AllAlike.of fun b b' => PySem.W.alike_ints b.2 b'.2
  · refine .inl fun d hd => ?_
    obtain ⟨b, hm, rfl⟩ := List.mem_map.mp hd
    cases e : b.2 with
    | nil => exact absurd e (hb b hm).1
    | cons x m => exact ⟨.int x, m.map PyData.int, by show rowD _ = _; first | rfl | (rw [e]; rfl)⟩
  · have hd : (rowD b.2).depth = 1 := by
      show PyData.depthAll (b.2.map PyData.int) + 1 = 1
      rw [PySem.W.depth_ints]
    rw [hd]
    omega
  · obtain ⟨ep, he'⟩ := PyProof.Rows.sortedAll_at s.heap its out.toArray
    have hp := List.mergeSort_perm bs (PySem.W.dataLe false fun b : Addr × List Int => rowD b.2)
    have hw : (bs.mergeSort (PySem.W.dataLe false fun b : Addr × List Int => rowD b.2)).Pairwise (fun a b => a.2 ≤ b.2) := by
      rw [dataLe_tups (fun b : Addr × List Int => b.2)]
      refine (List.pairwise_mergeSort (le := fun p q : Addr × List Int => decide (p.2 ≤ q.2)) (fun a b c h1 h2 => ?_) (fun a b => ?_) bs).imp fun h => of_decide_eq_true h
      · exact decide_eq_true (List.le_trans (of_decide_eq_true h1) (of_decide_eq_true h2))
      · rcases List.le_total a.2 b.2 with h | h
        · rw [decide_eq_true h]
          rfl
        · rw [decide_eq_true h, Bool.or_true]
    have hv := vals_each eo
    have hlen : ((bs.mergeSort (PySem.W.dataLe false fun b : Addr × List Int => rowD b.2)).map fun b => V.ref b.1).length ≤ sizeLine := by
      rw [List.length_map, hp.length_eq]
      exact lb
    exact ⟨.ref _, upd H (s.heap.objs.size + 1) (.lst _), I.laid (t' := s.toks) (fun _ _ => PyProof.Rows.sortedAll_old) (Nat.le_succ _) ⟨hlen, out, ep, hv, he'⟩, rfl, q _ _ hp hw (I.hok.fresh (Nat.le_succ _))⟩
end
end L2
set_option maxRecDepth 100000
set_option maxHeartbeats 4000000
namespace SmT
open PySem PySem.Spec PyProof.Rows HT
theorem args_sum2 (a b : Value) : PySem.argsOk "sum" ⟨[a, b], []⟩ := by unfold PySem.argsOk; kernel_rfl
section
variable {prog : Program} {w : World} {A : Around} {R : Result → Shared → Prop}
def cat (ts : List (Addr × List Value)) (i : Nat) : List Value := ((ts.take i).map (·.2)).flatten
theorem cat_next {ts : List (Addr × List Value)} {i : Nat} {p : Addr × List Value} (h : ts[i]? = some p) : cat ts (i + 1) = cat ts i ++ p.2 := by
  unfold cat
  rw [List.take_add_one, h]
  simp
theorem cat_len (ts : List (Addr × List Value)) (i : Nat) : (cat ts i).length ≤ (cat ts ts.length).length := by
  unfold cat
  rw [List.take_length]
  have e : ((ts.take i).map (·.2)).flatten ++ ((ts.drop i).map (·.2)).flatten = (ts.map (·.2)).flatten := by
    rw [← List.flatten_append, ← List.map_append, List.take_append_drop]
  rw [← e, List.length_append]
  omega
def At (h0 : Heap) (t0 : Addr) (ts : List (Addr × List Value)) (i : Nat) (a : Addr) : Prop := (i = 0 ∧ a = t0) ∨ (i = 1 ∧ ∃ p, ts[0]? = some p ∧ a = p.1) ∨ (2 ≤ i ∧ h0.get? a = none)
theorem loop {it l S t0 : Addr} {ts : List (Addr × List Value)} {h0 : Heap} (hh : A.handled = none) (hli : l ≠ it) (hSi : S ≠ it) (hSl : S ≠ l) (n1 : h0.get? it = none) (n2 : h0.get? S = none)
    (ht0 : IsTup h0 t0 #[]) (hts : ∀ p ∈ ts, IsTup h0 p.1 p.2.toArray ∧ p.2 ≠ []) (hz : (cat ts ts.length).length ≤ sizeLine) :
    ∀ (k i : Nat) (s : Shared) (acc : Addr) (c : Nat), ts.length - i = k → i ≤ ts.length → s.heap.IsListIter it l i → s.heap.IsList l (ts.map fun p => Value.ref p.1).toArray →
    s.heap.get? S = some { cls := .type "list", dict := none, data := .seq #[.ref acc] c, slots := #[] } → (∀ b o, h0.get? b = some o → s.heap.get? b = some o) → At h0 t0 ts i acc → IsTup s.heap acc (cat ts i).toArray → acc ≠ it → acc ≠ S →
    (∀ (h' : Heap) (tk : Tok) (a : Addr), (∀ b o, h0.get? b = some o → h'.get? b = some o) → At h0 t0 ts ts.length a → IsTup h' a (cat ts ts.length).toArray → R (.ok (.ret (.ref a))) { s with heap := h', toks := tk }) →
    codeAny (model prog w) A (.builtin "sum.loop" ⟨[.ref it, .ref S, rawInt 2, rawInt 0], []⟩) R s := by
  have W := (PySem.Walks.list (prog := prog) (w := w) (A := A.in1) hh it l hli (ts.map fun p => Value.ref p.1).toArray).toS
  have eN : ((ts.map fun p => Value.ref p.1).toArray).size = ts.length := by simp
  rw [eN] at W
  intro k
  induction k with
  | zero =>
    intro i s acc c hk hi hit hl hS old ha htu na nS hR
    have hin : i = ts.length := by omega
    subst hin
    refine PySem.codeAny_builtin PySem.F.entry_sum_loop ?_
    rw [Around.under_plainId PySem.F.plain_sum_loop _]
    show wpAny _ A.in1 (seqItems? (.ref S) >>= _) _ _ s
    refine wpAny_bind (PySem.wpAny_seqItems hS rfl ?_)
    show wpAny _ A.in1 (tryCatch (pyNext (.ref it)) _ >>= _) _ _ s
    refine wpAny_bind (wpAny_tryCatch (W.done s _ _ ⟨hit, hl⟩ fun s' hm => ?_))
    refine wpAny_pure ?_
    rw [PySem.Moved.eq_with hm]
    have keep : ∀ b o, b ≠ it → s.heap.get? b = some o → s'.heap.get? b = some o := fun b o hb e => hm.heap b o (by simpa using hb) e
    exact hR s'.heap s'.toks acc (fun b o e => keep b o (fun z => by rw [z, n1] at e; cases e) (old b o e)) ha (by
      obtain ⟨o, ho, r⟩ := htu
      exact ⟨o, keep _ _ na ho, r⟩)
  | succ k ih =>
    intro i s acc c hk hi hit hl hS old ha htu na nS hR
    have hlt : i < ts.length := by omega
    obtain ⟨p, hp⟩ : ∃ p, ts[i]? = some p := ⟨_, List.getElem?_eq_getElem hlt⟩
    obtain ⟨tp, pne⟩ := hts p (List.mem_of_getElem? hp)
    refine PySem.codeAny_builtin PySem.F.entry_sum_loop ?_
    rw [Around.under_plainId PySem.F.plain_sum_loop _]
    show wpAny _ A.in1 (seqItems? (.ref S) >>= _) _ _ s
    refine wpAny_bind (PySem.wpAny_seqItems hS rfl ?_)
    show wpAny _ A.in1 (tryCatch (pyNext (.ref it)) _ >>= _) _ _ s
    refine wpAny_bind (wpAny_tryCatch (W.item i s _ _ hlt ⟨hit, hl⟩ fun v s' hP hst' hm => ?_))
    have ev : v = .ref p.1 := by
      have h2 : ((ts.map fun p => Value.ref p.1).toArray)[i]? = some v := hP
      rw [List.getElem?_toArray, List.getElem?_map, hp] at h2
      exact (Option.some.inj h2).symm
    subst ev
    rw [PySem.Moved.eq_with hm]
    have keep : ∀ b o, b ≠ it → s.heap.get? b = some o → s'.heap.get? b = some o := fun b o hb e => hm.heap b o (by simpa using hb) e
    have hS' := keep _ _ hSi hS
    have old' : ∀ b o, h0.get? b = some o → s'.heap.get? b = some o := fun b o e => keep b o (fun z => by rw [z, n1] at e; cases e) (old b o e)
    have htu' : IsTup s'.heap acc (cat ts i).toArray := by
      obtain ⟨o, ho, r⟩ := htu
      exact ⟨o, keep _ _ na ho, r⟩
    have tp' : IsTup s'.heap p.1 p.2.toArray := by
      obtain ⟨o, ho, r⟩ := tp
      exact ⟨o, old' _ _ ho, r⟩
    obtain ⟨hit', hl'⟩ := hst'
    generalize s'.heap = h1 at keep hS' old' htu' tp' hit' hl'
    generalize s'.toks = t1
    clear hm hP
    have hpn : h0.get? p.1 ≠ none := by
      obtain ⟨o, ho, r⟩ := tp
      rw [ho]
      exact fun z => nomatch z
    have pit : p.1 ≠ it := fun z => hpn (by rw [z]; exact n1)
    have pS : p.1 ≠ S := fun z => hpn (by rw [z]; exact n2)
    have add : ∀ (E : Value → Shared → Prop), wpAny (model prog w) A.in1 (binaryOp .Add (.ref acc) (.ref p.1)) (fun v s2 => ∃ (r : Addr) (h2 : Heap), v = .ref r ∧ s2 = { s with heap := h2, toks := t1 } ∧ (∀ b o, h1.get? b = some o → h2.get? b = some o) ∧
        At h0 t0 ts (i + 1) r ∧ IsTup h2 r (cat ts (i + 1)).toArray ∧ r ≠ it ∧ r ≠ S) E { s with heap := h1, toks := t1 } := fun E => by
      have en := cat_next hp
      by_cases hw : cat ts i = []
      · rw [hw, List.nil_append] at en
        rw [hw] at htu'
        refine L2.cat_tup0 htu' tp' ⟨p.1, h1, rfl, rfl, fun _ _ e => e, ?_, by rw [en]; exact tp', pit, pS⟩
        have i0 : i = 0 := by
          refine Classical.byContradiction fun z => ?_
          obtain ⟨q, hq⟩ : ∃ q, ts[0]? = some q := ⟨_, List.getElem?_eq_getElem (by omega)⟩
          have e2 : cat ts i = q.2 ++ (((ts.take i).drop 1).map (·.2)).flatten := by
            unfold cat
            cases ts with
            | nil => simp at hq
            | cons a m =>
              have : a = q := by simpa using hq
              subst this
              cases i with
              | zero => exact absurd rfl z
              | succ i => simp
          rw [e2] at hw
          exact (hts q (List.mem_of_getElem? hq)).2 (List.append_eq_nil_iff.mp hw).1
        subst i0
        exact .inr (.inl ⟨rfl, p, hp, rfl⟩)
      · have sz := cat_len ts (i + 1)
        rw [en, List.length_append] at sz
        refine cat_tup htu' tp' hw (fun z => absurd z pne) (fun _ => ⟨h1.objs.size, _, rfl, rfl, fun b o e => Heap.get?_push_of_some _ e, .inr (.inr ⟨?_, ?_⟩), ?_, ?_, ?_⟩) (by omega)
        · refine Classical.byContradiction fun z => ?_
          have i0 : i = 0 := by omega
          subst i0
          exact hw rfl
        · cases e : h0.get? h1.objs.size with
          | none => rfl
          | some o => exact absurd (Heap.lt_size (old' _ _ e)) (Nat.lt_irrefl _)
        · rw [en]
          exact IsTup.new _ _
        · obtain ⟨o, ho, _⟩ := hit'
          exact fun z => absurd (Heap.lt_size ho) (by rw [← z]; exact Nat.lt_irrefl _)
        · exact fun z => absurd (Heap.lt_size hS') (by rw [← z]; exact Nat.lt_irrefl _)
    show wpAny _ A.in1 ((holding [Value.ref p.1] (binaryOp .Add (.ref acc) (.ref p.1))).attempt >>= _) _ _ _
    refine wpAny_bind (wpAny_attempt (wpAny_holding (wpAny_mono (add _) (fun v s2 hv => ?_) fun _ _ e => e)))
    obtain ⟨r, h2, rfl, rfl, k2, at2, tu2, rit, rS⟩ := hv
    have hS2 := k2 _ _ hS'
    show wpAny _ A.in1 (updateSeq S (fun _ => #[Value.ref r]) >>= _) _ _ _
    refine wpAny_bind (PySem.wpAny_updateSeq hS2 rfl ?_)
    have hS3 := Heap.get?_update_self (Obj.mapSeq fun _ => #[Value.ref r]) hS2 rfl
    refine wpAny_bind (PySem.wpAny_letGo ?_)
    refine wpAny_bind (PySem.wpAny_updateSeq hS3 rfl (wpAny_pure ⟨plainId_quiet PySem.F.plain_sum_loop _, ?_⟩))
    have up : ∀ b o, b ≠ S → h2.get? b = some o → (((h2.update S (Obj.mapSeq fun _ => #[Value.ref r])).update S (Obj.mapSeq fun _ => #[Value.ref r]))).get? b = some o := fun b o hb e =>
      (Heap.get?_update_other _ _ (fun h : S = b => hb h.symm)).trans ((Heap.get?_update_other _ _ (fun h : S = b => hb h.symm)).trans e)
    refine ih (i + 1) { s with heap := _, toks := t1 } r _ (by omega) hlt ?_ ?_ (Heap.get?_update_self _ hS3 rfl) (fun b o e => ?_) at2 ?_ rit rS fun h' tk a q1 q2 q3 => hR h' tk a q1 q2 q3
    · obtain ⟨o, ho, q⟩ := hit'
      exact ⟨o, up _ _ (fun z => hSi z.symm) (k2 _ _ ho), q⟩
    · obtain ⟨o, ho, q⟩ := hl'
      exact ⟨o, up _ _ (fun z => hSl z.symm) (k2 _ _ ho), q⟩
    · exact up _ _ (fun z => by rw [z, n2] at e; cases e) (k2 _ _ (old' _ _ e))
    · obtain ⟨o, ho, q⟩ := tu2
      exact ⟨o, up _ _ rS ho, q⟩
end
end SmT
set_option maxRecDepth 100000
set_option maxHeartbeats 4000000
namespace SmT
open PySem PySem.Spec PyProof.Rows HT
section
variable {prog : Program} {w : World} {A : Around} {E : Value → Shared → Prop} {s : Shared}
theorem call_sumT {l t0 : Addr} {ts : List (Addr × List Value)} {Q : Value → Shared → Prop} (hh : A.handled = none) (hl : s.heap.IsList l (ts.map fun p => Value.ref p.1).toArray)
    (ht0 : IsTup s.heap t0 #[]) (hts : ∀ p ∈ ts, IsTup s.heap p.1 p.2.toArray ∧ p.2 ≠ []) (hz : (cat ts ts.length).length ≤ sizeLine)
    (h : ∀ (h' : Heap) (tk : Tok) (a : Addr), (∀ b o, s.heap.get? b = some o → h'.get? b = some o) → At s.heap t0 ts ts.length a → IsTup h' a (cat ts ts.length).toArray → Q (.ref a) { s with heap := h', toks := tk }) :
    wpAny (model prog w) A (call (.builtin "sum") [.ref l, .ref t0]) Q E s := by
  have tT : ∀ {h' : Heap} {tk : Tok}, (∀ b o, s.heap.get? b = some o → h'.get? b = some o) → Shared.TypeIs { s with heap := h', toks := tk } (.ref t0) "tuple" := fun k => by
    obtain ⟨o, ho, hc, _⟩ := ht0
    exact ⟨o, k _ _ ho, hc⟩
  refine call_function_tree PySem.F.kind_sum PySem.F.plain_sum PySem.F.entry_sum (args_sum2 _ _) ?_
  unfold Builtin.«sum»
  simp only [List.length_cons, List.length_nil]
  rw [if_neg (by decide)]
  refine wpAny_bind (wpAny_of_eq (show Builtin.Builtins.bindParams "sum" ["start"] 0 ⟨[.ref t0], []⟩ = pure [some (.ref t0)] from rfl) ?_)
  refine wpAny_bind (PySem.wpAny_pyIter_list hl ?_)
  refine wpAny_bind (wpAny_pure ?_)
  have k1 : ∀ b o, s.heap.get? b = some o → (s.heap.push { cls := .type "list_iterator", data := .fields #[.ref l, .int 0 0] }).get? b = some o := fun b o e => Heap.get?_push_of_some _ e
  have hI : (s.heap.push { cls := .type "list_iterator", data := .fields #[.ref l, .int 0 0] }).get? s.heap.objs.size = some { cls := .type "list_iterator", data := .fields #[.ref l, .int 0 0] } := Heap.get?_push_size _ rfl
  have sz : (s.heap.push { cls := .type "list_iterator", data := .fields #[.ref l, .int 0 0] }).objs.size = s.heap.objs.size + 1 := Heap.size_push ..
  generalize hh1 : s.heap.push { cls := .type "list_iterator", data := .fields #[.ref l, .int 0 0] } = h1 at k1 hI sz
  simp only [List.forIn_cons, List.forIn_nil]
  refine wpAny_bind (wpAny_bind (wpAny_bind (wpAny_isInstance (T := "tuple") (b := false) (tT (tk := s.toks) k1) PySem.F.sub_tuple_str ?_)))
  simp only [Bool.false_eq_true, if_false]
  refine wpAny_pure (wpAny_bind (wpAny_bind (wpAny_isInstance (T := "tuple") (b := false) (tT (tk := s.toks) k1) PySem.F.sub_tuple_bytes ?_)))
  simp only [Bool.false_eq_true, if_false]
  refine wpAny_pure (wpAny_bind (wpAny_bind (wpAny_isInstance (T := "tuple") (b := false) (tT (tk := s.toks) k1) PySem.F.sub_tuple_bytearray ?_)))
  simp only [Bool.false_eq_true, if_false]
  refine wpAny_pure (wpAny_pure ?_)
  refine wpAny_bind (wpAny_newObj_type ?_)
  have ll : l < s.heap.objs.size := by obtain ⟨o, ho, _⟩ := hl; exact Heap.lt_size ho
  have none1 : ∀ b, s.heap.objs.size ≤ b → s.heap.get? b = none := fun b hb => by
    cases e : s.heap.get? b with
    | none => rfl
    | some o => exact absurd (Heap.lt_size e) (Nat.not_lt.mpr hb)
  have t0l : t0 < s.heap.objs.size := by obtain ⟨o, ho, _⟩ := ht0; exact Heap.lt_size ho
  have k2 : ∀ b o, s.heap.get? b = some o → (h1.push { cls := .type "list", data := .seq #[.ref t0] }).get? b = some o := fun b o e => Heap.get?_push_of_some _ (k1 _ _ e)
  refine wpAny_pure ⟨plainId_quiet PySem.F.plain_sum_loop _, loop (it := s.heap.objs.size) (l := l) (S := h1.objs.size) (t0 := t0) (ts := ts) (h0 := s.heap) hh (Nat.ne_of_lt ll) (by rw [sz]; exact Nat.succ_ne_self _) (by rw [sz]; exact Nat.ne_of_gt (Nat.lt_succ_of_lt ll)) (none1 _ (Nat.le_refl _)) (none1 _ (by rw [sz]; exact Nat.le_succ _)) ht0 hts hz
    _ 0 _ t0 _ rfl (Nat.zero_le _) ?_ ?_ (Heap.get?_push_size _ rfl) k2 (.inl ⟨rfl, rfl⟩) ?_ (Nat.ne_of_lt t0l) (by rw [sz]; exact Nat.ne_of_lt (Nat.lt_succ_of_lt t0l)) fun h' tk a q1 q2 q3 => h h' tk a q1 q2 q3⟩
  · exact ⟨_, Heap.get?_push_of_some _ hI, rfl, rfl⟩
  · obtain ⟨o, ho, q⟩ := hl
    exact ⟨o, k2 _ _ ho, q⟩
  · obtain ⟨o, ho, q⟩ := ht0
    exact ⟨o, k2 _ _ ho, by simpa [cat] using q⟩
end
end SmT
namespace L2
open PySem PySem.Spec PyProof.Rows HT
def rSumT (K : PySem.W.Frag) : List V → Hp → VK → Prop := fun vs H Q => ∃ (l t0 : Addr) (bs : List (Addr × List V)), vs = [.ref l, .ref t0] ∧ SqL K H l (bs.map fun b => V.ref b.1) ∧ SqT K H t0 [] ∧ (∀ b ∈ bs, b.2 ≠ [] ∧ SqT K H b.1 b.2) ∧ ((bs.map (·.2)).flatten).length ≤ sizeLine ∧
  ∀ a H', Same H H' → SqT K H' a (bs.map (·.2)).flatten → Q (.ref a) H'
section
variable {X : Cx}
theorem tups_of {pins : List (Addr × Obj)} {σ : St} {H : Hp} {s : Shared} (I : Inv X pins σ H s) : ∀ (bs : List (Addr × List V)), (∀ b ∈ bs, b.2 ≠ [] ∧ SqT X.K H b.1 b.2) →
    ∃ ts : List (Addr × List Value), ts.map (·.1) = bs.map (·.1) ∧ (∀ p ∈ ts, IsTup s.heap p.1 p.2.toArray ∧ p.2 ≠ []) ∧ Vals (bs.map (·.2)).flatten (ts.map (·.2)).flatten
  | [], _ => ⟨[], rfl, fun _ h => absurd h (by simp), .nil⟩
  | b :: bs, h => by
    obtain ⟨h1, h2⟩ := h b List.mem_cons_self
    obtain ⟨ts, e1, e2, e3⟩ := tups_of I bs fun c hc => h c (List.mem_cons_of_mem _ hc)
    obtain ⟨its, r1, p1, _⟩ := I.tuple h2
    refine ⟨(b.1, its) :: ts, by rw [List.map_cons, List.map_cons, e1], fun p hp => ?_, ?_⟩
    · rcases List.mem_cons.mp hp with rfl | hp
      · exact ⟨p1, fun (z : its = []) => h1 (by have hl := r1.length; rw [z] at hl; exact List.length_eq_zero_iff.mp hl)⟩
      · exact e2 p hp
    · rw [List.map_cons, List.map_cons, List.flatten_cons, List.flatten_cons]
      exact r1.append e3
theorem cr_sumT (hc : X.calm = true) : CallR X (.builtin "sum") (rSumT X.K) := by
  intro pins s σ H vs us Q I r h
  obtain ⟨l, t0, bs, rfl, hs, ht, hb, hz, q⟩ := h
  obtain ⟨its, rv, hl, _⟩ := I.list hs
  obtain ⟨it0, r0, p0, _⟩ := I.tuple ht
  cases r0
  obtain ⟨ts, e1, e2, e3⟩ := tups_of I bs hb
  obtain ⟨u1, u2, rfl, ru1, ru2⟩ := vals2 r
  cases ru1
  cases ru2
  have eL : its = ts.map fun p => Value.ref p.1 := by
    have h1 : ts.map (fun p => Value.ref p.1) = (ts.map (·.1)).map Value.ref := by rw [List.map_map]; rfl
    rw [h1, e1]
    refine refs_at ?_
    rw [List.map_map]
    exact rv
  have eC : SmT.cat ts ts.length = (ts.map (·.2)).flatten := by
    unfold SmT.cat
    rw [List.take_length]
  rw [eL] at hl
  refine SmT.call_sumT (I.ok.hd hc) hl.isList p0 e2 (by rw [eC, ← e3.length]; exact hz) fun h' tk a k1 at1 tu => ?_
  rw [eC] at tu
  have hI := I.kept (t' := tk) k1
  have len : ts.length = bs.length := by
    have := congrArg List.length e1
    rw [List.length_map, List.length_map] at this
    exact this
  rcases at1 with ⟨n0, rfl⟩ | ⟨n1, p, hp, rfl⟩ | ⟨_, hn⟩
  · refine ⟨.ref a, H, hI, rfl, q a H (fun _ _ e => e) ?_⟩
    have : bs = [] := List.length_eq_zero_iff.mp (by omega)
    rw [this]
    exact ht
  · refine ⟨.ref p.1, H, hI, rfl, q p.1 H (fun _ _ e => e) ?_⟩
    cases bs with
    | nil =>
      rw [n1] at len
      exact absurd len (by simp)
    | cons b m =>
      have m0 : m = [] := List.length_eq_zero_iff.mp (by rw [List.length_cons] at len; omega)
      subst m0
      have ep : p.1 = b.1 := by
        cases ts with
        | nil => simp at hp
        | cons c k =>
          have : c = p := by simpa using hp
          subst this
          exact (List.cons.inj e1).1
      rw [ep]
      simpa using (hb b List.mem_cons_self).2
  · refine ⟨.ref a, upd H a (.tup (bs.map (·.2)).flatten), I.laidN (t' := tk) k1 hn (I.hok.gone hn) ⟨hz, _, e3, tu⟩, rfl, q a _ (fun b o e => ?_) (.inl (.inl (upd_same)))⟩
    rw [upd_ne (ne_of_none e (I.hok.gone hn))]
    exact e
end
end L2
set_option maxRecDepth 100000
set_option maxHeartbeats 4000000
namespace EnT
open PySem PySem.Spec PyProof.Rows
open AutoSeq1 (wpAny_loadPart')
theorem meets_newT (l : Addr) (items : Array Value) (n : Nat) (dct : Option Addr) (sl : Array (Option Value)) :
    Meets (Builtin.«enumerate.__new__» ⟨[.type "enumerate", .ref l], []⟩) (fun _ R s => s.heap.get? l = some { cls := .type "tuple", dict := dct, data := .seq items n, slots := sl } ∧
      R (.ok (.ret (.ref (s.heap.push { cls := .type "tuple_iterator", data := .fields #[.ref l, .int 0 0] }).objs.size)))
        { s with heap := (s.heap.push { cls := .type "tuple_iterator", data := .fields #[.ref l, .int 0 0] }).push { cls := .type "enumerate", data := .fields #[.none, .bool false, .ref s.heap.objs.size, rawInt 0, .none, .none] } }) :=
  .of_wp fun prog w A R s h => by
    obtain ⟨hp, g, d, tk, os⟩ := s; obtain ⟨hl, h⟩ := h
    have hsub := PySem.sub_enumerate
    have hL : Heap.IsTuple (Shared.heap ⟨hp, g, d, tk, os⟩) l items := ⟨_, hl, rfl, n, rfl⟩
    wp_walk using wpAny_loadPart' hl
    refine wpAny_stack_any fun st => wpAny_pure ?_
    split
    · rename_i c _ _ _ _ _
      cases (c == Value.type "enumerate")
      · wp_walk using wpAny_loadPart' hl, PySem.wpAny_pyIter_tuple hL
        exact ⟨_, rfl, h⟩
      · wp_walk using wpAny_loadPart' hl, PySem.wpAny_pyIter_tuple hL
        exact ⟨_, rfl, h⟩
    · wp_walk using wpAny_loadPart' hl, PySem.wpAny_pyIter_tuple hL
      exact ⟨_, rfl, h⟩
section
variable {prog : Program} {w : World} {A : Around} {E : Value → Shared → Prop} {s : Shared}
theorem call_enumT {l : Addr} {items : Array Value} {Q : Value → Shared → Prop} (hL : s.heap.IsTuple l items)
    (h : ∀ h', IsEnum h' (s.heap.objs.size + 1) s.heap.objs.size 0 .none → h'.IsTupleIter s.heap.objs.size l 0 → h'.objs.size = s.heap.objs.size + 2 →
      (∀ b o, s.heap.get? b = some o → h'.get? b = some o) → Q (.ref (s.heap.objs.size + 1)) { s with heap := h' }) :
    wpAny (model prog w) A (call (.type "enumerate") [.ref l]) Q E s := by
  obtain ⟨⟨c, dct, dt, sl⟩, hl, hc, n, hd⟩ := hL
  replace hc : c = .type "tuple" := hc
  replace hd : dt = .seq items n := hd
  subst hc hd
  refine callType_new PySem.F.called_enumerate (by decide) (PySem.F.typeCall_enumerate_1 _) (PySem.F.newCall_enumerate_1 _) (fun obj => PySem.F.args_object_init_2 obj _) PySem.F.entry_enumerate_new
    (meets_newT l items n dct sl) ⟨hl, ?_⟩
  have hz : (s.heap.push { cls := .type "tuple_iterator", data := .fields #[.ref l, .int 0 0] }).objs.size = s.heap.objs.size + 1 := Heap.size_push ..
  show _ ∧ _
  rw [hz]
  have he : IsEnum ((s.heap.push { cls := .type "tuple_iterator", data := .fields #[.ref l, .int 0 0] }).push
      { cls := .type "enumerate", data := .fields #[.none, .bool false, .ref s.heap.objs.size, rawInt 0, .none, .none] }) (s.heap.objs.size + 1) s.heap.objs.size 0 .none := by
    have := Heap.get?_push_size (s.heap.push { cls := .type "tuple_iterator", data := .fields #[.ref l, .int 0 0] })
      (o := { cls := .type "enumerate", data := .fields #[.none, .bool false, .ref s.heap.objs.size, rawInt 0, .none, .none] }) rfl
    rw [hz] at this; exact this
  refine ⟨⟨_, he, rfl⟩, h _ he ⟨_, Heap.get?_push_of_some _ (Heap.get?_push_size _ rfl), rfl, rfl⟩ (by rw [Heap.size_push, hz]) fun b o x => Heap.get?_push_of_some _ (Heap.get?_push_of_some _ x)⟩
end
end EnT
namespace L2
open PySem PySem.Spec PyProof.Rows HT
def Iteu (K : PySem.W.Frag) (a : Addr) : It :=
  ⟨fun i H => ∃ (xs : List V) (x : V), SqT K H a xs ∧ xs[i]? = some x, fun i H v H' => ∃ T x, v = .ref T ∧ H T = none ∧ H' = upd H T (.tup [.int (i : Nat), x]) ∧ ∀ xs, SqT K H a xs → xs[i]? = some x, fun i H => ∃ xs : List V, SqT K H a xs ∧ xs.length ≤ i⟩
theorem tuple_of {h : Heap} {a : Addr} {items : Array Value} (x : IsTup h a items) : h.IsTuple a items := by
  obtain ⟨o, ho, hc, n, hd⟩ := x
  exact ⟨o, ho, hc, n, hd⟩
theorem turn_enumU {P : Program} {w : World} {K : PySem.W.Frag} {elts : List Expr} {kk : Nat} {tpos : Pos} (a e it : Addr) :
    Turn P w K (.Tuple elts kk tpos) (Iteu K a) [e, it] e (fun i h => (∃ old, IsEnum h e it ((i : Nat) : Int) old) ∧ h.IsTupleIter it a i ∧ e ≠ it) where
  mem := by simp
  obj := fun i h st b hb => by
    obtain ⟨⟨old, he⟩, ⟨o, ho, hc, hd⟩, _⟩ := st
    have e' : b = e ∨ b = it := by simpa using hb
    rcases e' with z | z
    · rw [z]; exact ⟨_, he, fun v q => nomatch q⟩
    · rw [z]; exact ⟨o, ho, fun v q => by rw [hd] at q; cases q⟩
  keep := fun i h h' st k => let ⟨⟨old, he⟩, hi, hne⟩ := st; ⟨⟨old, k e (by simp) _ he⟩, hi.at fun o q => k it (by simp) o q, hne⟩
  item := by
    intro X hP hw hK hc i pins s σ H E I hf st hg
    subst hP hw hK
    obtain ⟨⟨old, he⟩, hit, hne⟩ := st
    obtain ⟨xs, x, hq, hx⟩ := hg
    obtain ⟨its, rv, p, hz⟩ := I.tuple hq
    obtain ⟨u, hu, ru⟩ := rv.get hx
    have hel : e < s.heap.objs.size := Heap.lt_size he
    have hil : it < s.heap.objs.size := by obtain ⟨_, q, _⟩ := hit; exact Heap.lt_size q
    have pt := tuple_of p
    have hai : a ≠ it := fun z => by
      obtain ⟨o, ho, hc, _⟩ := hit
      obtain ⟨o2, ho2, hc2, _⟩ := pt
      rw [z, ho] at ho2
      cases ho2
      rw [hc] at hc2
      exact absurd hc2 (by simp)
    have hae : a ≠ e := fun z => by
      obtain ⟨o2, ho2, hc2, _⟩ := pt
      rw [z, he] at ho2
      cases ho2
      exact absurd hc2 (by simp)
    have hi : i < its.toArray.size := by
      rw [List.size_toArray]
      exact (List.getElem?_eq_some_iff.mp hu).1
    refine PySem.wpAny_pyNext_enum_itemD (PySem.Draws.tuple (prog := X.prog) (w := X.w) (A := X.A.in1) (I.ok.hd hc) it a hai its.toArray) he ⟨hit, pt⟩ hi hne (by simpa using ⟨hne, fun z => hae z.symm⟩) fun x' h' tk hP ho hst' hT hsz hk => ?_
    have ex : x' = u := by
      have hP' : its.toArray[i]? = some x' := hP
      rw [List.getElem?_toArray, hu] at hP'
      exact (Option.some.inj hP').symm
    subst ex
    obtain ⟨hit', _⟩ := hst'
    refine ⟨_, rfl, wpAny_letOwnedTupleGo_enum (s := { s with heap := h', toks := tk + 1 }) ho fun h'' he' sb => ?_⟩
    have hT2 : h''.get? s.heap.objs.size = some { cls := .type "tuple", data := .seq #[.int i tk, x'] } := (sb.2 _ (Nat.ne_of_gt hel)).trans hT
    have new : ObjOk X.prog X.w (upd H s.heap.objs.size (.tup [.int (i : Nat), x])) h'' s.heap.objs.size (.tup [.int (i : Nat), x]) :=
      ⟨by show 2 ≤ sizeLine; decide, [.int i tk, x'], .cons ⟨_, rfl⟩ (.cons ru .nil), ⟨_, hT2, rfl, _, rfl⟩⟩
    have I1 : Inv X pins σ (upd H s.heap.objs.size (.tup [.int (i : Nat), x])) { s with heap := h'', toks := tk + 1 } :=
      I.turnedNew (ch := [e, it]) (fun b ob hb q => (sb.2 b (fun z => hb (by simp [z]))).trans (hk b ob (fun z => hb (by simp [z])) (fun z => hb (by simp [z])) q)) hf (Nat.le_refl _) new
    refine ⟨.ref s.heap.objs.size, _, I1, rfl, ⟨_, x, rfl, I.hok.fresh (Nat.le_refl _), rfl, fun ys hy => by rw [I.tuple_inj hy hq]; exact hx⟩, ⟨⟨x', ?_⟩, hit'.at fun o q => (sb.2 it (Ne.symm hne)).trans q, hne⟩, fun b hb => ?_⟩
    · have e1 : ((i + 1 : Nat) : Int) = (i : Int) + 1 := by omega
      rw [e1]; exact he'
    · have hb' : b < s.heap.objs.size := by
        have e' : b = e ∨ b = it := by simpa using hb
        rcases e' with z | z
        · rw [z]; exact hel
        · rw [z]; exact hil
      rw [upd_ne (Nat.ne_of_lt hb')]
      exact (hf b hb).1
  done := by
    intro X hP hw hK hc i pins s σ H E I hf st hg
    subst hP hw hK
    obtain ⟨⟨old, he⟩, hit, hne⟩ := st
    obtain ⟨xs, hq, hx⟩ := hg
    obtain ⟨its, rv, p, hz⟩ := I.tuple hq
    obtain ⟨f0, f1, f2, f3, f4, f5⟩ := hf it (by simp)
    have hl := rv.length
    have pt := tuple_of p
    have hT : s.TypeIs (.ref e) "enumerate" := ⟨_, he, rfl⟩
    unfold pyNext
    refine wpAny_bind (wpAny_attempt (PySem.wpAny_callSpecial?_slot (name := Str.ofString "__next__") hT PySem.F.slot_enumerate_next
      (PySem.wpAny_call_entry PySem.F.slot_enumerate_next hT PySem.F.entry_enumerate_next ?_ (PySem.F.args_enumerate_next_1 _))))
    show wpAny _ _ (field (.ref e) 2 >>= _) _ _ _
    refine wpAny_bind (PySem.wpAny_field he rfl (x := .ref it) rfl ?_)
    refine wpAny_bind (PySem.wpAny_nextOf_tuple_end (I.ok.hd hc) hit pt (by simp; omega) fun h' x eb hx' => ?_)
    obtain ⟨o, ho, hc'⟩ := hx'
    refine wpAny_bind (wpAny_isInstance (T := "StopIteration") (b := true) ⟨o, ho, hc'⟩ PySem.isSubtype_stop ?_)
    exact wpAny_pure ⟨rfl, I.turned (t' := s.toks) (fun b o hb q => eb b o hb q) f0 f1 f3 f4 f5⟩
  self := fun A i s Q E st h => let ⟨⟨_, he⟩, _⟩ := st; wpAny_pyIter_enum he h
def iEnumU (K : PySem.W.Frag) (ta : TA) : TI := fun σ H R => ta σ H fun vs H1 => ∃ a xs, vs = [.ref a] ∧ SqT K H1 a xs ∧ R (Iteu K a) H1
theorem pi_enumU {X : Cx} {e : Expr} {ta : TA} {p pos tpos : Pos} {elts : List Expr} {kk : Nat} (hg : Gl X "enumerate") (hm : X.mg "enumerate" = none) (ha : PA X [e] ta) (hs : starEach [e] X.env = [(false, eval e X.env)] := by rfl) :
    PI X (.Tuple elts kk tpos) (.Call (.Name "enumerate" p) [e] [] pos) (iEnumU X.K ta) := by
  refine ⟨fun pins s σ H R I h => ?_⟩
  refine Call_ (ld_blt I hg hm boot_enumerate (PyProof.Rows.callWith_type1 (thn (ha.run pos pins s σ H _ I h) fun us s1 ⟨vs, H1, I1, r1, q1⟩ => ?_) hs rfl))
  obtain ⟨a, xs, ex, hq, q⟩ := q1
  subst ex
  cases r1 with
  | cons r rr =>
    cases rr
    cases r
    obtain ⟨its, rv, p', hz⟩ := I1.tuple hq
    refine EnT.call_enumT (tuple_of p') fun h' he hit hsz hk => wpAny_pyIter_enum he ?_
    have I2 : Inv X pins σ H1 { s1 with heap := h' } := I1.kept (t' := s1.toks) hk
    refine ⟨s1.heap.objs.size + 1, [s1.heap.objs.size + 1, s1.heap.objs.size], _, _, H1, rfl, I2, turn_enumU a (s1.heap.objs.size + 1) s1.heap.objs.size, ⟨⟨.none, he⟩, hit, Nat.succ_ne_self _⟩, fun b hb => ?_, q⟩
    have e' : b = s1.heap.objs.size + 1 ∨ b = s1.heap.objs.size := by simpa using hb
    have hle : s1.heap.objs.size ≤ b := by
      rcases e' with z | z
      · rw [z]; exact Nat.le_add_right _ _
      · rw [z]; exact Nat.le_refl _
    exact I1.fpOk hle (I1.hok.fresh hle)
theorem walk_enumU {K : PySem.W.Frag} {a : Addr} {xs : List V} : Walk (Iteu K a) xs.length (fun H => SqT K H a xs) (YPair (fun i => some (.int (i : Nat))) (fun i => xs[i]?)) := by
  refine ⟨fun i _ hi q => ⟨xs, xs[i], q, by simp [hi]⟩, fun _ q => ⟨xs, q, Nat.le_refl _⟩, fun i H v H' _ q y => ?_⟩
  obtain ⟨T, x, h1, h2, h3, h4⟩ := y
  exact ⟨T, .int (i : Nat), x, h1, h2, h3, rfl, h4 xs q⟩
end L2
set_option maxRecDepth 100000
set_option maxHeartbeats 4000000
namespace LamX
open PySem PySem.Spec PyProof.Rows L2
def LamO (fl co : Addr) (q : Str) (ps : Arguments) (bd : Expr) (lsc : Scope) (clo : List (Str × Addr)) : HO := .ext fun h => ∃ pm ctv : Value, h.get? fl = some (PySem.W.kla_obj "<lambda>" q ps bd lsc clo pm co ctv)
theorem lamO_ok {P : Program} {w : World} {H : Hp} {h : Heap} {fl co : Addr} {q : Str} {ps : Arguments} {bd : Expr} {lsc : Scope} {clo : List (Str × Addr)} {pm ctv : Value} (e : h.get? fl = some (PySem.W.kla_obj "<lambda>" q ps bd lsc clo pm co ctv)) : ObjOk P w H h fl (LamO fl co q ps bd lsc clo) :=
  ⟨⟨pm, ctv, e⟩, ⟨_, e⟩, fun _ _ ⟨pm, ctv, z⟩ st => ⟨pm, ctv, st _ z⟩⟩
section
variable {X : Cx} {pins : List (Addr × Obj)} {σ : L2.St} {H : Hp} {s : Shared}
theorem lam_made {Ts : List (Addr × Str)} {c P : Addr} {ps : Arguments} {bd : Expr} {lsc : Scope} {pos : Pos} {E : Value → Shared → Prop} {Q : Value → Shared → Prop} (I : Inv X pins σ H s) (TB : TabB X.base X.mg c P) (own : X.env.code = .ref c)
    (mem : (P, X.env.qual ++ "<lambda>") ∈ Ts) (uni : ∀ p ∈ Ts, p.1 = P → p.2 = X.env.qual ++ "<lambda>") (tabs : Tabs Ts H) (nodef : defaultsOf ps X.env = ([], [])) (fr : ∀ y ∈ lsc.names, y.2 = .free → ∃ c, X.env.cells.lookup y.1 = some c)
    (go : ∀ (fl co : Addr) (G : Hp) (s' : Shared), Inv X pins σ G s' → ExtN H G → Tabs Ts G → H fl = none → G fl = some (LamO fl co (X.env.qual ++ "<lambda>") ps bd lsc (cloFrom X.env.cells lsc.names [])) → G co = some (CodeO co (X.env.qual ++ "<lambda>")) → Q (.ref fl) s') :
    wpAny (model X.prog X.w) X.A (eval (.Lambda ps bd lsc pos) X.env) Q E s := by
  obtain ⟨arr, e1, e2, e3⟩ := tabs _ mem
  refine PySem.W.kla_eval nodef ?_
  have bm : s.heap.BuiltinsAt X.mg P := TB.bm.keeps I.bk
  have arrH : s.heap.get? P = some { cls := .none, data := .fields arr } := I.hok P _ e1
  cases found : codeAmong pos arr.toList with
  | none =>
    refine PySem.W.kla_makeFunction (mg := X.mg) (c := c) (P := P) (ps := arr) (closure_ok fr) I.ok.glob (I.mod.glob.keeps I.bk) own (TB.code.keeps I.bk) arrH e2 found TB.gP bm fun co ctv g tk old low high made tab => ?_
    obtain ⟨c2, oc, fs, tok, eq, ho, hf, hq⟩ := made
    cases eq
    have grow : s.heap.objs.size ≤ g.objs.size := Nat.le_trans low (Nat.le_of_lt high)
    have new : H co = none := I.hok.fresh low
    have J := inv_table (t' := tk) (more := #[rawInt pos.line, rawInt pos.col, .ref co]) (h' := g) I e1 old tab low ⟨oc, fs, tok, ho, hf, hq⟩
    generalize eK : upd (upd H P (.tbl (arr ++ #[rawInt pos.line, rawInt pos.col, .ref co]))) co (CodeO co (X.env.qual ++ "<lambda>")) = K1 at J
    have x1 : ExtN H K1 := fun b o e n => by
      rw [← eK, upd_ne (ne_of_none e new), upd_ne (fun z => n arr (Option.some.inj (e.symm.trans (by rw [z]; exact e1))))]
      exact e
    have nP : g.objs.size ≠ P := Nat.ne_of_gt (Nat.lt_of_lt_of_le (Heap.lt_size arrH) grow)
    have nc : g.objs.size ≠ co := Nat.ne_of_gt high
    have free : K1 g.objs.size = none := by
      rw [← eK, upd_ne nc, upd_ne nP]
      exact I.hok.fresh grow
    have fH : H g.objs.size = none := I.hok.fresh grow
    have eC : K1 co = some (CodeO co (X.env.qual ++ "<lambda>")) := by rw [← eK]; exact upd_same
    have eT : K1 P = some (.tbl (arr ++ #[rawInt pos.line, rawInt pos.col, .ref co])) := by rw [← eK, upd_ne (ne_of_none e1 new), upd_same]
    have tb1 : Tabs Ts K1 := fun p hp => by
      have asL : (arr ++ #[rawInt pos.line, rawInt pos.col, .ref co]).toList = arr.toList ++ [rawInt pos.line, rawInt pos.col, .ref co] := by simp
      by_cases hb : p.1 = P
      · rw [uni p hp hb, hb]
        refine ⟨_, eT, by rw [asL]; exact PySem.TriplesOk_snoc _ _ _ _ e2, fun p' cv k => ?_⟩
        rw [asL] at k
        rcases among_app _ e2 k with z | z
        · obtain ⟨c0, w1, w2⟩ := e3 p' cv z
          exact ⟨c0, w1, x1 _ _ w2 codeO_ne⟩
        · exact ⟨co, z, eC⟩
      · obtain ⟨arr', w1, w2, w3⟩ := tabs p hp
        refine ⟨arr', by rw [← eK, upd_ne (ne_of_none w1 new), upd_ne hb]; exact w1, w2, fun p' cv k => ?_⟩
        obtain ⟨c0, v1, v2⟩ := w3 p' cv k
        exact ⟨c0, v1, x1 _ _ v2 codeO_ne⟩
    have lay := J.laid (a := g.objs.size) (t' := tk) (o := LamO g.objs.size co (X.env.qual ++ "<lambda>") ps bd lsc (cloFrom X.env.cells lsc.names [])) (h' := g.push (PySem.W.kla_obj "<lambda>" (X.env.qual ++ "<lambda>") ps bd lsc (cloFrom X.env.cells lsc.names []) ((X.mg "__name__").getD .none) co ctv))
      (fun _ _ e => Heap.get?_push_of_some _ e) (Nat.le_refl _) (lamO_ok (Heap.get?_push_size _ rfl))
    exact go g.objs.size co _ _ lay (fun b o e n => by rw [upd_ne (ne_of_none (x1 b o e n) free)]; exact x1 b o e n) (tb1.ext fun b o e => by rw [upd_ne (ne_of_none e free)]; exact e) fH upd_same (by rw [upd_ne (ne_of_none eC free)]; exact eC)
  | some cv =>
    obtain ⟨co, ec, known⟩ := e3 pos cv found
    subst ec
    refine PySem.W.kla_makeFunctionHit (mg := X.mg) (c := c) (P := P) (ps := arr) (closure_ok fr) I.ok.glob (I.mod.glob.keeps I.bk) own (TB.code.keeps I.bk) arrH e2 found bm fun ctv g tk old grow => ?_
    have free : H g.objs.size = none := I.hok.fresh grow
    have lay := I.laid (a := g.objs.size) (t' := tk) (o := LamO g.objs.size co (X.env.qual ++ "<lambda>") ps bd lsc (cloFrom X.env.cells lsc.names [])) (h' := g.push (PySem.W.kla_obj "<lambda>" (X.env.qual ++ "<lambda>") ps bd lsc (cloFrom X.env.cells lsc.names []) ((X.mg "__name__").getD .none) co ctv))
      (fun b o e => Heap.get?_push_of_some _ (old b o e)) grow (lamO_ok (Heap.get?_push_size _ rfl))
    exact go g.objs.size co _ _ lay (fun b o e _ => by rw [upd_ne (ne_of_none e free)]; exact e) (tabs.ext fun b o e => by rw [upd_ne (ne_of_none e free)]; exact e) free upd_same (by rw [upd_ne (ne_of_none known free)]; exact known)
theorem act_known {CXg : CXT} {Eg : XK} {names : List Str} {qg : Str} {sg : Scope} {g fl co : Addr} {cdg : Value} {ps : Arguments} {bd : Expr} {lsc : Scope} {k i : Nat} {a : Str} {pn : List (Addr × Obj)} {xe : Value → Shared → Prop} {W : WX} {Ew : L2.St → XK} {rd : XK → TE} {p1 p2 : Pos}
    (I : Inv X pins σ H s) (L : LamS X.env.scope lsc)
    (noArgs : ∀ pm ctv : Value, bindArgs (PySem.W.kla_fn "<lambda>" (X.env.qual ++ "<lambda>") ps bd lsc (cloFrom X.env.cells lsc.names []) pm (.ref co) ctv) ⟨[], []⟩ = pure [])
    (tk : Takes ((cxOf CXg X.prog X.w X.K X.mg X.base names qg sg g cdg X.A X.stack s H Eg).tr pn xe) W) (wish : ∀ τ cls d H', Ew τ cls d H' → W cls d τ H') (room : Room (k + 1) (X.A.deeper (envOfC qg sg s.heap.objs.size g cdg)))
    (body : ∀ (E : XK) (A : Around) (outer : List Env) (s : Shared) (H : Hp), Room k (A.deeper (lamEnv X lsc s.heap.objs.size fl co)) → PE (lamCx X A outer s H E lsc fl co) bd (rd E))
    (at_ : names[i]? = some a) (vis : Vis sg a) (n1 : (a == ("__debug__" : Str)) = false) (n2 : (a == ("__classdict__" : Str)) = false) :
    PE ((cxOf CXg X.prog X.w X.K X.mg X.base names qg sg g cdg X.A X.stack s H Eg).tr pn xe) (.Call (.Name a p1) [] [] p2)
      (fun τ G Q => τ[i]? = some (some (.ref fl)) ∧ G fl = some (LamO fl co (X.env.qual ++ "<lambda>") ps bd lsc (cloFrom X.env.cells lsc.names [])) ∧ G co = some (CodeO co (X.env.qual ++ "<lambda>")) ∧ rd (Ew τ) σ G Q) := by
  refine ⟨fun pz sz τ G Q J hyp => ?_⟩
  obtain ⟨slot, known, code, want⟩ := hyp
  have load := (pe_var (pos := p1) (i := i) at_ vis n1 n2).run pz sz τ G (fun v G' => v = .ref fl ∧ G' = G) J ⟨.ref fl, slot, rfl, rfl⟩
  refine wpAny_Call_Name_kw (thn load fun u s1 ⟨v, G', J1, ru, ev, eG⟩ => ?_)
  subst ev eG
  obtain rfl : u = Value.ref fl := ru
  have there : ObjOk X.prog X.w G' s1.heap fl (LamO fl co (X.env.qual ++ "<lambda>") ps bd lsc (cloFrom X.env.cells lsc.names [])) := J1.hok fl _ known
  obtain ⟨⟨pm, ctv, here⟩, _, _⟩ := there
  refine PySem.W.callWith_F0 ⟨_, _, _, _, here⟩ ?_
  have since : Un (frs X.stack) [] H G' s.heap s1.heap := J1.base
  obtain ⟨⟨oc, fields, tok, ho, hf, hq⟩, _, _⟩ := J1.hok co _ code
  have run : codeAny (model X.prog X.w) (X.A.deeper (envOfC qg sg s.heap.objs.size g cdg)) (.call (.ref fl) ⟨[], []⟩) (CR (L2.CX X.prog X.w) (envOfC qg sg s.heap.objs.size g cdg :: X.stack) X.prog X.w G' s1 Q (Ew τ)) s1 := by
    refine PySem.W.kla_callFunE room.depth here rfl L.co L.gen rfl ⟨co, oc, fields, tok, rfl, ho, hf, hq⟩ ?_
    rw [noArgs]
    refine wpAny_pure (wpAny_newFunctionEnv (fun y hy => (L.own y hy).2) (fun y hy => absurd hy (by simp)) (fun h' ns but => ⟨J1.nolimit.fresh _ but, ?_⟩) L.kind)
    have stays : ∀ b o, s1.heap.get? b = some o → h'.get? b = some o := fun b o e => but.extBut b o (Nat.ne_of_lt (Heap.lt_size e)) (Heap.get?_push_of_some _ e)
    have start : Inv (lamCx X (X.A.deeper (envOfC qg sg s.heap.objs.size g cdg)) (envOfC qg sg s.heap.objs.size g cdg :: X.stack) s1 G' (Ew τ) lsc fl co) [] σ G' { s1 with heap := h', toks := s1.toks + ([] : List (Str × Value)).length } :=
      lam_start2 I L J1.env0 room.hd since ns stays
    show codeAny _ _ (.expr bd (lamEnv X lsc s1.heap.objs.size fl co)) _ _
    refine PySem.W.kla_codeExpr (wpAny_mono ((body (Ew τ) _ _ s1 G' (room.deeper _)).run [] _ _ G' Q start want) (fun v s' ⟨x, G2, J2, rx, q⟩ => ?_) fun e s' q => q)
    exact ⟨x, G2, J2.os, J2.bare, J2.base, J2.hok, rx, q⟩
  refine wpAny_call (codeAny_mono run fun r s' q => ?_)
  match r with
  | .error e => exact tk e s' (XE.of_call J1 (fun cls d G2 z => wish τ cls d G2 z) q)
  | .ok (.ret u) => exact J1.after q
  | .ok .next => exact False.elim q
  | .ok .brk => exact False.elim q
  | .ok .cont => exact False.elim q
end
structure LamIs (X : Cx) (k : Nat) (t : XK → TE) (fl co : Addr) (o : HO) : Prop where
  ex : ∃ (ps : Arguments) (bd : Expr) (lsc : Scope), o = LamO fl co (X.env.qual ++ "<lambda>") ps bd lsc (cloFrom X.env.cells lsc.names []) ∧ LamS X.env.scope lsc ∧
    (∀ (q : Str) (cl : List (Str × Addr)) (pm cv ctv : Value), bindArgs (PySem.W.kla_fn "<lambda>" q ps bd lsc cl pm cv ctv) ⟨[], []⟩ = pure []) ∧
    ∀ (A : Around) (outer : List Env) (s : Shared) (H : Hp) (E : XK), Room k (A.deeper (lamEnv X lsc s.heap.objs.size fl co)) → PE (lamCx X A outer s H E lsc fl co) bd (t E)
theorem lamO_ne {fl co : Addr} {q : Str} {ps : Arguments} {bd : Expr} {lsc : Scope} {clo : List (Str × Addr)} (arr : Array Value) : LamO fl co q ps bd lsc clo ≠ .tbl arr := fun z => by
  unfold LamO at z
  cases z
def IsLam (X : Cx) (k : Nat) (q : Str) (t : XK → TE) (G : Hp) (v : V) : Prop := ∃ (fl co : Addr) (o : HO), v = .ref fl ∧ G fl = some o ∧ LamIs X k t fl co o ∧ G co = some (CodeO co q)
theorem IsLam.ext {X : Cx} {k : Nat} {q : Str} {t : XK → TE} {G G' : Hp} {v : V} (h : IsLam X k q t G v) (e : ExtN G G') : IsLam X k q t G' v := by
  obtain ⟨fl, co, o, ev, h1, h2, h3⟩ := h
  obtain ⟨ps, bd, lsc, rfl, _⟩ := h2.ex
  exact ⟨fl, co, _, ev, e _ _ h1 lamO_ne, h2, e _ _ h3 codeO_ne⟩
def tLamV (X : Cx) (Ts : List (Addr × Str)) (k : Nat) (q : Str) (t : XK → TE) : TE := fun _ H Q => Tabs Ts H ∧ ∀ v G, ExtN H G → Tabs Ts G → IsLam X k q t G v → (∀ a, v = .ref a → H a = none) → Q v G
section
variable {X : Cx}
theorem pe_lamV {Ts : List (Addr × Str)} {c P : Addr} {k : Nat} {q : Str} {ps : Arguments} {bd : Expr} {lsc : Scope} {t : XK → TE} {pos : Pos} (TB : TabB X.base X.mg c P) (own : X.env.code = .ref c) (eq : X.env.qual ++ "<lambda>" = q)
    (mem : (P, q) ∈ Ts) (uni : ∀ p ∈ Ts, p.1 = P → p.2 = q) (L : LamS X.env.scope lsc) (nodef : defaultsOf ps X.env = ([], []))
    (noArgs : ∀ (q : Str) (cl : List (Str × Addr)) (pm cv ctv : Value), bindArgs (PySem.W.kla_fn "<lambda>" q ps bd lsc cl pm cv ctv) ⟨[], []⟩ = pure [])
    (body : ∀ (A : Around) (outer : List Env) (s : Shared) (H : Hp) (E : XK) (fl co : Addr), Room k (A.deeper (lamEnv X lsc s.heap.objs.size fl co)) → PE (lamCx X A outer s H E lsc fl co) bd (t E)) :
    PE X (.Lambda ps bd lsc pos) (tLamV X Ts k q t) := by
  subst eq
  refine ⟨fun pins s σ H Q I hyp => ?_⟩
  obtain ⟨tabs, want⟩ := hyp
  exact lam_made I TB own mem uni tabs nodef (L.has I.ok) fun fl co G s' J x tb fH f1 f2 =>
    ⟨.ref fl, G, J, rfl, want _ _ x tb ⟨fl, co, _, rfl, f1, ⟨ps, bd, lsc, rfl, L, noArgs, fun A outer s H E room => body A outer s H E fl co room⟩, f2⟩ fun a e => by cases e; exact fH⟩
def GivesToV (X : Cx) (names : List Str) (x : Str) (sg : Scope) (g : Addr) (cdg : Value) (bg : List Stmt) (a : Str) (TT : (XK → Hp → VK → Prop) → Hp → VK → Prop) : Prop :=
  ∀ (fl : Addr) (s : Shared) (H : Hp) (Q : VK) (tl : XK → Hp → VK → Prop) (keep : Hp → Prop),
    (∀ (W : WX) (pn : List (Addr × Obj)) (xe : Value → Shared → Prop) (Ew : L2.St → XK) (p1 p2 : Pos), Takes ((cxOf C8.CX0 X.prog X.w X.K X.mg X.base names x sg g cdg X.A X.stack s H C8.E0).tr pn xe) W → (∀ τ cls d H', Ew τ cls d H' → W cls d τ H') →
      PE ((cxOf C8.CX0 X.prog X.w X.K X.mg X.base names x sg g cdg X.A X.stack s H C8.E0).tr pn xe) (.Call (.Name a p1) [] [] p2) (fun τ G Q => τ[0]? = some (some (.ref fl)) ∧ keep G ∧ tl (Ew τ) G Q)) →
    keep H → TT tl H Q →
    ∃ t, PSs (cxOf C8.CX0 X.prog X.w X.K X.mg X.base names x sg g cdg X.A X.stack s H C8.E0).nox bg t ∧ t { nx := fun _ H' => Q .non H', rt := Q } (L2.start names [.ref fl]) H
def tCallLam (X : Cx) (k : Nat) (q : Str) (TT : (XK → Hp → VK → Prop) → Hp → VK → Prop) (te : TE) : TE := fun σ H Q => te σ H fun v G => ∃ t : XK → TE, IsLam X k q t G v ∧ TT (fun E H' Q' => t E σ H' Q') G Q
theorem pe_callLam {TT : (XK → Hp → VK → Prop) → Hp → VK → Prop} {x a q : Str} {g : Addr} {k : Nat} {pg : Arguments} {bg : List Stmt} {sg : Scope} {dV kV doc pm cdv ct oc : Value} {an od : Option Addr} {osl : Array (Option Value)} {names : List Str}
    {e : Expr} {te : TE} {p pos : Pos} (he : PE X e te) (hg : Gl X x) (hm : X.mg x = some (.ref g)) (hk : PySem.W.keepIn X.K (.ref g) = true)
    (lk : X.K.lookup g = some ⟨oc, od, .func (PySem.W.fnOf x x pg bg sg dV kV doc pm an cdv ct), osl⟩) (hcg : PySem.W.codeIn X.K cdv x = true) (hb : L2.Binds X.K (PySem.W.fnOf x x pg bg sg dV kV doc pm an cdv ct) [a] []) (Sg : FnScope names [a] sg) (at_ : names[0]? = some a) (vis : Vis sg a)
    (gives : GivesToV X names x sg g cdv bg a TT) (eq : X.env.qual ++ "<lambda>" = q) (hr : Room (k + 2) X.A)
    (hs : starEach [e] X.env = [(false, eval e X.env)] := by rfl)
    (n0 : (x == ("__debug__" : Str)) = false := by decide) (n1 : (a == ("__debug__" : Str)) = false := by decide) (n2 : (a == ("__classdict__" : Str)) = false := by decide) (hpl : (backTo pos (starEach ([] : List Expr) X.env)).any (·.1) = false := by rfl) :
    PE X (.Call (.Name x p) [e] [] pos) (tCallLam X k q TT te) := by
  subst eq
  refine ⟨fun pins s σ H Q I hyp => ?_⟩
  refine wpAny_Call_Name_kw (ld_glob I hg hm ?_ n0)
  refine PySem.W.callWith_K (h₀ := X.base) I.ok.mod.kin hk ?_ hs hpl
  rw [hs]
  refine Calls.spliced_cons (thn (he.run pins s σ H _ I hyp) fun u s' ⟨v, G, J, ru, t, ⟨fl, co, o, ev, f1, f2, fc⟩, want⟩ => ?_)
  subst ev
  obtain rfl : u = Value.ref fl := ru
  obtain ⟨ps, bd, lsc, rfl, L, noArgs, body⟩ := f2.ex
  refine Calls.spliced_nil ⟨J.kIn, ?_⟩
  have run : codeAny (model X.prog X.w) X.A (.call (.ref g) ⟨[.ref fl], []⟩) (CR C8.CX0 X.stack X.prog X.w G s' Q C8.E0) s' := by
    refine run_ofS (N := names) (ps := [a]) (us := [.ref fl]) (vs := [.ref fl]) lk hcg Sg hr J.env0 (hb s' [.ref fl] J.kIn rfl) (.cons rfl .nil) rfl fun hr' => ?_
    obtain ⟨t', ht', hq'⟩ := gives fl s' G Q (fun E G' Q' => t E σ G' Q') (fun G => G fl = some (LamO fl co (X.env.qual ++ "<lambda>") ps bd lsc (cloFrom X.env.cells lsc.names [])) ∧ G co = some (CodeO co (X.env.qual ++ "<lambda>")))
      (fun W pn xe Ew p1 p2 tk wish => ⟨fun pz sz τ G2 Q2 J2 hyp2 => (act_known (i := 0) J L (fun _ _ => noArgs _ _ _ _ _) tk wish hr' (fun E A outer s H room => body A outer s H E room) at_ vis n1 n2).run pz sz τ G2 Q2 J2 ⟨hyp2.1, hyp2.2.1.1, hyp2.2.1.2, hyp2.2.2⟩⟩) ⟨f1, fc⟩ want
    exact ⟨t', ht'.nox, hq'⟩
  refine wpAny_call (codeAny_mono run fun r s2 q => ?_)
  match r with
  | .error e => exact (show False from q).elim
  | .ok (.ret u) => exact J.after q
  | .ok .next => exact False.elim q
  | .ok .brk => exact False.elim q
  | .ok .cont => exact False.elim q
end
end LamX
set_option maxRecDepth 100000
set_option maxHeartbeats 4000000
namespace L2
open PySem PySem.Spec PyProof.Rows
theorem sqn {a b : TS} {D : Ends} {σ : St} {H : Hp} (h : a { D with nx := b D } σ H) : tSeq a b D σ H := h
theorem tnx {D : Ends} {σ : St} {H : Hp} (h : D.nx σ H) : tNext D σ H := h
theorem asn {e : TE} {g : TG} {D : Ends} {σ : St} {H : Hp} (h : e σ H fun x H1 => g x σ H1 D.nx) : tAsg e g D σ H := h
theorem tIfS_r {c : TT} {t u : TS} {D : Ends} {σ : St} {H : Hp} (R : Hp → Prop) (h : (∀ H', R H' → u D σ H') → tIfS c t u D σ H) (f : ∀ H', R H' → u D σ H') : tIfS c t u D σ H := h f
theorem tIf_r {t : TT} {ta tb : TE} {σ : St} {H : Hp} {Q : VK} (R : V → Hp → Prop) (h : (∀ v H', R v H' → Q v H') → tIf t ta tb σ H Q) (f : ∀ v H', R v H' → Q v H') : tIf t ta tb σ H Q := h f
theorem te_r {t : TE} {σ : St} {H : Hp} {Q : VK} (R : V → Hp → Prop) (h : (∀ v H', R v H' → Q v H') → t σ H Q) (f : ∀ v H', R v H' → Q v H') : t σ H Q := h f
theorem let_rest {J C : Hp → Prop} {G : Prop} (main : (∀ H', J H' → C H') → G) (rest : ∀ H', J H' → C H') : G := main rest
theorem let_val {J C : V → Hp → Prop} {G : Prop} (main : (∀ v H', J v H' → C v H') → G) (rest : ∀ v H', J v H' → C v H') : G := main rest
open PySem.W (alike alikeAll minD maxD min_tuple_data max_tuple_data)
def rBest2 (K : PySem.W.Frag) (best : List Int → List Int → List Int) : List V → Hp → VK → Prop := fun vs H Q => ∃ (t p q : Addr) (a b : List Int), vs = [.ref t] ∧ SqT K H t [.ref p, .ref q] ∧ SqT K H p (a.map V.int) ∧ SqT K H q (b.map V.int) ∧
  ∀ r, SqT K H r ((best a b).map V.int) → Q (.ref r) H
def lessOf (a b : List Int) : List Int := if PySem.W.dataLt (rowD b) (rowD a) then b else a
def moreOf (a b : List Int) : List Int := if PySem.W.dataLt (rowD a) (rowD b) then b else a
theorem less_D (a b : List Int) : minD (rowD a) [rowD b] = rowD (lessOf a b) := by
  unfold minD lessOf
  show (if PySem.W.dataLt (rowD b) (rowD a) then rowD b else rowD a) = _
  split <;> rfl
theorem more_D (a b : List Int) : maxD (rowD a) [rowD b] = rowD (moreOf a b) := by
  unfold maxD moreOf
  show (if PySem.W.dataLt (rowD a) (rowD b) then rowD b else rowD a) = _
  split <;> rfl
section
variable {X : Cx}
theorem pair_reads {pins : List (Addr × Obj)} {σ : St} {H : Hp} {s : Shared} {p q : Addr} {a b : List Int} {its : List Value} (I : Inv X pins σ H s) (hp : SqT X.K H p (a.map V.int)) (hq : SqT X.K H q (b.map V.int)) (rv : Vals [.ref p, .ref q] its) : ∃ as, ReadsAll s.heap its [rowD a, rowD b] as :=
  Dp.readsAll I _ _ its (dpAll_rows (K := X.K) (ps := [p, q]) (rows := [a, b]) (.cons hp (.cons hq .nil))) rv
theorem pair_best {pins : List (Addr × Obj)} {σ : St} {H : Hp} {s : Shared} {p q : Addr} {a b m : List Int} {its : List Value} {i : Nat} {v : Value} {h' : Heap} {bs : List Addr} (I : Inv X pins σ H s) (hp : SqT X.K H p (a.map V.int)) (hq : SqT X.K H q (b.map V.int)) (rv : Vals [.ref p, .ref q] its) (hv : its[i]? = some v)
    (keep : ∀ b o, s.heap.get? b = some o → h'.get? b = some o) (hm : Reads h' v (rowD m) bs) : ∃ r, v = .ref r ∧ SqT X.K H r (m.map V.int) := by
  have one : ∀ (r : Addr) (c : List Int), v = .ref r → SqT X.K H r (c.map V.int) → ∃ r, v = .ref r ∧ SqT X.K H r (m.map V.int) := fun r c e h => by
    subst e
    obtain ⟨as0, r0⟩ := Dp.reads I (rowD c) (.ref r) (.ref r) (.tup h (dpAll_intsL H c)) rfl
    have e2 := rowD_inj (reads_det (fun b o e _ => keep b o e) r0 hm).1
    subst e2
    exact ⟨r, rfl, h⟩
  cases rv with
  | cons r1 rv =>
    cases rv with
    | cons r2 rv =>
      cases rv
      match i, hv with
      | 0, hv =>
        have e := Option.some.inj hv
        exact one p a (e.symm.trans r1) hp
      | 1, hv =>
        have e := Option.some.inj hv
        exact one q b (e.symm.trans r2) hq
theorem alike_two (a b : List Int) : PySem.W.AlikeAll [rowD a, rowD b] := by
  refine ⟨fun x hx y hy => ?_, fun x hx => ?_⟩
  · obtain ⟨c, _, rfl⟩ := List.mem_map.mp (show x ∈ [a, b].map rowD from hx)
    obtain ⟨d, _, rfl⟩ := List.mem_map.mp (show y ∈ [a, b].map rowD from hy)
    exact alike_ints c d
  · obtain ⟨c, _, rfl⟩ := List.mem_map.mp (show x ∈ [a, b].map rowD from hx)
    exact fun z => by cases z
theorem cr_min2T (hc : X.calm = true) (hu : X.A.units + 64 < cLine) : CallR X (.builtin "min") (rBest2 X.K lessOf) := by
  intro pins s σ H vs us Q I r h
  obtain ⟨t, p, q, a, b, rfl, ht, hp, hq, k⟩ := h
  obtain ⟨its, rv, pt, _⟩ := I.tuple ht
  rw [Vals.ref1 r]
  obtain ⟨as, hr⟩ := pair_reads I hp hq rv
  have hd := depth_rows [a, b]
  refine min_tuple_data (I.ok.hd hc) (show s.heap.IsTuple t its.toArray from pt) (x := rowD a) (xs := [rowD b]) (as := as) hr (alike_two a b) (by show X.A.units + 1 + PyData.depthAll ([a, b].map rowD) < cLine; omega) fun i v h' tk bs hv hm keep => ?_
  rw [less_D] at hm
  obtain ⟨r', rfl, hs⟩ := pair_best I hp hq rv (by simpa using hv) keep hm
  exact ⟨.ref r', H, I.kept (t' := tk) keep, rfl, k r' hs⟩
theorem cr_max2T (hc : X.calm = true) (hu : X.A.units + 64 < cLine) : CallR X (.builtin "max") (rBest2 X.K moreOf) := by
  intro pins s σ H vs us Q I r h
  obtain ⟨t, p, q, a, b, rfl, ht, hp, hq, k⟩ := h
  obtain ⟨its, rv, pt, _⟩ := I.tuple ht
  rw [Vals.ref1 r]
  obtain ⟨as, hr⟩ := pair_reads I hp hq rv
  have hd := depth_rows [a, b]
  refine max_tuple_data (I.ok.hd hc) (show s.heap.IsTuple t its.toArray from pt) (x := rowD a) (xs := [rowD b]) (as := as) hr (alike_two a b) (by show X.A.units + 1 + PyData.depthAll ([a, b].map rowD) < cLine; omega) fun i v h' tk bs hv hm keep => ?_
  rw [more_D] at hm
  obtain ⟨r', rfl, hs⟩ := pair_best I hp hq rv (by simpa using hv) keep hm
  exact ⟨.ref r', H, I.kept (t' := tk) keep, rfl, k r' hs⟩
def tChain3 (r1 r2 r3 : R2) (ta tb tc td : TE) : TE := fun σ H Q => ta σ H fun x H1 => tb σ H1 fun y H2 => r1 x y H2 fun z H3 => ∃ k, z = .bl k ∧
  (if k = true then tc σ H3 fun y2 H4 => r2 y y2 H4 fun z2 H5 => ∃ k2, z2 = .bl k2 ∧ (if k2 = true then td σ H5 fun y3 H6 => r3 y2 y3 H6 Q else Q (.bl false) H5) else Q (.bl false) H3)
theorem pe_chain3 {a b c d : Expr} {ta tb tc td : TE} {o1 o2 o3 : CmpOp} {r1 r2 r3 : R2} {pos : Pos} (h1 : OpR X (compareOp o1) r1) (h2 : OpR X (compareOp o2) r2) (h3 : OpR X (compareOp o3) r3) (ha : PE X a ta) (hb : PE X b tb) (hc : PE X c tc) (hd : PE X d td)
    (hm : lastMarks [o1, o2, o3] [b, c, d] = false := by with_unfolding_all rfl) : PE X (.Compare a [o1, o2, o3] [b, c, d] pos) (tChain3 r1 r2 r3 ta tb tc td) := by
  refine ⟨fun pins s σ H Q I h => ?_⟩
  refine Compare_chain (thn (ha.run pins s σ H _ I h) fun v sA ⟨x, HA, IA, rA, qA⟩ => chain_link (thn (hb.run pins sA σ HA _ IA qA) fun u sB ⟨y, HB, IB, rB, qB⟩ =>
    thn (h1 pins sB σ HB x y v u _ IB rA rB qB) fun e sC ⟨z, HC, IC, rC, k, ez, qC⟩ => ?_)) hm
  subst ez
  cases rC
  refine wpAny_truthy_bool ?_
  cases k with
  | false => exact ite_ff ⟨.bl false, HC, IC, rfl, qC⟩
  | true =>
    refine ite_tt (chain_link (thn (hc.run pins sC σ HC _ IC qC) fun u2 sD ⟨y2, HD, ID, rD, qD⟩ => thn (h2 pins sD σ HD y y2 u u2 _ ID rB rD qD) fun e2 sE ⟨z2, HE, IE, rE, k2, ez2, qE⟩ => ?_))
    subst ez2
    cases rE
    refine wpAny_truthy_bool ?_
    cases k2 with
    | false => exact ite_ff ⟨.bl false, HE, IE, rfl, qE⟩
    | true => exact ite_tt (chain_last (thn (hd.run pins sE σ HE _ IE qE) fun u3 sF ⟨y3, HF, IF, rF, qF⟩ => h3 pins sF σ HF y2 y3 u2 u3 Q IF rD rF qF))
def tListR3 (ta : TA) : TE := fun σ H Q => ta σ H fun vs H1 => ∃ (i j c : Int) (n : Nat), vs = [.int i, .int j, .int c] ∧ RgC i j c n ∧ n ≤ 1000 ∧ ∀ q, H1 q = none → Q (.ref q) (upd H1 q (.lst ((List.range n).map fun (k : Nat) => V.int (i + (k : Int) * c))))
theorem vals_rg3 {i c : Int} {n : Nat} {acc : Array Value} (h : ItemsOf (fun k v => ∃ t, v = .int (i + k * c) t) acc n) : Vals ((List.range n).map fun (k : Nat) => V.int (i + (k : Int) * c)) acc.toList := by
  have e : acc.toList.length = n := by rw [Array.length_toList]; exact h.1
  rw [← e]
  refine vals_of_get acc.toList _ fun j u hj => ?_
  obtain ⟨t, rfl⟩ := h.2 j u (by rw [← hj, Array.getElem?_toList])
  exact ⟨t, rfl⟩
theorem pe_listR3 {a b c : Expr} {ta : TA} {p p2 pos pos2 : Pos} (hcalm : X.calm = true) (hl : Gl X "list") (hml : X.mg "list" = none) (hg : Gl X "range") (hm : X.mg "range" = none) (ha : PA X [a, b, c] ta)
    (hs : starEach [a, b, c] X.env = (false, eval a X.env) :: starEach [b, c] X.env := by rfl) (hpl : (backTo pos2 (starEach [b, c] X.env)).any (·.1) = false := by rfl) (na : starEach [.Call (.Name "range" p2) [a, b, c] [] pos2] X.env = (false, eval (.Call (.Name "range" p2) [a, b, c] [] pos2) X.env) :: starEach [] X.env := by rfl) :
    PE X (.Call (.Name "list" p) [.Call (.Name "range" p2) [a, b, c] [] pos2] [] pos) (tListR3 ta) := by
  refine ⟨fun pins s σ H Q I h => ?_⟩
  refine Call_ (ld_blt I hl hml boot_list (PyProof.Rows.callWith_type1 (args_cons (Call_ (ld_blt I hg hm boot_range (PyProof.Rows.callWith_type1 (thn (ha.run pos2 pins s σ H _ I h) fun us s1 ⟨vs, H1, I1, r1, q1⟩ => ?_) hs hpl))) na) na))
  obtain ⟨i, j, k, n, ev, ⟨c0, c1, c2, c3⟩, n24, q⟩ := q1
  subst ev
  cases r1 with
  | cons w1 r1 =>
    cases r1 with
    | cons w2 r1 =>
      cases r1 with
      | cons w3 r1 =>
        cases r1
        obtain ⟨t1, rfl⟩ := w1
        obtain ⟨t2, rfl⟩ := w2
        obtain ⟨t3, rfl⟩ := w3
        refine call_range_3 c0 ?_ (.inl (PyProof.noPylong_small c1))
        refine args_nil ?_
        have I2 : Inv X pins σ H1 { s1 with heap := s1.heap.push { cls := .type "range", data := .fields #[.int i t1, .int j t2, .int k t3] } } := I1.kept (t' := s1.toks) fun b o e => Heap.get?_push_of_some _ e
        refine call_list_range (n := n) (I1.ok.hd hcalm) (IsRange.new ..) c2 c3 (by omega) fun h' tk acc c' keep e' hi => ?_
        refine ⟨.ref _, upd H1 _ (.lst ((List.range n).map fun (z : Nat) => V.int (i + (z : Int) * k))), I2.laid (t' := tk) keep (Nat.le_refl _) (show ObjOk X.prog X.w _ _ _ (.lst _) from ⟨?_, acc.toList, c', vals_rg3 hi, ?_⟩), rfl, q _ (I2.hok.fresh (Nat.le_refl _))⟩
        · rw [List.length_map, List.length_range, sizeLine_eq]; omega
        · rw [Array.toArray_toList]; exact e'
def rSumU (K : PySem.W.Frag) : List V → Hp → VK → Prop := fun vs H Q => ∃ (t : Addr) (a b : Int), vs = [.ref t] ∧ SqT K H t [.int a, .int b] ∧ Q (.int (a + b)) H
theorem cr_sumU (hc : X.calm = true) : CallR X (.builtin "sum") (rSumU X.K) := by
  intro pins s σ H vs us Q I r h
  obtain ⟨t, a, b, rfl, ht, k⟩ := h
  obtain ⟨its, rv, pt, _⟩ := I.tuple ht
  rw [Vals.ref1 r]
  cases rv with
  | cons r1 rv =>
    cases rv with
    | cons r2 rv =>
      cases rv
      obtain ⟨t1, rfl⟩ := r1
      obtain ⟨t2, rfl⟩ := r2
      refine PySem.W.ktm_sumG (xs := #[(a, t1), (b, t2)]) (I.ok.hd hc) (show s.heap.IsTuple t _ by have e : intItems #[(a, t1), (b, t2)] = #[Value.int a t1, Value.int b t2] := (by simp [intItems]); rw [e]; exact pt) fun h' tk t' keep => ?_
      have e : preSum (numAt #[(a, t1), (b, t2)]) (#[(a, t1), (b, t2)] : Array (Int × Tok)).size = a + b := by
        first | rfl | (simp [preSum, numAt]) | trace_state
      rw [e]
      exact ⟨.int (a + b), H, I.kept (t' := tk) keep, ⟨t', rfl⟩, k⟩
end
end L2
set_option maxRecDepth 100000
set_option maxHeartbeats 4000000
namespace L2
open PySem PySem.Spec PyProof.Rows
def Swaps5 (fd : FuncData) (a b c d e : Str) : Prop := ∀ (s : Shared) (v1 v2 v3 v4 v5 : Value), BindsTo s fd ⟨[], [(e, v1), (d, v2), (c, v3), (b, v4), (a, v5)]⟩ [(a, v5), (b, v4), (c, v3), (d, v2), (e, v1)]
theorem Fun.swaps5 {K : PySem.W.Frag} {x qual : Str} {st : Stmt} {f : Addr} {fd : FuncData} {a b c d e : Str} (F : Fun K x qual st f fd)
    (h : ∀ (kV doc pm : Value) (an : Option Addr) (cdv ct v1 v2 v3 v4 v5 : Value), bindArgs (PySem.W.fnOf x qual (defArgs st) (defBody st) (defScope st) .none kV doc pm an cdv ct) ⟨[], [(e, v1), (d, v2), (c, v3), (b, v4), (a, v5)]⟩ = pure [(a, v5), (b, v4), (c, v3), (d, v2), (e, v1)]) : Swaps5 fd a b c d e := by
  obtain ⟨oc, od, kV, doc, pm, an, cdv, ct, osl, rfl, lk, hcd⟩ := F.ex
  exact fun s v1 v2 v3 v4 v5 => BindsTo.of_eq (h kV doc pm an cdv ct v1 v2 v3 v4 v5)
def tSw5 (sp : Sp) (E : XK) (ta : TA) : TE := fun σ H Q => ta σ H fun zs H2 => sp zs.reverse H2 Q E
section
variable {X : Cx} {CX : CXT} {k : Nat} {f : Addr} {fd : FuncData} {a b c d e : Str} {sp : Sp} {E : XK} {x : Str} {p p1 p2 p3 p4 p5 pos : Pos} {e1 e2 e3 e4 e5 : Expr} {t1 t2 t3 t4 t5 : TE}
theorem run_sw5 {pins : List (Addr × Obj)} {σ : St} {H : Hp} {s : Shared} {Q : VK} {zs : List V} {w1 w2 w3 w4 w5 : Value} (F : FnOk X.prog X.w X.K X.mg X.base CX k f fd [a, b, c, d, e] sp) (hr : Room k X.A) (hb : Swaps5 fd a b c d e) (hx : Passes CX X E)
    (I : Inv X pins σ H s) (r : Vals zs [w5, w4, w3, w2, w1]) (h : sp zs H Q E) : wpAny (model X.prog X.w) X.A (call (.ref f) [] [(e, w1), (d, w2), (c, w3), (b, w4), (a, w5)]) (EP X pins σ Q) X.xe s := by
  refine wpAny_call (codeAny_mono (F.run X.A X.stack s H ⟨[], [(e, w1), (d, w2), (c, w3), (b, w4), (a, w5)]⟩ [w5, w4, w3, w2, w1] zs Q E hr I.env0 (hb s w1 w2 w3 w4 w5) r h) fun r s' hq => ?_)
  cases r with
  | error e => exact hx pins σ H s e s' I hq
  | ok fl =>
    cases fl with
    | ret u => exact I.after hq
    | next => exact False.elim hq
    | brk => exact False.elim hq
    | cont => exact False.elim hq
theorem vals_rev : ∀ {zs : List V} {us : List Value}, Vals zs us → Vals zs.reverse us.reverse
  | [], [], .nil => .nil
  | z :: zs, u :: us, .cons r h => by
    rw [List.reverse_cons, List.reverse_cons]
    exact (vals_rev h).append (.cons r .nil)
theorem pe_callSw5 (F : FnOk X.prog X.w X.K X.mg X.base CX k f fd [a, b, c, d, e] sp) (hr : Room k X.A) (hg : Gl X x) (hm : X.mg x = some (.ref f)) (hk : PySem.W.keepIn X.K (.ref f) = true) (hb : Swaps5 fd a b c d e) (hx : Passes CX X E)
    (h1 : PE X e1 t1) (h2 : PE X e2 t2) (h3 : PE X e3 t3) (h4 : PE X e4 t4) (h5 : PE X e5 t5) (hdb : (x == ("__debug__" : Str)) = false := by decide)
    (hall : (backToKw pos (keywordEach [⟨some e, e1, p1⟩, ⟨some d, e2, p2⟩, ⟨some c, e3, p3⟩, ⟨some b, e4, p4⟩, ⟨some a, e5, p5⟩] X.env)).all (·.1.isSome) = true := by rfl)
    (hks : (backToKw pos (keywordEach [⟨some e, e1, p1⟩, ⟨some d, e2, p2⟩, ⟨some c, e3, p3⟩, ⟨some b, e4, p4⟩, ⟨some a, e5, p5⟩] X.env)).filterMap (·.1) = [e, d, c, b, a] := by rfl)
    (hpl : ((backTo pos (starEach [] X.env)).any (·.1) || (backToKw pos (keywordEach [⟨some e, e1, p1⟩, ⟨some d, e2, p2⟩, ⟨some c, e3, p3⟩, ⟨some b, e4, p4⟩, ⟨some a, e5, p5⟩] X.env)).any (·.1.isNone)) = false := by rfl) :
    PE X (.Call (.Name x p) [] [⟨some e, e1, p1⟩, ⟨some d, e2, p2⟩, ⟨some c, e3, p3⟩, ⟨some b, e4, p4⟩, ⟨some a, e5, p5⟩] pos) (tSw5 sp E (tCons t1 (tCons t2 (tCons t3 (tCons t4 (tCons t5 tNil)))))) := by
  refine ⟨fun pins s σ H Q I h => ?_⟩
  refine wpAny_Call_Name_kw (ld_glob I hg hm ?_ hdb)
  refine PySem.W.callWith_KW0 (h₀ := X.base) I.ok.mod.kin hk hall ?_ hpl
  refine thn ((pk_cons h1 (pk_cons h2 (pk_cons h3 (pk_cons h4 (pk_cons h5 pk_nil))))).run pos pins s σ H _ I h) fun ws s2 ⟨zs, H2, J, rz, q⟩ => ⟨J.kIn, ?_⟩
  rw [hks]
  have hl := F.len _ _ _ _ q
  rw [List.length_reverse, rz.length] at hl
  match ws, hl, rz with
  | [w1, w2, w3, w4, w5], _, rz => exact run_sw5 F hr hb hx J (vals_rev rz) q
end
end L2
set_option maxRecDepth 100000
namespace Bt
open PySem PySem.Spec PyProof.Rows L2
def five : Nat → Nat → Nat
  | 0, x => x
  | n + 1, x => 5 * five n x + 1
theorem five_add (a x : Nat) : ∀ n, five (n + a) x = five n (five a x)
  | 0 => by
    rw [Nat.zero_add]
    rfl
  | n + 1 => by
    rw [show n + 1 + a = (n + a) + 1 by omega]
    show 5 * five (n + a) x + 1 = 5 * five n (five a x) + 1
    rw [five_add a x n]
theorem five_off (x : Nat) : ∀ n, five n x = x + five n 0 * (4 * x + 1)
  | 0 => by
    show x = x + 0 * (4 * x + 1)
    rw [Nat.zero_mul, Nat.add_zero]
  | n + 1 => by
    show 5 * five n x + 1 = x + (5 * five n 0 + 1) * (4 * x + 1)
    rw [five_off x n, Nat.add_mul, Nat.one_mul, Nat.mul_add, Nat.mul_assoc]
    generalize five n 0 * (4 * x + 1) = z
    omega
theorem five_two : ∀ k, ∃ r, five (2 ^ k) 0 = 2 ^ k * (2 * r + 1)
  | 0 => ⟨0, rfl⟩
  | k + 1 => by
    obtain ⟨r, e⟩ := five_two k
    have d : five (2 ^ (k + 1)) 0 = 2 * (five (2 ^ k) 0 * (2 * five (2 ^ k) 0 + 1)) := by
      rw [show 2 ^ (k + 1) = 2 ^ k + 2 ^ k by rw [Nat.pow_succ]; omega, five_add, five_off]
      generalize five (2 ^ k) 0 = g
      have h1 : g * (4 * g) = 4 * (g * g) := Nat.mul_left_comm g 4 g
      have h2 : g * (2 * g) = 2 * (g * g) := Nat.mul_left_comm g 2 g
      rw [Nat.mul_add, Nat.mul_add, h1, h2, Nat.mul_one]
      omega
    rw [d]
    generalize five (2 ^ k) 0 = g at e
    refine ⟨r * (2 * g + 1) + g, ?_⟩
    have z : (2 * r + 1) * (2 * g + 1) = 2 * (r * (2 * g + 1) + g) + 1 := by
      rw [Nat.add_mul, Nat.one_mul, Nat.mul_assoc]
      generalize r * (2 * g + 1) = y
      omega
    have f : g * (2 * g + 1) = 2 ^ k * (2 * (r * (2 * g + 1) + g) + 1) := by
      rw [← z, ← Nat.mul_assoc, ← e]
    rw [f, Nat.pow_succ, Nat.mul_comm (2 ^ k) 2, Nat.mul_assoc]
theorem five_far (k x : Nat) : ∃ v, five (2 ^ k) x = x + 2 ^ k * (2 * v + 1) := by
  obtain ⟨r, e⟩ := five_two k
  refine ⟨r * (4 * x + 1) + 2 * x, ?_⟩
  have z : (2 * r + 1) * (4 * x + 1) = 2 * (r * (4 * x + 1) + 2 * x) + 1 := by
    rw [Nat.add_mul, Nat.one_mul, Nat.mul_assoc]
    generalize r * (4 * x + 1) = y
    omega
  rw [five_off, e, Nat.mul_assoc, z]
theorem five_all : ∀ k x j : Nat, ∃ n, n < 2 ^ k ∧ five n x % 2 ^ k = j % 2 ^ k
  | 0, x, j => ⟨0, by decide, by rw [Nat.pow_zero, Nat.mod_one, Nat.mod_one]⟩
  | k + 1, x, j => by
    obtain ⟨n, hn, e⟩ := five_all k x j
    have sp : ∀ y : Nat, y % 2 ^ (k + 1) = y % 2 ^ k + 2 ^ k * (y / 2 ^ k % 2) := fun y => by
      rw [Nat.pow_succ, Nat.mod_mul]
    have ps : 0 < 2 ^ k := Nat.pow_pos (by decide)
    by_cases c : five n x / 2 ^ k % 2 = j / 2 ^ k % 2
    · refine ⟨n, by rw [Nat.pow_succ]; omega, ?_⟩
      rw [sp, sp j, e, c]
    · obtain ⟨v, f⟩ := five_far k (five n x)
      refine ⟨2 ^ k + n, by rw [Nat.pow_succ]; omega, ?_⟩
      rw [five_add, f, sp, sp j, Nat.add_mul_mod_self_left, Nat.add_mul_div_left _ _ ps, e]
      have b : (five n x / 2 ^ k + (2 * v + 1)) % 2 = j / 2 ^ k % 2 := by omega
      rw [b]
theorem lcg_five {m i : Nat} (hi : i ≤ m) : ∀ n, lcgI m i n = five n i % (m + 1)
  | 0 => (Nat.mod_eq_of_lt (Nat.lt_succ_of_le hi)).symm
  | n + 1 => by
    show (lcgI m i n * 5 + 1) % (m + 1) = (5 * five n i + 1) % (m + 1)
    rw [lcg_five hi n, Nat.add_mod, Nat.mul_mod, Nat.mod_mod, ← Nat.mul_mod, ← Nat.add_mod, Nat.mul_comm]
def Msk (m : Nat) : Prop := m = 7 ∨ m = 31 ∨ m = 127 ∨ m = 511 ∨ m = 2047 ∨ m = 8191
theorem Msk.two {m : Nat} (h : Msk m) : ∃ k, m + 1 = 2 ^ k := by
  rcases h with e | e | e | e | e | e
  · exact ⟨3, by rw [e]⟩
  · exact ⟨5, by rw [e]⟩
  · exact ⟨7, by rw [e]⟩
  · exact ⟨9, by rw [e]⟩
  · exact ⟨11, by rw [e]⟩
  · exact ⟨13, by rw [e]⟩
theorem Msk.top {m : Nat} (h : Msk m) : m ≤ 8191 ∧ m % 2 = 1 := by
  rcases h with e | e | e | e | e | e <;> subst e <;> decide
theorem slots_all {m i j : Nat} (hm : Msk m) (hi : i ≤ m) (hj : j ≤ m) : ∃ n, n ≤ m ∧ lcgI m i n = j := by
  obtain ⟨k, e⟩ := hm.two
  obtain ⟨n, hn, f⟩ := five_all k i j
  rw [← e] at hn f
  refine ⟨n, Nat.le_of_lt_succ hn, ?_⟩
  rw [lcg_five hi, f]
  exact Nat.mod_eq_of_lt (Nat.lt_succ_of_le hj)
theorem run_all {m : Nat} (hm : Msk m) (g : Int) {j : Nat} (hj : j ≤ m) : ∃ n, n ≤ m + 12 ∧ runI m (SetTable.bits g) n = j := by
  obtain ⟨n, hn, e⟩ := slots_all hm (runI_le m (SetTable.bits g) 12) hj
  exact ⟨12 + n, by omega, (runI_tail (bits_lt g) n).trans e⟩
abbrev stp (m : Nat) (g : Int) (c : Nat) : SetTable.Probe := nth m (runAt m (SetTable.bits g % (m + 1)) (SetTable.bits g)) c
theorem stp_add (m : Nat) (g : Int) (c q : Nat) : nth m (stp m g c) q = stp m g (c + q) := (nth_add m c _ q).symm
theorem stp_add_j (m : Nat) (g : Int) (c q : Nat) : (nth m (stp m g c) q).j = way m g (c + q) := congrArg SetTable.Probe.j (stp_add m g c q)
theorem nth_dm (m : Nat) : ∀ (n : Nat) (p : SetTable.Probe), p.dummy = none → (nth m p n).dummy = none
  | 0, _, h => h
  | n + 1, p, h => nth_dm m n (adv m p) (by
    unfold adv
    split <;> exact h)
theorem stp_dm (m : Nat) (g : Int) (c : Nat) : (stp m g c).dummy = none := nth_dm m c _ rfl
theorem way_all {m : Nat} (hm : Msk m) (g : Int) {j : Nat} (hj : j ≤ m) : ∃ c, c < 10 * SetTable.turns m ∧ way m g c = j := by
  obtain ⟨n, hn, e⟩ := run_all hm g hj
  obtain ⟨c, hc, e2⟩ := run_nth m (SetTable.bits g) n
  exact ⟨c, by unfold SetTable.turns; omega, (congrArg SetTable.Probe.j e2).trans e⟩
theorem way_b (m : Nat) (g : Int) (c : Nat) : way m g c ≤ m := by
  have hi : SetTable.bits g % (m + 1) ≤ m := Nat.le_of_lt_succ (Nat.mod_lt _ (Nat.succ_pos m))
  have lo := (runEnd_bd hi).1
  have ge := (runEnd_bd hi).2.1
  have q := nth_in (m := m) c (runAt m (SetTable.bits g % (m + 1)) (SetTable.bits g)) (by unfold runAt; dsimp only; omega)
  exact Nat.le_trans (Nat.le_add_right _ _) q
structure Tab (t : SetTable) (gs : List Int) : Prop where
  r : Ris t.place.toList
  e : t.dummies = #[]
  z : t.place.size = gs.length
  m : Msk t.mask
  b : ∀ y ∈ t.place.toList, y ≤ t.mask
  f : ∀ (i : Nat) (g : Int) (j : Nat), gs[i]? = some g → t.place.toList[i]? = some j → ∃ c, way t.mask g c = j ∧ ∀ b, b < c → way t.mask g b ∈ t.place.toList
section
variable {t : SetTable} {gs : List Int}
theorem Tab.len (U : Tab t gs) : t.place.toList.length = gs.length := by rw [Array.length_toList, U.z]
theorem Tab.gap (U : Tab t gs) (few : gs.length ≤ t.mask) (g : Int) : ∃ N, N < 10 * SetTable.turns t.mask ∧ way t.mask g N ∉ t.place.toList ∧ ∀ c, c < N → way t.mask g c ∈ t.place.toList := by
  obtain ⟨j, hj, free⟩ := st_missing t.place.toList (t.mask + 1) (by rw [U.len]; omega)
  obtain ⟨c, hc, e⟩ := way_all U.m g (Nat.le_of_lt_succ hj)
  rw [← e] at free
  obtain ⟨N, n1, n2, n3⟩ := st_least (p := fun c => way t.mask g c ∉ t.place.toList) c free
  exact ⟨N, Nat.lt_of_le_of_lt n1 hc, n2, fun b hb => Classical.byContradiction fun z => n3 b hb z⟩
theorem Tab.ahead (U : Tab t gs) {g : Int} {N i j : Nat} (free : way t.mask g N ∉ t.place.toList) (hi : gs[i]? = some g) (hj : t.place.toList[i]? = some j) : ∃ c, c < N ∧ way t.mask g c = j := by
  obtain ⟨c, e, bs⟩ := U.f i g j hi hj
  refine ⟨c, Nat.lt_of_not_le fun le => ?_, e⟩
  rcases Nat.eq_or_lt_of_le le with q | q
  · subst q
    rw [e] at free
    exact free (List.mem_of_getElem? hj)
  · exact free (bs N q)
theorem Tab.put (U : Tab t gs) {g : Int} {N j p : Nat} (ej : way t.mask g N = j) (ep : SetTable.below t.place j = p) (free : j ∉ t.place.toList) (bs : ∀ c, c < N → way t.mask g c ∈ t.place.toList) :
    p ≤ gs.length ∧ Tab (t.put j).1 (gs.take p ++ g :: gs.drop p) ∧ (t.put j).1.place.size = gs.length + 1 := by
  have cut := (below_cut U.r j).1
  have hp : p ≤ t.place.toList.length := by
    rw [Array.length_toList, ← ep]
    exact cut
  have hg : p ≤ gs.length := by rw [← U.len]; exact hp
  have pl : (t.put j).1.place.toList = t.place.toList.take p ++ j :: t.place.toList.drop p := by rw [put_place, ep]
  have sz : (t.put j).1.place.size = gs.length + 1 := by rw [← Array.length_toList, pl, len_ins _ hp, U.len]
  have old : ∀ {y : Nat}, y ∈ t.place.toList → y ∈ (t.put j).1.place.toList := fun hy => by
    rw [pl]
    exact mem_ins.2 (.inr hy)
  have nh : t.place[SetTable.below t.place j]? ≠ some j := fun z => free (List.mem_of_getElem? ((Array.getElem?_toList ..).trans z))
  refine ⟨hg, ⟨ris_insert U.r nh, put_dm U.e j, by rw [sz, len_ins _ hg], U.m, fun y hy => ?_, fun i g' j' h1 h2 => ?_⟩, sz⟩
  · rw [pl] at hy
    rcases mem_ins.1 hy with z | z
    · subst z
      rw [← ej]
      exact way_b _ _ _
    · exact U.b y z
  · rw [tins_get gs hg] at h1
    rw [pl, tins_get _ hp] at h2
    rcases Nat.lt_trichotomy i p with c | c | c
    · rw [if_pos c] at h1 h2
      obtain ⟨n, e, z⟩ := U.f i g' j' h1 h2
      exact ⟨n, e, fun b hb => old (z b hb)⟩
    · rw [if_neg (by omega), if_pos c] at h1 h2
      cases h1
      cases h2
      exact ⟨N, ej, fun b hb => old (bs b hb)⟩
    · rw [if_neg (by omega), if_neg (by omega)] at h1 h2
      obtain ⟨n, e, z⟩ := U.f (i - 1) g' j' h1 h2
      exact ⟨n, e, fun b hb => old (z b hb)⟩
end
theorem gap_found {m : Nat} (hm : Msk m) (ow : Array (Option Nat)) (g : Int) {j : Nat} (hj : j ≤ m) (free : oAt ow j = none) :
    ∃ N, SetTable.layClean.free m ow (SetTable.turns m) (SetTable.bits g % (m + 1)) (SetTable.bits g) = some (way m g N) ∧ oAt ow (way m g N) = none ∧ ∀ c, c < N → oAt ow (way m g c) ≠ none := by
  obtain ⟨n, hn, e⟩ := run_all hm g hj
  have at_ : way m g (off m (SetTable.bits g % (m + 1)) (SetTable.bits g) n) = j := by
    refine Eq.trans (congrArg SetTable.Probe.j (nth_off m n _ _)) ?_
    rw [itL_run]
    exact e
  rw [← at_] at free
  obtain ⟨N, n1, n2, n3⟩ := st_least (p := fun c => oAt ow (way m g c) = none) _ free
  refine ⟨N, free_spec m ow (SetTable.turns m) n _ _ N (by unfold SetTable.turns; omega) n1 (fun c hc => ?_) ?_, n2, n3⟩
  · exact Bool.eq_false_iff.mpr fun z => n3 c hc (Option.isNone_iff_eq_none.mp z)
  · exact Option.isNone_iff_eq_none.mpr n2
theorem own_more {m : Nat} (hm : Msk m) {done : List Int} {ow : Array (Option Nat)} (W : Own m done ow) (few : done.length ≤ m) (g : Int) :
    ∃ j, SetTable.layClean.free m ow (SetTable.turns m) (SetTable.bits g % (m + 1)) (SetTable.bits g) = some j ∧ Own m (done ++ [g]) (ow.setIfInBounds j (some done.length)) := by
  obtain ⟨ps, lp, ip⟩ := W.ps
  obtain ⟨j0, l0, o0⟩ := st_missing ps (m + 1) (by omega)
  have f0 : oAt ow j0 = none := Classical.byContradiction fun z => o0 (ip j0 (Nat.le_of_lt_succ l0) z)
  obtain ⟨N, e1, e2, e3⟩ := gap_found hm ow g (Nat.le_of_lt_succ l0) f0
  have jb := way_b m g N
  generalize ej : way m g N = j at e1 e2 jb
  have js : j < ow.size := by rw [W.sz]; omega
  have me := oAt_set_self (some done.length) js
  have up : ∀ {i : Nat}, oAt ow i ≠ none → oAt (ow.setIfInBounds j (some done.length)) i ≠ none := fun {i} hi => by
    by_cases c : i = j
    · subst c
      rw [me]
      simp
    · rw [oAt_set_ne _ c]
      exact hi
  refine ⟨j, e1, ⟨by rw [Array.size_setIfInBounds, W.sz], fun i n hi e => ?_, fun n hn => ?_, ⟨j :: ps, by simp [lp], fun i hi e => ?_⟩⟩⟩
  · by_cases c : i = j
    · subst c
      rw [me] at e
      cases e
      exact ⟨g, N, by simp, ej, fun b hb => up (e3 b hb)⟩
    · rw [oAt_set_ne _ c] at e
      obtain ⟨g', N', a1, a2, a3⟩ := W.at_ i n hi e
      exact ⟨g', N', by rw [List.getElem?_append_left (List.getElem?_eq_some_iff.mp a1).1, a1], a2, fun b hb => up (a3 b hb)⟩
  · rw [List.length_append] at hn
    rcases Nat.lt_or_ge n done.length with c | c
    · obtain ⟨i, hi, e⟩ := W.all n c
      refine ⟨i, hi, ?_⟩
      rw [oAt_set_ne _ fun z => ?_]
      · exact e
      · subst z
        rw [e2] at e
        cases e
    · have : n = done.length := by
        have : [g].length = 1 := rfl
        omega
      subst this
      exact ⟨j, jb, me⟩
  · by_cases c : i = j
    · exact c ▸ List.mem_cons_self
    · rw [oAt_set_ne _ c] at e
      exact List.mem_cons_of_mem _ (ip i hi e)
theorem lay_all {m : Nat} (hm : Msk m) : ∀ (rest done : List Int) (ow : Array (Option Nat)), Own m done ow → done.length + rest.length ≤ m →
    ∃ ow', rest.foldl (stepF m) (some (ow, done.length)) = some (ow', (done ++ rest).length) ∧ Own m (done ++ rest) ow'
  | [], done, ow, W, _ => by
    rw [List.append_nil]
    exact ⟨ow, rfl, W⟩
  | g :: rest, done, ow, W, few => by
    have few' : done.length + (rest.length + 1) ≤ m := few
    obtain ⟨j, e, W'⟩ := own_more hm W (by omega) g
    have dl : (done ++ [g]).length = done.length + 1 := List.length_append
    obtain ⟨ow', f, W2⟩ := lay_all hm rest (done ++ [g]) _ W' (by omega)
    rw [List.append_assoc, dl] at f
    rw [List.append_assoc] at W2
    refine ⟨ow', ?_, W2⟩
    rw [List.foldl_cons, stepF_some e]
    exact f
theorem laid_ok (t : SetTable) {gs : Array Int} {want M : Nat} (hw : SetTable.sizeAbove want - 1 = M) (hM : Msk M) (few : gs.size ≤ M) :
    ∃ t' od, t.relaid gs want = some (t', od) ∧ od.toList.Perm (List.range gs.size) ∧ Tab t' (od.toList.map fun i => gs.getD i 0) ∧ t'.mask = M ∧ t'.led = t.led ∧ t'.plain = t.plain := by
  obtain ⟨ow, f, W⟩ := lay_all hM gs.toList [] _ (Own.init M) (by rw [Array.length_toList]; simpa using few)
  rw [List.nil_append] at f W
  have lc : SetTable.layClean M gs = some ow := by
    rw [layClean_eq]
    exact (congrArg (Option.map (·.1)) f)
  have hr : t.relaid gs want = some (tabOf t M ow, ((liveOf M ow).map (·.2)).toArray) := by
    rw [relaid_eq, hw, lc]
    rfl
  obtain ⟨r1, r2⟩ : Ris ((liveOf M ow).map (·.1)) ∧ ∀ x ∈ (liveOf M ow).map (·.1), x ∈ List.range (M + 1) := ris_live (fun j => ow.getD j none) (List.range (M + 1)) List.pairwise_lt_range
  have inn : ∀ k, k < gs.size → k ∈ (liveOf M ow).map (·.2) := fun k hk => by
    obtain ⟨j, b1, b2⟩ := W.all k (by rw [Array.length_toList]; exact hk)
    exact List.mem_map_of_mem (f := (·.2)) ((mem_live W.sz).2 ⟨b1, b2⟩)
  have ln : (liveOf M ow).length = gs.size := by
    obtain ⟨ps, p1, p2⟩ := W.ps
    have le : ((liveOf M ow).map (·.1)).length ≤ ps.length := nat_nodup_len _ ps (r1.imp fun h => Nat.ne_of_lt h) fun x hx => by
      obtain ⟨⟨y, k⟩, hq, rfl⟩ := List.mem_map.mp hx
      obtain ⟨b1, b2⟩ := (mem_live W.sz).1 hq
      exact p2 y b1 (by rw [b2]; simp)
    have ge := nat_nodup_len (List.range gs.size) ((liveOf M ow).map (·.2)) List.nodup_range fun k hk => inn k (List.mem_range.mp hk)
    rw [List.length_map, p1] at le
    have le' : (liveOf M ow).length ≤ gs.size := le
    rw [List.length_map, List.length_range] at ge
    omega
  refine ⟨_, _, hr, perm_range _ _ (by rw [List.length_map, ln]) inn, ⟨r1, rfl, ?_, hM, fun x hx => Nat.le_of_lt_succ (List.mem_range.mp (r2 x hx)), fun i g j h1 h2 => ?_⟩, rfl, rfl, rfl⟩
  · show ((liveOf M ow).map (·.1)).length = _
    simp
  · have h1' : (((liveOf M ow).map (·.2)).map fun i => gs.getD i 0)[i]? = some g := h1
    have h2' : ((liveOf M ow).map (·.1))[i]? = some j := h2
    simp only [List.getElem?_map] at h1' h2'
    cases hq : (liveOf M ow)[i]? with
    | none =>
      rw [hq] at h2'
      cases h2'
    | some y =>
      obtain ⟨j', k⟩ := y
      rw [hq] at h1' h2'
      cases h2'
      have eg : gs.getD k 0 = g := Option.some.inj h1'
      obtain ⟨b1, b2⟩ := (mem_live W.sz).1 (List.mem_of_getElem? hq)
      obtain ⟨g0, N, a1, a2, a3⟩ := W.at_ j' k b1 b2
      have e0 : g0 = g := by
        rw [← eg, Array.getD_eq_getD_getElem?, ← Array.getElem?_toList, a1]
        rfl
      subst e0
      refine ⟨N, a2, fun b hb => ?_⟩
      show way M g0 b ∈ (liveOf M ow).map (·.1)
      cases z : oAt ow (way M g0 b) with
      | none => exact absurd z (a3 b hb)
      | some k2 => exact List.mem_map_of_mem (f := (·.1)) ((mem_live W.sz).2 ⟨way_b M g0 b, z⟩)
end Bt
set_option maxRecDepth 100000
namespace Bt
open PySem PySem.Spec PyProof.Rows L2
structure Big (P : Program) (w : World) (h : Heap) (a : Addr) (L : List (Addr × List Int)) (es : Array (Int × Value)) (ep : Nat) (t : SetTable) : Prop where
  o : ∃ u, h.get? a = some u ∧ u.ExactSet ∧ u.data = .set es ep t
  rs : es.toList = rowsOf P w L
  tab : Tab t (L.map fun p => thash P w p.2)
  nd : (L.map (·.2)).Nodup
  tp : ∀ p ∈ L, IsT P w h p.2 p.1
  pl : t.plain = true
  ld : w.params.followText "set-order" = true ∨ t.led = true
  rm : L.length * 5 < t.mask * 3
  few : L.length ≤ 4000
section
variable {P : Program} {w : World} {A : Around} {E : Value → Shared → Prop} {s : Shared} {a : Addr} {L : List (Addr × List Int)} {es : Array (Int × Value)} {ep : Nat} {t : SetTable}
theorem rows_len {es : Array (Int × Value)} {L : List (Addr × List Int)} (h : es.toList = rowsOf P w L) : es.size = L.length := by
  rw [← Array.length_toList, h]
  exact List.length_map ..
theorem fits_of {t : SetTable} {n : Nat} (e : t.dummies = #[]) (z : t.place.size = n) (l : n ≤ t.mask) : t.fits n = true := by
  unfold SetTable.fits SetTable.fill
  rw [e, z]
  simpa using l
theorem Big.size {h : Heap} (R : Big P w h a L es ep t) : es.size = L.length := rows_len R.rs
theorem Big.pz {h : Heap} (R : Big P w h a L es ep t) : t.place.size = L.length := R.tab.z.trans (List.length_map ..)
theorem Big.fits {h : Heap} (R : Big P w h a L es ep t) : t.fits es.size = true := fits_of R.tab.e (R.pz.trans R.size.symm) (by
  have := R.rm
  rw [R.size]
  omega)
theorem Big.get {h : Heap} (R : Big P w h a L es ep t) {i : Nat} {p : Addr × List Int} (hp : L[i]? = some p) : es[i]? = some (thash P w p.2, Value.ref p.1) := by
  rw [← Array.getElem?_toList, R.rs]
  unfold rowsOf
  rw [List.getElem?_map, hp]
  rfl
theorem Big.even {h : Heap} (R : Big P w h a L es ep t) : ¬ t.gaveWay = true := by
  unfold SetTable.gaveWay
  rw [R.tab.m.top.2]
  decide
theorem Big.at_ {h : Heap} (R : Big P w h a L es ep t) {i j : Nat} (hi : t.place.toList[i]? = some j) : ∃ p, L[i]? = some p := by
  have l := (List.getElem?_eq_some_iff.mp hi).1
  rw [Array.length_toList, R.pz] at l
  exact ⟨_, List.getElem?_eq_getElem l⟩
theorem look (R : Big P w s.heap a L es ep t) {x : Addr} {key : List Int} {g : Int} (eg : thash P w key = g) (hx : IsT P w s.heap key x) (hu : A.units < cLine) {N : Nat} (n1 : N < 10 * SetTable.turns t.mask)
    (n2 : way t.mask g N ∉ t.place.toList) (n3 : ∀ c, c < N → way t.mask g c ∈ t.place.toList) {Q : SetFound → Shared → Prop} (yes : key ∈ L.map (·.2) → Q (.there none) s) (no : key ∉ L.map (·.2) → Q (.free (way t.mask g N) false) s) :
    ∀ (f c : Nat) (st : Option SetTable.Probe), st.getD (t.probeStart g) = stp t.mask g c → c ≤ N → N - c < f → (∀ (i : Nat) p, L[i]? = some p → p.2 = key → ∃ d, c ≤ d ∧ d < N ∧ t.place.toList[i]? = some (way t.mask g d)) →
      wpAny (model P w) A (setSearchFrom a (.ref x) g true f st) Q E s
  | 0, _, _, _, _, z, _ => absurd z (Nat.not_lt_zero _)
  | f + 1, c, st, est, cN, fN, wait => by
    obtain ⟨u, hu1, hu2, hu3⟩ := R.o
    rw [setSearchFrom_succ]
    refine wpAny_bind (wpAny_setState_of hu1 hu3 R.fits ?_)
    dsimp only
    refine wp_if_neg R.even ?_
    try refine wpAny_bind (wpAny_pure ?_)
    obtain ⟨hat, ehat⟩ : ∃ hat : Nat → Int, hat = fun i => (es[i]?.map (·.1)).getD 0 := ⟨_, rfl⟩
    have hat_at : ∀ (i : Nat) p, L[i]? = some p → p.2 = key → hat i = g := fun i p hp hk => by
      rw [ehat]
      dsimp only
      rw [R.get hp, hk]
      exact eg
    have met := go_spec t R.tab.r R.tab.e hat g (10 * SetTable.turns t.mask) (N - c) (stp t.mask g c) (stp_dm _ _ _) (by omega) (fun q hq => by
      rw [stp_add_j]
      exact n3 _ (by omega)) (by
      rw [stp_add_j, Nat.add_sub_cancel' cN]
      exact n2)
    rw [← est] at met
    have past : ∀ (b : Nat), (∀ k' i', k' < b → t.place.toList[i']? = some (nth t.mask (st.getD (t.probeStart g)) k').j → hat i' ≠ g) → ∀ (i : Nat) p, L[i]? = some p → p.2 = key → ∃ d, c + b ≤ d ∧ d < N ∧ t.place.toList[i]? = some (way t.mask g d) := fun b hb i p hp hk => by
      obtain ⟨d, d1, d2, d3⟩ := wait i p hp hk
      refine ⟨d, Nat.le_of_not_lt fun z => ?_, d2, d3⟩
      refine hb (d - c) i (by omega) ?_ (hat_at i p hp hk)
      rw [est, stp_add_j, Nat.add_sub_cancel' d1]
      exact d3
    rw [← ehat]
    rcases met with ⟨q, i, q1, q2, q3, q4, q5⟩ | ⟨q4, q5⟩
    · rw [show t.probe hat g (st.getD (t.probeStart g)) = _ from q5]
      dsimp only
      have later := past q q4
      rw [est, stp_add_j] at q2
      rw [est, stp_add_j, stp_add]
      obtain ⟨p, hp⟩ := R.at_ q2
      have pm : p ∈ L := List.mem_of_getElem? hp
      have live : t.slot (way t.mask g (c + q)) = .live i := slot_live R.tab.r q2
      have rest : wpAny (model P w) A (searchRest a (.ref x) g true f es t (way t.mask g (c + q)) i (stp t.mask g (c + (q + 1)))) Q E s := by
        unfold searchRest
        rw [R.get hp]
        dsimp only
        refine wpAny_bind (wpAny_holding (wpAny_eqBool_tuple hu (R.tp p pm) hx ?_))
        refine wpAny_bind (wpAny_setState_of hu1 hu3 R.fits ?_)
        dsimp only
        by_cases same : p.2 = key
        · refine wp_if_pos (by simp [same]) (wpAny_pure (yes ?_))
          exact same ▸ List.mem_map_of_mem (f := (·.2)) pm
        · refine wp_if_neg (by simp [same]) ?_
          try refine wpAny_bind (wpAny_pure ?_)
          rw [sameMem]
          dsimp only
          simp only [if_true, live, R.get hp]
          refine wpAny_bind (wpAny_isSame_ref_self (wpAny_bind (wpAny_pure ?_)))
          simp only [if_true]
          refine wp_if_neg (by simp [same]) (look R eg hx hu n1 n2 n3 yes no f (c + (q + 1)) _ rfl (by omega) (by omega) fun i0 p0 h0 k0 => ?_)
          obtain ⟨d, d1, d2, d3⟩ := later i0 p0 h0 k0
          refine ⟨d, Nat.lt_of_le_of_ne d1 fun z => ?_, d2, d3⟩
          subst z
          have again := slot_live R.tab.r d3
          rw [show t.slot (way t.mask g (c.add q)) = .live i from live] at again
          cases again
          rw [hp] at h0
          cases h0
          exact same k0
      by_cases led : t.led = true
      · refine wp_if_neg (by simp [led]) ?_
        try refine wpAny_bind (wpAny_pure ?_)
        exact rest
      · refine wp_if_pos (by simp [led]) (wpAny_bind (seen_tup hx (fun y hy => ?_) (wp_if_neg (by decide) ?_)))
        · obtain ⟨v, hv, ev⟩ := List.mem_map.mp hy
          have v1 : v ∈ es.toList := by
            have : v ∈ es ∧ v.1 = g := by simpa using hv
            simpa using this.1
          rw [R.rs] at v1
          obtain ⟨p2, m2, e2⟩ := List.mem_map.mp v1
          exact ⟨p2.2, p2.1, by rw [← ev, ← e2], R.tp p2 m2⟩
        · try refine wpAny_bind (wpAny_pure ?_)
          exact rest
    · rw [show t.probe hat g (st.getD (t.probeStart g)) = _ from q5]
      dsimp only
      rw [est, stp_add_j, Nat.add_sub_cancel' cN]
      refine wpAny_pure (no fun hm => ?_)
      obtain ⟨p0, h0, k0⟩ := List.mem_map.mp hm
      obtain ⟨i0, hi0⟩ := List.getElem?_of_mem h0
      obtain ⟨d, d1, d2, _⟩ := past (N - c) q4 i0 p0 hi0 k0
      omega
theorem look_at (R : Big P w s.heap a L es ep t) {x : Addr} {key : List Int} {g : Int} (eg : thash P w key = g) (hx : IsT P w s.heap key x) (hu : A.units < cLine) {Q : SetFound → Shared → Prop} (yes : key ∈ L.map (·.2) → Q (.there none) s)
    (no : ∀ N, key ∉ L.map (·.2) → way t.mask g N ∉ t.place.toList → (∀ c, c < N → way t.mask g c ∈ t.place.toList) → Q (.free (way t.mask g N) false) s) : wpAny (model P w) A (setSearch a (.ref x) g true) Q E s := by
  have rm := R.rm
  obtain ⟨N, n1, n2, n3⟩ := R.tab.gap (by rw [List.length_map]; omega) g
  have big : N < 100000 := by
    have := R.tab.m.top.1
    unfold SetTable.turns at n1
    omega
  unfold setSearch
  refine look R eg hx hu n1 n2 n3 yes (fun z => no N z n2 n3) 100000 0 none rfl (Nat.zero_le _) (by omega) fun i p hp hk => ?_
  have li : i < t.place.toList.length := by
    have := (List.getElem?_eq_some_iff.mp hp).1
    rw [Array.length_toList, R.pz]
    exact this
  obtain ⟨c, hc, e⟩ := R.tab.ahead n2 (i := i) (by rw [List.getElem?_map, hp, ← eg, ← hk]; rfl) (List.getElem?_eq_getElem li)
  exact ⟨c, Nat.zero_le _, hc, by rw [e]; exact List.getElem?_eq_getElem li⟩
theorem relay {u : Obj} (hu1 : s.heap.get? a = some u) (hu2 : u.ExactSet) (hu3 : u.data = .set es ep t) (rs : es.toList = rowsOf P w L) (e : t.dummies = #[]) (z : t.place.size = L.length) (l : L.length ≤ t.mask) (nd : (L.map (·.2)).Nodup)
    (tp : ∀ p ∈ L, IsT P w s.heap p.2 p.1) (pl : t.plain = true) (ld : w.params.followText "set-order" = true ∨ t.led = true) (few : L.length ≤ 4000) {want M : Nat} (ew : SetTable.sizeAbove want = M + 1) (hM : Msk M) (rm : L.length * 5 < M * 3)
    {Q : Unit → Shared → Prop} (k : ∀ h' L' es' ep' t', Heap.SameBut a s.heap h' → Big P w h' a L' es' ep' t' → L'.Perm L → Q () { s with heap := h' }) : wpAny (model P w) A (setRelay a want) Q E s := by
  have zs : es.size = L.length := rows_len rs
  have zm : (es.map (·.1)).size = L.length := (Array.size_map ..).trans zs
  obtain ⟨t', od, h1, h2, h3, h4, h5, h6⟩ := laid_ok t (gs := es.map (·.1)) (want := want) (M := M) (by omega) hM (by omega)
  rw [zm] at h2
  obtain ⟨L', r1, r2, r3⟩ := order_rows L es od rs h2
  rw [← r3] at h3
  have zo : (od.filterMap (es[·]?)).size = L.length := (rows_len r1).trans r2.length_eq
  have mb := hM.top.1
  have sl : 8192 ≤ sizeLine := by decide
  rw [setRelay_eq]
  refine wpAny_bind (wpAny_setState_of hu1 hu3 (fits_of e (z.trans zs.symm) (by omega)) ?_)
  dsimp only
  refine wp_if_neg (by rw [ew]; omega) ?_
  try refine wpAny_bind (wpAny_pure ?_)
  rw [h1]
  dsimp only
  refine wpAny_bind (wp_if_neg (by rw [zo, zs]; simp) ?_)
  try refine wpAny_bind (wpAny_pure ?_)
  refine wpAny_pure ?_
  dsimp only
  refine wpAny_storeSet_of hu1 hu3 ?_ (by rw [zo]; omega)
  have sb : Heap.SameBut a s.heap (s.heap.update a (Obj.putSet (od.filterMap (es[·]?)) t')) := Heap.SameBut.update ..
  refine k _ L' _ (ep + 1) t' sb ⟨⟨_, store_at hu1 hu3, ⟨hu2.1, hu2.2.1, hu2.2.2⟩, rfl⟩, r1, h3, (r2.map (·.2)).nodup_iff.mpr nd, fun p hp => isT_same (tp p (r2.mem_iff.mp hp)) hu1 hu3 sb, h6.trans pl, ?_, ?_, ?_⟩ r2
  · rw [h5]
    exact ld
  · rw [r2.length_eq, h4]
    exact rm
  · rw [r2.length_eq]
    exact few
theorem next_mask {m n : Nat} (hm : Msk m) (h1 : n * 5 < m * 3) (h2 : m * 3 ≤ (n + 1) * 5) (few : n + 1 ≤ 4000) : ∃ M, Msk M ∧ SetTable.sizeAbove (SetTable.grown (n + 1)) = M + 1 ∧ (n + 1) * 5 < M * 3 := by
  rcases hm with e | e | e | e | e | e <;> subst e
  · obtain rfl : n = 4 := by omega
    exact ⟨31, .inr (.inl rfl), by decide +kernel, by omega⟩
  · obtain rfl : n = 18 := by omega
    exact ⟨127, .inr (.inr (.inl rfl)), by decide +kernel, by omega⟩
  · obtain rfl : n = 76 := by omega
    exact ⟨511, .inr (.inr (.inr (.inl rfl))), by decide +kernel, by omega⟩
  · obtain rfl : n = 306 := by omega
    exact ⟨2047, .inr (.inr (.inr (.inr (.inl rfl)))), by decide +kernel, by omega⟩
  · obtain rfl : n = 1228 := by omega
    exact ⟨8191, .inr (.inr (.inr (.inr (.inr rfl)))), by decide +kernel, by omega⟩
  · omega
theorem put_in (R : Big P w s.heap a L es ep t) {x : Addr} {key : List Int} {g : Int} (eg : thash P w key = g) (hx : IsT P w s.heap key x) (hu : A.units < cLine) (few : L.length + 1 ≤ 4000) {Q : Bool → Shared → Prop}
    (k : ∀ b h' L' es' ep' t', Heap.SameBut a s.heap h' → Big P w h' a L' es' ep' t' → (key ∈ L.map (·.2) → L' = L) → (key ∉ L.map (·.2) → L'.Perm ((x, key) :: L)) → Q b { s with heap := h' }) : wpAny (model P w) A (setAddHashed a (.ref x) g) Q E s := by
  obtain ⟨u, hu1, hu2, hu3⟩ := R.o
  unfold setAddHashed
  refine wpAny_holding ?_
  rw [show (100000 : Nat) = 99999 + 1 from rfl, setAddHashedIn_succ]
  refine wpAny_bind (wpAny_setState_of hu1 hu3 R.fits ?_)
  dsimp only
  refine wp_if_neg (by simp [byScan, Value.scannable]) ?_
  try refine wpAny_bind (wpAny_pure ?_)
  refine wpAny_bind (look_at R eg hx hu (fun hm => ?_) fun N hm n2 n3 => ?_)
  · exact wpAny_pure (k false s.heap L es ep t (Heap.SameBut.refl a s.heap) R (fun _ => rfl) fun z => absurd hm z)
  · dsimp only
    refine wpAny_bind (wpAny_setState_of hu1 hu3 R.fits ?_)
    dsimp only
    generalize ej : way t.mask g N = j at n2
    obtain ⟨p, ep'⟩ : ∃ p, SetTable.below t.place j = p := ⟨_, rfl⟩
    obtain ⟨pg, U, uz⟩ := R.tab.put ej ep' n2 n3
    rw [List.length_map] at pg uz
    have two : (t.put j).2 = p := ep'
    have mk : (t.put j).1.mask = t.mask := rfl
    have ld : w.params.followText "set-order" = true ∨ (t.put j).1.led = true := R.ld
    have pl : (t.put j).1.plain = true := R.pl
    have fl : (t.put j).1.fill = L.length + 1 := by
      unfold SetTable.fill
      rw [uz, U.e]
      rfl
    rw [← List.map_take, ← List.map_drop] at U
    generalize t.put j = tj at two mk ld pl fl U uz ⊢
    obtain ⟨t1, p'⟩ := tj
    dsimp only at two mk ld pl fl U uz ⊢
    subst two
    refine wp_if_pos pl (wpAny_bind (hashBy_tup hx ?_))
    simp only [if_true]
    have rs : (SetTable.insertAt es p' (g, Value.ref x)).toList = rowsOf P w (L.take p' ++ (x, key) :: L.drop p') := by
      rw [SetTable.toList_insertAt, rows_put, R.rs, eg]
    have U' : Tab t1 ((L.take p' ++ (x, key) :: L.drop p').map fun p => thash P w p.2) := by
      rw [List.map_append, List.map_cons]
      dsimp only
      rw [eg]
      exact U
    have pm := put_perm L p' (x, key)
    generalize L.take p' ++ (x, key) :: L.drop p' = L1 at rs U' pm
    have l1 : L1.length = L.length + 1 := pm.length_eq
    have nd1 : (L1.map (·.2)).Nodup := (pm.map (·.2)).nodup_iff.mpr (List.nodup_cons.mpr ⟨hm, R.nd⟩)
    have z1 := rows_len rs
    have sl : 8192 ≤ sizeLine := by decide
    generalize SetTable.insertAt es p' (g, Value.ref x) = es1 at rs z1 ⊢
    refine wpAny_bind (wpAny_storeSet_of hu1 hu3 ?_ (by omega))
    have sb : Heap.SameBut a s.heap (s.heap.update a (Obj.putSet es1 t1)) := Heap.SameBut.update ..
    have o1 := store_at (es' := es1) (t' := t1) hu1 hu3
    generalize s.heap.update a (Obj.putSet es1 t1) = h1 at sb o1 ⊢
    have tp1 : ∀ p ∈ L1, IsT P w h1 p.2 p.1 := fun p hp => by
      rcases List.mem_cons.mp (pm.mem_iff.mp hp) with e | hp
      · subst e
        exact isT_same hx hu1 hu3 sb
      · exact isT_same (R.tp p hp) hu1 hu3 sb
    have rm := R.rm
    by_cases full : t1.tooFull = true
    · refine wp_if_pos (by simp [full]) (wpAny_bind ?_)
      have fu : t.mask * 3 ≤ (L.length + 1) * 5 := by
        unfold SetTable.tooFull at full
        rw [fl, mk] at full
        exact of_decide_eq_true full
      obtain ⟨M, m1, m2, m3⟩ := next_mask R.tab.m rm fu few
      rw [R.size]
      refine relay (s := { s with heap := h1 }) o1 ⟨hu2.1, hu2.2.1, hu2.2.2⟩ rfl rs U'.e (by rw [uz, l1]) (by have := R.tab.m.top; rw [mk, l1]; omega) nd1 tp1 pl ld (by omega) m2 m1 (by omega) fun h2 L2 es2 ep2 t2 sb2 R2 pm2 => ?_
      exact wpAny_pure (k true h2 L2 es2 ep2 t2 (sb.trans sb2) R2 (fun z => absurd z hm) fun _ => pm2.trans pm)
    · refine wp_if_neg (by simp [full]) ?_
      try refine wpAny_bind (wpAny_pure ?_)
      refine wpAny_pure (k true h1 L1 es1 (ep + 1) t1 sb ⟨⟨_, o1, ⟨hu2.1, hu2.2.1, hu2.2.2⟩, rfl⟩, rs, U', nd1, tp1, pl, ld, ?_, by omega⟩ (fun z => absurd z hm) fun _ => pm)
      unfold SetTable.tooFull at full
      rw [fl, mk, decide_eq_true_eq] at full
      rw [mk, l1]
      omega
end
end Bt
set_option maxRecDepth 100000
namespace Bt
open PySem PySem.Spec PyProof.Rows L2
def Big0 (P : Program) (w : World) (h : Heap) (a : Addr) (L : List (Addr × List Int)) : Prop :=
  ∃ (es : Array (Int × Value)) (ep : Nat) (t : SetTable), (∃ u, h.get? a = some u ∧ u.ExactSet ∧ u.data = .set es ep t) ∧ es.toList = rowsOf P w L ∧ Tab t (L.map fun p => thash P w p.2) ∧ (L.map (·.2)).Nodup ∧ t.plain = true ∧
    (w.params.followText "set-order" = true ∨ t.led = true) ∧ L.length * 5 < t.mask * 3 ∧ L.length ≤ 4000
def BigO (P : Program) (w : World) (a : Addr) (L : List (Addr × List Int)) : HO := .ext fun h => Big0 P w h a L
theorem Big.b0 {P : Program} {w : World} {h : Heap} {a : Addr} {L : List (Addr × List Int)} {es : Array (Int × Value)} {ep : Nat} {t : SetTable} (R : Big P w h a L es ep t) : Big0 P w h a L := ⟨es, ep, t, R.o, R.rs, R.tab, R.nd, R.pl, R.ld, R.rm, R.few⟩
theorem Big0.big {P : Program} {w : World} {h : Heap} {a : Addr} {L : List (Addr × List Int)} (B : Big0 P w h a L) (tp : ∀ p ∈ L, IsT P w h p.2 p.1) : ∃ es ep t, Big P w h a L es ep t := by
  obtain ⟨es, ep, t, h1, h2, h3, h4, h5, h6, h7, h8⟩ := B
  exact ⟨es, ep, t, h1, h2, h3, h4, tp, h5, h6, h7, h8⟩
theorem bigO_new {P : Program} {w : World} {H : Hp} {h : Heap} {a : Addr} {L : List (Addr × List Int)} (B : Big0 P w h a L) : ObjOk P w H h a (BigO P w a L) := by
  have ⟨_, _, _, ⟨u, hu, _⟩, _⟩ := B
  refine ⟨B, ⟨u, hu⟩, fun h1 h2 p k => ?_⟩
  have ⟨es, ep, t, ⟨v, hv, r⟩, q⟩ : Big0 P w h1 a L := p
  exact ⟨es, ep, t, ⟨v, k v hv, r⟩, q⟩
theorem big_none {P : Program} {w : World} {h : Heap} {a : Addr} (e : h.get? a = some { cls := .type "set", dict := none, data := .set #[] 0 (.fresh 0 0 (!w.params.followText "set-order")) }) : Big0 P w h a [] := by
  refine ⟨#[], 0, _, ⟨_, e, ⟨rfl, rfl, rfl⟩, rfl⟩, rfl, ⟨List.Pairwise.nil, rfl, rfl, .inl rfl, fun y hy => (by cases hy), fun i g j hi => (by simp at hi)⟩, List.nodup_nil, rfl, ?_, (by show 0 * 5 < 7 * 3; decide), Nat.zero_le _⟩
  show _ ∨ (!w.params.followText "set-order") = true
  cases w.params.followText "set-order"
  · exact .inr rfl
  · exact .inl rfl
section
variable {X : Cx}
def rBig0 (P : Program) (w : World) : List V → Hp → VK → Prop := fun xs H Q => xs = [] ∧ ∀ p, H p = none → Q (.ref p) (upd H p (BigO P w p []))
theorem cr_big0 : CallR X (.type "set") (rBig0 X.prog X.w) := by
  intro pins s σ H xs us Q I r h
  obtain ⟨rfl, q⟩ := h
  cases r
  refine setR_new fun _ => ?_
  have e := Heap.get?_push_size s.heap (o := { cls := .type "set", dict := none, data := .set #[] 0 (.fresh 0 0 (!X.w.params.followText "set-order")) }) rfl
  exact ⟨.ref _, upd H s.heap.objs.size (BigO X.prog X.w s.heap.objs.size []), I.laid (t' := s.toks) (fun b u e => Heap.get?_push_of_some _ e) (Nat.le_refl _) (bigO_new (big_none e)), rfl, q _ (I.hok.fresh (Nat.le_refl _))⟩
def rBAdd (K : PySem.W.Frag) (P : Program) (w : World) : V → List V → Hp → VK → Prop := fun x xs H Q => ∃ (a z : Addr) (key : List Int) (L : List (Addr × List Int)), x = .ref a ∧ xs = [.ref z] ∧ H a = some (BigO P w a L) ∧ SqT K H z (key.map V.int) ∧
  (∀ p ∈ L, SqT K H p.1 (p.2.map V.int)) ∧ L.length + 1 ≤ 4000 ∧ ∀ L', (key ∈ L.map (·.2) → L' = L) → (key ∉ L.map (·.2) → L'.Perm ((z, key) :: L)) → Q .non (upd H a (BigO P w a L'))
theorem mt_badd (hu : X.A.units + 64 < cLine) : MtR X "set.add" (rBAdd X.K X.prog X.w) := by
  intro pins s σ H x xs v us Q I rx rxs h
  obtain ⟨a, z, key, L, rfl, rfl, ha, hz, hL, few, q⟩ := h
  cases rx
  rw [Vals.ref1 rxs]
  obtain ⟨es, ep, t, R⟩ := Big0.big (I.hok a _ ha).1 fun p hp => I.isT (hL p hp)
  have tz := I.isT hz
  obtain ⟨u, hu1, hu2, hu3⟩ := R.o
  refine wpAny_call_entry F.slot_set_add ⟨u, hu1, hu2.1⟩ F.entry_set_add ?_ (F.args_set_add_2 _ _)
  unfold Builtin.«set.add» Builtin.Frozenset.oneOther
  simp only [List.isEmpty_nil, bind_assoc]
  unfold Builtin.Frozenset.addrOf setAdd
  refine wpAny_bind (wpAny_pure ?_)
  try dsimp only
  refine wpAny_bind (wpAny_pure ?_)
  try dsimp only
  refine wpAny_bind (wpAny_holding (wpAny_bind (wpAny_pyHash_tuple (by show X.A.units + 1 < cLine; omega) tz ?_)))
  refine put_in (s := { s with toks := s.toks + (key.length + 1) }) R rfl tz (by show X.A.units + 1 < cLine; omega) few fun b h' L' es' ep' t' sb R' old new => ?_
  show wpAny _ _ (ret Value.none) _ _ _
  have he : ∃ u, h'.get? a = some u := by
    obtain ⟨u', e', _⟩ := R'.o
    exact ⟨u', e'⟩
  exact wpAny_pure ⟨_, rfl, .non, upd H a (BigO X.prog X.w a L'), I.write (e := a) (t' := s.toks + (key.length + 1)) (by rw [ha]; trivial) (.inl rfl) (fun b u hb hu => (sb.2 b hb).trans hu) he (bigO_new R'.b0), rfl, q L' old new⟩
def tBAdd (K : PySem.W.Frag) (P : Program) (w : World) (to : TE) (t : TA) : TE := fun σ H Q => to σ H fun x H1 => (∃ a L, x = V.ref a ∧ H1 a = some (BigO P w a L)) ∧ t σ H1 fun xs H2 => rBAdd K P w x xs H2 Q
variable {o e : Expr} {es : List Expr} {to : TE} {t : TA} {apos cpos : Pos}
theorem pe_badd (hu : X.A.units + 64 < cLine) (ho : PE X o to) (ha : PA X (e :: es) t)
    (hb : attributeBase o "add" X.env (eval o X.env) = eval o X.env := by rfl)
    (hf : ((backTo cpos (starEach (e :: es) X.env)).all (fun x => !x.1) && (backToKw cpos (keywordEach [] X.env)).all (fun x => x.1.isSome) && decide ((e :: es).length + ([] : List Keyword).length + (if ([] : List Keyword).isEmpty then 0 else 1) < 30)) = true := by rfl)
    (hl : (apos.endLine == cpos.line) = true := by rfl) (hs : starEach (e :: es) X.env = (false, eval e X.env) :: starEach es X.env := by rfl) (hp : (backTo cpos (starEach es X.env)).any (·.1) = false := by rfl) :
    PE X (.Call (.Attribute o "add" apos) (e :: es) [] cpos) (tBAdd X.K X.prog X.w to t) := by
  refine ⟨fun pins s σ H Q I h => ?_⟩
  refine wpAny_Call_method_late hb hf hl rfl (thn (ho.run pins s σ H _ I h) fun v s1 ⟨x, H1, I1, r1, ⟨a, L, e1, e2⟩, q1⟩ => ?_)
  subst e1
  have ⟨_, _, _, ⟨u, hu1, hu2, _⟩, _⟩ : Big0 X.prog X.w s1.heap a L := (I1.hok a _ e2).1
  cases r1
  refine ⟨"set", "set.add", F.plainAttrs_set, F.slot_set_add, F.type_set_add, ⟨u, hu1, hu2.1⟩, fun b e => ?_, ?_⟩
  · cases e
    exact ⟨u, hu1, hu2.2.1⟩
  have run := ha.run cpos pins s1 σ H1 _ I1 q1
  rw [hs] at run ⊢
  refine Calls.callWith_builtin (by show (false || (backTo cpos (starEach es X.env)).any (·.1)) = false; rw [hp]; rfl) (Calls.evalArgs_plain ?_)
  exact thn run fun us s2 ⟨vs, H2, I2, r2, q2⟩ => mt_badd hu pins s2 σ H2 (.ref a) vs (.ref a) us Q I2 rfl r2 q2
theorem reads_ints {P : Program} {w : World} {h : Heap} : ∀ {ns : List Int} {vs : List Value}, ItemsAre (intKind P w) ns vs → ReadsAll h vs (ns.map PyData.int) []
  | _, _, .nil => .nil
  | n :: _, _, .cons e r => by
    obtain ⟨t, rfl⟩ := Value.isInt_shape e
    exact ReadsAll.cons (as := []) (bs := []) (.int n t) (reads_ints r)
theorem reads_tup {P : Program} {w : World} {h : Heap} {ns : List Int} {a : Addr} (x : IsT P w h ns a) : Reads h (.ref a) (rowD ns) [] := by
  obtain ⟨o, vs, n, e, c, d, r⟩ := x
  exact .tuple e c d (reads_ints r)
theorem each_refs {f : Value → Addr × List Int → Prop} : ∀ {L : List (Addr × List Int)}, (∀ p ∈ L, f (.ref p.1) p) → PySem.W.EachIs f (L.map fun p => Value.ref p.1) L
  | [], _ => .nil
  | _ :: _, h => .cons (h _ List.mem_cons_self) (each_refs fun p hp => h p (List.mem_cons_of_mem _ hp))
theorem refs_each : ∀ {vs : List Value} {L : List (Addr × List Int)}, PySem.W.EachIs (fun v (p : Addr × List Int) => v = .ref p.1) vs L → vs = L.map fun p => Value.ref p.1
  | _, _, .nil => rfl
  | _, _, .cons h r => by
    subst h
    rw [refs_each r]
    rfl
theorem back_refs {L : List (Addr × List Int)} (inj : ∀ p ∈ L, ∀ q ∈ L, p.1 = q.1 → p = q) (nd : L.Nodup) {vs : List Value} (pm : vs.Perm (L.map fun p => Value.ref p.1)) : ∃ L1 : List (Addr × List Int), vs = L1.map (fun p => Value.ref p.1) ∧ L1.Perm L := by
  have one : ∀ vs : List Value, (∀ v ∈ vs, ∃ p ∈ L, v = Value.ref p.1) → ∃ L1 : List (Addr × List Int), vs = L1.map (fun p => Value.ref p.1) ∧ ∀ p ∈ L1, p ∈ L := fun vs => by
    induction vs with
    | nil => exact fun _ => ⟨[], rfl, fun p hp => (by cases hp)⟩
    | cons v vs ih =>
      intro hv
      obtain ⟨p, hp, rfl⟩ := hv v List.mem_cons_self
      obtain ⟨L1, rfl, sub⟩ := ih fun u hu => hv u (List.mem_cons_of_mem _ hu)
      exact ⟨p :: L1, rfl, fun q hq => (List.mem_cons.mp hq).elim (fun e => e ▸ hp) (sub q)⟩
  obtain ⟨L1, rfl, sub⟩ := one vs fun v hv => by
    obtain ⟨p, hp, e⟩ := List.mem_map.mp (pm.mem_iff.mp hv)
    exact ⟨p, hp, e.symm⟩
  refine ⟨L1, rfl, ?_⟩
  have nr : (L.map fun p => Value.ref p.1).Nodup := List.pairwise_map.mpr (nd.imp_of_mem fun {p q} hp hq ne e => ne (inj p hp q hq (by injection e)))
  have n1 : L1.Nodup := nodup_of_map (pm.nodup_iff.mpr nr)
  refine (List.perm_ext_iff_of_nodup n1 nd).mpr fun p => ⟨sub p, fun hp => ?_⟩
  obtain ⟨q, hq, e⟩ := List.mem_map.mp (pm.mem_iff.mpr (List.mem_map.mpr ⟨p, hp, rfl⟩))
  have e' : q.1 = p.1 := by injection e
  rw [← inj q (sub q hq) p hp e']
  exact hq
theorem sorted_big {A : Around} {P : Program} {w : World} {E : Value → Shared → Prop} {s : Shared} {a : Addr} {L : List (Addr × List Int)} {es : Array (Int × Value)} {ep : Nat} {t : SetTable} {Q : Value → Shared → Prop} (R : Big P w s.heap a L es ep t) (hh : A.handled = none) (hu : A.units + 64 < cLine) (ne : ∀ p ∈ L, p.2 ≠ [])
    (k : ∀ s' l (out : List Value) (c : Nat) (L' : List (Addr × List Int)), (∀ b o, s.heap.get? b = some o → s'.heap.get? b = some o) → s'.gens = s.gens → s'.os = s.os → s.heap.objs.size ≤ l → s'.heap.get? l = some (seqObj "list" out.toArray c) →
      out = L'.map (fun p => Value.ref p.1) → L'.Perm L → L'.Pairwise (fun p q => p.2 ≤ q.2) → Q (.ref l) s') : wpAny (model P w) A (call (.builtin "sorted") [.ref a]) Q E s := by
  obtain ⟨u, hu1, hu2, hu3⟩ := R.o
  have few := R.few
  have sl : 8192 ≤ sizeLine := by decide
  refine Calls.call_function_entry kind_sorted plain_sorted entry_sorted (args_sorted1 _) ?_
  unfold Builtin.«sorted»
  refine wpAny_bind (m := checkCount "sorted" 1 1 _) (wpAny_pure ?_)
  refine wpAny_bind (collect_set (A := A.in1) hh ⟨u, hu1, hu2.1, hu3⟩ R.fits (by rw [R.size]; unfold scanBound; omega) R.tab.r R.ld fun s1 vs k1 z1 g1 o1 pm => ?_)
  have ev : es.toList.map (·.2) = L.map fun p => Value.ref p.1 := by
    rw [R.rs]
    unfold rowsOf
    rw [List.map_map]
    rfl
  rw [ev] at pm
  obtain ⟨L1, rfl, p1⟩ := back_refs (fun p hp q hq e => by
    have tp := R.tp p hp
    rw [e] at tp
    exact Prod.ext e (tp.inj (R.tp q hq))) (nodup_of_map R.nd) pm
  have l1 : L1.length ≤ 4000 := by rw [p1.length_eq]; exact few
  refine wpAny_bind (wpAny_newList ?_ (by simp; omega))
  have hl : (s1.heap.push (seqObj "list" (L1.map fun p => Value.ref p.1).toArray 0)).get? s1.heap.objs.size = some (seqObj "list" (L1.map fun p => Value.ref p.1).toArray 0) := Heap.get?_push_size _ rfl
  have tp : ∀ p ∈ L1, IsT P w (s1.heap.push (seqObj "list" (L1.map fun p => Value.ref p.1).toArray 0)) p.2 p.1 := fun p hp => isT_keep (R.tp p (p1.mem_iff.mp hp)) fun b v e => Heap.get?_push_of_some _ (k1 b v e)
  refine wpAny_bind (wpAny_holding (PySem.W.list_sort_data (s := { s1 with heap := s1.heap.push (seqObj "list" (L1.map fun p => Value.ref p.1).toArray 0) }) (R := fun v (p : Addr × List Int) => v = .ref p.1) (enc := fun p => rowD p.2) hl (each_refs fun _ _ => rfl) (each_refs fun p hp => ⟨[], reads_tup (tp p hp), fun z => nomatch z⟩) (PySem.W.AllAlike.of fun p q => PySem.W.alike_ints p.2 q.2) (.inl fun d hd => ?_) (by omega) (fun p _ => ?_) fun out lo eo => ?_))
  · obtain ⟨p, hp, rfl⟩ := List.mem_map.mp hd
    cases e : p.2 with
    | nil => exact absurd e (ne p (p1.mem_iff.mp hp))
    | cons x m => exact ⟨.int x, m.map PyData.int, rfl⟩
  · have hd : (rowD p.2).depth = 1 := by
      show PyData.depthAll (p.2.map PyData.int) + 1 = 1
      rw [PySem.W.depth_ints]
    rw [hd]
    show A.units + 1 + 1 + 1 < cLine
    omega
  · obtain ⟨c, hc⟩ := sortedHeap_at (vs := L1.map fun p => Value.ref p.1) (out := out.toArray) hl
    have hp := List.mergeSort_perm L1 (PySem.W.dataLe false fun p : Addr × List Int => rowD p.2)
    have hw : (L1.mergeSort (PySem.W.dataLe false fun p : Addr × List Int => rowD p.2)).Pairwise (fun p q => p.2 ≤ q.2) := by
      rw [dataLe_tups (fun p : Addr × List Int => p.2)]
      refine (List.pairwise_mergeSort (le := fun p q : Addr × List Int => decide (p.2 ≤ q.2)) (fun x y z h1 h2 => decide_eq_true (List.le_trans (of_decide_eq_true h1) (of_decide_eq_true h2))) (fun x y => ?_) L1).imp fun h => of_decide_eq_true h
      rcases List.le_total x.2 y.2 with h | h
      · rw [decide_eq_true h]
        rfl
      · rw [decide_eq_true h, Bool.or_true]
    refine wpAny_pure ⟨_, rfl, k _ s1.heap.objs.size out c _ (fun b v e => ?_) g1 o1 z1 hc (refs_each eo) (hp.trans p1) hw⟩
    have e1 := k1 b v e
    have lt := Heap.lt_size e1
    show (sortedHeap (s1.heap.push (seqObj "list" (L1.map fun p => Value.ref p.1).toArray 0)) s1.heap.objs.size (L1.map fun p => Value.ref p.1) out.toArray).get? b = some v
    rw [sortedHeap_old (Nat.ne_of_lt lt) (by rw [size_push']; exact Nat.lt_succ_of_lt lt)]
    exact Heap.get?_push_of_some _ e1
def rBSorted (K : PySem.W.Frag) (P : Program) (w : World) : List V → Hp → VK → Prop := fun vs H Q => ∃ (a : Addr) (L : List (Addr × List Int)), vs = [.ref a] ∧ H a = some (BigO P w a L) ∧ (∀ p ∈ L, p.2 ≠ [] ∧ SqT K H p.1 (p.2.map V.int)) ∧
  ∀ (L' : List (Addr × List Int)) (l : Addr), L'.Perm L → (L'.map (·.2)).Nodup → L'.Pairwise (fun p q => p.2 ≤ q.2) → H l = none → Q (.ref l) (upd H l (.lst (L'.map fun p => V.ref p.1)))
theorem cr_bsorted (hc : X.calm = true) (hu : X.A.units + 64 < cLine) : CallR X (.builtin "sorted") (rBSorted X.K X.prog X.w) := by
  intro pins s σ H vs us Q I r h
  obtain ⟨a, L, rfl, ha, hL, q⟩ := h
  obtain ⟨es, ep, t, R⟩ := Big0.big (I.hok a _ ha).1 fun p hp => I.isT (hL p hp).2
  rw [Vals.ref1 r]
  refine sorted_big R (I.ok.hd hc) hu (fun p hp => (hL p hp).1) fun s' l out c L' kp g o lz hl eo pm pw => ?_
  have few : L'.length ≤ 4000 := by rw [pm.length_eq]; exact R.few
  have sl : 8192 ≤ sizeLine := by decide
  have hn : H l = none := I.hok.fresh lz
  have J : Inv X pins σ (upd H l (.lst (L'.map fun p => V.ref p.1))) { s with heap := s'.heap, gens := s'.gens, drawn := s'.drawn, toks := s'.toks } :=
    I.call (ch := []) (Un.laid kp lz hn) (I.hok.laid kp lz ⟨by rw [List.length_map]; omega, out, c, by rw [eo]; exact vals_of_refs L', hl⟩) (by rw [g]; exact I.bare) (fun _ z => nomatch z)
  have e : s' = { s with heap := s'.heap, gens := s'.gens, drawn := s'.drawn, toks := s'.toks } := by
    cases s'
    cases s
    cases o
    rfl
  rw [e]
  exact ⟨.ref l, _, J, rfl, q L' l pm ((pm.map (·.2)).nodup_iff.mpr R.nd) pw hn⟩
end
end Bt
set_option maxRecDepth 100000
set_option maxHeartbeats 4000000
namespace Tt
open PySem L2
structure DefAt (K : PySem.W.Frag) (mg : Str → Option Value) (x : Str) (st : Stmt) (ps : List Str) where
  a : Addr
  fd : FuncData
  F : Fun K x x st a fd
  g : mg x = some (.ref a)
  b : Binds K fd ps []
theorem DefAt.k {K : PySem.W.Frag} {mg : Str → Option Value} {x : Str} {st : Stmt} {ps : List Str} (d : DefAt K mg x st ps) : PySem.W.keepIn K (.ref d.a) = true := d.F.kp
structure Ex0 (K : PySem.W.Frag) (mg : Str → Option Value) (x : Str) where
  C : Addr
  g : mg x = some (.ref C)
  k : PySem.W.keepIn K (.ref C) = true
  q : PySem.W.excIn K C [.type "ValueError", .type "Exception", .type "BaseException", .type "object"] "ValueError.__new__" = true
  ty : PySem.W.typeIn K (.ref C) = some (.type "type")
  ec : ExcC K C
structure Ex1 (K : PySem.W.Frag) (mg : Str → Option Value) (x qual : Str) (st : Stmt) (ps : List Str) (field : Str) where
  C : Addr
  fI : Addr
  fd : FuncData
  g : mg x = some (.ref C)
  o : OexC K C
  i : PySem.W.findIn K (.ref C) "__init__" = some (some (.ref fI))
  t : PySem.W.typeIn K (.ref fI) = some (.type "function")
  F : Fun K "__init__" qual st fI fd
  b : Binds K fd ps []
  n : PySem.W.findIn K (.ref C) field = some none
  xf : XfC K C
  ec : ExcC K C
structure ClsAt (K : PySem.W.Frag) (mg : Str → Option Value) (x qual : Str) (st : Stmt) (ps : List Str) (attrs : List Str) where
  C : Addr
  fI : Addr
  fd : FuncData
  g : mg x = some (.ref C)
  c : Cls K C
  n : ∀ f ∈ attrs, NoAttr K C f
  kk : Mk K C fI
  F : Fun K "__init__" qual st fI fd
  b : Binds K fd ps []
  ha : PySem.W.findIn K (.ref C) "__class__" = some (some (.builtin "object.__class__"))
  hn : PySem.W.specialIn K (.builtin "object.__class__") "__get__" = some (some (.builtin "getset_descriptor.__get__"))
  ht : PySem.W.takesIn K (.builtin "object.__class__") = some true
  hm : PySem.W.mroIn K C (.type "object") = some true
structure FunC (K : PySem.W.Frag) (x qual : Str) (st : Stmt) (f : Addr) (fd : FuncData) (cdv : Value) : Prop where
  ex : ∃ (oc : Value) (od : Option Addr) (kV doc pm : Value) (an : Option Addr) (ct : Value) (osl : Array (Option Value)),
    fd = PySem.W.fnOf x qual (defArgs st) (defBody st) (defScope st) .none kV doc pm an cdv ct ∧ K.lookup f = some ⟨oc, od, .func fd, osl⟩ ∧ PySem.W.codeIn K cdv qual = true
theorem FunC.ok {P : Program} {w : World} {K : PySem.W.Frag} {mg : Str → Option Value} {base : Heap} {x qual : Str} {st : Stmt} {f : Addr} {fd : FuncData} {cdv : Value} {N ps : List Str} {k : Nat} {sp : Sp} (F : FunC K x qual st f fd cdv) (S : FnScope N ps (defScope st)) (len : ∀ vs H Q E, sp vs H Q E → vs.length = ps.length)
    (body : ∀ (A : Around) (outer : List Env) (s : Shared) (H : Hp) (vs : List V) (Q : VK) (E : XK), Room k (A.deeper (PyProof.Rows.envOfC qual (defScope st) s.heap.objs.size f cdv)) → sp vs H Q E →
      ∃ t, PSs (cxOf CX0 P w K mg base N qual (defScope st) f cdv A outer s H E).nox (defBody st) t ∧ t { nx := fun _ H' => Q .non H', rt := Q } (L2.start N vs) H) : FnOk P w K mg base CX0 (k + 1) f fd ps sp := by
  obtain ⟨oc, od, kV, doc, pm, an, ct, osl, rfl, lk, hc⟩ := F.ex
  refine fn_of lk hc S len fun A outer s H vs Q E hr h => ?_
  obtain ⟨t, h1, h2⟩ := body A outer s H vs Q E hr h
  exact ⟨t, h1.nox, h2⟩
def top (i : Nat) : Stmt := PySem.Challenge.pw_tautrounds_k12_whole_powers.main.body.getD i (.Pass ⟨0, 0, 0, 0⟩)
abbrev s_BadRounds_init : Stmt := inClass (top 3) 0
abbrev N_BadRounds_init : List Str := ["self", "part"]
theorem sc_BadRounds_init : FnScope N_BadRounds_init ["self", "part"] (defScope s_BadRounds_init) := ⟨rfl, rfl, rfl, by decide +kernel, rfl, by decide +kernel, by decide +kernel⟩
abbrev s_BadSkin_init : Stmt := inClass (top 4) 0
abbrev N_BadSkin_init : List Str := ["self", "part"]
theorem sc_BadSkin_init : FnScope N_BadSkin_init ["self", "part"] (defScope s_BadSkin_init) := ⟨rfl, rfl, rfl, by decide +kernel, rfl, by decide +kernel, by decide +kernel⟩
abbrev s_is_number : Stmt := top 6
abbrev N_is_number : List Str := ["thing"]
theorem sc_is_number : FnScope N_is_number ["thing"] (defScope s_is_number) := ⟨rfl, rfl, rfl, by decide +kernel, rfl, by decide +kernel, by decide +kernel⟩
abbrev s_is_within : Stmt := top 7
abbrev N_is_within : List Str := ["thing", "low", "high"]
theorem sc_is_within : FnScope N_is_within ["thing", "low", "high"] (defScope s_is_within) := ⟨rfl, rfl, rfl, by decide +kernel, rfl, by decide +kernel, by decide +kernel⟩
abbrev s_is_tuple : Stmt := top 8
abbrev N_is_tuple : List Str := ["thing"]
theorem sc_is_tuple : FnScope N_is_tuple ["thing"] (defScope s_is_tuple) := ⟨rfl, rfl, rfl, by decide +kernel, rfl, by decide +kernel, by decide +kernel⟩
abbrev s_is_list : Stmt := top 9
abbrev N_is_list : List Str := ["thing"]
theorem sc_is_list : FnScope N_is_list ["thing"] (defScope s_is_list) := ⟨rfl, rfl, rfl, by decide +kernel, rfl, by decide +kernel, by decide +kernel⟩
abbrev s_is_row : Stmt := top 11
abbrev N_is_row : List Str := ["row", "end"]
theorem sc_is_row : FnScope N_is_row ["row"] (defScope s_is_row) := ⟨rfl, rfl, rfl, by decide +kernel, rfl, by decide +kernel, by decide +kernel⟩
abbrev s_Skin_init : Stmt := inClass (top 12) 0
abbrev N_Skin_init : List Str := ["self", "row", "start", "end"]
theorem sc_Skin_init : FnScope N_Skin_init ["self", "row"] (defScope s_Skin_init) := ⟨rfl, rfl, rfl, by decide +kernel, rfl, by decide +kernel, by decide +kernel⟩
abbrev s_Skin_eq : Stmt := inClass (top 12) 1
abbrev N_Skin_eq : List Str := ["self", "other"]
theorem sc_Skin_eq : FnScope N_Skin_eq ["self", "other"] (defScope s_Skin_eq) := ⟨rfl, rfl, rfl, by decide +kernel, rfl, by decide +kernel, by decide +kernel⟩
abbrev s_check_skin : Stmt := top 13
abbrev N_check_skin : List Str := ["skin"]
theorem sc_check_skin : FnScope N_check_skin ["skin"] (defScope s_check_skin) := ⟨rfl, rfl, rfl, by decide +kernel, rfl, by decide +kernel, by decide +kernel⟩
abbrev s_is_end : Stmt := top 14
abbrev N_is_end : List Str := ["skin", "thing"]
theorem sc_is_end : FnScope N_is_end ["skin", "thing"] (defScope s_is_end) := ⟨rfl, rfl, rfl, by decide +kernel, rfl, by decide +kernel, by decide +kernel⟩
abbrev s_stands_ahead : Stmt := top 15
abbrev N_stands_ahead : List Str := ["skin", "start", "one", "other", "many", "first"]
theorem sc_stands_ahead : FnScope N_stands_ahead ["skin", "start", "one", "other"] (defScope s_stands_ahead) := ⟨rfl, rfl, rfl, by decide +kernel, rfl, by decide +kernel, by decide +kernel⟩
abbrev s_by_turns : Stmt := top 16
abbrev N_by_turns : List Str := ["one", "end", "other", "tail", "low", "high"]
theorem sc_by_turns : FnScope N_by_turns ["one", "end", "other", "tail"] (defScope s_by_turns) := ⟨rfl, rfl, rfl, by decide +kernel, rfl, by decide +kernel, by decide +kernel⟩
abbrev s_least_turn : Stmt := top 17
abbrev N_least_turn : List Str := ["word", "many", "one", "other", "alike", "first", "second", "start"]
theorem sc_least_turn : FnScope N_least_turn ["word"] (defScope s_least_turn) := ⟨rfl, rfl, rfl, by decide +kernel, rfl, by decide +kernel, by decide +kernel⟩
abbrev s_is_any_word : Stmt := top 19
abbrev N_is_any_word : List Str := ["skin", "thing", "letter"]
theorem sc_is_any_word : FnScope N_is_any_word ["skin", "thing"] (defScope s_is_any_word) := ⟨rfl, rfl, rfl, by decide +kernel, rfl, by decide +kernel, by decide +kernel⟩
abbrev s_has_letters : Stmt := top 20
abbrev N_has_letters : List Str := ["skin", "thing", "most"]
theorem sc_has_letters : FnScope N_has_letters ["skin", "thing", "most"] (defScope s_has_letters) := ⟨rfl, rfl, rfl, by decide +kernel, rfl, by decide +kernel, by decide +kernel⟩
abbrev s_cut_free : Stmt := top 21
abbrev N_cut_free : List Str := ["word", "left", "letter"]
theorem sc_cut_free : FnScope N_cut_free ["word"] (defScope s_cut_free) := ⟨rfl, rfl, rfl, by decide +kernel, rfl, by decide +kernel, by decide +kernel⟩
abbrev s_closed_letters : Stmt := top 26
abbrev N_closed_letters : List Str := ["word", "left", "cut"]
theorem sc_closed_letters : FnScope N_closed_letters ["word"] (defScope s_closed_letters) := ⟨rfl, rfl, rfl, by decide +kernel, rfl, by decide +kernel, by decide +kernel⟩
abbrev s_closed_up : Stmt := top 27
abbrev N_closed_up : List Str := ["word", "left"]
theorem sc_closed_up : FnScope N_closed_up ["word"] (defScope s_closed_up) := ⟨rfl, rfl, rfl, by decide +kernel, rfl, by decide +kernel, by decide +kernel⟩
abbrev s_is_fit_round : Stmt := top 28
abbrev N_is_fit_round : List Str := ["skin", "thing"]
theorem sc_is_fit_round : FnScope N_is_fit_round ["skin", "thing"] (defScope s_is_fit_round) := ⟨rfl, rfl, rfl, by decide +kernel, rfl, by decide +kernel, by decide +kernel⟩
abbrev s_check_round : Stmt := top 29
abbrev N_check_round : List Str := ["skin", "loop"]
theorem sc_check_round : FnScope N_check_round ["skin", "loop"] (defScope s_check_round) := ⟨rfl, rfl, rfl, by decide +kernel, rfl, by decide +kernel, by decide +kernel⟩
abbrev s_check_rounds : Stmt := top 30
abbrev N_check_rounds : List Str := ["skin", "rounds", "place", "loop"]
theorem sc_check_rounds : FnScope N_check_rounds ["skin", "rounds"] (defScope s_check_rounds) := ⟨rfl, rfl, rfl, by decide +kernel, rfl, by decide +kernel, by decide +kernel⟩
abbrev s_rooted : Stmt := top 31
abbrev N_rooted : List Str := ["loop", "size"]
theorem sc_rooted : FnScope N_rooted ["loop"] (defScope s_rooted) := ⟨rfl, rfl, rfl, by decide +kernel, rfl, by decide +kernel, by decide +kernel⟩
abbrev s_letter_on : Stmt := top 33
abbrev N_letter_on : List Str := ["loop", "place", "way", "far", "letter"]
theorem sc_letter_on : FnScope N_letter_on ["loop", "place", "way", "far"] (defScope s_letter_on) := ⟨rfl, rfl, rfl, by decide +kernel, rfl, by decide +kernel, by decide +kernel⟩
abbrev s_shared : Stmt := top 34
abbrev N_shared : List Str := ["one", "place", "other", "spot", "way", "side", "many", "far"]
theorem sc_shared : FnScope N_shared ["one", "place", "other", "spot", "way", "side"] (defScope s_shared) := ⟨rfl, rfl, rfl, by decide +kernel, rfl, by decide +kernel, by decide +kernel⟩
abbrev s_from_left : Stmt := top 35
abbrev N_from_left : List Str := ["skin", "one", "place", "other", "spot", "way", "leave"]
theorem sc_from_left : FnScope N_from_left ["skin", "one", "place", "other", "spot", "way"] (defScope s_from_left) := ⟨rfl, rfl, rfl, by decide +kernel, rfl, by decide +kernel, by decide +kernel⟩
abbrev s_to_right : Stmt := top 36
abbrev N_to_right : List Str := ["skin", "one", "place", "other", "spot", "way", "come"]
theorem sc_to_right : FnScope N_to_right ["skin", "one", "place", "other", "spot", "way"] (defScope s_to_right) := ⟨rfl, rfl, rfl, by decide +kernel, rfl, by decide +kernel, by decide +kernel⟩
abbrev s_common_stretch : Stmt := top 37
abbrev N_common_stretch : List Str := ["skin", "one", "place", "other", "spot", "way", "back", "on", "from_left", "to_right"]
theorem sc_common_stretch : FnScope N_common_stretch ["skin", "one", "place", "other", "spot"] (defScope s_common_stretch) := ⟨rfl, rfl, rfl, by decide +kernel, rfl, by decide +kernel, by decide +kernel⟩
abbrev s_linked_along : Stmt := top 39
abbrev N_linked_along : List Str := ["skin", "one", "place", "other", "spot", "way", "_", "length", "is_linked"]
theorem sc_linked_along : FnScope N_linked_along ["skin", "one", "place", "other", "spot"] (defScope s_linked_along) := ⟨rfl, rfl, rfl, by decide +kernel, rfl, by decide +kernel, by decide +kernel⟩
abbrev s_linked_across : Stmt := top 40
abbrev N_linked_across : List Str := ["skin", "one", "place", "other", "spot", "ends", "first", "second", "third", "fourth", "end"]
theorem sc_linked_across : FnScope N_linked_across ["skin", "one", "place", "other", "spot"] (defScope s_linked_across) := ⟨rfl, rfl, rfl, by decide +kernel, rfl, by decide +kernel, by decide +kernel⟩
abbrev s_pairs_of : Stmt := top 41
abbrev N_pairs_of : List Str := ["skin", "one", "other", "found", "place", "spot", "length"]
theorem sc_pairs_of : FnScope N_pairs_of ["skin", "one", "other"] (defScope s_pairs_of) := ⟨rfl, rfl, rfl, by decide +kernel, rfl, by decide +kernel, by decide +kernel⟩
abbrev s_linked_pairs : Stmt := top 42
abbrev N_linked_pairs : List Str := ["skin", "one", "other"]
theorem sc_linked_pairs : FnScope N_linked_pairs ["skin", "one", "other"] (defScope s_linked_pairs) := ⟨rfl, rfl, rfl, by decide +kernel, rfl, by decide +kernel, by decide +kernel⟩
abbrev s_taken_otherwise : Stmt := top 43
abbrev N_taken_otherwise : List Str := ["loop", "pair", "place", "spot", "length"]
theorem sc_taken_otherwise : FnScope N_taken_otherwise ["loop", "pair"] (defScope s_taken_otherwise) := ⟨rfl, rfl, rfl, by decide +kernel, rfl, by decide +kernel, by decide +kernel⟩
abbrev s_u_own_pairs : Stmt := top 44
abbrev N_u_own_pairs : List Str := ["skin", "loop", "found", "pair"]
theorem sc_u_own_pairs : FnScope N_u_own_pairs ["skin", "loop"] (defScope s_u_own_pairs) := ⟨rfl, rfl, rfl, by decide +kernel, rfl, by decide +kernel, by decide +kernel⟩
abbrev s_own_pairs : Stmt := top 45
abbrev N_own_pairs : List Str := ["skin", "loop"]
theorem sc_own_pairs : FnScope N_own_pairs ["skin", "loop"] (defScope s_own_pairs) := ⟨rfl, rfl, rfl, by decide +kernel, rfl, by decide +kernel, by decide +kernel⟩
abbrev s_own_number : Stmt := top 46
abbrev N_own_number : List Str := ["skin", "loop"]
theorem sc_own_number : FnScope N_own_number ["skin", "loop"] (defScope s_own_number) := ⟨rfl, rfl, rfl, by decide +kernel, rfl, by decide +kernel, by decide +kernel⟩
abbrev s_crossings : Stmt := top 47
abbrev N_crossings : List Str := ["skin", "one", "other"]
theorem sc_crossings : FnScope N_crossings ["skin", "one", "other"] (defScope s_crossings) := ⟨rfl, rfl, rfl, by decide +kernel, rfl, by decide +kernel, by decide +kernel⟩
abbrev s_own_crossings : Stmt := top 48
abbrev N_own_crossings : List Str := ["skin", "loop"]
theorem sc_own_crossings : FnScope N_own_crossings ["skin", "loop"] (defScope s_own_crossings) := ⟨rfl, rfl, rfl, by decide +kernel, rfl, by decide +kernel, by decide +kernel⟩
abbrev s_fewest : Stmt := top 49
abbrev N_fewest : List Str := ["skin", "rounds", "many", "place", "loop", "other"]
theorem sc_fewest : FnScope N_fewest ["skin", "rounds"] (defScope s_fewest) := ⟨rfl, rfl, rfl, by decide +kernel, rfl, by decide +kernel, by decide +kernel⟩
abbrev s_l_begun : Stmt := top 51
abbrev N_l_begun : List Str := ["script", "large", "grain"]
theorem sc_l_begun : FnScope N_l_begun ["script"] (defScope s_l_begun) := ⟨rfl, rfl, rfl, by decide +kernel, rfl, by decide +kernel, by decide +kernel⟩
abbrev s_l_mixed : Stmt := top 52
abbrev N_l_mixed : List Str := ["draw", "turn", "found", "great", "blend", "grain"]
theorem sc_l_mixed : FnScope N_l_mixed ["draw"] (defScope s_l_mixed) := ⟨rfl, rfl, rfl, by decide +kernel, rfl, by decide +kernel, by decide +kernel⟩
abbrev s_l_take : Stmt := top 53
abbrev N_l_take : List Str := ["draw", "amount", "found"]
theorem sc_l_take : FnScope N_l_take ["draw", "amount"] (defScope s_l_take) := ⟨rfl, rfl, rfl, by decide +kernel, rfl, by decide +kernel, by decide +kernel⟩
abbrev s_l_pick : Stmt := top 54
abbrev N_l_pick : List Str := ["draw", "some"]
theorem sc_l_pick : FnScope N_l_pick ["draw", "some"] (defScope s_l_pick) := ⟨rfl, rfl, rfl, by decide +kernel, rfl, by decide +kernel, by decide +kernel⟩
abbrev s_l_shuffled : Stmt := top 55
abbrev N_l_shuffled : List Str := ["draw", "some", "left", "found"]
theorem sc_l_shuffled : FnScope N_l_shuffled ["draw", "some"] (defScope s_l_shuffled) := ⟨rfl, rfl, rfl, by decide +kernel, rfl, by decide +kernel, by decide +kernel⟩
abbrev s_l_row : Stmt := top 56
abbrev N_l_row : List Str := ["draw", "bands"]
theorem sc_l_row : FnScope N_l_row ["draw", "bands"] (defScope s_l_row) := ⟨rfl, rfl, rfl, by decide +kernel, rfl, by decide +kernel, by decide +kernel⟩
abbrev s_l_undone : Stmt := top 57
abbrev N_l_undone : List Str := ["word", "letter"]
theorem sc_l_undone : FnScope N_l_undone ["word"] (defScope s_l_undone) := ⟨rfl, rfl, rfl, by decide +kernel, rfl, by decide +kernel, by decide +kernel⟩
abbrev s_l_least : Stmt := top 58
abbrev N_l_least : List Str := ["word", "k"]
theorem sc_l_least : FnScope N_l_least ["word"] (defScope s_l_least) := ⟨rfl, rfl, rfl, by decide +kernel, rfl, by decide +kernel, by decide +kernel⟩
abbrev s_l_drawn : Stmt := top 59
abbrev N_l_drawn : List Str := ["draw", "size", "many", "found", "letter"]
theorem sc_l_drawn : FnScope N_l_drawn ["draw", "size", "many"] (defScope s_l_drawn) := ⟨rfl, rfl, rfl, by decide +kernel, rfl, by decide +kernel, by decide +kernel⟩
abbrev s_l_any_loop : Stmt := top 60
abbrev N_l_any_loop : List Str := ["draw", "size", "most", "way", "many", "part", "letter", "word", "lap", "other"]
theorem sc_l_any_loop : FnScope N_l_any_loop ["draw", "size", "most"] (defScope s_l_any_loop) := ⟨rfl, rfl, rfl, by decide +kernel, rfl, by decide +kernel, by decide +kernel⟩
abbrev s_l_mended : Stmt := top 61
abbrev N_l_mended : List Str := ["word", "found", "k"]
theorem sc_l_mended : FnScope N_l_mended ["word"] (defScope s_l_mended) := ⟨rfl, rfl, rfl, by decide +kernel, rfl, by decide +kernel, by decide +kernel⟩
abbrev s_l_far : Stmt := top 62
abbrev N_l_far : List Str := ["letters", "spots", "found", "come", "size", "letter"]
theorem sc_l_far : FnScope N_l_far ["letters", "spots"] (defScope s_l_far) := ⟨rfl, rfl, rfl, by decide +kernel, rfl, by decide +kernel, by decide +kernel⟩
abbrev s_l_ways : Stmt := top 63
abbrev N_l_ways : List Str := ["row", "one", "many", "spots", "size", "found", "place", "onward", "back", "k", "end"]
theorem sc_l_ways : FnScope N_l_ways ["row", "one", "many"] (defScope s_l_ways) := ⟨rfl, rfl, rfl, by decide +kernel, rfl, by decide +kernel, by decide +kernel⟩
abbrev s_l_by_turns : Stmt := top 64
abbrev N_l_by_turns : List Str := ["first", "second", "low", "high"]
theorem sc_l_by_turns : FnScope N_l_by_turns ["first", "second"] (defScope s_l_by_turns) := ⟨rfl, rfl, rfl, by decide +kernel, rfl, by decide +kernel, by decide +kernel⟩
abbrev s_l_meets : Stmt := top 65
abbrev N_l_meets : List Str := ["row", "one", "other", "many", "here", "there", "found", "place", "spot", "come", "ends"]
theorem sc_l_meets : FnScope N_l_meets ["row", "one", "other"] (defScope s_l_meets) := ⟨rfl, rfl, rfl, by decide +kernel, rfl, by decide +kernel, by decide +kernel⟩
abbrev s_l_crossings : Stmt := top 66
abbrev N_l_crossings : List Str := ["row", "one", "other"]
theorem sc_l_crossings : FnScope N_l_crossings ["row", "one", "other"] (defScope s_l_crossings) := ⟨rfl, rfl, rfl, by decide +kernel, rfl, by decide +kernel, by decide +kernel⟩
abbrev s_l_own : Stmt := top 67
abbrev N_l_own : List Str := ["row", "one", "size", "k"]
theorem sc_l_own : FnScope N_l_own ["row", "one"] (defScope s_l_own) := ⟨rfl, rfl, rfl, by decide +kernel, rfl, by decide +kernel, by decide +kernel⟩
abbrev s_l_root : Stmt := top 68
abbrev N_l_root : List Str := ["one", "k"]
theorem sc_l_root : FnScope N_l_root ["one"] (defScope s_l_root) := ⟨rfl, rfl, rfl, by decide +kernel, rfl, by decide +kernel, by decide +kernel⟩
abbrev s_l_times : Stmt := top 69
abbrev N_l_times : List Str := ["draw", "one"]
theorem sc_l_times : FnScope N_l_times ["draw", "one"] (defScope s_l_times) := ⟨rfl, rfl, rfl, by decide +kernel, rfl, by decide +kernel, by decide +kernel⟩
abbrev s_l_two_right : Stmt := top 70
abbrev N_l_two_right : List Str := ["draw", "skin", "row", "x", "y", "due", "a", "b", "told"]
theorem sc_l_two_right : FnScope N_l_two_right ["draw", "skin", "row", "x", "y"] (defScope s_l_two_right) := ⟨rfl, rfl, rfl, by decide +kernel, rfl, by decide +kernel, by decide +kernel⟩
abbrev s_l_one_right : Stmt := top 71
abbrev N_l_one_right : List Str := ["draw", "skin", "row", "x", "own", "a", "b", "due", "about", "both"]
theorem sc_l_one_right : FnScope N_l_one_right ["draw", "skin", "row", "x"] (defScope s_l_one_right) := ⟨rfl, rfl, rfl, by decide +kernel, rfl, by decide +kernel, by decide +kernel⟩
abbrev s_law : Stmt := top 72
abbrev N_law : List Str := ["script", "draw", "turn", "bands", "row", "x", "y"]
theorem sc_law : FnScope N_law ["script"] (defScope s_law) := ⟨rfl, rfl, rfl, by decide +kernel, rfl, by decide +kernel, by decide +kernel⟩
structure Txt (K : PySem.W.Frag) (mg : Str → Option Value) where
  RoundError : Ex0 K mg "RoundError"
  BadRound : Ex0 K mg "BadRound"
  BadRounds : Ex1 K mg "BadRounds" "BadRounds.__init__" s_BadRounds_init ["self", "part"] "part"
  BadSkin : Ex1 K mg "BadSkin" "BadSkin.__init__" s_BadSkin_init ["self", "part"] "part"
  is_number : DefAt K mg "is_number" s_is_number ["thing"]
  is_within : DefAt K mg "is_within" s_is_within ["thing", "low", "high"]
  is_tuple : DefAt K mg "is_tuple" s_is_tuple ["thing"]
  is_list : DefAt K mg "is_list" s_is_list ["thing"]
  is_row : DefAt K mg "is_row" s_is_row ["row"]
  Skin : ClsAt K mg "Skin" "Skin.__init__" s_Skin_init ["self", "row"] ["row", "bands", "places"]
  check_skin : DefAt K mg "check_skin" s_check_skin ["skin"]
  is_end : DefAt K mg "is_end" s_is_end ["skin", "thing"]
  stands_ahead : DefAt K mg "stands_ahead" s_stands_ahead ["skin", "start", "one", "other"]
  by_turns : DefAt K mg "by_turns" s_by_turns ["one", "end", "other", "tail"]
  least_turn : DefAt K mg "least_turn" s_least_turn ["word"]
  is_any_word : DefAt K mg "is_any_word" s_is_any_word ["skin", "thing"]
  has_letters : DefAt K mg "has_letters" s_has_letters ["skin", "thing", "most"]
  cut_free : DefAt K mg "cut_free" s_cut_free ["word"]
  closed_letters : DefAt K mg "closed_letters" s_closed_letters ["word"]
  closed_up : DefAt K mg "closed_up" s_closed_up ["word"]
  is_fit_round : DefAt K mg "is_fit_round" s_is_fit_round ["skin", "thing"]
  check_round : DefAt K mg "check_round" s_check_round ["skin", "loop"]
  check_rounds : DefAt K mg "check_rounds" s_check_rounds ["skin", "rounds"]
  rooted : DefAt K mg "rooted" s_rooted ["loop"]
  letter_on : DefAt K mg "letter_on" s_letter_on ["loop", "place", "way", "far"]
  shared : DefAt K mg "_shared" s_shared ["one", "place", "other", "spot", "way", "side"]
  from_left : DefAt K mg "_from_left" s_from_left ["skin", "one", "place", "other", "spot", "way"]
  to_right : DefAt K mg "_to_right" s_to_right ["skin", "one", "place", "other", "spot", "way"]
  common_stretch : DefAt K mg "common_stretch" s_common_stretch ["skin", "one", "place", "other", "spot"]
  linked_along : DefAt K mg "_linked_along" s_linked_along ["skin", "one", "place", "other", "spot"]
  linked_across : DefAt K mg "_linked_across" s_linked_across ["skin", "one", "place", "other", "spot"]
  pairs_of : DefAt K mg "pairs_of" s_pairs_of ["skin", "one", "other"]
  linked_pairs : DefAt K mg "linked_pairs" s_linked_pairs ["skin", "one", "other"]
  taken_otherwise : DefAt K mg "_taken_otherwise" s_taken_otherwise ["loop", "pair"]
  u_own_pairs : DefAt K mg "_own_pairs" s_u_own_pairs ["skin", "loop"]
  own_pairs : DefAt K mg "own_pairs" s_own_pairs ["skin", "loop"]
  own_number : DefAt K mg "own_number" s_own_number ["skin", "loop"]
  crossings : DefAt K mg "crossings" s_crossings ["skin", "one", "other"]
  own_crossings : DefAt K mg "own_crossings" s_own_crossings ["skin", "loop"]
  fewest : DefAt K mg "fewest" s_fewest ["skin", "rounds"]
  l_begun : DefAt K mg "_law_begun" s_l_begun ["script"]
  l_mixed : DefAt K mg "_law_mixed" s_l_mixed ["draw"]
  l_take : DefAt K mg "_law_take" s_l_take ["draw", "amount"]
  l_pick : DefAt K mg "_law_pick" s_l_pick ["draw", "some"]
  l_shuffled : DefAt K mg "_law_shuffled" s_l_shuffled ["draw", "some"]
  l_row : DefAt K mg "_law_row" s_l_row ["draw", "bands"]
  l_undone : DefAt K mg "_law_undone" s_l_undone ["word"]
  l_least : DefAt K mg "_law_least" s_l_least ["word"]
  l_drawn : DefAt K mg "_law_drawn" s_l_drawn ["draw", "size", "many"]
  l_any_loop : DefAt K mg "_law_any_loop" s_l_any_loop ["draw", "size", "most"]
  l_mended : DefAt K mg "_law_mended" s_l_mended ["word"]
  l_far : DefAt K mg "_law_far" s_l_far ["letters", "spots"]
  l_ways : DefAt K mg "_law_ways" s_l_ways ["row", "one", "many"]
  l_by_turns : DefAt K mg "_law_by_turns" s_l_by_turns ["first", "second"]
  l_meets : DefAt K mg "_law_meets" s_l_meets ["row", "one", "other"]
  l_crossings : DefAt K mg "_law_crossings" s_l_crossings ["row", "one", "other"]
  l_own : DefAt K mg "_law_own" s_l_own ["row", "one"]
  l_root : DefAt K mg "_law_root" s_l_root ["one"]
  l_times : DefAt K mg "_law_times" s_l_times ["draw", "one"]
  l_two_right : DefAt K mg "_law_two_right" s_l_two_right ["draw", "skin", "row", "x", "y"]
  l_one_right : DefAt K mg "_law_one_right" s_l_one_right ["draw", "skin", "row", "x"]
  law : DefAt K mg "law" s_law ["script"]
  zabs : mg "abs" = none
  zall : mg "all" = none
  zdict : mg "dict" = none
  zenumerate : mg "enumerate" = none
  zint : mg "int" = none
  zisinstance : mg "isinstance" = none
  zlen : mg "len" = none
  zlist : mg "list" = none
  zmax : mg "max" = none
  zmin : mg "min" = none
  zrange : mg "range" = none
  zrepr : mg "repr" = none
  zset : mg "set" = none
  zsorted : mg "sorted" = none
  zsum : mg "sum" = none
  ztuple : mg "tuple" = none
  ztype : mg "type" = none
  v_MOST_IN_ROUND : Value
  c_MOST_IN_ROUND : mg "MOST_IN_ROUND" = some v_MOST_IN_ROUND
  r_MOST_IN_ROUND : RelV (.int 40) v_MOST_IN_ROUND
  v_MOST_ROUNDS : Value
  c_MOST_ROUNDS : mg "MOST_ROUNDS" = some v_MOST_ROUNDS
  r_MOST_ROUNDS : RelV (.int 8) v_MOST_ROUNDS
  v_MOST_TOGETHER : Value
  c_MOST_TOGETHER : mg "MOST_TOGETHER" = some v_MOST_TOGETHER
  r_MOST_TOGETHER : RelV (.int 80) v_MOST_TOGETHER
  kSS : PySem.W.kitOne K (.ref Skin.C) (.ref Skin.C) = some true
  kST : PySem.W.kitOne K (.type "tuple") (.ref Skin.C) = some false
  kSN : PySem.W.kitOne K (.type "NoneType") (.ref Skin.C) = some false
structure Dw where
  d : Addr
  l : Addr
  c : Addr
def drK (D : Dw) (r t : Int) : List (Key × V) := [(Sum.inr "large", .ref D.l), (Sum.inr "rest", .int r), (Sum.inr "cells", .ref D.c), (Sum.inr "turn", .int t)]
structure DrAt (D : Dw) (H : Hp) (ls cs : List Int) (r t : Int) : Prop where
  hd : H D.d = some (.dK (drK D r t))
  hl : H D.l = some (.lst (ls.map V.int))
  hc : H D.c = some (.lst (cs.map V.int))
  ne : D.l ≠ D.c
  nl : ls.length ≤ 63
  nc : cs.length ≤ 63
def DrOk (D : Dw) (H : Hp) : Prop := ∃ ls cs r t, DrAt D H ls cs r t
def Kp (D : Dw) (H H' : Hp) : Prop := ∀ b o, H b = some o → b ≠ D.d → b ≠ D.l → H' b = some o
theorem Kp.refl {D : Dw} {H : Hp} : Kp D H H := fun _ _ h _ _ => h
theorem Kp.trans {D : Dw} {H H1 H2 : Hp} (a : Kp D H H1) (b : Kp D H1 H2) : Kp D H H2 := fun c o h n m => b c o (a c o h n m) n m
theorem Kp.of {D : Dw} {H H' : Hp} (a : Same H H') : Kp D H H' := fun c o h _ _ => a c o h
theorem Kp.new {D : Dw} {H : Hp} {p : Addr} {o : HO} (h : H p = none) : Kp D H (upd H p o) := fun c u e _ _ => by
  rw [upd_ne (ne_of_none e h)]
  exact e
theorem DrAt.dne {D : Dw} {H : Hp} {ls cs : List Int} {r t : Int} (h : DrAt D H ls cs r t) {b : Addr} {o : HO} (e : H b = some o) (n : ∀ kvs, o ≠ .dK kvs) : b ≠ D.d := fun z => by
  rw [z, h.hd] at e
  exact n _ (Option.some.inj e).symm
theorem DrAt.lne {D : Dw} {H : Hp} {ls cs : List Int} {r t : Int} (h : DrAt D H ls cs r t) {b : Addr} {o : HO} (e : H b = some o) (n : ∀ xs, o ≠ .lst xs) : b ≠ D.l := fun z => by
  rw [z, h.hl] at e
  exact n _ (Option.some.inj e).symm
theorem DrAt.new {D : Dw} {H : Hp} {ls cs : List Int} {r t : Int} (h : DrAt D H ls cs r t) {p : Addr} {o : HO} (n : H p = none) : DrAt D (upd H p o) ls cs r t :=
  ⟨by rw [upd_ne (ne_of_none h.hd n)]; exact h.hd, by rw [upd_ne (ne_of_none h.hl n)]; exact h.hl, by rw [upd_ne (ne_of_none h.hc n)]; exact h.hc, h.ne, h.nl, h.nc⟩
theorem DrAt.same {D : Dw} {H H' : Hp} {ls cs : List Int} {r t : Int} (h : DrAt D H ls cs r t) (s : Same H H') : DrAt D H' ls cs r t := ⟨s _ _ h.hd, s _ _ h.hl, s _ _ h.hc, h.ne, h.nl, h.nc⟩
theorem DrAt.nelc {D : Dw} {H : Hp} {ls cs : List Int} {r t : Int} (h : DrAt D H ls cs r t) : D.l ≠ D.d := h.dne h.hl (fun _ z => nomatch z)
theorem DrAt.necd {D : Dw} {H : Hp} {ls cs : List Int} {r t : Int} (h : DrAt D H ls cs r t) : D.c ≠ D.d := h.dne h.hc (fun _ z => nomatch z)
theorem DrAt.put {D : Dw} {H : Hp} {ls cs : List Int} {r t r' t' : Int} (h : DrAt D H ls cs r t) : DrAt D (upd H D.d (.dK (drK D r' t'))) ls cs r' t' :=
  ⟨upd_same, by rw [upd_ne h.nelc]; exact h.hl, by rw [upd_ne h.necd]; exact h.hc, h.ne, h.nl, h.nc⟩
theorem Kp.put {D : Dw} {H : Hp} {o : HO} : Kp D H (upd H D.d o) := fun b u e n _ => by rw [upd_ne n]; exact e
theorem Kp.putl {D : Dw} {H : Hp} {o : HO} : Kp D H (upd H D.l o) := fun b u e _ n => by rw [upd_ne n]; exact e
theorem DrAt.pop {D : Dw} {H : Hp} {ls cs ls' : List Int} {r t : Int} (h : DrAt D H ls cs r t) (n : ls'.length ≤ 63) : DrAt D (upd H D.l (.lst (ls'.map V.int))) ls' cs r t :=
  ⟨by rw [upd_ne h.nelc.symm]; exact h.hd, upd_same, by rw [upd_ne h.ne.symm]; exact h.hc, h.ne, n, h.nc⟩
theorem val_large (D : Dw) (r t : Int) : valV (drK D r t) (Sum.inr "large") = some (.ref D.l) := rfl
theorem val_rest (D : Dw) (r t : Int) : valV (drK D r t) (Sum.inr "rest") = some (.int r) := rfl
theorem val_cells (D : Dw) (r t : Int) : valV (drK D r t) (Sum.inr "cells") = some (.ref D.c) := rfl
theorem val_turn (D : Dw) (r t : Int) : valV (drK D r t) (Sum.inr "turn") = some (.int t) := rfl
theorem put_rest (D : Dw) (r t r' : Int) : putK (drK D r t) (Sum.inr "rest") (.int r') = drK D r' t := rfl
theorem put_turn (D : Dw) (r t t' : Int) : putK (drK D r t) (Sum.inr "turn") (.int t') = drK D r t' := rfl
end Tt
set_option maxRecDepth 100000
set_option maxHeartbeats 4000000
namespace Tt
open PySem L2
local macro_rules | `(tactic| walk_at "v") => `(tactic| refine ⟨_, rfl, ?_⟩)
local macro_rules | `(tactic| walk_at "ii") => `(tactic| refine ⟨_, _, rfl, rfl, ?_⟩)
section
variable {P : Program} {w : World} {K : PySem.W.Frag} {mg : Str → Option Value} {base : Heap}
def spMixed : Sp := fun vs H Q _ => ∃ D : Dw, vs = [.ref D.d] ∧ DrOk D H ∧ ∀ z H', DrOk D H' → Kp D H H' → Q (.int z) H'
theorem ok_l_mixed (T : Txt K mg) : FnOk P w K mg base CX0 1 T.l_mixed.a T.l_mixed.fd ["draw"] spMixed := by
  refine T.l_mixed.F.ok sc_l_mixed (fun vs H Q E h => ?_) (fun cdv A outer s H vs Q E hr h => ?_)
  · obtain ⟨D, rfl, _⟩ := h
    rfl
  · obtain ⟨D, rfl, ⟨ls, cs, r, t, dr⟩, k⟩ := h
    have hu := hu_of hr
    have nd := sc_l_mixed.nd
    refine ⟨_, pss_cons (ps_dput hu (pv 0) pe_str (pe_op op_add (pe_dget hu (pv 0) pe_str (fun _ _ => rfl)) pe_int) rfl)
      (pss_cons (ps_par (i := 1) (j := 2) rfl nd rfl rfl (by decide) rfl rfl (pa_cons (pe_callTy call_int1 (by rfl) T.zint (by decide +kernel) (pa_cons (pe_dget hu (pv 0) pe_str (fun _ _ => rfl)) pa_nil)) (pa_cons pe_int pa_nil)) rfl)
      (pss_cons (ps_for PassesOwn.never rfl (pi_list (pe_lst (pa_cons pe_int (pa_cons pe_int (pa_cons pe_int pa_nil))))) (pg_name (i := 3) nd rfl (Or.inl rfl))
        (pss_cons (ps_set (i := 4) nd rfl (Or.inl rfl) (pe_op op_mod (pe_op op_add (pe_op op_mul (pv 1) pe_int) (pe_op op_fdiv (pv 3) pe_int)) (pv 3)))
        (pss_cons (ps_for PassesOwn.never rfl (pi_list (pe_dget hu (pv 0) pe_str (fun _ _ => rfl))) (pg_name (i := 5) nd rfl (Or.inl rfl))
          (pss_one (ps_set (i := 4) nd rfl (Or.inl rfl) (pe_op op_mod (pe_op op_add (pe_op op_mul (pv 4) pe_int) (pe_callTy call_int1 (by rfl) T.zint (by decide +kernel) (pa_cons (pv 5) pa_nil))) (pv 3)))))
        (pss_one (ps_set (i := 2) nd rfl (Or.inl rfl) (pe_op op_add (pe_op op_mul (pv 2) pe_int) (pe_op op_mod (pe_op op_pow (pv 4) pe_int) (pv 3))))))))
      (pss_one (ps_ret (pv 2))))), ?_⟩
    refine ⟨_, rfl, _, _, rfl, DGet.k (k := Sum.inr "turn") dr.hd, _, _, rfl, rfl, _, rfl, _, _, rfl, DPut.k (k := Sum.inr "turn") dr.hd (small1000 (by show 4 ≤ 1000; decide)), ?_⟩
    have dr1 : DrAt D (upd H D.d (.dK (drK D r (t + 1)))) ls cs r (t + 1) := dr.put
    have k1 : Kp D H (upd H D.d (.dK (drK D r (t + 1)))) := Kp.put
    generalize hH1 : upd H D.d (.dK (drK D r (t + 1))) = H1 at dr1 k1
    have eH1 : upd H D.d (.dK (putK (drK D r t) (Sum.inr "turn") (.int (t + 1)))) = H1 := hH1
    rw [eH1]
    refine ⟨_, rfl, _, _, rfl, DGet.k (k := Sum.inr "turn") dr1.hd, .inl ⟨_, rfl, ?_⟩⟩
    refine ⟨_, _, rfl, ?_⟩
    refine ⟨(by show 3 ≤ sizeLine; decide), fun p hp => ?_⟩
    have dr2 := dr1.new (o := .lst [.int 2147483629, .int 2147483587, .int 2147483579]) hp
    have k2 : Kp D H1 (upd H1 p (.lst [.int 2147483629, .int 2147483587, .int 2147483579])) := Kp.new hp
    refine ⟨p, rfl, ⟨_, SqL.of upd_same⟩, ?_⟩
    have hp2 : (upd H1 p (.lst [.int 2147483629, .int 2147483587, .int 2147483579])) p = some (.lst [.int 2147483629, .int 2147483587, .int 2147483579]) := upd_same
    generalize upd H1 p (.lst [.int 2147483629, .int 2147483587, .int 2147483579]) = H2 at dr2 k2 hp2
    refine for_list (K := K) (a := p) (xs := [.int 2147483629, .int 2147483587, .int 2147483579]) (fun i σ H' => H' = H2 ∧ ∃ f v3 v4 v5, σ = [some (.ref D.d), some (.int (t + 1)), some (.int f), v3, v4, v5])
      ⟨rfl, 0, _, _, _, rfl⟩ (fun i σ H' _ q => by rw [q.1]; exact SqL.of hp2) ?_ ?_
    · rintro i x σ H' hi ⟨rfl, f, v3, v4, v5, rfl⟩
      obtain ⟨g, rfl, g0, g1⟩ : ∃ g : Int, x = .int g ∧ 0 < g ∧ g < 2147483648 := by
        match i, hi with
        | 0, hi => exact ⟨_, (Option.some.inj hi).symm, by decide, by decide⟩
        | 1, hi => exact ⟨_, (Option.some.inj hi).symm, by decide, by decide⟩
        | 2, hi => exact ⟨_, (Option.some.inj hi).symm, by decide, by decide⟩
      refine ⟨_, rfl, _, _, rfl, rfl, .inr ⟨by decide, by decide⟩, _, rfl, _, _, rfl, rfl, ⟨by decide, by decide⟩, _, _, rfl, rfl, _, rfl, _, _, rfl, rfl, g0, ?_⟩
      refine ⟨_, rfl, _, _, rfl, DGet.k (k := Sum.inr "cells") dr2.hd, _, rfl, ⟨_, SqL.of dr2.hc⟩, ?_⟩
      refine for_list (K := K) (a := D.c) (xs := cs.map V.int) (fun i σ H'' => H'' = H' ∧ ∃ b v5, (0 ≤ b ∧ b < g) ∧ σ = [some (.ref D.d), some (.int (t + 1)), some (.int f), some (.int g), some (.int b), v5])
        ⟨rfl, _, _, ⟨Int.emod_nonneg _ (by omega), Int.emod_lt_of_pos _ g0⟩, rfl⟩ (fun i σ H'' _ q => by rw [q.1]; exact SqL.of dr2.hc) ?_ ?_
      · rintro j y σ H'' hj ⟨rfl, b, v5, hb, rfl⟩
        obtain ⟨z, rfl⟩ : ∃ z, y = V.int z := by
          rw [List.getElem?_map] at hj
          cases e : cs[j]? with
          | none => rw [e] at hj; cases hj
          | some z => rw [e] at hj; exact ⟨z, (Option.some.inj hj).symm⟩
        refine ⟨_, rfl, _, _, rfl, rfl, .inr ⟨by decide, by decide⟩, _, rfl, .inl ⟨_, rfl, _, _, rfl, rfl, _, rfl, _, _, rfl, rfl, g0, ?_⟩⟩
        exact ⟨rfl, _, _, ⟨Int.emod_nonneg _ (by omega), Int.emod_lt_of_pos _ g0⟩, rfl⟩
      · rintro σ H'' ⟨rfl, b, v5, hb, rfl⟩
        refine ⟨_, rfl, _, _, rfl, rfl, .inr ⟨by decide, by decide⟩, _, rfl, _, _, rfl, rfl, ⟨by decide, by decide, by omega⟩, _, rfl, _, _, rfl, rfl, g0, _, _, rfl, rfl, ?_⟩
        exact ⟨rfl, _, _, _, _, rfl⟩
    · rintro σ H' ⟨rfl, f, v3, v4, v5, rfl⟩
      refine ⟨_, rfl, ?_⟩
      exact k _ _ ⟨_, _, _, _, dr2⟩ (k1.trans k2)
end
end Tt
set_option maxRecDepth 100000
set_option maxHeartbeats 4000000
namespace Tt
open PySem L2
section
variable {P : Program} {w : World} {K : PySem.W.Frag} {mg : Str → Option Value} {base : Heap}
theorem dpAll_ints (H : Hp) : ∀ ls : List Int, DpAll K H (ls.map V.int) (ls.map PyData.int)
  | [] => .nil
  | a :: l => .cons (.int a) (dpAll_ints H l)
theorem shapedAll_ints : ∀ ls : List Int, SeqAt.shaped (.list (ls.map PyData.int)) = true
  | [] => by first | rfl | decide
  | a :: l => by
    have h := shapedAll_ints l
    first | exact h | (simp [SeqAt.shaped] at h ⊢) | trace_state
theorem eqv_nil (ls : List Int) : PyData.eqv (.list (ls.map PyData.int)) (.list []) = decide (ls = []) := by
  cases ls with
  | nil => rfl
  | cons a l => simp [PyData.eqv] <;> rfl
theorem yes_t {σ : L2.St} {H : Hp} {A B : Hp → Prop} (h : A H) : tYes σ H (fun b H3 => if b = true then A H3 else B H3) := by
  show if true = true then A H else B H
  rw [if_pos rfl]
  exact h
theorem ints_at {cs : List Int} {j : Nat} {y : V} (hj : (cs.map V.int)[j]? = some y) : ∃ z, y = V.int z ∧ cs[j]? = some z := by
  rw [List.getElem?_map] at hj
  cases e : cs[j]? with
  | none => rw [e] at hj; cases hj
  | some z => rw [e] at hj; exact ⟨z, (Option.some.inj hj).symm, rfl⟩
def spTake : Sp := fun vs H Q _ => ∃ (D : Dw) (m : Int), vs = [.ref D.d, .int m] ∧ 0 < m ∧ m < 1073741824 ∧ DrOk D H ∧ ∀ n H', 0 ≤ n → n < m → DrOk D H' → Kp D H H' → Q (.int n) H'
theorem ok_l_take (T : Txt K mg) : FnOk P w K mg base CX0 2 T.l_take.a T.l_take.fd ["draw", "amount"] spTake := by
  refine T.l_take.F.ok sc_l_take (fun vs H Q E h => ?_) (fun cdv A outer s H vs Q E hr h => ?_)
  · obtain ⟨D, m, rfl, _⟩ := h
    rfl
  · obtain ⟨D, m, rfl, m0, m1, ⟨ls, cs, r, t, dr⟩, k⟩ := h
    have hu := hu_of hr
    have nd := sc_l_take.nd
    refine ⟨_, (pss_cons (ps_if (pt_cmpR op_eq (pe_dget hu (pv 0) pe_str (fun _ _ => rfl)) pe_int (nomark _))
      (pss_one (ps_dput hu (pv 0) pe_str (pe_ifExp (pt_cmpR (op_neD hr.units) (pe_dget hu (pv 0) pe_str (fun _ _ => rfl)) (pe_lst pa_nil) (nomark _)) (pe_bm PySem.F.plainAttrs_list PySem.F.slot_list_pop PySem.F.type_list_pop mt_popAt (pe_dget hu (pv 0) pe_str (fun _ _ => rfl)) (pa_cons pe_int pa_nil)) (pe_call (ok_l_mixed T) (hr.mono (by decide)) (by rfl) T.l_mixed.g T.l_mixed.k T.l_mixed.b .nil pass0 (pa_cons (pv 0) pa_nil))) rfl))
      pss_nil)
    (pss_cons (ps_set (i := 2) nd rfl (Or.inl rfl) (pe_op op_mod (pe_callTy call_int1 (by rfl) T.zint (by decide +kernel) (pa_cons (pe_dget hu (pv 0) pe_str (fun _ _ => rfl)) pa_nil)) (pv 1)))
    (pss_cons (ps_dput hu (pv 0) pe_str (pe_op op_fdiv (pe_callTy call_int1 (by rfl) T.zint (by decide +kernel) (pa_cons (pe_dget hu (pv 0) pe_str (fun _ _ => rfl)) pa_nil)) (pv 1)) rfl)
    (pss_one (ps_ret (pv 2)))))), ?_⟩
    refine ⟨_, rfl, _, _, rfl, DGet.k (k := Sum.inr "rest") dr.hd, rfl, _, rfl, ?_⟩
    have fin : ∀ r' ls' cs' t' H', DrAt D H' ls' cs' r' t' → Kp D H H' → tSeq (tAsg (tOp (rI (fun _ j => 0 < j) fun i j => .int (i % j)) (tCB (fun xs H Q => (∃ i, xs = [.int i] ∧ Q (.int i) H) ∨ ∃ k, xs = [.bl k] ∧ Q (.int (if k then 1 else 0)) H) (tCons (tDGet (tVar 0) (tC (.str "rest"))) tNil)) (tVar 1)) (gName 2))
        (tSeq (sDPut (tVar 0) (tC (.str "rest")) (tOp (rI CDiv fun i j => .int (i / j)) (tCB (fun xs H Q => (∃ i, xs = [.int i] ∧ Q (.int i) H) ∨ ∃ k, xs = [.bl k] ∧ Q (.int (if k then 1 else 0)) H) (tCons (tDGet (tVar 0) (tC (.str "rest"))) tNil)) (tVar 1))) (tRet (tVar 2))) { nx := fun _ H' => Q .non H', rt := Q } [some (.ref D.d), some (.int m), none] H' := by
      intro r' ls' cs' t' H' d' k'
      refine ⟨_, rfl, _, _, rfl, DGet.k (k := Sum.inr "rest") d'.hd, .inl ⟨_, rfl, _, rfl, _, _, rfl, rfl, m0, ?_⟩⟩
      refine ⟨_, rfl, _, _, rfl, DGet.k (k := Sum.inr "rest") d'.hd, .inl ⟨_, rfl, _, rfl, _, _, rfl, rfl, ⟨m0, m1⟩, _, rfl, _, _, rfl, DPut.k (k := Sum.inr "rest") d'.hd (small1000 (by show 4 ≤ 1000; decide)), ?_⟩⟩
      refine ⟨_, rfl, k _ _ (Int.emod_nonneg _ (by omega)) (Int.emod_lt_of_pos _ m0) ⟨ls', cs', r' / m, t', ?_⟩ (k'.trans ?_)⟩
      · exact d'.put
      · exact Kp.put
    refine ite2 (fun _ => ?_) (fun _ => fin r ls cs t H dr Kp.refl)
    refine ⟨_, rfl, _, _, rfl, DGet.k (k := Sum.inr "large") dr.hd, (by show 0 ≤ sizeLine; decide), fun p hp => ?_⟩
    have dr1 := dr.new (o := .lst []) hp
    have k1 : Kp D H (upd H p (.lst [])) := Kp.new hp
    refine ⟨_, _, .lst (SqL.of dr1.hl) (dpAll_ints _ ls), .lst (SqL.of upd_same) .nil, shapedAll_ints ls, rfl, _, rfl, ?_⟩
    rw [eqv_nil]
    cases ls with
    | nil =>
      refine iteF ?_
      refine ⟨_, rfl, D, rfl, ⟨_, _, _, _, dr1⟩, fun z H2 ⟨ls2, cs2, r2, t2, d2⟩ k2 => ?_⟩
      refine ⟨_, rfl, _, _, rfl, DPut.k (k := Sum.inr "rest") d2.hd (small1000 (by show 4 ≤ 1000; decide)), ?_⟩
      exact fin z ls2 cs2 t2 _ (d2.put : DrAt D (upd H2 D.d (.dK (drK D z t2))) ls2 cs2 z t2) ((k1.trans k2).trans Kp.put)
    | cons a l =>
      refine iteT ?_
      refine ⟨_, rfl, _, _, rfl, DGet.k (k := Sum.inr "large") dr1.hd, .inl ⟨rfl, _, SqL.of dr1.hl⟩, D.l, _, 0, 0, _, rfl, rfl, dr1.hl, by decide, by decide, by simp [seqIndex?], rfl, ?_⟩
      have d2 : DrAt D (upd (upd H p (.lst [])) D.l (.lst (l.map V.int))) l cs r t := dr1.pop (Nat.le_trans (Nat.le_succ _) dr.nl)
      refine ⟨_, rfl, _, _, rfl, DPut.k (k := Sum.inr "rest") d2.hd (small1000 (by show 4 ≤ 1000; decide)), ?_⟩
      exact fin a l cs t _ (d2.put : DrAt D (upd _ D.d (.dK (drK D a t))) l cs a t) ((k1.trans Kp.putl).trans Kp.put)
def spPick (K : PySem.W.Frag) : Sp := fun vs H Q _ => ∃ (D : Dw) (p : Addr) (xs : List V), vs = [.ref D.d, .ref p] ∧ (SqL K H p xs ∨ SqT K H p xs) ∧ p ≠ D.l ∧ xs ≠ [] ∧ xs.length < 1073741824 ∧ DrOk D H ∧
  ∀ (i : Nat) x H', xs[i]? = some x → DrOk D H' → Kp D H H' → Q x H'
theorem Kp.seqL {D : Dw} {H H' : Hp} {p : Addr} {xs : List V} (k : Kp D H H') (dr : DrOk D H) (n : p ≠ D.l) (h : SqL K H p xs) : SqL K H' p xs := by
  obtain ⟨ls, cs, r, t, d⟩ := dr
  rcases h with (h | ⟨o, h⟩) | h
  · exact .inl (.inl (k _ _ h (d.dne h fun _ z => nomatch z) n))
  · exact .inl (.inr ⟨o, k _ _ h (d.dne h fun _ z => nomatch z) n⟩)
  · exact .inr h
theorem Kp.seqT {D : Dw} {H H' : Hp} {p : Addr} {xs : List V} (k : Kp D H H') (dr : DrOk D H) (h : SqT K H p xs) : SqT K H' p xs := by
  obtain ⟨ls, cs, r, t, d⟩ := dr
  rcases h with (h | ⟨o, h⟩) | h
  · exact .inl (.inl (k _ _ h (d.dne h fun _ z => nomatch z) (d.lne h fun _ z => nomatch z)))
  · exact .inl (.inr ⟨o, k _ _ h (d.dne h fun _ z => nomatch z) (d.lne h fun _ z => nomatch z)⟩)
  · exact .inr h
theorem ok_l_pick (T : Txt K mg) : FnOk P w K mg base CX0 3 T.l_pick.a T.l_pick.fd ["draw", "some"] (spPick K) := by
  refine T.l_pick.F.ok sc_l_pick (fun vs H Q E h => ?_) (fun cdv A outer s H vs Q E hr h => ?_)
  · obtain ⟨D, p, xs, rfl, _⟩ := h
    rfl
  · obtain ⟨D, p, xs, rfl, hs, np, ne, ln, dr, k⟩ := h
    have hu := hu_of hr
    have nd := sc_l_pick.nd
    refine ⟨_, (pss_one (ps_ret (pe_ix (IxR.or ix_list ix_tup) (pv 1) (pe_call (ok_l_take T) (hr.mono (by decide)) (by rfl) T.l_take.g T.l_take.k T.l_take.b .nil pass0 (pa_cons (pv 0) (pa_cons (pe_callB call_len_seq (by rfl) T.zlen (by decide +kernel) (pa_cons (pv 1) pa_nil)) pa_nil))) (fun _ _ => rfl)))), ?_⟩
    have l0 : 0 < xs.length := List.length_pos_iff.mpr ne
    refine ⟨_, rfl, _, rfl, _, rfl, p, xs, rfl, hs, D, (xs.length : Int), rfl, by omega, by omega, dr, fun n H' n0 n1 dr' k' => ?_⟩
    obtain ⟨m, rfl⟩ := Int.eq_ofNat_of_zero_le n0
    have hn : m < xs.length := by omega
    have hat : atI xs (m : Int) = some xs[m] := atI_nat (List.getElem?_eq_getElem hn)
    have fin : Q xs[m] H' := k m _ H' (List.getElem?_eq_getElem hn) dr' k'
    rcases hs with hs | hs
    · exact .inl ⟨p, xs, m, _, rfl, rfl, k'.seqL dr np hs, hat, fin⟩
    · exact .inr ⟨p, xs, m, _, rfl, rfl, k'.seqT dr hs, hat, fin⟩
def spBegun (K : PySem.W.Frag) : Sp := fun vs H Q _ => ∃ (a : Addr) (ns : List Int), vs = [.ref a] ∧ SqL K H a (ns.map V.int) ∧ ns.length ≤ 63 ∧ ∀ (D : Dw) H', DrOk D H' → Same H H' → Q (.ref D.d) H'
theorem ok_l_begun (T : Txt K mg) : FnOk P w K mg base CX0 1 T.l_begun.a T.l_begun.fd ["script"] (spBegun K) := by
  refine T.l_begun.F.ok sc_l_begun (fun vs H Q E h => ?_) (fun cdv A outer s H vs Q E hr h => ?_)
  · obtain ⟨a, ns, rfl, _⟩ := h
    rfl
  · obtain ⟨a, ns, rfl, hs, hl, k⟩ := h
    have hu := hu_of hr
    have nd := sc_l_begun.nd
    refine ⟨_, (pss_cons (ps_setLc (i := 1) (own := [("grain", 2)]) (g := gName 2) rfl nd rfl rfl (sw_true rfl rfl rfl (by decide +kernel)) (pi_list (pv 0)) (blkOk_by (own := [("grain", 2)]) (N := N_l_begun) (sc := defScope s_l_begun) (by decide +kernel)) (fun _ _ _ _ _ => pg_name (i := 2) nd rfl (Or.inl rfl)) (fun _ _ _ _ _ => pts_one (pt_cmpR op_ge (pe_callB call_abs (by rfl) T.zabs (by decide +kernel) (pa_cons (pv 2) pa_nil)) (pe_op op_pow pe_int pe_int) (nomark _))) (fun _ _ _ _ _ => (pe_op op_sub (pe_callB call_abs (by rfl) T.zabs (by decide +kernel) (pa_cons (pv 2) pa_nil)) (pe_op op_pow pe_int pe_int))))
    (pss_one (ps_ret (pe_disp (pps_cons pe_str (pv 1) (pps_cons pe_str pe_int (pps_cons pe_str (pe_lc (own := [("grain", 2)]) (g := gName 2) rfl nd (pi_list (pv 0)) (blkOk_by (own := [("grain", 2)]) (N := N_l_begun) (sc := defScope s_l_begun) (by decide +kernel)) (fun _ _ _ _ _ => pg_name (i := 2) nd rfl (Or.inl rfl)) (fun _ _ _ _ _ => pts_nil) (fun _ _ _ _ _ => (pe_callB call_abs (by rfl) T.zabs (by decide +kernel) (pa_cons (pv 2) pa_nil)))) (pps_cons pe_str pe_int pps_nil)))) (by rfl) (by rfl) (fun z => by cases z) (by decide))))), ?_⟩
    refine ⟨_, rfl, a, rfl, ⟨_, hs⟩, fun D1 hD1 => lc_list (K := K) (a := a) (xs := ns.map V.int) (fun i H' => ∃ ls : List Int, ls.length ≤ i ∧ H' D1 = some (.lst (ls.map V.int)) ∧ Same H H')
      ⟨[], Nat.le_refl _, upd_same, fun b o e => by rw [upd_ne (ne_of_none e hD1)]; exact e⟩ (fun i H' _ ⟨_, _, _, s⟩ => s.seq hs) ?_ ?_⟩
    · rintro i y H' hi ⟨ls, hls, h1, s1⟩
      obtain ⟨z, rfl, hz⟩ := ints_at hi
      have hi63 : i < ns.length := (List.getElem?_eq_some_iff.mp hz).1
      refine ⟨rfl, _, rfl, _, rfl, _, _, rfl, rfl, ⟨by decide, by decide, by decide⟩, _, _, rfl, rfl, _, rfl, ?_⟩
      refine ite2 (fun _ => ?_) (fun _ => ⟨ls, by omega, h1, s1⟩)
      refine ⟨_, rfl, _, rfl, _, _, rfl, rfl, ⟨by decide, by decide, by decide⟩, _, _, rfl, rfl, _, h1, ?_, ?_⟩
      · rw [List.length_map]
        exact small1000 (by omega)
      · refine ⟨ls ++ [(if z < 0 then -z else z) - 10 ^ (18 : Int).toNat], by rw [List.length_append]; show ls.length + 1 ≤ i + 1; omega, ?_, ?_⟩
        · rw [upd_same, List.map_append]
          rfl
        · intro b o e
          have e1 := s1 b o e
          rw [upd_ne (ne_of_none e hD1)]
          exact e1
    · rintro H1 ⟨ls, hls, h1, s1⟩
      rw [List.length_map] at hls
      refine fun p hp => ?_
      refine ⟨_, rfl, ?_⟩
      have s2 : Same H (upd H1 p (.dK [])) := fun b o e => by rw [upd_ne (ne_of_none (s1 b o e) hp)]; exact s1 b o e
      refine ⟨_, rfl, a, rfl, ⟨_, s2.seq hs⟩, fun D2 hD2 => lc_list (K := K) (a := a) (xs := ns.map V.int) (fun i H' => ∃ cs : List Int, cs.length ≤ i ∧ H' D2 = some (.lst (cs.map V.int)) ∧ Same (upd H1 p (.dK [])) H')
        ⟨[], Nat.le_refl _, upd_same, fun b o e => by rw [upd_ne (ne_of_none e hD2)]; exact e⟩ (fun i H' _ ⟨_, _, _, s⟩ => s.seq (s2.seq hs)) ?_ ?_⟩
      · rintro i y H' hi ⟨cs, hcs, h2, s3⟩
        obtain ⟨z, rfl, hz⟩ := ints_at hi
        have hi63 : i < ns.length := (List.getElem?_eq_some_iff.mp hz).1
        refine ⟨rfl, yes_t ?_⟩
        refine ⟨_, rfl, _, rfl, _, h2, by rw [List.length_map]; exact small1000 (by omega), ?_⟩
        refine ⟨cs ++ [if z < 0 then -z else z], by rw [List.length_append]; show cs.length + 1 ≤ i + 1; omega, ?_, ?_⟩
        · rw [upd_same, List.map_append]
          rfl
        · intro b o e
          rw [upd_ne (ne_of_none e hD2)]
          exact s3 b o e
      · rintro H2 ⟨cs, hcs, h2, s3⟩
        rw [List.length_map] at hcs
        have hp2 : H2 p = some (.dK []) := s3 _ _ upd_same
        have nDp : D2 ≠ p := fun z => by rw [z, upd_same] at hD2; cases hD2
        have nD1p : D1 ≠ p := ne_of_none h1 hp
        have h12 : H2 D1 = some (.lst (ls.map V.int)) := s3 _ _ (by rw [upd_ne nD1p]; exact h1)
        have nD12 : D1 ≠ D2 := fun z => by
          rw [← z, upd_ne nD1p, h1] at hD2
          cases hD2
        refine ⟨hp2, drK ⟨p, D1, D2⟩ 0 0, rfl, by show 4 ≤ 15; decide, ?_⟩
        refine k ⟨p, D1, D2⟩ _ ⟨ls, cs, 0, 0, ⟨upd_same, by rw [upd_ne nD1p]; exact h12, by rw [upd_ne nDp]; exact h2, nD12, by omega, by omega⟩⟩ ?_
        intro b o e
        rw [upd_ne (ne_of_none (s1 b o e) hp)]
        exact s3 _ _ (s2 b o e)
end
end Tt
set_option maxRecDepth 100000
set_option maxHeartbeats 4000000
namespace Tt
open PySem L2
section
variable {P : Program} {w : World} {K : PySem.W.Frag} {mg : Str → Option Value} {base : Heap}
def Off (D : Dw) (b : Addr) : Prop := b ≠ D.d ∧ b ≠ D.l ∧ b ≠ D.c
theorem DrOk.off {D : Dw} {H : Hp} {b : Addr} (h : DrOk D H) (n : H b = none) : Off D b := by
  obtain ⟨ls, cs, r, t, d⟩ := h
  exact ⟨(ne_of_none d.hd n).symm, (ne_of_none d.hl n).symm, (ne_of_none d.hc n).symm⟩
theorem DrOk.new {D : Dw} {H : Hp} {p : Addr} {o : HO} (h : DrOk D H) (n : H p = none) : DrOk D (upd H p o) := by
  obtain ⟨ls, cs, r, t, d⟩ := h
  exact ⟨ls, cs, r, t, d.new n⟩
theorem DrOk.put {D : Dw} {H : Hp} {p : Addr} {o : HO} (h : DrOk D H) (n : Off D p) : DrOk D (upd H p o) := by
  obtain ⟨ls, cs, r, t, d⟩ := h
  exact ⟨ls, cs, r, t, ⟨by rw [upd_ne n.1.symm]; exact d.hd, by rw [upd_ne n.2.1.symm]; exact d.hl, by rw [upd_ne n.2.2.symm]; exact d.hc, d.ne, d.nl, d.nc⟩⟩
theorem DrOk.same {D : Dw} {H H' : Hp} (h : DrOk D H) (s : Same H H') : DrOk D H' := by
  obtain ⟨ls, cs, r, t, d⟩ := h
  exact ⟨ls, cs, r, t, d.same s⟩
theorem Kp.at {D : Dw} {H H' : Hp} {b : Addr} {o : HO} (k : Kp D H H') (n : Off D b) (h : H b = some o) : H' b = some o := k b o h n.1 n.2.1
theorem DrOk.tup {D : Dw} {H H' : Hp} {b : Addr} {xs : List V} (h : DrOk D H) (k : Kp D H H') (e : H b = some (.tup xs)) : H' b = some (.tup xs) := by
  obtain ⟨ls, cs, r, t, d⟩ := h
  exact k b _ e (d.dne e fun _ z => nomatch z) (d.lne e fun _ z => nomatch z)
theorem perm_erase : ∀ {l : List Int} {i : Nat} {a : Int}, l[i]? = some a → (a :: l.eraseIdx i).Perm l
  | [], _, _, h => by simp at h
  | b :: l, 0, a, h => by
    have e : b = a := by simpa using h
    subst e
    exact List.Perm.refl _
  | b :: l, i + 1, a, h => by
    have h' : l[i]? = some a := by simpa using h
    rw [List.eraseIdx_cons_succ]
    exact (List.Perm.swap b a _).trans ((perm_erase h').cons b)
theorem eraseIdx_mapI : ∀ (l : List Int) (i : Nat), (l.map V.int).eraseIdx i = (l.eraseIdx i).map V.int
  | [], _ => rfl
  | _ :: _, 0 => rfl
  | a :: l, i + 1 => by
    rw [List.map_cons, List.eraseIdx_cons_succ, eraseIdx_mapI l i, List.eraseIdx_cons_succ, List.map_cons]
theorem eqv_list_nil (H : Hp) : ∀ {xs : List V} {ds : List PyData}, DpAll K H xs ds → (PyData.eqv (.list ds) (.list []) = decide (xs = []))
  | [], _, .nil => rfl
  | _ :: _, _, .cons _ _ => by simp [PyData.eqv] <;> rfl
inductive El (K : PySem.W.Frag) (H : Hp) : V → Prop
  | int (n : Int) : El K H (.int n)
  | tup {p : Addr} {ns : List Int} (h : SqT K H p (ns.map V.int)) (l : ns.length ≤ 1000) : El K H (.ref p)
theorem El.kp {D : Dw} {H H' : Hp} {v : V} (h : El K H v) (dr : DrOk D H) (k : Kp D H H') : El K H' v := by
  cases h with
  | int n => exact .int n
  | tup h l => exact .tup (k.seqT dr h) l
theorem El.new {H : Hp} {v : V} {e : Addr} {o : HO} (h : El K H v) (n : H e = none) : El K (upd H e o) v := by
  cases h with
  | int n => exact .int n
  | tup h l =>
    refine .tup ?_ l
    rcases h with (h | ⟨o, h⟩) | h
    · exact .inl (.inl ((show upd H e _ _ = _ from (upd_ne (ne_of_none h n)).trans h)))
    · exact .inl (.inr ⟨o, (show upd H e _ _ = _ from (upd_ne (ne_of_none h n)).trans h)⟩)
    · exact .inr h
theorem lay_ints : ∀ ns : List Int, PyData.canLayAll0 (ns.map PyData.int) = true
  | [] => by simp [PyData.canLayAll0]
  | x :: ns => by
    have h := lay_ints ns
    simp only [List.map_cons, PyData.canLayAll0, h, Bool.and_true]
    rfl
theorem el_data0 {H : Hp} : ∀ {xs : List V}, (∀ v ∈ xs, El K H v) → ∃ ds, DpAll K H xs ds ∧ PyData.canLayAll0 ds = true ∧ PyData.depthAll ds ≤ 1
  | [], _ => ⟨[], .nil, by simp [PyData.canLayAll0], by simp [PyData.depthAll]⟩
  | v :: xs, h => by
    obtain ⟨ds, d1, d2, d3⟩ := el_data0 (xs := xs) fun u hu => h u (List.mem_cons_of_mem _ hu)
    have hv := h v (List.mem_cons_self ..)
    cases hv with
    | int n =>
      refine ⟨.int n :: ds, .cons (.int n) d1, ?_, ?_⟩
      · simp only [PyData.canLayAll0, d2, Bool.and_true]
        rfl
      · show max 0 (PyData.depthAll ds) ≤ 1
        omega
    | @tup p ns hp l =>
      refine ⟨rowD ns :: ds, .cons (.tup hp (dpAll_intsL H ns)) d1, ?_, ?_⟩
      · simp only [PyData.canLayAll0, d2, Bool.and_true]
        exact lay_ints ns
      · show max (PyData.depthAll (ns.map PyData.int) + 1) (PyData.depthAll ds) ≤ 1
        rw [depth_ints ns]
        omega
theorem el_data {H : Hp} {xs : List V} (h : ∀ v ∈ xs, El K H v) : ∃ ds, DpAll K H xs ds ∧ SeqAt.shaped (.list ds) = true := by
  obtain ⟨ds, d1, d2, d3⟩ := el_data0 h
  refine ⟨ds, d1, ?_⟩
  have e1 : (PyData.list ds).canLay0 = true := d2
  have e2 : (PyData.list ds).depth = PyData.depthAll ds + 1 := rfl
  simp only [SeqAt.shaped, e1, e2, Bool.true_and]
  exact decide_eq_true (by omega)
theorem perm_eraseV : ∀ {l : List V} {i : Nat} {a : V}, l[i]? = some a → (a :: l.eraseIdx i).Perm l
  | [], _, _, h => by simp at h
  | b :: l, 0, a, h => by
    have e : b = a := by simpa using h
    subst e
    exact List.Perm.refl _
  | b :: l, i + 1, a, h => by
    have h' : l[i]? = some a := by simpa using h
    rw [List.eraseIdx_cons_succ]
    exact (List.Perm.swap b a _).trans ((perm_eraseV h').cons b)
theorem permV_ints {ys : List V} {ns : List Int} (h : ys.Perm (ns.map V.int)) : ∃ ms : List Int, ms.Perm ns ∧ ys = ms.map V.int := by
  obtain ⟨ms, h1, h2⟩ : ∃ ms : List Int, ys = ms.map V.int ∧ True := by
    have al : ∀ y ∈ ys, ∃ n, y = V.int n := fun y hy => by
      obtain ⟨n, _, e⟩ := List.mem_map.mp (h.mem_iff.mp hy)
      exact ⟨n, e.symm⟩
    clear h
    induction ys with
    | nil => exact ⟨[], rfl, trivial⟩
    | cons y ys ih =>
      obtain ⟨n, rfl⟩ := al y (List.mem_cons_self ..)
      obtain ⟨ms, rfl, _⟩ := ih fun z hz => al z (List.mem_cons_of_mem _ hz)
      exact ⟨n :: ms, rfl, trivial⟩
  subst h1
  refine ⟨ms, ?_, rfl⟩
  have := h.map fun v => match v with | .int n => n | _ => 0
  rw [List.map_map, List.map_map] at this
  have e : ∀ l : List Int, l.map ((fun v : V => match v with | .int n => n | _ => 0) ∘ V.int) = l := fun l => List.map_id _
  rwa [e, e] at this
def spShuf (K : PySem.W.Frag) : Sp := fun vs H Q _ => ∃ (D : Dw) (p : Addr) (xs : List V), vs = [.ref D.d, .ref p] ∧ (SqL K H p xs ∨ SqT K H p xs) ∧ xs.length ≤ 1000 ∧ (∀ v ∈ xs, El K H v) ∧ DrOk D H ∧
  ∀ (ys : List V) q H', ys.Perm xs → DrOk D H' → Kp D H H' → H q = none → H' q = some (.lst ys) → Q (.ref q) H'
theorem ok_l_shuffled (T : Txt K mg) : FnOk P w K mg base CX0 3 T.l_shuffled.a T.l_shuffled.fd ["draw", "some"] (spShuf K) := by
  refine T.l_shuffled.F.ok sc_l_shuffled (fun vs H Q E h => ?_) (fun cdv A outer s H vs Q E hr h => ?_)
  · obtain ⟨D, p, ns, rfl, _⟩ := h
    rfl
  · obtain ⟨D, p, ns, rfl, hs, hl, al, dr, k⟩ := h
    have hu := hu_of hr
    have nd := sc_l_shuffled.nd
    refine ⟨_, (pss_cons (ps_par (i := 2) (j := 3) rfl nd rfl rfl (by decide) rfl rfl (pa_cons (pe_callTy call_list_of (by rfl) T.zlist (by decide +kernel) (pa_cons (pv 1) pa_nil)) (pa_cons (pe_lst pa_nil) pa_nil)) rfl)
    (pss_cons (ps_while PassesOwn.never (pt_cmpR (op_neD hr.units) (pv 2) (pe_lst pa_nil) (nomark _))
      (pss_one (ps_expr (pe_bm PySem.F.plainAttrs_list PySem.F.slot_list_append PySem.F.type_list_append mt_append (pv 3) (pa_cons (pe_bm PySem.F.plainAttrs_list PySem.F.slot_list_pop PySem.F.type_list_pop mt_popAt (pv 2) (pa_cons (pe_call (ok_l_take T) (hr.mono (by decide)) (by rfl) T.l_take.g T.l_take.k T.l_take.b .nil pass0 (pa_cons (pv 0) (pa_cons (pe_callB call_len_seq (by rfl) T.zlen (by decide +kernel) (pa_cons (pv 2) pa_nil)) pa_nil))) pa_nil)) pa_nil)))))
    (pss_one (ps_ret (pv 3))))), ?_⟩
    refine ⟨_, rfl, p, _, rfl, hs, fun l hl0 => ⟨(by show 0 ≤ sizeLine; decide), fun q hq => ⟨_, _, rfl, ?_⟩⟩⟩
    have d1 := (dr.new (o := .lst ns) hl0).new (o := .lst []) hq
    have k1 : Kp D H (upd (upd H l (.lst ns)) q (.lst [])) := (Kp.new hl0).trans (Kp.new hq)
    have nlq : l ≠ q := ne_of_none upd_same hq
    have nl : Off D l := dr.off hl0
    have nq : Off D q := (dr.new (o := .lst ns) hl0).off hq
    have hqH : H q = none := by rw [upd_ne nlq.symm] at hq; exact hq
    have a1 : (upd (upd H l (.lst ns)) q (.lst [])) l = some (.lst ns) := by rw [upd_ne nlq]; exact upd_same
    have a2 : (upd (upd H l (.lst ns)) q (.lst [])) q = some (.lst []) := upd_same
    generalize upd (upd H l (.lst ns)) q (.lst []) = H1 at d1 k1 a1 a2
    refine while_by (fun σ H' => ∃ (le fo : List V), σ = [some (.ref D.d), some (.ref p), some (.ref l), some (.ref q)] ∧ H' l = some (.lst le) ∧ H' q = some (.lst fo) ∧ (fo ++ le).Perm ns ∧ DrOk D H' ∧ Kp D H H')
      (fun σ H' => match H' l with | some (.lst xs) => xs.length | _ => 0) ⟨ns, [], rfl, a1, a2, List.Perm.refl _, d1, k1⟩ ?_ ?_
    · rintro σ H' ⟨le, fo, rfl, h1, h2, pm, dr', k'⟩
      have hlen : fo.length + le.length = ns.length := by rw [← pm.length_eq, List.length_append]
      have ale : ∀ v ∈ le, El K H' v := fun v hv => (al v (pm.mem_iff.mp (List.mem_append.mpr (.inr hv)))).kp dr k'
      refine ⟨_, rfl, (by show 0 ≤ sizeLine; decide), fun e he => ?_⟩
      have e1 : (upd H' e (.lst [])) l = some (.lst le) := by rw [upd_ne (ne_of_none h1 he)]; exact h1
      have e2 : (upd H' e (.lst [])) q = some (.lst fo) := by rw [upd_ne (ne_of_none h2 he)]; exact h2
      have d2 : DrOk D (upd H' e (.lst [])) := dr'.new he
      have k2 : Kp D H (upd H' e (.lst [])) := k'.trans (Kp.new he)
      obtain ⟨ds, dp, sh⟩ := el_data (xs := le) (H := upd H' e (.lst [])) fun v hv => (ale v hv).new he
      refine ⟨_, _, .lst (SqL.of e1) dp, .lst (SqL.of upd_same) .nil, sh, rfl, _, rfl, ?_⟩
      rw [eqv_list_nil (K := K) (H := upd H' e (.lst [])) dp]
      refine ite2 (fun c => ?_) (fun c => ?_)
      · have hne : le ≠ [] := by simpa using c
        have l0 : 0 < le.length := List.length_pos_iff.mpr hne
        refine ⟨_, rfl, .inl ⟨rfl, _, SqL.of e2⟩, _, rfl, .inl ⟨rfl, _, SqL.of e1⟩, _, rfl, _, rfl, l, _, rfl, .inl (SqL.of e1), D, _, rfl, ?_⟩
        refine ⟨by omega, by omega, d2, fun n H3 n0 n1 d3 k3 => ?_⟩
        obtain ⟨m, rfl⟩ := Int.eq_ofNat_of_zero_le n0
        have hm : m < le.length := by omega
        have f1 : H3 l = some (.lst le) := k3.at nl e1
        have f2 : H3 q = some (.lst fo) := k3.at nq e2
        refine ⟨l, _, _, m, le[m], rfl, rfl, f1, by omega, by omega, ?_, ?_, ?_⟩
        · have e0 : ¬ ((m : Int) < 0) := by omega
          simp [seqIndex?, e0, hm]
        · exact List.getElem?_eq_getElem hm
        · have nlq' : q ≠ l := nlq.symm
          have g2 : (upd H3 l (.lst (le.eraseIdx m))) q = some (.lst fo) := by rw [upd_ne nlq']; exact f2
          refine ⟨q, _, _, rfl, rfl, g2, small1000 (by omega), ?_⟩
          refine ⟨⟨le.eraseIdx m, fo ++ [le[m]], rfl, ?_, ?_, ?_, ?_, ?_⟩, ?_⟩
          · rw [upd_ne nlq, upd_same]
          · rw [upd_same]
          · refine List.Perm.trans ?_ pm
            rw [List.append_assoc]
            exact (perm_eraseV (List.getElem?_eq_getElem hm)).append_left fo
          · exact (d3.put nl).put nq
          · intro b o hb n1 n2
            have hbl : b ≠ l := ne_of_none hb hl0
            have hbq : b ≠ q := ne_of_none hb hqH
            rw [upd_ne hbq, upd_ne hbl]
            exact k3 _ _ (k2 _ _ hb n1 n2) n1 n2
          · show (match (upd (upd H3 l _) q _) l with | some (.lst xs) => xs.length | _ => 0) < (match H' l with | some (.lst xs) => xs.length | _ => 0)
            rw [upd_ne nlq, upd_same, h1]
            show (le.eraseIdx m).length < le.length
            rw [List.length_eraseIdx_of_lt hm]
            omega
      · have hne : le = [] := by simpa using c
        subst hne
        refine ⟨_, rfl, ?_⟩
        rw [List.append_nil] at pm
        exact k fo q _ pm d2 k2 hqH e2
    · rintro σ H Q Q' hq ⟨v, h1, h2, h3⟩
      exact ⟨v, h1, h2, fun p hp => by obtain ⟨d, e, a1, a2, a3, a4, b, eb, h⟩ := h3 p hp; exact ⟨d, e, a1, a2, a3, a4, b, eb, hq _ _ h⟩⟩
end
end Tt
set_option maxRecDepth 100000
set_option maxHeartbeats 4000000
namespace Tt
open PySem L2
section
variable {P : Program} {w : World} {K : PySem.W.Frag} {mg : Str → Option Value} {base : Heap}
theorem xor_mate {x : Int} (h0 : 0 ≤ x) (h1 : x < 12) : Builtin.bitXor x 1 = Wd.mate x := by
  have h : ∀ n : Fin 12, Builtin.bitXor ((n.val : Nat) : Int) 1 = Wd.mate ((n.val : Nat) : Int) := by decide
  obtain ⟨n, rfl⟩ := Int.eq_ofNat_of_zero_le h0
  exact h ⟨n, by omega⟩
theorem same_new {H : Hp} {p : Addr} {o : HO} (n : H p = none) : Same H (upd H p o) := fun b u e => by
  rw [upd_ne (ne_of_none e n)]
  exact e
theorem ints_get {st : List Int} {i : Nat} {a : Int} (h : st[i]? = some a) : (st.map V.int)[i]? = some (V.int a) := by rw [List.getElem?_map, h]; rfl
theorem atI_last {st : List Int} (h : st ≠ []) : ∃ a, st.getLast? = some a ∧ atI (st.map V.int) (-1) = some (V.int a) := by
  have l0 : 0 < st.length := List.length_pos_iff.mpr h
  have hl : st.length - 1 < st.length := by omega
  refine ⟨st[st.length - 1], by rw [List.getLast?_eq_getElem?, List.getElem?_eq_getElem hl], ?_⟩
  unfold atI
  have e : ixN (st.map V.int).length (-1) = some (st.length - 1) := by
    rw [List.length_map]
    unfold ixN
    simp
    omega
  rw [e]
  exact ints_get (List.getElem?_eq_getElem hl)
def spFreed (K : PySem.W.Frag) : Sp := fun vs H Q _ => ∃ (p : Addr) (ns : List Int), vs = [.ref p] ∧ SqT K H p (ns.map V.int) ∧ ns.length ≤ 500 ∧ (∀ x ∈ ns, 0 ≤ x ∧ x < 12) ∧
  ∀ q H', Same H H' → H' q = some (.tup ((Wd.freed ns).map V.int)) → Q (.ref q) H'
theorem same_seqT {K : PySem.W.Frag} {H H' : Hp} {a : Addr} {xs : List V} (e : Same H H') (h : SqT K H a xs) : SqT K H' a xs := by
  rcases h with (h | ⟨o, h⟩) | h
  · exact .inl (.inl (e _ _ h))
  · exact .inl (.inr ⟨o, e _ _ h⟩)
  · exact .inr h
end
end Tt
set_option maxRecDepth 100000
set_option maxHeartbeats 4000000
namespace Tt
open PySem L2
section
variable {P : Program} {w : World} {K : PySem.W.Frag} {mg : Str → Option Value} {base : Heap}
theorem ok_cut_free (T : Txt K mg) : FnOk P w K mg base CX0 2 T.cut_free.a T.cut_free.fd ["word"] (spFreed K) := by
  refine T.cut_free.F.ok sc_cut_free (fun vs H Q E h => ?_) (fun cdv A outer s H vs Q E hr h => ?_)
  · obtain ⟨p, ns, rfl, _⟩ := h
    rfl
  · obtain ⟨p, ns, rfl, hs, hl, hb, k⟩ := h
    have nd := sc_cut_free.nd
    refine ⟨_, (pss_cons (ps_set (i := 1) nd rfl (Or.inl rfl) (pe_lst pa_nil))
    (pss_cons (ps_for PassesOwn.never rfl (pi_tup (pv 0)) (pg_name (i := 2) nd rfl (Or.inl rfl))
      (pss_one (ps_if (PW.pt (pw_and (pt_truth (pv 1) (fun _ => rfl)) (pw_and1 (pt_cmpR op_eq (pe_ix ix_list (pv 1) (pe_un un_neg pe_int) (fun _ _ => rfl)) (pe_op op_xor (pv 2) pe_int) (nomark _)))))
        (pss_one (ps_expr (pe_bm0 PySem.F.plainAttrs_list PySem.F.slot_list_pop PySem.F.type_list_pop mt_pop (pv 1))))
        (pss_one (ps_expr (pe_bm PySem.F.plainAttrs_list PySem.F.slot_list_append PySem.F.type_list_append mt_append (pv 1) (pa_cons (pv 2) pa_nil)))))))
    (pss_one (ps_ret (pe_callTy call_tuple_of (by rfl) T.ztuple (by decide +kernel) (pa_cons (pv 1) pa_nil)))))), ?_⟩
    refine ⟨(by show 0 ≤ sizeLine; decide), fun f hf => ?_⟩
    have s1 : Same H (upd H f (.lst [])) := same_new hf
    refine ⟨_, rfl, p, rfl, ⟨_, same_seqT s1 hs⟩, ?_⟩
    refine for_tup (K := K) (a := p) (xs := ns.map V.int) (fun i σ H' => ∃ v2, σ = [some (.ref p), some (.ref f), v2] ∧ Same H H' ∧ H' f = some (.lst ((Wd.freed (ns.take i)).map V.int)))
      ⟨_, rfl, s1, upd_same⟩ (fun i σ H' _ ⟨_, _, s, _⟩ => same_seqT s hs) ?_ ?_
    · rintro i y σ H' hi ⟨v2, rfl, s3, e1⟩
      obtain ⟨x, rfl, hx⟩ := ints_at hi
      have hil : i < ns.length := (List.getElem?_eq_some_iff.mp hx).1
      have hxm : x ∈ ns := List.mem_of_getElem? hx
      have ht : ns.take (i + 1) = ns.take i ++ [x] := by rw [List.take_add_one, hx]; rfl
      have hsz : (Wd.freed (ns.take i)).length ≤ 500 := Nat.le_trans (Wd.len_freed _) (by rw [List.length_take]; omega)
      have grow : ¬ (Wd.freed (ns.take i)).getLast? = some (Wd.mate x) → Same H (upd H' f (.lst ((Wd.freed (ns.take i)).map V.int ++ [V.int x]))) ∧ (upd H' f (.lst ((Wd.freed (ns.take i)).map V.int ++ [V.int x]))) f = some (.lst ((Wd.freed (ns.take (i + 1))).map V.int)) := fun hn => by
        refine ⟨fun b o hb => ?_, ?_⟩
        · rw [upd_ne (ne_of_none hb hf)]
          exact s3 b o hb
        · rw [upd_same, ht, Wd.freed_snoc]
          unfold Wd.push
          rw [if_neg hn, List.map_append]
          rfl
      refine ⟨_, rfl, !((Wd.freed (ns.take i)).map V.int).isEmpty, .inl ⟨_, SqL.of e1, rfl⟩, ?_⟩
      refine ite2 (fun c => ?_) (fun c => ?_)
      · have hne : Wd.freed (ns.take i) ≠ [] := by simpa using c
        obtain ⟨a, ha, hat⟩ := atI_last hne
        refine ⟨_, rfl, _, rfl, f, _, _, _, rfl, rfl, SqL.of e1, hat, ?_⟩
        refine ⟨_, rfl, _, _, rfl, rfl, rfl, _, rfl, ?_⟩
        refine ite2 (fun c2 => ?_) (fun c2 => ?_)
        · have hax : a = Wd.mate x := by
            have c3 : decide (V.int a = V.int (Builtin.bitXor x 1)) = true := c2
            rw [xor_mate (hb x hxm).1 (hb x hxm).2] at c3
            simpa using c3
          refine ⟨_, rfl, .inl ⟨rfl, _, SqL.of e1⟩, f, _, V.int a, rfl, rfl, e1, ?_, ?_⟩
          · rw [List.length_map]
            exact ints_get (Wd.last_get.mp ha).2
          · refine ⟨_, rfl, fun b o hb => ?_, ?_⟩
            · rw [upd_ne (ne_of_none hb hf)]
              exact s3 b o hb
            · rw [upd_same, ht, Wd.freed_snoc]
              unfold Wd.push
              rw [if_pos (by rw [ha, hax]), List.map_dropLast]
        · have hax : ¬ a = Wd.mate x := by
            have c3 : ¬ decide (V.int a = V.int (Builtin.bitXor x 1)) = true := c2
            rw [xor_mate (hb x hxm).1 (hb x hxm).2] at c3
            simpa using c3
          refine ⟨_, rfl, .inl ⟨rfl, _, SqL.of e1⟩, _, rfl, f, _, _, rfl, rfl, e1, by rw [List.length_map]; exact small1000 (by omega), ?_⟩
          exact ⟨_, rfl, grow (by rw [ha]; intro z; exact hax (Option.some.inj z))⟩
      · have hne : Wd.freed (ns.take i) = [] := by simpa using c
        refine ite2 (fun z => absurd z Bool.false_ne_true) (fun _ => ?_)
        refine ⟨_, rfl, .inl ⟨rfl, _, SqL.of e1⟩, _, rfl, f, _, _, rfl, rfl, e1, by rw [List.length_map]; exact small1000 (by omega), ?_⟩
        exact ⟨_, rfl, grow (by rw [hne]; intro z; cases z)⟩
    · rintro σ H' ⟨v2, rfl, s2, h2⟩
      rw [List.length_map, List.take_length] at h2
      refine ⟨_, rfl, f, _, rfl, .inl ⟨SqL.of h2, fun q hq => ?_⟩⟩
      exact k q _ (s2.trans (same_new hq)) upd_same
def spUndo (K : PySem.W.Frag) : Sp := fun vs H Q _ => ∃ (p : Addr) (ns : List Int), vs = [.ref p] ∧ SqT K H p (ns.map V.int) ∧ ns.length ≤ 500 ∧ (∀ x ∈ ns, 0 ≤ x ∧ x < 12) ∧
  ∀ q H', Same H H' → H' q = some (.tup ((Wd.undo ns).map V.int)) → Q (.ref q) H'
def rgI (n : Nat) : List Int := (List.range n).map fun (i : Nat) => (i : Int)
theorem rgV_rgI {n : Int} (h : 0 ≤ n) : rgV 0 n = (rgI n.toNat).map V.int := by
  unfold rgV rgI
  rw [List.map_map, Int.sub_zero]
  exact List.map_congr_left fun a _ => by show V.int (0 + (a : Nat)) = _; rw [Int.zero_add]; rfl
theorem rgI_len (n : Nat) : (rgI n).length = n := by unfold rgI; rw [List.length_map, List.length_range]
end
end Tt
set_option maxRecDepth 100000
set_option maxHeartbeats 4000000
namespace Tt
open PySem L2
def lenAt (i : Nat) : L2.St → Hp → Nat := fun σ H' => match σ[i]? with
  | some (some (V.ref f)) => (match H' f with
    | some (HO.lst xs) => 1000 - xs.length
    | _ => 0)
  | _ => 0
theorem lenAt_of {i : Nat} {σ : L2.St} {H : Hp} {f : Addr} {xs : List V} (h : σ[i]? = some (some (.ref f))) (e : H f = some (.lst xs)) : lenAt i σ H = 1000 - xs.length := by
  unfold lenAt
  rw [h]
  show (match H f with | some (HO.lst xs) => 1000 - xs.length | _ => 0) = _
  rw [e]
def lenOf (i : Nat) : L2.St → Hp → Nat := fun σ H' => match σ[i]? with
  | some (some (V.ref f)) => (match H' f with
    | some (HO.lst xs) => xs.length
    | _ => 0)
  | _ => 0
theorem lenOf_of {i : Nat} {σ : L2.St} {H : Hp} {f : Addr} {xs : List V} (h : σ[i]? = some (some (.ref f))) (e : H f = some (.lst xs)) : lenOf i σ H = xs.length := by
  unfold lenOf
  rw [h]
  show (match H f with | some (HO.lst xs) => xs.length | _ => 0) = _
  rw [e]
theorem upk {H : Hp} {p b : Addr} {o u : HO} (n : H p = none) (h : H b = some o) : (upd H p u) b = some o := by
  rw [upd_ne (ne_of_none h n)]
  exact h
theorem cut_to (xs : List V) {n : Nat} (h : n ≤ xs.length) : cutV xs none (some (n : Int)) = xs.take n := by
  unfold cutV
  have e : HT.sIx xs.length xs.length (some (n : Int)) = n := by rw [HT.sIx_nat]; omega
  have e0 : HT.sIx xs.length 0 none = 0 := rfl
  rw [e, e0]
  simp
theorem cut_from (xs : List V) {n : Nat} : cutV xs (some (n : Int)) none = xs.drop n := by
  unfold cutV
  have e : HT.sIx xs.length 0 (some (n : Int)) = min n xs.length := HT.sIx_nat ..
  have e0 : HT.sIx xs.length xs.length none = xs.length := rfl
  rw [e, e0, List.take_of_length_le (by rw [List.length_drop]; omega)]
  by_cases h : n ≤ xs.length
  · rw [Nat.min_eq_left h]
  · rw [Nat.min_eq_right (by omega), List.drop_eq_nil_of_le (Nat.le_refl _), List.drop_eq_nil_of_le (by omega)]
section
variable {P : Program} {w : World} {K : PySem.W.Frag} {mg : Str → Option Value} {base : Heap}
def Lt (e : Int) (ns : List Int) : Prop := ∀ x ∈ ns, 0 ≤ x ∧ x < e
theorem Lt.app {e : Int} {a b : List Int} (ha : Lt e a) (hb : Lt e b) : Lt e (a ++ b) := fun x hx => (List.mem_append.mp hx).elim (ha x) (hb x)
theorem Lt.take {e : Int} {a : List Int} (ha : Lt e a) (n : Nat) : Lt e (a.take n) := fun x hx => ha x (List.mem_of_mem_take hx)
theorem Lt.drop {e : Int} {a : List Int} (ha : Lt e a) (n : Nat) : Lt e (a.drop n) := fun x hx => ha x (List.mem_of_mem_drop hx)
theorem Lt.undo {e : Int} {a : List Int} (ev : e % 2 = 0) (ha : Lt e a) : Lt e (Wd.undo a) := fun x hx => by
  unfold Wd.undo at hx
  obtain ⟨y, hy, rfl⟩ := List.mem_map.mp hx
  have h := ha y (by simpa using hy)
  have hb := Wd.mate_range (n := e / 2) h.1 (by omega)
  exact ⟨hb.1, by omega⟩
end
end Tt
set_option maxRecDepth 100000
set_option maxHeartbeats 4000000
namespace Tt
open PySem L2
section
variable {P : Program} {w : World} {K : PySem.W.Frag} {mg : Str → Option Value} {base : Heap}
theorem passF {P : Program} {w : World} {X : Cx} : Passes (L2.CX P w) X (fun _ _ _ => False) := fun _ _ _ _ _ _ _ h => by
  obtain ⟨_, _, _, _, _, _, _, _, _, _, _, _, z⟩ := h
  exact z.elim
def inB (lo hi : Int) : V → Bool
  | .int i => decide (lo ≤ i) && decide (i ≤ hi)
  | _ => false
def isI : V → Bool
  | .int _ => true
  | _ => false
theorem TyB.isI {H : Hp} {x : V} {S : String} (t : TyB K H x S) : decide (S = "int") = isI x := by cases t <;> rfl
theorem TyB.isT {H : Hp} {x : V} {S : String} (t : TyB K H x S) : (∃ a xs, x = .ref a ∧ SqT K H a xs ∧ S = "tuple") ∨ decide (S = "tuple") = false := by
  cases t with
  | tup h => exact .inl ⟨_, _, rfl, h, rfl⟩
  | _ => exact .inr rfl
def spNumber (K : PySem.W.Frag) : Sp := fun vs H Q _ => ∃ (x : V) (S : String), vs = [x] ∧ TyB K H x S ∧ Q (.bl (isI x)) H
theorem ok_is_number (T : Txt K mg) : FnOk P w K mg base CX0 1 T.is_number.a T.is_number.fd ["thing"] (spNumber K) := by
  refine T.is_number.F.ok sc_is_number (fun vs H Q E h => ?_) (fun cdv A outer s H vs Q E hr h => ?_)
  · obtain ⟨x, S, rfl, _⟩ := h
    rfl
  · obtain ⟨x, S, rfl, t, k⟩ := h
    refine ⟨_, (pss_one (ps_ret (pe_cmpR op_isTyB (pe_callTy call_type1 (by rfl) T.ztype (by decide +kernel) (pa_cons (pv 0) pa_nil)) (pe_bltn (v := .ty "int") (by rfl) T.zint (by decide +kernel) rfl) (nomark _)))), ?_⟩
    refine ⟨x, rfl, x, S, rfl, t, _, _, rfl, rfl, ?_⟩
    rw [← TyB.isI t] at k
    exact k
def spWithin (K : PySem.W.Frag) : Sp := fun vs H Q _ => ∃ (x : V) (lo hi : Int) (S : String), vs = [x, .int lo, .int hi] ∧ TyB K H x S ∧ Q (.bl (inB lo hi x)) H
theorem ok_is_within (T : Txt K mg) : FnOk P w K mg base CX0 2 T.is_within.a T.is_within.fd ["thing", "low", "high"] (spWithin K) := by
  refine T.is_within.F.ok sc_is_within (fun vs H Q E h => ?_) (fun cdv A outer s H vs Q E hr h => ?_)
  · obtain ⟨x, lo, hi, S, rfl, _⟩ := h
    rfl
  · obtain ⟨x, lo, hi, S, rfl, t, k⟩ := h
    refine ⟨_, (pss_one (ps_ret (pe_and (pe_call (ok_is_number T) (hr.mono (by decide)) (by rfl) T.is_number.g T.is_number.k T.is_number.b .nil pass0 (pa_cons (pv 0) pa_nil)) (pe_one (pe_chain op_le op_le (pv 1) (pv 0) (pv 2)))))), ?_⟩
    refine ⟨x, rfl, x, S, rfl, t, _, rfl, ?_⟩
    cases x with
    | int i =>
      refine iteT ⟨_, rfl, _, rfl, _, _, rfl, rfl, _, rfl, ?_⟩
      have k' : Q (.bl (decide (lo ≤ i) && decide (i ≤ hi))) H := k
      refine ite2 (fun c => ?_) (fun c => ?_)
      · rw [c, Bool.true_and] at k'
        exact ⟨_, rfl, _, _, rfl, rfl, k'⟩
      · have c' : decide (lo ≤ i) = false := by simpa using c
        rw [c', Bool.false_and] at k'
        exact k'
    | _ => exact iteF k
def spTuple (K : PySem.W.Frag) : Sp := fun vs H Q _ => ∃ (x : V) (S : String), vs = [x] ∧ TyB K H x S ∧ Q (.bl (decide (S = "tuple"))) H
theorem ok_is_tuple (T : Txt K mg) : FnOk P w K mg base CX0 1 T.is_tuple.a T.is_tuple.fd ["thing"] (spTuple K) := by
  refine T.is_tuple.F.ok sc_is_tuple (fun vs H Q E h => ?_) (fun cdv A outer s H vs Q E hr h => ?_)
  · obtain ⟨x, S, rfl, _⟩ := h
    rfl
  · obtain ⟨x, S, rfl, t, k⟩ := h
    refine ⟨_, (pss_one (ps_ret (pe_cmpR op_isTyB (pe_callTy call_type1 (by rfl) T.ztype (by decide +kernel) (pa_cons (pv 0) pa_nil)) (pe_bltn (v := .ty "tuple") (by rfl) T.ztuple (by decide +kernel) rfl) (nomark _)))), ?_⟩
    exact ⟨x, rfl, x, S, rfl, t, _, _, rfl, rfl, k⟩
def spList (K : PySem.W.Frag) : Sp := fun vs H Q _ => ∃ (x : V) (S : String), vs = [x] ∧ TyB K H x S ∧ Q (.bl (decide (S = "list") || decide (S = "tuple"))) H
theorem ok_is_list (T : Txt K mg) : FnOk P w K mg base CX0 2 T.is_list.a T.is_list.fd ["thing"] (spList K) := by
  refine T.is_list.F.ok sc_is_list (fun vs H Q E h => ?_) (fun cdv A outer s H vs Q E hr h => ?_)
  · obtain ⟨x, S, rfl, _⟩ := h
    rfl
  · obtain ⟨x, S, rfl, t, k⟩ := h
    refine ⟨_, (pss_one (ps_ret (pe_or (pe_cmpR op_isTyB (pe_callTy call_type1 (by rfl) T.ztype (by decide +kernel) (pa_cons (pv 0) pa_nil)) (pe_bltn (v := .ty "list") (by rfl) T.zlist (by decide +kernel) rfl) (nomark _)) (pe_one (pe_call (ok_is_tuple T) (hr.mono (by decide)) (by rfl) T.is_tuple.g T.is_tuple.k T.is_tuple.b .nil pass0 (pa_cons (pv 0) pa_nil)))))), ?_⟩
    refine ⟨x, rfl, x, S, rfl, t, _, _, rfl, rfl, _, rfl, ?_⟩
    refine ite2 (fun c => ?_) (fun c => ?_)
    · rw [c] at k
      exact k
    · have c' : decide (S = "list") = false := by simpa using c
      rw [c', Bool.false_or] at k
      exact ⟨x, rfl, x, S, rfl, t, k⟩
def skF (r q : Addr) (n : Int) : List (Str × V) := [("row", .ref r), ("bands", .int n), ("places", .ref q)]
def places (row : List Int) : List Int := (List.range row.length).map fun (e : Nat) => (((row.idxOf (e : Int) : Nat)) : Int)
def SkAt (T : Txt K mg) (H : Hp) (p : Addr) (row : List Int) : Prop := ∃ dx r q, H p = some (.ins T.Skin.C dx (skF r q (row.length / 2 : Nat))) ∧ FzT H r (row.map V.int) ∧ FzT H q ((places row).map V.int)
theorem FzT.same {H H' : Hp} {a : Addr} {xs : List V} (h : FzT H a xs) (s : Same H H') : FzT H' a xs := by
  obtain ⟨ob, h1, h2⟩ := h
  exact ⟨ob, s _ _ h1, h2⟩
theorem FzT.kp {D : Dw} {H H' : Hp} {a : Addr} {xs : List V} (h : FzT H a xs) (dr : DrOk D H) (k : Kp D H H') : FzT H' a xs := by
  obtain ⟨ob, h1, h2⟩ := h
  obtain ⟨ls, cs, rr, t, d⟩ := dr
  exact ⟨ob, k _ _ h1 (d.dne h1 fun _ z => nomatch z) (d.lne h1 fun _ z => nomatch z), h2⟩
theorem SkAt.same {T : Txt K mg} {H H' : Hp} {p : Addr} {row : List Int} (h : SkAt T H p row) (s : Same H H') : SkAt T H' p row := by
  obtain ⟨dx, r, q, h1, h2, h3⟩ := h
  exact ⟨dx, r, q, s _ _ h1, FzT.same h2 s, FzT.same h3 s⟩
theorem SkAt.kp {T : Txt K mg} {D : Dw} {H H' : Hp} {p : Addr} {row : List Int} (h : SkAt T H p row) (dr : DrOk D H) (k : Kp D H H') : SkAt T H' p row := by
  obtain ⟨dx, r, q, h1, h2, h3⟩ := h
  obtain ⟨ls, cs, rr, t, d⟩ := id dr
  exact ⟨dx, r, q, k _ _ h1 (d.dne h1 fun _ z => nomatch z) (d.lne h1 fun _ z => nomatch z), FzT.kp h2 dr k, FzT.kp h3 dr k⟩
theorem skF_row (r q : Addr) (n : Int) : (skF r q n).lookup ("row" : Str) = some (V.ref r) := rfl
theorem skF_bands (r q : Addr) (n : Int) : (skF r q n).lookup ("bands" : Str) = some (V.int n) := rfl
theorem nRow (T : Txt K mg) : NoAttr K T.Skin.C "row" := T.Skin.n _ (by decide)
theorem nBands (T : Txt K mg) : NoAttr K T.Skin.C "bands" := T.Skin.n _ (by decide)
theorem nPlaces (T : Txt K mg) : NoAttr K T.Skin.C "places" := T.Skin.n _ (by decide)
inductive SkV (T : Txt K mg) (H : Hp) : V → Bool → Prop where
  | skin {p dx : Addr} {fs : List (Str × V)} (h : H p = some (.ins T.Skin.C dx fs)) : SkV T H (.ref p) true
  | non : SkV T H .non false
  | tup {p : Addr} {xs : List V} (h : FzT H p xs) : SkV T H (.ref p) false
theorem SkV.same {T : Txt K mg} {H H' : Hp} {v : V} {b : Bool} (h : SkV T H v b) (s : Same H H') : SkV T H' v b := by
  cases h with
  | skin h => exact .skin (s _ _ h)
  | non => exact .non
  | tup h => exact .tup (FzT.same h s)
theorem SkAt.v {T : Txt K mg} {H : Hp} {p : Addr} {row : List Int} (h : SkAt T H p row) : SkV T H (.ref p) true := by
  obtain ⟨dx, r, q, h1, _⟩ := h
  exact .skin h1
theorem SkV.isi {T : Txt K mg} {H : Hp} {v : V} {b : Bool} (h : SkV T H v b) : ∃ t, TyX K H v t ∧ PySem.W.kitOne K t (.ref T.Skin.C) = some b := by
  cases h with
  | skin h => exact ⟨_, .base (.ins h T.Skin.c T.Skin.ha T.Skin.hn T.Skin.ht T.Skin.hm), T.kSS⟩
  | non => exact ⟨_, .base .non, T.kSN⟩
  | tup h =>
    obtain ⟨ob, h1, _⟩ := h
    exact ⟨_, .fTuple h1, T.kST⟩
def SkErr (T : Txt K mg) (H : Hp) (E : XK) : Prop := ∀ d H', Same H H' → H' d = some (.xd [("part", .non)]) → E (.ref T.BadSkin.C) (some d) H'
def spExI (T : Txt K mg) : Sp := fun vs H Q _ => ∃ (a : Addr) (v : V), vs = [.ref a, v] ∧ H a = some (exo a T.BadSkin.C none) ∧
  ∀ dx, H dx = none → dx ≠ a → Q .non (upd (upd H dx (exd dx [("part", v)])) a (exo a T.BadSkin.C (some dx)))
theorem ok_BadSkin_init (T : Txt K mg) : FnOk P w K mg base CX0 1 T.BadSkin.fI T.BadSkin.fd ["self", "part"] (spExI T) := by
  refine T.BadSkin.F.ok sc_BadSkin_init (fun vs H Q E h => ?_) (fun cdv A outer s H vs Q E hr h => ?_)
  · obtain ⟨a, v, rfl, _⟩ := h
    rfl
  · obtain ⟨a, v, rfl, ha, k⟩ := h
    refine ⟨_, (pss_one (ps_ost (pv 0) (pv 1))), ?_⟩
    exact ⟨v, rfl, _, rfl, a, T.BadSkin.C, rfl, T.BadSkin.o, T.BadSkin.n, .inl ⟨ha, fun dx n ne => k dx n ne⟩⟩
def spCheckSkin (T : Txt K mg) : Sp := fun vs H Q E => ∃ (v : V) (b : Bool), vs = [v] ∧ SkV T H v b ∧ (b = true → Q .non H) ∧ (b = false → SkErr T H E)
theorem ok_check_skin (T : Txt K mg) : FnOk P w K mg base (L2.CX P w) 3 T.check_skin.a T.check_skin.fd ["skin"] (spCheckSkin T) := by
  refine T.check_skin.F.okX sc_check_skin (fun vs H Q E h => ?_) (fun cdv A outer s H vs Q E hr h => ?_)
  · obtain ⟨v, b, rfl, _⟩ := h
    rfl
  · obtain ⟨v, b, rfl, hv, kT, kF⟩ := h
    refine ⟨_, (pss_one (ps_if (pt_not (pt_val (pe_callB call_isA (by rfl) T.zisinstance (by decide +kernel) (pa_cons (pv 0) (pa_cons (pe_glob (v := .ref T.Skin.C) rfl T.Skin.g rfl) pa_nil)))))
      (pss_one (ps_raise rfl (takes_of rfl rfl rfl rfl) (pmk_oex T.BadSkin.o T.BadSkin.i T.BadSkin.t (ok_BadSkin_init T) (hr.mono (by decide)) T.BadSkin.b .nil pass0 (by rfl) T.BadSkin.g (pa_cons pe_non pa_nil))))
      pss_nil)), ?_⟩
    obtain ⟨t, ht, hk⟩ := hv.isi
    refine ⟨v, rfl, .inr ⟨v, _, t, _, b, rfl, .own T.Skin.C, ht, hk, b, rfl, ?_⟩⟩
    cases b with
    | true => exact iteF (kT rfl)
    | false =>
      refine iteT ⟨(by show 1 ≤ 1000; decide), fun a ha => ?_⟩
      refine ⟨a, .non, rfl, upd_same, fun dx ndx ne => ⟨rfl, dx, ([("part", V.non)] : List (Str × V)), upd_same, ?_, ?_, ?_⟩⟩
      · rw [upd_ne ne, upd_same]
      · rw [upd_ne ne] at ndx
        exact ndx
      · have ndx' : H dx = none := by rw [upd_ne ne] at ndx; exact ndx
        refine kF rfl dx _ (fun b o hb => ?_) upd_same
        have nb : b ≠ a := ne_of_none hb ha
        have nb2 : b ≠ dx := ne_of_none hb ndx'
        rw [upd_ne nb2, del_ne nb, upd_ne nb, upd_ne nb2, upd_ne nb]
        exact hb
end
end Tt
set_option maxRecDepth 100000
set_option maxHeartbeats 4000000
namespace Tt
open PySem L2
section
variable {P : Program} {w : World} {K : PySem.W.Frag} {mg : Str → Option Value} {base : Heap}
theorem eqv_ints : ∀ a b : List Int, PyData.eqv (.list (a.map PyData.int)) (.list (b.map PyData.int)) = decide (a = b)
  | [], [] => rfl
  | [], _ :: _ => by simp [PyData.eqv] <;> rfl
  | _ :: _, [] => by simp [PyData.eqv] <;> rfl
  | x :: a, y :: b => by
    have h := eqv_ints a b
    simp [PyData.eqv, PyData.eqvAll] at h ⊢
    rw [h]
    rfl
theorem perm_sorted {n : Nat} {ns' ns : List Int} (h : ns'.Perm ns) (p : ns'.Pairwise (· ≤ ·)) (q : ns.Perm (rgI n)) : ns' = rgI n := by
  refine List.Perm.eq_of_pairwise (fun a b _ _ h1 h2 => Int.le_antisymm h1 h2) p ?_ (h.trans q)
  unfold rgI
  rw [List.pairwise_map]
  exact List.pairwise_lt_range.imp fun {a b} h => by show (a : Int) ≤ b; omega
theorem perm_len {n : Nat} {row : List Int} (h : row.Perm (rgI n)) : row.length = n := by rw [h.length_eq, rgI_len]
theorem perm_mem {n : Nat} {row : List Int} (h : row.Perm (rgI n)) {x : Int} : x ∈ row ↔ 0 ≤ x ∧ x < n := by
  rw [h.mem_iff]
  unfold rgI
  rw [List.mem_map]
  constructor
  · rintro ⟨a, ha, rfl⟩
    have := List.mem_range.mp ha
    omega
  · rintro ⟨h0, h1⟩
    exact ⟨x.toNat, List.mem_range.mpr (by omega), by omega⟩
theorem turn_perm (row : List Int) (s : Nat) : (row.drop s ++ row.take s).Perm row := by
  have h : (row.drop s ++ row.take s).Perm (row.take s ++ row.drop s) := List.perm_append_comm
  rw [List.take_append_drop] at h
  exact h
theorem idx_at {row : List Int} {x : Int} (h : x ∈ row) : row[row.idxOf x]? = some x ∧ ∀ m, m < row.idxOf x → row[m]? ≠ some x := by
  have hl : row.idxOf x < row.length := List.idxOf_lt_length_of_mem h
  refine ⟨by rw [List.getElem?_eq_getElem hl, List.getElem_idxOf hl], fun m hm e => ?_⟩
  obtain ⟨h1, h2⟩ := List.getElem?_eq_some_iff.mp e
  exact absurd h2 (by simpa using List.not_of_lt_findIdx (xs := row) (p := (· == x)) (i := m) hm)
theorem slT_from {xs : List V} {a : Addr} {H : Hp} {Q : VK} {n : Nat} (hx : 0 < xs.length) (h : SqT K H a xs) (q0 : n = 0 → Q (.ref a) H) (q1 : n ≠ 0 → ∀ p, H p = none → Q (.ref p) (upd H p (.tup (xs.drop n)))) : rSlA K (.ref a) (some (n : Int)) none H Q := by
  refine ⟨a, xs, rfl, h, fun z => q0 ?_, fun nz p hp => ?_⟩
  · rw [HT.sIx_nat] at z
    omega
  · rw [cut_from]
    refine q1 (fun e => nz ?_) p hp
    subst e
    exact ⟨by rw [HT.sIx_nat]; omega, rfl⟩
theorem slT_to {xs : List V} {a : Addr} {H : Hp} {Q : VK} {n : Nat} (hx : n < xs.length) (h : SqT K H a xs) (q1 : ∀ p, H p = none → Q (.ref p) (upd H p (.tup (xs.take n)))) : rSlA K (.ref a) none (some (n : Int)) H Q := by
  refine ⟨a, xs, rfl, h, fun z => ?_, fun _ p hp => ?_⟩
  · rw [HT.sIx_nat] at z
    exfalso
    omega
  · rw [cut_to _ (by omega)]
    exact q1 p hp
theorem noPart_i {σ : L2.St} {H : Hp} {Q : Option Int → Hp → Prop} (h : Q none H) : tNoPart σ H Q := h
theorem FzT.ne {H : Hp} {a p : Addr} {xs : List V} {u o : HO} (h : FzT H a xs) (e : H p = some u) (n : ∀ ob x, u ≠ .frz ob x) : FzT (upd H p o) a xs := by
  obtain ⟨ob, h1, h2⟩ := h
  refine ⟨ob, ?_, h2⟩
  rw [upd_ne]
  · exact h1
  · intro z
    subst z
    rw [e] at h1
    exact n _ _ (Option.some.inj h1)
theorem place_at {row : List Int} {i : Nat} (h : i < row.length) : (places row)[i]? = some (((row.idxOf (i : Int) : Nat)) : Int) := by
  unfold places
  rw [List.getElem?_map, List.getElem?_range h]
  rfl
end
end Tt
set_option maxRecDepth 100000
set_option maxHeartbeats 4000000
namespace Tt
open PySem L2
section
variable {P : Program} {w : World} {K : PySem.W.Frag} {mg : Str → Option Value} {base : Heap}
theorem TyB.same {H H' : Hp} {x : V} {S : String} (t : TyB K H x S) (s : Same H H') : TyB K H' x S := by
  cases t with
  | non => exact .non
  | bl b => exact .bl b
  | int i => exact .int i
  | str x => exact .str x
  | byt b => exact .byt b
  | @lst a xs h =>
    have h' : SqL K H' a xs := by
      rcases h with (h | ⟨o, h⟩) | h
      · exact .inl (.inl (s _ _ h))
      · exact .inl (.inr ⟨o, s _ _ h⟩)
      · exact .inr h
    exact .lst h'
  | tup h => exact .tup (same_seqT s h)
  | dK h => exact .dK (s _ _ h)
def hiE (row : List Int) : Int := 2 * ((row.length / 2 : Nat) : Int) - 1
def spIsEnd (T : Txt K mg) : Sp := fun vs H Q _ => ∃ (p : Addr) (row : List Int) (x : V) (S : String), vs = [.ref p, x] ∧ SkAt T H p row ∧ row.length ≤ 12 ∧ TyB K H x S ∧ Q (.bl (inB 0 (hiE row) x)) H
theorem ok_is_end (T : Txt K mg) : FnOk P w K mg base CX0 3 T.is_end.a T.is_end.fd ["skin", "thing"] (spIsEnd T) := by
  refine T.is_end.F.ok sc_is_end (fun vs H Q E h => ?_) (fun cdv A outer s H vs Q E hr h => ?_)
  · obtain ⟨p, row, x, S, rfl, _⟩ := h
    rfl
  · obtain ⟨p, row, x, S, rfl, ⟨dx, r, q, h1, h2, h3⟩, hl, t, k⟩ := h
    refine ⟨_, (pss_one (ps_ret (pe_call (ok_is_within T) (hr.mono (by decide)) (by rfl) T.is_within.g T.is_within.k T.is_within.b .nil pass0 (pa_cons (pv 1) (pa_cons pe_int (pa_cons (pe_op op_sub (pe_op op_mul pe_int (pe_fld (pv 0) rfl)) pe_int) pa_nil)))))), ?_⟩
    refine ⟨x, rfl, _, rfl, p, T.Skin.C, dx, _, _, rfl, h1, T.Skin.c, nBands T, skF_bands .., _, _, rfl, rfl, .inl ⟨by decide, by decide⟩, _, _, rfl, rfl, ?_⟩
    exact ⟨x, 0, hiE row, S, rfl, t, k⟩
inductive WV (K : PySem.W.Frag) (m : Int) (row : List Int) (H : Hp) : V → Bool → Prop where
  | tup {p : Addr} {xs : List V} (h : SqT K H p xs) (n : xs.length < 1000) (ty : ∀ y ∈ xs, ∃ S, TyB K H y S) : WV K m row H (.ref p) (decide ((xs.length : Int) ≤ m) && xs.all (inB 0 (hiE row)))
  | non {x : V} {S : String} (h : TyB K H x S) (n : decide (S = "tuple") = false) : WV K m row H x false
theorem WV.same {m : Int} {row : List Int} {H H' : Hp} {x : V} {b : Bool} (h : WV K m row H x b) (s : Same H H') : WV K m row H' x b := by
  cases h with
  | tup h n ty => exact .tup (same_seqT s h) n fun y hy => (ty y hy).elim fun S t => ⟨S, TyB.same t s⟩
  | non h n => exact .non (TyB.same h s) n
def spAny (T : Txt K mg) : Sp := fun vs H Q _ => ∃ (p : Addr) (row : List Int) (t : Addr) (xs : List V), vs = [.ref p, .ref t] ∧ SkAt T H p row ∧ row.length ≤ 12 ∧ SqT K H t xs ∧ xs.length < 1000 ∧ (∀ y ∈ xs, ∃ S, TyB K H y S) ∧ ∀ H', Same H H' → Q (.bl (xs.all (inB 0 (hiE row)))) H'
theorem ok_is_any_word (T : Txt K mg) : FnOk P w K mg base CX0 4 T.is_any_word.a T.is_any_word.fd ["skin", "thing"] (spAny T) := by
  refine T.is_any_word.F.ok sc_is_any_word (fun vs H Q E h => ?_) (fun cdv A outer s H vs Q E hr h => ?_)
  · obtain ⟨p, row, t, xs, rfl, _⟩ := h
    rfl
  · obtain ⟨p, row, t, xs, rfl, hs, hl, h, n, ty, k⟩ := h
    have nd := sc_is_any_word.nd
    refine ⟨_, (pss_one (ps_ret (pe_and (pe_call (ok_is_tuple T) (hr.mono (by decide)) (by rfl) T.is_tuple.g T.is_tuple.k T.is_tuple.b .nil pass0 (pa_cons (pv 1) pa_nil)) (pe_one (pe_callB (cr_all rfl) (by rfl) T.zall (by decide +kernel) (pa_cons (pe_lc (own := [("letter", 2)]) (g := gName 2) rfl nd (pi_tup (pv 1)) (blkOk_by (own := [("letter", 2)]) (N := N_is_any_word) (sc := defScope s_is_any_word) (by decide +kernel)) (fun _ _ _ _ _ => pg_name (i := 2) nd rfl (Or.inl rfl)) (fun _ _ _ _ _ => pts_nil) (fun _ _ _ _ _ => (pe_call (ok_is_end T) (hr.mono (by decide)) (by rfl) T.is_end.g T.is_end.k T.is_end.b .nil pass0 (pa_cons (pv 0) (pa_cons (pv 2) pa_nil))))) pa_nil)))))), ?_⟩
    refine ⟨_, rfl, _, _, rfl, .tup h, _, rfl, iteT ?_⟩
    refine ⟨_, rfl, t, rfl, ⟨_, h⟩, fun D1 hD1 => lc_tup (K := K) (a := t) (xs := xs) (fun i H' => H' D1 = some (.lst (((xs.take i).map (inB 0 (hiE row))).map V.bl)) ∧ Same H H')
      ⟨upd_same, same_new hD1⟩ (fun i H' _ z => same_seqT z.2 h) ?_ ?_⟩
    · rintro i y H' hi ⟨h1, s2⟩
      have hil : i < xs.length := (List.getElem?_eq_some_iff.mp hi).1
      obtain ⟨S, ty'⟩ := ty y (List.mem_of_getElem? hi)
      refine ⟨rfl, yes_t ?_⟩
      refine ⟨_, rfl, _, rfl, p, row, y, S, rfl, hs.same s2, hl, TyB.same ty' s2, ?_⟩
      refine ⟨_, h1, ?_, ?_⟩
      · rw [List.length_map, List.length_map, List.length_take]
        exact small1000 (by omega)
      · refine ⟨?_, fun b o hb => ?_⟩
        · rw [upd_same, List.take_add_one, hi, List.map_append, List.map_append]
          rfl
        · rw [upd_ne (ne_of_none hb hD1)]
          exact s2 b o hb
    · rintro H' ⟨h1, s2⟩
      have e2 : xs.take xs.length = xs := List.take_length
      rw [e2] at h1
      refine ⟨D1, _, rfl, SqL.of h1, ?_⟩
      have e3 : (xs.map (inB 0 (hiE row))).all id = xs.all (inB 0 (hiE row)) := by rw [List.all_map]; rfl
      rw [e3]
      exact k H' s2
def spHas (T : Txt K mg) : Sp := fun vs H Q _ => ∃ (p : Addr) (row : List Int) (x : V) (m : Int) (b : Bool), vs = [.ref p, x, .int m] ∧ SkAt T H p row ∧ row.length ≤ 12 ∧ WV K m row H x b ∧ ∀ H', Same H H' → Q (.bl b) H'
theorem ok_has_letters (T : Txt K mg) : FnOk P w K mg base CX0 5 T.has_letters.a T.has_letters.fd ["skin", "thing", "most"] (spHas T) := by
  refine T.has_letters.F.ok sc_has_letters (fun vs H Q E h => ?_) (fun cdv A outer s H vs Q E hr h => ?_)
  · obtain ⟨p, row, x, m, b, rfl, _⟩ := h
    rfl
  · obtain ⟨p, row, x, m, b, rfl, hs, hl, hv, k⟩ := h
    have nd := sc_has_letters.nd
    refine ⟨_, (pss_one (ps_ret (pe_and (pe_call (ok_is_tuple T) (hr.mono (by decide)) (by rfl) T.is_tuple.g T.is_tuple.k T.is_tuple.b .nil pass0 (pa_cons (pv 1) pa_nil)) (pe_and (pe_cmpR op_le (pe_callB call_len_seq (by rfl) T.zlen (by decide +kernel) (pa_cons (pv 1) pa_nil)) (pv 2) (nomark _)) (pe_one (pe_call (ok_is_any_word T) (hr.mono (by decide)) (by rfl) T.is_any_word.g T.is_any_word.k T.is_any_word.b .nil pass0 (pa_cons (pv 0) (pa_cons (pv 1) pa_nil)))))))), ?_⟩
    cases hv with
    | non h n => 
      refine ⟨_, rfl, _, _, rfl, h, _, rfl, ?_⟩
      rw [n]
      exact iteF (k _ fun _ _ z => z)
    | @tup t xs h n ty =>
      refine ⟨_, rfl, _, _, rfl, .tup h, _, rfl, iteT ?_⟩
      refine ⟨_, rfl, t, _, rfl, .inr h, _, rfl, _, _, rfl, rfl, _, rfl, ?_⟩
      refine ite2 (fun c => ?_) (fun c => ?_)
      · rw [c, Bool.true_and] at k
        exact ⟨_, rfl, _, rfl, p, row, t, xs, rfl, hs, hl, h, n, ty, k⟩
      · have c' : decide ((xs.length : Int) ≤ m) = false := by simpa using c
        rw [c', Bool.false_and] at k
        exact k _ fun _ _ z => z
end
end Tt
set_option maxRecDepth 100000
set_option maxHeartbeats 4000000
namespace Tt
open PySem L2
section
variable {P : Program} {w : World} {K : PySem.W.Frag} {mg : Str → Option Value} {base : Heap}
def SkOr (T : Txt K mg) (v : V) (H : Hp) (E : XK) (k : Addr → List Int → Prop) : Prop := (SkV T H v false ∧ SkErr T H E) ∨ ∃ (p : Addr) (row : List Int), v = .ref p ∧ SkAt T H p row ∧ (row.length ≤ 12 ∧ row.length % 2 = 0) ∧ k p row
theorem word_wv {m : Int} {row : List Int} {H : Hp} {t : Addr} {ns : List Int} (hl : row.length % 2 = 0) (h : SqT K H t (ns.map V.int)) (n2 : ns.length ≤ 500) (hm : (ns.length : Int) ≤ m) (hb : Lt (row.length : Int) ns) : WV K m row H (.ref t) true := by
  have e : (decide (((ns.map V.int).length : Int) ≤ m) && (ns.map V.int).all (inB 0 (hiE row))) = true := by
    rw [List.length_map, decide_eq_true hm, Bool.true_and, List.all_eq_true]
    intro y hy
    obtain ⟨x, hx, rfl⟩ := List.mem_map.mp hy
    obtain ⟨h0, h1⟩ := hb x hx
    show (decide (0 ≤ x) && decide (x ≤ hiE row)) = true
    unfold hiE
    rw [Bool.and_eq_true]
    exact ⟨decide_eq_true h0, decide_eq_true (by omega)⟩
  rw [← e]
  refine .tup h (by rw [List.length_map]; omega) fun y hy => ?_
  obtain ⟨x, _, rfl⟩ := List.mem_map.mp hy
  exact ⟨_, .int x⟩
end
end Tt
set_option maxRecDepth 100000
set_option maxHeartbeats 4000000
namespace Tt
open PySem L2
section
variable {P : Program} {w : World} {K : PySem.W.Frag} {mg : Str → Option Value} {base : Heap}
theorem slT_gen {xs : List V} {a : Addr} {H : Hp} {Q : VK} {n : Nat} (h : SqT K H a xs) (q : ∀ b H', Same H H' → SqT K H' b (xs.take n) → Q (.ref b) H') : rSlA K (.ref a) none (some (n : Int)) H Q := by
  by_cases hn : n < xs.length
  · refine slT_to hn h fun p hp => q p _ (same_new hp) (SqT.of upd_same)
  · refine ⟨a, xs, rfl, h, fun _ => q a H (fun _ _ z => z) ?_, fun z => absurd ⟨rfl, ?_⟩ z⟩
    · rw [List.take_of_length_le (by omega)]
      exact h
    · rw [HT.sIx_nat]
      omega
theorem catA_gen {xs ys : List V} {a b : Addr} {H : Hp} {Q : VK} (ha : SqT K H a xs) (hb : SqT K H b ys) (hz : xs.length + ys.length ≤ sizeLine) (q : ∀ c H', Same H H' → SqT K H' c (xs ++ ys) → Q (.ref c) H') : rCatA K (.ref a) (.ref b) H Q := by
  refine ⟨a, b, xs, ys, rfl, rfl, ha, hb, hz, fun z => ?_, fun _ z => ?_, fun _ _ p hp => q p _ (same_new hp) (SqT.of upd_same)⟩
  · subst z
    exact q b H (fun _ _ z => z) hb
  · subst z
    exact q a H (fun _ _ z => z) (by rw [List.append_nil]; exact ha)
theorem slT_genD {xs : List V} {a : Addr} {H : Hp} {Q : VK} {n : Nat} (h : SqT K H a xs) (q : ∀ b H', Same H H' → SqT K H' b (xs.drop n) → Q (.ref b) H') : rSlA K (.ref a) (some (n : Int)) none H Q := by
  by_cases hx : 0 < xs.length
  · refine slT_from hx h (fun z => ?_) fun _ p hp => q p _ (same_new hp) (SqT.of upd_same)
    subst z
    exact q a H (fun _ _ z => z) (by rw [List.drop_zero]; exact h)
  · have e : xs = [] := List.length_eq_zero_iff.mp (by omega)
    subst e
    refine ⟨a, [], rfl, h, fun _ => q a H (fun _ _ z => z) (by rw [List.drop_nil]; exact h), fun z => absurd ⟨by rw [HT.sIx_nat]; simp, rfl⟩ z⟩
end
end Tt
set_option maxHeartbeats 1000000
namespace Wd
def strip (w : List Int) : List Int := if h : 2 ≤ w.length ∧ w.head? = w.getLast?.map mate then strip (w.drop 1).dropLast else w
termination_by w.length
decreasing_by
  rw [List.length_dropLast, List.length_drop]
  omega
theorem strip_yes {a : Int} {m : List Int} : strip (mate a :: (m ++ [a])) = strip m := by
  rw [strip]
  rw [dif_pos]
  · simp
  · refine ⟨by simp, ?_⟩
    have : (mate a :: (m ++ [a])).getLast? = some a := by simp [List.getLast?_cons]
    rw [this]
    rfl
theorem strip_no {w : List Int} (h : w.head? ≠ w.getLast?.map mate) : strip w = w := by
  rw [strip, dif_neg]
  exact fun z => h z.2
theorem strip_short {w : List Int} (h : w.length < 2) : strip w = w := by
  rw [strip, dif_neg]
  exact fun z => by omega
def core (w : List Int) : List Int := strip (freed w)
def Turn (a b : List Int) : Prop := ∃ u v, a = u ++ v ∧ b = v ++ u
theorem Turn.refl (a : List Int) : Turn a a := ⟨[], a, rfl, by simp⟩
theorem Turn.symm {a b : List Int} (h : Turn a b) : Turn b a := by
  obtain ⟨u, v, h1, h2⟩ := h
  exact ⟨v, u, h2, h1⟩
theorem app_split {u v p q : List Int} (h : u ++ v = p ++ q) : (∃ m, p = u ++ m ∧ v = m ++ q) ∨ ∃ m, u = p ++ m ∧ q = m ++ v := by
  rcases List.append_eq_append_iff.mp h with ⟨m, h1, h2⟩ | ⟨m, h1, h2⟩
  · exact .inl ⟨m, h1, h2⟩
  · exact .inr ⟨m, h1, h2⟩
theorem Turn.trans {a b c : List Int} (h : Turn a b) (k : Turn b c) : Turn a c := by
  obtain ⟨u, v, rfl, rfl⟩ := h
  obtain ⟨p, q, h1, rfl⟩ := k
  rcases app_split h1 with ⟨m, rfl, rfl⟩ | ⟨m, rfl, rfl⟩
  · exact ⟨m, q ++ v, by simp, by simp⟩
  · exact ⟨u ++ p, m, by simp, by simp⟩
theorem freed_head {a : Int} {r : List Int} (h : Rd r) : freed (a :: r) = if r.head? = some (mate a) then r.drop 1 else a :: r := by
  split
  · rename_i hh
    cases r with
    | nil => simp at hh
    | cons b r' =>
      have hb : b = mate a := by simpa using hh
      subst hb
      have h1 := freed_cut [] r' (mate a)
      rw [mate_mate] at h1
      simp only [List.nil_append] at h1
      rw [h1]
      simp only [List.drop_succ_cons, List.drop_zero]
      refine freed_of_rd r' fun i x y hx hy => h (i + 1) x y ?_ ?_
      · simpa using hx
      · simpa using hy
  · rename_i hh
    refine freed_of_rd _ fun i x y hx hy => ?_
    cases i with
    | zero =>
      have ex : a = x := by simpa using hx
      subst ex
      cases r with
      | nil => simp at hy
      | cons b r' =>
        have ey : b = y := by simpa using hy
        subst ey
        intro z
        exact hh (by simp [z])
    | succ i => exact h i x y (by simpa using hx) (by simpa using hy)
theorem last_snoc {r : List Int} {b : Int} (h : r.getLast? = some b) : r.dropLast ++ [b] = r := snoc_of_last h
theorem rd_sub {u m v : List Int} (h : Rd (u ++ m ++ v)) : Rd m := fun i x y hx hy => by
  refine h (u.length + i) x y ?_ ?_
  · rw [List.append_assoc, List.getElem?_append_right (by omega)]
    have e : u.length + i - u.length = i := by omega
    rw [e, List.getElem?_append_left (List.getElem?_eq_some_iff.mp hx).1]
    exact hx
  · rw [List.append_assoc, List.getElem?_append_right (by omega)]
    have e : u.length + i + 1 - u.length = i + 1 := by omega
    rw [e, List.getElem?_append_left (List.getElem?_eq_some_iff.mp hy).1]
    exact hy
theorem rd_two {u v : List Int} {x y : Int} (h : Rd (u ++ [x, y] ++ v)) : y ≠ mate x := rd_sub h 0 x y rfl rfl
theorem core_step (a : Int) (w : List Int) : Turn (core (a :: w)) (core (w ++ [a])) := by
  have e1 : freed (a :: w) = freed (a :: freed w) := by
    have h := freed_app [a] w
    have h2 := freed_app [a] (freed w)
    rw [freed_freed] at h2
    exact h.trans h2.symm
  have hr : Rd (freed w) := rd_freed w
  unfold core
  rw [freed_snoc, e1, freed_head hr]
  generalize freed w = r at hr
  unfold push
  by_cases hd : r.head? = some (mate a) <;> by_cases tl : r.getLast? = some (mate a)
  · rw [if_pos hd, if_pos tl]
    cases r with
    | nil => exact Turn.refl _
    | cons b r1 =>
      have hb : b = mate a := by simpa using hd
      subst hb
      rw [List.drop_succ_cons, List.drop_zero]
      by_cases h1 : r1 = []
      · subst h1
        exact Turn.refl _
      · have t1 : r1.getLast? = some (mate a) := by
          rw [List.getLast?_cons] at tl
          cases h2 : r1.getLast? with
          | none => exact absurd (List.getLast?_eq_none_iff.mp h2) h1
          | some z =>
            rw [h2] at tl
            exact tl
        have e := last_snoc t1
        generalize r1.dropLast = m at e
        subst e
        have e2 : (mate a :: (m ++ [mate a])).dropLast = mate a :: m := by
          rw [← List.cons_append, List.dropLast_concat]
        rw [e2]
        by_cases h2 : m = []
        · subst h2
          exact Turn.refl _
        · have n1 : (m ++ [mate a]).head? ≠ (m ++ [mate a]).getLast?.map mate := by
            rw [List.getLast?_append]
            cases m with
            | nil => exact absurd rfl h2
            | cons x m' =>
              have := rd_two (u := []) (v := m' ++ [mate a]) (x := mate a) (y := x) (by simpa using hr)
              simp [mate_mate] at this ⊢
              exact this
          have n2 : (mate a :: m).head? ≠ (mate a :: m).getLast?.map mate := by
            cases h3 : m.getLast? with
            | none => exact absurd (List.getLast?_eq_none_iff.mp h3) h2
            | some z =>
              rw [List.getLast?_cons, h3]
              have e3 := last_snoc h3
              have := rd_two (u := mate a :: m.dropLast) (v := []) (x := z) (y := mate a) (by
                have e4 : mate a :: m.dropLast ++ [z, mate a] ++ [] = mate a :: (m ++ [mate a]) := by
                  rw [← e3]
                  simp
                rw [e4]
                exact hr)
              simp only [List.head?_cons, Option.getD_some, Option.map_some]
              exact fun z' => this (Option.some.inj z')
          rw [strip_no n1, strip_no n2]
          exact ⟨m, [mate a], rfl, rfl⟩
  · rw [if_pos hd, if_neg tl]
    cases r with
    | nil => simp at hd
    | cons b r1 =>
      have hb : b = mate a := by simpa using hd
      subst hb
      rw [List.drop_succ_cons, List.drop_zero, List.cons_append, strip_yes]
      exact Turn.refl _
  · rw [if_neg hd, if_pos tl]
    have e := last_snoc tl
    generalize r.dropLast = m at e
    subst e
    have h := strip_yes (a := mate a) (m := m)
    rw [mate_mate] at h
    rw [h]
    exact Turn.refl _
  · rw [if_neg hd, if_neg tl]
    cases r with
    | nil => exact Turn.refl _
    | cons b r1 =>
      have n1 : (a :: b :: r1).head? ≠ (a :: b :: r1).getLast?.map mate := by
        rw [List.getLast?_cons]
        cases h3 : (b :: r1).getLast? with
        | none => exact absurd (List.getLast?_eq_none_iff.mp h3) (by simp)
        | some z =>
          rw [h3] at tl
          simp only [List.head?_cons, Option.getD_some, Option.map_some]
          exact fun q => tl (by rw [Option.some.inj q, mate_mate])
      have n2 : (b :: r1 ++ [a]).head? ≠ (b :: r1 ++ [a]).getLast?.map mate := by
        rw [List.getLast?_append]
        simp at hd ⊢
        exact hd
      rw [strip_no n1, strip_no n2]
      exact ⟨[a], b :: r1, rfl, rfl⟩
theorem core_turn : ∀ u w : List Int, Turn (core (u ++ w)) (core (w ++ u))
  | [], w => by
    rw [List.append_nil]
    exact Turn.refl _
  | a :: u, w => by
    have h1 := core_step a (u ++ w)
    have h2 := core_turn u (w ++ [a])
    have e1 : (u ++ w) ++ [a] = u ++ (w ++ [a]) := by simp
    have e2 : (w ++ [a]) ++ u = w ++ (a :: u) := by simp
    rw [e1] at h1
    rw [e2] at h2
    exact h1.trans h2
theorem undo_undo (u : List Int) : undo (undo u) = u := by
  unfold undo
  rw [← List.map_reverse, List.reverse_reverse, List.map_map]
  have : mate ∘ mate = id := by
    funext x
    exact mate_mate x
  rw [this, List.map_id]
theorem core_freed {a b : List Int} (h : freed a = freed b) : core a = core b := by
  unfold core
  rw [h]
theorem core_conj (u w : List Int) : Turn (core (u ++ w ++ undo u)) (core w) := by
  have h := core_turn u (w ++ undo u)
  rw [← List.append_assoc] at h
  refine h.trans ?_
  have e : freed (w ++ undo u ++ u) = freed w := by
    rw [List.append_assoc, freed_app]
    have h2 := freed_undo (undo u)
    rw [undo_undo] at h2
    rw [h2, List.append_nil, freed_freed]
  rw [core_freed e]
  exact Turn.refl _
theorem core_pair (u v : List Int) (b : Int) : core (u ++ b :: mate b :: v) = core (u ++ v) := by
  refine core_freed ?_
  have h := freed_cut u v (mate b)
  rw [mate_mate] at h
  exact h
def mid (w : List Int) (c : Nat) : List Int := (w.drop c).take (w.length - 2 * c)
theorem mid_zero (w : List Int) : mid w 0 = w := by
  unfold mid
  rw [List.drop_zero, Nat.mul_zero, Nat.sub_zero, List.take_length]
theorem mid_step {w : List Int} {c : Nat} {a b : Int} (h : 2 * c + 2 ≤ w.length) (ha : w[c]? = some a) (hb : w[w.length - 1 - c]? = some b) : mid w c = a :: (mid w (c + 1) ++ [b]) := by
  unfold mid
  have e1 : w.drop c = a :: w.drop (c + 1) := by
    have hc : c < w.length := by omega
    rw [List.drop_eq_getElem_cons hc]
    rw [List.getElem?_eq_getElem hc] at ha
    rw [Option.some.inj ha]
  have e2 : w.length - 2 * c = (w.length - 2 * (c + 1) + 1) + 1 := by omega
  rw [e1, e2, List.take_succ_cons, List.take_add_one]
  have e3 : (w.drop (c + 1))[w.length - 2 * (c + 1)]? = some b := by
    rw [List.getElem?_drop]
    have : c + 1 + (w.length - 2 * (c + 1)) = w.length - 1 - c := by omega
    rw [this]
    exact hb
  rw [e3]
  rfl
theorem mid_yes {w : List Int} {c : Nat} {a b : Int} (h : 2 * c + 2 ≤ w.length) (ha : w[c]? = some a) (hb : w[w.length - 1 - c]? = some b) (e : a = mate b) : strip (mid w c) = strip (mid w (c + 1)) := by
  rw [mid_step h ha hb, e, strip_yes]
theorem mid_no {w : List Int} {c : Nat} {a b : Int} (h : 2 * c + 2 ≤ w.length) (ha : w[c]? = some a) (hb : w[w.length - 1 - c]? = some b) (e : a ≠ mate b) : strip (mid w c) = mid w c := by
  refine strip_no ?_
  rw [mid_step h ha hb]
  have : (a :: (mid w (c + 1) ++ [b])).getLast? = some b := by simp [List.getLast?_cons]
  rw [this]
  simpa using e
theorem mid_short {w : List Int} {c : Nat} (h : w.length < 2 * c + 2) : strip (mid w c) = mid w c := by
  refine strip_short ?_
  unfold mid
  rw [List.length_take, List.length_drop]
  omega
theorem mid_mem {w : List Int} {c : Nat} {x : Int} (h : x ∈ mid w c) : x ∈ w := List.mem_of_mem_drop (List.mem_of_mem_take h)
theorem mid_len (w : List Int) (c : Nat) : (mid w c).length ≤ w.length := by
  unfold mid
  rw [List.length_take, List.length_drop]
  omega
end Wd
set_option maxRecDepth 100000
set_option maxHeartbeats 4000000
namespace Tt
open PySem L2
section
variable {P : Program} {w : World} {K : PySem.W.Frag} {mg : Str → Option Value} {base : Heap}
def turnAt (ns : List Int) (i : Nat) : List Int := ns.drop i ++ ns.take i
def turns (ns : List Int) : List (List Int) := (List.range ns.length).map (turnAt ns)
def minR (r0 : List Int) (rs : List (List Int)) : List Int := rs.foldl (fun a y => if PySem.W.dataLt (rowD y) (rowD a) then y else a) r0
theorem minR_D : ∀ (rs : List (List Int)) (r0 : List Int), PySem.W.minD (rowD r0) (rs.map rowD) = rowD (minR r0 rs)
  | [], _ => rfl
  | y :: rs, r0 => by
    show PySem.W.minD (if PySem.W.dataLt (rowD y) (rowD r0) then rowD y else rowD r0) (rs.map rowD) = rowD (minR (if PySem.W.dataLt (rowD y) (rowD r0) then y else r0) rs)
    by_cases h : PySem.W.dataLt (rowD y) (rowD r0) = true
    · rw [if_pos h, if_pos h]
      exact minR_D rs y
    · rw [if_neg h, if_neg h]
      exact minR_D rs r0
def leastT (ns : List Int) : List Int := match turns ns with
  | [] => []
  | r0 :: rs => minR r0 rs
theorem turns_len (ns : List Int) : (turns ns).length = ns.length := by unfold turns; rw [List.length_map, List.length_range]
theorem turns_get {ns : List Int} {i : Nat} (h : i < ns.length) : (turns ns)[i]? = some (turnAt ns i) := by
  unfold turns
  rw [List.getElem?_map, List.getElem?_range h]
  rfl
theorem pair_snoc {α β : Type} {F : α → β → Prop} : ∀ {l : List α} {k : List β} {a : α} {b : β}, Paired F l k → F a b → Paired F (l ++ [a]) (k ++ [b])
  | _, _, _, _, .nil, r => .cons r .nil
  | _, _, _, _, .cons r t, q => .cons r (pair_snoc t q)
theorem pair_mono {α β : Type} {F G : α → β → Prop} (f : ∀ a b, F a b → G a b) : ∀ {l : List α} {k : List β}, Paired F l k → Paired G l k
  | _, _, .nil => .nil
  | _, _, .cons r t => .cons (f _ _ r) (pair_mono f t)
theorem sqT_put {H : Hp} {p l : Addr} {xs ys : List V} {o : HO} (h : SqT K H p xs) (e : H l = some (.lst ys)) : SqT K (upd H l o) p xs := by
  rcases h with (h | ⟨ob, h⟩) | h
  · exact .inl (.inl (by rw [upd_ne (ne_of h e (fun z => nomatch z))]; exact h))
  · exact .inl (.inr ⟨ob, by rw [upd_ne (ne_of h e (fun z => nomatch z))]; exact h⟩)
  · exact .inr h
def spLeast (K : PySem.W.Frag) : Sp := fun vs H Q _ => ∃ (p : Addr) (ns : List Int), vs = [.ref p] ∧ SqT K H p (ns.map V.int) ∧ ns ≠ [] ∧ ns.length ≤ 400 ∧
  ∀ q H', Same H H' → SqT K H' q ((leastT ns).map V.int) → Q (.ref q) H'
end
end Tt
set_option maxRecDepth 100000
set_option maxHeartbeats 4000000
namespace Tt
open PySem L2
theorem row_lt (a b : List Int) : PySem.W.dataLt (rowD a) (rowD b) = decide (a < b) := by
  unfold rowD
  rw [PySem.W.dataLt_tuple]
  exact PySem.W.dataLt_ints a b
theorem minR_mem : ∀ (rs : List (List Int)) (r0 : List Int), minR r0 rs ∈ r0 :: rs
  | [], _ => List.mem_singleton.mpr rfl
  | y :: rs, r0 => by
    have h := minR_mem rs (if PySem.W.dataLt (rowD y) (rowD r0) then y else r0)
    show minR (if PySem.W.dataLt (rowD y) (rowD r0) then y else r0) rs ∈ _
    rcases List.mem_cons.mp h with h | h
    · rw [h]
      split
      · exact List.mem_cons_of_mem _ List.mem_cons_self
      · exact List.mem_cons_self
    · exact List.mem_cons_of_mem _ (List.mem_cons_of_mem _ h)
theorem minR_le : ∀ (rs : List (List Int)) (r0 y : List Int), y ∈ r0 :: rs → ¬ y < minR r0 rs
  | [], r0, y, h => by
    rw [List.mem_singleton.mp h]
    exact List.lt_irrefl _
  | z :: rs, r0, y, h => by
    show ¬ y < minR (if PySem.W.dataLt (rowD z) (rowD r0) then z else r0) rs
    have ih := minR_le rs (if PySem.W.dataLt (rowD z) (rowD r0) then z else r0)
    rw [row_lt] at ih ⊢
    by_cases c : z < r0
    · simp only [c, decide_true, if_true] at ih ⊢
      rcases List.mem_cons.mp h with rfl | h
      · exact fun q => ih z List.mem_cons_self (List.lt_trans c q)
      · rcases List.mem_cons.mp h with rfl | h
        · exact ih _ List.mem_cons_self
        · exact ih _ (List.mem_cons_of_mem _ h)
    · simp only [c, decide_false] at ih ⊢
      rcases List.mem_cons.mp h with rfl | h
      · exact ih _ List.mem_cons_self
      · rcases List.mem_cons.mp h with rfl | h
        · intro q
          have h1 := ih r0 List.mem_cons_self
          exact h1 (by
            rcases Classical.em (r0 < y) with k | k
            · exact List.lt_trans k q
            · have : r0 = y := List.le_antisymm (as := r0) (bs := y) (by simpa using c) (by simpa using k)
              subst this
              exact q)
        · exact ih _ (List.mem_cons_of_mem _ h)
theorem turnAt_turn {ns : List Int} (i : Nat) : Wd.Turn ns (turnAt ns i) := ⟨ns.take i, ns.drop i, (List.take_append_drop i ns).symm, rfl⟩
theorem mem_turns {ns t : List Int} (hne : ns ≠ []) : t ∈ turns ns ↔ Wd.Turn ns t := by
  constructor
  · intro h
    unfold turns at h
    obtain ⟨i, _, rfl⟩ := List.mem_map.mp h
    exact turnAt_turn i
  · rintro ⟨u, v, rfl, rfl⟩
    unfold turns
    by_cases hv : v = []
    · subst hv
      refine List.mem_map.mpr ⟨0, List.mem_range.mpr ?_, ?_⟩
      · exact List.length_pos_iff.mpr hne
      · unfold turnAt
        simp
    · refine List.mem_map.mpr ⟨u.length, List.mem_range.mpr ?_, ?_⟩
      · rw [List.length_append]
        have := List.length_pos_iff.mpr hv
        omega
      · unfold turnAt
        simp
theorem leastT_facts {ns : List Int} (hne : ns ≠ []) : leastT ns ∈ turns ns ∧ ∀ t ∈ turns ns, ¬ t < leastT ns := by
  unfold leastT
  cases ht : turns ns with
  | nil =>
    have := turns_len ns
    rw [ht] at this
    exact absurd (List.length_eq_zero_iff.mp this.symm) hne
  | cons r0 rs => exact ⟨minR_mem rs r0, fun t h => minR_le rs r0 t h⟩
theorem leastT_turn {ns : List Int} (hne : ns ≠ []) : Wd.Turn ns (leastT ns) := (mem_turns hne).mp (leastT_facts hne).1
theorem turn_nil {a b : List Int} (h : Wd.Turn a b) : a = [] ↔ b = [] := by
  obtain ⟨u, v, rfl, rfl⟩ := h
  simp [and_comm]
theorem leastT_eq {a b : List Int} (h : Wd.Turn a b) : leastT a = leastT b := by
  by_cases ha : a = []
  · have hb := (turn_nil h).mp ha
    rw [ha, hb]
  · have hb : b ≠ [] := fun z => ha ((turn_nil h).mpr z)
    obtain ⟨a1, a2⟩ := leastT_facts ha
    obtain ⟨b1, b2⟩ := leastT_facts hb
    have m1 : leastT b ∈ turns a := (mem_turns ha).mpr (h.trans ((mem_turns hb).mp b1))
    have m2 : leastT a ∈ turns b := (mem_turns hb).mpr (h.symm.trans ((mem_turns ha).mp a1))
    have l1 := a2 _ m1
    have l2 := b2 _ m2
    exact List.le_antisymm (as := leastT a) (bs := leastT b) (by simpa using l1) (by simpa using l2)
theorem turn_of_leastT {a b : List Int} (h : leastT a = leastT b) : Wd.Turn a b := by
  by_cases ha : a = [] <;> by_cases hb : b = []
  · rw [ha, hb]
    exact Wd.Turn.refl _
  · have h2 := (turn_nil (leastT_turn hb))
    rw [← h, ha] at h2
    exact absurd (h2.mpr rfl) hb
  · have h2 := (turn_nil (leastT_turn ha))
    rw [h, hb] at h2
    exact absurd (h2.mpr rfl) ha
  · have h1 := leastT_turn ha
    rw [h] at h1
    exact h1.trans (leastT_turn hb).symm
def closedT (ns : List Int) : List Int := leastT (Wd.core ns)
theorem leastT_nil : leastT [] = [] := rfl
theorem closedT_freed {a b : List Int} (h : Wd.Turn (Wd.core a) (Wd.core b)) : closedT a = closedT b := leastT_eq h
end Tt
set_option maxRecDepth 100000
set_option maxHeartbeats 4000000
namespace Tt
open PySem L2
theorem turnAt_lenL (ns : List Int) (i : Nat) : (turnAt ns i).length = ns.length := by
  unfold turnAt
  rw [List.length_append, List.length_drop, List.length_take]
  omega
theorem turnAt_mem {ns : List Int} {i : Nat} (h : i < ns.length) : turnAt ns i ∈ turns ns := List.mem_map.mpr ⟨i, List.mem_range.mpr h, rfl⟩
theorem turnAt_add {ns : List Int} {i t : Nat} (h : i + t ≤ ns.length) : turnAt (turnAt ns i) t = turnAt ns (i + t) := by
  unfold turnAt
  have e1 : (ns.drop i ++ ns.take i).drop t = ns.drop (i + t) ++ ns.take i := by
    rw [List.drop_append_of_le_length (by rw [List.length_drop]; omega), List.drop_drop]
  have e2 : (ns.drop i ++ ns.take i).take t = (ns.drop i).take t := List.take_append_of_le_length (by rw [List.length_drop]; omega)
  rw [e1, e2, List.append_assoc, ← List.take_add]
theorem turnAt_wrap {ns : List Int} {i t : Nat} (hi : i ≤ ns.length) (ht : t ≤ ns.length) (h : ns.length ≤ i + t) : turnAt (turnAt ns i) t = turnAt ns (i + t - ns.length) := by
  unfold turnAt
  have l1 : (ns.drop i).length = ns.length - i := List.length_drop
  have e1 : (ns.drop i ++ ns.take i).drop t = (ns.take i).drop (i + t - ns.length) := by
    rw [List.drop_append, List.drop_eq_nil_of_le (by omega), List.nil_append, l1]
    congr 1
    omega
  have e2 : (ns.drop i ++ ns.take i).take t = ns.drop i ++ (ns.take i).take (i + t - ns.length) := by
    rw [List.take_append, List.take_of_length_le (by omega), l1]
    congr 2
    omega
  have e3 : (ns.take i).take (i + t - ns.length) = ns.take (i + t - ns.length) := by
    rw [List.take_take]
    congr 1
    omega
  have e4 : (ns.take i).drop (i + t - ns.length) ++ ns.drop i = ns.drop (i + t - ns.length) := by
    have h2 : ns.drop (i + t - ns.length) = (ns.take i ++ ns.drop i).drop (i + t - ns.length) := by rw [List.take_append_drop]
    rw [h2, List.drop_append_of_le_length (by rw [List.length_take]; omega)]
  rw [e1, e2, e3, ← List.append_assoc, e4]
theorem turnAt_turn_mem {ns : List Int} {i t : Nat} (hi : i < ns.length) (ht : t < ns.length) : turnAt (turnAt ns i) t ∈ turns ns := by
  by_cases h : i + t < ns.length
  · rw [turnAt_add (by omega)]
    exact turnAt_mem h
  · rw [turnAt_wrap (by omega) (by omega) (by omega)]
    exact turnAt_mem (by omega)
theorem turnAt_get {ns : List Int} {i k : Nat} (hi : i < ns.length) (hk : k < ns.length) : (turnAt ns i)[k]? = ns[(i + k) % ns.length]? := by
  unfold turnAt
  by_cases h : i + k < ns.length
  · rw [List.getElem?_append_left (by rw [List.length_drop]; omega), List.getElem?_drop, Nat.mod_eq_of_lt h]
  · rw [List.getElem?_append_right (by rw [List.length_drop]; omega), List.length_drop, List.getElem?_take, if_pos (by omega)]
    have e : (i + k) % ns.length = i + k - ns.length := by
      rw [Nat.mod_eq_sub_mod (by omega), Nat.mod_eq_of_lt (by omega)]
    rw [e]
    congr 1
    omega
theorem lt_ahead {x y : Int} (h : y < x) : ∀ (p a b : List Int), p ++ y :: b < p ++ x :: a
  | [], _, _ => List.cons_lt_cons_iff.mpr (.inl h)
  | c :: p, a, b => List.cons_lt_cons_iff.mpr (.inr ⟨rfl, lt_ahead h p a b⟩)
theorem cut_at {A : List Int} {k : Nat} {x : Int} (h : A[k]? = some x) : A = A.take k ++ x :: A.drop (k + 1) := by
  obtain ⟨hk, e⟩ := List.getElem?_eq_some_iff.mp h
  rw [← e, ← List.drop_eq_getElem_cons hk, List.take_append_drop]
theorem turn_lt {A B : List Int} {k t : Nat} {x y : Int} (ht : t ≤ k) (hp : A.take k = B.take k) (hx : A[k]? = some x) (hy : B[k]? = some y) (h : y < x) : turnAt B t < turnAt A t := by
  have ka := (List.getElem?_eq_some_iff.mp hx).1
  have kb := (List.getElem?_eq_some_iff.mp hy).1
  have eA := cut_at hx
  have eB := cut_at hy
  rw [← hp] at eB
  have lp : (A.take k).length = k := by rw [List.length_take]; omega
  generalize A.take k = p at eA eB lp
  generalize A.drop (k + 1) = a at eA
  generalize B.drop (k + 1) = b at eB
  subst eA
  subst eB
  unfold turnAt
  rw [List.drop_append_of_le_length (by omega), List.drop_append_of_le_length (by omega), List.take_append_of_le_length (by omega), List.take_append_of_le_length (by omega), List.append_assoc, List.append_assoc]
  exact lt_ahead h _ _ _
def NoL (ns : List Int) (p : Nat) : Prop := ∃ t ∈ turns ns, t < turnAt ns p
theorem noL_of {ns : List Int} {i j k t : Nat} {x y : Int} (hi : i + t < ns.length) (hj : j < ns.length) (hk : k < ns.length) (ht : t ≤ k) (hp : (turnAt ns i).take k = (turnAt ns j).take k)
    (hx : (turnAt ns i)[k]? = some x) (hy : (turnAt ns j)[k]? = some y) (h : y < x) : NoL ns (i + t) := by
  refine ⟨_, turnAt_turn_mem hj (t := t) (by omega), ?_⟩
  rw [← turnAt_add (by omega)]
  exact turn_lt ht hp hx hy h
def Beaten (ns : List Int) (i j : Nat) : Prop := i ≠ j ∧ ∀ p, p < ns.length → p < max i j → p ≠ min i j → NoL ns p
theorem Beaten.symm {ns : List Int} {i j : Nat} (h : Beaten ns i j) : Beaten ns j i := ⟨fun e => h.1 e.symm, fun p h1 h2 h3 => h.2 p h1 (by omega) (by omega)⟩
theorem Beaten.step {ns : List Int} {i j k : Nat} (h : Beaten ns i j) (n : ∀ t, t ≤ k → i + t < ns.length → NoL ns (i + t)) : (i + k + 1 ≠ j → Beaten ns (i + k + 1) j) ∧ (i + k + 1 = j → Beaten ns j (j + 1)) := by
  have own : ∀ p, p < ns.length → i ≤ p → p ≤ i + k → NoL ns p := fun p h1 h2 h3 => by
    have := n (p - i) (by omega) (by omega)
    have e : i + (p - i) = p := by omega
    rw [e] at this
    exact this
  have hh := h.1
  refine ⟨fun e => ⟨e, fun p h1 h2 h3 => ?_⟩, fun e => ⟨by omega, fun p h1 h2 h3 => ?_⟩⟩
  · by_cases c : i ≤ p ∧ p ≤ i + k
    · exact own p h1 c.1 c.2
    · exact h.2 p h1 (by omega) (by omega)
  · by_cases c : i ≤ p ∧ p ≤ i + k
    · exact own p h1 c.1 c.2
    · exact h.2 p h1 (by omega) (by omega)
theorem least_far {ns L : List Int} {i j : Nat} (b : Beaten ns i j) (hf : ns.length ≤ max i j) (hL : L ∈ turns ns) (hm : ∀ t ∈ turns ns, ¬ t < L) : turnAt ns (min i j) = L ∧ min i j < ns.length := by
  obtain ⟨p, hp, rfl⟩ := List.mem_map.mp hL
  have hp' := List.mem_range.mp hp
  have e : p = min i j := Classical.byContradiction fun z => by
    obtain ⟨t, h1, h2⟩ := b.2 p hp' (by omega) z
    exact hm t h1 h2
  exact ⟨by rw [e], by omega⟩
theorem least_like {ns L : List Int} {i j : Nat} (b : Beaten ns i j) (hi : i < ns.length) (hj : j < ns.length) (ha : turnAt ns i = turnAt ns j) (hL : L ∈ turns ns) (hm : ∀ t ∈ turns ns, ¬ t < L) : turnAt ns (min i j) = L := by
  have hh := b.1
  have main : ∀ p, p < ns.length → turnAt ns p = L → turnAt ns (min i j) = L := fun p => by
    induction p using Nat.strongRecOn with
    | ind p ih =>
      intro h1 h2
      by_cases c : p < max i j
      · have e : p = min i j := Classical.byContradiction fun z => by
          obtain ⟨t, q1, q2⟩ := b.2 p h1 c z
          rw [h2] at q2
          exact hm t q1 q2
        rw [← e]
        exact h2
      · have e1 : turnAt ns (max i j) = turnAt ns (min i j) := by
          by_cases c2 : i < j
          · rw [Nat.max_eq_right (by omega), Nat.min_eq_left (by omega), ha]
          · rw [Nat.max_eq_left (by omega), Nat.min_eq_right (by omega), ha]
        have e2 := turnAt_add (ns := ns) (i := max i j) (t := p - max i j) (by omega)
        have e3 : max i j + (p - max i j) = p := by omega
        rw [e3, e1, turnAt_add (by omega)] at e2
        exact ih (min i j + (p - max i j)) (by omega) (by omega) (e2.trans h2)
  obtain ⟨p, hp, e⟩ := List.mem_map.mp hL
  exact main p (List.mem_range.mp hp) e
theorem take_more {A B : List Int} {k : Nat} {x : Int} (hp : A.take k = B.take k) (hx : A[k]? = some x) (hy : B[k]? = some x) : A.take (k + 1) = B.take (k + 1) := by
  rw [List.take_add_one, List.take_add_one, hp, hx, hy]
theorem leastT_far {ns : List Int} {i j : Nat} (hne : ns ≠ []) (b : Beaten ns i j) (hf : ns.length ≤ max i j) : turnAt ns (min i j) = leastT ns ∧ min i j < ns.length :=
  least_far b hf (leastT_facts hne).1 (leastT_facts hne).2
theorem leastT_like {ns : List Int} {i j : Nat} (hne : ns ≠ []) (b : Beaten ns i j) (hi : i < ns.length) (hj : j < ns.length) (ha : (turnAt ns i).take ns.length = (turnAt ns j).take ns.length) : turnAt ns (min i j) = leastT ns := by
  rw [List.take_of_length_le (by rw [turnAt_lenL]; exact Nat.le_refl _), List.take_of_length_le (by rw [turnAt_lenL]; exact Nat.le_refl _)] at ha
  exact least_like b hi hj ha (leastT_facts hne).1 (leastT_facts hne).2
theorem turn_letter {ns : List Int} {i k : Nat} (hi : i < ns.length) (hk : k < ns.length) : ∃ x, ns[(i + k) % ns.length]? = some x ∧ (turnAt ns i)[k]? = some x := by
  have h : (i + k) % ns.length < ns.length := Nat.mod_lt _ (by omega)
  refine ⟨_, List.getElem?_eq_getElem h, ?_⟩
  rw [turnAt_get hi hk]
  exact List.getElem?_eq_getElem h
theorem beaten_zero (ns : List Int) : Beaten ns 0 1 := ⟨by omega, fun p _ h2 h3 => absurd h2 (by omega)⟩
end Tt
set_option maxRecDepth 100000
set_option maxHeartbeats 4000000
namespace Tt
open PySem L2
section
variable {P : Program} {w : World} {K : PySem.W.Frag} {mg : Str → Option Value} {base : Heap}
theorem while_by3 {c : TT} {tb : TS} {D : Ends} {σ : L2.St} {H : Hp} (Pv : L2.St → Hp → Prop) (μ : L2.St → Hp → Nat) (h0 : Pv σ H)
    (hs : ∀ σ H, Pv σ H → c σ H fun b H1 => if b = true then ∃ N : L2.St → Hp → Prop, (∀ σ' H', N σ' H' → ∃ m', m' < μ σ H ∧ (m' = μ σ' H' ∧ Pv σ' H')) ∧ tb { D with nx := N, ct := N, bk := D.nx } σ H1 else D.nx σ H1) : tWhile c tb D σ H := by
  refine ⟨fun m σ H => m = μ σ H ∧ Pv σ H, ⟨_, rfl, h0⟩, ?_⟩
  rintro m σ H ⟨rfl, p⟩
  exact hs σ H p
theorem let_one {J C G : Prop} (main : (J → C) → G) (rest : J → C) : G := main rest
def readTo (n : Nat) : L2.St → Hp → Nat := fun σ _ => match σ[2]?, σ[3]?, σ[4]? with
  | some (some (V.int i)), some (some (V.int j)), some (some (V.int k)) => 3 * n - (i.toNat + j.toNat + k.toNat)
  | _, _, _ => 0
theorem ok_least_turn (T : Txt K mg) : FnOk P w K mg base CX0 2 T.least_turn.a T.least_turn.fd ["word"] (spLeast K) := by
  refine T.least_turn.F.ok sc_least_turn (fun vs H Q E h => ?_) (fun cdv A outer s H vs Q E hr h => ?_)
  · obtain ⟨p, ns, rfl, _⟩ := h
    rfl
  · obtain ⟨p, ns, rfl, hp, hne, hl, k⟩ := h
    have nd := sc_least_turn.nd
    refine ⟨_, (pss_cons (ps_set (i := 1) nd rfl (Or.inl rfl) (pe_callB call_len_seq (by rfl) T.zlen (by decide +kernel) (pa_cons (pv 0) pa_nil)))
    (pss_cons (ps_asg (pe_tup (pa_cons pe_int (pa_cons pe_int (pa_cons pe_int pa_nil)))) (pg_tup rfl (pgs_cons (pg_name (i := 2) nd rfl (Or.inl rfl)) (pgs_cons (pg_name (i := 3) nd rfl (Or.inl rfl)) (pgs_cons (pg_name (i := 4) nd rfl (Or.inl rfl)) pgs_nil)))))
    (pss_cons (ps_while PassesOwn.never (PW.pt (pw_and (pt_cmpR op_lt (pv 2) (pv 1) (nomark _)) (pw_and (pt_cmpR op_lt (pv 3) (pv 1) (nomark _)) (pw_and1 (pt_cmpR op_lt (pv 4) (pv 1) (nomark _))))))
      (pss_cons (ps_par (i := 5) (j := 6) rfl nd rfl rfl (by decide) rfl rfl (pa_cons (pe_ix ix_tup (pv 0) (pe_op op_mod (pe_op op_add (pv 2) (pv 4)) (pv 1)) (fun _ _ => rfl)) (pa_cons (pe_ix ix_tup (pv 0) (pe_op op_mod (pe_op op_add (pv 3) (pv 4)) (pv 1)) (fun _ _ => rfl)) pa_nil)) rfl)
      (pss_cons (ps_if (pt_cmpR op_eq (pv 5) (pv 6) (nomark _))
        (pss_cons (ps_aug (i := 4) nd rfl (Or.inl rfl) pe_int ip_add)
        (pss_one ps_continue))
        pss_nil)
      (pss_cons (ps_if (pt_cmpR op_gt (pv 5) (pv 6) (nomark _))
        (pss_one (ps_aug (i := 2) nd rfl (Or.inl rfl) (pe_op op_add (pv 4) pe_int) ip_add))
        (pss_one (ps_aug (i := 3) nd rfl (Or.inl rfl) (pe_op op_add (pv 4) pe_int) ip_add)))
      (pss_cons (ps_if (pt_cmpR op_eq (pv 2) (pv 3) (nomark _))
        (pss_one (ps_aug (i := 3) nd rfl (Or.inl rfl) pe_int ip_add))
        pss_nil)
      (pss_one (ps_set (i := 4) nd rfl (Or.inl rfl) pe_int)))))))
    (pss_cons (ps_set (i := 7) nd rfl (Or.inl rfl) (pe_callB (call_min2 rfl) (by rfl) T.zmin (by decide +kernel) (pa_cons (pv 2) (pa_cons (pv 3) pa_nil))))
    (pss_one (ps_ret (pe_op op_catA (pe_slice sl_tupA (pv 0) (po_some (pv 7)) po_none) (pe_slice sl_tupA (pv 0) po_none (po_some (pv 7)))))))))), ?_⟩
    have lm : (ns.map V.int).length = ns.length := List.length_map ..
    have l0 := List.length_pos_iff.mpr hne
    refine ⟨_, rfl, p, _, rfl, .inr hp, ?_⟩
    rw [lm]
    refine ⟨(by show 3 ≤ sizeLine; decide), fun a3 ha3 => ⟨a3, _, rfl, SqT.of upd_same, rfl, _, _, rfl, _, _, rfl, _, _, rfl, rfl, ?_⟩⟩
    have s0 : Same H (upd H a3 (.tup [.int 0, .int 1, .int 0])) := same_new ha3
    have hp0 := same_seqT s0 hp
    generalize upd H a3 (.tup [.int 0, .int 1, .int 0]) = H0 at s0 hp0
    refine while_by3 (fun σ H' => H' = H0 ∧ ∃ (i j c : Nat) (f g : Option V), σ = [some (.ref p), some (.int (ns.length : Int)), some (.int (i : Int)), some (.int (j : Int)), some (.int (c : Int)), f, g, none] ∧ Beaten ns i j ∧ c ≤ ns.length ∧ (0 < c → i < ns.length ∧ j < ns.length) ∧ (turnAt ns i).take c = (turnAt ns j).take c) (readTo ns.length)
      ⟨rfl, 0, 1, 0, none, none, rfl, beaten_zero ns, Nat.zero_le _, (fun z => absurd z (by omega)), rfl⟩ ?_
    rintro σ H' ⟨rfl, i, j, c, f, g, rfl, bt, hc, hij, ht⟩
    apply let_one (J := turnAt ns (min i j) = leastT ns ∧ min i j < ns.length)
    · intro out
      refine ⟨_, rfl, _, rfl, _, _, rfl, rfl, _, rfl, ite2 (fun c1 => ?_) (fun c1 => ?_)⟩
      · refine ⟨_, rfl, _, rfl, _, _, rfl, rfl, _, rfl, ite2 (fun c2 => ?_) (fun c2 => ?_)⟩
        · refine ⟨_, rfl, _, rfl, _, _, rfl, rfl, _, rfl, ite2 (fun c3 => ?_) (fun c3 => ?_)⟩
          · have g1 : i < ns.length := by simpa using c1
            have g2 : j < ns.length := by simpa using c2
            have g3 : c < ns.length := by simpa using c3
            obtain ⟨x, x1, x2⟩ := turn_letter g1 g3
            obtain ⟨y, y1, y2⟩ := turn_letter g2 g3
            have a1 : atI (ns.map V.int) (((i : Int) + (c : Int)) % (ns.length : Int)) = some (V.int x) := atI_nat (j := (i + c) % ns.length) (ints_get x1)
            have a2 : atI (ns.map V.int) (((j : Int) + (c : Int)) % (ns.length : Int)) = some (V.int y) := atI_nat (j := (j + c) % ns.length) (ints_get y1)
            refine ⟨fun σ' H'' => readTo ns.length σ' H'' < _ ∧ H'' = H' ∧ _, fun σ' H'' h => ⟨_, h.1, rfl, h.2⟩, ?_⟩
            have lt0 : ∀ (i' j' c' : Nat) (f' g' : Option V), i + j + c < i' + j' + c' → readTo ns.length [some (.ref p), some (.int (ns.length : Int)), some (.int (i' : Int)), some (.int (j' : Int)), some (.int (c' : Int)), f', g', none] H' < readTo ns.length [some (.ref p), some (.int (ns.length : Int)), some (.int (i : Int)), some (.int (j : Int)), some (.int (c : Int)), f, g, none] H' := fun i' j' c' f' g' h => by
              show 3 * ns.length - ((i' : Int).toNat + (j' : Int).toNat + (c' : Int).toNat) < 3 * ns.length - ((i : Int).toNat + (j : Int).toNat + (c : Int).toNat)
              omega
            have fin : ∀ (i' j' : Nat), i + j + c < i' + j' → Beaten ns i' j' → ∀ G : Prop, (readTo ns.length [some (.ref p), some (.int (ns.length : Int)), some (.int (i' : Int)), some (.int (j' : Int)), some (.int 0), some (V.int x), some (V.int y), none] H' < readTo ns.length [some (.ref p), some (.int (ns.length : Int)), some (.int (i : Int)), some (.int (j : Int)), some (.int (c : Int)), f, g, none] H' ∧ H' = H' ∧ (∃ (i c2 c : Nat) (f g : Option V), [some (.ref p), some (.int (ns.length : Int)), some (.int (i' : Int)), some (.int (j' : Int)), some (.int 0), some (V.int x), some (V.int y), none] = [some (.ref p), some (.int (ns.length : Int)), some (.int (i : Int)), some (.int (c2 : Int)), some (.int (c : Int)), f, g, none] ∧ Beaten ns i c2 ∧ c ≤ ns.length ∧ (0 < c → i < ns.length ∧ c2 < ns.length) ∧ (turnAt ns i).take c = (turnAt ns c2).take c) → G) → G := fun i' j' h b G k => k ⟨lt0 i' j' 0 _ _ (by omega), rfl, i', j', 0, _, _, rfl, b, Nat.zero_le _, (fun z => absurd z (by omega)), rfl⟩
            refine ⟨_, rfl, ?_⟩
            refine ⟨_, rfl, _, rfl, _, _, rfl, rfl, _, rfl, _, _, rfl, rfl, by omega, p, _, _, _, rfl, rfl, hp0, a1, ?_⟩
            refine ⟨_, rfl, _, rfl, _, rfl, _, _, rfl, rfl, _, rfl, _, _, rfl, rfl, by omega, p, _, _, _, rfl, rfl, hp0, a2, _, _, rfl, ?_⟩
            refine ⟨_, rfl, _, rfl, rfl, _, rfl, ite2 (fun c4 => ?_) (fun c4 => ?_)⟩
            · have g4 : x = y := by simpa using c4
              subst g4
              refine ⟨_, rfl, _, _, rfl, rfl, lt0 i j (c + 1) _ _ (by omega), rfl, i, j, c + 1, _, _, rfl, bt, g3, fun _ => ⟨g1, g2⟩, take_more ht x2 y2⟩
            · have g4 : ¬ x = y := by simpa using c4
              refine ⟨_, rfl, _, rfl, _, _, rfl, rfl, _, rfl, ite2 (fun c5 => ?_) (fun c5 => ?_)⟩
              · have g5 : y < x := by simpa using c5
                have bs := bt.step (k := c) fun t t1 t2 => noL_of t2 g2 g3 t1 ht x2 y2 g5
                refine ⟨_, rfl, _, rfl, _, _, rfl, rfl, _, _, rfl, rfl, ?_⟩
                refine ⟨_, rfl, _, rfl, rfl, _, rfl, ite2 (fun c6 => ?_) (fun c6 => ?_)⟩
                · have g6 : i + c + 1 = j := by
                    have : (i : Int) + ((c : Int) + 1) = (j : Int) := by simpa using c6
                    omega
                  have b2 := bs.2 g6
                  refine ⟨_, rfl, _, _, rfl, rfl, ?_⟩
                  refine fin (i + (c + 1)) (j + 1) (by omega) ?_ _ fun z => z
                  have e : i + (c + 1) = j := by omega
                  rw [e]
                  exact b2
                · have g6 : i + c + 1 ≠ j := fun z => c6 (by
                    have : (i : Int) + ((c : Int) + 1) = (j : Int) := by omega
                    simp [this])
                  exact fin (i + (c + 1)) j (by omega) (bs.1 g6) _ fun z => z
              · have g5 : x < y := by
                  have : ¬ y < x := by simpa using c5
                  omega
                have bs := bt.symm.step (k := c) fun t t1 t2 => noL_of t2 g1 g3 t1 ht.symm y2 x2 g5
                refine ⟨_, rfl, _, rfl, _, _, rfl, rfl, _, _, rfl, rfl, ?_⟩
                refine ⟨_, rfl, _, rfl, rfl, _, rfl, ite2 (fun c6 => ?_) (fun c6 => ?_)⟩
                · have g6 : j + c + 1 = i := by
                    have : (i : Int) = (j : Int) + ((c : Int) + 1) := by simpa using c6
                    omega
                  have b2 := bs.2 g6
                  refine ⟨_, rfl, _, _, rfl, rfl, ?_⟩
                  refine fin i (j + (c + 1) + 1) (by omega) ?_ _ fun z => z
                  have e : j + (c + 1) = i := by omega
                  rw [e]
                  exact b2
                · have g6 : j + c + 1 ≠ i := fun z => c6 (by
                    have : (i : Int) = (j : Int) + ((c : Int) + 1) := by omega
                    simp [this])
                  exact fin i (j + (c + 1)) (by omega) (bs.1 g6).symm _ fun z => z
          · have g1 : i < ns.length := by simpa using c1
            have g2 : j < ns.length := by simpa using c2
            have g3 : c = ns.length := by
              have : ¬ c < ns.length := by simpa using c3
              omega
            subst g3
            exact out ⟨leastT_like hne bt g1 g2 ht, by omega⟩
        · have g2 : ns.length ≤ j := by simpa using c2
          exact iteF (out (leastT_far hne bt (by omega)))
      · have g1 : ns.length ≤ i := by simpa using c1
        exact iteF (out (leastT_far hne bt (by omega)))
    rintro ⟨e1, e2⟩
    refine ⟨_, rfl, _, rfl, _, _, rfl, ?_⟩
    have em : (if (j : Int) < (i : Int) then (j : Int) else (i : Int)) = ((min i j : Nat) : Int) := by
      split <;> omega
    rw [em]
    have hp3 := hp0
    generalize min i j = m at e1 e2
    refine ⟨_, rfl, _, rfl, (m : Int), rfl, noPart_i ?_⟩
    refine slT_genD (K := K) hp0 fun b1 H2 s3 hb1 => ?_
    refine ⟨_, rfl, noPart_i ⟨_, rfl, (m : Int), rfl, ?_⟩⟩
    refine slT_gen (K := K) (same_seqT s3 hp0) fun b2 H3 s4 hb2 => ?_
    refine catA_gen (K := K) (same_seqT s4 hb1) hb2 ?_ fun q H4 s5 hq => ?_
    · rw [List.length_drop, List.length_take, lm]
      exact Nat.le_of_lt (small1000 (by omega))
    refine k q H4 (((s0.trans s3).trans s4).trans s5) ?_
    rw [← e1]
    have e : (turnAt ns m).map V.int = (ns.map V.int).drop m ++ (ns.map V.int).take m := by
      unfold turnAt
      rw [List.map_append, List.map_drop, List.map_take]
    rw [e]
    exact hq
end
end Tt
set_option maxRecDepth 100000
set_option maxHeartbeats 4000000
namespace Tt
open PySem L2
section
variable {P : Program} {w : World} {K : PySem.W.Frag} {mg : Str → Option Value} {base : Heap}
theorem slT_mid {xs : List V} {a : Addr} {H : Hp} {Q : VK} {c : Nat} (hc : 2 * c ≤ xs.length) (h : SqT K H a xs) (q : ∀ b H', Same H H' → SqT K H' b ((xs.drop c).take (xs.length - 2 * c)) → Q (.ref b) H') : rSlA K (.ref a) (some (c : Int)) (some ((xs.length - c : Nat) : Int)) H Q := by
  have e1 : HT.sIx xs.length 0 (some (c : Int)) = c := by rw [HT.sIx_nat]; omega
  have e2 : HT.sIx xs.length xs.length (some ((xs.length - c : Nat) : Int)) = xs.length - c := by rw [HT.sIx_nat]; omega
  refine ⟨a, xs, rfl, h, fun z => ?_, fun _ p hp => ?_⟩
  · rw [e1, e2] at z
    have z0 := z.1
    subst z0
    refine q a H (fun _ _ z => z) ?_
    rw [List.drop_zero, Nat.mul_zero, Nat.sub_zero, List.take_length]
    exact h
  · refine q p _ (same_new hp) ?_
    unfold cutV
    rw [e1, e2]
    have : xs.length - c - c = xs.length - 2 * c := by omega
    rw [this]
    exact SqT.of upd_same
def spClosedL (K : PySem.W.Frag) : Sp := fun vs H Q _ => ∃ (p : Addr) (ns : List Int), vs = [.ref p] ∧ SqT K H p (ns.map V.int) ∧ ns.length ≤ 400 ∧ (∀ x ∈ ns, 0 ≤ x ∧ x < 12) ∧
  ∀ q H', Same H H' → SqT K H' q ((Wd.core ns).map V.int) → (Wd.core ns).length ≤ 400 → Q (.ref q) H'
def spClosed (K : PySem.W.Frag) : Sp := fun vs H Q _ => ∃ (p : Addr) (ns : List Int), vs = [.ref p] ∧ SqT K H p (ns.map V.int) ∧ ns.length ≤ 400 ∧ (∀ x ∈ ns, 0 ≤ x ∧ x < 12) ∧
  ∀ q H', Same H H' → SqT K H' q ((closedT ns).map V.int) → Q (.ref q) H'
theorem ok_closed_letters (T : Txt K mg) : FnOk P w K mg base CX0 3 T.closed_letters.a T.closed_letters.fd ["word"] (spClosedL K) := by
  refine T.closed_letters.F.ok sc_closed_letters (fun vs H Q E h => ?_) (fun cdv A outer s H vs Q E hr h => ?_)
  · obtain ⟨p, ns, rfl, _⟩ := h
    rfl
  · obtain ⟨p, ns, rfl, hp, hl, hb, k⟩ := h
    have nd := sc_closed_letters.nd
    refine ⟨_, (pss_cons (ps_set (i := 1) nd rfl (Or.inl rfl) (pe_call (ok_cut_free T) (hr.mono (by decide)) (by rfl) T.cut_free.g T.cut_free.k T.cut_free.b .nil pass0 (pa_cons (pv 0) pa_nil)))
    (pss_cons (ps_set (i := 2) nd rfl (Or.inl rfl) pe_int)
    (pss_cons (ps_while PassesOwn.never (PW.pt (pw_and (pt_cmpR op_ge (pe_op op_sub (pe_callB call_len_seq (by rfl) T.zlen (by decide +kernel) (pa_cons (pv 1) pa_nil)) (pe_op op_mul pe_int (pv 2))) pe_int (nomark _)) (pw_and1 (pt_cmpR op_eq (pe_ix ix_tup (pv 1) (pv 2) (fun _ _ => rfl)) (pe_op op_xor (pe_ix ix_tup (pv 1) (pe_op op_sub (pe_op op_sub (pe_callB call_len_seq (by rfl) T.zlen (by decide +kernel) (pa_cons (pv 1) pa_nil)) pe_int) (pv 2)) (fun _ _ => rfl)) pe_int) (nomark _)))))
      (pss_one (ps_aug (i := 2) nd rfl (Or.inl rfl) pe_int ip_add)))
    (pss_one (ps_ret (pe_slice sl_tupA (pv 1) (po_some (pv 2)) (po_some (pe_op op_sub (pe_callB call_len_seq (by rfl) T.zlen (by decide +kernel) (pa_cons (pv 1) pa_nil)) (pv 2))))))))), ?_⟩
    refine ⟨_, rfl, p, ns, rfl, hp, by omega, hb, fun f H1 s1 h1 => ?_⟩
    have lf : (Wd.freed ns).length ≤ 400 := Nat.le_trans (Wd.len_freed ns) hl
    have bf : ∀ x ∈ Wd.freed ns, 0 ≤ x ∧ x < 12 := fun x hx => hb x (Wd.mem_freed hx)
    have ec : Wd.strip (Wd.freed ns) = Wd.core ns := rfl
    generalize Wd.freed ns = fs at h1 lf bf ec
    refine while_by (fun σ H' => H' = H1 ∧ ∃ c : Nat, σ = [some (.ref p), some (.ref f), some (.int (c : Int))] ∧ 2 * c ≤ fs.length ∧ Wd.strip (Wd.mid fs c) = Wd.core ns)
      (fun σ _ => match σ[2]? with | some (some (V.int c)) => 1000 - c.toNat | _ => 0) ⟨rfl, 0, rfl, by omega, by rw [Wd.mid_zero]; exact ec⟩ ?_ ?_
    · rintro σ H' ⟨rfl, c, rfl, hc, em⟩
      have lm : (fs.map V.int).length = fs.length := List.length_map ..
      apply let_one (J := Wd.strip (Wd.mid fs c) = Wd.mid fs c)
      · intro out
        refine ⟨_, rfl, f, _, rfl, .inr (SqT.of h1), _, rfl, _, _, rfl, rfl, .inl ⟨by decide, by decide⟩, _, _, rfl, rfl, _, _, rfl, rfl, _, rfl, ?_⟩
        rw [lm]
        refine ite2 (fun g => ?_) (fun g => ?_)
        · have g' : 2 * c + 2 ≤ fs.length := by
            have : (2 : Int) ≤ (fs.length : Int) - 2 * (c : Int) := by simpa using g
            omega
          obtain ⟨a, ha⟩ : ∃ a, fs[c]? = some a := ⟨_, List.getElem?_eq_getElem (by omega)⟩
          obtain ⟨b, hb2⟩ : ∃ b, fs[fs.length - 1 - c]? = some b := ⟨_, List.getElem?_eq_getElem (by omega)⟩
          refine ⟨_, rfl, _, rfl, f, _, _, _, rfl, rfl, SqT.of h1, atI_nat (ints_get ha), ?_⟩
          refine ⟨_, rfl, _, rfl, f, _, rfl, .inr (SqT.of h1), _, _, rfl, rfl, _, rfl, _, _, rfl, rfl, f, _, _, V.int b, rfl, rfl, SqT.of h1, ?_, ?_⟩
          · have e : ((fs.map V.int).length : Int) - 1 - (c : Int) = ((fs.length - 1 - c : Nat) : Int) := by rw [lm]; omega
            rw [e]
            exact atI_nat (ints_get hb2)
          · refine ⟨_, _, rfl, rfl, rfl, _, rfl, ?_⟩
            have bb := bf b (List.mem_of_getElem? hb2)
            have ex : decide (V.int a = V.int (Builtin.bitXor b 1)) = decide (a = Wd.mate b) := by
              rw [xor_mate bb.1 bb.2]
              simp
            refine ite2 (fun z => ?_) (fun z => ?_)
            · have z' : a = Wd.mate b := of_decide_eq_true (ex.symm.trans z)
              refine ⟨_, rfl, _, _, rfl, rfl, ⟨rfl, c + 1, rfl, by omega, ?_⟩, ?_⟩
              · rw [← Wd.mid_yes g' ha hb2 z']
                exact em
              · show 1000 - ((c : Int) + 1).toNat < 1000 - ((c : Int)).toNat
                omega
            · exact out (Wd.mid_no g' ha hb2 fun z' => z (ex.trans (decide_eq_true z')))
        · refine iteF (out (Wd.mid_short ?_))
          have : ¬ (2 : Int) ≤ (fs.length : Int) - 2 * (c : Int) := by simpa using g
          omega
      intro hm
      have eM : Wd.mid fs c = Wd.core ns := hm.symm.trans em
      have lc : (Wd.core ns).length ≤ 400 := by
        rw [← eM]
        exact Nat.le_trans (Wd.mid_len fs c) lf
      refine ⟨_, rfl, _, rfl, (c : Int), rfl, _, rfl, f, _, rfl, .inr (SqT.of h1), _, rfl, _, _, rfl, rfl, ((fs.length - c : Nat) : Int), ?_, ?_⟩
      · rw [lm]
        exact congrArg V.int (by omega)
      · rw [← lm]
        refine slT_mid (K := K) (by rw [lm]; exact hc) (SqT.of h1) fun b H2 s2 hb2 => ?_
        have e3 : ((fs.map V.int).drop c).take ((fs.map V.int).length - 2 * c) = (Wd.core ns).map V.int := by
          rw [lm, ← eM]
          unfold Wd.mid
          rw [List.map_take, List.map_drop]
        rw [e3] at hb2
        exact k b H2 (s1.trans s2) hb2 lc
    · rintro σ H Q Q' hq ⟨v1, a1, p1, ys1, a2, a3, v2, a4, i1, j1, a5, a6, a7, i2, j2, a8, a9, i3, j3, a10, a11, b1, a12, a13⟩
      refine ⟨v1, a1, p1, ys1, a2, a3, v2, a4, i1, j1, a5, a6, a7, i2, j2, a8, a9, i3, j3, a10, a11, b1, a12, ?_⟩
      cases b1 with
      | false => exact iteF (hq _ _ (by simpa using a13))
      | true =>
        rw [if_pos rfl] at a13
        obtain ⟨c1, d1, c2, d2, q1, xs1, n1, u1, d3, d4, d5, d6, c3, d7, c4, d8, q2, ys2, d9, d10, m1, m2, d11, d12, c5, d13, m3, m4, d14, d15, q3, xs3, n3, u3, d16, d17, d18, d19, m5, m6, d20, d21, d22, b2, d23, d24⟩ := a13
        exact iteT ⟨c1, d1, c2, d2, q1, xs1, n1, u1, d3, d4, d5, d6, c3, d7, c4, d8, q2, ys2, d9, d10, m1, m2, d11, d12, c5, d13, m3, m4, d14, d15, q3, xs3, n3, u3, d16, d17, d18, d19, m5, m6, d20, d21, d22, b2, d23, hq _ _ d24⟩
theorem ok_closed_up (T : Txt K mg) : FnOk P w K mg base CX0 4 T.closed_up.a T.closed_up.fd ["word"] (spClosed K) := by
  refine T.closed_up.F.ok sc_closed_up (fun vs H Q E h => ?_) (fun cdv A outer s H vs Q E hr h => ?_)
  · obtain ⟨p, ns, rfl, _⟩ := h
    rfl
  · obtain ⟨p, ns, rfl, hp, hl, hb, k⟩ := h
    have nd := sc_closed_up.nd
    refine ⟨_, (pss_cons (ps_set (i := 1) nd rfl (Or.inl rfl) (pe_call (ok_closed_letters T) (hr.mono (by decide)) (by rfl) T.closed_letters.g T.closed_letters.k T.closed_letters.b .nil pass0 (pa_cons (pv 0) pa_nil)))
    (pss_one (ps_ret (pe_ifExp (pt_truth (pv 1) (fun _ => rfl)) (pe_call (ok_least_turn T) (hr.mono (by decide)) (by rfl) T.least_turn.g T.least_turn.k T.least_turn.b .nil pass0 (pa_cons (pv 1) pa_nil)) (pe_tup pa_nil))))), ?_⟩
    refine ⟨_, rfl, p, ns, rfl, hp, hl, hb, fun b H2 s2 hb2 lc => ?_⟩
    refine ⟨_, rfl, !((Wd.core ns).map V.int).isEmpty, .inr (.inl ⟨_, hb2, rfl⟩), ?_⟩
    refine ite2 (fun z => ?_) (fun z => ?_)
    · have hne : Wd.core ns ≠ [] := by simpa using z
      exact ⟨_, rfl, b, Wd.core ns, rfl, hb2, hne, lc, fun q H3 s3 hq => k q H3 (s2.trans s3) hq⟩
    · have hnil : Wd.core ns = [] := by simpa using z
      refine ⟨(by show 0 ≤ sizeLine; decide), fun q hq => k q _ (s2.trans (same_new hq)) ?_⟩
      unfold closedT
      rw [hnil, leastT_nil]
      exact SqT.of upd_same
end
end Tt
set_option maxRecDepth 100000
set_option maxHeartbeats 4000000
namespace Tt
open PySem L2
section
variable {P : Program} {w : World} {K : PySem.W.Frag} {mg : Str → Option Value} {base : Heap}
end
end Tt
set_option maxRecDepth 100000
set_option maxHeartbeats 4000000
namespace Tt
open PySem L2
section
variable {P : Program} {w : World} {K : PySem.W.Frag} {mg : Str → Option Value} {base : Heap}
def RdOr (row : List Int) (x : V) (H : Hp) (K : PySem.W.Frag) (b : Bool) : Prop := (WV K 40 row H x false ∧ b = false) ∨
  ∃ (t : Addr) (ns : List Int), x = .ref t ∧ SqT K H t (ns.map V.int) ∧ ns.length ≤ 40 ∧ Lt (row.length : Int) ns ∧ b = decide (ns ≠ [] ∧ closedT ns = ns)
theorem RdOr.same {row : List Int} {x : V} {H H' : Hp} {b : Bool} (h : RdOr row x H K b) (s : Same H H') : RdOr row x H' K b := by
  rcases h with ⟨h, e⟩ | ⟨t, ns, e, h, l, lt, eb⟩
  · exact .inl ⟨h.same s, e⟩
  · exact .inr ⟨t, ns, e, same_seqT s h, l, lt, eb⟩
def spFit (T : Txt K mg) : Sp := fun vs H Q _ => ∃ (p : Addr) (row : List Int) (x : V) (b : Bool), vs = [.ref p, x] ∧ SkAt T H p row ∧ (row.length ≤ 12 ∧ row.length % 2 = 0) ∧ RdOr row x H K b ∧ ∀ H', Same H H' → Q (.bl b) H'
theorem ok_is_fit_round (T : Txt K mg) : FnOk P w K mg base CX0 6 T.is_fit_round.a T.is_fit_round.fd ["skin", "thing"] (spFit T) := by
  refine T.is_fit_round.F.ok sc_is_fit_round (fun vs H Q E h => ?_) (fun cdv A outer s H vs Q E hr h => ?_)
  · obtain ⟨p, row, x, b, rfl, _⟩ := h
    rfl
  · obtain ⟨p, row, x, b, rfl, hs, ⟨hl, h2⟩, hx, k⟩ := h
    refine ⟨_, (pss_one (ps_ret (pe_and (pe_call (ok_has_letters T) (hr.mono (by decide)) (by rfl) T.has_letters.g T.has_letters.k T.has_letters.b .nil pass0 (pa_cons (pv 0) (pa_cons (pv 1) (pa_cons (pe_glob rfl T.c_MOST_IN_ROUND T.r_MOST_IN_ROUND) pa_nil)))) (pe_and (pe_cmpR op_gt (pe_callB call_len_seq (by rfl) T.zlen (by decide +kernel) (pa_cons (pv 1) pa_nil)) pe_int (nomark _)) (pe_one (pe_cmpR (op_eqD hr.units) (pe_call (ok_closed_up T) (hr.mono (by decide)) (by rfl) T.closed_up.g T.closed_up.k T.closed_up.b .nil pass0 (pa_cons (pv 1) pa_nil)) (pv 1) (nomark _))))))), ?_⟩
    rcases hx with ⟨hw, rfl⟩ | ⟨t, ns, rfl, ht, hn, hlt, rfl⟩
    · refine ⟨_, rfl, _, rfl, p, row, x, 40, false, rfl, hs, hl, hw, fun H1 s1 => ⟨_, rfl, iteF (k H1 s1)⟩⟩
    · refine ⟨_, rfl, _, rfl, p, row, _, 40, true, rfl, hs, hl, word_wv h2 ht (by omega) (by omega) hlt, fun H1 s1 => ⟨_, rfl, iteT ?_⟩⟩
      have ht1 := same_seqT s1 ht
      refine ⟨_, rfl, t, _, rfl, .inr ht1, _, _, rfl, rfl, _, rfl, ?_⟩
      rw [List.length_map]
      refine ite2 (fun g => ?_) (fun g => ?_)
      · have hne : ns ≠ [] := fun z => by
          subst z
          simp at g
        refine ⟨_, rfl, t, ns, rfl, ht1, by omega, (fun y hy => by have := hlt y hy; omega), fun q H2 s2 hq => ?_⟩
        have ht2 := same_seqT s2 ht1
        refine ⟨_, rfl, .tuple ((closedT ns).map PyData.int), .tuple (ns.map PyData.int), .tup hq (dpAll_ints _ _), .tup ht2 (dpAll_ints _ _), shapedAll_ints _, shapedAll_ints _, ?_⟩
        have ev : PyData.eqv (.tuple ((closedT ns).map PyData.int)) (.tuple (ns.map PyData.int)) = decide (closedT ns = ns) := eqv_ints (closedT ns) ns
        rw [ev]
        have eb : decide (closedT ns = ns) = decide (ns ≠ [] ∧ closedT ns = ns) := by simp [hne]
        rw [eb]
        exact k H2 (s1.trans s2)
      · have hne : ns = [] := by
          have : ¬ (0 : Int) < (ns.length : Int) := by simpa using g
          exact List.length_eq_zero_iff.mp (by omega)
        have eb : decide (ns ≠ [] ∧ closedT ns = ns) = false := by simp [hne]
        rw [eb] at k
        have g' : decide (0 < (ns.length : Int)) = false := by simp [hne]
        exact k H1 s1
end
end Tt
set_option maxRecDepth 100000
set_option maxHeartbeats 4000000
namespace Tt
open PySem L2
section
variable {P : Program} {w : World} {K : PySem.W.Frag} {mg : Str → Option Value} {base : Heap}
def spCheckRound (T : Txt K mg) : Sp := fun vs H Q E => ∃ (p : Addr) (row : List Int) (x : V) (b : Bool), vs = [.ref p, x] ∧ SkAt T H p row ∧ (row.length ≤ 12 ∧ row.length % 2 = 0) ∧ RdOr row x H K b ∧ (b = true → ∀ H', Same H H' → Q .non H') ∧ (b = false → ∀ H', Same H H' → E (.ref T.BadRound.C) none H')
theorem ok_check_round (T : Txt K mg) : FnOk P w K mg base (L2.CX P w) 7 T.check_round.a T.check_round.fd ["skin", "loop"] (spCheckRound T) := by
  refine T.check_round.F.okX sc_check_round (fun vs H Q E h => ?_) (fun cdv A outer s H vs Q E hr h => ?_)
  · obtain ⟨p, row, x, b, rfl, _⟩ := h
    rfl
  · obtain ⟨p, row, x, b, rfl, hs, hl, hx, k1, k2⟩ := h
    refine ⟨_, (pss_one (ps_if (pt_not (pt_val (pe_call (ok_is_fit_round T) (hr.mono (by decide)) (by rfl) T.is_fit_round.g T.is_fit_round.k T.is_fit_round.b .nil pass0 (pa_cons (pv 0) (pa_cons (pv 1) pa_nil)))))
      (pss_one (ps_raise rfl (takes_of rfl rfl rfl rfl) (pmk_own PySem.F.excBase_ValueError T.BadRound.q T.BadRound.g T.BadRound.k (raises_own T.BadRound.ec.hs T.BadRound.ty) rfl)))
      pss_nil)), ?_⟩
    refine ⟨_, rfl, _, rfl, p, row, x, b, rfl, hs, hl, hx, fun H1 s1 => ⟨_, rfl, ?_⟩⟩
    cases b with
    | true => exact iteF (k1 rfl H1 s1)
    | false =>
      refine iteT ?_
      exact k2 rfl H1 s1
end
end Tt
set_option maxRecDepth 100000
set_option maxHeartbeats 4000000
namespace Wd
def pow (t : List Int) : Nat → List Int
  | 0 => []
  | n + 1 => t ++ pow t n
theorem pow_rep (t : List Int) : ∀ n, (List.replicate n t).flatten = pow t n
  | 0 => rfl
  | n + 1 => by rw [List.replicate_succ, List.flatten_cons, pow_rep t n]; rfl
theorem pow_one (t : List Int) : pow t 1 = t := List.append_nil t
theorem pow_add (t : List Int) : ∀ a b, pow t (a + b) = pow t a ++ pow t b
  | 0, b => by rw [Nat.zero_add]; rfl
  | a + 1, b => by
    rw [Nat.add_right_comm]
    show t ++ pow t (a + b) = t ++ pow t a ++ pow t b
    rw [pow_add t a b, List.append_assoc]
theorem pow_len (t : List Int) : ∀ n, (pow t n).length = n * t.length
  | 0 => (Nat.zero_mul _).symm
  | n + 1 => by
    show (t ++ pow t n).length = _
    rw [List.length_append, pow_len t n, Nat.succ_mul, Nat.add_comm]
theorem pow_pow (t : List Int) (a : Nat) : ∀ b, pow (pow t a) b = pow t (a * b)
  | 0 => rfl
  | b + 1 => by
    show pow t a ++ pow (pow t a) b = _
    rw [pow_pow t a b, ← pow_add, Nat.mul_succ, Nat.add_comm]
theorem pow_snoc (t : List Int) (n : Nat) : pow t (n + 1) = pow t n ++ t := by rw [pow_add, pow_one]
theorem pow_mem {t : List Int} {x : Int} : ∀ {n}, x ∈ pow t n → x ∈ t
  | 0, h => absurd h (by simp [pow])
  | n + 1, h => (List.mem_append.mp (show x ∈ t ++ pow t n from h)).elim id pow_mem
theorem pow_conj (u v : List Int) : ∀ n, v ++ pow (u ++ v) n ++ u = pow (v ++ u) (n + 1)
  | 0 => by rw [pow_one]; simp [pow]
  | n + 1 => by
    show v ++ (u ++ v ++ pow (u ++ v) n) ++ u = (v ++ u) ++ pow (v ++ u) (n + 1)
    rw [← pow_conj u v n]
    simp
theorem pow_split {t : List Int} : ∀ {k : Nat} {U W : List Int}, 1 ≤ k → pow t k = U ++ W → ∃ a b u v, t = u ++ v ∧ U = pow t a ++ u ∧ W = v ++ pow t b ∧ a + b + 1 = k
  | 0, _, _, h, _ => absurd h (by decide)
  | k + 1, U, W, _, h => by
    have h' : t ++ pow t k = U ++ W := h
    rcases app_split h' with ⟨m, e1, e2⟩ | ⟨m, e1, e2⟩
    ·
      by_cases hk : k = 0
      · subst hk
        have e3 : m = [] ∧ W = [] := by
          have : ([] : List Int) = m ++ W := e2
          have := congrArg List.length this
          rw [List.length_append, List.length_nil] at this
          exact ⟨List.length_eq_zero_iff.mp (by omega), List.length_eq_zero_iff.mp (by omega)⟩
        refine ⟨0, 0, t, [], by simp, ?_, ?_, rfl⟩
        · rw [e1, e3.1]
          simp [pow]
        · rw [e3.2]
          rfl
      · obtain ⟨a, b, u, v, h1, h2, h3, h4⟩ := pow_split (by omega) e2
        refine ⟨a + 1, b, u, v, h1, ?_, h3, by omega⟩
        rw [e1, h2]
        show _ = t ++ pow t a ++ u
        rw [List.append_assoc]
    · exact ⟨0, k, U, m, e1, rfl, e2, by omega⟩
theorem turn_pow {t y : List Int} {k : Nat} (hk : 1 ≤ k) (h : Turn (pow t k) y) : ∃ z, Turn t z ∧ y = pow z k := by
  obtain ⟨U, W, e1, rfl⟩ := h
  obtain ⟨a, b, u, v, rfl, rfl, rfl, e4⟩ := pow_split hk e1
  refine ⟨v ++ u, ⟨u, v, rfl, rfl⟩, ?_⟩
  rw [← e4, ← pow_conj, Nat.add_comm a b, pow_add]
  simp
theorem pow_turn {t z : List Int} (k : Nat) (h : Turn t z) : Turn (pow t k) (pow z k) := by
  obtain ⟨u, v, rfl, rfl⟩ := h
  cases k with
  | zero => exact Turn.refl _
  | succ k =>
    refine ⟨u, v ++ pow (u ++ v) k, ?_, (pow_conj u v k).symm⟩
    show u ++ v ++ pow (u ++ v) k = _
    rw [List.append_assoc]
theorem lt_app {x y : List Int} (hl : x.length = y.length) (h : x < y) (p q : List Int) : x ++ p < y ++ q := by
  induction x generalizing y with
  | nil =>
    cases y with
    | nil => exact absurd h (List.lt_irrefl _)
    | cons b y => cases hl
  | cons a x ih =>
    cases y with
    | nil => cases hl
    | cons b y =>
      rw [List.cons_append, List.cons_append, List.cons_lt_cons_iff]
      rw [List.cons_lt_cons_iff] at h
      rcases h with h | ⟨h1, h2⟩
      · exact .inl h
      · exact .inr ⟨h1, ih (by simpa using hl) h2⟩
theorem lt_pow {x y : List Int} (hl : x.length = y.length) {k : Nat} (hk : 1 ≤ k) (h : x < y) : pow x k < pow y k := by
  obtain ⟨k, rfl⟩ : ∃ j, k = j + 1 := ⟨k - 1, by omega⟩
  exact lt_app hl h _ _
theorem turn_len {a b : List Int} (h : Turn a b) : a.length = b.length := by
  obtain ⟨u, v, rfl, rfl⟩ := h
  rw [List.length_append, List.length_append, Nat.add_comm]
def CR (t : List Int) : Prop := Rd (t ++ t)
theorem rd_left {a b : List Int} (h : Rd (a ++ b)) : Rd a := rd_sub (u := []) (v := b) (by simpa using h)
theorem rd_right {a b : List Int} (h : Rd (a ++ b)) : Rd b := rd_sub (u := a) (v := []) (by simpa using h)
theorem CR.rd {t : List Int} (h : CR t) : Rd t := rd_left h
theorem rd_join {a b c : List Int} (hb : b ≠ []) (h1 : Rd (a ++ b)) (h2 : Rd (b ++ c)) : Rd (a ++ b ++ c) := by
  intro i x y hx hy
  by_cases hi : i + 1 < (a ++ b).length
  · rw [List.getElem?_append_left (by omega)] at hx
    rw [List.getElem?_append_left hi] at hy
    exact h1 i x y hx hy
  · have hl : 0 < b.length := List.length_pos_iff.mpr hb
    have hla : (a ++ b).length = a.length + b.length := List.length_append
    rw [List.append_assoc, List.getElem?_append_right (by omega)] at hx hy
    refine h2 (i - a.length) x y hx ?_
    rw [← hy]
    congr 1
    omega
theorem CR.pow {t : List Int} (ht : t ≠ []) (h : CR t) : ∀ n, Rd (Wd.pow t n)
  | 0 => rd_nil
  | 1 => by rw [pow_one]; exact h.rd
  | n + 2 => by
    show Rd (t ++ (t ++ Wd.pow t n))
    rw [← List.append_assoc]
    exact rd_join ht h (CR.pow ht h (n + 1))
theorem pow_ne {t : List Int} (ht : t ≠ []) {k : Nat} (hk : 1 ≤ k) : Wd.pow t k ≠ [] := fun z => by
  have := congrArg List.length z
  rw [pow_len, List.length_nil] at this
  have := List.length_pos_iff.mpr ht
  have : 0 < k * t.length := Nat.mul_pos (by omega) this
  omega
theorem cr_pow {t : List Int} (ht : t ≠ []) {k : Nat} (hk : 1 ≤ k) : CR (Wd.pow t k) ↔ CR t := by
  constructor
  · intro h
    unfold CR at h
    rw [← pow_add] at h
    obtain ⟨j, hj⟩ : ∃ j, k + k = 2 + j := ⟨k + k - 2, by omega⟩
    rw [hj, pow_add] at h
    have := rd_left h
    have e : Wd.pow t 2 = t ++ t := by
      show t ++ (t ++ []) = _
      rw [List.append_nil]
    rw [e] at this
    exact this
  · intro h
    unfold CR
    rw [← pow_add]
    exact h.pow ht _
theorem CR.turn {t z : List Int} (h : CR t) (k : Turn t z) : CR z := by
  by_cases ht : t = []
  · have := turn_len k
    rw [ht] at this
    have hz : z = [] := List.length_eq_zero_iff.mp this.symm
    rw [hz]
    exact rd_nil
  · obtain ⟨u, v, rfl, rfl⟩ := k
    have h3 := h.pow ht 3
    have e : Wd.pow (u ++ v) 3 = u ++ (v ++ u ++ (v ++ u)) ++ v := by
      show u ++ v ++ (u ++ v ++ (u ++ v ++ [])) = _
      simp
    rw [e] at h3
    exact rd_sub h3
theorem undo_app (a b : List Int) : undo (a ++ b) = undo b ++ undo a := by
  unfold undo
  rw [List.reverse_append, List.map_append]
theorem undo_pow (t : List Int) : ∀ k, undo (Wd.pow t k) = Wd.pow (undo t) k
  | 0 => rfl
  | k + 1 => by
    show undo (t ++ Wd.pow t k) = _
    rw [undo_app, undo_pow t k, pow_snoc]
theorem undo_turn {a b : List Int} (h : Turn a b) : Turn (undo a) (undo b) := by
  obtain ⟨u, v, rfl, rfl⟩ := h
  exact ⟨undo v, undo u, undo_app _ _, undo_app _ _⟩
theorem rd_undo {w : List Int} (h : Rd w) : Rd (undo w) := by
  intro i x y hx hy
  have li := (List.getElem?_eq_some_iff.mp hy).1
  rw [undo_len] at li
  unfold undo at hx hy
  rw [List.getElem?_map, List.getElem?_reverse (by omega)] at hx hy
  obtain ⟨a, ha, rfl⟩ := Option.map_eq_some_iff.mp hx
  obtain ⟨b, hb, rfl⟩ := Option.map_eq_some_iff.mp hy
  have hj : w.length - 1 - i = (w.length - 1 - (i + 1)) + 1 := by omega
  rw [hj] at ha
  have := h _ b a hb ha
  intro z
  rw [mate_mate] at z
  exact this z.symm
theorem CR.undo {t : List Int} (h : CR t) : CR (Wd.undo t) := by
  unfold CR
  rw [← undo_app]
  exact rd_undo h
theorem no_self : ∀ (n : Nat) (w : List Int), w.length ≤ n → Rd w → undo w = w → w = []
  | n, [], _, _, _ => rfl
  | n, [a], _, _, h => by
    have : mate a = a := by
      have h' : [mate a] = [a] := h
      exact (List.cons.inj h').1
    unfold mate at this
    split at this <;> omega
  | 0, a :: b :: r, h, _, _ => by simp at h
  | n + 1, a :: b :: r, h, hr, hu => by
    obtain ⟨m, c, e⟩ : ∃ m c, b :: r = m ++ [c] := ⟨(b :: r).dropLast, (b :: r).getLast (by simp), (List.dropLast_concat_getLast (by simp)).symm⟩
    rw [e] at hr hu h ⊢
    have e2 : undo (a :: (m ++ [c])) = mate c :: (undo m ++ [mate a]) := by
      have : a :: (m ++ [c]) = [a] ++ m ++ [c] := by simp
      rw [this, undo_app, undo_app]
      rfl
    rw [e2] at hu
    obtain ⟨h1, h2⟩ := List.cons.inj hu
    have h3 := List.append_inj' h2 rfl
    have hm : m = [] := by
      refine no_self n m ?_ ?_ h3.1
      · rw [List.length_cons, List.length_append] at h
        simp at h
        omega
      · exact rd_sub (u := [a]) (v := [c]) (by simpa using hr)
    subst hm
    exact absurd h1.symm (fun z => by
      have := hr 0 a c rfl rfl
      exact this (mate_eq.mpr (by rw [← h1]))) 
theorem not_undone {t : List Int} (ht : t ≠ []) (h : CR t) (k : Turn (undo t) t) : False := by
  obtain ⟨u, v, e1, e2⟩ := k
  have e3 : undo t = undo u ++ undo v := by rw [e2, undo_app]
  rw [e3] at e1
  have h4 := List.append_inj e1 (undo_len u)
  have hru : Rd u := by
    have := h.rd
    rw [e2] at this
    exact rd_right this
  have hrv : Rd v := by
    have := h.rd
    rw [e2] at this
    exact rd_left this
  have hu := no_self _ u (Nat.le_refl _) hru h4.1
  have hv := no_self _ v (Nat.le_refl _) hrv h4.2
  rw [hu, hv] at e2
  exact ht e2
end Wd
set_option maxRecDepth 100000
set_option maxHeartbeats 4000000
namespace Tt
open PySem L2
theorem strip_len : ∀ (n : Nat) (w : List Int), w.length ≤ n → (Wd.strip w).length ≤ w.length
  | 0, w, h => by
    unfold Wd.strip
    split
    · omega
    · exact Nat.le_refl _
  | n + 1, w, h => by
    unfold Wd.strip
    split
    · have hl : ((w.drop 1).dropLast).length = w.length - 1 - 1 := by simp
      refine Nat.le_trans (strip_len n _ (by omega)) ?_
      omega
    · exact Nat.le_refl _
theorem closedT_len (ns : List Int) : (closedT ns).length ≤ ns.length := by
  unfold closedT
  have h1 : (Wd.core ns).length ≤ ns.length := Nat.le_trans (strip_len _ _ (Nat.le_refl _)) (Wd.len_freed ns)
  by_cases hc : Wd.core ns = []
  · rw [hc, leastT_nil]
    exact Nat.zero_le _
  · obtain ⟨u, v, e1, e2⟩ := leastT_turn hc
    rw [e2, List.length_append]
    rw [e1, List.length_append] at h1
    omega
theorem freed_full (w : List Int) : (Wd.freed w).length = w.length → Wd.freed w = w := by
  refine Wd.snoc_ind (P := fun w => (Wd.freed w).length = w.length → Wd.freed w = w) (fun _ => rfl) (fun l a ih h => ?_) w
  rw [Wd.freed_snoc] at h ⊢
  rw [List.length_append, List.length_singleton] at h
  have h1 := Wd.len_freed l
  unfold Wd.push at h ⊢
  split at h
  · rw [List.length_dropLast] at h
    omega
  · rename_i hn
    rw [if_neg hn]
    rw [List.length_append, List.length_singleton] at h
    rw [ih (by omega)]
theorem strip_full {w : List Int} (h : (Wd.strip w).length = w.length) : Wd.strip w = w := by
  by_cases hc : 2 ≤ w.length ∧ w.head? = w.getLast?.map Wd.mate
  · unfold Wd.strip at h
    rw [dif_pos hc] at h
    have := strip_len _ ((w.drop 1).dropLast) (Nat.le_refl _)
    have hl : ((w.drop 1).dropLast).length = w.length - 1 - 1 := by simp
    omega
  · unfold Wd.strip
    rw [dif_neg hc]
theorem strip_facts : ∀ (n : Nat) (w : List Int), w.length ≤ n → Wd.Rd w → Wd.Rd (Wd.strip w) ∧ ¬ (2 ≤ (Wd.strip w).length ∧ (Wd.strip w).head? = (Wd.strip w).getLast?.map Wd.mate)
  | n, w, hn, hr => by
    by_cases hc : 2 ≤ w.length ∧ w.head? = w.getLast?.map Wd.mate
    · have e : Wd.strip w = Wd.strip (w.drop 1).dropLast := by
        rw [Wd.strip]
        exact dif_pos hc
      rw [e]
      have hl : ((w.drop 1).dropLast).length = w.length - 1 - 1 := by simp
      cases n with
      | zero => omega
      | succ n =>
        refine strip_facts n _ (by omega) ?_
        have h1 : Wd.Rd (w.drop 1) := Wd.rd_right (a := w.take 1) (by rw [List.take_append_drop]; exact hr)
        by_cases h2 : w.drop 1 = []
        · rw [h2]
          exact Wd.rd_nil
        · refine Wd.rd_left (b := [(w.drop 1).getLast h2]) ?_
          rw [List.dropLast_concat_getLast]
          exact h1
    · have e : Wd.strip w = w := by
        rw [Wd.strip]
        exact dif_neg hc
      rw [e]
      exact ⟨hr, hc⟩
theorem cr_of {w : List Int} (hr : Wd.Rd w) (hc : ¬ (2 ≤ w.length ∧ w.head? = w.getLast?.map Wd.mate)) : Wd.CR w := by
  intro i x y hx hy
  by_cases hi : i + 1 < w.length
  · rw [List.getElem?_append_left (by omega)] at hx
    rw [List.getElem?_append_left hi] at hy
    exact hr i x y hx hy
  · by_cases hj : i < w.length
    ·
      have e : i = w.length - 1 := by omega
      rw [List.getElem?_append_left hj] at hx
      rw [List.getElem?_append_right (by omega)] at hy
      have e0 : i + 1 - w.length = 0 := by omega
      rw [e0] at hy
      intro z
      by_cases h2 : 2 ≤ w.length
      · refine hc ⟨h2, ?_⟩
        rw [List.head?_eq_getElem?, hy, List.getLast?_eq_getElem?, ← e, hx, z]
        rfl
      · have : i = 0 := by omega
        rw [this] at hx
        rw [hx] at hy
        have := Option.some.inj hy
        rw [← this] at z
        unfold Wd.mate at z
        split at z <;> omega
    · rw [List.getElem?_append_right (by omega)] at hx hy
      refine hr (i - w.length) x y hx ?_
      rw [← hy]
      congr 1
      omega
theorem core_of_cr {w : List Int} (h : Wd.CR w) : Wd.core w = w := by
  unfold Wd.core
  rw [Wd.freed_of_rd w h.rd]
  by_cases h2 : 2 ≤ w.length
  · refine Wd.strip_no fun z => ?_
    obtain ⟨a, ha⟩ : ∃ a, w[w.length - 1]? = some a := ⟨_, List.getElem?_eq_getElem (by omega)⟩
    obtain ⟨b, hb⟩ : ∃ b, w[0]? = some b := ⟨_, List.getElem?_eq_getElem (by omega)⟩
    rw [List.head?_eq_getElem?, List.getLast?_eq_getElem?, ha, hb] at z
    have z' : b = Wd.mate a := Option.some.inj z
    refine h (w.length - 1) a b ?_ ?_ z'
    · rw [List.getElem?_append_left (by omega)]
      exact ha
    · rw [List.getElem?_append_right (by omega)]
      have : w.length - 1 + 1 - w.length = 0 := by omega
      rw [this]
      exact hb
  · exact Wd.strip_short (by omega)
theorem cr_core (w : List Int) : Wd.CR (Wd.core w) := by
  obtain ⟨h1, h2⟩ := strip_facts _ (Wd.freed w) (Nat.le_refl _) (Wd.rd_freed w)
  exact cr_of h1 h2
def Lst (ns : List Int) : Prop := ∀ y, Wd.Turn ns y → ¬ y < ns
theorem lst_least {ns : List Int} (hne : ns ≠ []) : Lst (leastT ns) := fun y hy => by
  obtain ⟨h1, h2⟩ := leastT_facts hne
  exact h2 y ((mem_turns hne).mpr ((leastT_turn hne).trans hy))
theorem least_lst {ns : List Int} (hne : ns ≠ []) (h : Lst ns) : leastT ns = ns := by
  obtain ⟨h1, h2⟩ := leastT_facts hne
  have a := h _ (leastT_turn hne)
  have b := h2 ns ((mem_turns hne).mpr (Wd.Turn.refl ns))
  exact (List.le_antisymm (as := leastT ns) (bs := ns) (by simpa using b) (by simpa using a))
def Rnd (ns : List Int) : Prop := ns ≠ [] ∧ closedT ns = ns
theorem rnd_iff {ns : List Int} (hne : ns ≠ []) : closedT ns = ns ↔ Wd.CR ns ∧ Lst ns := by
  constructor
  · intro h
    unfold closedT at h
    have hc : Wd.core ns ≠ [] := fun z => by
      rw [z, leastT_nil] at h
      exact hne h.symm
    have hl := Wd.turn_len (leastT_turn hc)
    rw [h] at hl
    have a1 : (Wd.core ns).length ≤ (Wd.freed ns).length := strip_len _ _ (Nat.le_refl _)
    have a2 := Wd.len_freed ns
    have e1 : Wd.freed ns = ns := freed_full ns (by omega)
    have e2 : Wd.core ns = ns := by
      unfold Wd.core
      rw [e1]
      refine strip_full ?_
      have : Wd.core ns = Wd.strip ns := by
        unfold Wd.core
        rw [e1]
      rw [← this]
      exact hl
    have cr := cr_core ns
    rw [e2] at cr h
    refine ⟨cr, ?_⟩
    rw [← h]
    exact lst_least hne
  · rintro ⟨cr, l⟩
    unfold closedT
    rw [core_of_cr cr]
    exact least_lst hne l
theorem Rnd.cr {ns : List Int} (h : Rnd ns) : Wd.CR ns := ((rnd_iff h.1).mp h.2).1
theorem Rnd.lst {ns : List Int} (h : Rnd ns) : Lst ns := ((rnd_iff h.1).mp h.2).2
theorem rnd_mk {ns : List Int} (hne : ns ≠ []) (c : Wd.CR ns) (l : Lst ns) : Rnd ns := ⟨hne, (rnd_iff hne).mpr ⟨c, l⟩⟩
theorem rnd_least {ns : List Int} (hne : ns ≠ []) (c : Wd.CR ns) : Rnd (leastT ns) :=
  rnd_mk (fun z => hne ((turn_nil (leastT_turn hne)).mpr z)) (c.turn (leastT_turn hne)) (lst_least hne)
theorem rnd_closed {x : List Int} (h : closedT x ≠ []) : Rnd (closedT x) := by
  unfold closedT at h ⊢
  have hc : Wd.core x ≠ [] := fun z => h (by rw [z, leastT_nil])
  exact rnd_least hc (cr_core x)
theorem closed_cr {ns : List Int} (c : Wd.CR ns) : closedT ns = leastT ns := by
  unfold closedT
  rw [core_of_cr c]
theorem undo_ne {ns : List Int} (h : ns ≠ []) : Wd.undo ns ≠ [] := fun z => h (List.length_eq_zero_iff.mp (by rw [← Wd.undo_len, z]; rfl))
def abt (ns : List Int) : List Int := leastT (Wd.undo ns)
theorem rnd_abt {ns : List Int} (h : Rnd ns) : Rnd (abt ns) := rnd_least (undo_ne h.1) h.cr.undo
theorem closed_abt {ns : List Int} (h : Rnd ns) : closedT (Wd.undo ns) = abt ns := closed_cr h.cr.undo
theorem abt_abt {ns : List Int} (h : Rnd ns) : abt (abt ns) = ns := by
  have t := Wd.undo_turn (leastT_turn (undo_ne h.1))
  rw [Wd.undo_undo] at t
  show leastT (Wd.undo (leastT (Wd.undo ns))) = ns
  rw [← leastT_eq t]
  exact least_lst h.1 h.lst
theorem abt_ne {ns : List Int} (h : Rnd ns) : abt ns ≠ ns := fun z => by
  have t := leastT_turn (undo_ne h.1)
  have e : leastT (Wd.undo ns) = ns := z
  rw [e] at t
  exact Wd.not_undone h.1 h.cr t
theorem abt_len (ns : List Int) : (abt ns).length = ns.length := by
  by_cases h : ns = []
  · subst h
    rfl
  · show (leastT (Wd.undo ns)).length = _
    rw [← Wd.turn_len (leastT_turn (undo_ne h)), Wd.undo_len]
theorem rnd_pow {t : List Int} (h : Rnd t) {k : Nat} (hk : 1 ≤ k) : Rnd (Wd.pow t k) := by
  refine rnd_mk (Wd.pow_ne h.1 hk) ((Wd.cr_pow h.1 hk).mpr h.cr) fun y hy g => ?_
  obtain ⟨z, hz, rfl⟩ := Wd.turn_pow hk hy
  have hl := Wd.turn_len hz
  rcases Classical.em (z < t) with q | q
  · exact h.lst z hz q
  · rcases Classical.em (t < z) with q2 | q2
    · exact List.lt_irrefl _ (List.lt_trans g (Wd.lt_pow hl hk q2))
    · have e : z = t := List.le_antisymm (as := z) (bs := t) (by simpa using q2) (by simpa using q)
      rw [e] at g
      exact List.lt_irrefl _ g
theorem rnd_of_pow {t : List Int} (ht : t ≠ []) {k : Nat} (hk : 1 ≤ k) (h : Rnd (Wd.pow t k)) : Rnd t :=
  rnd_mk ht ((Wd.cr_pow ht hk).mp h.cr) fun y hy g => h.lst _ (Wd.pow_turn k hy) (Wd.lt_pow (Wd.turn_len hy).symm hk g)
theorem abt_pow {t : List Int} (h : Rnd t) {k : Nat} (hk : 1 ≤ k) : abt (Wd.pow t k) = Wd.pow (abt t) k := by
  have r := rnd_pow (rnd_abt h) hk
  have t1 : Wd.Turn (Wd.undo (Wd.pow t k)) (Wd.pow (abt t) k) := by
    rw [Wd.undo_pow]
    exact Wd.pow_turn k (leastT_turn (undo_ne h.1))
  show leastT (Wd.undo (Wd.pow t k)) = _
  rw [leastT_eq t1]
  exact least_lst r.1 r.lst
def IsRoot (ns : List Int) (s : Nat) : Prop := 1 ≤ s ∧ s ≤ ns.length ∧ turnAt ns s = ns ∧ ∀ j, 1 ≤ j → j < s → turnAt ns j ≠ ns
theorem root_uniq {ns : List Int} {s s' : Nat} (h : IsRoot ns s) (h' : IsRoot ns s') : s = s' := by
  rcases Nat.lt_trichotomy s s' with g | g | g
  · exact absurd h.2.2.1 (h'.2.2.2 s h.1 g)
  · exact g
  · exact absurd h'.2.2.1 (h.2.2.2 s' h'.1 g)
theorem turnAt_len {ns : List Int} : turnAt ns ns.length = ns := by
  unfold turnAt
  simp
theorem root_ex {ns : List Int} (hne : ns ≠ []) : ∃ s, IsRoot ns s := by
  have key : ∀ n, ∀ m, 1 ≤ m → m ≤ ns.length → ns.length - m ≤ n → (∀ j, 1 ≤ j → j < m → turnAt ns j ≠ ns) → ∃ s, IsRoot ns s := by
    intro n
    induction n with
    | zero => exact fun m h1 h2 h3 h4 => ⟨m, h1, h2, by rw [show m = ns.length by omega]; exact turnAt_len, h4⟩
    | succ n ih =>
      intro m h1 h2 h3 h4
      by_cases hm : turnAt ns m = ns
      · exact ⟨m, h1, h2, hm, h4⟩
      · by_cases he : m = ns.length
        · exact absurd (by rw [he]; exact turnAt_len) hm
        · refine ih (m + 1) (by omega) (by omega) (by omega) fun j j1 j2 => ?_
          by_cases hj : j = m
          · rw [hj]
            exact hm
          · exact h4 j j1 (by omega)
  have := List.length_pos_iff.mpr hne
  exact key ns.length 1 (Nat.le_refl _) (by omega) (by omega) fun j j1 j2 => by omega
theorem comm_cut {u : List Int} (hu : u ≠ []) : ∀ (n : Nat) (v : List Int), v.length ≤ n → u ++ v = v ++ u → ∃ q w, v = Wd.pow u q ++ w ∧ w.length < u.length ∧ u ++ w = w ++ u
  | 0, v, hn, h => by
    have : v = [] := List.length_eq_zero_iff.mp (by omega)
    subst this
    exact ⟨0, [], rfl, List.length_pos_iff.mpr hu, by simp⟩
  | n + 1, v, hn, h => by
    by_cases hl : v.length < u.length
    · exact ⟨0, v, rfl, hl, h⟩
    · rcases Wd.app_split h with ⟨m, e1, e2⟩ | ⟨m, e1, e2⟩
      ·
        have hm : u ++ m = m ++ u := by
          rw [← e1, e2]
        have hlu := List.length_pos_iff.mpr hu
        obtain ⟨q, w, h1, h2, h3⟩ := comm_cut hu n m (by rw [e1, List.length_append] at hn; omega) hm
        refine ⟨q + 1, w, ?_, h2, h3⟩
        rw [e1, h1]
        show _ = u ++ Wd.pow u q ++ w
        rw [List.append_assoc]
      · have hm : m = [] := by
          have := congrArg List.length e1
          rw [List.length_append] at this
          exact List.length_eq_zero_iff.mp (by omega)
        subst hm
        rw [List.append_nil] at e1
        refine ⟨1, [], ?_, List.length_pos_iff.mpr hu, by simp⟩
        rw [Wd.pow_one, List.append_nil, e1]
theorem comm_pow {u w : List Int} (h : u ++ w = w ++ u) : ∀ n, Wd.pow u n ++ w = w ++ Wd.pow u n
  | 0 => by simp [Wd.pow]
  | n + 1 => by
    show u ++ Wd.pow u n ++ w = w ++ (u ++ Wd.pow u n)
    rw [List.append_assoc, comm_pow h n, ← List.append_assoc, h, List.append_assoc]
theorem take_ne {ns : List Int} {s : Nat} (h1 : 1 ≤ s) (h2 : s ≤ ns.length) : ns.take s ≠ [] := fun z => by
  have := congrArg List.length z
  rw [List.length_take, List.length_nil] at this
  omega
theorem root_pow {ns : List Int} {s : Nat} (h : IsRoot ns s) : ∃ k, 1 ≤ k ∧ ns = Wd.pow (ns.take s) k ∧ k * s = ns.length := by
  obtain ⟨h1, h2, h3, h4⟩ := h
  have hu := take_ne h1 h2
  have hlen : (ns.take s).length = s := by rw [List.length_take]; omega
  have hc : ns.take s ++ ns.drop s = ns.drop s ++ ns.take s := by
    rw [List.take_append_drop]
    exact h3.symm
  obtain ⟨q, w, e1, e2, e3⟩ := comm_cut hu _ (ns.drop s) (Nat.le_refl _) hc
  have en : ns = Wd.pow (ns.take s) (q + 1) ++ w := by
    show ns = ns.take s ++ Wd.pow (ns.take s) q ++ w
    rw [List.append_assoc, ← e1, List.take_append_drop]
  have hw : w = [] := Classical.byContradiction fun hw => by
    have hl := List.length_pos_iff.mpr hw
    refine h4 w.length hl (by omega) ?_
    have en2 := en
    rw [comm_pow e3] at en2
    have : turnAt (w ++ Wd.pow (ns.take s) (q + 1)) w.length = Wd.pow (ns.take s) (q + 1) ++ w := by
      unfold turnAt
      rw [List.drop_left, List.take_left]
    rw [← en2, ← en] at this
    exact this
  rw [hw, List.append_nil] at en
  refine ⟨q + 1, by omega, en, ?_⟩
  have := congrArg List.length en
  rw [Wd.pow_len, hlen] at this
  exact this.symm
theorem turnAt_pow {t : List Int} {k j : Nat} (hk : 1 ≤ k) (hj : j ≤ t.length) : turnAt (Wd.pow t k) j = Wd.pow (turnAt t j) k := by
  obtain ⟨k, rfl⟩ : ∃ i, k = i + 1 := ⟨k - 1, by omega⟩
  have e : t = t.take j ++ t.drop j := (List.take_append_drop j t).symm
  have hl : (t.take j).length = j := by rw [List.length_take]; omega
  have e1 : Wd.pow t (k + 1) = t.take j ++ (t.drop j ++ Wd.pow t k) := by
    show t ++ Wd.pow t k = _
    rw [← List.append_assoc, List.take_append_drop]
  unfold turnAt
  rw [e1, List.drop_left' hl, List.take_left' hl]
  have := Wd.pow_conj (t.take j) (t.drop j) k
  rw [List.take_append_drop] at this
  exact this
theorem pow_inj {x y : List Int} (hl : x.length = y.length) {k : Nat} (hk : 1 ≤ k) (h : Wd.pow x k = Wd.pow y k) : x = y := by
  obtain ⟨k, rfl⟩ : ∃ i, k = i + 1 := ⟨k - 1, by omega⟩
  exact (List.append_inj (show x ++ Wd.pow x k = y ++ Wd.pow y k from h) hl).1
def Prim (t : List Int) : Prop := IsRoot t t.length
theorem turnAt_length (t : List Int) (j : Nat) : (turnAt t j).length = t.length := (Wd.turn_len (turnAt_turn j)).symm
theorem root_of_pow {t : List Int} (h : Prim t) {k : Nat} (hk : 1 ≤ k) : IsRoot (Wd.pow t k) t.length := by
  obtain ⟨h1, h2, h3, h4⟩ := h
  refine ⟨h1, ?_, ?_, fun j j1 j2 z => ?_⟩
  · rw [Wd.pow_len]
    exact Nat.le_mul_of_pos_left _ (by omega)
  · rw [turnAt_pow hk (Nat.le_refl _), h3]
  · rw [turnAt_pow hk (by omega)] at z
    exact h4 j j1 j2 (pow_inj (turnAt_length t j) hk z)
theorem prim_root {ns : List Int} {s : Nat} (h : IsRoot ns s) : Prim (ns.take s) := by
  obtain ⟨k, k1, e, _⟩ := root_pow h
  obtain ⟨h1, h2, h3, h4⟩ := h
  have hlen : (ns.take s).length = s := by rw [List.length_take]; omega
  refine ⟨by omega, Nat.le_refl _, turnAt_len, fun j j1 j2 z => ?_⟩
  refine h4 j j1 (by omega) ?_
  have := turnAt_pow (t := ns.take s) (k := k) (j := j) k1 (by omega)
  rw [z, ← e] at this
  exact this
theorem prim_iff {t : List Int} (ht : t ≠ []) : Prim t ↔ ∀ y k, t = Wd.pow y k → k ≤ 1 := by
  constructor
  · intro h y k e
    refine Classical.byContradiction fun g => ?_
    have hy : y ≠ [] := fun z => ht (by
      rw [e, z]
      have : ∀ n, Wd.pow ([] : List Int) n = [] := fun n => by
        induction n with
        | zero => rfl
        | succ n ih => exact ih
      exact this k)
    have hl := List.length_pos_iff.mpr hy
    have hl2 : t.length = k * y.length := by rw [e, Wd.pow_len]
    have h3 : 2 * y.length ≤ k * y.length := Nat.mul_le_mul_right _ (by omega)
    refine h.2.2.2 y.length hl (by omega) ?_
    rw [e, turnAt_pow (by omega) (Nat.le_refl _), turnAt_len]
  · intro h
    obtain ⟨s, hs⟩ := root_ex ht
    obtain ⟨k, k1, e, el⟩ := root_pow hs
    have k2 := h _ _ e
    have : k = 1 := by omega
    rw [this, Nat.one_mul] at el
    unfold Prim
    rw [← el]
    exact hs
theorem prim_turn {t z : List Int} (ht : t ≠ []) (h : Prim t) (k : Wd.Turn t z) : Prim z := by
  have hz : z ≠ [] := fun q => ht ((turn_nil k).mpr q)
  refine (prim_iff hz).mpr fun y n e => ?_
  by_cases hn : n = 0
  · omega
  · have k' := k.symm
    rw [e] at k'
    obtain ⟨x, _, e2⟩ := Wd.turn_pow (by omega) k'
    exact (prim_iff ht).mp h x n e2
theorem prim_undo {t : List Int} (ht : t ≠ []) (h : Prim t) : Prim (Wd.undo t) := by
  refine (prim_iff (undo_ne ht)).mpr fun y n e => ?_
  refine (prim_iff ht).mp h (Wd.undo y) n ?_
  rw [← Wd.undo_pow, ← e, Wd.undo_undo]
theorem prim_abt {t : List Int} (ht : t ≠ []) (h : Prim t) : Prim (abt t) := prim_turn (undo_ne ht) (prim_undo ht h) (leastT_turn (undo_ne ht))
theorem root_abt {ns : List Int} {s s' : Nat} (r : Rnd ns) (h : IsRoot ns s) (h' : IsRoot (abt ns) s') : s' = s ∧ (abt ns).take s' = abt (ns.take s) := by
  obtain ⟨k, k1, e, el⟩ := root_pow h
  have hne := take_ne h.1 h.2.1
  have hlen : (ns.take s).length = s := by rw [List.length_take]; have := h.2.1; omega
  have rt : Rnd (ns.take s) := rnd_of_pow hne k1 (by rw [← e]; exact r)
  have ea : abt ns = Wd.pow (abt (ns.take s)) k := by
    conv => lhs; rw [e]
    exact abt_pow rt k1
  have hr := root_of_pow (prim_abt hne (prim_root h)) k1
  rw [← ea, abt_len, hlen] at hr
  have es := root_uniq h' hr
  refine ⟨es, ?_⟩
  rw [es, ea]
  obtain ⟨k, rfl⟩ : ∃ i, k = i + 1 := ⟨k - 1, by omega⟩
  show (abt (ns.take s) ++ Wd.pow (abt (ns.take s)) k).take s = _
  exact List.take_left' (by rw [abt_len, hlen])
theorem root_root {ns : List Int} {s s' : Nat} (h : IsRoot ns s) (h' : IsRoot (ns.take s) s') : s' = s := by
  have := root_uniq h' (prim_root h)
  rw [this, List.length_take]
  have := h.2.1
  omega
theorem rnd_root {ns : List Int} {s : Nat} (r : Rnd ns) (h : IsRoot ns s) : Rnd (ns.take s) := by
  obtain ⟨k, k1, e, el⟩ := root_pow h
  exact rnd_of_pow (take_ne h.1 h.2.1) k1 (by rw [← e]; exact r)
def IsPer (ns : List Int) (s : Nat) : Prop := ns.length % s = 0 ∧ Wd.pow (ns.take s) (ns.length / s) = ns
theorem per_turn {ns : List Int} {s : Nat} (h1 : 1 ≤ s) (h2 : s ≤ ns.length) (h : IsPer ns s) : turnAt ns s = ns := by
  have hk : 1 ≤ ns.length / s := Nat.div_pos h2 (by omega)
  have hlen : (ns.take s).length = s := by rw [List.length_take]; omega
  have := turnAt_pow (t := ns.take s) (k := ns.length / s) (j := s) hk (by omega)
  have e2 : turnAt (ns.take s) s = ns.take s := by
    have := turnAt_len (ns := ns.take s)
    rw [hlen] at this
    exact this
  rw [e2, h.2] at this
  exact this
theorem root_per {ns : List Int} {s : Nat} (h : IsRoot ns s) : IsPer ns s := by
  obtain ⟨k, k1, e, el⟩ := root_pow h
  have hs := h.1
  refine ⟨?_, ?_⟩
  · rw [← el]
    exact Nat.mul_mod_left _ _
  · have : ns.length / s = k := by rw [← el]; exact Nat.mul_div_cancel _ (by omega)
    rw [this]
    exact e.symm
theorem root_of_per {ns : List Int} {s : Nat} (h1 : 1 ≤ s) (h2 : s ≤ ns.length) (h : IsPer ns s) (no : ∀ j, 1 ≤ j → j < s → ¬ IsPer ns j) : IsRoot ns s := by
  have hne : ns ≠ [] := fun z => by
    rw [z] at h2
    simp at h2
    omega
  obtain ⟨r, hr⟩ := root_ex hne
  have t := per_turn h1 h2 h
  rcases Nat.lt_trichotomy r s with g | g | g
  · exact absurd (root_per hr) (no r hr.1 g)
  · rw [← g]
    exact hr
  · exact absurd t (hr.2.2.2 s h1 g)
end Tt
set_option maxRecDepth 100000
set_option maxHeartbeats 4000000
namespace Ln
open Wd
def gt (ns : List Int) (i : Int) : Int := ns.getD (i % (ns.length : Int)).toNat 0
theorem gt_get {ns : List Int} (hne : ns ≠ []) (i : Int) : ns[(i % (ns.length : Int)).toNat]? = some (gt ns i) := by
  have l0 : 0 < ns.length := List.length_pos_iff.mpr hne
  have h1 := Int.emod_nonneg i (show (ns.length : Int) ≠ 0 by omega)
  have h2 := Int.emod_lt_of_pos i (show (0 : Int) < (ns.length : Int) by omega)
  have h3 : (i % (ns.length : Int)).toNat < ns.length := by omega
  unfold gt
  rw [List.getD_eq_getElem?_getD, List.getElem?_eq_getElem h3]
  rfl
theorem gt_mem {ns : List Int} (hne : ns ≠ []) (i : Int) : gt ns i ∈ ns := List.mem_of_getElem? (gt_get hne i)
theorem gt_nat {ns : List Int} {i : Nat} {x : Int} (h : ns[i]? = some x) : gt ns (i : Int) = x := by
  have hl := (List.getElem?_eq_some_iff.mp h).1
  have e : ((i : Int) % (ns.length : Int)).toNat = i := by rw [Int.emod_eq_of_lt (by omega) (by omega)]; omega
  have := gt_get (ns := ns) (fun z => by rw [z] at hl; cases hl) i
  rw [e, h] at this
  exact (Option.some.inj this).symm
theorem gt_mod {ns : List Int} {i j : Int} (h : i % (ns.length : Int) = j % (ns.length : Int)) : gt ns i = gt ns j := by
  unfold gt
  rw [h]
def lon (ns : List Int) (p w f : Int) : Int := if w = 1 then gt ns (p + w * f) else mate (gt ns (p + w * f))
theorem lon_sh1 (ns : List Int) (p a f : Int) : lon ns (p + a) 1 f = lon ns p 1 (a + f) := by
  unfold lon
  rw [if_pos rfl, if_pos rfl]
  exact gt_mod (by rw [show p + a + 1 * f = p + 1 * (a + f) by omega])
theorem lon_sh (ns : List Int) (p a f w : Int) (hw : w = 1 ∨ w = -1) : lon ns (p + w * a) w f = lon ns p w (a + f) := by
  unfold lon
  have e : p + w * a + w * f = p + w * (a + f) := by rw [Int.mul_add]; omega
  rw [e]
def shr (f g : Int → Int) (s : Int) (n : Nat) : Option Nat := (List.range n).find? fun m => decide (f (s * ((m : Int) + 1)) ≠ g (s * ((m : Int) + 1)))
theorem find_range (p : Nat → Bool) : ∀ n, (∀ m, (List.range n).find? p = some m ↔ m < n ∧ p m = true ∧ ∀ k, k < m → p k = false) ∧ ((List.range n).find? p = none ↔ ∀ k, k < n → p k = false)
  | 0 => ⟨fun m => ⟨fun h => by simp at h, fun h => absurd h.1 (Nat.not_lt_zero _)⟩, ⟨fun _ k h => absurd h (Nat.not_lt_zero _), fun _ => rfl⟩⟩
  | n + 1 => by
    obtain ⟨h1, h2⟩ := find_range p n
    have e : (List.range (n + 1)).find? p = ((List.range n).find? p).or (if p n = true then some n else none) := by
      rw [List.range_succ, List.find?_append]
      congr 1
      simp only [List.find?_cons, List.find?_nil]
      cases p n <;> rfl
    rw [e]
    cases q : (List.range n).find? p with
    | some j =>
      obtain ⟨a, b, c⟩ := (h1 j).mp q
      refine ⟨fun m => ⟨fun h => ?_, fun ⟨x, y, z⟩ => ?_⟩, ⟨(fun h => nomatch (show some j = none from h)), fun h => ?_⟩⟩
      · cases h
        exact ⟨by omega, b, c⟩
      · show some j = some m
        congr 1
        rcases Nat.lt_trichotomy j m with l | l | l
        · have := z j l
          rw [b] at this
          cases this
        · exact l
        · have := c m l
          rw [y] at this
          cases this
      · have := h j (by omega)
        rw [b] at this
        cases this
    | none =>
      have q' := h2.mp q
      refine ⟨fun m => ⟨fun h => ?_, fun ⟨x, y, z⟩ => ?_⟩, ⟨fun h k hk => ?_, fun h => ?_⟩⟩
      · by_cases hp : p n = true
        · simp only [Option.none_or, if_pos hp] at h
          cases h
          exact ⟨by omega, hp, q'⟩
        · simp only [Option.none_or, if_neg hp] at h
          cases h
      · by_cases hm : m = n
        · subst hm
          simp only [Option.none_or, if_pos y]
        · have := q' m (by omega)
          rw [y] at this
          cases this
      · by_cases hp : p n = true
        · simp only [Option.none_or, if_pos hp] at h
          cases h
        · by_cases hk2 : k = n
          · subst hk2
            simpa using hp
          · exact q' k (by omega)
      · have := h n (by omega)
        simp [this]
theorem shr_some {f g : Int → Int} {s : Int} {n m : Nat} : shr f g s n = some m ↔ m < n ∧ f (s * ((m : Int) + 1)) ≠ g (s * ((m : Int) + 1)) ∧ ∀ k, k < m → f (s * ((k : Int) + 1)) = g (s * ((k : Int) + 1)) := by
  unfold shr
  rw [(find_range _ n).1 m]
  simp
theorem shr_none {f g : Int → Int} {s : Int} {n : Nat} : shr f g s n = none ↔ ∀ k, k < n → f (s * ((k : Int) + 1)) = g (s * ((k : Int) + 1)) := by
  unfold shr
  rw [(find_range _ n).2]
  simp
def pl (row : List Int) (e : Int) : Int := ((row.idxOf e : Nat) : Int)
def ahd (row : List Int) (x a b : Int) : Bool := decide ((pl row a - pl row x) % (row.length : Int) < (pl row b - pl row x) % (row.length : Int))
def cst (row : List Int) (f g : Int → Int) (n : Nat) : Option (Int × Int × Bool) := match shr f g (-1) n, shr f g 1 n with
  | some b, some o => some ((b : Int), (b : Int) + 1 + (o : Int), (ahd row (f (-(b : Int))) (mate (f (-(b : Int) - 1))) (mate (g (-(b : Int) - 1)))) == (ahd row (mate (f (o : Int))) (f ((o : Int) + 1)) (g ((o : Int) + 1))))
  | _, _ => none
def lead (f g : Int → Int) (n : Nat) : Nat := ((List.range n).find? fun (m : Nat) => decide (f (m : Int) ≠ g (m : Int))).getD n
theorem lead_spec {f g : Int → Int} {n m : Nat} (h1 : m ≤ n) (h2 : ∀ k : Nat, k < m → f (k : Int) = g (k : Int)) (h3 : m < n → f (m : Int) ≠ g (m : Int)) : lead f g n = m := by
  unfold lead
  by_cases c : m < n
  · have e : (List.range n).find? (fun (m : Nat) => decide (f (m : Int) ≠ g (m : Int))) = some m := ((find_range _ n).1 m).mpr ⟨c, by simpa using h3 c, fun k hk => by simpa using h2 k hk⟩
    rw [e]
    rfl
  · have e : (List.range n).find? (fun (m : Nat) => decide (f (m : Int) ≠ g (m : Int))) = none := ((find_range _ n).2).mpr fun k hk => by simpa using h2 k (by omega)
    rw [e]
    show n = m
    omega
theorem lead_of {f g : Int → Int} {s : Int} {n : Nat} (h0 : f 0 = g 0) : lead (fun k => f (s * k)) (fun k => g (s * k)) (n + 1) = match shr f g s n with | some m => m + 1 | none => n + 1 := by
  cases q : shr f g s n with
  | some m =>
    obtain ⟨a, b, c⟩ := shr_some.mp q
    show lead _ _ (n + 1) = m + 1
    refine lead_spec (by omega) (fun k hk => ?_) (fun _ => ?_)
    · cases k with
      | zero => simpa using h0
      | succ k =>
        have := c k (by omega)
        simpa using this
    · simpa using b
  | none =>
    have a := shr_none.mp q
    show lead _ _ (n + 1) = n + 1
    refine lead_spec (Nat.le_refl _) (fun k hk => ?_) (fun z => absurd z (Nat.lt_irrefl _))
    cases k with
    | zero => simpa using h0
    | succ k =>
      have := a k (by omega)
      simpa using this
def farG (row : List Int) : Option Int → List Int → List Int
  | _, [] => []
  | none, l :: ls => pl row l :: farG row (some (mate l)) ls
  | some c, l :: ls => (pl row l - pl row c) % (row.length : Int) :: farG row (some (mate l)) ls
def far (row ls : List Int) : List Int := farG row none ls
def seqN (u : Int → Int) (n : Nat) : List Int := (List.range n).map fun (k : Nat) => u (k : Int)
theorem seqN_get {u : Int → Int} {n k : Nat} (h : k < n) : (seqN u n)[k]? = some (u (k : Int)) := by
  unfold seqN
  rw [List.getElem?_map, List.getElem?_range h]
  rfl
theorem seqN_len (u : Int → Int) (n : Nat) : (seqN u n).length = n := by unfold seqN; rw [List.length_map, List.length_range]
theorem farG_len (row : List Int) : ∀ (ls : List Int) (c : Option Int), (farG row c ls).length = ls.length
  | [], c => by cases c <;> rfl
  | l :: ls, none => by
    show (_ :: farG row (some (mate l)) ls).length = _
    rw [List.length_cons, farG_len row ls, List.length_cons]
  | l :: ls, some c => by
    show (_ :: farG row (some (mate l)) ls).length = _
    rw [List.length_cons, farG_len row ls, List.length_cons]
theorem farG_succ (row : List Int) : ∀ (ls : List Int) (c : Option Int) (k : Nat) (a b : Int), ls[k]? = some a → ls[k + 1]? = some b → (farG row c ls)[k + 1]? = some ((pl row b - pl row (mate a)) % (row.length : Int))
  | [], _, _, _, _, h, _ => by simp at h
  | l :: ls, c, 0, a, b, h1, h2 => by
    have e : l = a := by simpa using h1
    subst e
    have e2 : farG row c (l :: ls) = (match c with | none => pl row l | some c => (pl row l - pl row c) % (row.length : Int)) :: farG row (some (mate l)) ls := by cases c <;> rfl
    rw [e2, List.getElem?_cons_succ]
    cases ls with
    | nil => simp at h2
    | cons y ls =>
      have e : y = b := by simpa using h2
      subst e
      rfl
  | l :: ls, c, k + 1, a, b, h1, h2 => by
    have e2 : farG row c (l :: ls) = (match c with | none => pl row l | some c => (pl row l - pl row c) % (row.length : Int)) :: farG row (some (mate l)) ls := by cases c <;> rfl
    rw [e2, List.getElem?_cons_succ]
    exact farG_succ row ls _ k a b (by simpa using h1) (by simpa using h2)
theorem far_zero {row ls : List Int} {a : Int} (h : ls[0]? = some a) : (far row ls)[0]? = some (pl row a) := by
  cases ls with
  | nil => simp at h
  | cons l ls =>
    have e : l = a := by simpa using h
    subst e
    rfl
theorem far_succ {row ls : List Int} {k : Nat} {a b : Int} (h1 : ls[k]? = some a) (h2 : ls[k + 1]? = some b) : (far row ls)[k + 1]? = some ((pl row b - pl row (mate a)) % (row.length : Int)) := farG_succ row ls none k a b h1 h2
theorem far_len (row ls : List Int) : (far row ls).length = ls.length := farG_len row ls none
theorem lex_at : ∀ (k : Nat) (xs ys : List Int) (a b : Int), xs.take k = ys.take k → xs[k]? = some a → ys[k]? = some b → a ≠ b → (xs < ys ↔ a < b)
  | 0, xs, ys, a, b, _, h1, h2, hne => by
    cases xs with
    | nil => simp at h1
    | cons x xs =>
      cases ys with
      | nil => simp at h2
      | cons y ys =>
        have e1 : x = a := by simpa using h1
        have e2 : y = b := by simpa using h2
        subst e1 e2
        rw [List.cons_lt_cons_iff]
        constructor
        · rintro (h | ⟨h, _⟩)
          · exact h
          · exact absurd h hne
        · exact fun h => .inl h
  | k + 1, xs, ys, a, b, ht, h1, h2, hne => by
    cases xs with
    | nil => simp at h1
    | cons x xs =>
      cases ys with
      | nil => simp at h2
      | cons y ys =>
        rw [List.take_succ_cons, List.take_succ_cons] at ht
        injection ht with e1 e2
        subst e1
        rw [List.cons_lt_cons_iff]
        have ih := lex_at k xs ys a b e2 (by simpa using h1) (by simpa using h2) hne
        constructor
        · rintro (h | ⟨_, h⟩)
          · exact absurd h (Int.lt_irrefl _)
          · exact ih.mp h
        · exact fun h => .inr ⟨rfl, ih.mpr h⟩
theorem take_ext {xs ys : List Int} {k : Nat} (h : ∀ i, i < k → xs[i]? = ys[i]?) : xs.take k = ys.take k := by
  apply List.ext_getElem?
  intro i
  rw [List.getElem?_take, List.getElem?_take]
  by_cases c : i < k
  · rw [if_pos c, if_pos c, h i c]
  · rw [if_neg c, if_neg c]
theorem far_alike {row : List Int} {u v : Int → Int} {n k : Nat} (hk : k ≤ n) (h : ∀ i : Nat, i < k → u (i : Int) = v (i : Int)) : (far row (seqN u n)).take k = (far row (seqN v n)).take k := by
  refine take_ext fun i hi => ?_
  cases i with
  | zero => rw [far_zero (seqN_get (u := u) (by omega)), far_zero (seqN_get (u := v) (by omega)), h 0 hi]
  | succ i => rw [far_succ (seqN_get (u := u) (k := i) (by omega)) (seqN_get (u := u) (by omega)), far_succ (seqN_get (u := v) (k := i) (by omega)) (seqN_get (u := v) (by omega)), h i (by omega), h (i + 1) hi]
theorem far_lt {row : List Int} {u v : Int → Int} {n k : Nat} (hk : k + 1 < n) (h : ∀ i : Nat, i < k + 1 → u (i : Int) = v (i : Int))
    (hne : (pl row (u ((k : Int) + 1)) - pl row (mate (u (k : Int)))) % (row.length : Int) ≠ (pl row (v ((k : Int) + 1)) - pl row (mate (u (k : Int)))) % (row.length : Int)) :
    (far row (seqN u n) < far row (seqN v n) ↔ ahd row (mate (u (k : Int))) (u ((k : Int) + 1)) (v ((k : Int) + 1)) = true) := by
  have e := h k (by omega)
  rw [lex_at (k + 1) _ _ _ _ (far_alike (by omega) h) (far_succ (seqN_get (u := u) (k := k) (by omega)) (seqN_get (u := u) hk)) (far_succ (seqN_get (u := v) (k := k) (by omega)) (seqN_get (u := v) hk))
    (by rw [← e]; exact hne)]
  unfold ahd
  rw [decide_eq_true_iff, ← e]
  exact Iff.rfl
end Ln
set_option maxRecDepth 100000
set_option maxHeartbeats 4000000
namespace Ln
open Wd
def mn (a b : List Int) : List Int := if b < a then b else a
def mx (a b : List Int) : List Int := if a < b then b else a
def byT (a b c d : List Int) : Bool := (decide (mn a b < mn c d) && (decide (mn c d < mx a b) && decide (mx a b < mx c d))) || (decide (mn c d < mn a b) && (decide (mn a b < mx c d) && decide (mx c d < mx a b)))
theorem lt_asymm' {a b : List Int} (h : a < b) : ¬ b < a := fun z => List.lt_irrefl a (List.lt_trans h z)
theorem lt_or {a b : List Int} (h : a ≠ b) : a < b ∨ b < a := by
  rcases Classical.em (a < b) with k | k
  · exact .inl k
  · rcases Classical.em (b < a) with j | j
    · exact .inr j
    · exact absurd (List.le_antisymm (as := a) (bs := b) (by simpa using j) (by simpa using k)) h
theorem mn_comm (a b : List Int) : mn a b = mn b a := by
  unfold mn
  by_cases e : a = b
  · rw [e]
  · rcases lt_or e with h | h
    · rw [if_pos h, if_neg (lt_asymm' h)]
    · rw [if_pos h, if_neg (lt_asymm' h)]
theorem mx_comm (a b : List Int) : mx a b = mx b a := by
  unfold mx
  by_cases e : a = b
  · rw [e]
  · rcases lt_or e with h | h
    · rw [if_pos h, if_neg (lt_asymm' h)]
    · rw [if_pos h, if_neg (lt_asymm' h)]
theorem byT_comm (a b c d : List Int) : byT a b d c = byT a b c d := by
  unfold byT
  rw [mn_comm d c, mx_comm d c]
theorem byT_lo {a b c d : List Int} (h1 : a < b) (h2 : a < d) (h3 : c < b) (h4 : c < d) (h5 : a < c ∨ c < a) (h6 : b < d ∨ d < b) : byT a b c d = (decide (a < c) == decide (b < d)) := by
  have e1 : mn a b = a := if_neg (lt_asymm' h1)
  have e2 : mx a b = b := if_pos h1
  have e3 : mn c d = c := if_neg (lt_asymm' h4)
  have e4 : mx c d = d := if_pos h4
  unfold byT
  rw [e1, e2, e3, e4, decide_eq_true h3, decide_eq_true h2]
  rcases h5 with h5 | h5 <;> rcases h6 with h6 | h6
  · rw [decide_eq_true h5, decide_eq_true h6, decide_eq_false (lt_asymm' h5)]; rfl
  · rw [decide_eq_true h5, decide_eq_true h6, decide_eq_false (lt_asymm' h5), decide_eq_false (lt_asymm' h6)]; rfl
  · rw [decide_eq_true h5, decide_eq_true h6, decide_eq_false (lt_asymm' h5), decide_eq_false (lt_asymm' h6)]; rfl
  · rw [decide_eq_true h5, decide_eq_true h6, decide_eq_false (lt_asymm' h5), decide_eq_false (lt_asymm' h6)]; rfl
theorem byT_swap (a b c d : List Int) : byT b a d c = byT a b c d := by
  unfold byT
  rw [mn_comm b a, mx_comm b a, mn_comm d c, mx_comm d c]
theorem byT_ac {a b c d : List Int} (h1 : a < b) (h2 : a < d) (h3 : b < c) (h4 : d < c) (h6 : b < d ∨ d < b) : byT a b c d = !decide (b < d) := by
  have e1 : mn a b = a := if_neg (lt_asymm' h1)
  have e2 : mx a b = b := if_pos h1
  have e3 : mn c d = d := if_pos h4
  have e4 : mx c d = c := if_neg (lt_asymm' h4)
  unfold byT
  rw [e1, e2, e3, e4, decide_eq_true h2, decide_eq_true h3, decide_eq_false (lt_asymm' h2)]
  rcases h6 with h6 | h6
  · rw [decide_eq_true h6, decide_eq_false (lt_asymm' h6)]; rfl
  · rw [decide_eq_true h6, decide_eq_false (lt_asymm' h6)]; rfl
theorem byT_ca {a b c d : List Int} (h1 : b < a) (h2 : d < a) (h3 : c < b) (h4 : c < d) (h6 : b < d ∨ d < b) : byT a b c d = decide (b < d) := by
  have e1 : mn a b = b := if_pos h1
  have e2 : mx a b = a := if_neg (lt_asymm' h1)
  have e3 : mn c d = c := if_neg (lt_asymm' h4)
  have e4 : mx c d = d := if_pos h4
  unfold byT
  rw [e1, e2, e3, e4, decide_eq_true h2, decide_eq_true h3, decide_eq_false (lt_asymm' h3)]
  rcases h6 with h6 | h6
  · rw [decide_eq_true h6]; rfl
  · rw [decide_eq_false (lt_asymm' h6)]; rfl
structure Two (row : List Int) (f g : Int → Int) : Prop where
  pos : 0 < row.length
  rf : ∀ t, f t ∈ row ∧ mate (f t) ∈ row
  rg : ∀ t, g t ∈ row ∧ mate (g t) ∈ row
  at0 : f 0 = g 0
  nf : ∀ t, f (t + 1) ≠ mate (f t)
  ng : ∀ t, g (t + 1) ≠ mate (g t)
theorem pl_range {row : List Int} {x : Int} (h : x ∈ row) : 0 ≤ pl row x ∧ pl row x < (row.length : Int) := by
  have := List.idxOf_lt_length_of_mem h
  unfold pl
  omega
theorem pl_inj {row : List Int} {x y : Int} (hx : x ∈ row) (hy : y ∈ row) (h : pl row x = pl row y) : x = y := by
  have e : row.idxOf x = row.idxOf y := by
    unfold pl at h
    omega
  have h1 := List.getElem_idxOf (List.idxOf_lt_length_of_mem hx)
  have h2 := List.getElem_idxOf (List.idxOf_lt_length_of_mem hy)
  rw [← h1, ← h2]
  congr 1
theorem mod_inj {x y c m : Int} (h0 : 0 ≤ x) (h1 : x < m) (h2 : 0 ≤ y) (h3 : y < m) (h : (x - c) % m = (y - c) % m) : x = y := by
  have h4 : (x - y) % m = 0 := by
    have e : x - y = (x - c) - (y - c) := by omega
    rw [e]
    exact Int.emod_eq_emod_iff_emod_sub_eq_zero.mp h
  obtain ⟨k, hk⟩ := Int.dvd_of_emod_eq_zero h4
  have : k = 0 := by
    rcases Int.lt_trichotomy k 0 with z | z | z
    · exfalso
      have : m * k ≤ m * (-1) := Int.mul_le_mul_of_nonneg_left (by omega) (by omega)
      omega
    · exact z
    · exfalso
      have : m * 1 ≤ m * k := Int.mul_le_mul_of_nonneg_left (by omega) (by omega)
      omega
  subst this
  omega
theorem ahd_ne {row : List Int} {x a b : Int} (ha : a ∈ row) (hb : b ∈ row) (h : a ≠ b) : (pl row a - pl row x) % (row.length : Int) ≠ (pl row b - pl row x) % (row.length : Int) := fun z =>
  h (pl_inj ha hb (mod_inj (pl_range ha).1 (pl_range ha).2 (pl_range hb).1 (pl_range hb).2 z))
theorem ahd_swap {row : List Int} {x a b : Int} (ha : a ∈ row) (hb : b ∈ row) (h : a ≠ b) : ahd row x b a = !ahd row x a b := by
  have := ahd_ne (x := x) ha hb h
  unfold ahd
  by_cases c : (pl row a - pl row x) % (row.length : Int) < (pl row b - pl row x) % (row.length : Int)
  · rw [decide_eq_true c, decide_eq_false (by omega)]; rfl
  · rw [decide_eq_false c, decide_eq_true (by omega)]; rfl
theorem mate_inj {a b : Int} (h : mate a = mate b) : a = b := by
  have := congrArg mate h
  rwa [mate_mate, mate_mate] at this
section
variable {row : List Int} {f g : Int → Int} {n b o : Nat}
def onw (f : Int → Int) : Int → Int := fun k => f (1 + k)
def bck (f : Int → Int) : Int → Int := fun k => mate (f (-k))
theorem lt_dec {a b : List Int} {c : Bool} (h : a < b ↔ c = true) (hne : a ≠ b) : decide (a < b) = c ∧ (a < b ∨ b < a) := by
  refine ⟨?_, lt_or hne⟩
  cases c with
  | true => exact decide_eq_true (h.mpr rfl)
  | false => exact decide_eq_false fun z => Bool.false_ne_true (h.mp z)
theorem ne_at {xs ys : List Int} {k : Nat} {a b : Int} (h1 : xs[k]? = some a) (h2 : ys[k]? = some b) (h : a ≠ b) : xs ≠ ys := fun z => h (by
  rw [z, h2] at h1
  exact (Option.some.inj h1).symm)
theorem turns_eq (T : Two row f g) (hb : shr f g (-1) n = some b) (ho : shr f g 1 n = some o) :
    byT (far row (seqN (onw f) (n + 1))) (far row (seqN (bck f) (n + 1))) (far row (seqN (onw g) (n + 1))) (far row (seqN (bck g) (n + 1))) =
      (ahd row (f (-(b : Int))) (mate (f (-(b : Int) - 1))) (mate (g (-(b : Int) - 1))) == ahd row (mate (f (o : Int))) (f ((o : Int) + 1)) (g ((o : Int) + 1))) := by
  obtain ⟨b1, b2, b3⟩ := shr_some.mp hb
  obtain ⟨o1, o2, o3⟩ := shr_some.mp ho
  have eb : -1 * ((b : Int) + 1) = -(b : Int) - 1 := by omega
  rw [eb] at b2
  rw [Int.one_mul] at o2
  have hB : (far row (seqN (bck f) (n + 1)) < far row (seqN (bck g) (n + 1)) ↔ ahd row (f (-(b : Int))) (mate (f (-(b : Int) - 1))) (mate (g (-(b : Int) - 1))) = true) ∧ far row (seqN (bck f) (n + 1)) ≠ far row (seqN (bck g) (n + 1)) := by
    have alike : ∀ i : Nat, i < b + 1 → bck f (i : Int) = bck g (i : Int) := fun i hi => by
      unfold bck
      cases i with
      | zero => exact congrArg mate T.at0
      | succ i =>
        have := b3 i (by omega)
        rw [show -1 * ((i : Int) + 1) = -((i + 1 : Nat) : Int) by omega] at this
        rw [this]
    have e1 : bck f ((b : Int) + 1) = mate (f (-(b : Int) - 1)) := by
      unfold bck
      rw [show -((b : Int) + 1) = -(b : Int) - 1 by omega]
    have e2 : bck g ((b : Int) + 1) = mate (g (-(b : Int) - 1)) := by
      unfold bck
      rw [show -((b : Int) + 1) = -(b : Int) - 1 by omega]
    have e3 : mate (bck f (b : Int)) = f (-(b : Int)) := mate_mate _
    have ne := ahd_ne (x := f (-(b : Int))) (T.rf (-(b : Int) - 1)).2 (T.rg (-(b : Int) - 1)).2 (fun z => b2 (mate_inj z))
    have h := far_lt (row := row) (n := n + 1) (k := b) (by omega) alike (by rw [e1, e2, e3]; exact ne)
    rw [e1, e2, e3] at h
    refine ⟨h, ?_⟩
    have s1 := far_succ (row := row) (seqN_get (u := bck f) (n := n + 1) (k := b) (by omega)) (seqN_get (u := bck f) (k := b + 1) (by omega))
    have s2 := far_succ (row := row) (seqN_get (u := bck g) (n := n + 1) (k := b) (by omega)) (seqN_get (u := bck g) (k := b + 1) (by omega))
    refine ne_at s1 s2 ?_
    have e4 : bck g (b : Int) = bck f (b : Int) := (alike b (by omega)).symm
    rw [e4, show ((b + 1 : Nat) : Int) = (b : Int) + 1 by omega, e1, e2, e3]
    exact ne
  obtain ⟨hBd, hBo⟩ := lt_dec hB.1 hB.2
  have zA1 := far_zero (row := row) (seqN_get (u := onw f) (n := n + 1) (k := 0) (by omega))
  have zA2 := far_zero (row := row) (seqN_get (u := onw g) (n := n + 1) (k := 0) (by omega))
  have zB1 := far_zero (row := row) (seqN_get (u := bck f) (n := n + 1) (k := 0) (by omega))
  have zB2 := far_zero (row := row) (seqN_get (u := bck g) (n := n + 1) (k := 0) (by omega))
  have q1 : onw f ((0 : Nat) : Int) = f 1 := rfl
  have q2 : onw g ((0 : Nat) : Int) = g 1 := rfl
  have q3 : bck f ((0 : Nat) : Int) = mate (f 0) := rfl
  have q4 : bck g ((0 : Nat) : Int) = mate (f 0) := by
    show mate (g 0) = _
    rw [T.at0]
  rw [q1] at zA1
  rw [q2] at zA2
  rw [q3] at zB1
  rw [q4] at zB2
  have n1 : pl row (f 1) ≠ pl row (mate (f 0)) := fun z => T.nf 0 (by simpa using pl_inj (T.rf 1).1 (T.rf 0).2 z)
  have n2 : pl row (g 1) ≠ pl row (mate (f 0)) := fun z => T.ng 0 (by rw [← T.at0]; simpa using pl_inj (T.rg 1).1 (T.rf 0).2 z)
  have cr : ∀ {xs ys : List Int} {a c : Int}, xs[0]? = some a → ys[0]? = some c → a < c → xs < ys := fun h1 h2 h => (lex_at 0 _ _ _ _ (by rw [List.take_zero, List.take_zero]) h1 h2 (by omega)).mpr h
  have r1 := pl_range (T.rf 1).1
  have r2 := pl_range (T.rg 1).1
  have r3 := pl_range (T.rf 0).2
  generalize hA1 : far row (seqN (onw f) (n + 1)) = A1 at zA1
  generalize hA2 : far row (seqN (onw g) (n + 1)) = A2 at zA2
  generalize hB1 : far row (seqN (bck f) (n + 1)) = B1 at zB1 hBd hBo
  generalize hB2 : far row (seqN (bck g) (n + 1)) = B2 at zB2 hBd hBo
  rw [← hBd]
  cases o with
  | succ o =>
    have alike : ∀ i : Nat, i < o + 1 → onw f (i : Int) = onw g (i : Int) := fun i hi => by
      have := o3 i hi
      unfold onw
      rw [Int.one_mul, Int.add_comm] at this
      exact this
    have e1 : onw f ((o : Int) + 1) = f (((o + 1 : Nat) : Int) + 1) := by
      unfold onw
      exact congrArg f (by omega)
    have e2 : onw g ((o : Int) + 1) = g (((o + 1 : Nat) : Int) + 1) := by
      unfold onw
      exact congrArg g (by omega)
    have e3 : onw f (o : Int) = f ((o + 1 : Nat) : Int) := by
      unfold onw
      exact congrArg f (by omega)
    have ne := ahd_ne (x := mate (f ((o + 1 : Nat) : Int))) (T.rf (((o + 1 : Nat) : Int) + 1)).1 (T.rg (((o + 1 : Nat) : Int) + 1)).1 o2
    have h := far_lt (row := row) (n := n + 1) (k := o) (by omega) alike (by rw [e1, e2, e3]; exact ne)
    rw [e1, e2, e3, hA1, hA2] at h
    have s1 := far_succ (row := row) (seqN_get (u := onw f) (n := n + 1) (k := o) (by omega)) (seqN_get (u := onw f) (k := o + 1) (by omega))
    have s2 := far_succ (row := row) (seqN_get (u := onw g) (n := n + 1) (k := o) (by omega)) (seqN_get (u := onw g) (k := o + 1) (by omega))
    have hne : A1 ≠ A2 := by
      rw [← hA1, ← hA2]
      refine ne_at s1 s2 ?_
      have e4 : onw g (o : Int) = onw f (o : Int) := (alike o (by omega)).symm
      rw [e4, show ((o + 1 : Nat) : Int) = (o : Int) + 1 by omega, e1, e2, e3]
      exact ne
    obtain ⟨hAd, hAo⟩ := lt_dec h hne
    rw [← hAd]
    have g1 : g 1 = f 1 := by
      have := o3 0 (by omega)
      simpa using this.symm
    rw [g1] at zA2
    rcases Int.lt_or_gt_of_ne n1 with k | k
    · rw [byT_lo (cr zA1 zB1 k) (cr zA1 zB2 k) (cr zA2 zB1 k) (cr zA2 zB2 k) hAo hBo, Bool.beq_comm]
    · rw [← byT_swap, byT_lo (cr zB1 zA1 k) (cr zB1 zA2 k) (cr zB2 zA1 k) (cr zB2 zA2 k) hBo hAo]
  | zero =>
    have o2' : f 1 ≠ g 1 := by simpa using o2
    have n3 : pl row (f 1) ≠ pl row (g 1) := fun z => o2' (pl_inj (T.rf 1).1 (T.rg 1).1 z)
    have hA : (A1 < A2 ↔ pl row (f 1) < pl row (g 1)) := lex_at 0 _ _ _ _ (by rw [List.take_zero, List.take_zero]) zA1 zA2 n3
    have hAo : A1 < A2 ∨ A2 < A1 := lt_or (ne_at zA1 zA2 n3)
    have mL : ∀ x : Int, 0 ≤ x → x < (row.length : Int) → x < pl row (mate (f 0)) → (x - pl row (mate (f 0))) % (row.length : Int) = x - pl row (mate (f 0)) + (row.length : Int) := fun x h0 h1 h2 => by
      have e : (x - pl row (mate (f 0))) % (row.length : Int) = (x - pl row (mate (f 0)) + (row.length : Int)) % (row.length : Int) := by rw [Int.add_emod_right]
      rw [e, Int.emod_eq_of_lt (by omega) (by omega)]
    have mG : ∀ x : Int, 0 ≤ x → x < (row.length : Int) → pl row (mate (f 0)) < x → (x - pl row (mate (f 0))) % (row.length : Int) = x - pl row (mate (f 0)) := fun x h0 h1 h2 => Int.emod_eq_of_lt (by omega) (by omega)
    have et : ahd row (mate (f ((0 : Nat) : Int))) (f (((0 : Nat) : Int) + 1)) (g (((0 : Nat) : Int) + 1)) = decide ((pl row (f 1) - pl row (mate (f 0))) % (row.length : Int) < (pl row (g 1) - pl row (mate (f 0))) % (row.length : Int)) := rfl
    rw [et]
    rcases Int.lt_or_gt_of_ne n1 with k1 | k1 <;> rcases Int.lt_or_gt_of_ne n2 with k2 | k2
    · rw [byT_lo (cr zA1 zB1 k1) (cr zA1 zB2 k1) (cr zA2 zB1 k2) (cr zA2 zB2 k2) hAo hBo, mL _ r1.1 r1.2 k1, mL _ r2.1 r2.2 k2, Bool.beq_comm]
      congr 1
      exact decide_eq_decide.mpr (hA.trans (by omega))
    · rw [byT_ac (cr zA1 zB1 k1) (cr zA1 zB2 k1) (cr zB1 zA2 k2) (cr zB2 zA2 k2) hBo, mL _ r1.1 r1.2 k1, mG _ r2.1 r2.2 k2, decide_eq_false (show ¬ pl row (f 1) - pl row (mate (f 0)) + (row.length : Int) < pl row (g 1) - pl row (mate (f 0)) by omega)]
      cases decide (B1 < B2) <;> rfl
    · rw [byT_ca (cr zB1 zA1 k1) (cr zB2 zA1 k1) (cr zA2 zB1 k2) (cr zA2 zB2 k2) hBo, mG _ r1.1 r1.2 k1, mL _ r2.1 r2.2 k2, decide_eq_true (show pl row (f 1) - pl row (mate (f 0)) < pl row (g 1) - pl row (mate (f 0)) + (row.length : Int) by omega)]
      cases decide (B1 < B2) <;> rfl
    · rw [← byT_swap, byT_lo (cr zB1 zA1 k1) (cr zB1 zA2 k2) (cr zB2 zA1 k1) (cr zB2 zA2 k2) hBo hAo, mG _ r1.1 r1.2 k1, mG _ r2.1 r2.2 k2]
      congr 1
      exact decide_eq_decide.mpr (hA.trans (by omega))
end
end Ln
set_option maxRecDepth 100000
set_option maxHeartbeats 4000000
namespace Ln
open Wd
theorem app_gt {ns : List Int} (hne : ns ≠ []) {j : Nat} (h : j < ns.length + ns.length) : (ns ++ ns)[j]? = some (gt ns (j : Int)) := by
  have l0 : 0 < ns.length := List.length_pos_iff.mpr hne
  have g := gt_get hne (j : Int)
  by_cases c : j < ns.length
  · rw [List.getElem?_append_left c]
    rw [Int.emod_eq_of_lt (by omega) (by omega)] at g
    simpa using g
  · rw [List.getElem?_append_right (by omega)]
    have e : (j : Int) % (ns.length : Int) = ((j - ns.length : Nat) : Int) := by
      have : (j : Int) = ((j - ns.length : Nat) : Int) + (ns.length : Int) := by omega
      rw [this, Int.add_emod_right, Int.emod_eq_of_lt (by omega) (by omega)]
    rw [e] at g
    simpa using g
theorem cr_gt {ns : List Int} (hne : ns ≠ []) (c : CR ns) (t : Int) : gt ns (t + 1) ≠ mate (gt ns t) := by
  have l0 : 0 < ns.length := List.length_pos_iff.mpr hne
  have h0 := Int.emod_nonneg t (show (ns.length : Int) ≠ 0 by omega)
  have h1 := Int.emod_lt_of_pos t (show (0 : Int) < (ns.length : Int) by omega)
  obtain ⟨j, hj⟩ := Int.eq_ofNat_of_zero_le h0
  have e1 : gt ns t = gt ns (j : Int) := gt_mod (by rw [← hj, Int.emod_emod])
  have e2 : gt ns (t + 1) = gt ns ((j + 1 : Nat) : Int) := gt_mod (by
    rw [show ((j + 1 : Nat) : Int) = (j : Int) + 1 by omega, ← hj, Int.emod_add_emod])
  rw [e1, e2]
  exact c j _ _ (app_gt hne (by omega)) (app_gt hne (by omega))
theorem lon1 (ns : List Int) (p f : Int) : lon ns p 1 f = gt ns (p + f) := by
  unfold lon
  rw [if_pos rfl, Int.one_mul]
theorem lonM (ns : List Int) (p f : Int) : lon ns p (-1) f = mate (gt ns (p - f)) := by
  unfold lon
  rw [if_neg (by decide)]
  exact congrArg (fun z => mate (gt ns z)) (by omega)
theorem lon_red {ns : List Int} (hne : ns ≠ []) (c : CR ns) (p : Int) {w : Int} (hw : w = 1 ∨ w = -1) (t : Int) : lon ns p w (t + 1) ≠ mate (lon ns p w t) := by
  rcases hw with rfl | rfl
  · rw [lon1, lon1, ← Int.add_assoc]
    exact cr_gt hne c _
  · rw [lonM, lonM, mate_mate]
    intro z
    have := cr_gt hne c (p - (t + 1))
    rw [show p - (t + 1) + 1 = p - t by omega] at this
    exact this z.symm
theorem lon_mem {ns row : List Int} (hne : ns ≠ []) (hr : ∀ x ∈ ns, x ∈ row ∧ mate x ∈ row) (p w t : Int) : lon ns p w t ∈ row ∧ mate (lon ns p w t) ∈ row := by
  unfold lon
  have := hr _ (gt_mem hne (p + w * t))
  split
  · exact this
  · rw [mate_mate]
    exact this.symm
def wayOf (a b : Int) : Int := if a = b then 1 else -1
theorem wayOf_or (a b : Int) : wayOf a b = 1 ∨ wayOf a b = -1 := by
  unfold wayOf
  split
  · exact .inl rfl
  · exact .inr rfl
theorem half_eq {a b : Int} (h : a / 2 = b / 2) (n : a ≠ b) : a = mate b := by
  unfold mate
  split <;> omega
theorem mate_half (a : Int) : mate a / 2 = a / 2 := by
  unfold mate
  split <;> omega
theorem mate_ne (a : Int) : mate a ≠ a := by
  unfold mate
  split <;> omega
theorem two_of {ns ms row : List Int} {p s : Int} (hl : 0 < row.length) (hn : ns ≠ []) (hm : ms ≠ []) (cn : CR ns) (cm : CR ms) (rn : ∀ x ∈ ns, x ∈ row ∧ mate x ∈ row) (rm : ∀ x ∈ ms, x ∈ row ∧ mate x ∈ row) (hb : gt ns p / 2 = gt ms s / 2) :
    Two row (lon ns p 1) (lon ms s (wayOf (gt ns p) (gt ms s))) := by
  refine ⟨hl, fun t => lon_mem hn rn _ _ _, fun t => lon_mem hm rm _ _ _, ?_, lon_red hn cn p (.inl rfl), lon_red hm cm s (wayOf_or _ _)⟩
  unfold wayOf
  split
  · rename_i e
    rw [lon1, lon1, Int.add_zero, Int.add_zero]
    exact e
  · rename_i e
    rw [lon1, lonM, Int.add_zero, Int.sub_zero]
    exact half_eq hb e
def pst (row ns ms : List Int) (p s : Int) : Option (Int × Int × Bool) := cst row (lon ns p 1) (lon ms s (wayOf (gt ns p) (gt ms s))) (ns.length + ms.length)
def rdL (ns : List Int) (p st : Int) : Int → Int := fun k => if st > 0 then gt ns (p + st * k) else mate (gt ns (p + st * k))
theorem rdL_lon (ns : List Int) (p : Int) {w : Int} (hw : w = 1 ∨ w = -1) : rdL ns p w = lon ns p w := by
  funext k
  unfold rdL lon
  rcases hw with rfl | rfl
  · rfl
  · rfl
def wayOn (row ns : List Int) (p : Int) (many : Nat) : List Int := far row (seqN (fun k => gt ns (p + 1 + k)) many)
def wayBk (row ns : List Int) (p : Int) (many : Nat) : List Int := far row (seqN (fun k => mate (gt ns (p - k))) many)
def ldue (row ns ms : List Int) (p s : Int) : Option (Int × Int × Bool) :=
  let w := wayOf (gt ns p) (gt ms s)
  let many := ns.length + ms.length + 1
  let onward := lead (rdL ns p 1) (rdL ms s w) many
  let back := lead (rdL ns p (-1)) (rdL ms s (-w)) many
  let q := if gt ns p = gt ms s then s else s - 1
  if onward = many ∨ back = many then none else some ((back : Int) - 1, (back : Int) + (onward : Int) - 1, byT (wayOn row ns p many) (wayBk row ns p many) (wayOn row ms q many) (wayBk row ms q many))
theorem lead_mate {f g : Int → Int} {n : Nat} : lead (fun k => mate (f k)) (fun k => mate (g k)) n = lead f g n := by
  unfold lead
  have e : (fun (m : Nat) => decide (mate (f (m : Int)) ≠ mate (g (m : Int)))) = fun (m : Nat) => decide (f (m : Int) ≠ g (m : Int)) := by
    funext m
    exact decide_eq_decide.mpr ⟨fun h z => h (by rw [z]), fun h z => h (mate_inj z)⟩
  rw [e]
theorem due_eq {ns ms row : List Int} {p s : Int} (hl : 0 < row.length) (hn : ns ≠ []) (hm : ms ≠ []) (cn : CR ns) (cm : CR ms) (rn : ∀ x ∈ ns, x ∈ row ∧ mate x ∈ row) (rm : ∀ x ∈ ms, x ∈ row ∧ mate x ∈ row) (hb : gt ns p / 2 = gt ms s / 2) :
    ldue row ns ms p s = pst row ns ms p s := by
  have T := two_of hl hn hm cn cm rn rm hb
  have hw := wayOf_or (gt ns p) (gt ms s)
  have l1 := lead_of (f := lon ns p 1) (g := lon ms s (wayOf (gt ns p) (gt ms s))) (s := 1) (n := ns.length + ms.length) T.at0
  have l2 := lead_of (f := lon ns p 1) (g := lon ms s (wayOf (gt ns p) (gt ms s))) (s := -1) (n := ns.length + ms.length) T.at0
  have e1 : lead (rdL ns p 1) (rdL ms s (wayOf (gt ns p) (gt ms s))) (ns.length + ms.length + 1) = lead (fun k => lon ns p 1 (1 * k)) (fun k => lon ms s (wayOf (gt ns p) (gt ms s)) (1 * k)) (ns.length + ms.length + 1) := by
    rw [rdL_lon ns p (.inl rfl), rdL_lon ms s hw]
    simp only [Int.one_mul]
  have neg : ∀ (xs : List Int) (i : Int) {w : Int}, w = 1 ∨ w = -1 → rdL xs i (-w) = fun k => mate (lon xs i w (-1 * k)) := fun xs i w hw => by
    funext k
    rcases hw with rfl | rfl
    · rw [lon1]
      unfold rdL
      rw [if_neg (by decide)]
    · rw [lonM, mate_mate]
      unfold rdL
      rw [if_pos (by decide)]
      exact congrArg (gt xs) (by omega)
  have e2 : lead (rdL ns p (-1)) (rdL ms s (-(wayOf (gt ns p) (gt ms s)))) (ns.length + ms.length + 1) = lead (fun k => lon ns p 1 (-1 * k)) (fun k => lon ms s (wayOf (gt ns p) (gt ms s)) (-1 * k)) (ns.length + ms.length + 1) := by
    rw [neg ns p (.inl rfl), neg ms s hw, lead_mate]
  rw [← e1] at l1
  rw [← e2] at l2
  unfold ldue pst cst
  dsimp only
  rw [l1, l2]
  cases hb' : shr (lon ns p 1) (lon ms s (wayOf (gt ns p) (gt ms s))) (-1) (ns.length + ms.length) with
  | none =>
    rw [if_pos (.inr rfl)]
  | some b =>
    cases ho : shr (lon ns p 1) (lon ms s (wayOf (gt ns p) (gt ms s))) 1 (ns.length + ms.length) with
    | none => rw [if_pos (.inl rfl)]
    | some o =>
      have hb1 := (shr_some.mp hb').1
      have ho1 := (shr_some.mp ho).1
      rw [if_neg (by show ¬ (o + 1 = _ ∨ b + 1 = _); omega)]
      have te := turns_eq T hb' ho
      have q1 : wayOn row ns p (ns.length + ms.length + 1) = far row (seqN (onw (lon ns p 1)) (ns.length + ms.length + 1)) := by
        unfold wayOn onw
        simp only [lon1, Int.add_assoc]
      have q2 : wayBk row ns p (ns.length + ms.length + 1) = far row (seqN (bck (lon ns p 1)) (ns.length + ms.length + 1)) := by
        unfold wayBk bck
        simp only [lon1, Int.sub_eq_add_neg]
      refine congrArg some (Prod.ext ?_ (Prod.ext ?_ (Eq.trans ?_ te)))
      · show ((b + 1 : Nat) : Int) - 1 = (b : Int)
        omega
      · show ((b + 1 : Nat) : Int) + ((o + 1 : Nat) : Int) - 1 = (b : Int) + 1 + (o : Int)
        omega
      · show byT (wayOn row ns p (ns.length + ms.length + 1)) (wayBk row ns p (ns.length + ms.length + 1)) (wayOn row ms (if gt ns p = gt ms s then s else s - 1) (ns.length + ms.length + 1)) (wayBk row ms (if gt ns p = gt ms s then s else s - 1) (ns.length + ms.length + 1)) = _
        rw [q1, q2]
        by_cases c : gt ns p = gt ms s
        · have ew : wayOf (gt ns p) (gt ms s) = 1 := if_pos c
          rw [if_pos c, ew]
          congr 1
          · unfold wayOn onw
            simp only [lon1, Int.add_assoc]
          · unfold wayBk bck
            simp only [lon1, Int.sub_eq_add_neg]
        · have ew : wayOf (gt ns p) (gt ms s) = -1 := if_neg c
          rw [if_neg c, ew, ← byT_comm]
          congr 1
          · unfold wayBk onw
            simp only [lonM]
            refine congrArg (fun z => far row (seqN z _)) (funext fun k => congrArg (fun z => mate (gt ms z)) ?_)
            omega
          · unfold wayOn bck
            simp only [lonM, mate_mate]
            refine congrArg (fun z => far row (seqN z _)) (funext fun k => congrArg (gt ms) ?_)
            omega
end Ln
set_option maxRecDepth 100000
set_option maxHeartbeats 4000000
namespace Ln
open Wd
theorem shr_comm (f g : Int → Int) (s : Int) (n : Nat) : shr g f s n = shr f g s n := by
  unfold shr
  have e : (fun (m : Nat) => decide (g (s * ((m : Int) + 1)) ≠ f (s * ((m : Int) + 1)))) = fun (m : Nat) => decide (f (s * ((m : Int) + 1)) ≠ g (s * ((m : Int) + 1))) := by
    funext m
    exact decide_eq_decide.mpr ⟨fun h z => h z.symm, fun h z => h z.symm⟩
  rw [e]
theorem agree_at {f g : Int → Int} {s : Int} {n m : Nat} (h0 : f 0 = g 0) (h : shr f g s n = some m) : f (s * (m : Int)) = g (s * (m : Int)) := by
  obtain ⟨a, b, c⟩ := shr_some.mp h
  cases m with
  | zero => simpa using h0
  | succ m =>
    have := c m (by omega)
    rw [show ((m + 1 : Nat) : Int) = (m : Int) + 1 by omega]
    exact this
theorem not_beq (a b : Bool) : ((!a) == (!b)) = (a == b) := by cases a <;> cases b <;> rfl
theorem cst_comm {row : List Int} {f g : Int → Int} (T : Two row f g) (n : Nat) : cst row g f n = cst row f g n := by
  unfold cst
  rw [shr_comm f g, shr_comm f g]
  cases hb : shr f g (-1) n with
  | none => rfl
  | some b =>
    cases ho : shr f g 1 n with
    | none => rfl
    | some o =>
      have a1 := agree_at T.at0 hb
      have a2 := agree_at T.at0 ho
      rw [show -1 * (b : Int) = -(b : Int) by omega] at a1
      rw [Int.one_mul] at a2
      have b2 := (shr_some.mp hb).2.1
      have o2 := (shr_some.mp ho).2.1
      rw [show -1 * ((b : Int) + 1) = -(b : Int) - 1 by omega] at b2
      rw [Int.one_mul] at o2
      show some (_, _, _) = some (_, _, _)
      rw [← a1, ← a2, ahd_swap (T.rf (-(b : Int) - 1)).2 (T.rg (-(b : Int) - 1)).2 (fun z => b2 (mate_inj z)), ahd_swap (T.rf ((o : Int) + 1)).1 (T.rg ((o : Int) + 1)).1 o2, not_beq]
theorem cst_flip {row : List Int} {f g : Int → Int} (T : Two row f g) (n : Nat) : cst row (fun t => mate (g (-t))) (fun t => mate (f (-t))) n = (cst row f g n).map fun z => (z.2.1 - 1 - z.1, z.2.1, z.2.2) := by
  have sh : ∀ s, shr (fun t => mate (g (-t))) (fun t => mate (f (-t))) s n = shr f g (-s) n := fun s => by
    unfold shr
    have e : (fun (m : Nat) => decide (mate (g (-(s * ((m : Int) + 1)))) ≠ mate (f (-(s * ((m : Int) + 1)))))) = fun (m : Nat) => decide (f (-s * ((m : Int) + 1)) ≠ g (-s * ((m : Int) + 1))) := by
      funext m
      rw [Int.neg_mul]
      exact decide_eq_decide.mpr ⟨fun h z => h (by rw [z]), fun h z => h (mate_inj z).symm⟩
    exact congrArg (fun z => (List.range n).find? z) e
  unfold cst
  rw [sh, sh, Int.neg_neg]
  cases hb : shr f g (-1) n with
  | none =>
    cases shr f g 1 n <;> rfl
  | some b =>
    cases ho : shr f g 1 n with
    | none => rfl
    | some o =>
      have a1 := agree_at T.at0 hb
      have a2 := agree_at T.at0 ho
      rw [show -1 * (b : Int) = -(b : Int) by omega] at a1
      rw [Int.one_mul] at a2
      have b2 := (shr_some.mp hb).2.1
      have o2 := (shr_some.mp ho).2.1
      rw [show -1 * ((b : Int) + 1) = -(b : Int) - 1 by omega] at b2
      rw [Int.one_mul] at o2
      refine congrArg some (Prod.ext ?_ (Prod.ext ?_ ?_))
      · show (o : Int) = (b : Int) + 1 + (o : Int) - 1 - (b : Int)
        omega
      · show (o : Int) + 1 + (b : Int) = (b : Int) + 1 + (o : Int)
        omega
      · show (ahd row (mate (g (-(-(o : Int))))) (mate (mate (g (-(-(o : Int) - 1))))) (mate (mate (f (-(-(o : Int) - 1))))) == ahd row (mate (mate (g (-(b : Int))))) (mate (g (-((b : Int) + 1)))) (mate (f (-((b : Int) + 1))))) = _
        rw [mate_mate, mate_mate, mate_mate, Int.neg_neg, show -(-(o : Int) - 1) = (o : Int) + 1 by omega, show -((b : Int) + 1) = -(b : Int) - 1 by omega, ← a1, ← a2,
          ahd_swap (T.rf (-(b : Int) - 1)).2 (T.rg (-(b : Int) - 1)).2 (fun z => b2 (mate_inj z)), ahd_swap (T.rf ((o : Int) + 1)).1 (T.rg ((o : Int) + 1)).1 o2, not_beq, Bool.beq_comm]
section
variable {ns ms row : List Int} {p s : Int}
theorem pst_swap (hl : 0 < row.length) (hn : ns ≠ []) (hm : ms ≠ []) (cn : CR ns) (cm : CR ms) (rn : ∀ x ∈ ns, x ∈ row ∧ mate x ∈ row) (rm : ∀ x ∈ ms, x ∈ row ∧ mate x ∈ row) (hb : gt ns p / 2 = gt ms s / 2) :
    pst row ms ns s p = (pst row ns ms p s).map fun z => (if gt ns p = gt ms s then z.1 else z.2.1 - 1 - z.1, z.2.1, z.2.2) := by
  have T := two_of hl hn hm cn cm rn rm hb
  by_cases c : gt ns p = gt ms s
  · have e1 : wayOf (gt ms s) (gt ns p) = 1 := if_pos c.symm
    have e2 : wayOf (gt ns p) (gt ms s) = 1 := if_pos c
    unfold pst
    rw [e2] at T ⊢
    rw [e1, Nat.add_comm, cst_comm T]
    simp only [if_pos c]
    cases cst row (lon ns p 1) (lon ms s 1) (ns.length + ms.length) <;> rfl
  · have e1 : wayOf (gt ms s) (gt ns p) = -1 := if_neg fun z => c z.symm
    have e2 : wayOf (gt ns p) (gt ms s) = -1 := if_neg c
    unfold pst
    rw [e2] at T ⊢
    rw [e1, Nat.add_comm]
    have f1 : lon ms s 1 = fun t => mate (lon ms s (-1) (-t)) := by
      funext t
      rw [lon1, lonM, mate_mate]
      exact congrArg (gt ms) (by omega)
    have f2 : lon ns p (-1) = fun t => mate (lon ns p 1 (-t)) := by
      funext t
      rw [lon1, lonM]
      exact congrArg (fun z => mate (gt ns z)) (by omega)
    rw [f1, f2, cst_flip T]
    simp only [if_neg c]
theorem gt_turn {w : List Int} (hw : w ≠ []) {k : Nat} (hk : k ≤ w.length) (i : Int) : gt (Tt.turnAt w k) i = gt w (i + k) := by
  have l0 : 0 < w.length := List.length_pos_iff.mpr hw
  have hl : (Tt.turnAt w k).length = w.length := Tt.turnAt_lenL w k
  have h0 := Int.emod_nonneg i (show (w.length : Int) ≠ 0 by omega)
  have h1 := Int.emod_lt_of_pos i (show (0 : Int) < (w.length : Int) by omega)
  obtain ⟨j, hj⟩ := Int.eq_ofNat_of_zero_le h0
  have e1 : gt (Tt.turnAt w k) i = gt (Tt.turnAt w k) (j : Int) := gt_mod (by rw [hl, ← hj, Int.emod_emod])
  have e2 : gt w (i + k) = gt w ((j + k : Nat) : Int) := gt_mod (by
    rw [show ((j + k : Nat) : Int) = (j : Int) + (k : Int) by omega, ← hj, Int.emod_add_emod])
  rw [e1, e2]
  refine gt_nat ?_
  unfold Tt.turnAt
  by_cases c : j < w.length - k
  · rw [List.getElem?_append_left (by rw [List.length_drop]; exact c), List.getElem?_drop]
    have := gt_get hw ((j + k : Nat) : Int)
    rw [Int.emod_eq_of_lt (by omega) (by omega)] at this
    rw [show k + j = ((j + k : Nat) : Int).toNat by omega]
    exact this
  · rw [List.getElem?_append_right (by rw [List.length_drop]; omega), List.length_drop, List.getElem?_take, if_pos (by omega)]
    have := gt_get hw ((j + k : Nat) : Int)
    have e : ((j + k : Nat) : Int) % (w.length : Int) = ((j - (w.length - k) : Nat) : Int) := by
      have : ((j + k : Nat) : Int) = ((j - (w.length - k) : Nat) : Int) + (w.length : Int) := by omega
      rw [this, Int.add_emod_right, Int.emod_eq_of_lt (by omega) (by omega)]
    rw [e] at this
    simpa using this
theorem gt_undo {w : List Int} (hw : w ≠ []) (i : Int) : gt (undo w) i = mate (gt w (-1 - i)) := by
  have l0 : 0 < w.length := List.length_pos_iff.mpr hw
  have hl : (undo w).length = w.length := undo_len w
  have h0 := Int.emod_nonneg i (show (w.length : Int) ≠ 0 by omega)
  have h1 := Int.emod_lt_of_pos i (show (0 : Int) < (w.length : Int) by omega)
  obtain ⟨j, hj⟩ := Int.eq_ofNat_of_zero_le h0
  have e1 : gt (undo w) i = gt (undo w) (j : Int) := gt_mod (by rw [hl, ← hj, Int.emod_emod])
  have e2 : gt w (-1 - i) = gt w ((w.length - 1 - j : Nat) : Int) := gt_mod (by
    have : ((w.length - 1 - j : Nat) : Int) = -1 - (j : Int) + (w.length : Int) := by omega
    rw [this, Int.add_emod_right, ← hj, Int.sub_emod (-1) i, Int.sub_emod (-1) (i % _), Int.emod_emod])
  rw [e1, e2]
  refine gt_nat ?_
  have g := gt_get hw ((w.length - 1 - j : Nat) : Int)
  rw [Int.emod_eq_of_lt (by omega) (by omega)] at g
  unfold undo
  rw [List.getElem?_map, List.getElem?_reverse (by omega)]
  have g' : w[w.length - 1 - j]? = some (gt w ((w.length - 1 - j : Nat) : Int)) := by simpa using g
  rw [g']
  rfl
theorem pst_turn (hm : ms ≠ []) (hb : gt ns p / 2 = gt ms s / 2) {k : Nat} (hk : k ≤ ms.length) : pst row ns (Tt.turnAt (undo ms) k) p (((ms.length : Int) - 1 - s - (k : Int)) % (ms.length : Int)) = pst row ns ms p s := by
  have l0 : 0 < ms.length := List.length_pos_iff.mpr hm
  have hu : undo ms ≠ [] := fun z => hm (List.length_eq_zero_iff.mp (by rw [← undo_len, z]; rfl))
  have hl : (Tt.turnAt (undo ms) k).length = ms.length := by rw [Tt.turnAt_lenL, undo_len]
  have key : ∀ t, gt (Tt.turnAt (undo ms) k) (((ms.length : Int) - 1 - s - (k : Int)) % (ms.length : Int) + t) = mate (gt ms (s - t)) := fun t => by
    rw [gt_turn hu (by rw [undo_len]; exact hk), gt_undo hm]
    refine congrArg mate (gt_mod ?_)
    generalize hd : ((ms.length : Int) - 1 - s - (k : Int)) = d
    have e0 := Int.mul_ediv_add_emod d (ms.length : Int)
    generalize d % (ms.length : Int) = r at e0 ⊢
    generalize d / (ms.length : Int) = q at e0
    have e : -1 - (r + t + (k : Int)) = (s - t) + (ms.length : Int) * (q - 1) := by
      rw [Int.mul_sub, Int.mul_one]
      omega
    rw [e, Int.add_mul_emod_self_left]
  have k0 : gt (Tt.turnAt (undo ms) k) (((ms.length : Int) - 1 - s - (k : Int)) % (ms.length : Int)) = mate (gt ms s) := by
    have := key 0
    rwa [Int.add_zero, Int.sub_zero] at this
  unfold pst
  rw [hl, k0]
  by_cases c : gt ns p = gt ms s
  · have e1 : wayOf (gt ns p) (mate (gt ms s)) = -1 := if_neg fun z => mate_ne (gt ms s) (by rw [← z, c])
    have e2 : wayOf (gt ns p) (gt ms s) = 1 := if_pos c
    rw [e1, e2]
    refine congrArg (fun z => cst row (lon ns p 1) z _) (funext fun t => ?_)
    have := key (-t)
    rw [lonM, lon1, Int.sub_eq_add_neg, this, mate_mate, Int.sub_neg]
  · have e1 : wayOf (gt ns p) (mate (gt ms s)) = 1 := if_pos (half_eq hb c)
    have e2 : wayOf (gt ns p) (gt ms s) = -1 := if_neg c
    rw [e1, e2]
    refine congrArg (fun z => cst row (lon ns p 1) z _) (funext fun t => ?_)
    rw [lon1, lonM, key t]
end
end Ln
set_option maxRecDepth 100000
set_option maxHeartbeats 4000000
namespace Tt
open PySem L2
section
variable {P : Program} {w : World} {K : PySem.W.Frag} {mg : Str → Option Value} {base : Heap}
theorem ixN_n {n j : Nat} (h : j < n) : ixN n (j : Int) = some j := by
  unfold ixN
  rw [if_pos (by omega), if_pos (by omega)]
  simp
theorem atI_n {xs : List V} {j : Nat} {v : V} (h : xs[j]? = some v) : atI xs (j : Int) = some v := by
  have hl := (List.getElem?_eq_some_iff.mp h).1
  unfold atI
  rw [ixN_n hl]
  exact h
theorem skF_places (r q : Addr) (n : Int) : (skF r q n).lookup ("places" : Str) = some (V.ref q) := rfl
theorem at_pl {row : List Int} {n : Nat} (pm : row.Perm (rgI (2 * n))) {x : Int} (h : x ∈ row) : atI ((places row).map V.int) x = some (V.int (Ln.pl row x)) := by
  have b := (perm_mem pm).mp h
  have hl := perm_len pm
  obtain ⟨j, rfl⟩ := Int.eq_ofNat_of_zero_le b.1
  exact atI_n (ints_get (place_at (by omega)))
theorem at_gt {ns : List Int} (hne : ns ≠ []) (i : Int) : atI (ns.map V.int) (i % ((ns.map V.int).length : Int)) = some (V.int (Ln.gt ns i)) := by
  have l0 : 0 < ns.length := List.length_pos_iff.mpr hne
  rw [List.length_map]
  have h1 := Int.emod_nonneg i (show (ns.length : Int) ≠ 0 by omega)
  have g := Ln.gt_get hne i
  obtain ⟨j, hj⟩ := Int.eq_ofNat_of_zero_le h1
  rw [hj] at g ⊢
  exact atI_n (ints_get (by simpa using g))
def B12 (ns : List Int) : Prop := ∀ x ∈ ns, 0 ≤ x ∧ x < 12
def spOn (K : PySem.W.Frag) : Sp := fun vs H Q _ => ∃ (t : Addr) (ns : List Int) (p w f : Int), vs = [.ref t, .int p, .int w, .int f] ∧ SqT K H t (ns.map V.int) ∧ ns ≠ [] ∧ B12 ns ∧ (w = 1 ∨ w = -1) ∧ Q (.int (Ln.lon ns p w f)) H
theorem ok_letter_on (T : Txt K mg) : FnOk P w K mg base CX0 1 T.letter_on.a T.letter_on.fd ["loop", "place", "way", "far"] (spOn K) := by
  refine T.letter_on.F.ok sc_letter_on (fun vs H Q E h => ?_) (fun cdv A outer s H vs Q E hr h => ?_)
  · obtain ⟨t, ns, p, w, f, rfl, _⟩ := h
    rfl
  · obtain ⟨t, ns, p, w, f, rfl, ht, hne, hb, hw, k⟩ := h
    have nd := sc_letter_on.nd
    have l0 : 0 < ns.length := List.length_pos_iff.mpr hne
    refine ⟨_, (pss_cons (ps_set (i := 4) nd rfl (Or.inl rfl) (pe_ix ix_tup (pv 0) (pe_op op_mod (pe_op op_add (pv 1) (pe_op op_mul (pv 2) (pv 3))) (pe_callB call_len_seq (by rfl) T.zlen (by decide +kernel) (pa_cons (pv 0) pa_nil))) (fun _ _ => rfl)))
    (pss_one (ps_ret (pe_ifExp (pt_cmpR op_eq (pv 2) pe_int (nomark _)) (pv 4) (pe_op op_xor (pv 4) pe_int))))), ?_⟩
    refine ⟨_, rfl, _, rfl, _, rfl, _, rfl, _, _, rfl, rfl, .inl (by rcases hw with rfl | rfl <;> decide), _, _, rfl, rfl, ?_⟩
    refine ⟨_, rfl, t, _, rfl, .inr ht, _, _, rfl, rfl, (by rw [List.length_map]; omega), ?_⟩
    refine ⟨t, _, _, V.int (Ln.gt ns (p + w * f)), rfl, rfl, ht, at_gt hne _, ?_⟩
    have hx := hb _ (Ln.gt_mem hne (p + w * f))
    have k' : Q (.int (if w = 1 then Ln.gt ns (p + w * f) else Wd.mate (Ln.gt ns (p + w * f)))) H := k
    refine ⟨_, rfl, rfl, _, rfl, ite2 (fun c => ?_) (fun c => ?_)⟩
    · have c' : w = 1 := by simpa using c
      rw [if_pos c'] at k'
      exact ⟨_, rfl, k'⟩
    · have c' : ¬ w = 1 := by simpa using c
      rw [if_neg c', ← xor_mate hx.1 hx.2] at k'
      exact ⟨_, rfl, _, _, rfl, rfl, k'⟩
def spAhead (T : Txt K mg) : Sp := fun vs H Q _ => ∃ (p : Addr) (row : List Int) (n : Nat) (x a b : Int), vs = [.ref p, .int x, .int a, .int b] ∧ SkAt T H p row ∧ row.Perm (rgI (2 * n)) ∧ x ∈ row ∧ a ∈ row ∧ b ∈ row ∧ Q (.bl (Ln.ahd row x a b)) H
theorem ok_stands_ahead (T : Txt K mg) : FnOk P w K mg base CX0 1 T.stands_ahead.a T.stands_ahead.fd ["skin", "start", "one", "other"] (spAhead T) := by
  refine T.stands_ahead.F.ok sc_stands_ahead (fun vs H Q E h => ?_) (fun cdv A outer s H vs Q E hr h => ?_)
  · obtain ⟨p, row, n, x, a, b, rfl, _⟩ := h
    rfl
  · obtain ⟨p, row, n, x, a, b, rfl, ⟨dx, r, q, a1, a2, a3⟩, pm, hx, ha, hb, k⟩ := h
    have nd := sc_stands_ahead.nd
    have l0 : 0 < (row.map V.int).length := by
      rw [List.length_map]
      exact List.length_pos_of_mem hx
    refine ⟨_, (pss_cons (ps_set (i := 4) nd rfl (Or.inl rfl) (pe_callB call_len_seq (by rfl) T.zlen (by decide +kernel) (pa_cons (pe_fld (pv 0) rfl) pa_nil)))
    (pss_cons (ps_set (i := 5) nd rfl (Or.inl rfl) (pe_ix ix_tup (pe_fld (pv 0) rfl) (pv 1) (fun _ _ => rfl)))
    (pss_one (ps_ret (pe_cmpR op_lt (pe_op op_mod (pe_op op_sub (pe_ix ix_tup (pe_fld (pv 0) rfl) (pv 2) (fun _ _ => rfl)) (pv 5)) (pv 4)) (pe_op op_mod (pe_op op_sub (pe_ix ix_tup (pe_fld (pv 0) rfl) (pv 3) (fun _ _ => rfl)) (pv 5)) (pv 4)) (nomark _)))))), ?_⟩
    refine ⟨_, rfl, p, T.Skin.C, dx, _, _, rfl, a1, T.Skin.c, nRow T, skF_row .., r, _, rfl, .inr a2.sq, ?_⟩
    refine ⟨_, rfl, p, T.Skin.C, dx, _, _, rfl, a1, T.Skin.c, nPlaces T, skF_places .., _, rfl, q, _, _, _, rfl, rfl, a3.sq, at_pl pm hx, ?_⟩
    refine ⟨_, rfl, p, T.Skin.C, dx, _, _, rfl, a1, T.Skin.c, nPlaces T, skF_places .., _, rfl, q, _, _, _, rfl, rfl, a3.sq, at_pl pm ha, _, rfl, _, _, rfl, rfl, _, rfl, _, _, rfl, rfl, (by omega), ?_⟩
    refine ⟨_, rfl, p, T.Skin.C, dx, _, _, rfl, a1, T.Skin.c, nPlaces T, skF_places .., _, rfl, q, _, _, _, rfl, rfl, a3.sq, at_pl pm hb, _, rfl, _, _, rfl, rfl, _, rfl, _, _, rfl, rfl, (by omega), ?_⟩
    unfold Ln.ahd at k
    rw [← List.length_map (as := row) (f := V.int)] at k
    exact ⟨_, _, rfl, rfl, k⟩
def optV : Option Nat → V
  | some m => .int (m : Int)
  | none => .non
def spShared (K : PySem.W.Frag) : Sp := fun vs H Q _ => ∃ (t u : Addr) (ns ms : List Int) (p s w d : Int), vs = [.ref t, .int p, .ref u, .int s, .int w, .int d] ∧ SqT K H t (ns.map V.int) ∧ SqT K H u (ms.map V.int) ∧ ns ≠ [] ∧ ms ≠ [] ∧ B12 ns ∧ B12 ms ∧ ns.length ≤ 1000 ∧ ms.length ≤ 1000 ∧ (w = 1 ∨ w = -1) ∧ (d = 1 ∨ d = -1) ∧
  Q (optV (Ln.shr (Ln.lon ns p 1) (Ln.lon ms s w) d (ns.length + ms.length))) H
theorem ok_shared (T : Txt K mg) : FnOk P w K mg base CX0 2 T.shared.a T.shared.fd ["one", "place", "other", "spot", "way", "side"] (spShared K) := by
  refine T.shared.F.ok sc_shared (fun vs H Q E h => ?_) (fun cdv A outer s H vs Q E hr h => ?_)
  · obtain ⟨t, u, ns, ms, p, s, w, d, rfl, _⟩ := h
    rfl
  · obtain ⟨t, u, ns, ms, p, s, w, d, rfl, ht, hu, hn, hm, bn, bm, ln, lm, hw, hd, k⟩ := h
    have nd := sc_shared.nd
    refine ⟨_, (pss_cons (ps_for PassesOwn.never rfl (pi_range1 rfl T.zrange (pa_cons (pe_op op_add (pe_callB call_len_seq (by rfl) T.zlen (by decide +kernel) (pa_cons (pv 0) pa_nil)) (pe_callB call_len_seq (by rfl) T.zlen (by decide +kernel) (pa_cons (pv 2) pa_nil))) pa_nil)) (pg_name (i := 6) nd rfl (Or.inl rfl))
      (pss_cons (ps_set (i := 7) nd rfl (Or.inl rfl) (pe_op op_mul (pv 5) (pe_op op_add (pv 6) pe_int)))
      (pss_one (ps_if (pt_cmpR op_ne (pe_call (ok_letter_on T) (hr.mono (by decide)) (by rfl) T.letter_on.g T.letter_on.k T.letter_on.b .nil pass0 (pa_cons (pv 0) (pa_cons (pv 1) (pa_cons pe_int (pa_cons (pv 7) pa_nil))))) (pe_call (ok_letter_on T) (hr.mono (by decide)) (by rfl) T.letter_on.g T.letter_on.k T.letter_on.b .nil pass0 (pa_cons (pv 2) (pa_cons (pv 3) (pa_cons (pv 4) (pa_cons (pv 7) pa_nil))))) (nomark _))
        (pss_one (ps_ret (pv 6)))
        pss_nil))))
    (pss_one (ps_ret pe_non))), ?_⟩
    refine ⟨_, rfl, t, _, rfl, .inr ht, _, rfl, u, _, rfl, .inr hu, _, _, rfl, rfl, ?_⟩
    refine ⟨_, rfl, by rw [List.length_map, List.length_map]; omega, by rw [List.length_map, List.length_map]; omega, ?_⟩
    have eN : (((ns.map V.int).length : Int) + ((ms.map V.int).length : Int)).toNat = ns.length + ms.length := by rw [List.length_map, List.length_map]; omega
    refine for_range (lo := 0) (fun i σ H' => H' = H ∧ ∃ v6 v7, σ = [some (.ref t), some (.int p), some (.ref u), some (.int s), some (.int w), some (.int d), v6, v7] ∧ ∀ j, j < i → Ln.lon ns p 1 (d * ((j : Int) + 1)) = Ln.lon ms s w (d * ((j : Int) + 1)))
      ⟨rfl, none, none, rfl, fun j h => absurd h (Nat.not_lt_zero _)⟩ ?_ ?_
    · rintro i σ H' hi ⟨rfl, v6, v7, rfl, al⟩
      rw [eN] at hi
      refine ⟨_, rfl, _, rfl, _, _, rfl, rfl, _, _, rfl, rfl, .inl (by rcases hd with rfl | rfl <;> decide), ?_⟩
      refine ⟨_, rfl, _, rfl, _, rfl, t, ns, p, 1, _, rfl, ht, hn, bn, .inl rfl, ?_⟩
      refine ⟨_, rfl, _, rfl, _, rfl, _, rfl, u, ms, s, w, _, rfl, hu, hm, bm, hw, rfl, _, rfl, ?_⟩
      have e0 : d * ((0 : Int) + (i : Int) + 1) = d * ((i : Int) + 1) := by rw [Int.zero_add]
      rw [e0]
      refine ite2 (fun c => ?_) (fun c => ?_)
      · have c' : Ln.lon ns p 1 (d * ((i : Int) + 1)) ≠ Ln.lon ms s w (d * ((i : Int) + 1)) := by simpa using c
        have e : Ln.shr (Ln.lon ns p 1) (Ln.lon ms s w) d (ns.length + ms.length) = some i := Ln.shr_some.mpr ⟨hi, c', al⟩
        rw [e] at k
        refine ⟨_, rfl, ?_⟩
        have e1 : V.int ((0 : Int) + (i : Int)) = V.int (i : Int) := by rw [Int.zero_add]
        rw [e1]
        exact k
      · have c' : Ln.lon ns p 1 (d * ((i : Int) + 1)) = Ln.lon ms s w (d * ((i : Int) + 1)) := by simpa using c
        refine ⟨rfl, _, _, rfl, fun j hj => ?_⟩
        by_cases hji : j = i
        · rw [hji]
          exact c'
        · exact al j (by omega)
    · rintro σ H' ⟨rfl, v6, v7, rfl, al⟩
      rw [eN] at al
      have e : Ln.shr (Ln.lon ns p 1) (Ln.lon ms s w) d (ns.length + ms.length) = none := Ln.shr_none.mpr al
      rw [e] at k
      exact k
end
end Tt
set_option maxRecDepth 100000
set_option maxHeartbeats 4000000
namespace Tt
open PySem L2
section
variable {P : Program} {w : World} {K : PySem.W.Frag} {mg : Str → Option Value} {base : Heap}
theorem mateRow {n : Nat} {row : List Int} (pm : row.Perm (rgI (2 * n))) {z : Int} (h : z ∈ row) : Wd.mate z ∈ row := by
  have b := (perm_mem pm).mp h
  have := Wd.mate_range (n := (n : Int)) b.1 (by omega)
  exact (perm_mem pm).mpr ⟨this.1, by omega⟩
theorem row12 {n : Nat} {row : List Int} (n6 : n ≤ 6) (pm : row.Perm (rgI (2 * n))) {z : Int} (h : z ∈ row) : 0 ≤ z ∧ z < 12 := by
  have b := (perm_mem pm).mp h
  omega
structure Rn (row ns : List Int) : Prop where
  r : Rnd ns
  l : ns.length ≤ 40
  m : ∀ x ∈ ns, x ∈ row
theorem Rn.b {n : Nat} {row ns : List Int} (h : Rn row ns) (n6 : n ≤ 6) (pm : row.Perm (rgI (2 * n))) : B12 ns := fun x hx => row12 n6 pm (h.m x hx)
theorem Rn.lt {n : Nat} {row ns : List Int} (h : Rn row ns) (pm : row.Perm (rgI (2 * n))) : Lt (row.length : Int) ns := fun x hx => by
  have b := (perm_mem pm).mp (h.m x hx)
  have := perm_len pm
  omega
def spLeft (T : Txt K mg) (f : List Int → List Int → List Int → Int → Int → Int → Bool) : Sp := fun vs H Q _ => ∃ (p : Addr) (row : List Int) (n : Nat) (t u : Addr) (ns ms : List Int) (a s w : Int), vs = [.ref p, .ref t, .int a, .ref u, .int s, .int w] ∧ SkAt T H p row ∧ n ≤ 6 ∧ row.Perm (rgI (2 * n)) ∧
  SqT K H t (ns.map V.int) ∧ SqT K H u (ms.map V.int) ∧ Rn row ns ∧ Rn row ms ∧ (w = 1 ∨ w = -1) ∧ Q (.bl (f row ns ms a s w)) H
def fL (row ns ms : List Int) (a s w : Int) : Bool := Ln.ahd row (Ln.lon ns a 1 0) (Wd.mate (Ln.lon ns a 1 (-1))) (Wd.mate (Ln.lon ms s w (-1)))
def fR (row ns ms : List Int) (a s w : Int) : Bool := Ln.ahd row (Wd.mate (Ln.lon ns a 1 0)) (Ln.lon ns a 1 1) (Ln.lon ms s w 1)
theorem lon_row {n : Nat} {row ns : List Int} (pm : row.Perm (rgI (2 * n))) (h : Rn row ns) (a w f : Int) : Ln.lon ns a w f ∈ row := (Ln.lon_mem h.r.1 (fun x hx => ⟨h.m x hx, mateRow pm (h.m x hx)⟩) a w f).1
theorem ok_from_left (T : Txt K mg) : FnOk P w K mg base CX0 2 T.from_left.a T.from_left.fd ["skin", "one", "place", "other", "spot", "way"] (spLeft T fL) := by
  refine T.from_left.F.ok sc_from_left (fun vs H Q E h => ?_) (fun cdv A outer s H vs Q E hr h => ?_)
  · obtain ⟨p, row, n, t, u, ns, ms, a, s, w, rfl, _⟩ := h
    rfl
  · obtain ⟨p, row, n, t, u, ns, ms, a, s, w, rfl, sk, n6, pm, ht, hu, rn, rm, hw, k⟩ := h
    have nd := sc_from_left.nd
    have m1 := lon_row pm rn a 1 0
    have m2 := lon_row pm rn a 1 (-1)
    have m3 := lon_row pm rm s w (-1)
    have e2 := xor_mate (row12 n6 pm m2).1 (row12 n6 pm m2).2
    have e3 := xor_mate (row12 n6 pm m3).1 (row12 n6 pm m3).2
    unfold fL at k
    rw [← e2, ← e3] at k
    refine ⟨_, (pss_cons (ps_set (i := 6) nd rfl (Or.inl rfl) (pe_call (ok_letter_on T) (hr.mono (by decide)) (by rfl) T.letter_on.g T.letter_on.k T.letter_on.b .nil pass0 (pa_cons (pv 1) (pa_cons (pv 2) (pa_cons pe_int (pa_cons pe_int pa_nil))))))
    (pss_one (ps_ret (pe_call (ok_stands_ahead T) (hr.mono (by decide)) (by rfl) T.stands_ahead.g T.stands_ahead.k T.stands_ahead.b .nil pass0 (pa_cons (pv 0) (pa_cons (pv 6) (pa_cons (pe_op op_xor (pe_call (ok_letter_on T) (hr.mono (by decide)) (by rfl) T.letter_on.g T.letter_on.k T.letter_on.b .nil pass0 (pa_cons (pv 1) (pa_cons (pv 2) (pa_cons pe_int (pa_cons (pe_un un_neg pe_int) pa_nil))))) pe_int) (pa_cons (pe_op op_xor (pe_call (ok_letter_on T) (hr.mono (by decide)) (by rfl) T.letter_on.g T.letter_on.k T.letter_on.b .nil pass0 (pa_cons (pv 3) (pa_cons (pv 4) (pa_cons (pv 5) (pa_cons (pe_un un_neg pe_int) pa_nil))))) pe_int) pa_nil)))))))), ?_⟩
    refine ⟨_, rfl, _, rfl, t, ns, a, 1, 0, rfl, ht, rn.r.1, rn.b n6 pm, .inl rfl, ?_⟩
    refine ⟨_, rfl, _, rfl, _, rfl, _, rfl, 1, rfl, t, ns, a, 1, -1, rfl, ht, rn.r.1, rn.b n6 pm, .inl rfl, _, _, rfl, rfl, ?_⟩
    refine ⟨_, rfl, _, rfl, _, rfl, 1, rfl, u, ms, s, w, -1, rfl, hu, rm.r.1, rm.b n6 pm, hw, _, _, rfl, rfl, ?_⟩
    exact ⟨p, row, n, _, _, _, rfl, sk, pm, m1, (by rw [e2]; exact mateRow pm m2), (by rw [e3]; exact mateRow pm m3), k⟩
theorem ok_to_right (T : Txt K mg) : FnOk P w K mg base CX0 2 T.to_right.a T.to_right.fd ["skin", "one", "place", "other", "spot", "way"] (spLeft T fR) := by
  refine T.to_right.F.ok sc_to_right (fun vs H Q E h => ?_) (fun cdv A outer s H vs Q E hr h => ?_)
  · obtain ⟨p, row, n, t, u, ns, ms, a, s, w, rfl, _⟩ := h
    rfl
  · obtain ⟨p, row, n, t, u, ns, ms, a, s, w, rfl, sk, n6, pm, ht, hu, rn, rm, hw, k⟩ := h
    have nd := sc_to_right.nd
    have m1 := lon_row pm rn a 1 0
    have m2 := lon_row pm rn a 1 1
    have m3 := lon_row pm rm s w 1
    have e1 := xor_mate (row12 n6 pm m1).1 (row12 n6 pm m1).2
    unfold fR at k
    rw [← e1] at k
    refine ⟨_, (pss_cons (ps_set (i := 6) nd rfl (Or.inl rfl) (pe_op op_xor (pe_call (ok_letter_on T) (hr.mono (by decide)) (by rfl) T.letter_on.g T.letter_on.k T.letter_on.b .nil pass0 (pa_cons (pv 1) (pa_cons (pv 2) (pa_cons pe_int (pa_cons pe_int pa_nil))))) pe_int))
    (pss_one (ps_ret (pe_call (ok_stands_ahead T) (hr.mono (by decide)) (by rfl) T.stands_ahead.g T.stands_ahead.k T.stands_ahead.b .nil pass0 (pa_cons (pv 0) (pa_cons (pv 6) (pa_cons (pe_call (ok_letter_on T) (hr.mono (by decide)) (by rfl) T.letter_on.g T.letter_on.k T.letter_on.b .nil pass0 (pa_cons (pv 1) (pa_cons (pv 2) (pa_cons pe_int (pa_cons pe_int pa_nil))))) (pa_cons (pe_call (ok_letter_on T) (hr.mono (by decide)) (by rfl) T.letter_on.g T.letter_on.k T.letter_on.b .nil pass0 (pa_cons (pv 3) (pa_cons (pv 4) (pa_cons (pv 5) (pa_cons pe_int pa_nil))))) pa_nil)))))))), ?_⟩
    refine ⟨_, rfl, _, rfl, t, ns, a, 1, 0, rfl, ht, rn.r.1, rn.b n6 pm, .inl rfl, _, _, rfl, rfl, ?_⟩
    refine ⟨_, rfl, _, rfl, _, rfl, _, rfl, t, ns, a, 1, 1, rfl, ht, rn.r.1, rn.b n6 pm, .inl rfl, ?_⟩
    refine ⟨_, rfl, _, rfl, _, rfl, u, ms, s, w, 1, rfl, hu, rm.r.1, rm.b n6 pm, hw, ?_⟩
    exact ⟨p, row, n, _, _, _, rfl, sk, pm, (by rw [e1]; exact mateRow pm m1), m2, m3, k⟩
def StV (H : Hp) (v : V) : Option (Int × Int × Bool) → Prop
  | none => v = .non
  | some z => ∃ q, v = .ref q ∧ H q = some (.tup [.int z.1, .int z.2.1, .bl z.2.2])
theorem StV.same {H H' : Hp} {v : V} : ∀ {r : Option (Int × Int × Bool)}, StV H v r → Same H H' → StV H' v r
  | none, h, _ => h
  | some z, ⟨q, e, h⟩, s => ⟨q, e, s _ _ h⟩
def spCommon (T : Txt K mg) : Sp := fun vs H Q _ => ∃ (p : Addr) (row : List Int) (n : Nat) (t u : Addr) (ns ms : List Int) (a s : Nat), vs = [.ref p, .ref t, .int (a : Int), .ref u, .int (s : Int)] ∧ SkAt T H p row ∧ n ≤ 6 ∧ row.Perm (rgI (2 * n)) ∧
  SqT K H t (ns.map V.int) ∧ SqT K H u (ms.map V.int) ∧ Rn row ns ∧ Rn row ms ∧ a < ns.length ∧ s < ms.length ∧ ∀ v H', Same H H' → StV H' v (Ln.pst row ns ms (a : Int) (s : Int)) → Q v H'
theorem at_lt {ns : List Int} {a : Nat} (h : a < ns.length) : atI (ns.map V.int) (a : Int) = some (V.int (Ln.gt ns (a : Int))) := by
  have g : ns[a]? = some ns[a] := List.getElem?_eq_getElem h
  rw [Ln.gt_nat g]
  exact atI_n (ints_get g)
theorem ok_common_stretch (T : Txt K mg) : FnOk P w K mg base CX0 3 T.common_stretch.a T.common_stretch.fd ["skin", "one", "place", "other", "spot"] (spCommon T) := by
  refine T.common_stretch.F.ok sc_common_stretch (fun vs H Q E h => ?_) (fun cdv A outer s H vs Q E hr h => ?_)
  · obtain ⟨p, row, n, t, u, ns, ms, a, s, rfl, _⟩ := h
    rfl
  · obtain ⟨p, row, n, t, u, ns, ms, a, s, rfl, sk, n6, pm, ht, hu, rn, rm, la, ls, k⟩ := h
    have nd := sc_common_stretch.nd
    have hw := Ln.wayOf_or (Ln.gt ns (a : Int)) (Ln.gt ms (s : Int))
    refine ⟨_, (pss_cons (ps_set (i := 5) nd rfl (Or.inl rfl) (pe_ifExp (pt_cmpR op_eq (pe_ix ix_tup (pv 1) (pv 2) (fun _ _ => rfl)) (pe_ix ix_tup (pv 3) (pv 4) (fun _ _ => rfl)) (nomark _)) pe_int (pe_un un_neg pe_int)))
    (pss_cons (ps_set (i := 6) nd rfl (Or.inl rfl) (pe_call (ok_shared T) (hr.mono (by decide)) (by rfl) T.shared.g T.shared.k T.shared.b .nil pass0 (pa_cons (pv 1) (pa_cons (pv 2) (pa_cons (pv 3) (pa_cons (pv 4) (pa_cons (pv 5) (pa_cons (pe_un un_neg pe_int) pa_nil))))))))
    (pss_cons (ps_set (i := 7) nd rfl (Or.inl rfl) (pe_call (ok_shared T) (hr.mono (by decide)) (by rfl) T.shared.g T.shared.k T.shared.b .nil pass0 (pa_cons (pv 1) (pa_cons (pv 2) (pa_cons (pv 3) (pa_cons (pv 4) (pa_cons (pv 5) (pa_cons pe_int pa_nil))))))))
    (pss_cons (ps_if (PW.pt (pw_or (pt_cmpR op_isN (pv 6) pe_non (nomark _)) (pw_or1 (pt_cmpR op_isN (pv 7) pe_non (nomark _)))))
      (pss_one (ps_ret pe_non))
      pss_nil)
    (pss_cons (ps_set (i := 8) nd rfl (Or.inl rfl) (pe_call (ok_from_left T) (hr.mono (by decide)) (by rfl) T.from_left.g T.from_left.k T.from_left.b .nil pass0 (pa_cons (pv 0) (pa_cons (pv 1) (pa_cons (pe_op op_sub (pv 2) (pv 6)) (pa_cons (pv 3) (pa_cons (pe_op op_sub (pv 4) (pe_op op_mul (pv 5) (pv 6))) (pa_cons (pv 5) pa_nil))))))))
    (pss_cons (ps_set (i := 9) nd rfl (Or.inl rfl) (pe_call (ok_to_right T) (hr.mono (by decide)) (by rfl) T.to_right.g T.to_right.k T.to_right.b .nil pass0 (pa_cons (pv 0) (pa_cons (pv 1) (pa_cons (pe_op op_add (pv 2) (pv 7)) (pa_cons (pv 3) (pa_cons (pe_op op_add (pv 4) (pe_op op_mul (pv 5) (pv 7))) (pa_cons (pv 5) pa_nil))))))))
    (pss_one (ps_ret (pe_tup (pa_cons (pv 6) (pa_cons (pe_op op_add (pe_op op_add (pv 6) pe_int) (pv 7)) (pa_cons (pe_cmpR op_eq (pv 8) (pv 9) (nomark _)) pa_nil)))))))))))), ?_⟩
    refine sqn (asn (tIf_r (fun v H' => H' = H ∧ v = .int (Ln.wayOf (Ln.gt ns (a : Int)) (Ln.gt ms (s : Int)))) (fun f => ?_) ?_))
    · refine ⟨_, rfl, _, rfl, t, _, _, _, rfl, rfl, ht, at_lt la, ?_⟩
      refine ⟨_, rfl, _, rfl, u, _, _, _, rfl, rfl, hu, at_lt ls, rfl, _, rfl, ite2 (fun c => f _ _ ⟨rfl, ?_⟩) (fun c => ⟨1, rfl, f _ _ ⟨rfl, ?_⟩⟩)⟩
      · have c' : Ln.gt ns (a : Int) = Ln.gt ms (s : Int) := by simpa using c
        rw [Ln.wayOf, if_pos c']
      · have c' : ¬ Ln.gt ns (a : Int) = Ln.gt ms (s : Int) := by simpa using c
        rw [Ln.wayOf, if_neg c']
    unfold Ln.pst at k
    generalize Ln.wayOf (Ln.gt ns (a : Int)) (Ln.gt ms (s : Int)) = w at k hw
    rintro v H' ⟨rfl, rfl⟩
    have B1 := rn.b n6 pm
    have B2 := rm.b n6 pm
    refine ⟨_, rfl, _, rfl, _, rfl, _, rfl, _, rfl, 1, rfl, t, u, ns, ms, a, s, w, -1, rfl, ht, hu, rn.r.1, rm.r.1, B1, B2, by have := rn.l; omega, by have := rm.l; omega, hw, .inr rfl, ?_⟩
    refine ⟨_, rfl, _, rfl, _, rfl, _, rfl, _, rfl, t, u, ns, ms, a, s, w, 1, rfl, ht, hu, rn.r.1, rm.r.1, B1, B2, by have := rn.l; omega, by have := rm.l; omega, hw, .inl rfl, ?_⟩
    unfold Ln.cst at k
    cases hb : Ln.shr (Ln.lon ns (a : Int) 1) (Ln.lon ms (s : Int) w) (-1) (ns.length + ms.length) with
    | none =>
      rw [hb] at k
      exact ⟨_, rfl, rfl, _, rfl, ite2 (fun _ => iteT (k .non _ (fun _ _ z => z) rfl)) (fun c => absurd (by first | rfl | decide) c)⟩
    | some b =>
      cases ho : Ln.shr (Ln.lon ns (a : Int) 1) (Ln.lon ms (s : Int) w) 1 (ns.length + ms.length) with
      | none =>
        rw [hb, ho] at k
        exact ⟨_, rfl, rfl, _, rfl, ite2 (fun c => absurd c (by simp [optV])) (fun _ => ⟨_, rfl, rfl, _, rfl, ite2 (fun _ => k .non _ (fun _ _ z => z) rfl) (fun c => absurd (by first | rfl | decide) c)⟩)⟩
      | some o =>
        rw [hb, ho] at k
        dsimp only at k
        refine ⟨_, rfl, rfl, _, rfl, ite2 (fun c => absurd c (by simp [optV])) (fun _ => ⟨_, rfl, rfl, _, rfl, ite2 (fun c => absurd c (by simp [optV])) (fun _ => ?_)⟩)⟩
        refine tnx ?_
        dsimp only
        have hwb : CMul w (b : Int) := .inl (by rcases hw with rfl | rfl <;> decide)
        have hwo : CMul w (o : Int) := .inl (by rcases hw with rfl | rfl <;> decide)
        have eb : (s : Int) - w * (b : Int) = (s : Int) + w * (-(b : Int)) := by rw [Int.mul_neg]; omega
        have ea : (a : Int) - (b : Int) = (a : Int) + (-(b : Int)) := by omega
        have fl : fL row ns ms ((a : Int) - (b : Int)) ((s : Int) - w * (b : Int)) w = Ln.ahd row (Ln.lon ns (a : Int) 1 (-(b : Int))) (Wd.mate (Ln.lon ns (a : Int) 1 (-(b : Int) - 1))) (Wd.mate (Ln.lon ms (s : Int) w (-(b : Int) - 1))) := by
          unfold fL
          rw [ea, eb, Ln.lon_sh1, Ln.lon_sh1, Ln.lon_sh _ _ _ _ _ hw, Int.add_zero]
          rfl
        have fr : fR row ns ms ((a : Int) + (o : Int)) ((s : Int) + w * (o : Int)) w = Ln.ahd row (Wd.mate (Ln.lon ns (a : Int) 1 (o : Int))) (Ln.lon ns (a : Int) 1 ((o : Int) + 1)) (Ln.lon ms (s : Int) w ((o : Int) + 1)) := by
          unfold fR
          rw [Ln.lon_sh1, Ln.lon_sh1, Ln.lon_sh _ _ _ _ _ hw, Int.add_zero]
        rw [← fl, ← fr] at k
        clear fl fr ea eb
        refine ⟨_, rfl, _, rfl, _, rfl, _, rfl, _, _, rfl, rfl, _, rfl, _, rfl, _, rfl, _, rfl, _, _, rfl, rfl, hwb, _, _, rfl, rfl, _, rfl, p, row, n, t, u, ns, ms, _, _, w, rfl, sk, n6, pm, ht, hu, rn, rm, hw, ?_⟩
        refine ⟨_, rfl, _, rfl, _, rfl, _, rfl, _, _, rfl, rfl, _, rfl, _, rfl, _, rfl, _, rfl, _, _, rfl, rfl, hwo, _, _, rfl, rfl, _, rfl, p, row, n, t, u, ns, ms, _, _, w, rfl, sk, n6, pm, ht, hu, rn, rm, hw, ?_⟩
        refine ⟨_, rfl, _, rfl, _, _, rfl, rfl, _, rfl, _, _, rfl, rfl, _, rfl, _, rfl, rfl, (by show 3 ≤ sizeLine; decide), fun q hq => k _ _ (same_new hq) ⟨q, rfl, ?_⟩⟩
        rw [upd_same]
        refine congrArg (fun z => some (HO.tup [_, _, V.bl z])) ?_
        show decide (V.bl _ = V.bl _) = _
        cases fL row ns ms _ _ w <;> cases fR row ns ms _ _ w <;> rfl
end
end Tt
set_option maxRecDepth 100000
set_option maxHeartbeats 4000000
namespace Ln
open Wd
theorem per_int {f : Int → Int} {a : Int} (pf : ∀ t, f (t + a) = f t) (t k : Int) : f (t + k * a) = f t := by
  have up : ∀ (n : Nat) (t : Int), f (t + (n : Int) * a) = f t := fun n => by
    induction n with
    | zero => intro t; rw [show t + ((0 : Nat) : Int) * a = t by simp]
    | succ n ih =>
      intro t
      rw [show t + ((n + 1 : Nat) : Int) * a = (t + (n : Int) * a) + a by rw [Int.natCast_add, Int.add_mul]; simp; omega, pf, ih]
  rcases Int.le_total 0 k with c | c
  · obtain ⟨n, rfl⟩ := Int.eq_ofNat_of_zero_le c
    exact up n t
  · obtain ⟨n, hn⟩ := Int.eq_ofNat_of_zero_le (show 0 ≤ -k by omega)
    have e : k = -(n : Int) := by omega
    subst e
    have := up n (t + -(n : Int) * a)
    rw [show t + -(n : Int) * a + (n : Int) * a = t by rw [Int.neg_mul]; omega] at this
    exact this.symm
theorem per_in {f : Int → Int} {a : Int} (ha : 0 < a) (pf : ∀ t, f (t + a) = f t) (t : Int) : ∃ t0, 1 ≤ t0 ∧ t0 ≤ a ∧ f t = f t0 ∧ ∃ k, t = t0 + k * a := by
  have h1 := Int.emod_nonneg (t - 1) (show a ≠ 0 by omega)
  have h2 := Int.emod_lt_of_pos (t - 1) ha
  have h3 := Int.mul_ediv_add_emod (t - 1) a
  have e : t = ((t - 1) % a + 1) + ((t - 1) / a) * a := by
    rw [Int.mul_comm ((t - 1) / a) a]
    omega
  refine ⟨(t - 1) % a + 1, by omega, by omega, ?_, _, e⟩
  conv => lhs; rw [e]
  exact per_int pf _ _
theorem fine_wilf {f g : Int → Int} {a b : Int} (ha : 0 < a) (hb : 0 < b) (pf : ∀ t, f (t + a) = f t) (pg : ∀ t, g (t + b) = g t) (h : ∀ t, 1 ≤ t → t ≤ a + b → f t = g t) (t : Int) : f t = g t := by
  have pb : ∀ t, f (t + b) = f t := fun t => by
    obtain ⟨t0, h1, h2, e, k, ek⟩ := per_in ha pf t
    rw [e, ek, show t0 + k * a + b = (t0 + b) + k * a by omega, per_int pf, h (t0 + b) (by omega) (by omega), pg, ← h t0 h1 (by omega)]
  obtain ⟨t0, h1, h2, e, k, ek⟩ := per_in hb pb t
  rw [e, h t0 h1 (by omega), ek]
  exact (per_int pg _ _).symm
theorem gt_per (ns : List Int) (t : Int) : gt ns (t + (ns.length : Int)) = gt ns t := gt_mod (Int.add_emod_right _ _)
theorem gt_per' (ns : List Int) (t : Int) : gt ns (t - (ns.length : Int)) = gt ns t := by
  have := gt_per ns (t - (ns.length : Int))
  rw [Int.sub_add_cancel] at this
  exact this.symm
theorem lon_per (ns : List Int) (p : Int) {w : Int} (hw : w = 1 ∨ w = -1) (t : Int) : lon ns p w (t + (ns.length : Int)) = lon ns p w t := by
  rcases hw with rfl | rfl
  · rw [lon1, lon1, ← Int.add_assoc, gt_per]
  · rw [lonM, lonM, show p - (t + (ns.length : Int)) = (p - t) - (ns.length : Int) by omega, gt_per']
theorem shr_end {ns ms : List Int} {p s w : Int} (hw : w = 1 ∨ w = -1) (hn : ns ≠ []) (hm : ms ≠ []) (d : lon ns p 1 (-1) ≠ lon ms s w (-1)) : ∃ o, shr (lon ns p 1) (lon ms s w) 1 (ns.length + ms.length) = some o := by
  have l1 := List.length_pos_iff.mpr hn
  have l2 := List.length_pos_iff.mpr hm
  cases e : shr (lon ns p 1) (lon ms s w) 1 (ns.length + ms.length) with
  | some o => exact ⟨o, rfl⟩
  | none =>
    rw [shr_none] at e
    refine absurd (fine_wilf (a := ns.length) (b := ms.length) (by omega) (by omega) (lon_per ns p (.inl rfl)) (lon_per ms s hw) (fun t h1 h2 => ?_) (-1)) d
    obtain ⟨k, hk⟩ := Int.eq_ofNat_of_zero_le (show 0 ≤ t - 1 by omega)
    have := e k (by omega)
    rw [show (1 : Int) * ((k : Int) + 1) = t by omega] at this
    exact this
theorem shr_now {f g : Int → Int} {n : Nat} (hn : 0 < n) (d : f (-1) ≠ g (-1)) : shr f g (-1) n = some 0 := by
  rw [shr_some]
  exact ⟨hn, d, fun k hk => absurd hk (Nat.not_lt_zero _)⟩
def isFst (ns ms : List Int) (p s : Int) : Prop := gt ns p / 2 = gt ms s / 2 ∧ lon ns p 1 (-1) ≠ lon ms s (wayOf (gt ns p) (gt ms s)) (-1)
instance (ns ms : List Int) (p s : Int) : Decidable (isFst ns ms p s) := inferInstanceAs (Decidable (_ ∧ _))
theorem pst_fst {row ns ms : List Int} {p s : Int} (hn : ns ≠ []) (hm : ms ≠ []) (h : isFst ns ms p s) : ∃ (o : Nat) (b : Bool), shr (lon ns p 1) (lon ms s (wayOf (gt ns p) (gt ms s))) 1 (ns.length + ms.length) = some o ∧ pst row ns ms p s = some (0, 1 + (o : Int), b) := by
  have l1 := List.length_pos_iff.mpr hn
  obtain ⟨o, ho⟩ := shr_end (wayOf_or (gt ns p) (gt ms s)) hn hm h.2
  have z := shr_now (f := lon ns p 1) (g := lon ms s (wayOf (gt ns p) (gt ms s))) (n := ns.length + ms.length) (by omega) h.2
  cases hp : pst row ns ms p s with
  | none =>
    unfold pst cst at hp
    rw [z, ho] at hp
    cases hp
  | some y =>
    obtain ⟨x, l, b⟩ := y
    unfold pst cst at hp
    rw [z, ho] at hp
    have e := Option.some.inj hp
    have e1 : x = 0 := (Prod.mk.inj e).1.symm
    have e2 : l = 1 + (o : Int) := by
      have := (Prod.mk.inj (Prod.mk.inj e).2).1
      omega
    exact ⟨o, b, ho, by rw [e1, e2]⟩
def aln (row ns ms : List Int) (p s : Int) : Option Int := if isFst ns ms p s then (match pst row ns ms p s with
  | some (_, l, true) => some l
  | _ => none) else none
end Ln
set_option maxRecDepth 100000
namespace Bt
open PySem PySem.Spec PyProof.Rows L2
open PySem.W
section
variable {prog : Program} {w : World} {A : Around} {E : Value → Shared → Prop} {s : Shared}
theorem min_of_two {v u : Value} {x y : PyData} {as : List Addr} {Q : Value → Shared → Prop} (hh : A.handled = none) (hr : ReadsAll s.heap [v, u] [x, y] as) (ha : AlikeAll [x, y]) (hu : A.units + 1 + PyData.depthAll [x, y] < cLine)
    (k : ∀ h' tk, (∀ b o, s.heap.get? b = some o → h'.get? b = some o) → Q (if dataLt y x = true then u else v) { s with heap := h', toks := tk }) : wpAny (model prog w) A (call (.builtin "min") [v, u]) Q E s := by
  have nm : (toString "min" ++ toString ".loop" : String) = "min.loop" := by decide
  refine call_function_tree F.kind_min F.plain_min F.entry_min (F.args_min2 _ _) ?_
  show wpAny _ A.in1 (Builtin.Builtins.bindParams "min" ["key", "default"] 0 ⟨[], []⟩ >>= _) _ _ s
  refine wpAny_bind (wpAny_of_eq (show Builtin.Builtins.bindParams "min" ["key", "default"] 0 ⟨[], []⟩ = pure [none, none] from rfl) ?_)
  show wpAny _ A.in1 (newTuple [v, u] >>= _) _ _ s
  refine wpAny_bind (wpAny_newObj_type ?_)
  have up : ∀ b o, s.heap.get? b = some o → (s.heap.push { cls := .type "tuple", data := .seq #[v, u] }).get? b = some o := fun b o e => Heap.get?_push_of_some _ e
  have two : (s.heap.push { cls := .type "tuple", data := .seq #[v, u] }).IsTuple s.heap.objs.size #[v, u] := ⟨_, Heap.get?_push_size _ rfl, rfl, 0, rfl⟩
  have hr' : ReadsAll (s.heap.push { cls := .type "tuple", data := .seq #[v, u] }) (#[v, u] : Array Value).toList [x, y] as := PyProof.Rows.ReadsAll.keeps up hr
  generalize s.heap.push { cls := .type "tuple", data := .seq #[v, u] } = h1 at up two hr' ⊢
  refine wpAny_bind (iter_tupleW (s := { s with heap := h1 }) (A := A.in1) hh two fun s₂ e W st hfp hw hk => ?_)
  refine wpAny_bind (wpAny_newObj_type ?_)
  have out : s₂.heap.objs.size ∉ [h1.objs.size, s.heap.objs.size] := fun hm => Nat.lt_irrefl _ (hfp _ hm)
  rw [nm]
  refine wpAny_pure ⟨plainId_quiet F.plain_min_loop _, codeAny_min_loop_firstH W h1 hw _ (cmpIn_lt (s := { s with heap := h1 }) (A := A.in1) hr' ha hu) s₂.heap.objs.size out (fresh_in hk) _ (by show 0 < 2; decide) (fun b o e => Heap.get?_push_of_some _ (hk b o e)) (W.frame 0 s₂ _ s₂.toks st (Nat.le_refl _) fun b _ o e => Heap.get?_push_of_some _ e) (Heap.get?_push_size _ rfl) fun z s' hP hm => ?_⟩
  obtain ⟨h', tk, e', hk'⟩ := moved_old e rfl (Moved.drop_new (tk := s₂.toks) hm (Nat.le_refl _))
  subst e'
  have at_ : z = if dataLt y x = true then u else v := by
    have e1 : argBest (fun i j => dataLt ([x, y].getD i .none) ([x, y].getD j .none)) 1 = if dataLt y x = true then 1 else 0 := rfl
    have hP' : (#[v, u] : Array Value)[argBest (fun i j => dataLt ([x, y].getD i .none) ([x, y].getD j .none)) 1]? = some z := hP
    rw [e1] at hP'
    split at hP'
    · next c => rw [if_pos c]; exact (Option.some.inj hP').symm
    · next c => rw [if_neg c]; exact (Option.some.inj hP').symm
  rw [at_]
  exact k h' tk fun b o e => hk' b o (up b o e)
end
def rLeast2 (K : PySem.W.Frag) : List V → Hp → VK → Prop := fun vs H Q => ∃ (p q : Addr) (a b : List Int), vs = [.ref p, .ref q] ∧ SqT K H p (a.map V.int) ∧ SqT K H q (b.map V.int) ∧ Q (.ref (if b < a then q else p)) H
section
variable {X : Cx}
theorem cr_least2 (hc : X.calm = true) (hu : X.A.units + 64 < cLine) : CallR X (.builtin "min") (rLeast2 X.K) := by
  intro pins s σ H vs us Q I r h
  obtain ⟨p, q, a, b, rfl, hp, hq, q1⟩ := h
  obtain ⟨as, hr⟩ := pair_reads I hp hq r
  obtain ⟨u1, u2, rfl, r1, r2⟩ := vals2 r
  cases r1
  cases r2
  have hd := depth_rows [a, b]
  refine min_of_two (I.ok.hd hc) hr (alike_two a b) (by show X.A.units + 1 + PyData.depthAll ([a, b].map rowD) < cLine; omega) fun h' tk keep => ?_
  have e : dataLt (rowD b) (rowD a) = decide (b < a) := by
    show dataLt (.tuple (b.map PyData.int)) (.tuple (a.map PyData.int)) = _
    rw [dataLt_tuple]
    exact dataLt_ints b a
  rw [e]
  refine ⟨.ref (if b < a then q else p), H, I.kept (t' := tk) keep, ?_, q1⟩
  by_cases c : b < a
  · rw [if_pos c, if_pos (decide_eq_true c)]
    exact rfl
  · rw [if_neg c, if_neg (by simpa using c)]
    exact rfl
end
end Bt
set_option maxRecDepth 100000
set_option maxHeartbeats 4000000
namespace Tt
open PySem L2
section
variable {P : Program} {w : World} {K : PySem.W.Frag} {mg : Str → Option Value} {base : Heap}
theorem rgV_from {a b : Nat} (h : a ≤ b) : rgV (a : Int) (b : Int) = ((rgI b).drop a).map V.int := by
  unfold rgV rgI
  apply List.ext_getElem?
  intro i
  have e : ((b : Int) - (a : Int)).toNat = b - a := by omega
  rw [e, List.getElem?_map, List.getElem?_map, List.getElem?_drop, List.getElem?_map]
  by_cases c : i < b - a
  · rw [List.getElem?_range c, List.getElem?_range (by omega)]
    show some (V.int ((a : Int) + (i : Int))) = some (V.int ((a + i : Nat) : Int))
    rw [show (a : Int) + (i : Int) = ((a + i : Nat) : Int) by omega]
  · rw [List.getElem?_eq_none (by rw [List.length_range]; omega), List.getElem?_eq_none (by rw [List.length_range]; omega)]
    rfl
theorem rgI_cons {n : Nat} (h : 0 < n) : rgI n = 0 :: (rgI n).drop 1 := by
  obtain ⟨m, rfl⟩ := Nat.exists_eq_succ_of_ne_zero (by omega : n ≠ 0)
  unfold rgI
  rw [List.range_succ_eq_map]
  rfl
def spRow0 : Sp := fun vs H Q _ => ∃ (D : Dw) (n : Nat), vs = [.ref D.d, .int (n : Int)] ∧ 1 ≤ n ∧ n ≤ 6 ∧ DrOk D H ∧
  ∀ (row : List Int) q H', row.Perm (rgI (2 * n)) → row[0]? = some 0 → DrOk D H' → Kp D H H' → FzT H' q (row.map V.int) → Q (.ref q) H'
theorem ok_l_row (T : Txt K mg) : FnOk P w K mg base CX0 4 T.l_row.a T.l_row.fd ["draw", "bands"] spRow0 := by
  refine T.l_row.F.ok sc_l_row (fun vs H Q E h => ?_) (fun cdv A outer s H vs Q E hr h => ?_)
  · obtain ⟨D, n, rfl, _⟩ := h
    rfl
  · obtain ⟨D, n, rfl, n1, n6, dr, k⟩ := h
    have nd := sc_l_row.nd
    refine ⟨_, (pss_one (ps_ret (pe_op op_catF (pe_tup (pa_cons pe_int pa_nil)) (pe_callTy call_tuple_ofF (by rfl) T.ztuple (by decide +kernel) (pa_cons (pe_call (ok_l_shuffled T) (hr.mono (by decide)) (by rfl) T.l_shuffled.g T.l_shuffled.k T.l_shuffled.b .nil pass0 (pa_cons (pv 0) (pa_cons (pe_listRg rfl (by rfl) T.zlist (prg_2 (by rfl) T.zrange pe_int (pe_op op_mul pe_int (pv 1)))) pa_nil))) pa_nil))))), ?_⟩
    refine ⟨(by show 1 ≤ sizeLine; decide), fun t0 ht0 => ?_⟩
    have d1 := dr.new (o := .tup [.int 0]) ht0
    have e0 : (upd H t0 (.tup [.int 0])) t0 = some (.tup [.int 0]) := upd_same
    have k1 : Kp D H (upd H t0 (.tup [.int 0])) := Kp.new ht0
    generalize upd H t0 (.tup [.int 0]) = H1 at d1 e0 k1
    refine ⟨_, rfl, _, rfl, _, _, rfl, rfl, .inl ⟨by decide, by decide⟩, _, _, rfl, rfl, RgOk.of_le (by omega) (by omega) (by omega) (by omega), fun l hl => ?_⟩
    have ev : rgV 1 (2 * (n : Int)) = ((rgI (2 * n)).drop 1).map V.int := by
      have := rgV_from (a := 1) (b := 2 * n) (by omega)
      rw [show ((2 * n : Nat) : Int) = 2 * (n : Int) by omega] at this
      exact this
    rw [ev]
    have d2 := d1.new (o := .lst (((rgI (2 * n)).drop 1).map V.int)) hl
    have e2 := upk (u := .lst (((rgI (2 * n)).drop 1).map V.int)) hl e0
    have k2 : Kp D H (upd H1 l (.lst (((rgI (2 * n)).drop 1).map V.int))) := k1.trans (Kp.new hl)
    refine ⟨D, l, ((rgI (2 * n)).drop 1).map V.int, rfl, .inl (SqL.of upd_same), by rw [List.length_map, List.length_drop, rgI_len]; omega, fun v hv => (by obtain ⟨i, _, rfl⟩ := List.mem_map.mp hv; exact .int i), d2, fun ys q H3 pmv d3 k3 hq h3 => ?_⟩
    obtain ⟨ns', pm, rfl⟩ := permV_ints pmv
    have e3 := d2.tup k3 e2
    refine ⟨q, _, rfl, .inl ⟨SqL.of h3, fun t ob ht hd => ?_⟩⟩
    have e4 := upk (u := .frz ob (.tup (ns'.map V.int))) ht e3
    have hlen := pm.length_eq
    rw [List.length_drop, rgI_len] at hlen
    refine ⟨t0, t, _, _, rfl, rfl, SqT.of e4, (FzT.new hd).sq, by simp, ?_, fun z => ?_, fun _ r ob2 hr2 hob => ?_⟩
    · rw [List.length_map]
      show 1 + _ ≤ sizeLine
      exact Nat.le_of_lt (small1000 (by omega))
    · exfalso
      have := congrArg List.length z
      rw [List.length_map, List.length_nil] at this
      omega
    · refine k (0 :: ns') r _ ?_ rfl ((d3.new ht).new hr2) (k2.trans (k3.trans ((Kp.new ht).trans (Kp.new hr2)))) (FzT.new hob)
      rw [rgI_cons (by omega)]
      exact pm.cons 0
theorem ok_l_undone (T : Txt K mg) : FnOk P w K mg base CX0 2 T.l_undone.a T.l_undone.fd ["word"] (spUndo K) := by
  refine T.l_undone.F.ok sc_l_undone (fun vs H Q E h => ?_) (fun cdv A outer s H vs Q E hr h => ?_)
  · obtain ⟨p, ns, rfl, _⟩ := h
    rfl
  · obtain ⟨p, ns, rfl, hs, hl, hb, k⟩ := h
    have nd := sc_l_undone.nd
    refine ⟨_, (pss_one (ps_ret (pe_callTy call_tuple_of (by rfl) T.ztuple (by decide +kernel) (pa_cons (pe_lc (own := [("letter", 1)]) (g := gName 1) rfl nd (pi_tup (pe_revT (pv 0))) (blkOk_by (own := [("letter", 1)]) (N := N_l_undone) (sc := defScope s_l_undone) (by decide +kernel)) (fun _ _ _ _ _ => pg_name (i := 1) nd rfl (Or.inl rfl)) (fun _ _ _ _ _ => pts_nil) (fun _ _ _ _ _ => (pe_op op_xor (pv 1) pe_int))) pa_nil)))), ?_⟩
    refine ⟨_, rfl, p, _, rfl, hs, fun q hq => ?_⟩
    have s1 : Same H (upd H q (.tup (ns.map V.int).reverse)) := same_new hq
    have e1 : (upd H q (.tup (ns.map V.int).reverse)) q = some (.tup (ns.reverse.map V.int)) := by rw [upd_same, List.map_reverse]
    generalize upd H q (.tup (ns.map V.int).reverse) = H1 at s1 e1
    refine ⟨q, rfl, ⟨_, SqT.of e1⟩, fun D1 hD1 => lc_tup (K := K) (a := q) (xs := ns.reverse.map V.int) (fun i H' => H' D1 = some (.lst (((ns.reverse.take i).map Wd.mate).map V.int)) ∧ Same H1 H')
      ⟨upd_same, same_new hD1⟩ (fun i H' _ z => SqT.of (z.2 _ _ e1)) ?_ ?_⟩
    · rintro i y H' hi ⟨h1, s2⟩
      obtain ⟨x, rfl, hx⟩ := ints_at hi
      have hil : i < ns.reverse.length := (List.getElem?_eq_some_iff.mp hx).1
      have hxm : x ∈ ns := by
        have := List.mem_of_getElem? hx
        rwa [List.mem_reverse] at this
      rw [List.length_reverse] at hil
      have ht : ns.reverse.take (i + 1) = ns.reverse.take i ++ [x] := by rw [List.take_add_one, hx]; rfl
      refine ⟨rfl, yes_t ?_⟩
      refine ⟨_, rfl, _, _, rfl, rfl, ?_⟩
      refine ⟨_, h1, ?_, ?_⟩
      · rw [List.length_map, List.length_map, List.length_take]
        exact small1000 (by omega)
      · refine ⟨?_, fun b o hb => ?_⟩
        · rw [upd_same, ht, List.map_append, List.map_append]
          show some (HO.lst (_ ++ [V.int (Builtin.bitXor x 1)])) = _
          rw [xor_mate (hb x hxm).1 (hb x hxm).2]
          rfl
        · rw [upd_ne (ne_of_none hb hD1)]
          exact s2 b o hb
    · rintro H' ⟨h1, s2⟩
      have e2 : ns.reverse.take (ns.reverse.map V.int).length = ns.reverse := by rw [List.length_map, List.take_length]
      rw [e2] at h1
      refine ⟨D1, _, rfl, .inl ⟨SqL.of h1, fun l hl => ?_⟩⟩
      exact k l _ ((s1.trans s2).trans (same_new hl)) upd_same
theorem ok_l_least (T : Txt K mg) : FnOk P w K mg base CX0 2 T.l_least.a T.l_least.fd ["word"] (spLeast K) := by
  refine T.l_least.F.ok sc_l_least (fun vs H Q E h => ?_) (fun cdv A outer s H vs Q E hr h => ?_)
  · obtain ⟨p, ns, rfl, _⟩ := h
    rfl
  · obtain ⟨p, ns, rfl, hp, hne, hl, k⟩ := h
    have nd := sc_l_least.nd
    refine ⟨_, (pss_one (ps_ret (pe_callB (cr_minT rfl hr.units) (by rfl) T.zmin (by decide +kernel) (pa_cons (pe_lc (own := [("k", 1)]) (g := gName 1) rfl nd (pi_range1 rfl T.zrange (pa_cons (pe_callB call_len_seq (by rfl) T.zlen (by decide +kernel) (pa_cons (pv 0) pa_nil)) pa_nil)) (blkOk_by (own := [("k", 1)]) (N := N_l_least) (sc := defScope s_l_least) (by decide +kernel)) (fun _ _ _ _ _ => pg_name (i := 1) nd rfl (Or.inl rfl)) (fun _ _ _ _ _ => pts_nil) (fun _ _ _ _ _ => (pe_op (op_catAK (K := K) rfl) (pe_slice (sl_tupAK (K := K) rfl) (pv 0) (po_some (pv 1)) po_none) (pe_slice (sl_tupAK (K := K) rfl) (pv 0) po_none (po_some (pv 1)))))) pa_nil)))), ?_⟩
    refine ⟨_, rfl, p, _, rfl, .inr hp, _, rfl, by omega, by rw [List.length_map]; omega, fun D1 hD1 => ?_⟩
    refine lc_range (lo := 0) (n := ((ns.map V.int).length : Int).toNat) (fun i H' => ∃ ps : List Addr, H' D1 = some (.lst (ps.map V.ref)) ∧ Paired (fun p m => SqT K H' p (m.map V.int)) ps ((turns ns).take i) ∧ Same H H')
      ⟨[], upd_same, .nil, same_new hD1⟩ ?_ ?_
    · rintro i H' hi ⟨ps, h1, h2, s2⟩
      have hi2 : i < ns.length := by rw [List.length_map] at hi; omega
      have hpl : ps.length = i := by
        have := h2.length
        rw [List.length_take, turns_len] at this
        omega
      refine ⟨rfl, yes_t ?_⟩
      refine ⟨_, rfl, _, rfl, (i : Int), by rw [Int.zero_add], noPart_i ?_⟩
      refine slT_genD (K := K) (same_seqT s2 hp) fun b1 H2 s3 hb1 => ?_
      refine ⟨_, rfl, noPart_i ⟨_, rfl, (i : Int), by rw [Int.zero_add], ?_⟩⟩
      refine slT_gen (K := K) (same_seqT (s2.trans s3) hp) fun b2 H3 s4 hb2 => ?_
      refine catA_gen (K := K) (same_seqT s4 hb1) hb2 ?_ fun c H4 s5 hc => ?_
      · rw [List.length_drop, List.length_take, List.length_map]
        exact Nat.le_of_lt (small1000 (by omega))
      have sA : Same H' H4 := (s3.trans s4).trans s5
      have h4 := sA _ _ h1
      refine ⟨_, h4, by rw [List.length_map]; exact small1000 (by omega), ps ++ [c], ?_, ?_, fun b o hb => ?_⟩
      · rw [upd_same, List.map_append]
        rfl
      · rw [List.take_add_one, turns_get hi2]
        refine pair_snoc (pair_mono (fun a m z => sqT_put (same_seqT sA z) h4) h2) ?_
        refine sqT_put ?_ h4
        have e : (turnAt ns i).map V.int = (ns.map V.int).drop i ++ (ns.map V.int).take i := by
          unfold turnAt
          rw [List.map_append, List.map_drop, List.map_take]
        rw [e]
        exact hc
      · rw [upd_ne (ne_of_none hb hD1)]
        exact sA _ _ (s2 _ _ hb)
    · rintro H' ⟨ps, h1, h2, s2⟩
      have e : (turns ns).take ((ns.map V.int).length : Int).toNat = turns ns := List.take_of_length_le (by rw [turns_len, List.length_map]; omega)
      rw [e] at h2
      have hl2 := turns_len ns
      cases ht : turns ns with
      | nil =>
        rw [ht] at hl2
        exact absurd (List.length_eq_zero_iff.mp hl2.symm) hne
      | cons r0 rs =>
        rw [ht] at h2
        refine ⟨D1, ps, r0, rs, rfl, SqL.of h1, h2, fun i q hq hm => k q H' s2 ?_⟩
        have hi : i < (r0 :: rs).length := by
          rw [← h2.length]
          exact (List.getElem?_eq_some_iff.mp hq).1
        have em := hm _ (List.getElem?_eq_getElem hi)
        rw [minR_D] at em
        have e2 := rowD_inj em
        have e3 := pair_at h2 hq (List.getElem?_eq_getElem hi)
        rw [e2] at e3
        have e4 : leastT ns = minR r0 rs := by
          unfold leastT
          rw [ht]
        rw [e4]
        exact e3
end
end Tt
set_option maxRecDepth 100000
set_option maxHeartbeats 4000000
namespace Tt
open PySem L2
def Fl (m : Int) (i : Nat) : List Int := (rgI i).filter fun x => decide (x ≠ m)
theorem rgI_snoc (i : Nat) : rgI (i + 1) = rgI i ++ [(i : Int)] := by
  unfold rgI
  rw [List.range_succ, List.map_append]
  rfl
theorem Fl_yes {m : Int} {i : Nat} (h : (i : Int) ≠ m) : Fl m (i + 1) = Fl m i ++ [(i : Int)] := by
  unfold Fl
  rw [rgI_snoc, List.filter_append]
  simp [h]
theorem Fl_no {m : Int} {i : Nat} (h : (i : Int) = m) : Fl m (i + 1) = Fl m i := by
  unfold Fl
  rw [rgI_snoc, List.filter_append]
  simp [h]
theorem Fl_mem {m x : Int} {i : Nat} : x ∈ Fl m i ↔ (0 ≤ x ∧ x < i) ∧ x ≠ m := by
  unfold Fl
  rw [List.mem_filter, perm_mem (List.Perm.refl (rgI i))]
  simp
theorem Fl_len (m : Int) (i : Nat) : (Fl m i).length ≤ i := by
  unfold Fl
  exact Nat.le_trans (List.length_filter_le _ _) (Nat.le_of_eq (rgI_len i))
theorem Fl_ne {m e : Int} (e2 : 2 ≤ e) : Fl m e.toNat ≠ [] := fun q => by
  have z0 : (0 : Int) ∉ Fl m e.toNat := by rw [q]; simp
  have z1 : (1 : Int) ∉ Fl m e.toNat := by rw [q]; simp
  rw [Fl_mem] at z0 z1
  omega
theorem rd_one (n : Int) : Wd.Rd [n] := fun i a b h1 h2 => by simp at h2
theorem cr_one (n : Int) : Wd.CR [n] := cr_of (rd_one n) (fun h => absurd h.1 (by simp))
theorem rd_snoc {fs : List Int} {v la : Int} (c : Wd.Rd fs) (hl : fs.getLast? = some la) (hv : v ≠ Wd.mate la) : Wd.Rd (fs ++ [v]) := fun i a b h1 h2 => by
  have hla := Wd.last_get.mp hl
  have li := (List.getElem?_eq_some_iff.mp h2).1
  rw [List.length_append, List.length_singleton] at li
  by_cases hi : i + 1 < fs.length
  · rw [List.getElem?_append_left (by omega)] at h1
    rw [List.getElem?_append_left hi] at h2
    exact c i a b h1 h2
  · have hn : 0 < fs.length := List.length_pos_iff.mpr hla.1
    rw [List.getElem?_append_left (by omega)] at h1
    rw [List.getElem?_append_right (by omega)] at h2
    have e0 : i + 1 - fs.length = 0 := by omega
    have e1 : i = fs.length - 1 := by omega
    rw [e0] at h2
    rw [e1, hla.2] at h1
    have h2' : v = b := Option.some.inj h2
    have h1' : la = a := Option.some.inj h1
    rw [← h2', ← h1']
    exact hv
theorem eqX {a b : Int} (h0 : 0 ≤ b) (h1 : b < 12) : decide (V.int a = V.int (Builtin.bitXor b 1)) = true ↔ a = Wd.mate b := by
  rw [xor_mate h0 h1]
  simp
theorem neX {a b : Int} (h0 : 0 ≤ b) (h1 : b < 12) : (!decide (V.int a = V.int (Builtin.bitXor b 1))) = true ↔ a ≠ Wd.mate b := by
  rw [xor_mate h0 h1]
  simp
theorem rep_get {a : Int} {n i : Nat} {x : Int} (h : (List.replicate n a)[i]? = some x) : x = a := List.eq_of_mem_replicate (List.mem_of_getElem? h)
theorem rd_rep (a : Int) (n : Nat) : Wd.Rd (List.replicate n a) := fun i x y h1 h2 => by
  rw [rep_get h1, rep_get h2]
  exact fun z => Ln.mate_ne a z.symm
theorem cr_rep (a : Int) (n : Nat) : Wd.CR (List.replicate n a) := by
  unfold Wd.CR
  rw [List.replicate_append_replicate]
  exact rd_rep a _
theorem cr_ends {fs : List Int} {la f0 : Int} (c : Wd.Rd fs) (hl : fs.getLast? = some la) (hf : fs[0]? = some f0) (h : la ≠ Wd.mate f0) : Wd.CR fs := by
  refine cr_of c fun hh => ?_
  have h2 := hh.2
  rw [hl, List.head?_eq_getElem?, hf] at h2
  exact h (Wd.mate_eq.mp (Option.some.inj h2))
section
variable {P : Program} {w : World} {K : PySem.W.Frag} {mg : Str → Option Value} {base : Heap}
def setL (fs : List Int) (v : Int) : List Int := fs.dropLast ++ [v]
theorem ixN_last {n : Nat} (h : 1 ≤ n) : ixN n (-1) = some (n - 1) := by
  unfold ixN
  simp
  omega
theorem set_last {fs : List Int} (hne : fs ≠ []) (v : Int) : (fs.map V.int).set (fs.length - 1) (.int v) = (setL fs v).map V.int := by
  obtain ⟨a, ha⟩ : ∃ a, fs.getLast? = some a := by
    cases e : fs.getLast? with
    | none => exact absurd (List.getLast?_eq_none_iff.mp e) hne
    | some a => exact ⟨a, rfl⟩
  have e := Wd.snoc_of_last ha
  have hl : fs.dropLast.length = fs.length - 1 := List.length_dropLast
  unfold setL
  conv => lhs; rw [← e]
  rw [List.map_append, List.map_append, List.set_append_right _ _ (by rw [List.length_map, List.length_append, List.length_singleton]; omega)]
  rw [List.length_map, List.length_append, List.length_singleton]
  have z : fs.dropLast.length + 1 - 1 - fs.dropLast.length = 0 := by omega
  rw [z]
  rfl
theorem setL_len {fs : List Int} (hne : fs ≠ []) (v : Int) : (setL fs v).length = fs.length := by
  have : 0 < fs.length := List.length_pos_iff.mpr hne
  unfold setL
  rw [List.length_append, List.length_dropLast, List.length_singleton]
  omega
theorem setL_last (fs : List Int) (v : Int) : (setL fs v).getLast? = some v := by
  unfold setL
  exact List.getLast?_concat
theorem rd_drop {fs : List Int} (c : Wd.Rd fs) : Wd.Rd fs.dropLast := fun i a b h1 h2 => by
  have e1 : i + 1 < fs.dropLast.length := (List.getElem?_eq_some_iff.mp h2).1
  rw [List.length_dropLast] at e1
  rw [List.getElem?_dropLast, if_pos (by omega)] at h1
  rw [List.getElem?_dropLast, if_pos (by omega)] at h2
  exact c i a b h1 h2
theorem rd_setL {fs : List Int} {v : Int} (c : Wd.Rd fs) (h : ∀ b, fs.dropLast.getLast? = some b → v ≠ Wd.mate b) : Wd.Rd (setL fs v) := by
  unfold setL
  cases e : fs.dropLast.getLast? with
  | none =>
    rw [List.getLast?_eq_none_iff.mp e]
    exact rd_one v
  | some b => exact rd_snoc (rd_drop c) e (h b e)
def spDrawn : Sp := fun vs H Q _ => ∃ (D : Dw) (e z : Int), vs = [.ref D.d, .int e, .int z] ∧ 2 ≤ e ∧ e ≤ 12 ∧ e % 2 = 0 ∧ 1 ≤ z ∧ z ≤ 60 ∧ DrOk D H ∧
  ∀ (ns : List Int) q H', (ns.length : Int) = z → Lt e ns → Wd.CR ns → DrOk D H' → Kp D H H' → SqT K H' q (ns.map V.int) → Q (.ref q) H'
theorem ok_l_drawn (T : Txt K mg) : FnOk P w K mg base CX0 4 T.l_drawn.a T.l_drawn.fd ["draw", "size", "many"] (spDrawn (K := K)) := by
  refine T.l_drawn.F.ok sc_l_drawn (fun vs H Q E h => ?_) (fun cdv A outer s H vs Q E hr h => ?_)
  · obtain ⟨D, e, z, rfl, _⟩ := h
    rfl
  · obtain ⟨D, e, z, rfl, e2, e12, ev, z1, z60, dr, k⟩ := h
    have nd := sc_l_drawn.nd
    refine ⟨_, (pss_cons (ps_set (i := 3) nd rfl (Or.inr rfl) (pe_lst (pa_cons (pe_call (ok_l_take T) (hr.mono (by decide)) (by rfl) T.l_take.g T.l_take.k T.l_take.b .nil pass0 (pa_cons (pv 0) (pa_cons (pv 1) pa_nil))) pa_nil)))
    (pss_cons (ps_while PassesOwn.never (pt_cmpR op_lt (pe_callB call_len_seq (by rfl) T.zlen (by decide +kernel) (pa_cons (pv 3) pa_nil)) (pv 2) (nomark _))
      (pss_one (ps_expr (pe_bm PySem.F.plainAttrs_list PySem.F.slot_list_append PySem.F.type_list_append mt_append (pv 3) (pa_cons (pe_call (ok_l_pick T) (hr.mono (by decide)) (by rfl) T.l_pick.g T.l_pick.k T.l_pick.b .nil pass0 (pa_cons (pv 0) (pa_cons (pe_lc (own := [("letter", 4)]) (g := gName 4) rfl nd (pi_range1 rfl T.zrange (pa_cons (pv 1) pa_nil)) (blkOk_by (own := [("letter", 4)]) (N := N_l_drawn) (sc := defScope s_l_drawn) (by decide +kernel)) (fun _ _ _ _ _ => pg_name (i := 4) nd rfl (Or.inl rfl)) (fun _ _ _ _ _ => pts_one (pt_cmpR op_ne (pv 4) (pe_op op_xor (pe_ix (ix_listK (K := K) rfl) (pv 3) (pe_un un_neg pe_int) (fun _ _ => rfl)) pe_int) (nomark _))) (fun _ _ _ _ _ => (pv 4))) pa_nil))) pa_nil)))))
    (pss_cons (ps_if (pt_cmpR op_eq (pe_ix ix_list (pv 3) (pe_un un_neg pe_int) (fun _ _ => rfl)) (pe_op op_xor (pe_ix ix_list (pv 3) pe_int (fun _ _ => rfl)) pe_int) (nomark _))
      (pss_one (ps_asg (pe_ix ix_list (pv 3) pe_int (fun _ _ => rfl)) (pg_sub (pv 3) (pe_un un_neg pe_int) set_list (fun _ => rfl))))
      pss_nil)
    (pss_cons (ps_if (PW.pt (pw_and (pt_cmpR op_gt (pe_callB call_len_seq (by rfl) T.zlen (by decide +kernel) (pa_cons (pv 3) pa_nil)) pe_int (nomark _)) (pw_and1 (pt_cmpR op_eq (pe_ix ix_list (pv 3) (pe_un un_neg pe_int) (fun _ _ => rfl)) (pe_op op_xor (pe_ix ix_list (pv 3) (pe_un un_neg pe_int) (fun _ _ => rfl)) pe_int) (nomark _)))))
      (pss_one (ps_asg (pe_ix ix_list (pv 3) (pe_un un_neg pe_int) (fun _ _ => rfl)) (pg_sub (pv 3) (pe_un un_neg pe_int) set_list (fun _ => rfl))))
      pss_nil)
    (pss_one (ps_ret (pe_ifExp (pt_cmpR op_ne (pe_ix ix_list (pv 3) (pe_un un_neg pe_int) (fun _ _ => rfl)) (pe_op op_xor (pe_ix ix_list (pv 3) pe_int (fun _ _ => rfl)) pe_int) (nomark _)) (pe_callTy call_tuple_of (by rfl) T.ztuple (by decide +kernel) (pa_cons (pv 3) pa_nil)) (pe_op op_repA (pe_tup (pa_cons (pe_ix ix_list (pv 3) pe_int (fun _ _ => rfl)) pa_nil)) (pv 2))))))))), ?_⟩
    refine ⟨_, rfl, _, rfl, D, e, rfl, by omega, by omega, dr, fun n H1 n0 n1 d1 k1 => ⟨(by show 1 ≤ sizeLine; decide), fun f hf => ?_⟩⟩
    have d2 := d1.new (o := .lst [.int n]) hf
    have k2 : Kp D H (upd H1 f (.lst [.int n])) := k1.trans (Kp.new hf)
    have of : Off D f := d1.off hf
    have h2 : (upd H1 f (.lst [.int n])) f = some (.lst (([n] : List Int).map V.int)) := upd_same
    have hfN : ∀ b o, H b = some o → b ≠ f := fun b o hb q => by
      subst q
      have := k1 b o hb of.1 of.2.1
      rw [hf] at this
      cases this
    have kf : ∀ H3 o, Kp D H H3 → Kp D H (upd H3 f o) := fun H3 o k3 b u hb q1 q2 => by
      rw [upd_ne (hfN b u hb)]
      exact k3 b u hb q1 q2
    generalize upd H1 f (.lst [.int n]) = H2 at d2 k2 h2
    refine while_by (fun σ H' => ∃ (fs : List Int), σ = [some (.ref D.d), some (.int e), some (.int z), some (.ref f), none] ∧ H' f = some (.lst (fs.map V.int)) ∧ 1 ≤ fs.length ∧ (fs.length : Int) ≤ z ∧ Lt e fs ∧ Wd.Rd fs ∧ DrOk D H' ∧ Kp D H H') (lenAt 3)
      ⟨[n], rfl, h2, Nat.le_refl 1, by show (1 : Int) ≤ z; omega, fun x hx => by rw [List.mem_singleton.mp hx]; exact ⟨n0, n1⟩, rd_one n, d2, k2⟩ ?_ ?_
    · rintro σ H' ⟨fs, rfl, h3, l1, lz, lt, rd, d3, k3⟩
      have fne : fs ≠ [] := fun q => by subst q; simp at l1
      refine ⟨_, rfl, f, _, rfl, .inl (SqL.of h3), _, rfl, _, _, rfl, rfl, _, rfl, ?_⟩
      rw [List.length_map]
      obtain ⟨la, hla, lat⟩ := atI_last fne
      obtain ⟨f0, hf0⟩ : ∃ f0, fs[0]? = some f0 := ⟨_, List.getElem?_eq_getElem (by omega)⟩
      have at0 : atI (fs.map V.int) 0 = some (V.int f0) := atI_nat (j := 0) (ints_get hf0)
      have lar := lt la (List.mem_of_getElem? (Wd.last_get.mp hla).2)
      have f0r := lt f0 (List.mem_of_getElem? hf0)
      refine ite2 (fun g => ?_) (fun g => ?_)
      · have g' : (fs.length : Int) < z := by simpa using g
        refine ⟨_, rfl, .inl ⟨rfl, _, SqL.of h3⟩, _, rfl, _, rfl, _, rfl, by omega, by omega, fun D1 hD1 => ?_⟩
        refine lc_range (lo := 0) (n := e.toNat) (fun i H4 => H4 D1 = some (.lst ((Fl (Wd.mate la) i).map V.int)) ∧ Same H' H4) ⟨upd_same, same_new hD1⟩ ?_ ?_
        · rintro i H4 hi ⟨h4, s4⟩
          refine ⟨rfl, ?_⟩
          refine ⟨_, rfl, _, rfl, 1, rfl, f, _, (-1), V.int la, rfl, rfl, SqL.of (s4 _ _ h3), lat, _, _, rfl, rfl, rfl, _, rfl, ?_⟩
          have fl := Fl_len (Wd.mate la) i
          refine ite2 (fun c => ?_) (fun c => ?_)
          · have c' : (i : Int) ≠ Wd.mate la := by
              have := (neX lar.1 (by omega)).mp c
              rwa [Int.zero_add] at this
            refine ⟨_, rfl, _, h4, by rw [List.length_map]; exact small1000 (by omega), ?_, fun b o hb => ?_⟩
            · rw [upd_same, Fl_yes c', List.map_append, Int.zero_add]
              rfl
            · rw [upd_ne (ne_of_none hb hD1)]
              exact s4 b o hb
          · have c' : (i : Int) = Wd.mate la := Classical.byContradiction fun z => c ((neX lar.1 (by omega)).mpr (by rw [Int.zero_add]; exact z))
            exact ⟨by rw [Fl_no c']; exact h4, s4⟩
        · rintro H4 ⟨h4, s4⟩
          have d4 := d3.same s4
          have oD1 : Off D D1 := d3.off hD1
          have h3' := s4 _ _ h3
          have k4 : Kp D H H4 := k3.trans (Kp.of s4)
          refine ⟨D, D1, (Fl (Wd.mate la) e.toNat).map V.int, rfl, .inl (SqL.of h4), oD1.2.1, (fun q => Fl_ne e2 (List.map_eq_nil_iff.mp q)), ?_, d4, fun j y H6 hj d6 k6 => ?_⟩
          · rw [List.length_map]
            have := Fl_len (Wd.mate la) e.toNat
            omega
          · obtain ⟨v, rfl, hv⟩ := ints_at hj
            have hvm := Fl_mem.mp (List.mem_of_getElem? hv)
            have h6 := k6.at of h3'
            refine ⟨f, _, _, rfl, rfl, h6, by rw [List.length_map]; exact small1000 (by omega), ⟨fs ++ [v], rfl, ?_, ?_, ?_, ?_, rd_snoc rd hla hvm.2, d6.put of, kf _ _ (k4.trans k6)⟩, ?_⟩
            · rw [upd_same, List.map_append]
              rfl
            · rw [List.length_append]
              omega
            · rw [List.length_append]
              show ((fs.length + 1 : Nat) : Int) ≤ z
              omega
            · exact lt.app fun x hx => by rw [List.mem_singleton.mp hx]; omega
            · rw [lenAt_of (i := 3) (f := f) rfl upd_same, lenAt_of (i := 3) (f := f) rfl h3]
              rw [List.length_append, List.length_map]
              show 1000 - (fs.length + 1) < 1000 - fs.length
              omega
      · have g' : (fs.length : Int) = z := by
          have : ¬ (fs.length : Int) < z := by simpa using g
          omega
        refine tnx ?_
        dsimp only
        refine sqn (tIfS_r (fun H5 => ∃ gs la2, H5 f = some (.lst (gs.map V.int)) ∧ (gs.length : Int) = z ∧ Lt e gs ∧ gs[0]? = some f0 ∧ gs.getLast? = some la2 ∧ ((gs = fs ∧ la2 ≠ Wd.mate f0) ∨ (la2 = f0 ∧ gs = setL fs f0 ∧ 2 ≤ gs.length)) ∧ DrOk D H5 ∧ Kp D H H5) (fun rest => ?_) ?_)
        · refine ⟨_, rfl, 1, rfl, f, _, (-1), V.int la, rfl, rfl, SqL.of h3, lat, ?_⟩
          refine ⟨_, rfl, f, _, 0, V.int f0, rfl, rfl, SqL.of h3, at0, _, _, rfl, rfl, rfl, _, rfl, ?_⟩
          refine ite2 (fun c => ?_) (fun c => ?_)
          · have c' : la = Wd.mate f0 := (eqX f0r.1 (by omega)).mp c
            have l2 : 2 ≤ fs.length := by
              rcases Nat.lt_or_ge fs.length 2 with z | z
              · exfalso
                have e1 : fs.length - 1 = 0 := by omega
                have := (Wd.last_get.mp hla).2
                rw [e1, hf0] at this
                exact Ln.mate_ne f0 (c' ▸ (Option.some.inj this).symm)
              · exact z
            refine ⟨_, rfl, f, _, 0, V.int f0, rfl, rfl, SqL.of h3, at0, _, rfl, 1, rfl, f, _, -1, fs.length - 1, rfl, rfl, h3, by rw [List.length_map]; exact ixN_last l1, rest _ ⟨setL fs f0, f0, ?_, ?_, ?_, ?_, setL_last _ _, .inr ⟨rfl, rfl, ?_⟩, d3.put of, kf _ _ k3⟩⟩
            · rw [upd_same, set_last fne]
            · rw [setL_len fne]
              exact g'
            · intro x hx
              unfold setL at hx
              rcases List.mem_append.mp hx with hx | hx
              · exact lt x (List.dropLast_subset _ hx)
              · rw [List.mem_singleton.mp hx]
                exact f0r
            · unfold setL
              rw [List.getElem?_append_left (by rw [List.length_dropLast]; omega), List.getElem?_dropLast, if_pos (by omega)]
              exact hf0
            · rw [setL_len fne]
              exact l2
          · have c' : la ≠ Wd.mate f0 := fun z => c ((eqX f0r.1 (by omega)).mpr z)
            exact rest _ ⟨fs, la, h3, g', lt, hf0, hla, .inl ⟨rfl, c'⟩, d3, k3⟩
        rintro H5 ⟨gs, la2, h5, gz, ltg, hg0, hgl, way, d5, k5⟩
        have gl1 : 1 ≤ gs.length := by omega
        have gne : gs ≠ [] := fun q => by subst q; simp at gl1
        have gat0 : atI (gs.map V.int) 0 = some (V.int f0) := atI_nat (j := 0) (ints_get hg0)
        have gatl : atI (gs.map V.int) (-1) = some (V.int la2) := by
          obtain ⟨a, ha, hat⟩ := atI_last gne
          rw [hgl] at ha
          cases ha
          exact hat
        have la2r := ltg la2 (List.mem_of_getElem? (Wd.last_get.mp hgl).2)
        refine tnx ?_
        dsimp only
        refine sqn (tIfS_r (fun H6 => ∃ ks la3, H6 f = some (.lst (ks.map V.int)) ∧ (ks.length : Int) = z ∧ Lt e ks ∧ ks[0]? = some f0 ∧ ks.getLast? = some la3 ∧ (la3 ≠ Wd.mate f0 → Wd.CR ks) ∧ DrOk D H6 ∧ Kp D H H6) (fun rest => ?_) ?_)
        · refine ⟨_, rfl, f, _, rfl, .inl (SqL.of h5), _, _, rfl, rfl, _, rfl, ?_⟩
          rw [List.length_map]
          have done : (∀ b, gs.dropLast.getLast? = some b → la2 ≠ Wd.mate b) → ∃ ks la3, H5 f = some (.lst (ks.map V.int)) ∧ (ks.length : Int) = z ∧ Lt e ks ∧ ks[0]? = some f0 ∧ ks.getLast? = some la3 ∧ (la3 ≠ Wd.mate f0 → Wd.CR ks) ∧ DrOk D H5 ∧ Kp D H H5 := fun hb => by
            refine ⟨gs, la2, h5, gz, ltg, hg0, hgl, fun hne => ?_, d5, k5⟩
            rcases way with ⟨rfl, _⟩ | ⟨rfl, eg, _⟩
            · exact cr_ends rd hgl hg0 hne
            · have ed : gs.dropLast = fs.dropLast := by
                rw [eg]
                unfold setL
                exact List.dropLast_concat
              rw [ed] at hb
              have rg : Wd.Rd gs := by
                rw [eg]
                exact rd_setL rd hb
              exact cr_ends rg hgl hg0 hne
          refine ite2 (fun c => ?_) (fun c => ?_)
          · have l3 : 2 < gs.length := by
              have : (2 : Int) < (gs.length : Int) := by simpa using c
              omega
            obtain ⟨b, hb⟩ : ∃ b, gs[gs.length - 2]? = some b := ⟨_, List.getElem?_eq_getElem (by omega)⟩
            have br := ltg b (List.mem_of_getElem? hb)
            have hbl : gs.dropLast.getLast? = some b := by
              rw [List.getLast?_eq_getElem?, List.length_dropLast, List.getElem?_dropLast, if_pos (by omega), show gs.length - 1 - 1 = gs.length - 2 by omega]
              exact hb
            have atb : atI (gs.map V.int) (-2) = some (V.int b) := by
              unfold atI
              have e : ixN (gs.map V.int).length (-2) = some (gs.length - 2) := by
                rw [List.length_map]
                unfold ixN
                simp
                omega
              rw [e]
              exact ints_get hb
            refine ⟨_, rfl, 1, rfl, f, _, (-1), V.int la2, rfl, rfl, SqL.of h5, gatl, ?_⟩
            refine ⟨_, rfl, 2, rfl, f, _, (-2), V.int b, rfl, rfl, SqL.of h5, atb, _, _, rfl, rfl, rfl, _, rfl, ?_⟩
            refine ite2 (fun c => ?_) (fun c => ?_)
            · have c' : la2 = Wd.mate b := (eqX br.1 (by omega)).mp c
              refine ⟨_, rfl, 2, rfl, f, _, (-2), V.int b, rfl, rfl, SqL.of h5, atb, _, rfl, 1, rfl, f, _, -1, gs.length - 1, rfl, rfl, h5, by rw [List.length_map]; exact ixN_last gl1, rest _ ⟨setL gs b, b, ?_, ?_, ?_, ?_, setL_last _ _, ?_, d5.put of, kf _ _ k5⟩⟩
              · rw [upd_same, set_last gne]
              · rw [setL_len gne]
                exact gz
              · intro x hx
                unfold setL at hx
                rcases List.mem_append.mp hx with hx | hx
                · exact ltg x (List.dropLast_subset _ hx)
                · rw [List.mem_singleton.mp hx]
                  exact br
              · unfold setL
                rw [List.getElem?_append_left (by rw [List.length_dropLast]; omega), List.getElem?_dropLast, if_pos (by omega)]
                exact hg0
              · intro hne
                exfalso
                rcases way with ⟨rfl, _⟩ | ⟨e1, _, _⟩
                · have h1 := (Wd.last_get.mp hgl).2
                  have := rd (gs.length - 2) b la2 hb (by rw [show gs.length - 2 + 1 = gs.length - 1 by omega]; exact h1)
                  exact this c'
                · rw [e1] at c'
                  exact hne (Wd.mate_eq.mp c')
            · have c' : la2 ≠ Wd.mate b := fun z => c ((eqX br.1 (by omega)).mpr z)
              exact rest _ (done fun b' hb' => by
                rw [hbl] at hb'
                cases hb'
                exact c')
          · have l2 : gs.length ≤ 2 := by
              have : ¬ (2 : Int) < (gs.length : Int) := by simpa using c
              omega
            refine iteF (rest _ (done fun b hb => ?_))
            have hb2 := Wd.last_get.mp hb
            have dl : gs.dropLast.length = gs.length - 1 := List.length_dropLast
            have l1' : 0 < gs.dropLast.length := List.length_pos_iff.mpr hb2.1
            have e0 : gs.dropLast.length - 1 = 0 := by omega
            have hb3 := hb2.2
            rw [e0, List.getElem?_dropLast, if_pos (by omega), hg0] at hb3
            have eb : f0 = b := Option.some.inj hb3
            rw [← eb]
            rcases way with ⟨_, h⟩ | ⟨h, _, _⟩
            · exact h
            · rw [h]
              exact fun z => Ln.mate_ne f0 z.symm
        rintro H6 ⟨ks, la3, h6, kz, ltk, hk0, hkl, cr, d6, k6⟩
        have kl1 : 1 ≤ ks.length := by omega
        have kne : ks ≠ [] := fun q => by subst q; simp at kl1
        have kat0 : atI (ks.map V.int) 0 = some (V.int f0) := atI_nat (j := 0) (ints_get hk0)
        have katl : atI (ks.map V.int) (-1) = some (V.int la3) := by
          obtain ⟨a, ha, hat⟩ := atI_last kne
          rw [hkl] at ha
          cases ha
          exact hat
        refine ⟨_, rfl, 1, rfl, f, _, (-1), V.int la3, rfl, rfl, SqL.of h6, katl, ?_⟩
        refine ⟨_, rfl, f, _, 0, V.int f0, rfl, rfl, SqL.of h6, kat0, _, _, rfl, rfl, rfl, _, rfl, ?_⟩
        refine ite2 (fun c => ?_) (fun c => ?_)
        · have c' : la3 ≠ Wd.mate f0 := (neX f0r.1 (by omega)).mp c
          exact ⟨_, rfl, f, _, rfl, .inl ⟨SqL.of h6, fun q hq => k ks q _ kz ltk (cr c') (d6.new hq) (k6.trans (Kp.new hq)) (SqT.of upd_same)⟩⟩
        · refine ⟨_, rfl, f, _, 0, V.int f0, rfl, rfl, SqL.of h6, kat0, (by show 1 ≤ sizeLine; decide), fun t ht => ?_⟩
          have e1 : (upd H6 t (.tup [.int f0])) t = some (.tup [.int f0]) := upd_same
          have fin : ∀ q H7, DrOk D H7 → Kp D H H7 → SqT K H7 q ((List.replicate z.toNat f0).map V.int) → Q (.ref q) H7 := fun q H7 d7 k7 h7 => k _ q H7 (by rw [List.length_replicate]; omega) (fun x hx => by rw [List.eq_of_mem_replicate hx]; exact f0r) (cr_rep f0 _) d7 k7 h7
          have d7 := d6.new (o := .tup [.int f0]) ht
          have k7 : Kp D H (upd H6 t (.tup [.int f0])) := k6.trans (Kp.new ht)
          refine ⟨_, rfl, t, z, [.int f0], rfl, rfl, SqT.of e1, by simp, z1, by omega, (by show 1 ≤ 1000; decide), fun q => ?_, fun _ p hp => ?_⟩
          · subst q
            exact fin t _ d7 k7 (SqT.of e1)
          · refine fin p _ (d7.new hp) (k7.trans (Kp.new hp)) (SqT.of ?_)
            rw [upd_same]
            refine congrArg (fun q => some (HO.tup q)) ?_
            rw [List.map_replicate]
            generalize z.toNat = m
            induction m with
            | zero => rfl
            | succ m ih => rw [List.replicate_succ, List.flatten_cons, ih, List.replicate_succ]; rfl
    · rintro σ H Q Q' hq ⟨v, h1, p, ys, h2, h3, v2, h4, i, j, h5, h6, b, h7, h8⟩
      exact ⟨v, h1, p, ys, h2, h3, v2, h4, i, j, h5, h6, b, h7, hq _ _ h8⟩
end
end Tt
set_option maxRecDepth 100000
set_option maxHeartbeats 4000000
namespace Tt
open PySem L2
theorem rI_div {i j v : Int} {H : Hp} {Q : VK} (hv : i / j = v) (c : CDiv i j) (h : Q (.int v) H) : rI CDiv (fun i j => V.int (i / j)) (.int i) (.int j) H Q := ⟨i, j, rfl, rfl, c, by subst hv; exact h⟩
theorem rI0_add {i j v : Int} {H : Hp} {Q : VK} (hv : i + j = v) (h : Q (.int v) H) : rI0 (fun i j => V.int (i + j)) (.int i) (.int j) H Q := ⟨i, j, rfl, rfl, by subst hv; exact h⟩
theorem rI0_sub {i j v : Int} {H : Hp} {Q : VK} (hv : i - j = v) (h : Q (.int v) H) : rI0 (fun i j => V.int (i - j)) (.int i) (.int j) H Q := ⟨i, j, rfl, rfl, by subst hv; exact h⟩
theorem repV (t : List Int) (n : Nat) : (List.replicate n (t.map V.int)).flatten = (Wd.pow t n).map V.int := by
  rw [← Wd.pow_rep, List.map_flatten, List.map_replicate]
theorem repOne (a : Int) (m : Nat) : (List.replicate m [V.int a]).flatten = (List.replicate m a).map V.int := by
  rw [List.map_replicate]
  induction m with
  | zero => rfl
  | succ m ih => rw [List.replicate_succ, List.flatten_cons, ih, List.replicate_succ]; rfl
section
variable {P : Program} {w : World} {K : PySem.W.Frag} {mg : Str → Option Value} {base : Heap}
theorem repA_gen {xs : List V} {a : Addr} {k : Int} {H : Hp} {Q : VK} (h : SqT K H a xs) (hne : xs ≠ []) (h1 : 1 ≤ k) (h2 : k ≤ 1000) (hz : xs.length ≤ 1000)
    (q : ∀ c H', Same H H' → SqT K H' c (List.replicate k.toNat xs).flatten → Q (.ref c) H') : rRepA K (.ref a) (.int k) H Q :=
  ⟨a, k, xs, rfl, rfl, h, hne, h1, h2, hz, fun e => q a H (fun _ _ z => z) (by subst e; simpa using h), fun _ p hp => q p _ (same_new hp) (SqT.of upd_same)⟩
theorem turn_mem {a b : List Int} (h : Wd.Turn a b) {x : Int} (hx : x ∈ b) : x ∈ a := by
  obtain ⟨u, v, rfl, rfl⟩ := h
  rcases List.mem_append.mp hx with h | h
  · exact List.mem_append_right _ h
  · exact List.mem_append_left _ h
theorem take_set {fs : List Int} {j : Nat} {v : Int} (h : j < fs.length) : (fs.set j v).take (j + 1) = fs.take j ++ [v] := by
  rw [List.take_add_one, List.take_set_of_le (Nat.le_refl _), List.getElem?_set_self h]
  rfl
theorem take_last {fs : List Int} {i : Nat} {x : Int} (h : fs[i]? = some x) : (fs.take (i + 1)).getLast? = some x := by
  rw [List.take_add_one, h]
  exact List.getLast?_concat
def spMended (K : PySem.W.Frag) : Sp := fun vs H Q _ => ∃ (p : Addr) (ns : List Int) (e : Int), vs = [.ref p] ∧ SqT K H p (ns.map V.int) ∧ ns ≠ [] ∧ ns.length ≤ 60 ∧ e ≤ 12 ∧ Lt e ns ∧
  ∀ (ms : List Int) q H', ms.length = ns.length → Lt e ms → Wd.CR ms → Same H H' → SqT K H' q (ms.map V.int) → Q (.ref q) H'
theorem ok_l_mended (T : Txt K mg) : FnOk P w K mg base CX0 2 T.l_mended.a T.l_mended.fd ["word"] (spMended K) := by
  refine T.l_mended.F.ok sc_l_mended (fun vs H Q E h => ?_) (fun cdv A outer s H vs Q E hr h => ?_)
  · obtain ⟨p, ns, e, rfl, _⟩ := h
    rfl
  · obtain ⟨p, ns, e, rfl, hp, hne, hl, e12, hlt, k⟩ := h
    have nd := sc_l_mended.nd
    have l0 : 0 < ns.length := List.length_pos_iff.mpr hne
    refine ⟨_, (pss_cons (ps_set (i := 1) nd rfl (Or.inl rfl) (pe_callTy call_list_of (by rfl) T.zlist (by decide +kernel) (pa_cons (pv 0) pa_nil)))
    (pss_cons (ps_for PassesOwn.never rfl (pi_range2 rfl T.zrange (pa_cons pe_int (pa_cons (pe_callB call_len_seq (by rfl) T.zlen (by decide +kernel) (pa_cons (pv 1) pa_nil)) pa_nil))) (pg_name (i := 2) nd rfl (Or.inl rfl))
      (pss_one (ps_if (pt_cmpR op_eq (pe_ix ix_list (pv 1) (pv 2) (fun _ _ => rfl)) (pe_op op_xor (pe_ix ix_list (pv 1) (pe_op op_sub (pv 2) pe_int) (fun _ _ => rfl)) pe_int) (nomark _))
        (pss_one (ps_asg (pe_ix ix_list (pv 1) (pe_op op_sub (pv 2) pe_int) (fun _ _ => rfl)) (pg_sub (pv 1) (pv 2) set_list (fun _ => rfl))))
        pss_nil)))
    (pss_one (ps_ret (pe_ifExp (pt_cmpR op_ne (pe_ix ix_list (pv 1) (pe_un un_neg pe_int) (fun _ _ => rfl)) (pe_op op_xor (pe_ix ix_list (pv 1) pe_int (fun _ _ => rfl)) pe_int) (nomark _)) (pe_callTy call_tuple_of (by rfl) T.ztuple (by decide +kernel) (pa_cons (pv 1) pa_nil)) (pe_op op_repA (pe_tup (pa_cons (pe_ix ix_list (pv 1) pe_int (fun _ _ => rfl)) pa_nil)) (pe_callB call_len_seq (by rfl) T.zlen (by decide +kernel) (pa_cons (pv 1) pa_nil)))))))), ?_⟩
    refine ⟨_, rfl, p, _, rfl, .inr hp, fun f hf => ?_⟩
    have s1 : Same H (upd H f (.lst (ns.map V.int))) := same_new hf
    have e1 : (upd H f (.lst (ns.map V.int))) f = some (.lst (ns.map V.int)) := upd_same
    generalize upd H f (.lst (ns.map V.int)) = H1 at s1 e1
    refine ⟨_, rfl, f, _, rfl, .inl (SqL.of e1), 1, _, rfl, ⟨by omega, by omega, by omega, by rw [List.length_map]; omega⟩, ?_⟩
    have eN : (((ns.map V.int).length : Int) - 1).toNat = ns.length - 1 := by rw [List.length_map]; omega
    have sf : ∀ H2 o, Same H H2 → Same H (upd H2 f o) := fun H2 o s b u hb => by
      rw [upd_ne (ne_of_none hb hf)]
      exact s b u hb
    refine for_range (lo := 1) (fun i σ H' => ∃ (fs : List Int) (v2 : Option V), σ = [some (.ref p), some (.ref f), v2] ∧ H' f = some (.lst (fs.map V.int)) ∧ fs.length = ns.length ∧ Lt e fs ∧ Wd.Rd (fs.take (i + 1)) ∧ Same H H')
      ⟨ns, none, rfl, e1, rfl, hlt, ?_, s1⟩ ?_ ?_
    · obtain ⟨x, hx⟩ : ∃ x, ns[0]? = some x := ⟨_, List.getElem?_eq_getElem l0⟩
      have : ns.take (0 + 1) = [x] := by rw [List.take_add_one, hx]; rfl
      rw [this]
      exact rd_one x
    · rintro i σ H' hi ⟨fs, v2, rfl, h2, lf, ltf, rd, s2⟩
      rw [eN] at hi
      obtain ⟨x, hx⟩ : ∃ x, fs[i]? = some x := ⟨_, List.getElem?_eq_getElem (by omega)⟩
      obtain ⟨y, hy⟩ : ∃ y, fs[i + 1]? = some y := ⟨_, List.getElem?_eq_getElem (by omega)⟩
      have xr := ltf x (List.mem_of_getElem? hx)
      have ax : atI (fs.map V.int) (1 + (i : Int) - 1) = some (V.int x) := by
        rw [show 1 + (i : Int) - 1 = (i : Int) by omega]
        exact atI_n (ints_get hx)
      have ay : atI (fs.map V.int) (1 + (i : Int)) = some (V.int y) := by
        rw [show 1 + (i : Int) = ((i + 1 : Nat) : Int) by omega]
        exact atI_n (ints_get hy)
      refine ⟨_, rfl, _, rfl, f, _, _, V.int y, rfl, rfl, SqL.of h2, ay, ?_⟩
      refine ⟨_, rfl, _, rfl, _, _, rfl, rfl, f, _, _, V.int x, rfl, rfl, SqL.of h2, ax, _, _, rfl, rfl, rfl, _, rfl, ?_⟩
      refine ite2 (fun c => ?_) (fun c => ?_)
      · refine ⟨_, rfl, _, rfl, _, _, rfl, rfl, f, _, _, V.int x, rfl, rfl, SqL.of h2, ax, _, rfl, _, rfl, f, _, _, i + 1, rfl, rfl, h2, ?_, ?_⟩
        · rw [List.length_map, show 1 + (i : Int) = ((i + 1 : Nat) : Int) by omega]
          exact ixN_n (by omega)
        · refine ⟨fs.set (i + 1) x, _, rfl, ?_, by rw [List.length_set]; exact lf, fun z hz => ?_, ?_, sf _ _ s2⟩
          · rw [upd_same, List.map_set]
          · rcases List.mem_or_eq_of_mem_set hz with h | h
            · exact ltf z h
            · rw [h]
              exact xr
          · rw [take_set (by omega)]
            exact rd_snoc rd (take_last hx) fun z => Ln.mate_ne x z.symm
      · have c' : y ≠ Wd.mate x := fun z => c ((eqX xr.1 (by omega)).mpr z)
        refine ⟨fs, _, rfl, h2, lf, ltf, ?_, s2⟩
        rw [List.take_add_one, hy]
        exact rd_snoc rd (take_last hx) c'
    · rintro σ H' ⟨fs, v2, rfl, h2, lf, ltf, rd, s2⟩
      rw [eN, List.take_of_length_le (by omega)] at rd
      have fne : fs ≠ [] := fun q => by subst q; simp at lf; omega
      obtain ⟨la, hla, lat⟩ := atI_last fne
      obtain ⟨f0, hf0⟩ : ∃ f0, fs[0]? = some f0 := ⟨_, List.getElem?_eq_getElem (by omega)⟩
      have at0 : atI (fs.map V.int) 0 = some (V.int f0) := atI_nat (j := 0) (ints_get hf0)
      have f0r := ltf f0 (List.mem_of_getElem? hf0)
      refine ⟨_, rfl, 1, rfl, f, _, (-1), V.int la, rfl, rfl, SqL.of h2, lat, ?_⟩
      refine ⟨_, rfl, f, _, 0, V.int f0, rfl, rfl, SqL.of h2, at0, _, _, rfl, rfl, rfl, _, rfl, ?_⟩
      refine ite2 (fun c => ?_) (fun c => ?_)
      · have c' : la ≠ Wd.mate f0 := (neX f0r.1 (by omega)).mp c
        exact ⟨_, rfl, f, _, rfl, .inl ⟨SqL.of h2, fun q hq => k fs q _ lf ltf (cr_ends rd hla hf0 c') (s2.trans (same_new hq)) (SqT.of upd_same)⟩⟩
      · refine ⟨_, rfl, f, _, 0, V.int f0, rfl, rfl, SqL.of h2, at0, (by show 1 ≤ sizeLine; decide), fun t ht => ?_⟩
        have s3 : Same H (upd H' t (.tup [.int f0])) := s2.trans (same_new ht)
        have h3 := upk (u := .tup [.int f0]) ht h2
        refine ⟨_, rfl, f, _, rfl, .inl (SqL.of h3), ?_⟩
        refine repA_gen (K := K) (SqT.of upd_same) (by simp) (by rw [List.length_map]; omega) (by rw [List.length_map]; omega) (by show 1 ≤ 1000; decide) fun c H4 s4 h4 => ?_
        rw [List.length_map, Int.toNat_natCast, repOne] at h4
        exact k _ c H4 (by rw [List.length_replicate]; exact lf) (fun x hx => by rw [List.eq_of_mem_replicate hx]; exact f0r) (cr_rep f0 _) (s3.trans s4) h4
def spAnyLoop (K : PySem.W.Frag) : Sp := fun vs H Q _ => ∃ (D : Dw) (e m : Int), vs = [.ref D.d, .int e, .int m] ∧ 2 ≤ e ∧ e ≤ 12 ∧ e % 2 = 0 ∧ 1 ≤ m ∧ m ≤ 40 ∧ DrOk D H ∧
  ∀ (ns : List Int) q H', Rnd ns → (ns.length : Int) ≤ m → Lt e ns → DrOk D H' → Kp D H H' → SqT K H' q (ns.map V.int) → Q (.ref q) H'
theorem ok_l_any_loop (T : Txt K mg) : FnOk P w K mg base CX0 5 T.l_any_loop.a T.l_any_loop.fd ["draw", "size", "most"] (spAnyLoop K) := by
  refine T.l_any_loop.F.ok sc_l_any_loop (fun vs H Q E h => ?_) (fun cdv A outer s H vs Q E hr h => ?_)
  · obtain ⟨D, e, m, rfl, _⟩ := h
    rfl
  · obtain ⟨D, e, m, rfl, e2, e12, ev, m1, m40, dr, k⟩ := h
    have nd := sc_l_any_loop.nd
    have least : ∀ (ns : List Int) (H1 : Hp) (t : Addr), ns ≠ [] → (ns.length : Int) ≤ m → Lt e ns → Wd.CR ns → DrOk D H1 → Kp D H H1 → SqT K H1 t (ns.map V.int) → spLeast K [.ref t] H1 Q E0 := fun ns H1 t hne hl hlt cr d1 k1 h1 =>
      ⟨t, ns, rfl, h1, hne, by omega, fun q H2 s2 h2 => k (leastT ns) q H2 (rnd_least hne cr) (by rw [← Wd.turn_len (leastT_turn hne)]; exact hl) (fun x hx => hlt x (turn_mem (leastT_turn hne) hx)) (d1.same s2) (k1.trans (.of s2)) h2⟩
    refine ⟨_, (pss_cons (ps_set (i := 3) nd rfl (Or.inl rfl) (pe_call (ok_l_take T) (hr.mono (by decide)) (by rfl) T.l_take.g T.l_take.k T.l_take.b .nil pass0 (pa_cons (pv 0) (pa_cons pe_int pa_nil))))
    (pss_cons (ps_if (pt_cmpR op_eq (pv 3) pe_int (nomark _))
      (pss_cons (ps_set (i := 4) nd rfl (Or.inl rfl) (pe_op op_add pe_int (pe_call (ok_l_take T) (hr.mono (by decide)) (by rfl) T.l_take.g T.l_take.k T.l_take.b .nil pass0 (pa_cons (pv 0) (pa_cons (pe_callB (call_max2 rfl) (by rfl) T.zmax (by decide +kernel) (pa_cons pe_int (pa_cons (pe_op op_fdiv (pv 2) pe_int) pa_nil))) pa_nil)))))
      (pss_cons (ps_set (i := 5) nd rfl (Or.inl rfl) (pe_call (ok_l_drawn T) (hr.mono (by decide)) (by rfl) T.l_drawn.g T.l_drawn.k T.l_drawn.b .nil pass0 (pa_cons (pv 0) (pa_cons (pv 1) (pa_cons (pv 4) pa_nil)))))
      (pss_one (ps_ret (pe_call (ok_l_least T) (hr.mono (by decide)) (by rfl) T.l_least.g T.l_least.k T.l_least.b .nil pass0 (pa_cons (pe_op op_repA (pv 5) (pe_op op_add pe_int (pe_call (ok_l_take T) (hr.mono (by decide)) (by rfl) T.l_take.g T.l_take.k T.l_take.b .nil pass0 (pa_cons (pv 0) (pa_cons (pe_callB (call_max2 rfl) (by rfl) T.zmax (by decide +kernel) (pa_cons pe_int (pa_cons (pe_callB (call_min2 rfl) (by rfl) T.zmin (by decide +kernel) (pa_cons pe_int (pa_cons (pe_op op_fdiv (pv 2) (pv 4)) pa_nil))) pa_nil))) pa_nil))))) pa_nil))))))
      pss_nil)
    (pss_cons (ps_if (PW.pt (pw_and (pt_cmpR op_eq (pv 3) pe_int (nomark _)) (pw_and1 (pt_cmpR op_gt (pv 2) pe_int (nomark _)))))
      (pss_cons (ps_asg (pe_tup (pa_cons (pe_call (ok_l_take T) (hr.mono (by decide)) (by rfl) T.l_take.g T.l_take.k T.l_take.b .nil pass0 (pa_cons (pv 0) (pa_cons (pv 1) pa_nil))) (pa_cons (pe_op op_add pe_int (pe_call (ok_l_take T) (hr.mono (by decide)) (by rfl) T.l_take.g T.l_take.k T.l_take.b .nil pass0 (pa_cons (pv 0) (pa_cons (pe_op op_sub (pv 2) pe_int) pa_nil)))) pa_nil))) (pg_tup rfl (pgs_cons (pg_name (i := 6) nd rfl (Or.inr rfl)) (pgs_cons (pg_name (i := 4) nd rfl (Or.inl rfl)) pgs_nil))))
      (pss_cons (ps_set (i := 7) nd rfl (Or.inl rfl) (pe_op op_rep (pe_lst (pa_cons (pv 6) pa_nil)) (pv 4)))
      (pss_cons (ps_for PassesOwn.never rfl (pi_range1 rfl T.zrange (pa_cons (pe_call (ok_l_take T) (hr.mono (by decide)) (by rfl) T.l_take.g T.l_take.k T.l_take.b .nil pass0 (pa_cons (pv 0) (pa_cons pe_int pa_nil))) pa_nil)) (pg_name (i := 8) nd rfl (Or.inl rfl))
        (pss_one (ps_asg (pe_call (ok_l_pick T) (hr.mono (by decide)) (by rfl) T.l_pick.g T.l_pick.k T.l_pick.b .nil pass0 (pa_cons (pv 0) (pa_cons (pe_lc (own := [("other", 9)]) (g := gName 9) rfl nd (pi_range1 rfl T.zrange (pa_cons (pv 1) pa_nil)) (blkOk_by (own := [("other", 9)]) (N := N_l_any_loop) (sc := defScope s_l_any_loop) (by decide +kernel)) (fun _ _ _ _ _ => pg_name (i := 9) nd rfl (Or.inl rfl)) (fun _ _ _ _ _ => pts_one (pt_cmpR op_ne (pv 9) (pe_op op_xor (pv 6) pe_int) (nomark _))) (fun _ _ _ _ _ => (pv 9))) pa_nil))) (pg_sub (pv 7) (pe_call (ok_l_take T) (hr.mono (by decide)) (by rfl) T.l_take.g T.l_take.k T.l_take.b .nil pass0 (pa_cons (pv 0) (pa_cons (pv 4) pa_nil))) set_list (fun _ => rfl)))))
      (pss_one (ps_ret (pe_call (ok_l_least T) (hr.mono (by decide)) (by rfl) T.l_least.g T.l_least.k T.l_least.b .nil pass0 (pa_cons (pe_call (ok_l_mended T) (hr.mono (by decide)) (by rfl) T.l_mended.g T.l_mended.k T.l_mended.b .nil pass0 (pa_cons (pe_callTy call_tuple_of (by rfl) T.ztuple (by decide +kernel) (pa_cons (pv 7) pa_nil)) pa_nil)) pa_nil)))))))
      pss_nil)
    (pss_one (ps_ret (pe_call (ok_l_least T) (hr.mono (by decide)) (by rfl) T.l_least.g T.l_least.k T.l_least.b .nil pass0 (pa_cons (pe_call (ok_l_drawn T) (hr.mono (by decide)) (by rfl) T.l_drawn.g T.l_drawn.k T.l_drawn.b .nil pass0 (pa_cons (pv 0) (pa_cons (pv 1) (pa_cons (pe_op op_add pe_int (pe_call (ok_l_take T) (hr.mono (by decide)) (by rfl) T.l_take.g T.l_take.k T.l_take.b .nil pass0 (pa_cons (pv 0) (pa_cons (pv 2) pa_nil)))) pa_nil)))) pa_nil))))))), ?_⟩
    refine ⟨_, rfl, D, 4, rfl, by decide, by decide, dr, fun y H1 y0 y1 d1 k1 => ?_⟩
    refine ⟨_, rfl, rfl, _, rfl, ite2 (fun _ => ?_) (fun _ => ?_)⟩
    ·
      refine ⟨_, rfl, _, rfl, _, _, rfl, rfl, ⟨by decide, by decide⟩, _, _, rfl, D, _, rfl, ?_, ?_, d1, fun z H2 z0 z1 d2 k2 => ?_⟩
      · split <;> omega
      · split <;> omega
      have z2 : 2 * (z + 1) ≤ m ∨ z = 0 := by
        split at z1 <;> omega
      obtain ⟨a, rfl⟩ := Int.eq_ofNat_of_zero_le z0
      refine rI0_add (v := ((a + 1 : Nat) : Int)) (by omega) ?_
      have a1 : ((a + 1 : Nat) : Int) ≤ m := by omega
      refine ⟨_, rfl, _, rfl, _, rfl, D, e, _, rfl, e2, e12, ev, by omega, by omega, d2, fun ns q H3 nl hlt cr d3 k3 h3 => ?_⟩
      have nl' : ns.length = a + 1 := by omega
      have hne : ns ≠ [] := fun q => by rw [q] at nl'; simp at nl'
      refine ⟨_, rfl, _, rfl, _, rfl, _, rfl, ?_⟩
      obtain ⟨m', rfl⟩ := Int.eq_ofNat_of_zero_le (show 0 ≤ m by omega)
      refine rI_div (v := ((m' / (a + 1) : Nat) : Int)) rfl ⟨by omega, by omega⟩ ?_
      have q1 : 1 ≤ m' / (a + 1) := Nat.div_pos (by omega) (by omega)
      have q2 : m' / (a + 1) * (a + 1) ≤ m' := Nat.div_mul_le_self m' (a + 1)
      generalize m' / (a + 1) = mo at q1 q2
      refine ⟨_, _, rfl, _, _, rfl, D, _, rfl, ?_, ?_, d3, fun g H4 g0 g1 d4 k4 => ?_⟩
      · split <;> omega
      · (repeat' split) <;> omega
      have g2 : g < (mo : Int) := by
        split at g1
        · split at g1 <;> omega
        · omega
      obtain ⟨b, rfl⟩ := Int.eq_ofNat_of_zero_le g0
      refine rI0_add (v := ((b + 1 : Nat) : Int)) (by omega) ?_
      have k5 : Kp D H H4 := ((k1.trans k2).trans k3).trans k4
      refine repA_gen (K := K) (k4.seqT d3 h3) (fun q => hne (List.map_eq_nil_iff.mp q)) (by omega) ?_ (by rw [List.length_map]; omega) fun c H5 s5 h5 => ?_
      · have : mo ≤ mo * (a + 1) := Nat.le_mul_of_pos_right _ (by omega)
        omega
      rw [repV, Int.toNat_natCast] at h5
      have pl : (Wd.pow ns (b + 1)).length ≤ m' := by
        rw [Wd.pow_len, nl']
        exact Nat.le_trans (Nat.mul_le_mul_right _ (by omega)) q2
      refine least (Wd.pow ns (b + 1)) H5 c ?_ (by omega) (fun x hx => hlt x (Wd.pow_mem hx)) ((Wd.cr_pow hne (by omega)).mpr cr) (d4.same s5) (k5.trans (.of s5)) h5
      intro q
      have := congrArg List.length q
      rw [Wd.pow_len, nl'] at this
      have h0 : 0 < (b + 1) * (a + 1) := Nat.mul_pos (by omega) (by omega)
      rw [List.length_nil] at this
      omega
    ·
      refine ⟨_, rfl, rfl, _, rfl, ite2 (fun _ => ?_) (fun _ => iteF ?_)⟩
      · refine ⟨_, rfl, _, _, rfl, rfl, _, rfl, ite2 (fun c => ?_) (fun _ => ?_)⟩
        · have m3 : 2 < m := by simpa using c
          refine ⟨_, rfl, _, rfl, D, e, rfl, by omega, by omega, d1, fun la H2 la0 la1 d2 k2 => ?_⟩
          refine ⟨_, rfl, _, rfl, _, _, rfl, rfl, D, _, rfl, by omega, by omega, d2, fun z H3 z0 z1 d3 k3 => ?_⟩
          obtain ⟨a, rfl⟩ := Int.eq_ofNat_of_zero_le z0
          refine rI0_add (v := ((a + 2 : Nat) : Int)) (by omega) ?_
          refine ⟨(by show 2 ≤ sizeLine; decide), fun tp htp => ⟨_, _, rfl, SqT.of upd_same, rfl, _, _, rfl, _, _, rfl, rfl, ?_⟩⟩
          have d4 := d3.new (o := .tup [.int la, .int ((a + 2 : Nat) : Int)]) htp
          have k4 : Kp D H (upd H3 tp (.tup [.int la, .int ((a + 2 : Nat) : Int)])) := ((k1.trans k2).trans k3).trans (Kp.new htp)
          generalize upd H3 tp (.tup [.int la, .int ((a + 2 : Nat) : Int)]) = H4 at d4 k4
          refine ⟨_, rfl, (by show 1 ≤ sizeLine; decide), fun l1 hl1 => ?_⟩
          have d5 := d4.new (o := .lst [.int la]) hl1
          refine ⟨_, rfl, l1, _, [.int la], rfl, rfl, upd_same, by omega, by omega, ?_, fun f hf => ?_⟩
          · rw [Int.toNat_natCast]
            show 1 * (a + 2) ≤ sizeLine
            exact Nat.le_of_lt (small1000 (by omega))
          rw [Int.toNat_natCast, repOne]
          have d6 := d5.new (o := .lst ((List.replicate (a + 2) la).map V.int)) hf
          have of : Off D f := d5.off hf
          have k6 : Kp D H (upd (upd H4 l1 (.lst [.int la])) f (.lst ((List.replicate (a + 2) la).map V.int))) := (k4.trans (Kp.new hl1)).trans (Kp.new hf)
          have e6 : (upd (upd H4 l1 (.lst [.int la])) f (.lst ((List.replicate (a + 2) la).map V.int))) f = some (.lst ((List.replicate (a + 2) la).map V.int)) := upd_same
          have hfN : ∀ b o, H b = some o → b ≠ D.d → b ≠ D.l → b ≠ f := fun b o hb q1 q2 q => by
            subst q
            have := (k4.trans (Kp.new (o := .lst [V.int la]) hl1)) b o hb q1 q2
            rw [hf] at this
            cases this
          have kf : ∀ H3 o, Kp D H H3 → Kp D H (upd H3 f o) := fun H3 o k3 b u hb q1 q2 => by
            rw [upd_ne (hfN b u hb q1 q2)]
            exact k3 b u hb q1 q2
          generalize upd (upd H4 l1 (.lst [.int la])) f (.lst ((List.replicate (a + 2) la).map V.int)) = H6 at d6 k6 e6
          clear hf d5 hl1 d4 k4 htp
          refine ⟨_, rfl, D, 3, rfl, by decide, by decide, d6, fun g H7 g0 g1 d7 k7 => ⟨g, rfl, by omega, by omega, ?_⟩⟩
          have e7 := k7.at of e6
          refine for_range (lo := 0) (fun i σ H' => ∃ (fs : List Int) (v8 : Option V), σ = [some (.ref D.d), some (.int e), some (.int m), some (.int y), some (.int ((a + 2 : Nat) : Int)), none, some (.int la), some (.ref f), v8, none] ∧ H' f = some (.lst (fs.map V.int)) ∧ fs.length = a + 2 ∧ Lt e fs ∧ DrOk D H' ∧ Kp D H H')
            ⟨_, none, rfl, e7, List.length_replicate .., fun x hx => by rw [List.eq_of_mem_replicate hx]; exact ⟨la0, la1⟩, d7, k6.trans k7⟩ ?_ ?_
          · rintro i σ H8 hi ⟨fs, v8, rfl, e8, lf, ltf, d8, k8⟩
            refine ⟨_, rfl, _, rfl, _, rfl, by omega, by omega, fun D1 hD1 => ?_⟩
            have oD1 : Off D D1 := d8.off hD1
            refine lc_range (lo := 0) (n := e.toNat) (fun i H9 => H9 D1 = some (.lst ((Fl (Wd.mate la) i).map V.int)) ∧ Same H8 H9) ⟨upd_same, same_new hD1⟩ ?_ ?_
            · rintro j H9 hj ⟨h9, s9⟩
              refine ⟨rfl, ?_⟩
              refine ⟨_, rfl, _, rfl, _, _, rfl, rfl, rfl, _, rfl, ?_⟩
              have fl := Fl_len (Wd.mate la) j
              refine ite2 (fun c => ?_) (fun c => ?_)
              · have c' : (j : Int) ≠ Wd.mate la := by
                  have := (neX la0 (by omega)).mp c
                  rwa [Int.zero_add] at this
                refine ⟨_, rfl, _, h9, by rw [List.length_map]; exact small1000 (by omega), ?_, fun b o hb => ?_⟩
                · rw [upd_same, Fl_yes c', List.map_append, Int.zero_add]
                  rfl
                · rw [upd_ne (ne_of_none hb hD1)]
                  exact s9 b o hb
              · have c' : (j : Int) = Wd.mate la := Classical.byContradiction fun z => c ((neX la0 (by omega)).mpr (by rw [Int.zero_add]; exact z))
                exact ⟨by rw [Fl_no c']; exact h9, s9⟩
            · rintro H9 ⟨h9, s9⟩
              have d9 := d8.same s9
              have e9 := s9 _ _ e8
              refine ⟨D, D1, (Fl (Wd.mate la) e.toNat).map V.int, rfl, .inl (SqL.of h9), oD1.2.1, (fun q => Fl_ne e2 (List.map_eq_nil_iff.mp q)), ?_, d9, fun j y H10 hj d10 k10 => ?_⟩
              · rw [List.length_map]
                have := Fl_len (Wd.mate la) e.toNat
                omega
              obtain ⟨v, rfl, hv⟩ := ints_at hj
              have hvm := Fl_mem.mp (List.mem_of_getElem? hv)
              have e10 := k10.at of e9
              refine ⟨_, rfl, _, rfl, _, rfl, D, _, rfl, by omega, by omega, d10, fun n H11 n0 n1 d11 k11 => ?_⟩
              have e11 := k11.at of e10
              obtain ⟨b, rfl⟩ := Int.eq_ofNat_of_zero_le n0
              refine ⟨f, _, _, b, rfl, rfl, e11, by rw [List.length_map]; exact ixN_n (by omega), fs.set b v, _, rfl, ?_, by rw [List.length_set]; exact lf, fun z hz => ?_, d11.put of, kf _ _ ((((k8.trans (.of s9)).trans k10)).trans k11)⟩
              · rw [upd_same, List.map_set]
              · rcases List.mem_or_eq_of_mem_set hz with h | h
                · exact ltf z h
                · rw [h]
                  omega
          · rintro σ H8 ⟨fs, v8, rfl, e8, lf, ltf, d8, k8⟩
            have fne : fs ≠ [] := fun q => by rw [q] at lf; simp at lf
            refine ⟨_, rfl, f, _, rfl, .inl ⟨SqL.of e8, fun t ht => ?_⟩⟩
            refine ⟨t, fs, e, rfl, SqT.of upd_same, fne, by omega, e12, ltf, fun ms q H9 ml ltm cr s9 h9 => ?_⟩
            exact least ms H9 q (fun q => by rw [q] at ml; simp at ml; omega) (by omega) ltm cr ((d8.new ht).same s9) ((k8.trans (Kp.new ht)).trans (.of s9)) h9
        · refine ⟨_, rfl, _, rfl, _, rfl, _, rfl, D, m, rfl, by omega, by omega, d1, fun z H2 z0 z1 d2 k2 => ?_⟩
          obtain ⟨a, rfl⟩ := Int.eq_ofNat_of_zero_le z0
          refine rI0_add (v := ((a + 1 : Nat) : Int)) (by omega) ?_
          refine ⟨D, e, _, rfl, e2, e12, ev, by omega, by omega, d2, fun ns q H3 nl hlt cr d3 k3 h3 => ?_⟩
          exact least ns H3 q (fun q => by rw [q] at nl; simp at nl; omega) (by omega) hlt cr d3 ((k1.trans k2).trans k3) h3
      · refine ⟨_, rfl, _, rfl, _, rfl, _, rfl, D, m, rfl, by omega, by omega, d1, fun z H2 z0 z1 d2 k2 => ?_⟩
        obtain ⟨a, rfl⟩ := Int.eq_ofNat_of_zero_le z0
        refine rI0_add (v := ((a + 1 : Nat) : Int)) (by omega) ?_
        refine ⟨D, e, _, rfl, e2, e12, ev, by omega, by omega, d2, fun ns q H3 nl hlt cr d3 k3 h3 => ?_⟩
        exact least ns H3 q (fun q => by rw [q] at nl; simp at nl; omega) (by omega) hlt cr d3 ((k1.trans k2).trans k3) h3
end
end Tt
set_option maxRecDepth 100000
set_option maxHeartbeats 4000000
namespace Tt
open PySem L2
theorem nil_i {σ : L2.St} {H : Hp} {Q : List V → Hp → Prop} (h : Q [] H) : tNil σ H Q := h
theorem rgI_nodup (m : Nat) : (rgI m).Nodup := by
  unfold rgI
  exact List.pairwise_map.mpr (List.nodup_range.imp fun h => by omega)
theorem row_nodup {n : Nat} {row : List Int} (pm : row.Perm (rgI n)) : row.Nodup := pm.nodup_iff.mpr (rgI_nodup n)
theorem idx_of {row : List Int} (nd : row.Nodup) {i : Nat} (h : i < row.length) : row.idxOf row[i] = i := by
  have hm : row[i] ∈ row := List.getElem_mem h
  have hl := List.idxOf_lt_length_of_mem hm
  exact (List.getElem_inj nd).mp (List.getElem_idxOf hl)
def spKn (row : List Int) (i : Nat) : List (Key × V) := (List.range i).map fun (k : Nat) => (Sum.inl (row.getD k 0), V.int (k : Int))
theorem spKn_succ (row : List Int) (i : Nat) : spKn row (i + 1) = spKn row i ++ [(Sum.inl (row.getD i 0), V.int (i : Int))] := by
  unfold spKn
  rw [List.range_succ, List.map_append]
  rfl
theorem spKn_len (row : List Int) (i : Nat) : (spKn row i).length = i := by unfold spKn; rw [List.length_map, List.length_range]
theorem spKn_at {row : List Int} (nd : row.Nodup) : ∀ i, i ≤ row.length → mergeK [] (spKn row i) = spKn row i ∧ ∀ x ∈ row, valV (spKn row i) (Sum.inl x) = if row.idxOf x < i then some (V.int (Ln.pl row x)) else none
  | 0, _ => ⟨rfl, fun x _ => by rw [if_neg (Nat.not_lt_zero _)]; rfl⟩
  | i + 1, h => by
    obtain ⟨h1, h2⟩ := spKn_at nd i (by omega)
    have hi : i < row.length := by omega
    have eg : row.getD i 0 = row[i] := by rw [List.getD_eq_getElem?_getD, List.getElem?_eq_getElem hi]; rfl
    have nw : valV (spKn row i) (Sum.inl row[i]) = none := by
      rw [h2 _ (List.getElem_mem hi), idx_of nd hi, if_neg (Nat.lt_irrefl _)]
    rw [spKn_succ, eg]
    refine ⟨?_, fun x hx => ?_⟩
    · unfold mergeK at h1 ⊢
      rw [List.foldl_append, h1]
      exact putK_new _ nw
    · rw [valV_snoc _ _ _ _ nw, h2 x hx]
      by_cases e : x = row[i]
      · subst e
        rw [if_pos rfl, idx_of nd hi, if_pos (by omega)]
        unfold Ln.pl
        rw [idx_of nd hi]
      · rw [if_neg (fun z => e (Sum.inl.inj z))]
        have ne : row.idxOf x ≠ i := fun z => by
          have hl := List.idxOf_lt_length_of_mem hx
          have := List.getElem_idxOf hl
          simp only [z] at this
          exact e this.symm
        by_cases c : row.idxOf x < i
        · rw [if_pos c, if_pos (by omega)]
        · rw [if_neg c, if_neg (by omega)]
section
variable {P : Program} {w : World} {K : PySem.W.Frag} {mg : Str → Option Value} {base : Heap}
structure SpD (H : Hp) (d : Addr) (row : List Int) : Prop where
  ex : ∃ kvs : List (Key × V), H d = some (.dK kvs) ∧ kvs.length = row.length ∧ ∀ x ∈ row, valV kvs (Sum.inl x) = some (.int (Ln.pl row x))
theorem SpD.same {H H' : Hp} {d : Addr} {row : List Int} (h : SpD H d row) (s : Same H H') : SpD H' d row := by
  obtain ⟨kvs, a, b⟩ := h.ex
  exact ⟨kvs, s _ _ a, b⟩
def comeV (ls : List Int) : Nat → V
  | 0 => .non
  | i + 1 => .int (Wd.mate (ls.getD i 0))
def spFar (K : PySem.W.Frag) : Sp := fun vs H Q _ => ∃ (l d : Addr) (ls row : List Int) (n : Nat), vs = [.ref l, .ref d] ∧ H l = some (.lst (ls.map V.int)) ∧ SpD H d row ∧ n ≤ 6 ∧ row.Perm (rgI (2 * n)) ∧ (∀ x ∈ ls, x ∈ row) ∧ ls.length ≤ 200 ∧
  ∀ q H', Same H H' → H' q = some (.tup ((Ln.far row ls).map V.int)) → Q (.ref q) H'
theorem ok_l_far (T : Txt K mg) : FnOk P w K mg base CX0 1 T.l_far.a T.l_far.fd ["letters", "spots"] (spFar K) := by
  refine T.l_far.F.ok sc_l_far (fun vs H Q E h => ?_) (fun cdv A outer s H vs Q E hr h => ?_)
  · obtain ⟨l, d, ls, row, n, rfl, _⟩ := h
    rfl
  · obtain ⟨l, d, ls, row, n, rfl, hl, hd, n6, pm, hin, len, k⟩ := h
    have nd := sc_l_far.nd
    have hu := hu_of hr
    refine ⟨_, (pss_cons (ps_par3 (i := 2) (j := 3) (l := 4) rfl nd rfl rfl rfl (by decide) (by decide) (by decide) rfl rfl rfl (pa_cons (pe_lst pa_nil) (pa_cons pe_non (pa_cons (pe_callB call_lenD (by rfl) T.zlen (by decide +kernel) (pa_cons (pv 1) pa_nil)) pa_nil))) rfl)
    (pss_cons (ps_for PassesOwn.never rfl (pi_list (pv 0)) (pg_name (i := 5) nd rfl (Or.inl rfl))
      (pss_cons (ps_expr (pe_bm PySem.F.plainAttrs_list PySem.F.slot_list_append PySem.F.type_list_append mt_append (pv 2) (pa_cons (pe_ifExp (pt_cmpR op_isN (pv 3) pe_non (nomark _)) (pe_dget hu (pv 1) (pv 5) (fun _ _ => rfl)) (pe_op op_mod (pe_callTy call_int1 (by rfl) T.zint (by decide +kernel) (pa_cons (pe_op op_sub (pe_dget hu (pv 1) (pv 5) (fun _ _ => rfl)) (pe_dget hu (pv 1) (pv 3) (fun _ _ => rfl))) pa_nil)) (pv 4))) pa_nil)))
      (pss_one (ps_set (i := 3) nd rfl (Or.inl rfl) (pe_op op_xor (pv 5) pe_int)))))
    (pss_one (ps_ret (pe_callTy call_tuple_of (by rfl) T.ztuple (by decide +kernel) (pa_cons (pv 2) pa_nil)))))), ?_⟩
    refine ⟨(by show 0 ≤ sizeLine; decide), fun f hf => ?_⟩
    have s1 : Same H (upd H f (.lst [])) := same_new hf
    have e1 : (upd H f (.lst [])) f = some (.lst []) := upd_same
    have hd1 := hd.same s1
    have hl1 := s1 _ _ hl
    generalize upd H f (.lst []) = H1 at s1 e1 hd1 hl1
    obtain ⟨kvs, d1, d2, d3⟩ := id hd1.ex
    refine ⟨_, rfl, d, kvs, rfl, d1, _, _, _, rfl, ?_⟩
    rw [d2]
    have sf : ∀ H2 o, Same H H2 → Same H (upd H2 f o) := fun H2 o s b u hb => by
      rw [upd_ne (ne_of_none hb hf)]
      exact s b u hb
    refine ⟨_, rfl, l, rfl, ⟨_, SqL.of hl1⟩, ?_⟩
    refine for_list (K := K) (a := l) (xs := ls.map V.int) (fun i σ H' => ∃ v5, σ = [some (.ref l), some (.ref d), some (.ref f), some (comeV ls i), some (.int (row.length : Int)), v5] ∧ Same H H' ∧ H' f = some (.lst (((Ln.far row ls).take i).map V.int)))
      ⟨none, rfl, s1, e1⟩ (fun i σ H' _ ⟨_, _, s, _⟩ => SqL.of (s _ _ hl)) ?_ ?_
    · rintro i y σ H2 hi ⟨v5, rfl, s2, e2⟩
      obtain ⟨x, rfl, hx⟩ := ints_at hi
      have hil : i < ls.length := (List.getElem?_eq_some_iff.mp hx).1
      have xr := hin x (List.mem_of_getElem? hx)
      have hd2 := hd.same s2
      obtain ⟨kv2, c1, c2, c3⟩ := id hd2.ex
      have gx : DGet H2 d (.int x) (some (.int (Ln.pl row x))) := by
        have := DGet.k (k := Sum.inl x) c1
        rw [c3 x xr] at this
        exact this
      have x12 := row12 n6 pm xr
      have cx : comeV ls (i + 1) = .int (Builtin.bitXor x 1) := by
        show V.int (Wd.mate (ls.getD i 0)) = _
        rw [List.getD_eq_getElem?_getD, hx, xor_mate x12.1 x12.2]
        rfl
      have lf : (((Ln.far row ls).take i).map V.int).length < sizeLine := by
        rw [List.length_map, List.length_take]
        exact small1000 (by omega)
      refine ⟨_, rfl, .inl ⟨rfl, _, SqL.of e2⟩, ?_⟩
      cases i with
      | zero =>
        have fz := Ln.far_zero (row := row) hx
        refine ⟨_, rfl, rfl, _, rfl, ite2 (fun _ => ?_) (fun c => absurd (by first | rfl | decide) c)⟩
        refine ⟨_, rfl, _, rfl, d, _, rfl, gx, ?_⟩
        refine ⟨f, _, _, rfl, rfl, e2, lf, _, rfl, _, _, rfl, rfl, some (.int x), ?_, sf _ _ s2, ?_⟩
        · rw [cx]
          rfl
        · rw [upd_same, List.take_add_one, fz, List.map_append]
          rfl
      | succ j =>
        obtain ⟨p, hp⟩ : ∃ p, ls[j]? = some p := ⟨_, List.getElem?_eq_getElem (by omega)⟩
        have pr := hin p (List.mem_of_getElem? hp)
        have mr := mateRow pm pr
        have fz := Ln.far_succ (row := row) hp hx
        have ec : comeV ls (j + 1) = .int (Wd.mate p) := by
          show V.int (Wd.mate (ls.getD j 0)) = _
          rw [List.getD_eq_getElem?_getD, hp]
          rfl
        have gm : DGet H2 d (.int (Wd.mate p)) (some (.int (Ln.pl row (Wd.mate p)))) := by
          have := DGet.k (k := Sum.inl (Wd.mate p)) c1
          rw [c3 _ mr] at this
          exact this
        rw [ec]
        refine ⟨_, rfl, rfl, _, rfl, ite2 (fun c => absurd c (by simp)) (fun _ => ?_)⟩
        refine ⟨_, rfl, _, rfl, d, _, rfl, gx, _, rfl, _, rfl, d, _, rfl, gm, _, _, rfl, rfl, .inl ⟨_, rfl, _, rfl, _, _, rfl, rfl, ?_, ?_⟩⟩
        · have := List.length_pos_of_mem xr
          omega
        refine ⟨f, _, _, rfl, rfl, e2, lf, _, rfl, _, _, rfl, rfl, some (.int x), ?_, sf _ _ s2, ?_⟩
        · rw [cx]
          rfl
        · rw [upd_same, List.take_add_one (i := j + 1), fz, List.map_append]
          rfl
    · rintro σ H2 ⟨v5, rfl, s2, e2⟩
      rw [List.length_map, ← Ln.far_len row ls, List.take_length] at e2
      refine ⟨_, rfl, f, _, rfl, .inl ⟨SqL.of e2, fun q hq => ?_⟩⟩
      exact k q _ (s2.trans (same_new hq)) upd_same
theorem lexLt_lt : ∀ a b : List Int, HT.lexLt a b = decide (a < b)
  | [], [] => by simp [HT.lexLt]
  | [], _ :: _ => by simp [HT.lexLt]
  | _ :: _, [] => by simp [HT.lexLt]
  | x :: a, y :: b => by
    have ih := lexLt_lt a b
    unfold HT.lexLt
    rw [ih]
    by_cases h : x < y
    · have : x ≠ y := by omega
      simp [h, this, List.cons_lt_cons_iff]
    · by_cases e : x = y
      · subst e
        simp [List.cons_lt_cons_iff]
      · simp [h, e, List.cons_lt_cons_iff]
theorem less_mn (a b : List Int) : lessOf a b = Ln.mn a b := by
  unfold lessOf Ln.mn
  rw [row_lt]
  simp
theorem more_mx (a b : List Int) : moreOf a b = Ln.mx a b := by
  unfold moreOf Ln.mx
  rw [row_lt]
  simp
def PrT (K : PySem.W.Frag) (H : Hp) (t : Addr) (a b : List Int) : Prop := ∃ p q, SqT K H t [.ref p, .ref q] ∧ SqT K H p (a.map V.int) ∧ SqT K H q (b.map V.int)
theorem PrT.same {H H' : Hp} {t : Addr} {a b : List Int} (h : PrT K H t a b) (s : Same H H') : PrT K H' t a b := by
  obtain ⟨p, q, h1, h2, h3⟩ := h
  exact ⟨p, q, same_seqT s h1, same_seqT s h2, same_seqT s h3⟩
def spTurns (K : PySem.W.Frag) : Sp := fun vs H Q _ => ∃ (t u : Addr) (a b c d : List Int), vs = [.ref t, .ref u] ∧ PrT K H t a b ∧ PrT K H u c d ∧ Q (.bl (Ln.byT a b c d)) H
theorem ok_l_by_turns (T : Txt K mg) : FnOk P w K mg base CX0 1 T.l_by_turns.a T.l_by_turns.fd ["first", "second"] (spTurns K) := by
  refine T.l_by_turns.F.ok sc_l_by_turns (fun vs H Q E h => ?_) (fun cdv A outer s H vs Q E hr h => ?_)
  · obtain ⟨t, u, a, b, c, d, rfl, _⟩ := h
    rfl
  · obtain ⟨t, u, a, b, c, d, rfl, ⟨p1, p2, t1, t2, t3⟩, ⟨q1, q2, u1, u2, u3⟩, k⟩ := h
    have nd := sc_l_by_turns.nd
    refine ⟨_, (pss_cons (ps_par (i := 2) (j := 3) rfl nd rfl rfl (by decide) rfl rfl (pa_cons (pe_callB (cr_min2T rfl hr.units) (by rfl) T.zmin (by decide +kernel) (pa_cons (pv 0) pa_nil)) (pa_cons (pe_callB (cr_max2T rfl hr.units) (by rfl) T.zmax (by decide +kernel) (pa_cons (pv 0) pa_nil)) pa_nil)) rfl)
    (pss_one (ps_ret (pe_or (pe_chain3 (op_ltT hr.units0) (op_ltT hr.units0) (op_ltT hr.units0) (pv 2) (pe_callB (cr_min2T rfl hr.units) (by rfl) T.zmin (by decide +kernel) (pa_cons (pv 1) pa_nil)) (pv 3) (pe_callB (cr_max2T rfl hr.units) (by rfl) T.zmax (by decide +kernel) (pa_cons (pv 1) pa_nil))) (pe_one (pe_chain3 (op_ltT hr.units0) (op_ltT hr.units0) (op_ltT hr.units0) (pe_callB (cr_min2T rfl hr.units) (by rfl) T.zmin (by decide +kernel) (pa_cons (pv 1) pa_nil)) (pv 2) (pe_callB (cr_max2T rfl hr.units) (by rfl) T.zmax (by decide +kernel) (pa_cons (pv 1) pa_nil)) (pv 3))))))), ?_⟩
    refine ⟨_, rfl, t, p1, p2, a, b, rfl, t1, t2, t3, fun lo hlo => ?_⟩
    refine ⟨_, rfl, t, p1, p2, a, b, rfl, t1, t2, t3, fun hi hhi => ⟨_, _, rfl, ?_⟩⟩
    rw [less_mn] at hlo
    rw [more_mx] at hhi
    unfold Ln.byT at k
    have mnR : ∀ (Q : VK), (∀ r, SqT K H r ((Ln.mn c d).map V.int) → Q (.ref r) H) → rBest2 K lessOf [.ref u] H Q := fun Q f => ⟨u, q1, q2, c, d, rfl, u1, u2, u3, fun r hr => f r (by rw [← less_mn]; exact hr)⟩
    have mxR : ∀ (Q : VK), (∀ r, SqT K H r ((Ln.mx c d).map V.int) → Q (.ref r) H) → rBest2 K moreOf [.ref u] H Q := fun Q f => ⟨u, q1, q2, c, d, rfl, u1, u2, u3, fun r hr => f r (by rw [← more_mx]; exact hr)⟩
    have ltI : ∀ {x y : Addr} {ns ms : List Int} (Q : VK), SqT K H x (ns.map V.int) → SqT K H y (ms.map V.int) → Q (.bl (decide (ns < ms))) H → rLtT K (.ref x) (.ref y) H Q := fun Q h1 h2 q => ⟨_, _, _, _, rfl, rfl, h1, h2, by rw [lexLt_lt]; exact q⟩
    generalize Ln.mn a b = LO at hlo k
    generalize Ln.mx a b = HI at hhi k
    generalize Ln.mn c d = MS at mnR k
    generalize Ln.mx c d = MX at mxR k
    dsimp only
    apply let_one (J := (decide (LO < MS) && (decide (MS < HI) && decide (HI < MX))) = false)
    · intro out
      refine ⟨_, rfl, _, rfl, nil_i (mnR _ fun r hr => ltI _ hlo hr ⟨_, rfl, ?_⟩)⟩
      cases x1 : decide (LO < MS) with
      | false => exact iteF ⟨_, rfl, iteF (out (by rw [x1]; rfl))⟩
      | true =>
        refine iteT ⟨_, rfl, ltI _ hr hhi ⟨_, rfl, ?_⟩⟩
        cases x2 : decide (MS < HI) with
        | false => exact iteF ⟨_, rfl, iteF (out (by rw [x1, x2]; rfl))⟩
        | true =>
          refine iteT ⟨_, rfl, nil_i (mxR _ fun r2 hr2 => ltI _ hhi hr2 ⟨_, rfl, ?_⟩)⟩
          cases x3 : decide (HI < MX) with
          | false => exact iteF (out (by rw [x1, x2, x3]; rfl))
          | true =>
            rw [x1, x2, x3] at k
            exact iteT k
    · intro h
      rw [h, Bool.false_or] at k
      refine ⟨_, rfl, nil_i (mnR _ fun r hr => ⟨_, rfl, ltI _ hr hlo ⟨_, rfl, ?_⟩⟩)⟩
      cases x1 : decide (MS < LO) with
      | false =>
        rw [x1] at k
        exact iteF k
      | true =>
        refine iteT ⟨_, rfl, nil_i (mxR _ fun r2 hr2 => ltI _ hlo hr2 ⟨_, rfl, ?_⟩)⟩
        cases x2 : decide (LO < MX) with
        | false =>
          rw [x1, x2] at k
          exact iteF k
        | true =>
          refine iteT ⟨_, rfl, ltI _ hr2 hhi ?_⟩
          rw [x1, x2] at k
          exact k
end
end Tt
set_option maxRecDepth 100000
set_option maxHeartbeats 4000000
namespace Tt
open PySem L2
section
variable {P : Program} {w : World} {K : PySem.W.Frag} {mg : Str → Option Value} {base : Heap}
theorem seqN_succ (f : Int → Int) (i : Nat) : Ln.seqN f (i + 1) = Ln.seqN f i ++ [f (i : Int)] := by
  unfold Ln.seqN
  rw [List.range_succ, List.map_append]
  rfl
theorem gt12 {ns : List Int} (hne : ns ≠ []) (hb : B12 ns) (i : Int) : 0 ≤ Ln.gt ns i ∧ Ln.gt ns i < 12 := hb _ (Ln.gt_mem hne i)
def spWays (K : PySem.W.Frag) : Sp := fun vs H Q _ => ∃ (t u : Addr) (row ns : List Int) (n m : Nat), vs = [.ref t, .ref u, .int (m : Int)] ∧ SqT K H t (row.map V.int) ∧ SqT K H u (ns.map V.int) ∧ n ≤ 6 ∧ row.Perm (rgI (2 * n)) ∧ Rn row ns ∧ m ≤ 200 ∧
  ∀ (l : Addr) (qs : List Addr) (H' : Hp), Same H H' → H' l = some (.lst (qs.map V.ref)) → qs.length = ns.length → (∀ (i : Nat) q, qs[i]? = some q → PrT K H' q (Ln.wayOn row ns (i : Int) m) (Ln.wayBk row ns (i : Int) m)) → Q (.ref l) H'
theorem ok_l_ways (T : Txt K mg) : FnOk P w K mg base CX0 2 T.l_ways.a T.l_ways.fd ["row", "one", "many"] (spWays K) := by
  refine T.l_ways.F.ok sc_l_ways (fun vs H Q E h => ?_) (fun cdv A outer s H vs Q E hr h => ?_)
  · obtain ⟨t, u, row, ns, n, m, rfl, _⟩ := h
    rfl
  · obtain ⟨t, u, row, ns, n, m, rfl, ht, hu0, n6, pm, rn, m2, k⟩ := h
    have nd := sc_l_ways.nd
    have hne := rn.r.1
    have hb := rn.b n6 pm
    have l0 : 0 < ns.length := List.length_pos_iff.mpr hne
    have ln := rn.l
    have rnd := row_nodup pm
    have hrl := perm_len pm
    refine ⟨_, (pss_cons (ps_asg (pe_tup (pa_cons (pe_callTy (call_dictP rfl) (by rfl) T.zdict (by decide +kernel) (pa_cons (pe_lc (own := [("k", 9), ("end", 10)]) (g := gTup K 2 (gCons (gName 9) (gCons (gName 10) gNil))) rfl nd (pi_enumU (by rfl) T.zenumerate (pa_cons (pv 0) pa_nil)) (blkOk_by (own := [("k", 9), ("end", 10)]) (N := N_l_ways) (sc := defScope s_l_ways) (by decide +kernel)) (fun _ _ _ _ _ => pg_tup rfl (pgs_cons (pg_name (i := 9) nd rfl (Or.inl rfl)) (pgs_cons (pg_name (i := 10) nd rfl (Or.inl rfl)) pgs_nil))) (fun _ _ _ _ _ => pts_nil) (fun _ _ _ _ _ => (pe_tup (pa_cons (pv 10) (pa_cons (pv 9) pa_nil))))) pa_nil)) (pa_cons (pe_callB call_len_seq (by rfl) T.zlen (by decide +kernel) (pa_cons (pv 1) pa_nil)) (pa_cons (pe_lst pa_nil) pa_nil)))) (pg_tup rfl (pgs_cons (pg_name (i := 3) nd rfl (Or.inl rfl)) (pgs_cons (pg_name (i := 4) nd rfl (Or.inr rfl)) (pgs_cons (pg_name (i := 5) nd rfl (Or.inl rfl)) pgs_nil)))))
    (pss_cons (ps_for PassesOwn.never rfl (pi_range1 rfl T.zrange (pa_cons (pv 4) pa_nil)) (pg_name (i := 6) nd rfl (Or.inr rfl))
      (pss_cons (ps_setLc (i := 7) (own := [("k", 9)]) (g := gName 9) rfl nd rfl rfl (sw_true rfl rfl rfl (by decide +kernel)) (pi_range1 rfl T.zrange (pa_cons (pv 2) pa_nil)) (blkOk_by (own := [("k", 9)]) (N := N_l_ways) (sc := defScope s_l_ways) (by decide +kernel)) (fun _ _ _ _ _ => pg_name (i := 9) nd rfl (Or.inl rfl)) (fun _ _ _ _ _ => pts_nil) (fun _ _ _ _ _ => (pe_ix (ix_tupK (K := K) rfl) (pv 1) (pe_op op_mod (pe_callTy call_int1 (by rfl) T.zint (by decide +kernel) (pa_cons (pe_op op_add (pe_op op_add (pv 6) pe_int) (pv 9)) pa_nil)) (pv 4)) (fun _ _ => rfl))))
      (pss_cons (ps_setLc (i := 8) (own := [("k", 9)]) (g := gName 9) rfl nd rfl rfl (sw_true rfl rfl rfl (by decide +kernel)) (pi_range1 rfl T.zrange (pa_cons (pv 2) pa_nil)) (blkOk_by (own := [("k", 9)]) (N := N_l_ways) (sc := defScope s_l_ways) (by decide +kernel)) (fun _ _ _ _ _ => pg_name (i := 9) nd rfl (Or.inl rfl)) (fun _ _ _ _ _ => pts_nil) (fun _ _ _ _ _ => (pe_op op_xor (pe_ix (ix_tupK (K := K) rfl) (pv 1) (pe_op op_mod (pe_callTy call_int1 (by rfl) T.zint (by decide +kernel) (pa_cons (pe_op op_sub (pv 6) (pv 9)) pa_nil)) (pv 4)) (fun _ _ => rfl)) pe_int)))
      (pss_one (ps_expr (pe_bm PySem.F.plainAttrs_list PySem.F.slot_list_append PySem.F.type_list_append mt_append (pv 5) (pa_cons (pe_tup (pa_cons (pe_call (ok_l_far T) (hr.mono (by decide)) (by rfl) T.l_far.g T.l_far.k T.l_far.b .nil pass0 (pa_cons (pv 7) (pa_cons (pv 3) pa_nil))) (pa_cons (pe_call (ok_l_far T) (hr.mono (by decide)) (by rfl) T.l_far.g T.l_far.k T.l_far.b .nil pass0 (pa_cons (pv 8) (pa_cons (pv 3) pa_nil))) pa_nil))) pa_nil)))))))
    (pss_one (ps_ret (pv 5))))), ?_⟩
    refine ⟨_, rfl, t, _, rfl, ht, fun D1 hD1 => ?_⟩
    refine lc_it (walk_enumU (K := K) (a := t) (xs := row.map V.int)) (fun i H' => ∃ ps : List Addr, H' D1 = some (.lst (ps.map V.ref)) ∧ Paired (fun p kv => SqT K H' p [kV kv.1, kv.2]) ps (spKn row i) ∧ Same H H')
      ⟨[], upd_same, .nil, same_new hD1⟩ (fun i H' _ ⟨_, _, _, s⟩ => same_seqT s ht) ?_ ?_
    · rintro i y H2 H3 hi ⟨ps, h2, hp, s2⟩ ⟨a, yi, yx, rfl, ha, rfl, e1, e2⟩
      cases e1
      obtain ⟨x, rfl, hx⟩ := ints_at e2
      have hpl : ps.length = i := by rw [hp.length, spKn_len]
      have hil : i < row.length := (List.getElem?_eq_some_iff.mp hx).1
      have s3 : Same H2 (upd H2 a (.tup [.int (i : Int), .int x])) := same_new ha
      refine ⟨a, _, rfl, SqT.of upd_same, rfl, _, _, rfl, _, _, rfl, rfl, rfl, yes_t ?_⟩
      have h3 := s3 _ _ h2
      generalize upd H2 a (.tup [.int (i : Int), .int x]) = H3 at s3 h3
      refine ⟨_, rfl, _, rfl, (by show 2 ≤ sizeLine; decide), fun q hq => ?_⟩
      have s4 : Same H3 (upd H3 q (.tup [.int x, .int (i : Int)])) := same_new hq
      have h4 := s4 _ _ h3
      have nq : q ≠ D1 := (ne_of_none h3 hq).symm
      refine ⟨_, h4, by rw [List.length_map]; exact small1000 (by omega), ps ++ [q], ?_, ?_, fun b o hb => ?_⟩
      · rw [upd_same, List.map_append]
        rfl
      · rw [spKn_succ]
        refine pair_snoc (pair_mono (fun p kv z => sqT_put (same_seqT s4 (same_seqT s3 z)) h4) hp) ?_
        refine SqT.of ?_
        rw [upd_ne nq, upd_same]
        have eg : row.getD i 0 = x := by rw [List.getD_eq_getElem?_getD, hx]; rfl
        rw [eg]
        rfl
      · rw [upd_ne (ne_of_none hb hD1)]
        exact s4 _ _ (s3 _ _ (s2 _ _ hb))
    · rintro H2 ⟨ps, h2, hp, s2⟩
      rw [List.length_map] at hp
      obtain ⟨m1, v1⟩ := spKn_at rnd row.length (Nat.le_refl _)
      refine ⟨D1, ps, spKn row row.length, rfl, SqL.of h2, hp, fun d hd => ?_⟩
      rw [m1]
      have s3 : Same H (upd H2 d (.dK (spKn row row.length))) := s2.trans (same_new hd)
      have sd : SpD (upd H2 d (.dK (spKn row row.length))) d row := ⟨_, upd_same, spKn_len row row.length, fun x hx => by rw [v1 x hx, if_pos (List.idxOf_lt_length_of_mem hx)]⟩
      generalize upd H2 d (.dK (spKn row row.length)) = H3 at s3 sd
      clear hp h2 s2 hd hD1 m1 v1
      refine ⟨_, rfl, u, _, rfl, .inr (same_seqT s3 hu0), (by show 0 ≤ sizeLine; decide), fun f hf => ⟨(by show 3 ≤ sizeLine; decide), fun tp htp => ⟨_, _, rfl, SqT.of upd_same, rfl, _, _, rfl, _, _, rfl, _, _, rfl, rfl, ?_⟩⟩⟩
      rw [List.length_map]
      have s4a : Same H3 (upd H3 f (.lst [])) := same_new hf
      have s4b : Same (upd H3 f (.lst [])) (upd (upd H3 f (.lst [])) tp (.tup [.ref d, .int (ns.length : Int), .ref f])) := same_new htp
      have e4 : (upd (upd H3 f (.lst [])) tp (.tup [.ref d, .int (ns.length : Int), .ref f])) f = some (.lst (([] : List Addr).map V.ref)) := s4b _ _ upd_same
      have hfH : ∀ b o, H b = some o → b ≠ f := fun b o hb => ne_of_none (s3 _ _ hb) hf
      have s4 := s4a.trans s4b
      have s5 := s3.trans s4
      have sd4 := sd.same s4
      clear s4a s4b
      generalize upd (upd H3 f (.lst [])) tp (.tup [.ref d, .int (ns.length : Int), .ref f]) = H4 at s4 e4 s5 sd4
      have hdf : ∀ H5 xs, SpD H5 d row → H5 f = some (.lst xs) → ∀ ys, SpD (upd H5 f (.lst ys)) d row := fun H5 xs z e ys => by
        obtain ⟨kvs, a, b⟩ := z.ex
        exact ⟨kvs, by rw [upd_ne (ne_of a e (fun z => nomatch z))]; exact a, b⟩
      refine ⟨_, rfl, _, rfl, by omega, by omega, ?_⟩
      refine for_range (lo := 0) (fun i σ H' => ∃ (qs : List Addr) (v6 v7 v8 : Option V), σ = [some (.ref t), some (.ref u), some (.int (m : Int)), some (.ref d), some (.int (ns.length : Int)), some (.ref f), v6, v7, v8, none, none] ∧ H' f = some (.lst (qs.map V.ref)) ∧ qs.length = i ∧ (∀ (j : Nat) q, qs[j]? = some q → PrT K H' q (Ln.wayOn row ns (j : Int) m) (Ln.wayBk row ns (j : Int) m)) ∧ SpD H' d row ∧ Same H H')
        ⟨[], none, none, none, rfl, e4, rfl, fun j q h => by simp at h, sd4, s5⟩ ?_ ?_
      · rintro i σ H5 hi ⟨qs, v6, v7, v8, rfl, e5, ql, al, sd5, s5'⟩
        have e0 : (0 : Int) + (i : Nat) = (i : Int) := by omega
        rw [e0]
        have hi' : i < ns.length := by omega
        have hu5 := same_seqT s5' hu0
        refine ⟨_, rfl, _, rfl, by omega, by omega, fun D2 hD2 => ?_⟩
        refine lc_range (lo := 0) (n := ((m : Int)).toNat) (fun j H' => H' D2 = some (.lst ((Ln.seqN (fun k => Ln.gt ns ((i : Int) + 1 + k)) j).map V.int)) ∧ Same H5 H') ⟨upd_same, same_new hD2⟩ ?_ ?_
        · rintro j H6 hj ⟨h6, s6⟩
          have e0 : (0 : Int) + (j : Nat) = (j : Int) := by omega
          rw [e0]
          refine ⟨rfl, yes_t ?_⟩
          refine ⟨_, rfl, _, rfl, _, _, rfl, rfl, _, rfl, _, _, rfl, rfl, .inl ⟨_, rfl, _, rfl, _, _, rfl, rfl, (by omega), ?_⟩⟩
          have ag := at_gt hne ((i : Int) + 1 + (j : Int))
          rw [List.length_map] at ag
          refine ⟨u, _, _, V.int (Ln.gt ns ((i : Int) + 1 + (j : Int))), rfl, rfl, same_seqT s6 hu5, ag, _, h6, ?_, ?_, fun b o hb => ?_⟩
          · rw [List.length_map, Ln.seqN_len]
            exact small1000 (by omega)
          · rw [upd_same, seqN_succ, List.map_append]
            rfl
          · rw [upd_ne (ne_of_none hb hD2)]
            exact s6 b o hb
        rintro H6 ⟨h6, s6⟩
        rw [Int.toNat_natCast] at h6
        refine ⟨_, rfl, _, rfl, by omega, by omega, fun D3 hD3 => ?_⟩
        refine lc_range (lo := 0) (n := ((m : Int)).toNat) (fun j H' => H' D3 = some (.lst ((Ln.seqN (fun k => Wd.mate (Ln.gt ns ((i : Int) - k))) j).map V.int)) ∧ Same H6 H') ⟨upd_same, same_new hD3⟩ ?_ ?_
        · rintro j H7 hj ⟨h7, s7⟩
          have e0 : (0 : Int) + (j : Nat) = (j : Int) := by omega
          rw [e0]
          refine ⟨rfl, yes_t ?_⟩
          refine ⟨_, rfl, _, rfl, _, rfl, _, _, rfl, rfl, .inl ⟨_, rfl, _, rfl, _, _, rfl, rfl, (by omega), ?_⟩⟩
          have ag := at_gt hne ((i : Int) - (j : Int))
          rw [List.length_map] at ag
          have hx := gt12 hne hb ((i : Int) - (j : Int))
          refine ⟨u, _, _, V.int (Ln.gt ns ((i : Int) - (j : Int))), rfl, rfl, same_seqT (s6.trans s7) hu5, ag, _, _, rfl, rfl, _, h7, ?_, ?_, fun b o hb => ?_⟩
          · rw [List.length_map, Ln.seqN_len]
            exact small1000 (by omega)
          · rw [upd_same, seqN_succ, List.map_append, ← xor_mate hx.1 hx.2]
            rfl
          · rw [upd_ne (ne_of_none hb hD3)]
            exact s7 b o hb
        rintro H7 ⟨h7, s7⟩
        rw [Int.toNat_natCast] at h7
        have h67 := s7 _ _ h6
        have s57 := s6.trans s7
        have sd7 := sd5.same s57
        have e7 := s57 _ _ e5
        have inR : ∀ (f : Int → Int) (z : Nat), (∀ k, f k ∈ row) → ∀ x ∈ Ln.seqN f z, x ∈ row := fun f z hf x hx => by
          unfold Ln.seqN at hx
          obtain ⟨k, _, rfl⟩ := List.mem_map.mp hx
          exact hf _
        refine ⟨_, rfl, .inl ⟨rfl, _, SqL.of e7⟩, ?_⟩
        refine ⟨_, rfl, _, rfl, D2, d, _, row, n, rfl, h67, sd7, n6, pm, inR _ _ (fun k => rn.m _ (Ln.gt_mem hne _)), by rw [Ln.seqN_len]; omega, fun q1 H8 s8 h8 => ?_⟩
        refine ⟨_, rfl, _, rfl, D3, d, _, row, n, rfl, s8 _ _ h7, sd7.same s8, n6, pm, inR _ _ (fun k => mateRow pm (rn.m _ (Ln.gt_mem hne _))), by rw [Ln.seqN_len]; omega, fun q2 H9 s9 h9 => ⟨(by show 2 ≤ sizeLine; decide), fun q3 hq3 => ?_⟩⟩
        have s10 : Same H9 (upd H9 q3 (.tup [.ref q1, .ref q2])) := same_new hq3
        have sA := s57.trans ((s8.trans s9).trans s10)
        have e10 := sA _ _ e5
        have pr : PrT K (upd H9 q3 (.tup [.ref q1, .ref q2])) q3 (Ln.wayOn row ns (i : Int) m) (Ln.wayBk row ns (i : Int) m) := ⟨q1, q2, SqT.of upd_same, SqT.of (s10 _ _ (s9 _ _ h8)), SqT.of (s10 _ _ h9)⟩
        have putP : ∀ {H' : Hp} {q : Addr} {xs ys : List V} {a b : List Int}, PrT K H' q a b → H' f = some (.lst xs) → PrT K (upd H' f (.lst ys)) q a b := fun ⟨p1, p2, z1, z2, z3⟩ e => ⟨p1, p2, sqT_put z1 e, sqT_put z2 e, sqT_put z3 e⟩
        refine ⟨f, _, _, rfl, rfl, e10, by rw [List.length_map]; exact small1000 (by omega), qs ++ [q3], _, _, _, rfl, ?_, ?_, fun j q hj => ?_, hdf _ _ ((sd5.same sA)) e10 _, fun b o hb => ?_⟩
        · rw [upd_same, List.map_append]
          rfl
        · rw [List.length_append, ql]
          rfl
        · by_cases hji : j < qs.length
          · rw [List.getElem?_append_left hji] at hj
            exact putP ((al j q hj).same sA) e10
          · rw [List.getElem?_append_right (by omega)] at hj
            have ej : j = i := by
              have := (List.getElem?_eq_some_iff.mp hj).1
              rw [List.length_singleton] at this
              omega
            subst ej
            rw [ql, Nat.sub_self] at hj
            cases hj
            exact putP pr e10
        · rw [upd_ne (hfH b o hb)]
          exact sA _ _ (s5' _ _ hb)
      · rintro σ H5 ⟨qs, v6, v7, v8, rfl, e5, ql, al, sd5, s5'⟩
        exact ⟨_, rfl, k f qs H5 s5' e5 (by omega) al⟩
end
end Tt
set_option maxRecDepth 100000
set_option maxHeartbeats 4000000
namespace Tt
open PySem L2
open LamX (Tabs TabS TabB ExtN CodeO tLam)
structure FnG (P : Program) (w : World) (K : PySem.W.Frag) (mg : Str → Option Value) (base : Heap) (CX : CXT) (k : Nat) (f : Addr) (fd : FuncData) (ps : List Str) (sp : Sp) : Prop where
  len : ∀ vs H Q E, sp vs H Q E → vs.length = ps.length
  run : ∀ (A : Around) (outer : List Env) (s : Shared) (H : Hp) (args : Args) (us : List Value) (vs : List V) (Q : VK) (E : XK), A.guards = some [] → Room k A → Env0 P w K mg base A outer s H → BindsTo s fd args (ps.zip us) → Vals vs us → sp vs H Q E →
    codeAny (model P w) A (.call (.ref f) args) (CR CX outer P w H s Q E) s
theorem FunC.okG {P : Program} {w : World} {K : PySem.W.Frag} {mg : Str → Option Value} {base : Heap} {x qual : Str} {st : Stmt} {f : Addr} {fd : FuncData} {cdv : Value} {N ps : List Str} {k : Nat} {sp : Sp} (F : FunC K x qual st f fd cdv) (S : FnScope N ps (defScope st)) (len : ∀ vs H Q E, sp vs H Q E → vs.length = ps.length)
    (body : ∀ (A : Around) (outer : List Env) (s : Shared) (H : Hp) (vs : List V) (Q : VK) (E : XK), A.guards = some [] → Room k (A.deeper (PyProof.Rows.envOfC qual (defScope st) s.heap.objs.size f cdv)) → sp vs H Q E →
      ∃ t, PSs (cxOf CX0 P w K mg base N qual (defScope st) f cdv A outer s H E).nox (defBody st) t ∧ t { nx := fun _ H' => Q .non H', rt := Q } (L2.start N vs) H) : FnG P w K mg base CX0 (k + 1) f fd ps sp := by
  refine ⟨len, fun A outer s H args us vs Q E hg hr e0 hb r hsp => ?_⟩
  obtain ⟨oc, od, kV, doc, pm, an, ct, osl, rfl, lk, hc⟩ := F.ex
  refine LamX.run_ofS (N := N) (ps := ps) (k := k) (us := us) (vs := vs) lk hc S hr e0 hb r (len _ _ _ _ hsp) fun hr' => ?_
  obtain ⟨t, h1, h2⟩ := body A outer s H vs Q E hg hr' hsp
  exact ⟨t, h1.nox, h2⟩
theorem FunG {P : Program} {w : World} {K : PySem.W.Frag} {mg : Str → Option Value} {base : Heap} {x qual : Str} {st : Stmt} {f : Addr} {fd : FuncData} {N ps : List Str} {k : Nat} {sp : Sp} (F : Fun K x qual st f fd) (S : FnScope N ps (defScope st)) (len : ∀ vs H Q E, sp vs H Q E → vs.length = ps.length)
    (body : ∀ (cdv : Value) (A : Around) (outer : List Env) (s : Shared) (H : Hp) (vs : List V) (Q : VK) (E : XK), A.guards = some [] → Room k (A.deeper (PyProof.Rows.envOfC qual (defScope st) s.heap.objs.size f cdv)) → sp vs H Q E →
      ∃ t, PSs (cxOf CX0 P w K mg base N qual (defScope st) f cdv A outer s H E).nox (defBody st) t ∧ t { nx := fun _ H' => Q .non H', rt := Q } (L2.start N vs) H) : FnG P w K mg base CX0 (k + 1) f fd ps sp := by
  refine ⟨len, fun A outer s H args us vs Q E hg hr e0 hb r hsp => ?_⟩
  obtain ⟨oc, od, kV, doc, pm, an, cdv, ct, osl, rfl, lk, hc⟩ := F.ex
  refine LamX.run_ofS (N := N) (ps := ps) (k := k) (us := us) (vs := vs) lk hc S hr e0 hb r (len _ _ _ _ hsp) fun hr' => ?_
  obtain ⟨t, h1, h2⟩ := body cdv A outer s H vs Q E hg hr' hsp
  exact ⟨t, h1.nox, h2⟩
section
variable {X : Cx} {CX : CXT} {k : Nat} {f : Addr} {fd : FuncData} {ps : List Str} {sp : Sp} {ds : List Value} {dvs : List V} {E : XK} {x : Str} {p pos : Pos} {e : Expr} {es : List Expr} {t : TA}
theorem pe_callG (F : FnG X.prog X.w X.K X.mg X.base CX k f fd ps sp) (hgd : X.A.guards = some []) (hr : Room k X.A) (hg : Gl X x) (hm : X.mg x = some (.ref f)) (hk : PySem.W.keepIn X.K (.ref f) = true) (hb : Binds X.K fd ps ds) (hd : Vals dvs ds) (hx : Passes CX X E)
    (ha : PA X (e :: es) t) (hdb : (x == ("__debug__" : Str)) = false := by decide) (he : starEach (e :: es) X.env = (false, eval e X.env) :: starEach es X.env := by rfl) (hpl : (backTo pos (starEach es X.env)).any (·.1) = false := by rfl) :
    PE X (.Call (.Name x p) (e :: es) [] pos) (tCall sp dvs E t) := by
  refine ⟨fun pins s σ H Q I h => ?_⟩
  refine wpAny_Call_Name_kw (ld_glob I hg hm ?_ hdb)
  refine PySem.W.callWith_K (h₀ := X.base) I.ok.mod.kin hk (thn (ha.run pos pins s σ H _ I h) fun us s1 ⟨vs, H1, I1, r, q⟩ => ⟨I1.kIn, ?_⟩) he hpl
  have r2 : Vals (vs ++ dvs) (us ++ ds) := r.append hd
  have hl : (us ++ ds).length = ps.length := by rw [← r2.length]; exact F.len _ _ _ _ q
  refine wpAny_call (codeAny_mono (F.run X.A X.stack s1 H1 ⟨us, []⟩ (us ++ ds) (vs ++ dvs) Q E hgd hr I1.env0 (hb s1 us I1.kIn hl) r2 q) fun r s' hq => ?_)
  cases r with
  | error e => exact hx pins σ H1 s1 e s' I1 hq
  | ok fl =>
    cases fl with
    | ret u => exact I1.after hq
    | next => exact False.elim hq
    | brk => exact False.elim hq
    | cont => exact False.elim hq
end
end Tt
set_option maxRecDepth 100000
set_option maxHeartbeats 4000000
namespace Tt
open PySem L2
section
variable {P : Program} {w : World} {K : PySem.W.Frag} {mg : Str → Option Value} {base : Heap}
theorem while_by2 {c : TT} {tb : TS} {D : Ends} {σ : L2.St} {H : Hp} (Pv : L2.St → Hp → Prop) (μ : L2.St → Hp → Nat) (h0 : Pv σ H)
    (hs : ∀ σ H, Pv σ H → c σ H fun b H1 => if b = true then ∃ N : L2.St → Hp → Prop, (∀ σ' H', N σ' H' → ∃ m', m' < μ σ H ∧ (m' = μ σ' H' ∧ Pv σ' H')) ∧ tb { D with nx := N, ct := N, bk := D.nx } σ H1 else D.nx σ H1) : tWhile c tb D σ H := by
  refine ⟨fun m σ H => m = μ σ H ∧ Pv σ H, ⟨_, rfl, h0⟩, ?_⟩
  rintro m σ H ⟨rfl, p⟩
  exact hs σ H p
def sizeAt (i n : Nat) : L2.St → Hp → Nat := fun σ _ => match σ[i]? with
  | some (some (V.int c)) => n - c.toNat
  | _ => 0
def spRooted (K : PySem.W.Frag) : Sp := fun vs H Q _ => ∃ (p : Addr) (ns : List Int), vs = [.ref p] ∧ SqT K H p (ns.map V.int) ∧ ns ≠ [] ∧ ns.length ≤ 400 ∧
  ∀ s q r H', IsRoot ns s → Same H H' → H' q = some (.tup [.ref r, .int ((ns.length / s : Nat) : Int)]) → SqT K H' r ((ns.take s).map V.int) → Q (.ref q) H'
theorem ok_rooted (T : Txt K mg) : FnOk P w K mg base CX0 1 T.rooted.a T.rooted.fd ["loop"] (spRooted K) := by
  refine T.rooted.F.ok sc_rooted (fun vs H Q E h => ?_) (fun cdv A outer s H vs Q E hr h => ?_)
  · obtain ⟨p, ns, rfl, _⟩ := h
    rfl
  · obtain ⟨p, ns, rfl, hp, hne, hl, k⟩ := h
    have nd := sc_rooted.nd
    have l0 := List.length_pos_iff.mpr hne
    have lm : (ns.map V.int).length = ns.length := List.length_map ..
    refine ⟨_, (pss_cons (ps_set (i := 1) nd rfl (Or.inl rfl) pe_int)
    (pss_cons (ps_while PassesOwn.never (PW.pt (pw_or (pt_cmpR op_ne (pe_op op_mod (pe_callB call_len_seq (by rfl) T.zlen (by decide +kernel) (pa_cons (pv 0) pa_nil)) (pv 1)) pe_int (nomark _)) (pw_or1 (pt_cmpR (op_neD hr.units) (pe_op op_repA (pe_slice sl_tupA (pv 0) po_none (po_some (pv 1))) (pe_op op_fdiv (pe_callB call_len_seq (by rfl) T.zlen (by decide +kernel) (pa_cons (pv 0) pa_nil)) (pv 1))) (pv 0) (nomark _)))))
      (pss_one (ps_aug (i := 1) nd rfl (Or.inl rfl) pe_int ip_add)))
    (pss_one (ps_ret (pe_tup (pa_cons (pe_slice sl_tupA (pv 0) po_none (po_some (pv 1))) (pa_cons (pe_op op_fdiv (pe_callB call_len_seq (by rfl) T.zlen (by decide +kernel) (pa_cons (pv 0) pa_nil)) (pv 1)) pa_nil))))))), ?_⟩
    have pl : IsPer ns ns.length := by
      refine ⟨Nat.mod_self _, ?_⟩
      rw [Nat.div_self l0, List.take_length, Wd.pow_one]
    refine while_by2 (fun σ H' => ∃ s : Nat, σ = [some (.ref p), some (.int (s : Int))] ∧ 1 ≤ s ∧ s ≤ ns.length ∧ (∀ j, 1 ≤ j → j < s → ¬ IsPer ns j) ∧ Same H H') (sizeAt 1 ns.length)
      ⟨1, rfl, Nat.le_refl 1, l0, (fun j j1 j2 => absurd j1 (by omega)), fun _ _ z => z⟩ ?_
    rintro σ H' ⟨s, rfl, s1, sl, no, sm⟩
    have hp' := same_seqT sm hp
    have more : ¬ IsPer ns s → ∀ H2, Same H H2 → ∃ N : L2.St → Hp → Prop, (∀ σ' H', N σ' H' → ∃ m', m' < sizeAt 1 ns.length [some (.ref p), some (.int (s : Int))] H2 ∧ (m' = sizeAt 1 ns.length σ' H' ∧ ∃ s : Nat, σ' = [some (.ref p), some (.int (s : Int))] ∧ 1 ≤ s ∧ s ≤ ns.length ∧ (∀ j, 1 ≤ j → j < s → ¬ IsPer ns j) ∧ Same H H')) ∧ N [some (.ref p), some (.int ((s : Int) + 1))] H2 := fun np H2 s2 => by
      have hs : s < ns.length := by
        rcases Nat.lt_or_eq_of_le sl with g | g
        · exact g
        · rw [g] at np
          exact absurd pl np
      refine ⟨fun σ' H' => σ' = [some (.ref p), some (.int ((s : Int) + 1))] ∧ Same H H', ?_, rfl, s2⟩
      rintro σ' H3 ⟨rfl, s3⟩
      refine ⟨_, ?_, rfl, s + 1, rfl, by omega, by omega, fun j j1 j2 => ?_, s3⟩
      · show ns.length - ((s : Int) + 1).toNat < ns.length - ((s : Int)).toNat
        omega
      · by_cases hj : j = s
        · rw [hj]
          exact np
        · exact no j j1 (by omega)
    have fin : IsPer ns s → ∀ H2, Same H H2 → ∀ r q H3, Same H H3 → H3 q = some (.tup [.ref r, .int ((ns.length / s : Nat) : Int)]) → SqT K H3 r ((ns.take s).map V.int) → Q (.ref q) H3 := fun hper H2 _ r q H3 s3 h3 hr3 =>
      k s q r H3 (root_of_per s1 sl hper no) s3 h3 hr3
    have es : ((ns.length : Int) % (s : Int)) = ((ns.length % s : Nat) : Int) := rfl
    have ed : ((ns.length : Int) / (s : Int)) = ((ns.length / s : Nat) : Int) := rfl
    refine ⟨_, rfl, p, _, rfl, .inr hp', _, rfl, _, _, rfl, rfl, by omega, rfl, _, rfl, ?_⟩
    rw [lm]
    refine ite2 (fun c => ?_) (fun c => ?_)
    · have c' : ns.length % s ≠ 0 := fun z => by
        have c0 : (!decide (V.int ((ns.length : Int) % (s : Int)) = V.int 0)) = true := c
        rw [es, z] at c0
        exact absurd c0 (by decide)
      obtain ⟨N, n1, n2⟩ := more (fun z => c' z.1) H' sm
      exact iteT ⟨N, n1, _, rfl, _, _, rfl, rfl, n2⟩
    · have c' : ns.length % s = 0 := by
        refine Classical.byContradiction fun z => c ?_
        show (!decide (V.int ((ns.length : Int) % (s : Int)) = V.int 0)) = true
        rw [es]
        simp
        omega
      have hk : 1 ≤ ns.length / s := Nat.div_pos sl (by omega)
      have hk2 : ns.length / s ≤ ns.length := Nat.div_le_self _ _
      have htn := take_ne s1 sl
      refine ⟨_, rfl, noPart_i ⟨_, rfl, _, rfl, ?_⟩⟩
      refine slT_gen (K := K) hp' fun b H2 s2 hb => ?_
      rw [← List.map_take] at hb
      have hp2 := same_seqT s2 hp'
      refine ⟨_, rfl, p, _, rfl, .inr hp2, _, rfl, _, _, rfl, rfl, ⟨by omega, by omega⟩, ?_⟩
      rw [lm]
      refine repA_gen (K := K) (k := ((ns.length / s : Nat) : Int)) hb (fun z => htn (List.map_eq_nil_iff.mp z)) (by omega) (by omega) (by rw [List.length_map, List.length_take]; omega) fun c2 H3 s3 hc => ?_
      have e2 : ((ns.length / s : Nat) : Int).toNat = ns.length / s := by omega
      rw [e2, repV] at hc
      have hp3 := same_seqT s3 hp2
      have sA := (sm.trans s2).trans s3
      refine ⟨_, rfl, .tuple ((Wd.pow (ns.take s) (ns.length / s)).map PyData.int), .tuple (ns.map PyData.int), .tup hc (dpAll_ints _ _), .tup hp3 (dpAll_ints _ _), shapedAll_ints _, shapedAll_ints _, ?_⟩
      have ev : PyData.eqv (.tuple ((Wd.pow (ns.take s) (ns.length / s)).map PyData.int)) (.tuple (ns.map PyData.int)) = decide (Wd.pow (ns.take s) (ns.length / s) = ns) := eqv_ints _ ns
      rw [ev]
      refine ⟨_, rfl, ite2 (fun z => ?_) (fun z => ?_)⟩
      · have z' : ¬ Wd.pow (ns.take s) (ns.length / s) = ns := by simpa using z
        obtain ⟨N, n1, n2⟩ := more (fun q => z' q.2) H3 sA
        exact ⟨N, n1, _, rfl, _, _, rfl, rfl, n2⟩
      · have z' : Wd.pow (ns.take s) (ns.length / s) = ns := by simpa using z
        refine ⟨_, rfl, noPart_i ⟨_, rfl, _, rfl, ?_⟩⟩
        refine slT_gen (K := K) hp3 fun r H4 s4 hr4 => ?_
        rw [← List.map_take] at hr4
        have hp4 := same_seqT s4 hp3
        refine ⟨_, rfl, p, _, rfl, .inr hp4, _, rfl, _, _, rfl, rfl, ⟨by omega, by omega⟩, (by show 2 ≤ sizeLine; decide), fun q hq => ?_⟩
        rw [lm]
        exact fin ⟨c', z'⟩ H4 (sA.trans s4) r q _ ((sA.trans s4).trans (same_new hq)) upd_same (same_seqT (same_new hq) hr4)
end
end Tt
set_option maxRecDepth 100000
namespace Bt
open PySem PySem.Spec PyProof.Rows L2
def dst (ns : List Int) : Nat := (firstMet (fun i => ns.getD i 0) ns.length).length
theorem dst_all {ns : List Int} (h : ns.Nodup) : dst ns = ns.length := by
  unfold dst
  rw [firstMet_nodup ns h _ (Nat.le_refl _), List.take_length]
theorem met_all (ns : List Int) : ∀ i, i ≤ ns.length → (firstMet (fun i => ns.getD i 0) i).length = i → firstMet (fun i => ns.getD i 0) i = ns.take i ∧ (ns.take i).Nodup
  | 0, _, _ => ⟨rfl, List.nodup_nil⟩
  | i + 1, hi, h => by
    have lt : i < ns.length := hi
    have le := firstMet_length_le (fun i => ns.getD i 0) i
    have ei : ns.getD i 0 = ns[i] := by
      rw [List.getD_eq_getElem?_getD, List.getElem?_eq_getElem lt]
      rfl
    rw [firstMet_succ] at h ⊢
    unfold step_dedup at h ⊢
    by_cases c : (firstMet (fun i => ns.getD i 0) i).any (· == ns.getD i 0) = true
    · rw [if_pos c] at h
      omega
    · rw [if_neg c] at h ⊢
      rw [List.length_append] at h
      obtain ⟨e, nd⟩ := met_all ns i (Nat.le_of_lt lt) (Nat.succ.inj h)
      rw [e] at c ⊢
      have et : ns.take (i + 1) = ns.take i ++ [ns[i]] := by
        rw [List.take_succ, List.getElem?_eq_getElem lt]
        rfl
      rw [et, ei]
      refine ⟨rfl, List.nodup_append.mpr ⟨nd, by simp, fun x hx y hy z => c ?_⟩⟩
      rw [List.mem_singleton.mp hy] at z
      exact List.any_eq_true.mpr ⟨x, hx, by rw [ei, z]; exact beq_self_eq_true _⟩
theorem dst_less {ns : List Int} (h : ¬ ns.Nodup) : dst ns < ns.length := by
  refine Nat.lt_of_le_of_ne (firstMet_length_le _ _) fun z => h ?_
  have := (met_all ns ns.length (Nat.le_refl _) z).2
  rwa [List.take_length] at this
section
variable {X : Cx}
def tLenSetD (K : PySem.W.Frag) (ta : TE) : TE := fun σ H Q => ta σ H fun x H1 => ∃ (l : Addr) (ns : List Int), x = V.ref l ∧ SqL K H1 l (ns.map V.int) ∧ ns.length ≤ 60 ∧ Q (.int (dst ns : Nat)) H1
theorem pe_lenSetD {a : Expr} {ta : TE} {p p2 q pos : Pos} (hc : X.calm = true) (hg : Gl X "len") (hm : X.mg "len" = none) (hg2 : Gl X "set") (hm2 : X.mg "set" = none) (ha : PE X a ta)
    (one : starEach [a] X.env = (false, eval a X.env) :: starEach [] X.env := by rfl) : PE X (.Call (.Name "len" p) [.Call (.Name "set" p2) [a] [] q] [] pos) (tLenSetD X.K ta) := by
  refine ⟨fun pins s σ H Q I h => Call_ (ld_blt I hg hm PySem.boot_len (PyProof.Rows.callWith_builtin1 (PyProof.Rows.args_cons ?_ rfl) rfl rfl))⟩
  refine Call_ (ld_blt I hg2 hm2 PyProof.Rows.boot_set (PyProof.Rows.callWith_type1 (PyProof.Rows.args_cons (thn (ha.run pins s σ H _ I h) fun v s1 ⟨x, H1, I1, r1, l, ns, e, sq, few, q1⟩ => PyProof.Rows.args_nil ?_) one) one rfl))
  subst e
  cases r1
  obtain ⟨its, r, pl, hz⟩ := I1.list sq
  have ln : its.toArray.size = ns.length := by rw [List.size_toArray, ← r.length, List.length_map]
  refine call_set_list (I1.ok.hd hc) pl.isList (ns := ns) (by simpa using r.ints) (by unfold scanBound; omega) fun h' tk hS hk => PyProof.Rows.args_nil ?_
  rw [ln] at hS
  obtain ⟨o, es, ep, t, ho, hex, hd, _, _, _, hf, hn⟩ := hS
  have I2 : Inv X pins σ H1 { s1 with heap := h', toks := tk } := I1.kept fun b o e => hk b o (Heap.lt_size e) e
  have le : dst ns ≤ ns.length := firstMet_length_le _ _
  have hn' : es.size = dst ns := hn
  refine call_len_set ho hex hd hf (by rw [hn']; omega) ⟨.int (dst ns : Nat), H1, I2.tok _, ⟨_, by rw [hn']⟩, q1⟩
end
end Bt
set_option maxRecDepth 100000
set_option maxHeartbeats 4000000
namespace Tt
open PySem L2 Bt
section
variable {P : Program} {w : World} {K : PySem.W.Frag} {mg : Str → Option Value} {base : Heap}
def btw (a b x : Int) : Bool := decide ((if b < a then b else a) < x) && decide (x < (if a < b then b else a))
def byI (a b c d : Int) : Bool := btw a b c != btw a b d
theorem chain_i {σ : L2.St} {H : Hp} {Q : VK} {i j l : Nat} {x y z : Int} (h1 : σ[i]? = some (some (V.int x))) (h2 : σ[j]? = some (some (V.int y))) (h3 : σ[l]? = some (some (V.int z))) (q : Q (.bl (decide (x < y) && decide (y < z))) H) :
    tChain (rI0 fun i j => V.bl (decide (i < j))) (rI0 fun i j => V.bl (decide (i < j))) (tVar i) (tVar j) (tVar l) σ H Q := by
  refine ⟨_, h1, _, h2, x, y, rfl, rfl, _, rfl, ?_⟩
  by_cases c : x < y
  · rw [if_pos (decide_eq_true c)]
    rw [decide_eq_true c, Bool.true_and] at q
    exact ⟨_, h3, y, z, rfl, rfl, q⟩
  · rw [if_neg (by simpa using c)]
    rw [decide_eq_false c, Bool.false_and] at q
    exact q
def spByTurns : Sp := fun vs H Q _ => ∃ a b c d : Int, vs = [.int a, .int b, .int c, .int d] ∧ Q (.bl (byI a b c d)) H
theorem ok_by_turns (T : Txt K mg) : FnOk P w K mg base CX0 1 T.by_turns.a T.by_turns.fd ["one", "end", "other", "tail"] spByTurns := by
  refine T.by_turns.F.ok sc_by_turns (fun vs H Q E h => ?_) (fun cdv A outer s H vs Q E hr h => ?_)
  · obtain ⟨a, b, c, d, rfl, _⟩ := h
    rfl
  · obtain ⟨a, b, c, d, rfl, k⟩ := h
    have nd := sc_by_turns.nd
    refine ⟨_, (pss_cons (ps_set (i := 4) nd rfl (Or.inl rfl) (pe_callB (call_min2 rfl) (by rfl) T.zmin (by decide +kernel) (pa_cons (pv 0) (pa_cons (pv 1) pa_nil))))
    (pss_cons (ps_set (i := 5) nd rfl (Or.inl rfl) (pe_callB (call_max2 rfl) (by rfl) T.zmax (by decide +kernel) (pa_cons (pv 0) (pa_cons (pv 1) pa_nil))))
    (pss_one (ps_ret (pe_cmpR op_ne (pe_chain op_lt op_lt (pv 4) (pv 2) (pv 5)) (pe_chain op_lt op_lt (pv 4) (pv 3) (pv 5)) (nomark _)))))), ?_⟩
    refine ⟨_, rfl, _, rfl, a, b, rfl, _, rfl, _, rfl, a, b, rfl, ?_⟩
    refine chain_i (i := 4) (j := 2) (l := 5) rfl rfl rfl (chain_i (i := 4) (j := 3) (l := 5) rfl rfl rfl ⟨rfl, ?_⟩)
    have e : (!decide (V.bl (btw a b c) = V.bl (btw a b d))) = byI a b c d := by
      unfold byI
      cases btw a b c <;> cases btw a b d <;> rfl
    rw [← e] at k
    exact k
def endsL (ns : List Int) (a : Int) (ms : List Int) (b : Int) : List Int := [Wd.mate (Ln.gt ns a), Ln.gt ns (a + 1), Wd.mate (Ln.gt ms b), Ln.gt ms (b + 1)]
def acr (row ns ms : List Int) (a b : Int) : Bool := decide (endsL ns a ms b).Nodup && byI (Ln.pl row (Wd.mate (Ln.gt ns a))) (Ln.pl row (Ln.gt ns (a + 1))) (Ln.pl row (Wd.mate (Ln.gt ms b))) (Ln.pl row (Ln.gt ms (b + 1)))
def spAcross (T : Txt K mg) : Sp := fun vs H Q _ => ∃ (p : Addr) (row : List Int) (n : Nat) (t u : Addr) (ns ms : List Int) (a b : Nat), vs = [.ref p, .ref t, .int (a : Int), .ref u, .int (b : Int)] ∧ SkAt T H p row ∧ n ≤ 6 ∧ row.Perm (rgI (2 * n)) ∧
  SqT K H t (ns.map V.int) ∧ SqT K H u (ms.map V.int) ∧ Rn row ns ∧ Rn row ms ∧ a < ns.length ∧ b < ms.length ∧ ∀ H', Same H H' → Q (.bl (acr row ns ms (a : Int) (b : Int))) H'
theorem ok_linked_across (T : Txt K mg) : FnOk P w K mg base CX0 2 T.linked_across.a T.linked_across.fd ["skin", "one", "place", "other", "spot"] (spAcross T) := by
  refine T.linked_across.F.ok sc_linked_across (fun vs H Q E h => ?_) (fun cdv A outer s H vs Q E hr h => ?_)
  · obtain ⟨p, row, n, t, u, ns, ms, a, b, rfl, _⟩ := h
    rfl
  · obtain ⟨p, row, n, t, u, ns, ms, a, b, rfl, sk, n6, pm, ht, hu, rn, rm, la, lb, k⟩ := h
    have nd := sc_linked_across.nd
    have B1 := rn.b n6 pm
    have B2 := rm.b n6 pm
    have n1 := rn.r.1
    have n2 := rm.r.1
    have x1 := B1 _ (Ln.gt_mem n1 (a : Int))
    have x2 := B2 _ (Ln.gt_mem n2 (b : Int))
    have l1 : (0 : Int) < ((ns.map V.int).length : Nat) := by
      rw [List.length_map]
      have := List.length_pos_iff.mpr n1
      omega
    have l2 : (0 : Int) < ((ms.map V.int).length : Nat) := by
      rw [List.length_map]
      have := List.length_pos_iff.mpr n2
      omega
    refine ⟨_, (pss_cons (ps_set (i := 5) nd rfl (Or.inl rfl) (pe_lst (pa_cons (pe_op op_xor (pe_ix ix_tup (pv 1) (pv 2) (fun _ _ => rfl)) pe_int) (pa_cons (pe_ix ix_tup (pv 1) (pe_op op_mod (pe_op op_add (pv 2) pe_int) (pe_callB call_len_seq (by rfl) T.zlen (by decide +kernel) (pa_cons (pv 1) pa_nil))) (fun _ _ => rfl)) (pa_cons (pe_op op_xor (pe_ix ix_tup (pv 3) (pv 4) (fun _ _ => rfl)) pe_int) (pa_cons (pe_ix ix_tup (pv 3) (pe_op op_mod (pe_op op_add (pv 4) pe_int) (pe_callB call_len_seq (by rfl) T.zlen (by decide +kernel) (pa_cons (pv 3) pa_nil))) (fun _ _ => rfl)) pa_nil))))))
    (pss_cons (ps_if (pt_cmpR op_lt (pe_lenSetD rfl (by rfl) T.zlen (by rfl) T.zset (pv 5)) pe_int (nomark _))
      (pss_one (ps_ret pe_bl))
      pss_nil)
    (pss_cons (ps_asg (pe_lc (own := [("end", 10)]) (g := gName 10) rfl nd (pi_list (pv 5)) (blkOk_by (own := [("end", 10)]) (N := N_linked_across) (sc := defScope s_linked_across) (by decide +kernel)) (fun _ _ _ _ _ => pg_name (i := 10) nd rfl (Or.inl rfl)) (fun _ _ _ _ _ => pts_nil) (fun _ _ _ _ _ => (pe_ix (ix_tupK (K := K) rfl) (pe_fldK (K := K) rfl (pv 0) rfl) (pv 10) (fun _ _ => rfl)))) (pg_lst rfl (pgs_cons (pg_name (i := 6) nd rfl (Or.inl rfl)) (pgs_cons (pg_name (i := 7) nd rfl (Or.inl rfl)) (pgs_cons (pg_name (i := 8) nd rfl (Or.inl rfl)) (pgs_cons (pg_name (i := 9) nd rfl (Or.inl rfl)) pgs_nil))))))
    (pss_one (ps_ret (pe_call (ok_by_turns T) (hr.mono (by decide)) (by rfl) T.by_turns.g T.by_turns.k T.by_turns.b .nil pass0 (pa_cons (pv 6) (pa_cons (pv 7) (pa_cons (pv 8) (pa_cons (pv 9) pa_nil)))))))))), ?_⟩
    refine ⟨_, rfl, _, rfl, t, _, _, _, rfl, rfl, ht, at_lt la, _, _, rfl, rfl, ?_⟩
    refine ⟨_, rfl, _, rfl, _, _, rfl, rfl, _, rfl, t, _, rfl, .inr ht, _, _, rfl, rfl, l1, t, _, _, _, rfl, rfl, ht, at_gt n1 _, ?_⟩
    refine ⟨_, rfl, _, rfl, u, _, _, _, rfl, rfl, hu, at_lt lb, _, _, rfl, rfl, ?_⟩
    refine ⟨_, rfl, _, rfl, _, _, rfl, rfl, _, rfl, u, _, rfl, .inr hu, _, _, rfl, rfl, l2, u, _, _, _, rfl, rfl, hu, at_gt n2 _, ?_⟩
    refine nil_i ⟨(by show 4 ≤ sizeLine; decide), fun l hl => ?_⟩
    dsimp only
    rw [xor_mate x1.1 x1.2, xor_mate x2.1 x2.2]
    have s1 := same_new (o := .lst ((endsL ns (a : Int) ms (b : Int)).map V.int)) hl
    have el : (upd H l (.lst ((endsL ns (a : Int) ms (b : Int)).map V.int))) l = some (.lst ((endsL ns (a : Int) ms (b : Int)).map V.int)) := upd_same
    have lge : (endsL ns (a : Int) ms (b : Int)).length = 4 := rfl
    have inr : ∀ x ∈ endsL ns (a : Int) ms (b : Int), x ∈ row := fun x hx => by
      simp only [endsL, List.mem_cons, List.not_mem_nil, or_false] at hx
      rcases hx with rfl | rfl | rfl | rfl
      · exact mateRow pm (rn.m _ (Ln.gt_mem n1 _))
      · exact rn.m _ (Ln.gt_mem n1 _)
      · exact mateRow pm (rm.m _ (Ln.gt_mem n2 _))
      · exact rm.m _ (Ln.gt_mem n2 _)
    refine sqn ⟨_, rfl, l, endsL ns (a : Int) ms (b : Int), rfl, SqL.of el, (by rw [lge]; decide), _, _, rfl, rfl, _, rfl, ite2 (fun c => ?_) (fun c => ?_)⟩
    · have c' : ((dst (endsL ns (a : Int) ms (b : Int)) : Nat) : Int) < 4 := by simpa using c
      have q := k _ s1
      have e : acr row ns ms (a : Int) (b : Int) = false := by
        unfold acr
        rw [decide_eq_false (fun z => by rw [dst_all z, lge] at c'; omega), Bool.false_and]
      rw [e] at q
      exact q
    · have c' : ¬ ((dst (endsL ns (a : Int) ms (b : Int)) : Nat) : Int) < 4 := by simpa using c
      have ndp : (endsL ns (a : Int) ms (b : Int)).Nodup := Classical.byContradiction fun z => c' (by
        have := dst_less z
        rw [lge] at this
        omega)
      obtain ⟨dx, r, q, a1, a2, a3⟩ := sk
      dsimp only [tNext]
      refine sqn ⟨_, rfl, l, rfl, ⟨_, SqL.of el⟩, fun D1 hD1 => ?_⟩
      have elA : ∀ {H' : Hp}, Same (upd H l (.lst ((endsL ns (a : Int) ms (b : Int)).map V.int))) H' → SqL K H' l ((endsL ns (a : Int) ms (b : Int)).map V.int) := fun s => SqL.of (s _ _ el)
      refine lc_list (K := K) (a := l) (xs := (endsL ns (a : Int) ms (b : Int)).map V.int) (fun i H' => H' D1 = some (.lst (((endsL ns (a : Int) ms (b : Int)).take i).map fun e => V.int (Ln.pl row e))) ∧ Same (upd H l (.lst ((endsL ns (a : Int) ms (b : Int)).map V.int))) H')
        ⟨upd_same, same_new hD1⟩ (fun i H' _ z => elA z.2) ?_ ?_
      · rintro i x H' hx ⟨h1, s2⟩
        obtain ⟨y, rfl, hy⟩ := ints_at hx
        have s02 := s1.trans s2
        refine ⟨rfl, yes_t ⟨_, rfl, p, T.Skin.C, dx, _, _, rfl, s02 _ _ a1, T.Skin.c, nPlaces T, skF_places .., _, rfl, q, _, _, _, rfl, rfl, (FzT.same a3 s02).sq, at_pl pm (inr y (List.mem_of_getElem? hy)), ?_⟩⟩
        refine ⟨_, h1, ?_, ?_, fun b o hb => ?_⟩
        · rw [List.length_map, List.length_take]
          exact small1000 (by rw [lge]; omega)
        · rw [upd_same, List.take_add_one, hy, List.map_append]
          rfl
        · rw [upd_ne (ne_of_none hb hD1)]
          exact s2 b o hb
      · rintro H' ⟨h1, s2⟩
        have e4 : (endsL ns (a : Int) ms (b : Int)).take ((endsL ns (a : Int) ms (b : Int)).map V.int).length = endsL ns (a : Int) ms (b : Int) := by
          rw [List.length_map, List.take_length]
        rw [e4] at h1
        refine ⟨D1, _, rfl, SqL.of h1, rfl, _, _, rfl, _, _, rfl, _, _, rfl, _, _, rfl, rfl, ?_⟩
        refine ⟨_, rfl, _, rfl, _, rfl, _, rfl, _, _, _, _, rfl, ?_⟩
        have q := k _ (s1.trans s2)
        unfold acr at q
        rw [decide_eq_true ndp, Bool.true_and] at q
        exact q
end
end Tt
set_option maxRecDepth 100000
set_option maxHeartbeats 4000000
namespace Tt
open PySem L2 Bt
section
variable {P : Program} {w : World} {K : PySem.W.Frag} {mg : Str → Option Value} {base : Heap}
def optI : Option Int → V
  | none => .non
  | some l => .int l
def spAlongL (T : Txt K mg) : Sp := fun vs H Q _ => ∃ (p : Addr) (row : List Int) (n : Nat) (t u : Addr) (ns ms : List Int) (a b : Nat), vs = [.ref p, .ref t, .int (a : Int), .ref u, .int (b : Int)] ∧ SkAt T H p row ∧ n ≤ 6 ∧ row.Perm (rgI (2 * n)) ∧
  SqT K H t (ns.map V.int) ∧ SqT K H u (ms.map V.int) ∧ Rn row ns ∧ Rn row ms ∧ a < ns.length ∧ b < ms.length ∧ ∀ H', Same H H' → Q (optI (Ln.aln row ns ms (a : Int) (b : Int))) H'
theorem ok_linked_along (T : Txt K mg) : FnOk P w K mg base CX0 4 T.linked_along.a T.linked_along.fd ["skin", "one", "place", "other", "spot"] (spAlongL T) := by
  refine T.linked_along.F.ok sc_linked_along (fun vs H Q E h => ?_) (fun cdv A outer s H vs Q E hr h => ?_)
  · obtain ⟨p, row, n, t, u, ns, ms, a, b, rfl, _⟩ := h
    rfl
  · obtain ⟨p, row, n, t, u, ns, ms, a, b, rfl, sk, n6, pm, ht, hu, rn, rm, la, lb, k⟩ := h
    have nd := sc_linked_along.nd
    have B1 := rn.b n6 pm
    have B2 := rm.b n6 pm
    have n1 := rn.r.1
    have n2 := rm.r.1
    have hw := Ln.wayOf_or (Ln.gt ns (a : Int)) (Ln.gt ms (b : Int))
    refine ⟨_, (pss_cons (ps_if (pt_cmpR op_ne (pe_op op_fdiv (pe_ix ix_tup (pv 1) (pv 2) (fun _ _ => rfl)) pe_int) (pe_op op_fdiv (pe_ix ix_tup (pv 3) (pv 4) (fun _ _ => rfl)) pe_int) (nomark _))
      (pss_one (ps_ret pe_non))
      pss_nil)
    (pss_cons (ps_set (i := 5) nd rfl (Or.inl rfl) (pe_ifExp (pt_cmpR op_eq (pe_ix ix_tup (pv 1) (pv 2) (fun _ _ => rfl)) (pe_ix ix_tup (pv 3) (pv 4) (fun _ _ => rfl)) (nomark _)) pe_int (pe_un un_neg pe_int)))
    (pss_cons (ps_if (pt_cmpR op_eq (pe_call (ok_letter_on T) (hr.mono (by decide)) (by rfl) T.letter_on.g T.letter_on.k T.letter_on.b .nil pass0 (pa_cons (pv 1) (pa_cons (pv 2) (pa_cons pe_int (pa_cons (pe_un un_neg pe_int) pa_nil))))) (pe_call (ok_letter_on T) (hr.mono (by decide)) (by rfl) T.letter_on.g T.letter_on.k T.letter_on.b .nil pass0 (pa_cons (pv 3) (pa_cons (pv 4) (pa_cons (pv 5) (pa_cons (pe_un un_neg pe_int) pa_nil))))) (nomark _))
      (pss_one (ps_ret pe_non))
      pss_nil)
    (pss_cons (ps_asg (pe_call (ok_common_stretch T) (hr.mono (by decide)) (by rfl) T.common_stretch.g T.common_stretch.k T.common_stretch.b .nil pass0 (pa_cons (pv 0) (pa_cons (pv 1) (pa_cons (pv 2) (pa_cons (pv 3) (pa_cons (pv 4) pa_nil)))))) (pg_tup rfl (pgs_cons (pg_name (i := 6) nd rfl (Or.inl rfl)) (pgs_cons (pg_name (i := 7) nd rfl (Or.inl rfl)) (pgs_cons (pg_name (i := 8) nd rfl (Or.inl rfl)) pgs_nil)))))
    (pss_one (ps_ret (pe_ifExp (pt_val (pv 8)) (pv 7) pe_non))))))), ?_⟩
    refine ⟨_, rfl, _, rfl, t, _, _, _, rfl, rfl, ht, at_lt la, _, _, rfl, rfl, ⟨by decide, by decide⟩, ?_⟩
    refine ⟨_, rfl, _, rfl, u, _, _, _, rfl, rfl, hu, at_lt lb, _, _, rfl, rfl, ⟨by decide, by decide⟩, rfl, _, rfl, ite2 (fun c => ?_) (fun c => ?_)⟩
    · have c' : ¬ Ln.gt ns (a : Int) / 2 = Ln.gt ms (b : Int) / 2 := by simpa using c
      have q := k H (fun _ _ z => z)
      rw [Ln.aln, if_neg (fun z => c' z.1)] at q
      exact q
    have hb : Ln.gt ns (a : Int) / 2 = Ln.gt ms (b : Int) / 2 := by simpa using c
    dsimp only [tNext]
    refine sqn (asn (tIf_r (fun v H' => H' = H ∧ v = .int (Ln.wayOf (Ln.gt ns (a : Int)) (Ln.gt ms (b : Int)))) (fun f => ?_) ?_))
    · refine ⟨_, rfl, _, rfl, t, _, _, _, rfl, rfl, ht, at_lt la, ?_⟩
      refine ⟨_, rfl, _, rfl, u, _, _, _, rfl, rfl, hu, at_lt lb, rfl, _, rfl, ite2 (fun c => f _ _ ⟨rfl, ?_⟩) (fun c => ⟨1, rfl, f _ _ ⟨rfl, ?_⟩⟩)⟩
      · have c' : Ln.gt ns (a : Int) = Ln.gt ms (b : Int) := by simpa using c
        rw [Ln.wayOf, if_pos c']
      · have c' : ¬ Ln.gt ns (a : Int) = Ln.gt ms (b : Int) := by simpa using c
        rw [Ln.wayOf, if_neg c']
    rintro v H' ⟨rfl, rfl⟩
    refine sqn ⟨_, rfl, _, rfl, _, rfl, t, ns, a, 1, -1, rfl, ht, n1, B1, .inl rfl, ?_⟩
    refine ⟨_, rfl, _, rfl, _, rfl, _, rfl, u, ms, b, Ln.wayOf (Ln.gt ns (a : Int)) (Ln.gt ms (b : Int)), -1, rfl, hu, n2, B2, hw, rfl, _, rfl, ite2 (fun c => ?_) (fun c => ?_)⟩
    · have c' : Ln.lon ns (a : Int) 1 (-1) = Ln.lon ms (b : Int) (Ln.wayOf (Ln.gt ns (a : Int)) (Ln.gt ms (b : Int))) (-1) := by simpa using c
      have q := k _ (fun _ _ z => z)
      rw [Ln.aln, if_neg (fun z => z.2 c')] at q
      exact q
    have c' : ¬ Ln.lon ns (a : Int) 1 (-1) = Ln.lon ms (b : Int) (Ln.wayOf (Ln.gt ns (a : Int)) (Ln.gt ms (b : Int))) (-1) := by simpa using c
    have fst : Ln.isFst ns ms (a : Int) (b : Int) := ⟨hb, c'⟩
    obtain ⟨o, z, _, ez⟩ := Ln.pst_fst (row := row) n1 n2 fst
    dsimp only [tNext]
    refine sqn ⟨_, rfl, _, rfl, _, rfl, _, rfl, _, rfl, p, row, n, t, u, ns, ms, a, b, rfl, sk, n6, pm, ht, hu, rn, rm, la, lb, fun v H1 s1 sv => ?_⟩
    rw [ez] at sv
    obtain ⟨q, rfl, eq⟩ := sv
    refine ⟨q, _, rfl, SqT.of eq, rfl, _, _, rfl, _, _, rfl, _, _, rfl, rfl, ?_⟩
    have g := k H1 s1
    rw [Ln.aln, if_pos fst, ez] at g
    refine ⟨_, rfl, _, rfl, ?_⟩
    cases z with
    | true => exact ⟨_, rfl, g⟩
    | false => exact g
end
end Tt
set_option maxRecDepth 100000
set_option maxHeartbeats 4000000
namespace Tt
open PySem L2 Bt
section
variable {P : Program} {w : World} {K : PySem.W.Frag} {mg : Str → Option Value} {base : Heap}
def alnL (a b : Nat) : Option Int → List (List Int)
  | some l => [[(a : Int), (b : Int), l]]
  | none => []
def pairAt (row ns ms : List Int) (a b : Nat) : List (List Int) := (if acr row ns ms (a : Int) (b : Int) = true then [[(a : Int), (b : Int), 0]] else []) ++ alnL a b (Ln.aln row ns ms (a : Int) (b : Int))
def pairRow (row ns ms : List Int) (a m : Nat) : List (List Int) := (List.range m).flatMap (pairAt row ns ms a)
def pairsL (row ns ms : List Int) (n : Nat) : List (List Int) := (List.range n).flatMap fun a => pairRow row ns ms a ms.length
theorem pairRow_succ (row ns ms : List Int) (a m : Nat) : pairRow row ns ms a (m + 1) = pairRow row ns ms a m ++ pairAt row ns ms a m := by
  unfold pairRow
  rw [List.range_succ, List.flatMap_append]
  simp
theorem pairsL_succ (row ns ms : List Int) (n : Nat) : pairsL row ns ms (n + 1) = pairsL row ns ms n ++ pairRow row ns ms n ms.length := by
  unfold pairsL
  rw [List.range_succ, List.flatMap_append]
  simp
theorem pairAt_ne {row ns ms : List Int} {a b : Nat} {x : List Int} (h : x ∈ pairAt row ns ms a b) : ∃ l, x = [(a : Int), (b : Int), l] := by
  unfold pairAt at h
  rcases List.mem_append.mp h with h | h
  · split at h
    · exact ⟨0, List.mem_singleton.mp h⟩
    · cases h
  · cases e : Ln.aln row ns ms (a : Int) (b : Int) with
    | none =>
      rw [e] at h
      cases h
    | some l =>
      rw [e] at h
      exact ⟨l, List.mem_singleton.mp h⟩
theorem pairs_ne {row ns ms : List Int} {n : Nat} {x : List Int} (h : x ∈ pairsL row ns ms n) : x ≠ [] := by
  unfold pairsL pairRow at h
  obtain ⟨a, _, h⟩ := List.mem_flatMap.mp h
  obtain ⟨b, _, h⟩ := List.mem_flatMap.mp h
  obtain ⟨l, e⟩ := pairAt_ne h
  rw [e]
  exact fun z => nomatch z
theorem same_none {H H' : Hp} {b : Addr} (s : Same H H') (h : H' b = none) : H b = none := by
  cases e : H b with
  | none => rfl
  | some o =>
    rw [s _ _ e] at h
    cases h
structure TL (H : Hp) (f : Addr) (qs : List (Addr × List Int)) : Prop where
  l : H f = some (.lst (qs.map fun q => V.ref q.1))
  t : ∀ q ∈ qs, H q.1 = some (.tup (q.2.map V.int))
theorem TL.same {H H' : Hp} {f : Addr} {qs : List (Addr × List Int)} (h : TL H f qs) (s : Same H H') : TL H' f qs := ⟨s _ _ h.l, fun q hq => s _ _ (h.t q hq)⟩
theorem TL.put {H : Hp} {f z : Addr} {qs : List (Addr × List Int)} {ns : List Int} (h : TL H f qs) (hz : H z = none) : TL (upd (upd H z (.tup (ns.map V.int))) f (.lst ((qs.map fun q => V.ref q.1) ++ [.ref z]))) f (qs ++ [(z, ns)]) := by
  have nf : z ≠ f := fun e => by
    subst e
    rw [h.l] at hz
    cases hz
  refine ⟨by rw [upd_same, List.map_append]; rfl, fun q hq => ?_⟩
  have nq : ∀ {b : Addr} {xs : List V}, H b = some (.tup xs) → b ≠ f := fun {b xs} hb e => by
    subst e
    rw [h.l] at hb
    cases hb
  rcases List.mem_append.mp hq with hq | hq
  · have e := h.t q hq
    rw [upd_ne (nq e), upd_ne (ne_of_none e hz)]
    exact e
  · rw [List.mem_singleton.mp hq]
    show (upd (upd H z _) f _) z = _
    rw [upd_ne nf, upd_same]
theorem sq_r {a b : TS} {D : Ends} {σ : L2.St} {H : Hp} (J : L2.St → Hp → Prop) (m : (∀ σ H', J σ H' → b D σ H') → a { D with nx := b D } σ H) (r : ∀ σ H', J σ H' → b D σ H') : tSeq a b D σ H := m r
def spPairs (T : Txt K mg) : Sp := fun vs H Q _ => ∃ (p : Addr) (row : List Int) (n : Nat) (t u : Addr) (ns ms : List Int), vs = [.ref p, .ref t, .ref u] ∧ SkAt T H p row ∧ n ≤ 6 ∧ row.Perm (rgI (2 * n)) ∧
  SqT K H t (ns.map V.int) ∧ SqT K H u (ms.map V.int) ∧ Rn row ns ∧ Rn row ms ∧
  ∀ (L : List (Addr × List Int)) l H', H l = none → Same H H' → TL H' l L → (L.map (·.2)).Perm (pairsL row ns ms ns.length) → L.Pairwise (fun x y => x.2 ≤ y.2) → Q (.ref l) H'
theorem ok_pairs_of (T : Txt K mg) : FnOk P w K mg base CX0 5 T.pairs_of.a T.pairs_of.fd ["skin", "one", "other"] (spPairs T) := by
  refine T.pairs_of.F.ok sc_pairs_of (fun vs H Q E h => ?_) (fun cdv A outer s H vs Q E hr h => ?_)
  · obtain ⟨p, row, n, t, u, ns, ms, rfl, _⟩ := h
    rfl
  · obtain ⟨p, row, n, t, u, ns, ms, rfl, sk, n6, pm, ht, hu, rn, rm, k⟩ := h
    have nd := sc_pairs_of.nd
    refine ⟨_, (pss_cons (ps_set (i := 3) nd rfl (Or.inl rfl) (pe_lst pa_nil))
    (pss_cons (ps_for PassesOwn.never rfl (pi_range1 rfl T.zrange (pa_cons (pe_callB call_len_seq (by rfl) T.zlen (by decide +kernel) (pa_cons (pv 1) pa_nil)) pa_nil)) (pg_name (i := 4) nd rfl (Or.inl rfl))
      (pss_one (ps_for PassesOwn.never rfl (pi_range1 rfl T.zrange (pa_cons (pe_callB call_len_seq (by rfl) T.zlen (by decide +kernel) (pa_cons (pv 2) pa_nil)) pa_nil)) (pg_name (i := 5) nd rfl (Or.inl rfl))
        (pss_cons (ps_if (pt_val (pe_call (ok_linked_across T) (hr.mono (by decide)) (by rfl) T.linked_across.g T.linked_across.k T.linked_across.b .nil pass0 (pa_cons (pv 0) (pa_cons (pv 1) (pa_cons (pv 4) (pa_cons (pv 2) (pa_cons (pv 5) pa_nil)))))))
          (pss_one (ps_expr (pe_bm PySem.F.plainAttrs_list PySem.F.slot_list_append PySem.F.type_list_append mt_append (pv 3) (pa_cons (pe_tup (pa_cons (pv 4) (pa_cons (pv 5) (pa_cons pe_int pa_nil)))) pa_nil))))
          pss_nil)
        (pss_cons (ps_set (i := 6) nd rfl (Or.inl rfl) (pe_call (ok_linked_along T) (hr.mono (by decide)) (by rfl) T.linked_along.g T.linked_along.k T.linked_along.b .nil pass0 (pa_cons (pv 0) (pa_cons (pv 1) (pa_cons (pv 4) (pa_cons (pv 2) (pa_cons (pv 5) pa_nil)))))))
        (pss_one (ps_if (pt_cmpR op_notN (pv 6) pe_non (nomark _))
          (pss_one (ps_expr (pe_bm PySem.F.plainAttrs_list PySem.F.slot_list_append PySem.F.type_list_append mt_append (pv 3) (pa_cons (pe_tup (pa_cons (pv 4) (pa_cons (pv 5) (pa_cons (pv 6) pa_nil)))) pa_nil))))
          pss_nil)))))))
    (pss_one (ps_ret (pe_callB (cr_sortedTW hr.units) (by rfl) T.zsorted (by decide +kernel) (pa_cons (pv 3) pa_nil)))))), ?_⟩
    refine ⟨(by show 0 ≤ sizeLine; decide), fun f hf => ?_⟩
    have n0 := same_new (o := .lst []) hf
    have g0 : TL (upd H f (.lst [])) f [] := ⟨upd_same, fun q hq => (by cases hq)⟩
    have lns := rn.l
    have lms := rm.l
    refine sqn ⟨_, rfl, t, _, rfl, .inr (same_seqT n0 ht), _, rfl, by omega, by rw [List.length_map]; omega, ?_⟩
    refine for_range (lo := 0) (n := (((ns.map V.int).length : Nat) : Int).toNat) (fun i σ H' => ∃ v4 v5 v6 qs, σ = [some (.ref p), some (.ref t), some (.ref u), some (.ref f), v4, v5, v6] ∧ Same H H' ∧ TL H' f qs ∧ qs.map (·.2) = pairsL row ns ms i ∧ qs.length ≤ i * 80)
      ⟨none, none, none, [], rfl, n0, g0, rfl, Nat.zero_le _⟩ ?_ ?_
    · rintro i σ H1 hi ⟨v4, v5, v6, qs, rfl, s1, g1, eq1, l1⟩
      have hi' : i < ns.length := by rw [List.length_map] at hi; omega
      rw [Int.zero_add]
      refine ⟨_, rfl, u, _, rfl, .inr (same_seqT s1 hu), _, rfl, by omega, by rw [List.length_map]; omega, ?_⟩
      refine for_range (lo := 0) (n := (((ms.map V.int).length : Nat) : Int).toNat) (fun j σ H' => ∃ v5 v6 qs, σ = [some (.ref p), some (.ref t), some (.ref u), some (.ref f), some (.int (i : Int)), v5, v6] ∧ Same H H' ∧ TL H' f qs ∧ qs.map (·.2) = pairsL row ns ms i ++ pairRow row ns ms i j ∧ qs.length ≤ i * 80 + j * 2)
        ⟨v5, v6, qs, rfl, s1, g1, by rw [eq1]; simp [pairRow], by omega⟩ ?_ ?_
      · rintro j σ H2 hj ⟨w5, w6, rs, rfl, s2, g2, eq2, l2⟩
        have hj' : j < ms.length := by rw [List.length_map] at hj; omega
        have sl : 8192 ≤ sizeLine := by decide
        have l3 : rs.length ≤ 3200 := by
          have : i * 80 ≤ 39 * 80 := Nat.mul_le_mul_right _ (by omega)
          omega
        rw [Int.zero_add]
        have lk : ∀ {H3 : Hp} {z : Addr} {qs : List (Addr × List Int)} {xs : List Int}, TL H3 f qs → H3 z = none → Same H H3 → Same H (upd (upd H3 z (.tup (xs.map V.int))) f (.lst ((qs.map fun q => V.ref q.1) ++ [.ref z]))) := fun g hz s b o hb => by
          rw [upd_ne (ne_of_none hb hf), upd_ne (ne_of_none (s b o hb) hz)]
          exact s b o hb
        refine sq_r (fun σ H' => ∃ qs, σ = [some (.ref p), some (.ref t), some (.ref u), some (.ref f), some (.int (i : Int)), some (.int (j : Int)), w6] ∧ Same H H' ∧ TL H' f qs ∧ qs.map (·.2) = pairsL row ns ms i ++ pairRow row ns ms i j ++ (if acr row ns ms (i : Int) (j : Int) = true then [[(i : Int), (j : Int), 0]] else []) ∧ qs.length ≤ rs.length + 1) (fun kk => ?_) ?_
        · refine ⟨_, rfl, _, rfl, _, rfl, _, rfl, _, rfl, p, row, n, t, u, ns, ms, i, j, rfl, sk.same s2, n6, pm, same_seqT s2 ht, same_seqT s2 hu, rn, rm, hi', hj', fun H3 s3 => ⟨_, rfl, ite2 (fun c => ?_) (fun c => ?_)⟩⟩
          · have g3 := g2.same s3
            refine ⟨_, rfl, .inl ⟨rfl, _, SqL.of g3.l⟩, _, rfl, _, rfl, (by show 3 ≤ sizeLine; decide), fun z hz => ?_⟩
            refine nil_i ⟨f, _, _, rfl, rfl, same_new hz _ _ g3.l, by rw [List.length_map]; omega, kk _ _ ⟨rs ++ [(z, [(i : Int), (j : Int), 0])], rfl, lk (xs := [(i : Int), (j : Int), 0]) g3 hz (s2.trans s3), TL.put (ns := [(i : Int), (j : Int), 0]) g3 hz, ?_, by simp⟩⟩
            rw [if_pos c, List.map_append, eq2]
            rfl
          · refine kk _ _ ⟨rs, rfl, s2.trans s3, g2.same s3, ?_, by omega⟩
            rw [if_neg (by simpa using c), eq2, List.append_nil]
        · rintro σ H3 ⟨qs, rfl, s3, g3, eq3, l4⟩
          refine sqn ⟨_, rfl, _, rfl, _, rfl, _, rfl, _, rfl, p, row, n, t, u, ns, ms, i, j, rfl, sk.same s3, n6, pm, same_seqT s3 ht, same_seqT s3 hu, rn, rm, hi', hj', fun H4 s4 => ?_⟩
          have g4 := g3.same s4
          have e4 : pairsL row ns ms i ++ pairRow row ns ms i (j + 1) = qs.map (·.2) ++ alnL i j (Ln.aln row ns ms (i : Int) (j : Int)) := by
            rw [pairRow_succ, eq3]
            unfold pairAt
            simp only [List.append_assoc]
          cases e : Ln.aln row ns ms (i : Int) (j : Int) with
          | none =>
            rw [e] at e4
            refine ⟨_, rfl, rfl, _, rfl, ite2 (fun c => absurd c (by simp [optI])) (fun _ => ?_)⟩
            refine ⟨_, _, qs, rfl, s3.trans s4, g4, ?_, by omega⟩
            rw [e4]
            simp [alnL]
          | some l =>
            rw [e] at e4
            refine ⟨_, rfl, rfl, _, rfl, ite2 (fun _ => ?_) (fun c => absurd (by simp [optI]) c)⟩
            refine ⟨_, rfl, .inl ⟨rfl, _, SqL.of g4.l⟩, _, rfl, _, rfl, _, rfl, (by show 3 ≤ sizeLine; decide), fun z hz => ?_⟩
            refine nil_i ⟨f, _, _, rfl, rfl, same_new hz _ _ g4.l, by rw [List.length_map]; omega, ?_⟩
            refine ⟨_, _, qs ++ [(z, [(i : Int), (j : Int), l])], rfl, lk (xs := [(i : Int), (j : Int), l]) g4 hz (s3.trans s4), TL.put (ns := [(i : Int), (j : Int), l]) g4 hz, ?_, by rw [List.length_append]; show _ + 1 ≤ _; omega⟩
            rw [e4, List.map_append]
            rfl
      · rintro σ H2 ⟨w5, w6, rs, rfl, s2, g2, eq2, l2⟩
        refine ⟨_, _, _, rs, rfl, s2, g2, ?_, ?_⟩
        · rw [eq2, List.length_map]
          exact (pairsL_succ row ns ms i).symm
        · rw [List.length_map] at l2
          have : (((ms.length : Nat) : Int).toNat) = ms.length := by omega
          rw [this] at l2
          omega
    · rintro σ H1 ⟨v4, v5, v6, qs, rfl, s1, g1, eq1, l1⟩
      rw [List.length_map] at eq1
      have e2 : (((ns.length : Nat) : Int).toNat) = ns.length := by omega
      rw [e2] at eq1
      have ne : ∀ b ∈ qs, b.2 ≠ [] := fun b hb => by
        have : b.2 ∈ pairsL row ns ms ns.length := by
          rw [← eq1]
          exact List.mem_map_of_mem hb
        exact pairs_ne this
      refine ⟨_, rfl, f, qs, rfl, SqL.of g1.l, fun b hb => ⟨ne b hb, SqT.of (g1.t b hb)⟩, fun L l pm pw hl => ?_⟩
      have nn := same_new (o := .lst (L.map fun b => V.ref b.1)) hl
      refine k L l _ (same_none s1 hl) (s1.trans nn) ⟨upd_same, fun q hq => nn _ _ (g1.t q (pm.mem_iff.mp hq))⟩ ?_ pw
      rw [← eq1]
      exact pm.map _
end
end Tt
set_option maxRecDepth 100000
set_option maxHeartbeats 4000000
namespace Tt
open PySem L2 Bt
section
variable {P : Program} {w : World} {K : PySem.W.Frag} {mg : Str → Option Value} {base : Heap}
def tkl (ns : List Int) : List Int → List Int
  | [a, b, l] => if l = 0 ∨ Ln.gt ns a = Ln.gt ns b then [b, a, l] else [(b - l + 1) % (ns.length : Int), (a + l - 1) % (ns.length : Int), l]
  | x => x
theorem tkl_3 (ns : List Int) (a b l : Int) : tkl ns [a, b, l] = if l = 0 ∨ Ln.gt ns a = Ln.gt ns b then [b, a, l] else [(b - l + 1) % (ns.length : Int), (a + l - 1) % (ns.length : Int), l] := rfl
def spTaken (K : PySem.W.Frag) : Sp := fun vs H Q _ => ∃ (t z : Addr) (ns : List Int) (a b : Nat) (l : Int), vs = [.ref t, .ref z] ∧ SqT K H t (ns.map V.int) ∧ SqT K H z [.int (a : Int), .int (b : Int), .int l] ∧ a < ns.length ∧ b < ns.length ∧
  ∀ q H', H q = none → Same H H' → H' q = some (.tup ((tkl ns [(a : Int), (b : Int), l]).map V.int)) → Q (.ref q) H'
theorem ok_taken_otherwise (T : Txt K mg) : FnOk P w K mg base CX0 1 T.taken_otherwise.a T.taken_otherwise.fd ["loop", "pair"] (spTaken K) := by
  refine T.taken_otherwise.F.ok sc_taken_otherwise (fun vs H Q E h => ?_) (fun cdv A outer s H vs Q E hr h => ?_)
  · obtain ⟨t, z, ns, a, b, l, rfl, _⟩ := h
    rfl
  · obtain ⟨t, z, ns, a, b, l, rfl, ht, hz, la, lb, k⟩ := h
    have nd := sc_taken_otherwise.nd
    refine ⟨_, (pss_cons (ps_asg (pv 1) (pg_tup rfl (pgs_cons (pg_name (i := 2) nd rfl (Or.inl rfl)) (pgs_cons (pg_name (i := 3) nd rfl (Or.inl rfl)) (pgs_cons (pg_name (i := 4) nd rfl (Or.inl rfl)) pgs_nil)))))
    (pss_cons (ps_if (PW.pt (pw_or (pt_cmpR op_eq (pv 4) pe_int (nomark _)) (pw_or1 (pt_cmpR op_eq (pe_ix ix_tup (pv 0) (pv 2) (fun _ _ => rfl)) (pe_ix ix_tup (pv 0) (pv 3) (fun _ _ => rfl)) (nomark _)))))
      (pss_one (ps_ret (pe_tup (pa_cons (pv 3) (pa_cons (pv 2) (pa_cons (pv 4) pa_nil))))))
      pss_nil)
    (pss_one (ps_ret (pe_tup (pa_cons (pe_op op_mod (pe_op op_add (pe_op op_sub (pv 3) (pv 4)) pe_int) (pe_callB call_len_seq (by rfl) T.zlen (by decide +kernel) (pa_cons (pv 0) pa_nil))) (pa_cons (pe_op op_mod (pe_op op_sub (pe_op op_add (pv 2) (pv 4)) pe_int) (pe_callB call_len_seq (by rfl) T.zlen (by decide +kernel) (pa_cons (pv 0) pa_nil))) (pa_cons (pv 4) pa_nil)))))))), ?_⟩
    refine ⟨_, rfl, z, _, rfl, hz, rfl, _, _, rfl, _, _, rfl, _, _, rfl, rfl, ?_⟩
    have ne : ns ≠ [] := fun z => by
      subst z
      cases la
    have l1 : (0 : Int) < ((ns.map V.int).length : Nat) := by
      rw [List.length_map]
      omega
    have yes : l = 0 ∨ Ln.gt ns (a : Int) = Ln.gt ns (b : Int) → ∀ q, H q = none → Q (.ref q) (upd H q (.tup [.int (b : Int), .int (a : Int), .int l])) := fun c q hq => by
      refine k q _ hq (same_new hq) ?_
      rw [upd_same]
      rw [tkl_3, if_pos c]
      rfl
    refine sqn ⟨_, rfl, rfl, _, rfl, ite2 (fun c => ?_) (fun c => ?_)⟩
    · have c' : l = 0 := by simpa using c
      refine iteT ⟨_, rfl, _, rfl, _, rfl, (by show 3 ≤ sizeLine; decide), fun q hq => yes (.inl c') q hq⟩
    · have c' : ¬ l = 0 := by simpa using c
      refine ⟨_, rfl, _, rfl, t, _, _, _, rfl, rfl, ht, at_lt la, ?_⟩
      refine ⟨_, rfl, _, rfl, t, _, _, _, rfl, rfl, ht, at_lt lb, rfl, _, rfl, ite2 (fun d => ?_) (fun d => ?_)⟩
      · have d' : Ln.gt ns (a : Int) = Ln.gt ns (b : Int) := by simpa using d
        exact ⟨_, rfl, _, rfl, _, rfl, (by show 3 ≤ sizeLine; decide), fun q hq => yes (.inr d') q hq⟩
      · have d' : ¬ Ln.gt ns (a : Int) = Ln.gt ns (b : Int) := by simpa using d
        dsimp only [tNext]
        refine ⟨_, rfl, _, rfl, _, _, rfl, rfl, _, _, rfl, rfl, _, rfl, t, _, rfl, .inr ht, _, _, rfl, rfl, l1, ?_⟩
        refine ⟨_, rfl, _, rfl, _, _, rfl, rfl, _, _, rfl, rfl, _, rfl, t, _, rfl, .inr ht, _, _, rfl, rfl, l1, ?_⟩
        refine ⟨_, rfl, (by show 3 ≤ sizeLine; decide), fun q hq => ?_⟩
        refine k q _ hq (same_new hq) ?_
        rw [upd_same]
        rw [tkl_3, if_neg (fun z => z.elim c' d'), List.length_map]
        rfl
def leastOf (ns y : List Int) : List Int := if tkl ns y < y then tkl ns y else y
theorem leastOf_ne (ns : List Int) (a b l : Int) : leastOf ns [a, b, l] ≠ [] := by
  have h : tkl ns [a, b, l] ≠ [] := by
    rw [tkl_3]
    split <;> exact fun z => nomatch z
  unfold leastOf
  split
  · exact h
  · exact fun z => nomatch z
theorem flatMap_len {α β : Type} (f : α → List β) (c : Nat) : ∀ l : List α, (∀ x ∈ l, (f x).length ≤ c) → (l.flatMap f).length ≤ l.length * c
  | [], _ => by simp
  | x :: l, h => by
    rw [List.flatMap_cons, List.length_append, List.length_cons, Nat.succ_mul]
    have h1 := h x List.mem_cons_self
    have h2 := flatMap_len f c l fun y hy => h y (List.mem_cons_of_mem _ hy)
    omega
theorem pairAt_len (row ns ms : List Int) (a b : Nat) : (pairAt row ns ms a b).length ≤ 2 := by
  unfold pairAt
  rw [List.length_append]
  have h1 : (if acr row ns ms (a : Int) (b : Int) = true then [[(a : Int), (b : Int), 0]] else []).length ≤ 1 := by split <;> simp
  have h2 : (alnL a b (Ln.aln row ns ms (a : Int) (b : Int))).length ≤ 1 := by
    cases Ln.aln row ns ms (a : Int) (b : Int) <;> simp [alnL]
  omega
theorem pairsL_len {row ns ms : List Int} {n : Nat} (hn : n ≤ 40) (hm : ms.length ≤ 40) : (pairsL row ns ms n).length ≤ 3200 := by
  unfold pairsL pairRow
  refine Nat.le_trans (flatMap_len _ 80 _ fun a _ => Nat.le_trans (flatMap_len _ 2 _ fun b _ => pairAt_len row ns ms a b) ?_) ?_
  · rw [List.length_range]
    omega
  · rw [List.length_range]
    omega
theorem pairs_at {row ns ms : List Int} {n : Nat} {x : List Int} (h : x ∈ pairsL row ns ms n) : ∃ (a b : Nat) (l : Int), x = [(a : Int), (b : Int), l] ∧ a < n ∧ b < ms.length := by
  unfold pairsL pairRow at h
  obtain ⟨a, ha, h⟩ := List.mem_flatMap.mp h
  obtain ⟨b, hb, h⟩ := List.mem_flatMap.mp h
  obtain ⟨l, e⟩ := pairAt_ne h
  exact ⟨a, b, l, e, List.mem_range.mp ha, List.mem_range.mp hb⟩
def spUOwn (T : Txt K mg) : Sp := fun vs H Q _ => ∃ (p : Addr) (row : List Int) (n : Nat) (t : Addr) (ns : List Int), vs = [.ref p, .ref t] ∧ SkAt T H p row ∧ n ≤ 6 ∧ row.Perm (rgI (2 * n)) ∧ SqT K H t (ns.map V.int) ∧ Rn row ns ∧
  ∀ (L : List (Addr × List Int)) l H', H l = none → Same H H' → TL H' l L → (L.map (·.2)).Nodup → L.Pairwise (fun x y => x.2 ≤ y.2) → (∀ x, x ∈ L.map (·.2) ↔ ∃ y ∈ pairsL row ns ns ns.length, x = leastOf ns y) → Q (.ref l) H'
theorem ok_u_own_pairs (T : Txt K mg) : FnOk P w K mg base CX0 6 T.u_own_pairs.a T.u_own_pairs.fd ["skin", "loop"] (spUOwn T) := by
  refine T.u_own_pairs.F.ok sc_u_own_pairs (fun vs H Q E h => ?_) (fun cdv A outer s H vs Q E hr h => ?_)
  · obtain ⟨p, row, n, t, ns, rfl, _⟩ := h
    rfl
  · obtain ⟨p, row, n, t, ns, rfl, sk, n6, pm, ht, rn, k⟩ := h
    have nd := sc_u_own_pairs.nd
    refine ⟨_, (pss_cons (ps_set (i := 2) nd rfl (Or.inl rfl) (pe_callTy0 cr_big0 (by rfl) T.zset (by decide +kernel)))
    (pss_cons (ps_for PassesOwn.never rfl (pi_list (pe_call (ok_pairs_of T) (hr.mono (by decide)) (by rfl) T.pairs_of.g T.pairs_of.k T.pairs_of.b .nil pass0 (pa_cons (pv 0) (pa_cons (pv 1) (pa_cons (pv 1) pa_nil))))) (pg_name (i := 3) nd rfl (Or.inl rfl))
      (pss_one (ps_expr (pe_badd hr.units (pv 2) (pa_cons (pe_callB (cr_least2 rfl hr.units) (by rfl) T.zmin (by decide +kernel) (pa_cons (pv 3) (pa_cons (pe_call (ok_taken_otherwise T) (hr.mono (by decide)) (by rfl) T.taken_otherwise.g T.taken_otherwise.k T.taken_otherwise.b .nil pass0 (pa_cons (pv 1) (pa_cons (pv 3) pa_nil))) pa_nil))) pa_nil)))))
    (pss_one (ps_ret (pe_callB (cr_bsorted rfl hr.units) (by rfl) T.zsorted (by decide +kernel) (pa_cons (pv 2) pa_nil)))))), ?_⟩
    refine ⟨rfl, fun f hf => ?_⟩
    have s0 := same_new (o := BigO P w f []) hf
    refine sqn ⟨_, rfl, _, rfl, _, rfl, p, row, n, t, t, ns, ns, rfl, sk.same s0, n6, pm, same_seqT s0 ht, same_seqT s0 ht, rn, rn, fun L l H1 hl s1 g1 pl pw => ?_⟩
    have ff : (upd H f (BigO P w f [])) f = some (BigO P w f []) := upd_same
    have f1 : H1 f = some (BigO P w f []) := s1 _ _ ff
    have lf : l ≠ f := ne_of g1.l f1 (fun z => nomatch z)
    have nf : ∀ q ∈ L, q.1 ≠ f := fun q hq => ne_of (g1.t q hq) f1 (fun z => nomatch z)
    have len : L.length ≤ 3200 := by
      have h1 := pl.length_eq
      have h2 := pairsL_len (row := row) (ns := ns) (n := ns.length) rn.l rn.l
      rw [List.length_map] at h1
      omega
    have back : ∀ {H' : Hp}, (∀ b o, H1 b = some o → b ≠ f → H' b = some o) → Same H H' := fun k b o hb => k b o (s1 _ _ (s0 _ _ hb)) (ne_of_none hb hf)
    refine ⟨l, rfl, ⟨_, SqL.of g1.l⟩, ?_⟩
    refine for_list (K := K) (a := l) (xs := L.map fun q => V.ref q.1) (fun i σ H' => ∃ v3 M, σ = [some (.ref p), some (.ref t), some (.ref f), v3] ∧ (∀ b o, H1 b = some o → b ≠ f → H' b = some o) ∧ H' f = some (BigO P w f M) ∧ (∀ q ∈ M, H' q.1 = some (.tup (q.2.map V.int))) ∧
        (∀ x, x ∈ M.map (·.2) ↔ ∃ y ∈ (L.take i).map (·.2), x = leastOf ns y) ∧ M.length ≤ i)
      ⟨none, [], rfl, fun _ _ h _ => h, f1, fun q hq => (by cases hq), fun x => by simp, Nat.le_refl _⟩ (fun i σ H' _ h => by
        obtain ⟨_, _, _, k1, _⟩ := h
        exact SqL.of (k1 _ _ g1.l lf)) ?_ ?_
    · rintro i x σ H2 hx ⟨v3, M, rfl, k2, f2, m2, mem2, len2⟩
      have hi := (List.getElem?_eq_some_iff.mp hx).1
      rw [List.length_map] at hi
      obtain ⟨q, hq⟩ : ∃ q, L[i]? = some q := ⟨_, List.getElem?_eq_getElem hi⟩
      rw [List.getElem?_map, hq] at hx
      obtain rfl : V.ref q.1 = x := Option.some.inj hx
      have qm : q ∈ L := List.mem_of_getElem? hq
      obtain ⟨a, b, l', eq, la, lb⟩ := pairs_at (pl.mem_iff.mp (List.mem_map_of_mem (f := (·.2)) qm))
      have tq : H2 q.1 = some (.tup (q.2.map V.int)) := k2 _ _ (g1.t q qm) (nf q qm)
      rw [eq] at tq
      have sb := back k2
      refine ⟨_, rfl, ⟨f, M, rfl, f2⟩, _, rfl, _, rfl, _, rfl, t, q.1, ns, a, b, l', rfl, same_seqT sb ht, SqT.of tq, la, lb, fun z H3 hz s3 ez => ?_⟩
      have tq3 := s3 _ _ tq
      refine nil_i ⟨q.1, z, [(a : Int), (b : Int), l'], tkl ns [(a : Int), (b : Int), l'], rfl, SqT.of tq3, SqT.of ez, ?_⟩
      have f3 := s3 _ _ f2
      have m3 : ∀ q ∈ M, H3 q.1 = some (.tup (q.2.map V.int)) := fun q hq => s3 _ _ (m2 q hq)
      obtain ⟨r, er, tr⟩ : ∃ r, (if tkl ns [(a : Int), (b : Int), l'] < [(a : Int), (b : Int), l'] then z else q.1) = r ∧ H3 r = some (.tup ((leastOf ns [(a : Int), (b : Int), l']).map V.int)) := by
        refine ⟨_, rfl, ?_⟩
        unfold leastOf
        split
        · exact ez
        · exact tq3
      rw [er]
      refine nil_i ⟨f, r, leastOf ns [(a : Int), (b : Int), l'], M, rfl, rfl, f3, SqT.of tr, fun q hq => SqT.of (m3 q hq), by omega, fun M' old new => ?_⟩
      have rf : r ≠ f := ne_of tr f3 (fun z => nomatch z)
      have et : L.take (i + 1) = L.take i ++ [q] := by
        rw [List.take_add_one, hq]
        rfl
      have m4 : ∀ q ∈ M', (upd H3 f (BigO P w f M')) q.1 = some (.tup (q.2.map V.int)) := fun q hq => by
        by_cases c : leastOf ns [(a : Int), (b : Int), l'] ∈ M.map (·.2)
        · rw [old c] at hq
          have e := m3 q hq
          rw [upd_ne (ne_of e f3 (fun z => nomatch z))]
          exact e
        · rcases List.mem_cons.mp ((new c).mem_iff.mp hq) with h | h
          · rw [h]
            show (upd H3 f _) r = _
            rw [upd_ne rf]
            exact tr
          · have e := m3 q h
            rw [upd_ne (ne_of e f3 (fun z => nomatch z))]
            exact e
      refine ⟨_, M', rfl, fun b o hb nb => ?_, upd_same, m4, fun x => ?_, ?_⟩
      · rw [upd_ne nb]
        exact s3 _ _ (k2 b o hb nb)
      · have one : (∃ y ∈ (L.take (i + 1)).map (·.2), x = leastOf ns y) ↔ (x ∈ M.map (·.2) ∨ x = leastOf ns [(a : Int), (b : Int), l']) := by
          rw [et, List.map_append, mem2]
          constructor
          · rintro ⟨y, hy, e⟩
            rcases List.mem_append.mp hy with h | h
            · exact .inl ⟨y, h, e⟩
            · refine .inr ?_
              rw [List.mem_singleton.mp h] at e
              rw [e]
              show leastOf ns q.2 = _
              rw [eq]
          · rintro (⟨y, hy, e⟩ | e)
            · exact ⟨y, List.mem_append_left _ hy, e⟩
            · exact ⟨q.2, List.mem_append_right _ List.mem_cons_self, by rw [e, eq]⟩
        rw [one]
        by_cases c : leastOf ns [(a : Int), (b : Int), l'] ∈ M.map (·.2)
        · rw [old c]
          exact ⟨.inl, fun h => h.elim id fun e => e ▸ c⟩
        · rw [((new c).map (·.2)).mem_iff, List.map_cons, List.mem_cons]
          exact or_comm
      · by_cases c : leastOf ns [(a : Int), (b : Int), l'] ∈ M.map (·.2)
        · rw [old c]
          omega
        · rw [(new c).length_eq, List.length_cons]
          omega
    · rintro σ H2 ⟨v3, M, rfl, k2, f2, m2, mem2, len2⟩
      rw [List.length_map, List.take_length] at mem2
      have ne : ∀ q ∈ M, q.2 ≠ [] := fun q hq => by
        obtain ⟨y, hy, e⟩ := (mem2 q.2).mp (List.mem_map_of_mem hq)
        obtain ⟨a, b, l', ey, _⟩ := pairs_at (pl.mem_iff.mp hy)
        rw [e, ey]
        exact leastOf_ne ns a b l'
      refine ⟨_, rfl, f, M, rfl, f2, fun q hq => ⟨ne q hq, SqT.of (m2 q hq)⟩, fun L' l' pm' nd' pw' hl' => ?_⟩
      have nn := same_new (o := .lst (L'.map fun q => V.ref q.1)) hl'
      refine k L' l' _ (same_none (back k2) hl') ((back k2).trans nn) ⟨upd_same, fun q hq => nn _ _ (m2 q (pm'.mem_iff.mp hq))⟩ nd' pw' fun x => ?_
      rw [(pm'.map (·.2)).mem_iff, mem2]
      exact ⟨fun ⟨y, hy, e⟩ => ⟨y, pl.mem_iff.mp hy, e⟩, fun ⟨y, hy, e⟩ => ⟨y, pl.mem_iff.mpr hy, e⟩⟩
end
end Tt
set_option maxRecDepth 100000
set_option maxHeartbeats 4000000
namespace Tt
open PySem L2 Bt
section
variable {P : Program} {w : World} {K : PySem.W.Frag} {mg : Str → Option Value} {base : Heap}
theorem Rn.or {n : Nat} {row ns : List Int} {H : Hp} {t : Addr} (h : Rn row ns) (pm : row.Perm (rgI (2 * n))) (ht : SqT K H t (ns.map V.int)) : RdOr row (.ref t) H K true :=
  .inr ⟨t, ns, rfl, ht, h.l, h.lt pm, (decide_eq_true ⟨h.r.1, h.r.2⟩).symm⟩
theorem ok_linked_pairs (T : Txt K mg) : FnOk P w K mg base (L2.CX P w) 8 T.linked_pairs.a T.linked_pairs.fd ["skin", "one", "other"] (spPairs T) := by
  refine T.linked_pairs.F.okX sc_linked_pairs (fun vs H Q E h => ?_) (fun cdv A outer s H vs Q E hr h => ?_)
  · obtain ⟨p, row, n, t, u, ns, ms, rfl, _⟩ := h
    rfl
  · obtain ⟨p, row, n, t, u, ns, ms, rfl, sk, n6, pm, ht, hu, rn, rm, k⟩ := h
    have hlen := perm_len pm
    have l12 : row.length ≤ 12 ∧ row.length % 2 = 0 := by omega
    refine ⟨_, (pss_cons (ps_expr (pe_callS (ok_check_skin T) (hr.mono (by decide)) (by rfl) T.check_skin.g T.check_skin.k T.check_skin.b (fun σ => passAt (takes_of rfl rfl rfl rfl) σ) (pa_cons (pv 0) pa_nil)))
    (pss_cons (ps_expr (pe_callS (ok_check_round T) (hr.mono (by decide)) (by rfl) T.check_round.g T.check_round.k T.check_round.b (fun σ => passAt (takes_of rfl rfl rfl rfl) σ) (pa_cons (pv 0) (pa_cons (pv 1) pa_nil))))
    (pss_cons (ps_expr (pe_callS (ok_check_round T) (hr.mono (by decide)) (by rfl) T.check_round.g T.check_round.k T.check_round.b (fun σ => passAt (takes_of rfl rfl rfl rfl) σ) (pa_cons (pv 0) (pa_cons (pv 2) pa_nil))))
    (pss_one (ps_ret (pe_call (ok_pairs_of T) (hr.mono (by decide)) (by rfl) T.pairs_of.g T.pairs_of.k T.pairs_of.b .nil pass0 (pa_cons (pv 0) (pa_cons (pv 1) (pa_cons (pv 2) pa_nil))))))))), ?_⟩
    refine ⟨_, rfl, _, true, rfl, SkAt.v sk, (fun _ => ?_), fun z => nomatch z⟩
    refine ⟨_, rfl, _, rfl, p, row, _, true, rfl, sk, l12, rn.or pm ht, (fun _ H1 s1 => ?_), fun z => nomatch z⟩
    refine ⟨_, rfl, _, rfl, p, row, _, true, rfl, sk.same s1, l12, rm.or pm (same_seqT s1 hu), (fun _ H2 s2 => ?_), fun z => nomatch z⟩
    have s12 := s1.trans s2
    exact ⟨_, rfl, _, rfl, _, rfl, p, row, n, t, u, ns, ms, rfl, sk.same s12, n6, pm, same_seqT s12 ht, same_seqT s12 hu, rn, rm, fun L l H3 hl s3 g pl pw => k L l H3 (same_none s12 hl) (s12.trans s3) g pl pw⟩
def spCross (T : Txt K mg) : Sp := fun vs H Q _ => ∃ (p : Addr) (row : List Int) (n : Nat) (t u : Addr) (ns ms : List Int), vs = [.ref p, .ref t, .ref u] ∧ SkAt T H p row ∧ n ≤ 6 ∧ row.Perm (rgI (2 * n)) ∧
  SqT K H t (ns.map V.int) ∧ SqT K H u (ms.map V.int) ∧ Rn row ns ∧ Rn row ms ∧ ∀ H', Same H H' → Q (.int ((pairsL row ns ms ns.length).length : Nat)) H'
theorem ok_crossings (T : Txt K mg) : FnOk P w K mg base (L2.CX P w) 8 T.crossings.a T.crossings.fd ["skin", "one", "other"] (spCross T) := by
  refine T.crossings.F.okX sc_crossings (fun vs H Q E h => ?_) (fun cdv A outer s H vs Q E hr h => ?_)
  · obtain ⟨p, row, n, t, u, ns, ms, rfl, _⟩ := h
    rfl
  · obtain ⟨p, row, n, t, u, ns, ms, rfl, sk, n6, pm, ht, hu, rn, rm, k⟩ := h
    have hlen := perm_len pm
    have l12 : row.length ≤ 12 ∧ row.length % 2 = 0 := by omega
    refine ⟨_, (pss_cons (ps_expr (pe_callS (ok_check_skin T) (hr.mono (by decide)) (by rfl) T.check_skin.g T.check_skin.k T.check_skin.b (fun σ => passAt (takes_of rfl rfl rfl rfl) σ) (pa_cons (pv 0) pa_nil)))
    (pss_cons (ps_expr (pe_callS (ok_check_round T) (hr.mono (by decide)) (by rfl) T.check_round.g T.check_round.k T.check_round.b (fun σ => passAt (takes_of rfl rfl rfl rfl) σ) (pa_cons (pv 0) (pa_cons (pv 1) pa_nil))))
    (pss_cons (ps_expr (pe_callS (ok_check_round T) (hr.mono (by decide)) (by rfl) T.check_round.g T.check_round.k T.check_round.b (fun σ => passAt (takes_of rfl rfl rfl rfl) σ) (pa_cons (pv 0) (pa_cons (pv 2) pa_nil))))
    (pss_one (ps_ret (pe_callB call_len_seq (by rfl) T.zlen (by decide +kernel) (pa_cons (pe_call (ok_pairs_of T) (hr.mono (by decide)) (by rfl) T.pairs_of.g T.pairs_of.k T.pairs_of.b .nil pass0 (pa_cons (pv 0) (pa_cons (pv 1) (pa_cons (pv 2) pa_nil)))) pa_nil))))))), ?_⟩
    refine ⟨_, rfl, _, true, rfl, SkAt.v sk, (fun _ => ?_), fun z => nomatch z⟩
    refine ⟨_, rfl, _, rfl, p, row, _, true, rfl, sk, l12, rn.or pm ht, (fun _ H1 s1 => ?_), fun z => nomatch z⟩
    refine ⟨_, rfl, _, rfl, p, row, _, true, rfl, sk.same s1, l12, rm.or pm (same_seqT s1 hu), (fun _ H2 s2 => ?_), fun z => nomatch z⟩
    have s12 := s1.trans s2
    refine ⟨_, rfl, _, rfl, _, rfl, p, row, n, t, u, ns, ms, rfl, sk.same s12, n6, pm, same_seqT s12 ht, same_seqT s12 hu, rn, rm, fun L l H3 hl s3 g pl pw => ?_⟩
    refine nil_i ⟨l, _, rfl, .inl (SqL.of g.l), ?_⟩
    have e : (L.map fun q => V.ref q.1).length = (pairsL row ns ms ns.length).length := by
      rw [← pl.length_eq, List.length_map, List.length_map]
    rw [e]
    exact k H3 (s12.trans s3)
theorem ok_own_pairs (T : Txt K mg) : FnOk P w K mg base (L2.CX P w) 8 T.own_pairs.a T.own_pairs.fd ["skin", "loop"] (spUOwn T) := by
  refine T.own_pairs.F.okX sc_own_pairs (fun vs H Q E h => ?_) (fun cdv A outer s H vs Q E hr h => ?_)
  · obtain ⟨p, row, n, t, ns, rfl, _⟩ := h
    rfl
  · obtain ⟨p, row, n, t, ns, rfl, sk, n6, pm, ht, rn, k⟩ := h
    have hlen := perm_len pm
    have l12 : row.length ≤ 12 ∧ row.length % 2 = 0 := by omega
    refine ⟨_, (pss_cons (ps_expr (pe_callS (ok_check_skin T) (hr.mono (by decide)) (by rfl) T.check_skin.g T.check_skin.k T.check_skin.b (fun σ => passAt (takes_of rfl rfl rfl rfl) σ) (pa_cons (pv 0) pa_nil)))
    (pss_cons (ps_expr (pe_callS (ok_check_round T) (hr.mono (by decide)) (by rfl) T.check_round.g T.check_round.k T.check_round.b (fun σ => passAt (takes_of rfl rfl rfl rfl) σ) (pa_cons (pv 0) (pa_cons (pv 1) pa_nil))))
    (pss_one (ps_ret (pe_call (ok_u_own_pairs T) (hr.mono (by decide)) (by rfl) T.u_own_pairs.g T.u_own_pairs.k T.u_own_pairs.b .nil pass0 (pa_cons (pv 0) (pa_cons (pv 1) pa_nil))))))), ?_⟩
    refine ⟨_, rfl, _, true, rfl, SkAt.v sk, (fun _ => ?_), fun z => nomatch z⟩
    refine ⟨_, rfl, _, rfl, p, row, _, true, rfl, sk, l12, rn.or pm ht, (fun _ H1 s1 => ?_), fun z => nomatch z⟩
    exact ⟨_, rfl, _, rfl, p, row, n, t, ns, rfl, sk.same s1, n6, pm, same_seqT s1 ht, rn, fun L l H3 hl s3 g nd pw mm => k L l H3 (same_none s1 hl) (s1.trans s3) g nd pw mm⟩
structure OwnL (row ns : List Int) (xs : List (List Int)) : Prop where
  nd : xs.Nodup
  up : xs.Pairwise (· ≤ ·)
  m : ∀ x, x ∈ xs ↔ ∃ y ∈ pairsL row ns ns ns.length, x = leastOf ns y
def spOwnNum (T : Txt K mg) : Sp := fun vs H Q _ => ∃ (p : Addr) (row : List Int) (n : Nat) (t : Addr) (ns : List Int), vs = [.ref p, .ref t] ∧ SkAt T H p row ∧ n ≤ 6 ∧ row.Perm (rgI (2 * n)) ∧ SqT K H t (ns.map V.int) ∧ Rn row ns ∧
  ∀ (xs : List (List Int)) (z : Nat) H', Same H H' → OwnL row ns xs → IsRoot ns z → Q (.int ((xs.length : Nat) + ((ns.length / z : Nat) : Int) - 1)) H'
theorem ok_own_number (T : Txt K mg) : FnOk P w K mg base CX0 7 T.own_number.a T.own_number.fd ["skin", "loop"] (spOwnNum T) := by
  refine T.own_number.F.ok sc_own_number (fun vs H Q E h => ?_) (fun cdv A outer s H vs Q E hr h => ?_)
  · obtain ⟨p, row, n, t, ns, rfl, _⟩ := h
    rfl
  · obtain ⟨p, row, n, t, ns, rfl, sk, n6, pm, ht, rn, k⟩ := h
    refine ⟨_, (pss_one (ps_ret (pe_op op_sub (pe_op op_add (pe_callB call_len_seq (by rfl) T.zlen (by decide +kernel) (pa_cons (pe_call (ok_u_own_pairs T) (hr.mono (by decide)) (by rfl) T.u_own_pairs.g T.u_own_pairs.k T.u_own_pairs.b .nil pass0 (pa_cons (pv 0) (pa_cons (pv 1) pa_nil))) pa_nil)) (pe_ix ix_tup (pe_call (ok_rooted T) (hr.mono (by decide)) (by rfl) T.rooted.g T.rooted.k T.rooted.b .nil pass0 (pa_cons (pv 1) pa_nil)) pe_int (fun _ _ => rfl))) pe_int))), ?_⟩
    refine ⟨_, rfl, _, rfl, p, row, n, t, ns, rfl, sk, n6, pm, ht, rn, fun L l H1 hl s1 g nd pw mm => ?_⟩
    refine nil_i ⟨l, _, rfl, .inl (SqL.of g.l), ?_⟩
    refine ⟨_, rfl, t, ns, rfl, same_seqT s1 ht, rn.r.1, by have := rn.l; omega, fun z q r H2 ir s2 eq _ => ?_⟩
    refine ⟨q, _, _, _, rfl, rfl, SqT.of eq, rfl, _, _, rfl, rfl, _, _, rfl, rfl, ?_⟩
    have e : (L.map fun q => V.ref q.1).length = (L.map (·.2)).length := by rw [List.length_map, List.length_map]
    rw [e]
    exact k _ z H2 (s1.trans s2) ⟨nd, List.pairwise_map.mpr pw, mm⟩ ir
theorem ok_own_crossings (T : Txt K mg) : FnOk P w K mg base (L2.CX P w) 8 T.own_crossings.a T.own_crossings.fd ["skin", "loop"] (spOwnNum T) := by
  refine T.own_crossings.F.okX sc_own_crossings (fun vs H Q E h => ?_) (fun cdv A outer s H vs Q E hr h => ?_)
  · obtain ⟨p, row, n, t, ns, rfl, _⟩ := h
    rfl
  · obtain ⟨p, row, n, t, ns, rfl, sk, n6, pm, ht, rn, k⟩ := h
    have hlen := perm_len pm
    have l12 : row.length ≤ 12 ∧ row.length % 2 = 0 := by omega
    refine ⟨_, (pss_cons (ps_expr (pe_callS (ok_check_skin T) (hr.mono (by decide)) (by rfl) T.check_skin.g T.check_skin.k T.check_skin.b (fun σ => passAt (takes_of rfl rfl rfl rfl) σ) (pa_cons (pv 0) pa_nil)))
    (pss_cons (ps_expr (pe_callS (ok_check_round T) (hr.mono (by decide)) (by rfl) T.check_round.g T.check_round.k T.check_round.b (fun σ => passAt (takes_of rfl rfl rfl rfl) σ) (pa_cons (pv 0) (pa_cons (pv 1) pa_nil))))
    (pss_one (ps_ret (pe_call (ok_own_number T) (hr.mono (by decide)) (by rfl) T.own_number.g T.own_number.k T.own_number.b .nil pass0 (pa_cons (pv 0) (pa_cons (pv 1) pa_nil))))))), ?_⟩
    refine ⟨_, rfl, _, true, rfl, SkAt.v sk, (fun _ => ?_), fun z => nomatch z⟩
    refine ⟨_, rfl, _, rfl, p, row, _, true, rfl, sk, l12, rn.or pm ht, (fun _ H1 s1 => ?_), fun z => nomatch z⟩
    exact ⟨_, rfl, _, rfl, p, row, n, t, ns, rfl, sk.same s1, n6, pm, same_seqT s1 ht, rn, fun xs z H3 s3 => k xs z H3 (s1.trans s3)⟩
end
end Tt
set_option maxRecDepth 100000
set_option maxHeartbeats 4000000
namespace Ln
open Wd
structure Bt2 (row ns ms : List Int) : Prop where
  l : 0 < row.length
  n : ns ≠ []
  m : ms ≠ []
  cn : CR ns
  cm : CR ms
  rn : ∀ x ∈ ns, x ∈ row ∧ mate x ∈ row
  rm : ∀ x ∈ ms, x ∈ row ∧ mate x ∈ row
theorem Bt2.swap {row ns ms : List Int} (B : Bt2 row ns ms) : Bt2 row ms ns := ⟨B.l, B.m, B.n, B.cm, B.cn, B.rm, B.rn⟩
theorem Bt2.two {row ns ms : List Int} (B : Bt2 row ns ms) {p s : Int} (h : gt ns p / 2 = gt ms s / 2) : Two row (lon ns p 1) (lon ms s (wayOf (gt ns p) (gt ms s))) := two_of B.l B.n B.m B.cn B.cm B.rn B.rm h
def flagOf (row : List Int) (f g : Int → Int) (o : Int) : Bool := ahd row (f 0) (mate (f (-1))) (mate (g (-1))) == ahd row (mate (f o)) (f (o + 1)) (g (o + 1))
section
variable {row ns ms : List Int} {p s : Int}
theorem pst_flag (B : Bt2 row ns ms) (h : isFst ns ms p s) {o : Nat} (ho : shr (lon ns p 1) (lon ms s (wayOf (gt ns p) (gt ms s))) 1 (ns.length + ms.length) = some o) :
    pst row ns ms p s = some (0, 1 + (o : Int), flagOf row (lon ns p 1) (lon ms s (wayOf (gt ns p) (gt ms s))) o) := by
  have l1 := List.length_pos_iff.mpr B.n
  have z := shr_now (f := lon ns p 1) (g := lon ms s (wayOf (gt ns p) (gt ms s))) (n := ns.length + ms.length) (by omega) h.2
  unfold pst cst
  rw [z, ho]
  rfl
theorem aln_some (B : Bt2 row ns ms) {l : Int} : aln row ns ms p s = some l ↔ isFst ns ms p s ∧ ∃ o : Nat, shr (lon ns p 1) (lon ms s (wayOf (gt ns p) (gt ms s))) 1 (ns.length + ms.length) = some o ∧ l = 1 + (o : Int) ∧ flagOf row (lon ns p 1) (lon ms s (wayOf (gt ns p) (gt ms s))) o = true := by
  unfold aln
  by_cases h : isFst ns ms p s
  · rw [if_pos h]
    obtain ⟨o, b, ho, _⟩ := pst_fst (row := row) B.n B.m h
    rw [pst_flag B h ho]
    cases e : flagOf row (lon ns p 1) (lon ms s (wayOf (gt ns p) (gt ms s))) o with
    | true =>
      constructor
      · intro z
        exact ⟨h, o, ho, (Option.some.inj z).symm, e⟩
      · rintro ⟨_, o', ho', rfl, _⟩
        rw [ho] at ho'
        rw [Option.some.inj ho']
    | false =>
      constructor
      · intro z
        cases z
      · rintro ⟨_, o', ho', _, e'⟩
        rw [ho] at ho'
        rw [← Option.some.inj ho', e] at e'
        cases e'
  · rw [if_neg h]
    constructor
    · intro z
      cases z
    · rintro ⟨z, _⟩
      exact absurd z h
theorem shr_uni {f g : Int → Int} {n o : Nat} (h : ∃ v, shr f g 1 n = some v) (a : ∀ k : Nat, k < o → f ((k : Int) + 1) = g ((k : Int) + 1)) (d : f ((o : Int) + 1) ≠ g ((o : Int) + 1)) : shr f g 1 n = some o := by
  obtain ⟨v, hv⟩ := h
  obtain ⟨h1, h2, h3⟩ := shr_some.mp hv
  have e : v = o := by
    rcases Nat.lt_trichotomy v o with c | c | c
    · have := a v c
      rw [Int.one_mul] at h2
      exact absurd this h2
    · exact c
    · have := h3 o c
      rw [Int.one_mul] at this
      exact absurd this d
  rw [← e]
  exact hv
theorem fst_same (c : gt ns p = gt ms s) : isFst ms ns s p ↔ isFst ns ms p s := by
  have e1 : wayOf (gt ms s) (gt ns p) = 1 := if_pos c.symm
  have e2 : wayOf (gt ns p) (gt ms s) = 1 := if_pos c
  unfold isFst
  rw [e1, e2]
  exact ⟨fun h => ⟨h.1.symm, fun z => h.2 z.symm⟩, fun h => ⟨h.1.symm, fun z => h.2 z.symm⟩⟩
theorem aln_same (B : Bt2 row ns ms) (c : gt ns p = gt ms s) : aln row ms ns s p = aln row ns ms p s := by
  unfold aln
  by_cases h : isFst ns ms p s
  · rw [if_pos h, if_pos ((fst_same c).mpr h), pst_swap B.l B.n B.m B.cn B.cm B.rn B.rm h.1]
    obtain ⟨o, b, ho, e⟩ := pst_fst (row := row) B.n B.m h
    rw [e]
    cases b <;> rfl
  · rw [if_neg h, if_neg fun z => h ((fst_same c).mp z)]
theorem way_no (c : gt ns p ≠ gt ms s) : wayOf (gt ns p) (gt ms s) = -1 := if_neg c
theorem aln_turn (B : Bt2 row ns ms) {o : Nat} (c : gt ns p ≠ gt ms s) (h : aln row ns ms p s = some (1 + (o : Int))) : aln row ms ns (s - o) (p + o) = some (1 + (o : Int)) ∧ gt ms (s - o) ≠ gt ns (p + o) := by
  obtain ⟨fs, o', ho, e, fl⟩ := (aln_some B).mp h
  have eo : o' = o := by omega
  subst eo
  have T := B.two fs.1
  have fs2 := fs.2
  rw [way_no c] at ho fl T fs2
  obtain ⟨h1, h2, h3⟩ := shr_some.mp ho
  rw [Int.one_mul] at h2
  have at_ := agree_at T.at0 ho
  rw [Int.one_mul] at at_
  have g0 : ∀ t, lon ms s (-1) t = mate (gt ms (s - t)) := fun t => lonM ms s t
  have f0 : ∀ t, lon ns p 1 t = gt ns (p + t) := fun t => lon1 ns p t
  have ef : gt ns (p + (o' : Int)) = mate (gt ms (s - (o' : Int))) := by rw [← f0, at_, g0]
  have ne : gt ms (s - (o' : Int)) ≠ gt ns (p + (o' : Int)) := fun z => by
    rw [← z] at ef
    exact mate_ne _ ef.symm
  have wy : wayOf (gt ms (s - (o' : Int))) (gt ns (p + (o' : Int))) = -1 := if_neg ne
  have F : ∀ t, lon ms (s - (o' : Int)) 1 t = mate (lon ms s (-1) ((o' : Int) - t)) := fun t => by
    rw [lon1, g0, mate_mate]
    exact congrArg (gt ms) (by omega)
  have G : ∀ t, lon ns (p + (o' : Int)) (-1) t = mate (lon ns p 1 ((o' : Int) - t)) := fun t => by
    rw [lonM, f0]
    exact congrArg (fun z => mate (gt ns z)) (by omega)
  have fs' : isFst ms ns (s - (o' : Int)) (p + (o' : Int)) := by
    refine ⟨by rw [ef, mate_half], ?_⟩
    rw [wy, F, G]
    intro z
    have z' := mate_inj z
    rw [show (o' : Int) - -1 = (o' : Int) + 1 by omega] at z'
    exact h2 z'.symm
  refine ⟨(aln_some B.swap).mpr ⟨fs', o', ?_, rfl, ?_⟩, ne⟩
  · rw [wy]
    refine shr_uni (shr_end (.inr rfl) B.m B.n (by have := fs'.2; rwa [wy] at this)) (fun k hk => ?_) ?_
    · rw [F, G]
      refine congrArg mate ?_
      rcases Nat.eq_zero_or_pos (o' - k - 1) with z | z
      · rw [show (o' : Int) - ((k : Int) + 1) = 0 by omega]
        exact T.at0.symm
      · have := h3 (o' - k - 2) (by omega)
        rw [Int.one_mul, show ((o' - k - 2 : Nat) : Int) + 1 = (o' : Int) - ((k : Int) + 1) by omega] at this
        exact this.symm
    · rw [F, G, show (o' : Int) - ((o' : Int) + 1) = -1 by omega]
      exact fun z => fs2 (mate_inj z).symm
  · rw [wy]
    unfold flagOf at fl ⊢
    rw [F, F, F, F, G, G, show (o' : Int) - 0 = (o' : Int) by omega, show (o' : Int) - -1 = (o' : Int) + 1 by omega, show (o' : Int) - (o' : Int) = 0 by omega, show (o' : Int) - ((o' : Int) + 1) = -1 by omega]
    rw [mate_mate, mate_mate, mate_mate, ← at_, ← T.at0, ahd_swap (T.rf ((o' : Int) + 1)).1 (T.rg ((o' : Int) + 1)).1 h2, ahd_swap (T.rf (-1)).2 (T.rg (-1)).2 (fun z => fs2 (mate_inj z)), not_beq, Bool.beq_comm]
    exact fl
end
end Ln
set_option maxRecDepth 100000
set_option maxHeartbeats 4000000
namespace Ln
open Wd
theorem shr_flip (f g : Int → Int) (s : Int) (n : Nat) : shr (fun t => mate (f (-t))) (fun t => mate (g (-t))) s n = shr f g (-s) n := by
  unfold shr
  have e : (fun (m : Nat) => decide (mate (f (-(s * ((m : Int) + 1)))) ≠ mate (g (-(s * ((m : Int) + 1)))))) = fun (m : Nat) => decide (f (-s * ((m : Int) + 1)) ≠ g (-s * ((m : Int) + 1))) := by
    funext m
    rw [Int.neg_mul]
    exact decide_eq_decide.mpr ⟨fun h z => h (by rw [z]), fun h z => h (mate_inj z)⟩
  exact congrArg (fun z => (List.range n).find? z) e
theorem Two.flip {row : List Int} {f g : Int → Int} (T : Two row f g) : Two row (fun t => mate (f (-t))) (fun t => mate (g (-t))) := by
  refine ⟨T.pos, fun t => ⟨(T.rf (-t)).2, by rw [mate_mate]; exact (T.rf (-t)).1⟩, fun t => ⟨(T.rg (-t)).2, by rw [mate_mate]; exact (T.rg (-t)).1⟩, congrArg mate T.at0, fun t z => ?_, fun t z => ?_⟩
  · have h := T.nf (-(t + 1))
    rw [show -(t + 1) + 1 = -t by omega] at h
    rw [mate_mate] at z
    exact h z.symm
  · have h := T.ng (-(t + 1))
    rw [show -(t + 1) + 1 = -t by omega] at h
    rw [mate_mate] at z
    exact h z.symm
section
variable {row ns ms : List Int} {p s : Int}
theorem disc_flag (B : Bt2 row ns ms) (h : isFst ns ms p s) {o : Nat} (ho : shr (lon ns p 1) (lon ms s (wayOf (gt ns p) (gt ms s))) 1 (ns.length + ms.length) = some o) :
    byT (wayOn row ns (p - 1) (ns.length + ms.length + 1)) (wayBk row ns (p - 1) (ns.length + ms.length + 1)) (wayOn row ms (if gt ns p = gt ms s then s - 1 else s) (ns.length + ms.length + 1)) (wayBk row ms (if gt ns p = gt ms s then s - 1 else s) (ns.length + ms.length + 1)) =
      flagOf row (lon ns p 1) (lon ms s (wayOf (gt ns p) (gt ms s))) o := by
  have l1 := List.length_pos_iff.mpr B.n
  have T := B.two h.1
  have d := h.2
  have hw := wayOf_or (gt ns p) (gt ms s)
  have z0 := shr_now (f := lon ns p 1) (g := lon ms s (wayOf (gt ns p) (gt ms s))) (n := ns.length + ms.length) (by omega) d
  have te := turns_eq T.flip (n := ns.length + ms.length) (b := o) (o := 0) (by rw [shr_flip]; exact ho) (by rw [shr_flip]; exact z0)
  have q1 : wayBk row ns (p - 1) (ns.length + ms.length + 1) = far row (seqN (onw fun t => mate (lon ns p 1 (-t))) (ns.length + ms.length + 1)) := by
    unfold wayBk onw
    refine congrArg (fun z => far row (seqN z (ns.length + ms.length + 1))) (funext fun k => ?_)
    dsimp only
    rw [lon1]
    exact congrArg (fun z => mate (gt ns z)) (by omega)
  have q2 : wayOn row ns (p - 1) (ns.length + ms.length + 1) = far row (seqN (bck fun t => mate (lon ns p 1 (-t))) (ns.length + ms.length + 1)) := by
    unfold wayOn bck
    refine congrArg (fun z => far row (seqN z (ns.length + ms.length + 1))) (funext fun k => ?_)
    dsimp only
    rw [lon1, mate_mate]
    exact congrArg (gt ns) (by omega)
  have fl : flagOf row (lon ns p 1) (lon ms s (wayOf (gt ns p) (gt ms s))) o = (ahd row (mate (lon ns p 1 (-(-(o : Int))))) (mate (mate (lon ns p 1 (-(-(o : Int) - 1))))) (mate (mate (lon ms s (wayOf (gt ns p) (gt ms s)) (-(-(o : Int) - 1))))) ==
      ahd row (mate (mate (lon ns p 1 (-((0 : Nat) : Int))))) (mate (lon ns p 1 (-(((0 : Nat) : Int) + 1)))) (mate (lon ms s (wayOf (gt ns p) (gt ms s)) (-(((0 : Nat) : Int) + 1))))) := by
    unfold flagOf
    rw [mate_mate, mate_mate, mate_mate, Int.neg_neg, show -(-(o : Int) - 1) = (o : Int) + 1 by omega, show -(((0 : Nat) : Int)) = 0 by omega, show -(((0 : Nat) : Int) + 1) = -1 by omega, Bool.beq_comm]
  rw [fl, ← te, q1, q2]
  by_cases c : gt ns p = gt ms s
  · have e2 : wayOf (gt ns p) (gt ms s) = 1 := if_pos c
    rw [if_pos c, e2]
    have q3 : wayBk row ms (s - 1) (ns.length + ms.length + 1) = far row (seqN (onw fun t => mate (lon ms s 1 (-t))) (ns.length + ms.length + 1)) := by
      unfold wayBk onw
      refine congrArg (fun z => far row (seqN z (ns.length + ms.length + 1))) (funext fun k => ?_)
      dsimp only
      rw [lon1]
      exact congrArg (fun z => mate (gt ms z)) (by omega)
    have q4 : wayOn row ms (s - 1) (ns.length + ms.length + 1) = far row (seqN (bck fun t => mate (lon ms s 1 (-t))) (ns.length + ms.length + 1)) := by
      unfold wayOn bck
      refine congrArg (fun z => far row (seqN z (ns.length + ms.length + 1))) (funext fun k => ?_)
      dsimp only
      rw [lon1, mate_mate]
      exact congrArg (gt ms) (by omega)
    rw [q3, q4, byT_swap]
  · have e2 : wayOf (gt ns p) (gt ms s) = -1 := if_neg c
    rw [if_neg c, e2]
    have q3 : wayOn row ms s (ns.length + ms.length + 1) = far row (seqN (onw fun t => mate (lon ms s (-1) (-t))) (ns.length + ms.length + 1)) := by
      unfold wayOn onw
      refine congrArg (fun z => far row (seqN z (ns.length + ms.length + 1))) (funext fun k => ?_)
      dsimp only
      rw [lonM, mate_mate]
      exact congrArg (gt ms) (by omega)
    have q4 : wayBk row ms s (ns.length + ms.length + 1) = far row (seqN (bck fun t => mate (lon ms s (-1) (-t))) (ns.length + ms.length + 1)) := by
      unfold wayBk bck
      refine congrArg (fun z => far row (seqN z (ns.length + ms.length + 1))) (funext fun k => ?_)
      dsimp only
      rw [lonM, mate_mate]
      exact congrArg (fun z => mate (gt ms z)) (by omega)
    rw [q3, q4, ← byT_swap, byT_comm]
theorem lt_heads {A B : List Int} {a b : Int} (h1 : A[0]? = some a) (h2 : B[0]? = some b) (h : a ≠ b) : A < B ↔ a < b := lex_at 0 A B a b (by rw [List.take_zero, List.take_zero]) h1 h2 h
theorem byT_heads {A B C D : List Int} {a b c d : Int} (h1 : A[0]? = some a) (h2 : B[0]? = some b) (h3 : C[0]? = some c) (h4 : D[0]? = some d) (nab : a ≠ b) (nac : a ≠ c) (nad : a ≠ d) (nbc : b ≠ c) (nbd : b ≠ d) (ncd : c ≠ d) :
    byT A B C D = Tt.byI b a d c := by
  unfold byT mn mx Tt.byI Tt.btw
  have e1 := lt_heads h2 h1 nab.symm
  have e2 := lt_heads h1 h2 nab
  have e3 := lt_heads h4 h3 ncd.symm
  have e4 := lt_heads h3 h4 ncd
  have e5 := lt_heads h1 h3 nac
  have e6 := lt_heads h3 h1 nac.symm
  have e7 := lt_heads h1 h4 nad
  have e8 := lt_heads h4 h1 nad.symm
  have e9 := lt_heads h2 h3 nbc
  have e10 := lt_heads h3 h2 nbc.symm
  have e11 := lt_heads h2 h4 nbd
  have e12 := lt_heads h4 h2 nbd.symm
  by_cases c1 : b < a <;> by_cases c2 : d < c <;> by_cases c3 : a < c <;> by_cases c4 : a < d <;> by_cases c5 : b < c <;> by_cases c6 : b < d <;> first | (exfalso; omega) | (
    have n1 : (a < b) = ¬ (b < a) := propext (by omega)
    have n2 : (c < d) = ¬ (d < c) := propext (by omega)
    have n3 : (c < a) = ¬ (a < c) := propext (by omega)
    have n4 : (d < a) = ¬ (a < d) := propext (by omega)
    have n5 : (c < b) = ¬ (b < c) := propext (by omega)
    have n6 : (d < b) = ¬ (b < d) := propext (by omega)
    simp [e1, e2, e3, e4, e5, e6, e7, e8, e9, e10, e11, e12, n1, n2, n3, n4, n5, n6, c1, c2, c3, c4, c5, c6])
end
end Ln
set_option maxRecDepth 100000
set_option maxHeartbeats 4000000
namespace Ln
open Wd
def mtB (row ns ms : List Int) (p s : Int) : Bool := (decide (mate (gt ns p) ≠ mate (gt ms s)) && decide (mate (gt ns p) ≠ gt ms (s + 1))) &&
  byT (wayOn row ns p (ns.length + ms.length + 1)) (wayBk row ns p (ns.length + ms.length + 1)) (wayOn row ms s (ns.length + ms.length + 1)) (wayBk row ms s (ns.length + ms.length + 1))
def tri (ns ms : List Int) (p s : Int) : List Int × List Int :=
  if gt ms (s + 1) = gt ns (p + 1) then
    ([(p + 1) % (ns.length : Int), (s + 1) % (ms.length : Int), (lead (rdL ns ((p + 1) % (ns.length : Int)) 1) (rdL ms ((s + 1) % (ms.length : Int)) 1) (ns.length + ms.length + 1) : Nat)],
     [(s + 1) % (ms.length : Int), (p + 1) % (ns.length : Int), (lead (rdL ns ((p + 1) % (ns.length : Int)) 1) (rdL ms ((s + 1) % (ms.length : Int)) 1) (ns.length + ms.length + 1) : Nat)])
  else if mate (gt ms s) = gt ns (p + 1) then
    ([(p + 1) % (ns.length : Int), s, (lead (rdL ns ((p + 1) % (ns.length : Int)) 1) (rdL ms s (-1)) (ns.length + ms.length + 1) : Nat)],
     [(s - (lead (rdL ns ((p + 1) % (ns.length : Int)) 1) (rdL ms s (-1)) (ns.length + ms.length + 1) : Nat) + 1) % (ms.length : Int),
      ((p + 1) % (ns.length : Int) + (lead (rdL ns ((p + 1) % (ns.length : Int)) 1) (rdL ms s (-1)) (ns.length + ms.length + 1) : Nat) - 1) % (ns.length : Int), (lead (rdL ns ((p + 1) % (ns.length : Int)) 1) (rdL ms s (-1)) (ns.length + ms.length + 1) : Nat)])
  else ([p, s, 0], [s, p, 0])
section
variable {row ns ms : List Int}
theorem gt_in (ns : List Int) (i : Int) : gt ns (i % (ns.length : Int)) = gt ns i := gt_mod (Int.emod_emod_of_dvd _ (Int.dvd_refl _))
theorem gt_sh {i j : Int} (h : i % (ns.length : Int) = j % (ns.length : Int)) (k : Int) : gt ns (i + k) = gt ns (j + k) := gt_mod (by rw [Int.add_emod, h, ← Int.add_emod])
theorem gt_sh' {i j : Int} (h : i % (ns.length : Int) = j % (ns.length : Int)) (k : Int) : gt ns (i - k) = gt ns (j - k) := gt_sh h (-k)
theorem wayOn_mod {i j : Int} (h : i % (ns.length : Int) = j % (ns.length : Int)) (N : Nat) : wayOn row ns i N = wayOn row ns j N := by
  unfold wayOn
  refine congrArg (fun z => far row (seqN z N)) (funext fun k => ?_)
  rw [Int.add_assoc, Int.add_assoc]
  exact gt_sh h _
theorem wayBk_mod {i j : Int} (h : i % (ns.length : Int) = j % (ns.length : Int)) (N : Nat) : wayBk row ns i N = wayBk row ns j N := by
  unfold wayBk
  refine congrArg (fun z => far row (seqN z N)) (funext fun k => ?_)
  exact congrArg mate (gt_sh' h _)
theorem lead_first (B : Bt2 row ns ms) {a b : Int} (h : isFst ns ms a b) {o : Nat} (ho : shr (lon ns a 1) (lon ms b (wayOf (gt ns a) (gt ms b))) 1 (ns.length + ms.length) = some o) :
    lead (rdL ns a 1) (rdL ms b (wayOf (gt ns a) (gt ms b))) (ns.length + ms.length + 1) = 1 + o := by
  have T := B.two h.1
  have l1 := lead_of (f := lon ns a 1) (g := lon ms b (wayOf (gt ns a) (gt ms b))) (s := 1) (n := ns.length + ms.length) T.at0
  rw [ho] at l1
  rw [rdL_lon ns a (.inl rfl), rdL_lon ms b (wayOf_or _ _)]
  simp only [Int.one_mul] at l1
  rw [l1, Nat.add_comm]
structure Behind (ns ms : List Int) (p s a b : Int) : Prop where
  p : p % (ns.length : Int) = (a - 1) % (ns.length : Int)
  s : s % (ms.length : Int) = (if gt ns a = gt ms b then b - 1 else b) % (ms.length : Int)
theorem mt_first (B : Bt2 row ns ms) {p s a b : Int} (d : Behind ns ms p s a b) (h : isFst ns ms a b) {o : Nat} (ho : shr (lon ns a 1) (lon ms b (wayOf (gt ns a) (gt ms b))) 1 (ns.length + ms.length) = some o) :
    mtB row ns ms p s = flagOf row (lon ns a 1) (lon ms b (wayOf (gt ns a) (gt ms b))) o := by
  unfold mtB
  rw [wayOn_mod d.p, wayBk_mod d.p, wayOn_mod d.s, wayBk_mod d.s, disc_flag B h ho]
  have e1 : gt ns p = gt ns (a - 1) := gt_mod d.p
  have h2 := h.2
  rw [lon1] at h2
  have n1 : mate (gt ns p) ≠ mate (gt ms s) ∧ mate (gt ns p) ≠ gt ms (s + 1) := by
    by_cases c : gt ns a = gt ms b
    · have ds := d.s
      rw [if_pos c] at ds
      have e2 : gt ms s = gt ms (b - 1) := gt_mod ds
      have e3 : gt ms (s + 1) = gt ms b := by rw [gt_sh ds 1, Int.sub_add_cancel]
      rw [show wayOf (gt ns a) (gt ms b) = 1 from if_pos c, lon1] at h2
      refine ⟨fun z => h2 ?_, fun z => ?_⟩
      · have := mate_inj z
        rw [e1, e2] at this
        exact this
      · rw [e3, ← c, e1] at z
        have := cr_gt B.n B.cn (a - 1)
        rw [Int.sub_add_cancel] at this
        exact this z.symm
    · have ds := d.s
      rw [if_neg c] at ds
      have e2 : gt ms s = gt ms b := gt_mod ds
      have e3 : gt ms (s + 1) = gt ms (b + 1) := gt_sh ds 1
      rw [show wayOf (gt ns a) (gt ms b) = -1 from if_neg c, lonM] at h2
      refine ⟨fun z => ?_, fun z => h2 ?_⟩
      · rw [e2, e1, ← half_eq h.1 c] at z
        have := cr_gt B.n B.cn (a - 1)
        rw [Int.sub_add_cancel] at this
        exact this z.symm
      · rw [e3, e1] at z
        rw [show b - -1 = b + 1 by omega, ← z, mate_mate]
        rfl
  rw [decide_eq_true n1.1, decide_eq_true n1.2]
  rfl
end
end Ln
set_option maxRecDepth 100000
set_option maxHeartbeats 4000000
namespace Ln
open Wd
def tk2 (ns ms : List Int) : List Int → List Int
  | [a, b, l] => if l = 0 ∨ gt ns a = gt ms b then [b, a, l] else [(b - l + 1) % (ms.length : Int), (a + l - 1) % (ns.length : Int), l]
  | x => x
theorem tk2_3 (ns ms : List Int) (a b l : Int) : tk2 ns ms [a, b, l] = if l = 0 ∨ gt ns a = gt ms b then [b, a, l] else [(b - l + 1) % (ms.length : Int), (a + l - 1) % (ns.length : Int), l] := rfl
section
variable {row ns ms : List Int}
theorem tri_first (B : Bt2 row ns ms) {p s a b : Int} (s0 : 0 ≤ s) (s1 : s < ms.length) (a0 : 0 ≤ a) (a1 : a < ns.length) (b0 : 0 ≤ b) (b1 : b < ms.length) (d : Behind ns ms p s a b) (h : isFst ns ms a b) {o : Nat}
    (ho : shr (lon ns a 1) (lon ms b (wayOf (gt ns a) (gt ms b))) 1 (ns.length + ms.length) = some o) : tri ns ms p s = ([a, b, 1 + (o : Int)], tk2 ns ms [a, b, 1 + (o : Int)]) := by
  have ld := lead_first B h ho
  have ep : (p + 1) % (ns.length : Int) = a := by
    rw [← Int.emod_add_emod, d.p, Int.emod_add_emod, Int.sub_add_cancel, Int.emod_eq_of_lt a0 a1]
  have ga : gt ns (p + 1) = gt ns a := by
    have := gt_in ns (p + 1)
    rw [ep] at this
    exact this.symm
  have nz : ¬ (1 + (o : Int) = 0) := by omega
  unfold tri
  rw [tk2_3, ep, ga]
  by_cases c : gt ns a = gt ms b
  · have ds := d.s
    rw [if_pos c] at ds
    have es : (s + 1) % (ms.length : Int) = b := by
      rw [← Int.emod_add_emod, ds, Int.emod_add_emod, Int.sub_add_cancel, Int.emod_eq_of_lt b0 b1]
    have gb : gt ms (s + 1) = gt ms b := by
      have := gt_in ms (s + 1)
      rw [es] at this
      exact this.symm
    rw [show wayOf (gt ns a) (gt ms b) = 1 from if_pos c] at ld
    rw [gb, es, if_pos c.symm, if_pos (.inr c), ld, Int.natCast_add]
    rfl
  · have ds := d.s
    rw [if_neg c, Int.emod_eq_of_lt s0 s1, Int.emod_eq_of_lt b0 b1] at ds
    have he := half_eq h.1 c
    have ne : ¬ gt ms (s + 1) = gt ns a := fun z => by
      rw [ds, he] at z
      exact cr_gt B.m B.cm b z
    rw [show wayOf (gt ns a) (gt ms b) = -1 from if_neg c] at ld
    rw [if_neg ne, ds, if_pos he.symm, if_neg (fun z => z.elim nz c), ld, Int.natCast_add]
    rfl
theorem tri_across {p s : Int} (n1 : ¬ gt ms (s + 1) = gt ns (p + 1)) (n2 : ¬ mate (gt ms s) = gt ns (p + 1)) : tri ns ms p s = ([p, s, 0], tk2 ns ms [p, s, 0]) := by
  unfold tri
  rw [if_neg n1, if_neg n2, tk2_3, if_pos (.inl rfl)]
theorem mt_across (B : Bt2 row ns ms) {p s : Int} (n1 : ¬ gt ms (s + 1) = gt ns (p + 1)) (n2 : ¬ mate (gt ms s) = gt ns (p + 1)) : mtB row ns ms p s = Tt.acr row ns ms p s := by
  have m1 := B.rn _ (gt_mem B.n p)
  have m2 := B.rn _ (gt_mem B.n (p + 1))
  have m3 := B.rm _ (gt_mem B.m s)
  have m4 := B.rm _ (gt_mem B.m (s + 1))
  have r1 := cr_gt B.n B.cn p
  have r2 := cr_gt B.m B.cm s
  unfold mtB Tt.acr
  by_cases c1 : mate (gt ns p) = mate (gt ms s)
  · rw [decide_eq_false (p := mate (gt ns p) ≠ mate (gt ms s)) (fun z => z c1), decide_eq_false (p := (Tt.endsL ns p ms s).Nodup) (fun z => by
      unfold Tt.endsL at z
      rw [c1] at z
      simp at z)]
    rfl
  by_cases c2 : mate (gt ns p) = gt ms (s + 1)
  · rw [decide_eq_false (p := mate (gt ns p) ≠ gt ms (s + 1)) (fun z => z c2), decide_eq_false (p := (Tt.endsL ns p ms s).Nodup) (fun z => by
      unfold Tt.endsL at z
      rw [c2] at z
      simp at z), Bool.and_false]
    rfl
  have nd : (Tt.endsL ns p ms s).Nodup := by
    unfold Tt.endsL
    simp only [List.nodup_cons, List.mem_cons, List.not_mem_nil, or_false, not_or, not_false_eq_true, List.nodup_nil, and_true]
    exact ⟨⟨fun z => r1 z.symm, c1, c2⟩, ⟨fun z => n2 z.symm, fun z => n1 z.symm⟩, fun z => r2 z.symm⟩
  rw [decide_eq_true nd, decide_eq_true c1, decide_eq_true c2]
  have z1 := far_zero (row := row) (seqN_get (u := fun k => gt ns (p + 1 + k)) (n := ns.length + ms.length + 1) (k := 0) (by omega))
  have z2 := far_zero (row := row) (seqN_get (u := fun k => mate (gt ns (p - k))) (n := ns.length + ms.length + 1) (k := 0) (by omega))
  have z3 := far_zero (row := row) (seqN_get (u := fun k => gt ms (s + 1 + k)) (n := ns.length + ms.length + 1) (k := 0) (by omega))
  have z4 := far_zero (row := row) (seqN_get (u := fun k => mate (gt ms (s - k))) (n := ns.length + ms.length + 1) (k := 0) (by omega))
  rw [show p + 1 + ((0 : Nat) : Int) = p + 1 by omega] at z1
  rw [show p - ((0 : Nat) : Int) = p by omega] at z2
  rw [show s + 1 + ((0 : Nat) : Int) = s + 1 by omega] at z3
  rw [show s - ((0 : Nat) : Int) = s by omega] at z4
  have inj : ∀ {x y : Int}, x ∈ row → y ∈ row → x ≠ y → pl row x ≠ pl row y := fun hx hy h z => h (pl_inj hx hy z)
  have e := byT_heads z1 z2 z3 z4 (inj m2.1 m1.2 r1) (inj m2.1 m4.1 fun z => n1 z.symm) (inj m2.1 m3.2 fun z => n2 z.symm) (inj m1.2 m4.1 c2) (inj m1.2 m3.2 c1) (inj m4.1 m3.2 r2)
  unfold wayOn wayBk
  rw [e]
  rfl
theorem disc_cases (B : Bt2 row ns ms) {p s : Int} (p0 : 0 ≤ p) (p1 : p < ns.length) (s0 : 0 ≤ s) (s1 : s < ms.length) (h : mtB row ns ms p s = true) :
    (Tt.acr row ns ms p s = true ∧ tri ns ms p s = ([p, s, 0], tk2 ns ms [p, s, 0])) ∨
    ∃ (a b : Int) (o : Nat), 0 ≤ a ∧ a < ns.length ∧ 0 ≤ b ∧ b < ms.length ∧ Behind ns ms p s a b ∧ aln row ns ms a b = some (1 + (o : Int)) ∧ tri ns ms p s = ([a, b, 1 + (o : Int)], tk2 ns ms [a, b, 1 + (o : Int)]) := by
  have l1 := List.length_pos_iff.mpr B.n
  have l2 := List.length_pos_iff.mpr B.m
  have cd : mate (gt ns p) ≠ mate (gt ms s) ∧ mate (gt ns p) ≠ gt ms (s + 1) := by
    unfold mtB at h
    rw [Bool.and_eq_true, Bool.and_eq_true] at h
    exact ⟨of_decide_eq_true h.1.1, of_decide_eq_true h.1.2⟩
  have A0 := Int.emod_nonneg (p + 1) (show (ns.length : Int) ≠ 0 by omega)
  have A1 := Int.emod_lt_of_pos (p + 1) (show (0 : Int) < ns.length by omega)
  have ga := gt_in ns (p + 1)
  have pa : p % (ns.length : Int) = ((p + 1) % (ns.length : Int) - 1) % (ns.length : Int) := by
    rw [Int.sub_eq_add_neg, Int.emod_add_emod]
    exact congrArg (· % (ns.length : Int)) (by omega)
  have gp : gt ns ((p + 1) % (ns.length : Int) - 1) = gt ns p := gt_mod pa.symm
  have fin : ∀ {b : Int}, 0 ≤ b → b < ms.length → Behind ns ms p s ((p + 1) % (ns.length : Int)) b → isFst ns ms ((p + 1) % (ns.length : Int)) b → ∃ (a b : Int) (o : Nat), 0 ≤ a ∧ a < ns.length ∧ 0 ≤ b ∧ b < ms.length ∧ Behind ns ms p s a b ∧ aln row ns ms a b = some (1 + (o : Int)) ∧ tri ns ms p s = ([a, b, 1 + (o : Int)], tk2 ns ms [a, b, 1 + (o : Int)]) := fun {b} b0 b1 d fs => by
    obtain ⟨o, _, ho, _⟩ := pst_fst (row := row) B.n B.m fs
    have mf := mt_first B d fs ho
    rw [h] at mf
    exact ⟨_, b, o, A0, A1, b0, b1, d, (aln_some B).mpr ⟨fs, o, ho, rfl, mf.symm⟩, tri_first B s0 s1 A0 A1 b0 b1 d fs ho⟩
  by_cases c : gt ms (s + 1) = gt ns (p + 1)
  · right
    have gb := gt_in ms (s + 1)
    have sb : s % (ms.length : Int) = ((s + 1) % (ms.length : Int) - 1) % (ms.length : Int) := by
      rw [Int.sub_eq_add_neg, Int.emod_add_emod]
      exact congrArg (· % (ms.length : Int)) (by omega)
    have gs : gt ms ((s + 1) % (ms.length : Int) - 1) = gt ms s := gt_mod sb.symm
    have e : gt ns ((p + 1) % (ns.length : Int)) = gt ms ((s + 1) % (ms.length : Int)) := by rw [ga, gb, c]
    refine fin (Int.emod_nonneg (s + 1) (by omega)) (Int.emod_lt_of_pos (s + 1) (by omega)) ⟨pa, by rw [if_pos e]; exact sb⟩ ⟨by rw [e], ?_⟩
    rw [show wayOf (gt ns ((p + 1) % (ns.length : Int))) (gt ms ((s + 1) % (ms.length : Int))) = 1 from if_pos e, lon1, lon1]
    intro z
    refine cd.1 (congrArg mate ?_)
    have z' : gt ns ((p + 1) % (ns.length : Int) - 1) = gt ms ((s + 1) % (ms.length : Int) - 1) := z
    rw [gp, gs] at z'
    exact z'
  by_cases c2 : mate (gt ms s) = gt ns (p + 1)
  · right
    have e : gt ns ((p + 1) % (ns.length : Int)) = mate (gt ms s) := by rw [ga, c2]
    have ne : gt ns ((p + 1) % (ns.length : Int)) ≠ gt ms s := fun z => mate_ne _ (e.symm.trans z)
    refine fin s0 s1 ⟨pa, by rw [if_neg ne]⟩ ⟨by rw [e, mate_half], ?_⟩
    rw [show wayOf (gt ns ((p + 1) % (ns.length : Int))) (gt ms s) = -1 from if_neg ne, lon1, lonM]
    intro z
    have z' : gt ns ((p + 1) % (ns.length : Int) - 1) = mate (gt ms (s - -1)) := z
    rw [gp, show s - -1 = s + 1 by omega] at z'
    refine cd.2 ?_
    rw [z', mate_mate]
  · left
    exact ⟨by rw [← mt_across B c c2]; exact h, tri_across c c2⟩
end
end Ln
set_option maxRecDepth 100000
set_option maxHeartbeats 4000000
namespace Ln
open Wd Tt
def meetAt (row ns ms : List Int) (p s : Nat) : List (Nat × Nat) := if mtB row ns ms (p : Int) (s : Int) = true then [(p, s)] else []
def meetRow (row ns ms : List Int) (p m : Nat) : List (Nat × Nat) := (List.range m).flatMap (meetAt row ns ms p)
def meetsL (row ns ms : List Int) (n : Nat) : List (Nat × Nat) := (List.range n).flatMap fun p => meetRow row ns ms p ms.length
def trF (row ns ms : List Int) : List (List Int) := (meetsL row ns ms ns.length).map fun q => (tri ns ms (q.1 : Int) (q.2 : Int)).1
def trS (row ns ms : List Int) : List (List Int) := (meetsL row ns ms ns.length).map fun q => (tri ns ms (q.1 : Int) (q.2 : Int)).2
section
variable {row ns ms : List Int}
theorem meet_mem {n : Nat} {q : Nat × Nat} : q ∈ meetsL row ns ms n ↔ q.1 < n ∧ q.2 < ms.length ∧ mtB row ns ms (q.1 : Int) (q.2 : Int) = true := by
  unfold meetsL meetRow meetAt
  constructor
  · intro h
    obtain ⟨p, hp, h⟩ := List.mem_flatMap.mp h
    obtain ⟨s, hs, h⟩ := List.mem_flatMap.mp h
    split at h
    · next c =>
      rw [List.mem_singleton.mp h]
      exact ⟨List.mem_range.mp hp, List.mem_range.mp hs, c⟩
    · cases h
  · rintro ⟨h1, h2, h3⟩
    refine List.mem_flatMap.mpr ⟨q.1, List.mem_range.mpr h1, List.mem_flatMap.mpr ⟨q.2, List.mem_range.mpr h2, ?_⟩⟩
    rw [if_pos h3]
    exact List.mem_singleton.mpr rfl
theorem nodup_flat {α β : Type} (f : α → List β) {l : List α} (nd : l.Nodup) (h1 : ∀ a ∈ l, (f a).Nodup) (h2 : ∀ a ∈ l, ∀ b ∈ l, a ≠ b → ∀ x ∈ f a, ∀ y ∈ f b, x ≠ y) : (l.flatMap f).Nodup := by
  refine List.pairwise_flatMap.mpr ⟨h1, nd.imp_of_mem fun {a b} ha hb ne x hx y hy => h2 a ha b hb ne x hx y hy⟩
theorem meets_nodup (n : Nat) : (meetsL row ns ms n).Nodup := by
  have row_mem : ∀ {p m : Nat} {q : Nat × Nat}, q ∈ meetRow row ns ms p m → q.1 = p := fun {p m q} h => by
    obtain ⟨s, _, h⟩ := List.mem_flatMap.mp h
    unfold meetAt at h
    split at h
    · rw [List.mem_singleton.mp h]
    · cases h
  refine nodup_flat _ List.nodup_range (fun p _ => nodup_flat _ List.nodup_range (fun s _ => ?_) fun s _ s' _ ne x hx y hy e => ?_) fun p _ p' _ ne x hx y hy e => ?_
  · unfold meetAt
    split <;> simp
  · unfold meetAt at hx hy
    split at hx
    · split at hy
      · rw [List.mem_singleton.mp hx, List.mem_singleton.mp hy] at e
        exact ne (Prod.mk.inj e).2
      · cases hy
    · cases hx
  · refine ne ?_
    rw [← row_mem hx, ← row_mem hy, e]
theorem pair_mem {n : Nat} {x : List Int} : x ∈ pairsL row ns ms n ↔ ∃ a b : Nat, a < n ∧ b < ms.length ∧ ((acr row ns ms (a : Int) (b : Int) = true ∧ x = [(a : Int), (b : Int), 0]) ∨ ∃ l, aln row ns ms (a : Int) (b : Int) = some l ∧ x = [(a : Int), (b : Int), l]) := by
  unfold pairsL pairRow
  constructor
  · intro h
    obtain ⟨a, ha, h⟩ := List.mem_flatMap.mp h
    obtain ⟨b, hb, h⟩ := List.mem_flatMap.mp h
    refine ⟨a, b, List.mem_range.mp ha, List.mem_range.mp hb, ?_⟩
    unfold pairAt at h
    rcases List.mem_append.mp h with h | h
    · split at h
      · next c => exact .inl ⟨c, List.mem_singleton.mp h⟩
      · cases h
    · cases e : aln row ns ms (a : Int) (b : Int) with
      | none =>
        rw [e] at h
        cases h
      | some l =>
        rw [e] at h
        exact .inr ⟨l, rfl, List.mem_singleton.mp h⟩
  · rintro ⟨a, b, ha, hb, h⟩
    refine List.mem_flatMap.mpr ⟨a, List.mem_range.mpr ha, List.mem_flatMap.mpr ⟨b, List.mem_range.mpr hb, ?_⟩⟩
    unfold pairAt
    rcases h with ⟨c, rfl⟩ | ⟨l, e, rfl⟩
    · rw [if_pos c]
      exact List.mem_append_left _ (List.mem_singleton.mpr rfl)
    · rw [e]
      exact List.mem_append_right _ (List.mem_singleton.mpr rfl)
theorem aln_pos (B : Bt2 row ns ms) {a b l : Int} (h : aln row ns ms a b = some l) : 0 < l := by
  obtain ⟨_, o, _, e, _⟩ := (aln_some B).mp h
  omega
theorem pairs_nodup (B : Bt2 row ns ms) (n : Nat) : (pairsL row ns ms n).Nodup := by
  have at_mem : ∀ {a b : Nat} {x : List Int}, x ∈ pairAt row ns ms a b → ∃ l, x = [(a : Int), (b : Int), l] := fun h => pairAt_ne h
  refine nodup_flat _ List.nodup_range (fun a _ => nodup_flat _ List.nodup_range (fun b _ => ?_) fun b _ b' _ ne x hx y hy e => ?_) fun a _ a' _ ne x hx y hy e => ?_
  · unfold pairAt
    refine List.nodup_append.mpr ⟨by split <;> simp, by cases Ln.aln row ns ms (a : Int) (b : Int) <;> simp [alnL], fun x hx y hy e => ?_⟩
    split at hx
    · cases ea : aln row ns ms (a : Int) (b : Int) with
      | none =>
        rw [ea] at hy
        cases hy
      | some l =>
        rw [ea] at hy
        rw [List.mem_singleton.mp hx, List.mem_singleton.mp hy] at e
        have := aln_pos B ea
        simp only [List.cons.injEq, and_true, true_and] at e
        omega
    · cases hx
  · obtain ⟨l, rfl⟩ := at_mem hx
    obtain ⟨l', rfl⟩ := at_mem hy
    simp only [List.cons.injEq, and_true] at e
    omega
  · unfold pairRow at hx hy
    obtain ⟨b, _, hx⟩ := List.mem_flatMap.mp hx
    obtain ⟨b', _, hy⟩ := List.mem_flatMap.mp hy
    obtain ⟨l, rfl⟩ := at_mem hx
    obtain ⟨l', rfl⟩ := at_mem hy
    simp only [List.cons.injEq, and_true] at e
    omega
theorem lt_nat {i : Int} {n : Nat} (h0 : 0 ≤ i) (h1 : i < n) : ∃ k : Nat, k < n ∧ i = (k : Int) := by
  obtain ⟨k, rfl⟩ := Int.eq_ofNat_of_zero_le h0
  exact ⟨k, by omega, rfl⟩
theorem trF_perm (B : Bt2 row ns ms) : (trF row ns ms).Perm (pairsL row ns ms ns.length) := by
  have l1 := List.length_pos_iff.mpr B.n
  have l2 := List.length_pos_iff.mpr B.m
  have cases_ : ∀ {q : Nat × Nat}, q ∈ meetsL row ns ms ns.length → _ := fun {q} h => disc_cases B (Int.natCast_nonneg q.1) (Int.ofNat_lt.mpr (meet_mem.mp h).1) (Int.natCast_nonneg q.2) (Int.ofNat_lt.mpr (meet_mem.mp h).2.1) (meet_mem.mp h).2.2
  have eqm : ∀ {p p' n : Nat}, p < n → p' < n → (p : Int) % (n : Int) = (p' : Int) % (n : Int) → p = p' := fun h h' e => by
    rw [Int.emod_eq_of_lt (by omega) (by omega), Int.emod_eq_of_lt (by omega) (by omega)] at e
    omega
  have nd : (trF row ns ms).Nodup := by
    refine List.pairwise_map.mpr ((meets_nodup ns.length).imp_of_mem fun {q q'} hq hq' ne e => ne ?_)
    obtain ⟨b1, b2, _⟩ := meet_mem.mp hq
    obtain ⟨b1', b2', _⟩ := meet_mem.mp hq'
    rcases cases_ hq with ⟨_, t⟩ | ⟨a, b, o, _, _, _, _, d, _, t⟩ <;> rcases cases_ hq' with ⟨_, t'⟩ | ⟨a', b', o', _, _, _, _, d', _, t'⟩
    · rw [t, t'] at e
      simp only [List.cons.injEq, and_true] at e
      exact Prod.ext (by omega) (by omega)
    · rw [t, t'] at e
      simp only [List.cons.injEq, and_true] at e
      omega
    · rw [t, t'] at e
      simp only [List.cons.injEq, and_true] at e
      omega
    · rw [t, t'] at e
      simp only [List.cons.injEq, and_true] at e
      obtain ⟨rfl, rfl, _⟩ := e
      exact Prod.ext (eqm b1 b1' (d.p.trans d'.p.symm)) (eqm b2 b2' (d.s.trans d'.s.symm))
  refine (List.perm_ext_iff_of_nodup nd (pairs_nodup B _)).mpr fun x => ?_
  rw [pair_mem]
  constructor
  · intro h
    obtain ⟨q, hq, rfl⟩ := List.mem_map.mp h
    obtain ⟨b1, b2, _⟩ := meet_mem.mp hq
    rcases cases_ hq with ⟨c, t⟩ | ⟨a, b, o, a0, a1, b0, b1, _, c, t⟩
    · exact ⟨q.1, q.2, b1, b2, .inl ⟨c, by rw [t]⟩⟩
    · obtain ⟨a, ha, rfl⟩ := lt_nat a0 a1
      obtain ⟨b, hb, rfl⟩ := lt_nat b0 b1
      exact ⟨a, b, ha, hb, .inr ⟨_, c, by rw [t]⟩⟩
  · rintro ⟨a, b, ha, hb, ⟨c, rfl⟩ | ⟨l, c, rfl⟩⟩
    · have nde : (endsL ns (a : Int) ms (b : Int)).Nodup := by
        unfold acr at c
        rw [Bool.and_eq_true] at c
        exact of_decide_eq_true c.1
      unfold endsL at nde
      simp only [List.nodup_cons, List.mem_cons, List.not_mem_nil, or_false, not_or] at nde
      have n1 : ¬ gt ms ((b : Int) + 1) = gt ns ((a : Int) + 1) := fun z => nde.2.1.2 z.symm
      have n2 : ¬ mate (gt ms (b : Int)) = gt ns ((a : Int) + 1) := fun z => nde.2.1.1 z.symm
      refine List.mem_map.mpr ⟨(a, b), meet_mem.mpr ⟨ha, hb, by rw [mt_across B n1 n2]; exact c⟩, ?_⟩
      rw [tri_across n1 n2]
    · obtain ⟨fs, o, ho, rfl, fl⟩ := (aln_some B).mp c
      obtain ⟨p, hp, ep⟩ := lt_nat (Int.emod_nonneg ((a : Int) - 1) (show (ns.length : Int) ≠ 0 by omega)) (Int.emod_lt_of_pos ((a : Int) - 1) (show (0 : Int) < ns.length by omega))
      obtain ⟨s, hs, es⟩ := lt_nat (Int.emod_nonneg (if gt ns (a : Int) = gt ms (b : Int) then (b : Int) - 1 else b) (show (ms.length : Int) ≠ 0 by omega)) (Int.emod_lt_of_pos (if gt ns (a : Int) = gt ms (b : Int) then (b : Int) - 1 else b) (show (0 : Int) < ms.length by omega))
      have d : Behind ns ms (p : Int) (s : Int) (a : Int) (b : Int) := ⟨by rw [← ep, Int.emod_emod_of_dvd _ (Int.dvd_refl _)], by rw [← es, Int.emod_emod_of_dvd _ (Int.dvd_refl _)]⟩
      refine List.mem_map.mpr ⟨(p, s), meet_mem.mpr ⟨hp, hs, by rw [mt_first B d fs ho]; exact fl⟩, ?_⟩
      rw [tri_first B (by omega) (by omega) (by omega) (by omega) (by omega) (by omega) d fs ho]
end
end Ln
set_option maxRecDepth 100000
set_option maxHeartbeats 4000000
namespace Ln
open Wd Tt
section
variable {row ns ms : List Int}
theorem aln_mod {i i' j j' : Int} (h1 : i % (ns.length : Int) = i' % (ns.length : Int)) (h2 : j % (ms.length : Int) = j' % (ms.length : Int)) : aln row ns ms i j = aln row ns ms i' j' := by
  have e1 : gt ns i = gt ns i' := gt_mod h1
  have e2 : gt ms j = gt ms j' := gt_mod h2
  have e3 : lon ns i 1 = lon ns i' 1 := funext fun t => by
    rw [lon1, lon1]
    exact gt_sh h1 t
  have e4 : ∀ w, w = 1 ∨ w = -1 → lon ms j w = lon ms j' w := fun w hw => funext fun t => by
    rcases hw with rfl | rfl
    · rw [lon1, lon1]
      exact gt_sh h2 t
    · rw [lonM, lonM]
      exact congrArg mate (gt_sh' h2 t)
  have hi : isFst ns ms i j ↔ isFst ns ms i' j' := by
    unfold isFst
    rw [e1, e2, e3, e4 _ (wayOf_or _ _)]
  have hp : pst row ns ms i j = pst row ns ms i' j' := by
    unfold pst
    rw [e1, e2, e3, e4 _ (wayOf_or _ _)]
  unfold aln
  by_cases h : isFst ns ms i j
  · rw [if_pos h, if_pos (hi.mp h), hp]
  · rw [if_neg h, if_neg fun z => h (hi.mpr z)]
theorem byT_sym (a b c d : List Int) : byT c d a b = byT a b c d := by
  unfold byT
  rw [Bool.or_comm]
theorem mtB_sym (B : Bt2 row ns ms) {p s : Int} (n1 : ¬ gt ms (s + 1) = gt ns (p + 1)) (n2 : ¬ mate (gt ms s) = gt ns (p + 1)) (n3 : mate (gt ns p) ≠ gt ms (s + 1)) : mtB row ms ns s p = mtB row ns ms p s := by
  unfold mtB
  rw [Nat.add_comm ms.length ns.length, byT_sym, decide_eq_true (p := mate (gt ms s) ≠ gt ns (p + 1)) n2, decide_eq_true (p := mate (gt ns p) ≠ gt ms (s + 1)) n3, decide_eq_decide.mpr (show (mate (gt ms s) ≠ mate (gt ns p)) ↔ (mate (gt ns p) ≠ mate (gt ms s)) from ⟨fun h z => h z.symm, fun h z => h z.symm⟩)]
theorem acr_sym (B : Bt2 row ns ms) {p s : Int} (c : acr row ns ms p s = true) : acr row ms ns s p = true := by
  have nde : (endsL ns p ms s).Nodup := by
    have c' := c
    unfold acr at c'
    rw [Bool.and_eq_true] at c'
    exact of_decide_eq_true c'.1
  unfold endsL at nde
  simp only [List.nodup_cons, List.mem_cons, List.not_mem_nil, or_false, not_or] at nde
  have n1 : ¬ gt ms (s + 1) = gt ns (p + 1) := fun z => nde.2.1.2 z.symm
  have n2 : ¬ mate (gt ms s) = gt ns (p + 1) := fun z => nde.2.1.1 z.symm
  rw [← mt_across B.swap (fun z => n1 z.symm) (fun z => nde.1.2.2 z), mtB_sym B n1 n2 nde.1.2.2, mt_across B n1 n2]
  exact c
theorem tk2_pair (B : Bt2 row ns ms) {x : List Int} (h : x ∈ pairsL row ns ms ns.length) : tk2 ns ms x ∈ pairsL row ms ns ms.length ∧ tk2 ms ns (tk2 ns ms x) = x := by
  have l1 := List.length_pos_iff.mpr B.n
  have l2 := List.length_pos_iff.mpr B.m
  obtain ⟨a, b, ha, hb, ⟨c, rfl⟩ | ⟨l, c, rfl⟩⟩ := pair_mem.mp h
  · rw [tk2_3, if_pos (.inl rfl), tk2_3, if_pos (.inl rfl)]
    exact ⟨pair_mem.mpr ⟨b, a, hb, ha, .inl ⟨acr_sym B c, rfl⟩⟩, rfl⟩
  · obtain ⟨fs, o, ho, rfl, fl⟩ := (aln_some B).mp c
    have nz : ¬ (1 + (o : Int) = 0) := by omega
    by_cases e : gt ns (a : Int) = gt ms (b : Int)
    · rw [tk2_3, if_pos (.inr e), tk2_3, if_pos (.inr e.symm)]
      exact ⟨pair_mem.mpr ⟨b, a, hb, ha, .inr ⟨_, by rw [aln_same B e]; exact c, rfl⟩⟩, rfl⟩
    · obtain ⟨t1, t2⟩ := aln_turn B e c
      obtain ⟨b', hb', eb⟩ := lt_nat (Int.emod_nonneg ((b : Int) - o) (show (ms.length : Int) ≠ 0 by omega)) (Int.emod_lt_of_pos ((b : Int) - o) (show (0 : Int) < ms.length by omega))
      obtain ⟨a', ha', ea⟩ := lt_nat (Int.emod_nonneg ((a : Int) + o) (show (ns.length : Int) ≠ 0 by omega)) (Int.emod_lt_of_pos ((a : Int) + o) (show (0 : Int) < ns.length by omega))
      have mb : (b' : Int) % (ms.length : Int) = ((b : Int) - o) % (ms.length : Int) := by rw [← eb, Int.emod_emod_of_dvd _ (Int.dvd_refl _)]
      have ma : (a' : Int) % (ns.length : Int) = ((a : Int) + o) % (ns.length : Int) := by rw [← ea, Int.emod_emod_of_dvd _ (Int.dvd_refl _)]
      have e1 : (b : Int) - (1 + (o : Int)) + 1 = (b : Int) - o := by omega
      have e2 : (a : Int) + (1 + (o : Int)) - 1 = (a : Int) + o := by omega
      have ne : ¬ gt ms (b' : Int) = gt ns (a' : Int) := fun z => t2 (by rw [← gt_mod mb, ← gt_mod ma]; exact z)
      have f1 : ((a' : Int) - (1 + (o : Int)) + 1) % (ns.length : Int) = (a : Int) := by
        rw [show (a' : Int) - (1 + (o : Int)) + 1 = (a' : Int) + -(o : Int) by omega, ← ea, Int.emod_add_emod, show (a : Int) + o + -(o : Int) = a by omega, Int.emod_eq_of_lt (by omega) (by omega)]
      have f2 : ((b' : Int) + (1 + (o : Int)) - 1) % (ms.length : Int) = (b : Int) := by
        rw [show (b' : Int) + (1 + (o : Int)) - 1 = (b' : Int) + (o : Int) by omega, ← eb, Int.emod_add_emod, show (b : Int) - o + (o : Int) = b by omega, Int.emod_eq_of_lt (by omega) (by omega)]
      rw [tk2_3, if_neg (fun z => z.elim nz e), e1, e2, eb, ea, tk2_3, if_neg (fun z => z.elim nz ne), f1, f2]
      exact ⟨pair_mem.mpr ⟨b', a', hb', ha', .inr ⟨_, by rw [aln_mod mb ma]; exact t1, rfl⟩⟩, rfl⟩
theorem tk2_perm (B : Bt2 row ns ms) : ((pairsL row ns ms ns.length).map (tk2 ns ms)).Perm (pairsL row ms ns ms.length) := by
  have nd : ((pairsL row ns ms ns.length).map (tk2 ns ms)).Nodup := by
    refine List.pairwise_map.mpr ((pairs_nodup B _).imp_of_mem fun {x y} hx hy ne e => ne ?_)
    rw [← (tk2_pair B hx).2, ← (tk2_pair B hy).2, e]
  refine (List.perm_ext_iff_of_nodup nd (pairs_nodup B.swap _)).mpr fun x => ⟨fun h => ?_, fun h => ?_⟩
  · obtain ⟨y, hy, rfl⟩ := List.mem_map.mp h
    exact (tk2_pair B hy).1
  · obtain ⟨h1, h2⟩ := tk2_pair B.swap h
    exact List.mem_map.mpr ⟨_, h1, h2⟩
theorem tri_snd (B : Bt2 row ns ms) {q : Nat × Nat} (h : q ∈ meetsL row ns ms ns.length) : (tri ns ms (q.1 : Int) (q.2 : Int)).2 = tk2 ns ms (tri ns ms (q.1 : Int) (q.2 : Int)).1 := by
  obtain ⟨b1, b2, b3⟩ := meet_mem.mp h
  rcases disc_cases B (Int.natCast_nonneg q.1) (Int.ofNat_lt.mpr b1) (Int.natCast_nonneg q.2) (Int.ofNat_lt.mpr b2) b3 with ⟨_, t⟩ | ⟨a, b, o, _, _, _, _, _, _, t⟩
  · rw [t]
  · rw [t]
theorem trS_eq (B : Bt2 row ns ms) : trS row ns ms = (trF row ns ms).map (tk2 ns ms) := by
  unfold trS trF
  rw [List.map_map]
  exact List.map_congr_left fun q hq => tri_snd B hq
theorem trS_perm (B : Bt2 row ns ms) : (trS row ns ms).Perm (pairsL row ms ns ms.length) := by
  rw [trS_eq B]
  exact ((trF_perm B).map _).trans (tk2_perm B)
theorem tk2_own (ns : List Int) : ∀ x : List Int, tk2 ns ns x = tkl ns x
  | [] => rfl
  | [_] => rfl
  | [_, _] => rfl
  | [_, _, _] => rfl
  | _ :: _ :: _ :: _ :: _ => rfl
end
theorem up_eq : ∀ {xs ys : List (List Int)}, xs.Perm ys → xs.Pairwise (· ≤ ·) → ys.Pairwise (· ≤ ·) → xs = ys := fun p h1 h2 => p.eq_of_pairwise (fun a b _ _ h1 h2 => List.le_antisymm h1 h2) h1 h2
end Ln
set_option maxRecDepth 100000
set_option maxHeartbeats 4000000
namespace Tt
open PySem L2
section
variable {P : Program} {w : World} {K : PySem.W.Frag} {mg : Str → Option Value} {base : Heap}
theorem tC_i {v : V} {σ : L2.St} {H : Hp} {Q : VK} (h : Q v H) : tC v σ H Q := h
def spRowOk (K : PySem.W.Frag) : Sp := fun vs H Q _ => ∃ (t : Addr) (n : Nat) (row : List Int), vs = [.ref t] ∧ SqT K H t (row.map V.int) ∧ 1 ≤ n ∧ n ≤ 6 ∧ row.Perm (rgI (2 * n)) ∧ ∀ H', Same H H' → Q (.bl true) H'
theorem ok_is_row (T : Txt K mg) : FnOk P w K mg base CX0 3 T.is_row.a T.is_row.fd ["row"] (spRowOk K) := by
  refine T.is_row.F.ok sc_is_row (fun vs H Q E h => ?_) (fun cdv A outer s H vs Q E hr h => ?_)
  · obtain ⟨t, n, row, rfl, _⟩ := h
    rfl
  · obtain ⟨t, n, row, rfl, hs, n1, n6, pm, k⟩ := h
    have nd := sc_is_row.nd
    have hlen := perm_len pm
    refine ⟨_, (pss_cons (ps_if (PW.pt (pw_or (pt_not (pt_val (pe_call (ok_is_list T) (hr.mono (by decide)) (by rfl) T.is_list.g T.is_list.k T.is_list.b .nil pass0 (pa_cons (pv 0) pa_nil)))) (pw_or1 (pt_cmpR op_notIn_seq (pe_callB call_len_seq (by rfl) T.zlen (by decide +kernel) (pa_cons (pv 0) pa_nil)) (pe_tup (pa_cons pe_int (pa_cons pe_int (pa_cons pe_int (pa_cons pe_int (pa_cons pe_int (pa_cons pe_int pa_nil))))))) rfl))))
      (pss_one (ps_ret pe_bl))
      pss_nil)
    (pss_one (ps_ret (pe_and (pe_callB (cr_all rfl) (by rfl) T.zall (by decide +kernel) (pa_cons (pe_lc (own := [("end", 1)]) (g := gName 1) rfl nd (pi_tup (pv 0)) (blkOk_by (own := [("end", 1)]) (N := N_is_row) (sc := defScope s_is_row) (by decide +kernel)) (fun _ _ _ _ _ => pg_name (i := 1) nd rfl (Or.inl rfl)) (fun _ _ _ _ _ => pts_nil) (fun _ _ _ _ _ => (pe_call (ok_is_number T) (hr.mono (by decide)) (by rfl) T.is_number.g T.is_number.k T.is_number.b .nil pass0 (pa_cons (pv 1) pa_nil)))) pa_nil)) (pe_one (pe_cmpR (op_eqD hr.units) (pe_callB cr_sortedS2 (by rfl) T.zsorted (by decide +kernel) (pa_cons (pv 0) pa_nil)) (pe_listRg rfl (by rfl) T.zlist (prg_1 (by rfl) T.zrange (pe_callB call_len_seq (by rfl) T.zlen (by decide +kernel) (pa_cons (pv 0) pa_nil)))) (nomark _))))))), ?_⟩
    refine ⟨_, rfl, _, _, rfl, .tup hs, _, rfl, iteF ?_⟩
    refine ⟨_, rfl, t, _, rfl, .inr hs, (by show 6 ≤ sizeLine; decide), fun p hp => ?_⟩
    refine ⟨p, _, rfl, .inr (SqT.of upd_same), rfl, rfl, _, rfl, ?_⟩
    have hin : inV (.int ((row.map V.int).length : Int)) [.int 2, .int 4, .int 6, .int 8, .int 10, .int 12] = true := by
      rw [List.length_map, hlen]
      have : n = 1 ∨ n = 2 ∨ n = 3 ∨ n = 4 ∨ n = 5 ∨ n = 6 := by omega
      rcases this with rfl | rfl | rfl | rfl | rfl | rfl <;> rfl
    refine ite2 (fun c => ?_) (fun _ => ?_)
    · exfalso
      have c' : (!inV (.int ((row.map V.int).length : Int)) [.int 2, .int 4, .int 6, .int 8, .int 10, .int 12]) = true := c
      rw [hin] at c'
      exact Bool.noConfusion c'
    · have s1 : Same H (upd H p (.tup [.int 2, .int 4, .int 6, .int 8, .int 10, .int 12])) := same_new hp
      generalize upd H p (.tup [.int 2, .int 4, .int 6, .int 8, .int 10, .int 12]) = H1 at s1
      refine ⟨_, rfl, t, rfl, ⟨_, same_seqT s1 hs⟩, fun D1 hD1 => lc_tup (K := K) (a := t) (xs := row.map V.int) (fun i H' => H' D1 = some (.lst ((List.replicate i true).map V.bl)) ∧ Same H1 H')
        ⟨upd_same, same_new hD1⟩ (fun i H' _ z => same_seqT (s1.trans z.2) hs) ?_ ?_⟩
      · rintro i y H' hi ⟨h1, s2⟩
        obtain ⟨x, rfl, hx⟩ := ints_at hi
        have hil : i < row.length := (List.getElem?_eq_some_iff.mp hx).1
        refine ⟨rfl, yes_t ?_⟩
        refine ⟨_, rfl, _, _, rfl, .int x, _, h1, ?_, ?_, ?_⟩
        · rw [List.length_map, List.length_replicate]
          exact small1000 (by omega)
        · rw [upd_same, List.replicate_succ', List.map_append]
          rfl
        · intro b o hb
          rw [upd_ne (ne_of_none hb hD1)]
          exact s2 b o hb
      · rintro H' ⟨h1, s2⟩
        have s3 : Same H H' := s1.trans s2
        refine ⟨D1, List.replicate (row.map V.int).length true, rfl, SqL.of h1, _, rfl, ?_⟩
        have hall : (List.replicate (row.map V.int).length true).all id = true := by simp
        rw [hall]
        refine iteT ?_
        refine ⟨_, rfl, .inr ⟨t, row, rfl, same_seqT s3 hs, fun ns' p2 pm2 pw hp2 => ?_⟩⟩
        have s4 : Same H (upd H' p2 (.lst (ns'.map V.int))) := s3.trans (same_new hp2)
        refine ⟨_, rfl, t, _, rfl, .inr (same_seqT s4 hs), _, rfl, RgOk.of_le (by omega) ?_ (by omega) (by omega), fun q hq => ?_⟩
        · rw [List.length_map]
          omega
        · have eN : ns' = rgI (2 * n) := perm_sorted pm2 pw pm
          have e1 : (upd (upd H' p2 (.lst (ns'.map V.int))) q (.lst (rgV 0 ((row.map V.int).length : Int)))) q = some (.lst ((rgI (2 * n)).map V.int)) := by
            rw [upd_same, rgV_rgI (by omega), List.length_map, hlen, Int.toNat_natCast]
          have e2 : (upd (upd H' p2 (.lst (ns'.map V.int))) q (.lst (rgV 0 ((row.map V.int).length : Int)))) p2 = some (.lst (ns'.map V.int)) := upk hq upd_same
          refine ⟨_, _, .lst (SqL.of e2) (dpAll_ints _ ns'), .lst (SqL.of e1) (dpAll_ints _ _), shapedAll_ints _, shapedAll_ints _, ?_⟩
          rw [eqv_ints, decide_eq_true eN]
          exact k _ (s4.trans (same_new hq))
def spSkinI (T : Txt K mg) : Sp := fun vs H Q _ => ∃ (p t dx : Addr) (n : Nat) (row : List Int), vs = [.ref p, .ref t] ∧ H p = some (.ins T.Skin.C dx []) ∧ FzT H t (row.map V.int) ∧ 1 ≤ n ∧ n ≤ 6 ∧ row.Perm (rgI (2 * n)) ∧
  ∀ (s : Nat) H', row[s]? = some 0 → SkAt T H' p (row.drop s ++ row.take s) → (∀ b o, H b = some o → b ≠ p → H' b = some o) → Q .non H'
def tTurned (K : PySem.W.Frag) : TE := tOp (rCatF K) (tCB (rTupF K) (tCons (tSl (rSlA K) (tVar 1) (tPart (tVar 2)) tNoPart) tNil)) (tCB (rTupF K) (tCons (tSl (rSlA K) (tVar 1) tNoPart (tPart (tVar 2))) tNil))
theorem row_turned {σ : L2.St} {H : Hp} {Q : VK} {t : Addr} {st : Nat} {row : List Int} (h1 : σ[1]? = some (some (.ref t))) (h2 : σ[2]? = some (some (.int (st : Nat)))) (ht : FzT H t (row.map V.int)) (hst : st < row.length) (hl : row.length ≤ 12)
    (k : ∀ (r : Addr) (H4 : Hp), Same H H4 → FzT H4 r ((row.drop st ++ row.take st).map V.int) → Q (.ref r) H4) : tTurned K σ H Q := by
  have hx : 0 < (row.map V.int).length := by rw [List.length_map]; omega
  have hd : ((row.drop st).map V.int) ≠ [] := fun z => by
    have := congrArg List.length z
    rw [List.length_map, List.length_drop] at this
    simp at this
    omega
  have hz : ((row.drop st).map V.int).length + ((row.take st).map V.int).length ≤ sizeLine := by
    rw [List.length_map, List.length_map, List.length_drop, List.length_take]
    have : (12 : Nat) ≤ sizeLine := by decide
    omega
  have step : ∀ (a : Addr) (H2 : Hp), Same H H2 → SqT K H2 a ((row.drop st).map V.int) → (st = 0 → a = t) →
      tCB (rTupF K) (tCons (tSl (rSlA K) (tVar 1) tNoPart (tPart (tVar 2))) tNil) σ H2 fun y H3 => rCatF K (.ref a) y H3 Q := by
    intro a H2 s2 ha hat
    refine ⟨_, h1, noPart_i ⟨_, h2, st, rfl, ?_⟩⟩
    refine slT_to (K := K) (by rw [List.length_map]; exact hst) (FzT.same ht s2).sq (fun b hb => ?_)
    have e1 : (upd H2 b (.tup ((row.map V.int).take st))) b = some (.tup ((row.take st).map V.int)) := by rw [upd_same, List.map_take]
    have s3 : Same H2 (upd H2 b (.tup ((row.map V.int).take st))) := same_new hb
    refine ⟨b, _, rfl, .inr ⟨SqT.of e1, ?_⟩⟩
    refine ⟨a, b, _, _, rfl, rfl, same_seqT s3 ha, SqT.of e1, hd, hz, fun z => ?_, fun z r ob hr hob => ?_⟩
    · have z0 : st = 0 := by
        have := congrArg List.length z
        rw [List.length_map, List.length_take, List.length_nil] at this
        omega
      subst z0
      rw [hat rfl]
      refine k t _ (s2.trans s3) ?_
      rw [show List.drop 0 row ++ List.take 0 row = row by simp]
      exact FzT.same (FzT.same ht s2) s3
    · refine k r _ ((s2.trans s3).trans (same_new hr)) ?_
      rw [List.map_append]
      exact FzT.new hob
  refine ⟨_, h1, _, h2, st, rfl, noPart_i ?_⟩
  refine slT_from (K := K) hx ht.sq (fun z => ?_) (fun nz a ha => ?_)
  · refine ⟨t, _, rfl, .inr ⟨ht.sq, ?_⟩⟩
    refine step t H (fun _ _ h => h) ?_ (fun _ => rfl)
    rw [z, List.drop_zero]
    exact ht.sq
  · have e1 : (upd H a (.tup ((row.map V.int).drop st))) a = some (.tup ((row.drop st).map V.int)) := by rw [upd_same, List.map_drop]
    refine ⟨a, _, rfl, .inr ⟨SqT.of e1, ?_⟩⟩
    refine step a _ (same_new ha) (SqT.of e1) (fun z => absurd z nz)
theorem ok_Skin_init (T : Txt K mg) : FnOk P w K mg base (L2.CX P w) 4 T.Skin.fI T.Skin.fd ["self", "row"] (spSkinI T) := by
  refine T.Skin.F.okX sc_Skin_init (fun vs H Q E h => ?_) (fun cdv A outer s H vs Q E hr h => ?_)
  · obtain ⟨p, t, dx, n, row, rfl, _⟩ := h
    rfl
  · obtain ⟨p, t, dx, n, row, rfl, hp, ht, n1, n6, pm, k⟩ := h
    have nd := sc_Skin_init.nd
    have hu := hu_of hr
    have hlen := perm_len pm
    refine ⟨_, (pss_cons (ps_if (pt_not (pt_val (pe_call (ok_is_row T) (hr.mono (by decide)) (by rfl) T.is_row.g T.is_row.k T.is_row.b .nil pass0 (pa_cons (pv 1) pa_nil))))
      (pss_one (ps_raise rfl (takes_of rfl rfl rfl rfl) (pmk_oex T.BadSkin.o T.BadSkin.i T.BadSkin.t (ok_BadSkin_init T) (hr.mono (by decide)) T.BadSkin.b .nil pass0 (by rfl) T.BadSkin.g (pa_cons pe_str pa_nil))))
      pss_nil)
    (pss_cons (ps_set (i := 2) nd rfl (Or.inl rfl) (pe_bmF PySem.F.plainAttrs_tuple PySem.F.slot_tuple_index PySem.F.type_tuple_index mt_tup_indexI (pv 1) (pa_cons pe_int pa_nil)))
    (pss_cons (ps_fld (pv 0) (pe_op op_catF (pe_callTy call_tuple_ofF (by rfl) T.ztuple (by decide +kernel) (pa_cons (pe_slice sl_tupA (pv 1) (po_some (pv 2)) po_none) pa_nil)) (pe_callTy call_tuple_ofF (by rfl) T.ztuple (by decide +kernel) (pa_cons (pe_slice sl_tupA (pv 1) po_none (po_some (pv 2))) pa_nil))) rfl)
    (pss_cons (ps_fld (pv 0) (pe_op op_fdiv (pe_callB call_len_seq (by rfl) T.zlen (by decide +kernel) (pa_cons (pv 1) pa_nil)) pe_int) rfl)
    (pss_one (ps_fld (pv 0) (pe_callTy call_tuple_ofF (by rfl) T.ztuple (by decide +kernel) (pa_cons (pe_lc (own := [("end", 3)]) (g := gName 3) rfl nd (pi_range1 rfl T.zrange (pa_cons (pe_callB call_len_seq (by rfl) T.zlen (by decide +kernel) (pa_cons (pv 1) pa_nil)) pa_nil)) (blkOk_by (own := [("end", 3)]) (N := N_Skin_init) (sc := defScope s_Skin_init) (by decide +kernel)) (fun _ _ _ _ _ => pg_name (i := 3) nd rfl (Or.inl rfl)) (fun _ _ _ _ _ => pts_nil) (fun _ _ _ _ _ => (pe_bmFK (K := K) rfl PySem.F.plainAttrs_tuple PySem.F.slot_tuple_index PySem.F.type_tuple_index (mt_tup_indexIK (K := K) rfl) (pe_fldK (K := K) rfl (pv 0) rfl) (pa_cons (pv 3) pa_nil)))) pa_nil)) rfl)))))), ?_⟩
    refine ⟨_, rfl, t, n, row, rfl, ht.sq, n1, n6, pm, fun H1 s1 => ⟨_, rfl, iteF ?_⟩⟩
    have ht1 := FzT.same ht s1
    have hp1 := s1 _ _ hp
    have h0 : (0 : Int) ∈ row := (perm_mem pm).mpr (by omega)
    obtain ⟨i0, i1⟩ := idx_at h0
    have hst : row.idxOf 0 < row.length := List.idxOf_lt_length_of_mem h0
    refine ⟨_, rfl, .inr ⟨rfl, t, _, rfl, ht1⟩, t, row, 0, row.idxOf 0, rfl, rfl, ht1.sq, i0, i1, ?_⟩
    generalize row.idxOf 0 = st at i0 hst
    clear i1
    refine row_turned (K := K) rfl rfl ht1 hst (by omega) (fun r H4 s4 fr => ?_)
    generalize hrow : row.drop st ++ row.take st = row2 at fr
    have pm2 : row2.Perm (rgI (2 * n)) := by rw [← hrow]; exact (turn_perm row st).trans pm
    have hlen2 : row2.length = 2 * n := perm_len pm2
    have hp4 : H4 p = some (.ins T.Skin.C dx []) := s4 _ _ hp1
    refine ⟨_, rfl, p, T.Skin.C, dx, [], rfl, hp4, T.Skin.c, nRow T, (by show 0 < 1000; decide), ?_⟩
    have hp5 : (upd H4 p (.ins T.Skin.C dx (putF "row" (.ref r) []))) p = some (.ins T.Skin.C dx [("row", .ref r)]) := upd_same
    have fr5 : FzT (upd H4 p (.ins T.Skin.C dx (putF "row" (.ref r) []))) r (row2.map V.int) := FzT.ne fr hp4 (fun _ _ z => nomatch z)
    have ft5 : FzT (upd H4 p (.ins T.Skin.C dx (putF "row" (.ref r) []))) t (row.map V.int) := FzT.ne (FzT.same ht1 s4) hp4 (fun _ _ z => nomatch z)
    have k5 : ∀ b o, H b = some o → b ≠ p → (upd H4 p (.ins T.Skin.C dx (putF "row" (.ref r) []))) b = some o := fun b o hb nb => by
      rw [upd_ne nb]
      exact s4 _ _ (s1 _ _ hb)
    generalize upd H4 p (.ins T.Skin.C dx (putF "row" (.ref r) [])) = H5 at hp5 fr5 ft5 k5
    refine ⟨_, rfl, t, _, rfl, .inr ft5.sq, _, _, rfl, rfl, ⟨by decide, by decide⟩, ?_⟩
    refine ⟨_, rfl, p, T.Skin.C, dx, _, rfl, hp5, T.Skin.c, nBands T, (by show 1 < 1000; decide), ?_⟩
    have ebands : ((row.map V.int).length : Int) / 2 = ((row2.length / 2 : Nat) : Int) := by
      rw [List.length_map, hlen2, hlen]
      rfl
    have eV : ((fun (i j : Int) => V.int (i / j)) ((row.map V.int).length : Int) 2) = V.int ((row2.length / 2 : Nat) : Int) := congrArg V.int ebands
    rw [eV]
    have hp6 : (upd H5 p (.ins T.Skin.C dx (putF "bands" (.int ((row2.length / 2 : Nat) : Int)) [("row", .ref r)]))) p = some (.ins T.Skin.C dx [("row", .ref r), ("bands", .int ((row2.length / 2 : Nat) : Int))]) := upd_same
    have fr6 : FzT (upd H5 p (.ins T.Skin.C dx (putF "bands" (.int ((row2.length / 2 : Nat) : Int)) [("row", .ref r)]))) r (row2.map V.int) := FzT.ne fr5 hp5 (fun _ _ z => nomatch z)
    have ft6 : FzT (upd H5 p (.ins T.Skin.C dx (putF "bands" (.int ((row2.length / 2 : Nat) : Int)) [("row", .ref r)]))) t (row.map V.int) := FzT.ne ft5 hp5 (fun _ _ z => nomatch z)
    have k6 : ∀ b o, H b = some o → b ≠ p → (upd H5 p (.ins T.Skin.C dx (putF "bands" (.int ((row2.length / 2 : Nat) : Int)) [("row", .ref r)]))) b = some o := fun b o hb nb => by
      rw [upd_ne nb]
      exact k5 b o hb nb
    generalize upd H5 p (.ins T.Skin.C dx (putF "bands" (.int ((row2.length / 2 : Nat) : Int)) [("row", .ref r)])) = H6 at hp6 fr6 ft6 k6
    refine ⟨_, rfl, t, _, rfl, .inr ft6.sq, _, rfl, by omega, by rw [List.length_map]; omega, fun D1 hD1 => ?_⟩
    refine lc_range (lo := 0) (n := ((row.map V.int).length : Int).toNat) (fun i H' => H' D1 = some (.lst (((places row2).take i).map V.int)) ∧ Same H6 H')
      ⟨upd_same, same_new hD1⟩ ?_ ?_
    · rintro i H' hi ⟨h1, s2⟩
      have hi2 : i < row2.length := by rw [List.length_map, hlen] at hi; omega
      have hm : (i : Int) ∈ row2 := (perm_mem pm2).mpr (by omega)
      obtain ⟨j0, j1⟩ := idx_at hm
      refine ⟨rfl, yes_t ?_⟩
      refine ⟨_, rfl, p, _, _, _, _, rfl, s2 _ _ hp6, T.Skin.c, nRow T, rfl, .inr ⟨rfl, r, _, rfl, FzT.same fr6 s2⟩, ?_⟩
      refine ⟨_, rfl, r, row2, i, _, rfl, by rw [Int.zero_add], (FzT.same fr6 s2).sq, j0, j1, ?_⟩
      refine ⟨_, h1, ?_, ?_⟩
      · rw [List.length_map, List.length_take]
        exact small1000 (by omega)
      · refine ⟨?_, fun b o hb => ?_⟩
        · rw [upd_same, List.take_add_one, place_at hi2, List.map_append]
          rfl
        · rw [upd_ne (ne_of_none hb hD1)]
          exact s2 b o hb
    · rintro H' ⟨h1, s2⟩
      have e2 : (places row2).take ((row.map V.int).length : Int).toNat = places row2 := by
        refine List.take_of_length_le ?_
        unfold places
        rw [List.length_map, List.length_map, List.length_range]
        omega
      rw [e2] at h1
      refine ⟨D1, _, rfl, .inl ⟨SqL.of h1, fun q ob hq hob => ?_⟩⟩
      have s3 : Same H6 (upd H' q (.frz ob (.tup ((places row2).map V.int)))) := s2.trans (same_new hq)
      have fq : FzT (upd H' q (.frz ob (.tup ((places row2).map V.int)))) q ((places row2).map V.int) := FzT.new hob
      generalize upd H' q (.frz ob (.tup ((places row2).map V.int))) = H7 at s3 fq
      refine ⟨_, rfl, p, T.Skin.C, dx, _, rfl, s3 _ _ hp6, T.Skin.c, nPlaces T, (by show 2 < 1000; decide), ?_⟩
      refine k st _ i0 ?_ (fun b o hb nb => ?_)
      · rw [hrow]
        exact ⟨dx, r, q, upd_same, FzT.ne (FzT.same fr6 s3) (s3 _ _ hp6) (fun _ _ z => nomatch z), FzT.ne fq (s3 _ _ hp6) (fun _ _ z => nomatch z)⟩
      · rw [upd_ne nb]
        exact s3 _ _ (k6 b o hb nb)
end
end Tt
set_option maxRecDepth 100000
set_option maxHeartbeats 4000000
namespace Tt
open PySem L2 Bt
section
variable {P : Program} {w : World} {K : PySem.W.Frag} {mg : Str → Option Value} {base : Heap}
theorem prT_same {H H' : Hp} {t : Addr} {a b : List Int} (s : Same H H') (h : PrT K H t a b) : PrT K H' t a b := by
  obtain ⟨p, q, h1, h2, h3⟩ := h
  exact ⟨p, q, same_seqT s h1, same_seqT s h2, same_seqT s h3⟩
theorem sqT_keep {H H' : Hp} {f q : Addr} {xs : List V} {ys : List V} (hf : H f = some (.lst ys)) (k : ∀ b o, H b = some o → b ≠ f → H' b = some o) (h : SqT K H q xs) : SqT K H' q xs := by
  rcases h with (h | ⟨ob, h⟩) | h
  · exact .inl (.inl (k _ _ h (ne_of h hf fun z => nomatch z)))
  · exact .inl (.inr ⟨ob, k _ _ h (ne_of h hf fun z => nomatch z)⟩)
  · exact .inr h
theorem not_two {x y z : Int} (h : (if true = true then !inV (V.int x) [V.int y, V.int z] else inV (V.int x) [V.int y, V.int z]) = true) : x ≠ y ∧ x ≠ z := by
  rw [if_pos rfl] at h
  have h' : (!(decide (y = x) || (decide (z = x) || false))) = true := h
  refine ⟨fun e => ?_, fun e => ?_⟩
  · subst e
    simp at h'
  · subst e
    simp at h'
theorem two_not {x y z : Int} (h : ¬ (if true = true then !inV (V.int x) [V.int y, V.int z] else inV (V.int x) [V.int y, V.int z]) = true) : (decide (x ≠ y) && decide (x ≠ z)) = false := by
  rw [if_pos rfl] at h
  have h' : ¬ (!(decide (y = x) || (decide (z = x) || false))) = true := h
  by_cases c1 : x = y
  · simp [c1]
  · by_cases c2 : x = z
    · simp [c2]
    · exact absurd (by simp [Ne.symm c1, Ne.symm c2]) h'
def duo (q : Nat × Nat) : List Int := [(q.1 : Int), (q.2 : Int)]
def spMeets (K : PySem.W.Frag) : Sp := fun vs H Q _ => ∃ (t u v : Addr) (row : List Int) (n : Nat) (ns ms : List Int), vs = [.ref t, .ref u, .ref v] ∧ SqT K H t (row.map V.int) ∧ n ≤ 6 ∧ row.Perm (rgI (2 * n)) ∧
  SqT K H u (ns.map V.int) ∧ SqT K H v (ms.map V.int) ∧ Rn row ns ∧ Rn row ms ∧
  ∀ (L : List (Addr × List Int)) l H', H l = none → Same H H' → TL H' l L → L.map (·.2) = (Ln.meetsL row ns ms ns.length).map duo → Q (.ref l) H'
theorem ok_l_meets (T : Txt K mg) : FnOk P w K mg base CX0 3 T.l_meets.a T.l_meets.fd ["row", "one", "other"] (spMeets K) := by
  refine T.l_meets.F.ok sc_l_meets (fun vs H Q E h => ?_) (fun cdv A outer s H vs Q E hr h => ?_)
  · obtain ⟨t, u, v, row, n, ns, ms, rfl, _⟩ := h
    rfl
  · obtain ⟨t, u, v, row, n, ns, ms, rfl, ht, n6, pm, hu, hv, rn, rm, k⟩ := h
    have nd := sc_l_meets.nd
    refine ⟨_, (pss_cons (ps_set (i := 3) nd rfl (Or.inl rfl) (pe_op op_add (pe_op op_add (pe_callB call_len_seq (by rfl) T.zlen (by decide +kernel) (pa_cons (pv 1) pa_nil)) (pe_callB call_len_seq (by rfl) T.zlen (by decide +kernel) (pa_cons (pv 2) pa_nil))) pe_int))
    (pss_cons (ps_par3 (i := 4) (j := 5) (l := 6) rfl nd rfl rfl rfl (by decide) (by decide) (by decide) rfl rfl rfl (pa_cons (pe_call (ok_l_ways T) (hr.mono (by decide)) (by rfl) T.l_ways.g T.l_ways.k T.l_ways.b .nil pass0 (pa_cons (pv 0) (pa_cons (pv 1) (pa_cons (pv 3) pa_nil)))) (pa_cons (pe_call (ok_l_ways T) (hr.mono (by decide)) (by rfl) T.l_ways.g T.l_ways.k T.l_ways.b .nil pass0 (pa_cons (pv 0) (pa_cons (pv 2) (pa_cons (pv 3) pa_nil)))) (pa_cons (pe_lst pa_nil) pa_nil))) rfl)
    (pss_cons (ps_for PassesOwn.never rfl (pi_range1 rfl T.zrange (pa_cons (pe_callB call_len_seq (by rfl) T.zlen (by decide +kernel) (pa_cons (pv 1) pa_nil)) pa_nil)) (pg_name (i := 7) nd rfl (Or.inl rfl))
      (pss_one (ps_for PassesOwn.never rfl (pi_range1 rfl T.zrange (pa_cons (pe_callB call_len_seq (by rfl) T.zlen (by decide +kernel) (pa_cons (pv 2) pa_nil)) pa_nil)) (pg_name (i := 8) nd rfl (Or.inl rfl))
        (pss_cons (ps_par (i := 9) (j := 10) rfl nd rfl rfl (by decide) rfl rfl (pa_cons (pe_op op_xor (pe_ix ix_tup (pv 1) (pv 7) (fun _ _ => rfl)) pe_int) (pa_cons (pe_tup (pa_cons (pe_op op_xor (pe_ix ix_tup (pv 2) (pv 8) (fun _ _ => rfl)) pe_int) (pa_cons (pe_ix ix_tup (pv 2) (pe_op op_mod (pe_callTy call_int1 (by rfl) T.zint (by decide +kernel) (pa_cons (pe_op op_add (pv 8) pe_int) pa_nil)) (pe_callB call_len_seq (by rfl) T.zlen (by decide +kernel) (pa_cons (pv 2) pa_nil))) (fun _ _ => rfl)) pa_nil))) pa_nil)) rfl)
        (pss_one (ps_if (PW.pt (pw_and (pt_cmpR op_notIn_seq (pv 9) (pv 10) rfl) (pw_and1 (pt_val (pe_call (ok_l_by_turns T) (hr.mono (by decide)) (by rfl) T.l_by_turns.g T.l_by_turns.k T.l_by_turns.b .nil pass0 (pa_cons (pe_ix ix_list (pv 4) (pv 7) (fun _ _ => rfl)) (pa_cons (pe_ix ix_list (pv 5) (pv 8) (fun _ _ => rfl)) pa_nil)))))))
          (pss_one (ps_expr (pe_bm PySem.F.plainAttrs_list PySem.F.slot_list_append PySem.F.type_list_append mt_append (pv 6) (pa_cons (pe_tup (pa_cons (pv 7) (pa_cons (pv 8) pa_nil))) pa_nil))))
          pss_nil))))))
    (pss_one (ps_ret (pv 6)))))), ?_⟩
    have B1 := rn.b n6 pm
    have B2 := rm.b n6 pm
    have n1 := rn.r.1
    have n2 := rm.r.1
    have lns := rn.l
    have lms := rm.l
    have l2 : (0 : Int) < ((ms.map V.int).length : Nat) := by
      rw [List.length_map]
      have := List.length_pos_iff.mpr n2
      omega
    refine ⟨_, rfl, u, _, rfl, .inr hu, _, rfl, v, _, rfl, .inr hv, rI0_add (v := ((ns.length + ms.length : Nat) : Int)) (by rw [List.length_map, List.length_map]; omega) (tC_i (rI0_add (v := ((ns.length + ms.length + 1 : Nat) : Int)) (by omega) ?_))⟩
    refine sqn ⟨_, rfl, _, rfl, _, rfl, t, u, row, ns, n, _, rfl, ht, hu, n6, pm, rn, by omega, fun la qa H1 s1 ea na wa => ?_⟩
    refine ⟨_, rfl, _, rfl, _, rfl, t, v, row, ms, n, _, rfl, same_seqT s1 ht, same_seqT s1 hv, n6, pm, rm, by omega, fun lb qb H2 s2 eb nb wb => ?_⟩
    refine ⟨(by show 0 ≤ sizeLine; decide), fun f hf => nil_i ⟨_, _, _, rfl, ?_⟩⟩
    have s12 := s1.trans s2
    have hf0 : H f = none := same_none s12 hf
    have n3 := same_new (o := .lst []) hf
    have s3 := s12.trans n3
    have ea3 := n3 _ _ (s2 _ _ ea)
    have eb3 := n3 _ _ eb
    have wa3 : ∀ (i : Nat) q, qa[i]? = some q → PrT K (upd H2 f (.lst [])) q (Ln.wayOn row ns (i : Int) (ns.length + ms.length + 1)) (Ln.wayBk row ns (i : Int) (ns.length + ms.length + 1)) := fun i q h => prT_same (s2.trans n3) (wa i q h)
    have wb3 : ∀ (i : Nat) q, qb[i]? = some q → PrT K (upd H2 f (.lst [])) q (Ln.wayOn row ms (i : Int) (ns.length + ms.length + 1)) (Ln.wayBk row ms (i : Int) (ns.length + ms.length + 1)) := fun i q h => prT_same n3 (wb i q h)
    have g3 : TL (upd H2 f (.lst [])) f [] := ⟨upd_same, fun q hq => (by cases hq)⟩
    generalize upd H2 f (.lst []) = H3 at s3 ea3 eb3 wa3 wb3 g3
    clear n3 hf s12 s2 s1 ea eb wa wb
    dsimp only
    have keep : ∀ {H4 H5 : Hp}, (∀ b o, H3 b = some o → b ≠ f → H4 b = some o) → Same H4 H5 → ∀ b o, H3 b = some o → b ≠ f → H5 b = some o := fun k4 s5 b o h n => s5 b o (k4 b o h n)
    have far_ : ∀ {H4 : Hp}, (∀ b o, H3 b = some o → b ≠ f → H4 b = some o) → Same H H4 := fun k4 b o h => k4 b o (s3 b o h) (ne_of_none h hf0)
    have af : la ≠ f := fun z => by
      subst z
      rw [g3.l] at ea3
      have : qa = [] := List.map_eq_nil_iff.mp (by injection (Option.some.inj ea3).symm)
      rw [this] at na
      exact n1 (List.length_eq_zero_iff.mp na.symm)
    have bf : lb ≠ f := fun z => by
      subst z
      rw [g3.l] at eb3
      have : qb = [] := List.map_eq_nil_iff.mp (by injection (Option.some.inj eb3).symm)
      rw [this] at nb
      exact n2 (List.length_eq_zero_iff.mp nb.symm)
    refine sqn ⟨_, rfl, u, _, rfl, .inr (same_seqT s3 hu), _, rfl, by omega, by rw [List.length_map]; omega, ?_⟩
    have pk : ∀ {H4 : Hp} {q : Addr} {a b : List Int}, (∀ b o, H3 b = some o → b ≠ f → H4 b = some o) → PrT K H3 q a b → PrT K H4 q a b := fun k4 ⟨p', q', h1, h2, h3⟩ => ⟨p', q', sqT_keep g3.l k4 h1, sqT_keep g3.l k4 h2, sqT_keep g3.l k4 h3⟩
    refine for_range (lo := 0) (n := (((ns.map V.int).length : Nat) : Int).toNat) (fun i σ H' => ∃ v7 v8 v9 v10 qs, σ = [some (.ref t), some (.ref u), some (.ref v), some (.int ((ns.length + ms.length + 1 : Nat) : Int)), some (.ref la), some (.ref lb), some (.ref f), v7, v8, v9, v10] ∧ (∀ b o, H3 b = some o → b ≠ f → H' b = some o) ∧ TL H' f qs ∧
        qs.map (·.2) = (Ln.meetsL row ns ms i).map duo ∧ qs.length ≤ i * 40)
      ⟨none, none, none, none, [], rfl, fun _ _ h _ => h, g3, rfl, Nat.zero_le _⟩ ?_ ?_
    · rintro i σ H4 hi ⟨v7, v8, v9, v10, qs, rfl, k4, g4, eq4, l4⟩
      have hi' : i < ns.length := by rw [List.length_map] at hi; omega
      rw [Int.zero_add]
      refine ⟨_, rfl, v, _, rfl, .inr (same_seqT (far_ k4) hv), _, rfl, by omega, by rw [List.length_map]; omega, ?_⟩
      refine for_range (lo := 0) (n := (((ms.map V.int).length : Nat) : Int).toNat) (fun j σ H' => ∃ v8 v9 v10 qs, σ = [some (.ref t), some (.ref u), some (.ref v), some (.int ((ns.length + ms.length + 1 : Nat) : Int)), some (.ref la), some (.ref lb), some (.ref f), some (.int (i : Int)), v8, v9, v10] ∧ (∀ b o, H3 b = some o → b ≠ f → H' b = some o) ∧ TL H' f qs ∧
          qs.map (·.2) = (Ln.meetsL row ns ms i ++ Ln.meetRow row ns ms i j).map duo ∧ qs.length ≤ i * 40 + j)
        ⟨v8, v9, v10, qs, rfl, k4, g4, by rw [eq4]; simp [Ln.meetRow], by omega⟩ ?_ ?_
      · rintro j σ H5 hj ⟨w8, w9, w10, rs, rfl, k5, g5, eq5, l5⟩
        have hj' : j < ms.length := by rw [List.length_map] at hj; omega
        rw [Int.zero_add]
        have sl : 8192 ≤ sizeLine := by decide
        have l6 : rs.length ≤ 1600 := by
          have : i * 40 ≤ 39 * 40 := Nat.mul_le_mul_right _ (by omega)
          omega
        have x1 := B1 _ (Ln.gt_mem n1 (i : Int))
        have x2 := B2 _ (Ln.gt_mem n2 (j : Int))
        have hu5 := same_seqT (far_ k5) hu
        have hv5 := same_seqT (far_ k5) hv
        refine sqn ⟨_, rfl, _, rfl, u, _, _, _, rfl, rfl, hu5, at_lt hi', _, _, rfl, rfl, ?_⟩
        refine ⟨_, rfl, _, rfl, v, _, _, _, rfl, rfl, hv5, at_lt hj', _, _, rfl, rfl, ?_⟩
        refine ⟨_, rfl, _, rfl, _, _, rfl, rfl, .inl ⟨_, rfl, ?_⟩⟩
        refine ⟨_, rfl, v, _, rfl, .inr hv5, _, _, rfl, rfl, l2, v, _, _, _, rfl, rfl, hv5, at_gt n2 _, ?_⟩
        refine ⟨(by show 2 ≤ sizeLine; decide), fun e he => ?_⟩
        dsimp only
        rw [xor_mate x1.1 x1.2, xor_mate x2.1 x2.2]
        refine nil_i ⟨_, _, rfl, ?_⟩
        have s6 := same_new (o := .tup [.int (Wd.mate (Ln.gt ms (j : Int))), .int (Ln.gt ms ((j : Int) + 1))]) he
        have e6 : (upd H5 e (.tup [.int (Wd.mate (Ln.gt ms (j : Int))), .int (Ln.gt ms ((j : Int) + 1))])) e = some (.tup [.int (Wd.mate (Ln.gt ms (j : Int))), .int (Ln.gt ms ((j : Int) + 1))]) := upd_same
        have k6 := keep k5 s6
        have g6 := g5.same s6
        generalize upd H5 e (.tup [.int (Wd.mate (Ln.gt ms (j : Int))), .int (Ln.gt ms ((j : Int) + 1))]) = H6 at s6 e6 k6 g6
        clear s6 he hu5 hv5 x1 x2 g5 k5
        have rs_ : Ln.meetsL row ns ms i ++ Ln.meetRow row ns ms i (j + 1) = (Ln.meetsL row ns ms i ++ Ln.meetRow row ns ms i j) ++ Ln.meetAt row ns ms i j := by
          unfold Ln.meetRow
          rw [List.range_succ, List.flatMap_append]
          simp
        obtain ⟨qi, hqi⟩ : ∃ q, qa[i]? = some q := ⟨_, List.getElem?_eq_getElem (by rw [na]; exact hi')⟩
        obtain ⟨qj, hqj⟩ : ∃ q, qb[j]? = some q := ⟨_, List.getElem?_eq_getElem (by rw [nb]; exact hj')⟩
        have no : Ln.mtB row ns ms (i : Int) (j : Int) = false → (rs.map (·.2) = (Ln.meetsL row ns ms i ++ Ln.meetRow row ns ms i (j + 1)).map duo) := fun c => by
          rw [rs_, Ln.meetAt, if_neg (by rw [c]; exact Bool.false_ne_true), List.append_nil]
          exact eq5
        refine ⟨_, rfl, _, rfl, e, _, rfl, .inr (SqT.of e6), rfl, rfl, ⟨_, rfl, ite2 (fun c => ?_) (fun c => ?_)⟩⟩
        · have c' : Wd.mate (Ln.gt ns (i : Int)) ≠ Wd.mate (Ln.gt ms (j : Int)) ∧ Wd.mate (Ln.gt ns (i : Int)) ≠ Ln.gt ms ((j : Int) + 1) := not_two c
          refine ⟨_, rfl, _, rfl, la, _, _, _, rfl, rfl, SqL.of (k6 _ _ ea3 af), atI_n (by rw [List.getElem?_map, hqi]; rfl), ?_⟩
          refine ⟨_, rfl, _, rfl, lb, _, _, _, rfl, rfl, SqL.of (k6 _ _ eb3 bf), atI_n (by rw [List.getElem?_map, hqj]; rfl), ?_⟩
          refine nil_i ⟨qi, qj, _, _, _, _, rfl, pk k6 (wa3 i qi hqi), pk k6 (wb3 j qj hqj), _, rfl, ite2 (fun d => ?_) (fun d => ?_)⟩
          · have mt : Ln.mtB row ns ms (i : Int) (j : Int) = true := by
              unfold Ln.mtB
              rw [decide_eq_true c'.1, decide_eq_true c'.2, d]
              rfl
            refine ⟨_, rfl, .inl ⟨rfl, _, SqL.of g6.l⟩, _, rfl, _, rfl, (by show 2 ≤ sizeLine; decide), fun z hz => ?_⟩
            refine nil_i ⟨f, _, _, rfl, rfl, same_new hz _ _ g6.l, by rw [List.length_map]; omega, ?_⟩
            refine ⟨_, _, _, rs ++ [(z, [(i : Int), (j : Int)])], rfl, fun b o hb nbf => ?_, TL.put (ns := [(i : Int), (j : Int)]) g6 hz, ?_, by rw [List.length_append]; show _ + 1 ≤ _; omega⟩
            · rw [upd_ne nbf, upd_ne (ne_of_none (k6 b o hb nbf) hz)]
              exact k6 b o hb nbf
            · rw [rs_, Ln.meetAt, if_pos mt, List.map_append, List.map_append, eq5]
              rfl
          · have mt : Ln.mtB row ns ms (i : Int) (j : Int) = false := by
              unfold Ln.mtB
              rw [show Ln.byT _ _ _ _ = false from by simpa using d, Bool.and_false]
            exact ⟨_, _, _, rs, rfl, k6, g6, no mt, by omega⟩
        · have mt : Ln.mtB row ns ms (i : Int) (j : Int) = false := by
            unfold Ln.mtB
            rw [two_not c, Bool.false_and]
          exact ⟨_, _, _, rs, rfl, k6, g6, no mt, by omega⟩
      · rintro σ H5 ⟨w8, w9, w10, rs, rfl, k5, g5, eq5, l5⟩
        have e2 : (((ms.length : Nat) : Int).toNat) = ms.length := by omega
        refine ⟨_, _, _, _, rs, rfl, k5, g5, ?_, ?_⟩
        · rw [eq5, List.length_map, e2]
          unfold Ln.meetsL
          rw [List.range_succ, List.flatMap_append]
          simp
        · rw [List.length_map, e2] at l5
          omega
    · rintro σ H4 ⟨v7, v8, v9, v10, qs, rfl, k4, g4, eq4, l4⟩
      have e2 : (((ns.length : Nat) : Int).toNat) = ns.length := by omega
      rw [List.length_map, e2] at eq4
      exact ⟨_, rfl, k qs f H4 hf0 (far_ k4) g4 eq4⟩
end
end Tt
set_option maxRecDepth 100000
set_option maxHeartbeats 4000000
namespace Tt
open PySem L2
section
variable {P : Program} {w : World} {K : PySem.W.Frag} {mg : Str → Option Value} {base : Heap}
structure Sh (k N : Nat) (d : PyData) : Prop where
  sh : d.showable = true
  hd : d.hasDict = false
  dp : d.depth ≤ k
  ln : d.shown.length ≤ N
theorem sh_all {k N : Nat} : ∀ ds : List PyData, (∀ d ∈ ds, Sh k N d) → PyData.showableAll ds = true ∧ PyData.hasDictAll ds = false ∧ PyData.depthAll ds ≤ k ∧ ((PyData.shownAll ds).map (·.length)).sum ≤ ds.length * N ∧ (PyData.shownAll ds).length = ds.length
  | [], _ => ⟨rfl, rfl, Nat.zero_le _, Nat.zero_le _, rfl⟩
  | d :: ds, h => by
    obtain ⟨a1, a2, a3, a4, a5⟩ := sh_all ds fun x hx => h x (List.mem_cons_of_mem _ hx)
    have b := h d List.mem_cons_self
    refine ⟨?_, ?_, ?_, ?_, ?_⟩
    · show (d.showable && PyData.showableAll ds) = true
      rw [b.sh, a1]
      rfl
    · show (d.hasDict || PyData.hasDictAll ds) = false
      rw [b.hd, a2]
      rfl
    · show max d.depth (PyData.depthAll ds) ≤ k
      have := b.dp
      omega
    · show (d.shown.length :: (PyData.shownAll ds).map (·.length)).sum ≤ (ds.length + 1) * N
      rw [List.sum_cons, Nat.add_mul, Nat.one_mul]
      have := b.ln
      omega
    · show (d.shown :: PyData.shownAll ds).length = ds.length + 1
      rw [List.length_cons, a5]
theorem Sh.list {k N : Nat} {ds : List PyData} (h : ∀ d ∈ ds, Sh k N d) : Sh (k + 1) (ds.length * N + 2 * ds.length + 3) (.list ds) := by
  obtain ⟨a1, a2, a3, a4, a5⟩ := sh_all ds h
  refine ⟨a1, a2, ?_, ?_⟩
  · show PyData.depthAll ds + 1 ≤ k + 1
    omega
  · have := listText_len_le (PyData.shownAll ds)
    show (listText (PyData.shownAll ds)).length ≤ _
    omega
theorem Sh.tuple {k N : Nat} {ds : List PyData} (h : ∀ d ∈ ds, Sh k N d) : Sh (k + 1) (ds.length * N + 2 * ds.length + 3) (.tuple ds) := by
  obtain ⟨a1, a2, a3, a4, a5⟩ := sh_all ds h
  refine ⟨a1, a2, ?_, ?_⟩
  · show PyData.depthAll ds + 1 ≤ k + 1
    omega
  · have := tupleText_len_le (PyData.shownAll ds)
    show (tupleText (PyData.shownAll ds)).length ≤ _
    omega
theorem Sh.int {i : Int} (h0 : -50 ≤ i) (h1 : i ≤ 99) : Sh 0 20 (.int i) := by
  have z : ∀ n : Fin 150, (PyData.showable (.int (((n.val : Nat) : Int) - 50))) = true ∧ (PyData.shown (.int (((n.val : Nat) : Int) - 50))).length ≤ 20 := by decide +kernel
  obtain ⟨k, e⟩ := Int.eq_ofNat_of_zero_le (show 0 ≤ i + 50 by omega)
  have e' : i = (k : Int) - 50 := by omega
  subst e'
  obtain ⟨a, b⟩ := z ⟨k, by omega⟩
  exact ⟨a, rfl, Nat.zero_le _, b⟩
theorem Sh.mono {k k' N N' : Nat} {d : PyData} (h : Sh k N d) (a : k ≤ k') (b : N ≤ N') : Sh k' N' d := ⟨h.sh, h.hd, Nat.le_trans h.dp a, Nat.le_trans h.ln b⟩
theorem Sh.ints {ns : List Int} (h : ∀ x ∈ ns, 0 ≤ x ∧ x ≤ 20) (l : ns.length ≤ 12) : Sh 1 300 (rowD ns) := by
  have h1 := Sh.tuple (k := 0) (N := 20) (ds := ns.map PyData.int) fun d hd => by
    obtain ⟨x, hx, rfl⟩ := List.mem_map.mp hd
    have := h x hx
    exact Sh.int (by omega) (by omega)
  refine h1.mono (Nat.le_refl _) ?_
  rw [List.length_map]
  omega
theorem Sh.big {k N : Nat} {d : PyData} {H : Hp} {a : Addr} {Q : VK} (h : Sh k N d) (hk : k ≤ 60) (hn : N ≤ 2 ^ 20) (dp : Dp K H (.ref a) d) (q : Q (.str d.shown) H) : rShow K [.ref a] H Q :=
  ⟨a, d, rfl, dp, h.sh, h.hd, Nat.le_trans h.dp hk, Nat.le_trans h.ln (Nat.le_trans hn (by decide)), q⟩
def Tri (x : List Int) : Prop := ∃ a b c : Int, x = [a, b, c] ∧ 0 ≤ a ∧ a ≤ 99 ∧ 0 ≤ b ∧ b ≤ 99 ∧ 0 ≤ c ∧ c ≤ 99
theorem tri_sh {x : List Int} (h : Tri x) : Sh 1 69 (rowD x) := by
  obtain ⟨a, b, c, rfl, a0, a1, b0, b1, c0, c1⟩ := h
  exact Sh.tuple (k := 0) (N := 20) (ds := [.int a, .int b, .int c]) fun d hd => by
    simp only [List.mem_cons, List.not_mem_nil, or_false] at hd
    rcases hd with rfl | rfl | rfl
    · exact Sh.int (by omega) a1
    · exact Sh.int (by omega) b1
    · exact Sh.int (by omega) c1
theorem tris_sh {xs : List (List Int)} (h : ∀ x ∈ xs, Tri x) (l : xs.length ≤ 3200) : Sh 2 (2 ^ 20) (.list (xs.map rowD)) := by
  refine (Sh.list (k := 1) (N := 69) (ds := xs.map rowD) fun d hd => ?_).mono (Nat.le_refl _) ?_
  · obtain ⟨x, hx, rfl⟩ := List.mem_map.mp hd
    exact tri_sh (h x hx)
  · rw [List.length_map]
    omega
theorem TL.dp {H : Hp} {f : Addr} {qs : List (Addr × List Int)} (h : TL H f qs) : Dp K H (.ref f) (.list ((qs.map (·.2)).map rowD)) := by
  refine .lst (SqL.of h.l) ?_
  rw [List.map_map]
  have : ∀ qs : List (Addr × List Int), (∀ q ∈ qs, H q.1 = some (.tup (q.2.map V.int))) → DpAll K H (qs.map fun q => V.ref q.1) (qs.map (rowD ∘ fun x => x.2)) := fun qs => by
    induction qs with
    | nil => exact fun _ => .nil
    | cons q qs ih => exact fun h => .cons (.tup (SqT.of (h q List.mem_cons_self)) (dpAll_intsL H q.2)) (ih fun y hy => h y (List.mem_cons_of_mem _ hy))
  exact this qs h.t
end
end Tt
set_option maxRecDepth 100000
set_option maxHeartbeats 4000000
namespace Ln
open Wd Tt
def sumZ (F : Int → Nat) : Nat → Nat
  | 0 => 0
  | n + 1 => sumZ F n + F (n : Int)
theorem sumZ_congr {F G : Int → Nat} : ∀ {n : Nat}, (∀ k : Nat, k < n → F (k : Int) = G (k : Int)) → sumZ F n = sumZ G n
  | 0, _ => rfl
  | n + 1, h => by
    show sumZ F n + F n = sumZ G n + G n
    rw [sumZ_congr fun k hk => h k (by omega), h n (by omega)]
theorem sumZ_add (F : Int → Nat) (a : Nat) : ∀ b, sumZ F (a + b) = sumZ F a + sumZ (fun t => F (t + a)) b
  | 0 => rfl
  | b + 1 => by
    show sumZ F (a + b) + F ((a + b : Nat) : Int) = _ + (sumZ (fun t => F (t + a)) b + F ((b : Int) + a))
    rw [sumZ_add F a b, show ((a + b : Nat) : Int) = (b : Int) + a by omega]
    omega
theorem sumZ_first (F : Int → Nat) (n : Nat) : sumZ F (n + 1) = F 0 + sumZ (fun t => F (t + 1)) n := by
  rw [Nat.add_comm, sumZ_add]
  show 0 + F 0 + _ = _
  rw [Nat.zero_add]
  rfl
theorem sumZ_per {F : Int → Nat} {n : Nat} (h : ∀ t, F (t + n) = F t) : ∀ a, sumZ F (a * n) = a * sumZ F n
  | 0 => by rw [Nat.zero_mul, Nat.zero_mul]; rfl
  | a + 1 => by
    rw [Nat.add_mul, Nat.one_mul, Nat.add_comm (a * n), sumZ_add, show (fun t => F (t + (n : Int))) = F from funext h, sumZ_per h a, Nat.add_mul, Nat.one_mul, Nat.add_comm]
theorem sumZ_sh1 {F : Int → Nat} {n : Nat} (h : ∀ t, F (t + n) = F t) : sumZ (fun t => F (t + 1)) n = sumZ F n := by
  have e := sumZ_first F n
  have e2 : sumZ F (n + 1) = sumZ F n + F (n : Int) := rfl
  have := h 0
  rw [Int.zero_add] at this
  omega
theorem sumZ_shN {F : Int → Nat} {n : Nat} (h : ∀ t, F (t + n) = F t) : ∀ c : Nat, sumZ (fun t => F (t + c)) n = sumZ F n
  | 0 => sumZ_congr fun k _ => congrArg F (by omega)
  | c + 1 => by
    rw [← sumZ_shN h c, ← sumZ_sh1 (F := fun t => F (t + c)) fun t => by rw [show t + (n : Int) + c = (t + c) + n by omega, h]]
    exact sumZ_congr fun k _ => congrArg F (by omega)
theorem sumZ_rev : ∀ (F : Int → Nat) (n : Nat), sumZ (fun t => F ((n : Int) - 1 - t)) n = sumZ F n
  | F, 0 => rfl
  | F, n + 1 => by
    show sumZ (fun t => F (((n + 1 : Nat) : Int) - 1 - t)) n + F (((n + 1 : Nat) : Int) - 1 - (n : Int)) = _
    rw [sumZ_first, ← sumZ_rev (fun t => F (t + 1)) n, show ((n + 1 : Nat) : Int) - 1 - (n : Int) = 0 by omega, Nat.add_comm]
    refine congrArg (F 0 + ·) (sumZ_congr fun k _ => congrArg F (by omega))
theorem perN {F : Int → Nat} {n : Nat} (h : ∀ t, F (t + n) = F t) (t k : Int) : F (t + k * n) = F t := by
  have up : ∀ (j : Nat) (t : Int), F (t + (j : Int) * n) = F t := fun j => by
    induction j with
    | zero => intro t; rw [show t + ((0 : Nat) : Int) * n = t by simp]
    | succ j ih =>
      intro t
      rw [show t + ((j + 1 : Nat) : Int) * n = (t + (j : Int) * n) + n by rw [Int.natCast_add, Int.add_mul]; simp; omega, h, ih]
  rcases Int.le_total 0 k with c | c
  · obtain ⟨j, rfl⟩ := Int.eq_ofNat_of_zero_le c
    exact up j t
  · obtain ⟨j, hj⟩ := Int.eq_ofNat_of_zero_le (show 0 ≤ -k by omega)
    have e : k = -(j : Int) := by omega
    subst e
    have := up j (t + -(j : Int) * n)
    rw [show t + -(j : Int) * n + (j : Int) * n = t by rw [Int.neg_mul]; omega] at this
    exact this.symm
theorem sumZ_sh {F : Int → Nat} {n : Nat} (hn : 0 < n) (h : ∀ t, F (t + n) = F t) (c : Int) : sumZ (fun t => F (t + c)) n = sumZ F n := by
  obtain ⟨j, hj⟩ := Int.eq_ofNat_of_zero_le (Int.emod_nonneg c (show (n : Int) ≠ 0 by omega))
  have e0 := Int.mul_ediv_add_emod c (n : Int)
  rw [← sumZ_shN h j]
  refine sumZ_congr fun k _ => ?_
  have e : (k : Int) + c = ((k : Int) + j) + (c / n) * n := by
    rw [Int.mul_comm (c / n), ← hj]
    omega
  rw [e, perN h]
theorem sumZ_back {F : Int → Nat} {n : Nat} (hn : 0 < n) (h : ∀ t, F (t + n) = F t) (c : Int) : sumZ (fun t => F (c - t)) n = sumZ F n := by
  rw [← sumZ_sh hn h (c - n + 1), ← sumZ_rev (fun t => F (t + (c - n + 1))) n]
  exact sumZ_congr fun k _ => congrArg F (by omega)
theorem sumZ_mul (b : Nat) (F : Int → Nat) : ∀ n, sumZ (fun t => b * F t) n = b * sumZ F n
  | 0 => rfl
  | n + 1 => by
    show sumZ (fun t => b * F t) n + b * F n = b * (sumZ F n + F n)
    rw [sumZ_mul b F n, Nat.mul_add]
theorem sumZ_plus (F G : Int → Nat) : ∀ n, sumZ (fun t => F t + G t) n = sumZ F n + sumZ G n
  | 0 => rfl
  | n + 1 => by
    show sumZ (fun t => F t + G t) n + (F n + G n) = sumZ F n + F n + (sumZ G n + G n)
    rw [sumZ_plus F G n]
    omega
def acN (row ns ms : List Int) (p s : Int) : Nat := if acr row ns ms p s = true then 1 else 0
def alN (row ns ms : List Int) (p s : Int) : Nat := match aln row ns ms p s with
  | some _ => 1
  | none => 0
def cnt (row ns ms : List Int) (p s : Int) : Nat := acN row ns ms p s + alN row ns ms p s
theorem pairAt_num (row ns ms : List Int) (a b : Nat) : (pairAt row ns ms a b).length = cnt row ns ms (a : Int) (b : Int) := by
  unfold pairAt cnt acN alN
  rw [List.length_append]
  cases aln row ns ms (a : Int) (b : Int) <;> split <;> rfl
theorem flat_num {α : Type} (f : Nat → List α) (F : Int → Nat) (h : ∀ k, (f k).length = F (k : Int)) : ∀ n, ((List.range n).flatMap f).length = sumZ F n
  | 0 => rfl
  | n + 1 => by
    rw [List.range_succ, List.flatMap_append, List.length_append, flat_num f F h n]
    show _ + ([n].flatMap f).length = sumZ F n + F (n : Int)
    rw [List.flatMap_singleton, h]
theorem pairs_num (row ns ms : List Int) (n : Nat) : (pairsL row ns ms n).length = sumZ (fun p => sumZ (fun s => cnt row ns ms p s) ms.length) n := by
  unfold pairsL
  refine flat_num _ _ (fun a => ?_) n
  unfold pairRow
  exact flat_num _ _ (fun b => pairAt_num row ns ms a b) _
section
variable {row ns ms : List Int}
theorem acr_mod {i i' j j' : Int} (h1 : i % (ns.length : Int) = i' % (ns.length : Int)) (h2 : j % (ms.length : Int) = j' % (ms.length : Int)) : acr row ns ms i j = acr row ns ms i' j' := by
  unfold acr endsL
  rw [gt_mod h1, gt_mod h2, gt_sh h1 1, gt_sh h2 1]
theorem cnt_mod {i i' j j' : Int} (h1 : i % (ns.length : Int) = i' % (ns.length : Int)) (h2 : j % (ms.length : Int) = j' % (ms.length : Int)) : cnt row ns ms i j = cnt row ns ms i' j' := by
  unfold cnt acN alN
  rw [acr_mod h1 h2, aln_mod h1 h2]
theorem add_len_mod (i : Int) (n : Nat) : (i + (n : Int)) % (n : Int) = i % (n : Int) := Int.add_emod_right i (n : Int)
theorem pow_get (t : List Int) : ∀ (a i : Nat), i < a * t.length → (pow t a)[i]? = t[i % t.length]?
  | 0, i, h => by rw [Nat.zero_mul] at h; exact absurd h (Nat.not_lt_zero _)
  | a + 1, i, h => by
    show (t ++ pow t a)[i]? = _
    by_cases c : i < t.length
    · rw [List.getElem?_append_left c, Nat.mod_eq_of_lt c]
    · rw [Nat.add_mul, Nat.one_mul] at h
      rw [List.getElem?_append_right (by omega), pow_get t a _ (by omega)]
      have e : i = i - t.length + t.length := by omega
      conv => rhs; rw [e]
      rw [Nat.add_mod_right]
theorem gt_pow {t : List Int} (ht : t ≠ []) {a : Nat} (ha : 1 ≤ a) (i : Int) : gt (pow t a) i = gt t i := by
  have l0 : 0 < t.length := List.length_pos_iff.mpr ht
  have hl : (pow t a).length = a * t.length := pow_len t a
  have lp : 0 < a * t.length := Nat.mul_pos ha l0
  have g := gt_get (pow_ne ht ha) i
  have h0 := Int.emod_nonneg i (show ((pow t a).length : Int) ≠ 0 by omega)
  have h1 := Int.emod_lt_of_pos i (show (0 : Int) < ((pow t a).length : Int) by omega)
  rw [pow_get t a _ (by omega)] at g
  obtain ⟨j, hj⟩ := Int.eq_ofNat_of_zero_le h0
  rw [hj, Int.toNat_natCast] at g
  have hlt := Nat.mod_lt j l0
  have e := gt_nat g
  rw [← e]
  refine gt_mod ?_
  rw [Int.natCast_emod, Int.emod_emod_of_dvd _ (Int.dvd_refl _), ← hj]
  exact Int.emod_emod_of_dvd i ⟨(a : Int), by rw [hl, Int.natCast_mul, Int.mul_comm]⟩
theorem shr_more {f g : Int → Int} {s : Int} {n n' o : Nat} (hn : n ≤ n') (h : shr f g s n = some o) : shr f g s n' = some o := by
  obtain ⟨h1, h2, h3⟩ := shr_some.mp h
  exact shr_some.mpr ⟨by omega, h2, h3⟩
theorem aln_as {ns' ms' : List Int} (B : Bt2 row ns ms) (B' : Bt2 row ns' ms') (hn : ∀ t, gt ns' t = gt ns t) (hm : ∀ t, gt ms' t = gt ms t) (hl : ns.length + ms.length ≤ ns'.length + ms'.length) (p s : Int) : aln row ns' ms' p s = aln row ns ms p s := by
  have e1 : lon ns' p 1 = lon ns p 1 := funext fun t => by rw [lon1, lon1, hn]
  have e2 : ∀ w, lon ms' s w = lon ms s w := fun w => funext fun t => by
    unfold lon
    rw [hm]
  have fi : isFst ns' ms' p s ↔ isFst ns ms p s := by
    unfold isFst
    rw [hn, hm, e1, e2]
  have key : ∀ l, aln row ns' ms' p s = some l ↔ aln row ns ms p s = some l := fun l => by
    rw [aln_some B', aln_some B, fi, hn, hm, e1, e2]
    constructor
    · rintro ⟨h, o, ho, r⟩
      obtain ⟨o', ho'⟩ := shr_end (wayOf_or (gt ns p) (gt ms s)) B.n B.m h.2
      have := shr_more hl ho'
      rw [ho] at this
      cases this
      exact ⟨h, o, ho', r⟩
    · rintro ⟨h, o, ho, r⟩
      exact ⟨h, o, shr_more hl ho, r⟩
  cases e : aln row ns ms p s with
  | some l => exact (key l).mpr e
  | none =>
    cases e' : aln row ns' ms' p s with
    | none => rfl
    | some l =>
      rw [(key l).mp e'] at e
      cases e
theorem cnt_as {ns' ms' : List Int} (B : Bt2 row ns ms) (B' : Bt2 row ns' ms') (hn : ∀ t, gt ns' t = gt ns t) (hm : ∀ t, gt ms' t = gt ms t) (hl : ns.length + ms.length ≤ ns'.length + ms'.length) (p s : Int) : cnt row ns' ms' p s = cnt row ns ms p s := by
  unfold cnt acN alN
  rw [aln_as B B' hn hm hl]
  unfold acr endsL
  simp only [hn, hm]
theorem Bt2.pow (B : Bt2 row ns ms) {a b : Nat} (ha : 1 ≤ a) (hb : 1 ≤ b) : Bt2 row (Wd.pow ns a) (Wd.pow ms b) :=
  ⟨B.l, pow_ne B.n ha, pow_ne B.m hb, (cr_pow B.n ha).mpr B.cn, (cr_pow B.m hb).mpr B.cm, fun x hx => B.rn x (pow_mem hx), fun x hx => B.rm x (pow_mem hx)⟩
theorem pairs_pow (B : Bt2 row ns ms) {a b : Nat} (ha : 1 ≤ a) (hb : 1 ≤ b) : (pairsL row (Wd.pow ns a) (Wd.pow ms b) (Wd.pow ns a).length).length = a * b * (pairsL row ns ms ns.length).length := by
  have la : ns.length ≤ a * ns.length := Nat.le_mul_of_pos_left _ ha
  have lb : ms.length ≤ b * ms.length := Nat.le_mul_of_pos_left _ hb
  have e := cnt_as B (B.pow ha hb) (fun t => gt_pow B.n ha t) (fun t => gt_pow B.m hb t) (by rw [pow_len, pow_len]; omega)
  rw [pairs_num, pairs_num, pow_len, pow_len]
  simp only [e]
  have h1 : ∀ p, sumZ (fun s => cnt row ns ms p s) (b * ms.length) = b * sumZ (fun s => cnt row ns ms p s) ms.length := fun p => sumZ_per (fun t => cnt_mod rfl (add_len_mod t _)) b
  simp only [h1]
  rw [sumZ_per (fun t => ?_) a, sumZ_mul, Nat.mul_assoc]
  refine congrArg (b * ·) (sumZ_congr fun k _ => cnt_mod (add_len_mod t _) rfl)
theorem pairs_swap (B : Bt2 row ns ms) : (pairsL row ms ns ms.length).length = (pairsL row ns ms ns.length).length := by
  rw [← (tk2_perm B).length_eq, List.length_map]
theorem meets_num (B : Bt2 row ns ms) : (meetsL row ns ms ns.length).length = (pairsL row ns ms ns.length).length := by
  rw [← (trF_perm B).length_eq]
  unfold trF
  rw [List.length_map]
theorem byI_swap (a b c d : Int) : byI a b d c = byI a b c d := by
  unfold byI
  cases btw a b c <;> cases btw a b d <;> rfl
theorem nodup_swap {a b c d : Int} : [a, b, d, c].Nodup ↔ [a, b, c, d].Nodup := by
  have h : List.Perm [a, b, d, c] [a, b, c, d] := ((List.Perm.swap c d []).cons b).cons a
  exact h.nodup_iff
theorem about_gt {k : Nat} (hm : ms ≠ []) (hk : k ≤ ms.length) (i : Int) : gt (turnAt (undo ms) k) i = mate (gt ms (-1 - (k : Int) - i)) := by
  have hu : undo ms ≠ [] := fun z => hm (List.length_eq_zero_iff.mp (by rw [← undo_len, z]; rfl))
  rw [gt_turn hu (by rw [undo_len]; exact hk), gt_undo hm]
  exact congrArg (fun z => mate (gt ms z)) (by omega)
theorem about_len (ms : List Int) (k : Nat) : (turnAt (undo ms) k).length = ms.length := by rw [turnAt_lenL, undo_len]
theorem acr_about {k : Nat} (hm : ms ≠ []) (hk : k ≤ ms.length) (p s : Int) : acr row ns (turnAt (undo ms) k) p (-2 - (k : Int) - s) = acr row ns ms p s := by
  have e1 : gt (turnAt (undo ms) k) (-2 - (k : Int) - s) = mate (gt ms (s + 1)) := by
    rw [about_gt hm hk]
    exact congrArg (fun z => mate (gt ms z)) (by omega)
  have e2 : gt (turnAt (undo ms) k) (-2 - (k : Int) - s + 1) = mate (gt ms s) := by
    rw [about_gt hm hk]
    exact congrArg (fun z => mate (gt ms z)) (by omega)
  unfold acr endsL
  rw [e1, e2, mate_mate, byI_swap]
  exact congrArg (· && _) (decide_eq_decide.mpr nodup_swap)
theorem aln_about {k : Nat} (hm : ms ≠ []) (hk : k ≤ ms.length) (p s : Int) : aln row ns (turnAt (undo ms) k) p (-1 - (k : Int) - s) = aln row ns ms p s := by
  have l0 : 0 < ms.length := List.length_pos_iff.mpr hm
  have e1 : gt (turnAt (undo ms) k) (-1 - (k : Int) - s) = mate (gt ms s) := by
    rw [about_gt hm hk]
    exact congrArg (fun z => mate (gt ms z)) (by omega)
  have ml : ((ms.length : Int) - 1 - s - (k : Int)) % (ms.length : Int) % ((turnAt (undo ms) k).length : Int) = (-1 - (k : Int) - s) % ((turnAt (undo ms) k).length : Int) := by
    rw [about_len, Int.emod_emod_of_dvd _ (Int.dvd_refl _), show (ms.length : Int) - 1 - s - (k : Int) = (-1 - (k : Int) - s) + (ms.length : Int) by omega, Int.add_emod_right]
  by_cases hb : gt ns p / 2 = gt ms s / 2
  · have fi : isFst ns (turnAt (undo ms) k) p (-1 - (k : Int) - s) ↔ isFst ns ms p s := by
      unfold isFst
      rw [e1, mate_half]
      refine and_congr_right fun _ => ?_
      by_cases c : gt ns p = gt ms s
      · rw [show wayOf (gt ns p) (mate (gt ms s)) = -1 from if_neg fun z => mate_ne (gt ms s) (by rw [← z, c]), show wayOf (gt ns p) (gt ms s) = 1 from if_pos c, lonM, lon1 ms, about_gt hm hk, mate_mate, show -1 - (k : Int) - (-1 - (k : Int) - s - -1) = s + -1 by omega]
      · rw [show wayOf (gt ns p) (mate (gt ms s)) = 1 from if_pos (half_eq hb c), show wayOf (gt ns p) (gt ms s) = -1 from if_neg c, lonM, lon1 (turnAt (undo ms) k), about_gt hm hk, show -1 - (k : Int) - (-1 - (k : Int) - s + -1) = s - -1 by omega]
    have pt := pst_turn (row := row) (ns := ns) hm hb hk
    have pq : pst row ns (turnAt (undo ms) k) p (-1 - (k : Int) - s) = pst row ns ms p s := by
      rw [← pt]
      have g1 := gt_mod (ns := turnAt (undo ms) k) ml
      have g2 : ∀ w, w = 1 ∨ w = -1 → lon (turnAt (undo ms) k) (((ms.length : Int) - 1 - s - (k : Int)) % (ms.length : Int)) w = lon (turnAt (undo ms) k) (-1 - (k : Int) - s) w := fun w hw => funext fun t => by
        rcases hw with rfl | rfl
        · rw [lon1, lon1]
          exact gt_sh ml t
        · rw [lonM, lonM]
          exact congrArg mate (gt_sh' ml t)
      unfold pst
      rw [g1, g2 _ (wayOf_or _ _)]
    unfold aln
    by_cases h : isFst ns ms p s
    · rw [if_pos h, if_pos (fi.mpr h), pq]
    · rw [if_neg h, if_neg fun z => h (fi.mp z)]
  · unfold aln
    have h1 : ¬ isFst ns ms p s := fun z => hb z.1
    have h2 : ¬ isFst ns (turnAt (undo ms) k) p (-1 - (k : Int) - s) := fun z => hb (by
      have := z.1
      rw [e1, mate_half] at this
      exact this)
    rw [if_neg h1, if_neg h2]
theorem pairs_about {k : Nat} (hm : ms ≠ []) (hk : k ≤ ms.length) (n : Nat) : (pairsL row ns (turnAt (undo ms) k) n).length = (pairsL row ns ms n).length := by
  have l0 : 0 < ms.length := List.length_pos_iff.mpr hm
  rw [pairs_num, pairs_num, about_len]
  refine sumZ_congr fun p _ => ?_
  unfold cnt
  rw [sumZ_plus, sumZ_plus]
  have q1 : ∀ t, acN row ns ms (p : Int) (t + ms.length) = acN row ns ms (p : Int) t := fun t => by
    unfold acN
    rw [acr_mod rfl (add_len_mod t _)]
  have q2 : ∀ t, alN row ns ms (p : Int) (t + ms.length) = alN row ns ms (p : Int) t := fun t => by
    unfold alN
    rw [aln_mod rfl (add_len_mod t _)]
  rw [← sumZ_back l0 q1 (-2 - (k : Int)), ← sumZ_back l0 q2 (-1 - (k : Int))]
  congr 1
  · refine sumZ_congr fun s _ => ?_
    unfold acN
    rw [← acr_about (row := row) (ns := ns) hm hk, show -2 - (k : Int) - (-2 - (k : Int) - (s : Int)) = (s : Int) by omega]
  · refine sumZ_congr fun s _ => ?_
    unfold alN
    rw [← aln_about (row := row) (ns := ns) hm hk, show -1 - (k : Int) - (-1 - (k : Int) - (s : Int)) = (s : Int) by omega]
theorem tkl_fix (B : Bt2 row ns ns) {x : List Int} (h : x ∈ pairsL row ns ns ns.length) : tkl ns x ≠ x := by
  have l0 := List.length_pos_iff.mpr B.n
  obtain ⟨a, b, ha, hb, ⟨c, rfl⟩ | ⟨l, c, rfl⟩⟩ := pair_mem.mp h
  · rw [tkl_3, if_pos (.inl rfl)]
    intro z
    have e : (b : Int) = (a : Int) := (List.cons.inj z).1
    unfold acr endsL at c
    rw [e, Bool.and_eq_true] at c
    have := of_decide_eq_true c.1
    simp at this
  · obtain ⟨fs, o, ho, rfl, fl⟩ := (aln_some B).mp c
    have nz : ¬ (1 + (o : Int) = 0) := by omega
    rw [tkl_3]
    by_cases e : gt ns (a : Int) = gt ns (b : Int)
    · rw [if_pos (.inr e)]
      intro z
      have e2 : (b : Int) = (a : Int) := (List.cons.inj z).1
      have := fs.2
      rw [e2, show wayOf (gt ns (a : Int)) (gt ns (a : Int)) = 1 from if_pos rfl] at this
      exact this rfl
    · rw [if_neg fun z => z.elim nz e]
      intro z
      have e2 : ((a : Int) + (1 + (o : Int)) - 1) % (ns.length : Int) = (b : Int) := (List.cons.inj (List.cons.inj z).2).1
      have T := B.two fs.1
      rw [way_no e] at ho T
      obtain ⟨h1, h2, h3⟩ := shr_some.mp ho
      have agree : ∀ t : Nat, t ≤ o → gt ns ((a : Int) + t) = mate (gt ns ((b : Int) - t)) := fun t ht => by
        rw [← lonM, ← lon1]
        match t, ht with
        | 0, _ => exact T.at0
        | t + 1, ht =>
          have := h3 t (by omega)
          rw [Int.one_mul] at this
          exact this
      have bm : ∀ t : Int, gt ns ((b : Int) - t) = gt ns ((a : Int) + o - t) := fun t => gt_sh' (by
        rw [← e2, Int.emod_emod_of_dvd _ (Int.dvd_refl _)]
        exact congrArg (· % (ns.length : Int)) (by omega)) t
      rcases Nat.mod_two_eq_zero_or_one o with d | d
      · have := agree (o / 2) (by omega)
        rw [bm, show (a : Int) + o - ((o / 2 : Nat) : Int) = (a : Int) + ((o / 2 : Nat) : Int) by omega] at this
        exact mate_ne _ this.symm
      · have := agree (o / 2) (by omega)
        rw [bm, show (a : Int) + o - ((o / 2 : Nat) : Int) = (a : Int) + ((o / 2 : Nat) : Int) + 1 by omega] at this
        refine cr_gt B.n B.cn ((a : Int) + ((o / 2 : Nat) : Int)) ?_
        rw [this, mate_mate]
theorem tkl_pair (B : Bt2 row ns ns) {x : List Int} (h : x ∈ pairsL row ns ns ns.length) : tkl ns x ∈ pairsL row ns ns ns.length ∧ tkl ns (tkl ns x) = x := by
  have := tk2_pair B h
  rw [tk2_own, tk2_own] at this
  exact this
theorem least_or (ns y : List Int) : (leastOf ns y = y ∧ ¬ tkl ns y < y) ∨ (leastOf ns y = tkl ns y ∧ tkl ns y < y) := by
  unfold leastOf
  by_cases c : tkl ns y < y
  · rw [if_pos c]
    exact .inr ⟨rfl, c⟩
  · rw [if_neg c]
    exact .inl ⟨rfl, c⟩
theorem own_half (B : Bt2 row ns ns) {xs : List (List Int)} (h : OwnL row ns xs) : (pairsL row ns ns ns.length).length = 2 * xs.length := by
  have mem : ∀ {x}, x ∈ xs ↔ x ∈ pairsL row ns ns ns.length ∧ ¬ tkl ns x < x := fun {x} => by
    rw [h.m]
    constructor
    · rintro ⟨y, hy, rfl⟩
      obtain ⟨t1, t2⟩ := tkl_pair B hy
      rcases least_or ns y with ⟨e, c⟩ | ⟨e, c⟩
      · rw [e]
        exact ⟨hy, c⟩
      · rw [e, t2]
        exact ⟨t1, fun z => List.lt_irrefl _ (List.lt_trans z c)⟩
    · rintro ⟨hx, c⟩
      refine ⟨x, hx, ?_⟩
      rcases least_or ns x with ⟨e, _⟩ | ⟨_, c'⟩
      · exact e.symm
      · exact absurd c' c
  have pm : (xs ++ xs.map (tkl ns)).Perm (pairsL row ns ns ns.length) := by
    refine (List.perm_ext_iff_of_nodup (List.nodup_append.mpr ⟨h.nd, ?_, ?_⟩) (pairs_nodup B _)).mpr fun x => ?_
    · refine List.pairwise_map.mpr (h.nd.imp_of_mem fun {x y} hx hy ne e => ne ?_)
      rw [← (tkl_pair B (mem.mp hx).1).2, ← (tkl_pair B (mem.mp hy).1).2, e]
    · intro x hx y hy e
      obtain ⟨z, hz, rfl⟩ := List.mem_map.mp hy
      subst e
      obtain ⟨p1, c1⟩ := mem.mp hz
      obtain ⟨p2, c2⟩ := mem.mp hx
      rw [(tkl_pair B p1).2] at c2
      rcases lt_or (tkl_fix B p1) with d | d
      · exact c1 d
      · exact c2 d
    · rw [List.mem_append]
      constructor
      · rintro (hx | hx)
        · exact (mem.mp hx).1
        · obtain ⟨z, hz, rfl⟩ := List.mem_map.mp hx
          exact (tkl_pair B (mem.mp hz).1).1
      · intro hx
        obtain ⟨t1, t2⟩ := tkl_pair B hx
        by_cases c : tkl ns x < x
        · refine .inr (List.mem_map.mpr ⟨tkl ns x, mem.mpr ⟨t1, ?_⟩, t2⟩)
          rw [t2]
          exact fun z => List.lt_irrefl _ (List.lt_trans z c)
        · exact .inl (mem.mpr ⟨hx, c⟩)
  rw [← pm.length_eq, List.length_append, List.length_map]
  omega
end
end Ln
set_option maxRecDepth 100000
set_option maxHeartbeats 4000000
namespace Tt
open PySem L2 Bt
section
variable {P : Program} {w : World} {K : PySem.W.Frag} {mg : Str → Option Value} {base : Heap}
def spExR (T : Txt K mg) : Sp := fun vs H Q _ => ∃ (a : Addr) (v : V), vs = [.ref a, v] ∧ H a = some (exo a T.BadRounds.C none) ∧
  ∀ dx, H dx = none → dx ≠ a → Q .non (upd (upd H dx (exd dx [("part", v)])) a (exo a T.BadRounds.C (some dx)))
theorem ok_BadRounds_init (T : Txt K mg) : FnOk P w K mg base CX0 1 T.BadRounds.fI T.BadRounds.fd ["self", "part"] (spExR T) := by
  refine T.BadRounds.F.ok sc_BadRounds_init (fun vs H Q E h => ?_) (fun cdv A outer s H vs Q E hr h => ?_)
  · obtain ⟨a, v, rfl, _⟩ := h
    rfl
  · obtain ⟨a, v, rfl, ha, k⟩ := h
    refine ⟨_, (pss_one (ps_ost (pv 0) (pv 1))), ?_⟩
    exact ⟨v, rfl, _, rfl, a, T.BadRounds.C, rfl, T.BadRounds.o, T.BadRounds.n, .inl ⟨ha, fun dx n ne => k dx n ne⟩⟩
structure Rds (K : PySem.W.Frag) (H : Hp) (row : List Int) (l : Addr) (qs : List (Addr × List Int)) : Prop where
  l : SqL K H l (qs.map fun q => V.ref q.1)
  t : ∀ q ∈ qs, SqT K H q.1 (q.2.map V.int)
  r : ∀ q ∈ qs, Rn row q.2
  n : qs.length ≤ 8
  s : (qs.map fun q => q.2.length).sum ≤ 80
theorem Rds.same {H H' : Hp} {row : List Int} {l : Addr} {qs : List (Addr × List Int)} (h : Rds K H row l qs) (s : Same H H') : Rds K H' row l qs :=
  ⟨Same.seq s h.l, fun q hq => same_seqT s (h.t q hq), h.r, h.n, h.s⟩
theorem refs_at {qs : List (Addr × List Int)} {i : Nat} {y : V} (h : (qs.map fun q => V.ref q.1)[i]? = some y) : ∃ q, qs[i]? = some q ∧ y = .ref q.1 := by
  rw [List.getElem?_map] at h
  cases e : qs[i]? with
  | none => rw [e] at h; cases h
  | some q => rw [e] at h; exact ⟨q, rfl, (Option.some.inj h).symm⟩
theorem sum_ints (f : (Addr × List Int) → Nat) : ∀ qs : List (Addr × List Int), (qs.map fun q => ((f q : Nat) : Int)).sum = (((qs.map f).sum : Nat) : Int)
  | [] => rfl
  | q :: qs => by
    rw [List.map_cons, List.map_cons, List.sum_cons, List.sum_cons, sum_ints f qs, Int.natCast_add]
def spCheckRounds (T : Txt K mg) : Sp := fun vs H Q _ => ∃ (p l : Addr) (row : List Int) (n : Nat) (qs : List (Addr × List Int)), vs = [.ref p, .ref l] ∧ SkAt T H p row ∧ n ≤ 6 ∧ row.Perm (rgI (2 * n)) ∧ Rds K H row l qs ∧ ∀ H', Same H H' → Q .non H'
theorem ok_check_rounds (T : Txt K mg) : FnOk P w K mg base (L2.CX P w) 7 T.check_rounds.a T.check_rounds.fd ["skin", "rounds"] (spCheckRounds T) := by
  refine T.check_rounds.F.okX sc_check_rounds (fun vs H Q E h => ?_) (fun cdv A outer s H vs Q E hr h => ?_)
  · obtain ⟨p, l, row, n, qs, rfl, _⟩ := h
    rfl
  · obtain ⟨p, l, row, n, qs, rfl, sk, n6, pm, rs, k⟩ := h
    have nd := sc_check_rounds.nd
    have hlen := perm_len pm
    have l12 : row.length ≤ 12 ∧ row.length % 2 = 0 := by omega
    refine ⟨_, (pss_cons (ps_if (PW.pt (pw_or (pt_not (pt_val (pe_call (ok_is_list T) (hr.mono (by decide)) (by rfl) T.is_list.g T.is_list.k T.is_list.b .nil pass0 (pa_cons (pv 1) pa_nil)))) (pw_or1 (pt_cmpR op_gt (pe_callB call_len_seq (by rfl) T.zlen (by decide +kernel) (pa_cons (pv 1) pa_nil)) (pe_glob rfl T.c_MOST_ROUNDS T.r_MOST_ROUNDS) (nomark _)))))
      (pss_one (ps_raise rfl (takes_of rfl rfl rfl rfl) (pmk_oex T.BadRounds.o T.BadRounds.i T.BadRounds.t (ok_BadRounds_init T) (hr.mono (by decide)) T.BadRounds.b .nil pass0 (by rfl) T.BadRounds.g (pa_cons pe_str pa_nil))))
      pss_nil)
    (pss_cons (ps_for (passes_of rfl) rfl (pi_enum (by rfl) T.zenumerate (pa_cons (pv 1) pa_nil)) (pg_tup rfl (pgs_cons (pg_name (i := 2) nd rfl (Or.inl rfl)) (pgs_cons (pg_name (i := 3) nd rfl (Or.inl rfl)) pgs_nil)))
      (pss_one (ps_if (pt_not (pt_val (pe_call (ok_is_fit_round T) (hr.mono (by decide)) (by rfl) T.is_fit_round.g T.is_fit_round.k T.is_fit_round.b .nil pass0 (pa_cons (pv 0) (pa_cons (pv 3) pa_nil)))))
        (pss_one (ps_raise rfl (takes_of rfl rfl rfl rfl) (pmk_oex T.BadRounds.o T.BadRounds.i T.BadRounds.t (ok_BadRounds_init T) (hr.mono (by decide)) T.BadRounds.b .nil pass0 (by rfl) T.BadRounds.g (pa_cons (pv 2) pa_nil))))
        pss_nil)))
    (pss_one (ps_if (pt_cmpR op_gt (pe_callB (cr_sum rfl) (by rfl) T.zsum (by decide +kernel) (pa_cons (pe_lc (own := [("loop", 3)]) (g := gName 3) rfl nd (pi_list (pv 1)) (blkOk_by (own := [("loop", 3)]) (N := N_check_rounds) (sc := defScope s_check_rounds) (by decide +kernel)) (fun _ _ _ _ _ => pg_name (i := 3) nd rfl (Or.inl rfl)) (fun _ _ _ _ _ => pts_nil) (fun _ _ _ _ _ => (pe_callB (call_len_seqK (K := K) rfl) (by rfl) T.zlen (by decide +kernel) (pa_cons (pv 3) pa_nil)))) pa_nil)) (pe_glob rfl T.c_MOST_TOGETHER T.r_MOST_TOGETHER) (nomark _))
      (pss_one (ps_raise rfl (takes_of rfl rfl rfl rfl) (pmk_oex T.BadRounds.o T.BadRounds.i T.BadRounds.t (ok_BadRounds_init T) (hr.mono (by decide)) T.BadRounds.b .nil pass0 (by rfl) T.BadRounds.g (pa_cons pe_str pa_nil))))
      pss_nil)))), ?_⟩
    have r8 := rs.n
    refine ⟨_, rfl, _, _, rfl, .lst rs.l, ⟨_, rfl, iteF ?_⟩⟩
    have lq : (qs.map fun q => V.ref q.1).length = qs.length := List.length_map ..
    refine ⟨_, rfl, l, _, rfl, .inl rs.l, _, _, rfl, rfl, _, rfl, ite2 (fun c => ?_) (fun _ => ?_)⟩
    · exfalso
      have : (8 : Int) < ((qs.map fun q => V.ref q.1).length : Nat) := by simpa using c
      omega
    dsimp only [tNext]
    refine sqn ⟨_, rfl, l, _, rfl, rs.l, ?_⟩
    refine for_it (walk_enum (K := K) (a := l) (xs := qs.map fun q => V.ref q.1)) (fun i σ H' => ∃ v2 v3, σ = [some (.ref p), some (.ref l), v2, v3] ∧ Same H H') ⟨none, none, rfl, fun _ _ z => z⟩ (fun i σ H' _ ⟨_, _, _, h⟩ => Same.seq h rs.l) ?_ ?_
    · rintro i y σ H5 H6 hi ⟨v2, v3, rfl, s5⟩ ⟨t, yi, yx, rfl, ht, rfl, e1, e2⟩
      cases e1
      obtain ⟨q, hq, rfl⟩ := refs_at e2
      have s6 : Same H5 (upd H5 t (.tup [.int (i : Int), .ref q.1])) := same_new ht
      have mq := List.mem_of_getElem? hq
      refine ⟨t, _, rfl, SqT.of upd_same, rfl, _, _, rfl, _, _, rfl, rfl, ?_⟩
      have s56 := s5.trans s6
      refine ⟨_, rfl, _, rfl, p, row, _, true, rfl, sk.same s56, l12, (rs.r q mq).or pm (same_seqT s56 (rs.t q mq)), fun H7 s7 => ⟨_, rfl, iteF ?_⟩⟩
      exact ⟨_, _, rfl, s56.trans s7⟩
    · rintro σ H5 ⟨v2, v3, rfl, s5⟩
      have rs5 := rs.same s5
      refine ⟨_, rfl, l, rfl, ⟨_, rs5.l⟩, fun D1 hD1 => lc_list (K := K) (a := l) (xs := qs.map fun q => V.ref q.1) (fun i H' => H' D1 = some (.lst (((qs.take i).map fun q => ((q.2.length : Nat) : Int)).map V.int)) ∧ Same H5 H')
        ⟨upd_same, same_new hD1⟩ (fun i H' _ z => Same.seq z.2 rs5.l) ?_ ?_⟩
      · rintro i y H' hi ⟨h1, s6⟩
        obtain ⟨q, hq, rfl⟩ := refs_at hi
        have mq := List.mem_of_getElem? hq
        have hil : i < qs.length := (List.getElem?_eq_some_iff.mp hq).1
        refine ⟨rfl, yes_t ?_⟩
        refine ⟨_, rfl, q.1, _, rfl, .inr (same_seqT s6 (rs5.t q mq)), ?_⟩
        refine ⟨_, h1, ?_, ?_, ?_⟩
        · rw [List.length_map, List.length_map, List.length_take]
          exact small1000 (by omega)
        · rw [upd_same, List.take_add_one, hq, List.map_append, List.map_append]
          simp
        · intro b o hb
          rw [upd_ne (ne_of_none hb hD1)]
          exact s6 b o hb
      · rintro H' ⟨h1, s6⟩
        rw [lq, List.take_length] at h1
        refine ⟨D1, _, rfl, SqL.of h1, _, _, rfl, rfl, _, rfl, ite2 (fun c => ?_) (fun _ => ?_)⟩
        · exfalso
          have := rs.s
          have c' : (80 : Int) < (qs.map fun q => ((q.2.length : Nat) : Int)).sum := by simpa using c
          rw [sum_ints (fun q => q.2.length)] at c'
          omega
        · exact k _ (s5.trans s6)
def nP (row ns ms : List Int) : Nat := (pairsL row ns ms ns.length).length
theorem Rn.bt2 {row ns ms : List Int} {n : Nat} (pm : row.Perm (rgI (2 * n))) (rn : Rn row ns) (rm : Rn row ms) : Ln.Bt2 row ns ms :=
  ⟨List.length_pos_of_mem (rn.m _ (List.head_mem rn.r.1)), rn.r.1, rm.r.1, rn.r.cr, rm.r.cr, fun x hx => ⟨rn.m x hx, mateRow pm (rn.m x hx)⟩, fun x hx => ⟨rm.m x hx, mateRow pm (rm.m x hx)⟩⟩
noncomputable def rootOf (ns : List Int) : Nat := open Classical in if h : ∃ s, IsRoot ns s then h.choose else 0
theorem rootOf_eq {ns : List Int} {z : Nat} (h : IsRoot ns z) : rootOf ns = z := by
  unfold rootOf
  rw [dif_pos ⟨z, h⟩]
  exact root_uniq (Exists.choose_spec (⟨z, h⟩ : ∃ s, IsRoot ns s)) h
noncomputable def ownN (row ns : List Int) : Int := ((nP row ns ns / 2 : Nat) : Int) + ((ns.length / rootOf ns : Nat) : Int) - 1
theorem ownN_eq {row ns : List Int} {n : Nat} (pm : row.Perm (rgI (2 * n))) (rn : Rn row ns) {xs : List (List Int)} {z : Nat} (h : OwnL row ns xs) (r : IsRoot ns z) : ((xs.length : Nat) : Int) + ((ns.length / z : Nat) : Int) - 1 = ownN row ns := by
  have e := Ln.own_half (Rn.bt2 pm rn rn) h
  unfold ownN nP
  rw [e, rootOf_eq r, Nat.mul_div_cancel_left _ (by decide)]
def rowSum (row ns : List Int) (rs : List (Addr × List Int)) : Int := (rs.map fun r => ((nP row ns r.2 : Nat) : Int)).sum
noncomputable def fewAt (row : List Int) (qs : List (Addr × List Int)) (i : Nat) : Int := match qs[i]? with
  | some q => ownN row q.2 + rowSum row q.2 (qs.drop (i + 1))
  | none => 0
noncomputable def fewS (row : List Int) (qs : List (Addr × List Int)) : Nat → Int
  | 0 => 0
  | i + 1 => fewS row qs i + fewAt row qs i
def spFewest (T : Txt K mg) : Sp := fun vs H Q _ => ∃ (p l : Addr) (row : List Int) (n : Nat) (qs : List (Addr × List Int)), vs = [.ref p, .ref l] ∧ SkAt T H p row ∧ n ≤ 6 ∧ row.Perm (rgI (2 * n)) ∧ Rds K H row l qs ∧ ∀ H', Same H H' → Q (.int (fewS row qs qs.length)) H'
theorem ok_fewest (T : Txt K mg) : FnOk P w K mg base (L2.CX P w) 8 T.fewest.a T.fewest.fd ["skin", "rounds"] (spFewest T) := by
  refine T.fewest.F.okX sc_fewest (fun vs H Q E h => ?_) (fun cdv A outer s H vs Q E hr h => ?_)
  · obtain ⟨p, l, row, n, qs, rfl, _⟩ := h
    rfl
  · obtain ⟨p, l, row, n, qs, rfl, sk, n6, pm, rs, k⟩ := h
    have nd := sc_fewest.nd
    have r8 := rs.n
    have lq : (qs.map fun q => V.ref q.1).length = qs.length := List.length_map ..
    refine ⟨_, (pss_cons (ps_expr (pe_callS (ok_check_skin T) (hr.mono (by decide)) (by rfl) T.check_skin.g T.check_skin.k T.check_skin.b (fun σ => passAt (takes_of rfl rfl rfl rfl) σ) (pa_cons (pv 0) pa_nil)))
    (pss_cons (ps_expr (pe_callS (ok_check_rounds T) (hr.mono (by decide)) (by rfl) T.check_rounds.g T.check_rounds.k T.check_rounds.b (fun σ => passAt (takes_of rfl rfl rfl rfl) σ) (pa_cons (pv 0) (pa_cons (pv 1) pa_nil))))
    (pss_cons (ps_set (i := 2) nd rfl (Or.inl rfl) pe_int)
    (pss_cons (ps_for (passes_of rfl) rfl (pi_enum (by rfl) T.zenumerate (pa_cons (pv 1) pa_nil)) (pg_tup rfl (pgs_cons (pg_name (i := 3) nd rfl (Or.inl rfl)) (pgs_cons (pg_name (i := 4) nd rfl (Or.inl rfl)) pgs_nil)))
      (pss_cons (ps_aug (i := 2) nd rfl (Or.inl rfl) (pe_call (ok_own_number T) (hr.mono (by decide)) (by rfl) T.own_number.g T.own_number.k T.own_number.b .nil pass0 (pa_cons (pv 0) (pa_cons (pv 4) pa_nil))) ip_add)
      (pss_one (ps_for (passes_of rfl) rfl (pi_list (pe_slice sl_list (pv 1) (po_some (pe_op op_add (pv 3) pe_int)) po_none)) (pg_name (i := 5) nd rfl (Or.inl rfl))
        (pss_one (ps_aug (i := 2) nd rfl (Or.inl rfl) (pe_callB call_len_seq (by rfl) T.zlen (by decide +kernel) (pa_cons (pe_call (ok_pairs_of T) (hr.mono (by decide)) (by rfl) T.pairs_of.g T.pairs_of.k T.pairs_of.b .nil pass0 (pa_cons (pv 0) (pa_cons (pv 4) (pa_cons (pv 5) pa_nil)))) pa_nil)) ip_add))))))
    (pss_one (ps_ret (pv 2))))))), ?_⟩
    refine ⟨_, rfl, _, true, rfl, SkAt.v sk, (fun _ => ?_), fun z => nomatch z⟩
    refine ⟨_, rfl, _, rfl, p, l, row, n, qs, rfl, sk, n6, pm, rs, fun H1 s1 => ?_⟩
    refine sqn ⟨_, rfl, l, _, rfl, Same.seq s1 rs.l, ?_⟩
    refine for_it (walk_enum (K := K) (a := l) (xs := qs.map fun q => V.ref q.1)) (fun i σ H' => ∃ v3 v4 v5, σ = [some (.ref p), some (.ref l), some (.int (fewS row qs i)), v3, v4, v5] ∧ Same H H') ⟨none, none, none, rfl, s1⟩ (fun i σ H' _ ⟨_, _, _, _, h⟩ => Same.seq h rs.l) ?_ ?_
    · rintro i y σ H5 H6 hi ⟨v3, v4, v5, rfl, s5⟩ ⟨t, yi, yx, rfl, ht, rfl, e1, e2⟩
      cases e1
      obtain ⟨q, hq, rfl⟩ := refs_at e2
      have s6 : Same H5 (upd H5 t (.tup [.int (i : Int), .ref q.1])) := same_new ht
      have mq := List.mem_of_getElem? hq
      have hil : i < qs.length := (List.getElem?_eq_some_iff.mp hq).1
      refine ⟨t, _, rfl, SqT.of upd_same, rfl, _, _, rfl, _, _, rfl, rfl, ?_⟩
      have s56 := s5.trans s6
      have rq := rs.r q mq
      refine sqn ⟨_, rfl, _, rfl, _, rfl, p, row, n, q.1, q.2, rfl, sk.same s56, n6, pm, same_seqT s56 (rs.t q mq), rq, fun xs z H7 s7 o r => ?_⟩
      rw [ownN_eq pm rq o r]
      have s57 := s56.trans s7
      refine ⟨_, _, rfl, rfl, ?_⟩
      have l57 := Same.seq s57 rs.l
      refine ⟨_, rfl, _, rfl, _, _, rfl, rfl, _, rfl, noPart_i ⟨l, _, rfl, l57, fun l2 hl2 => ?_⟩⟩
      have ed : cutV (qs.map fun q => V.ref q.1) (some ((i : Int) + 1)) none = (qs.drop (i + 1)).map fun q => V.ref q.1 := by
        rw [show (i : Int) + 1 = ((i + 1 : Nat) : Int) by omega, cut_from, List.map_drop]
      have s8 : Same H7 (upd H7 l2 (.lst (cutV (qs.map fun q => V.ref q.1) (some ((i : Int) + 1)) none))) := same_new hl2
      have e8 : (upd H7 l2 (.lst (cutV (qs.map fun q => V.ref q.1) (some ((i : Int) + 1)) none))) l2 = some (.lst ((qs.drop (i + 1)).map fun q => V.ref q.1)) := by rw [upd_same, ed]
      generalize upd H7 l2 (.lst (cutV (qs.map fun q => V.ref q.1) (some ((i : Int) + 1)) none)) = H8 at s8 e8
      have s58 := s57.trans s8
      refine ⟨l2, rfl, ⟨_, SqL.of e8⟩, ?_⟩
      refine for_list (K := K) (a := l2) (xs := (qs.drop (i + 1)).map fun q => V.ref q.1) (fun j σ H' => ∃ v5, σ = [some (.ref p), some (.ref l), some (.int (fewS row qs i + ownN row q.2 + rowSum row q.2 ((qs.drop (i + 1)).take j))), some (.int (i : Int)), some (.ref q.1), v5] ∧ Same H8 H')
        ⟨v5, by simp [rowSum], fun _ _ z => z⟩ (fun j σ H' _ ⟨_, _, h⟩ => Same.seq h (SqL.of e8)) ?_ ?_
      · rintro j y σ H9 hj ⟨v5, rfl, s9⟩
        obtain ⟨q2, hq2, rfl⟩ := refs_at hj
        have mq2 : q2 ∈ qs := List.mem_of_mem_drop (List.mem_of_getElem? hq2)
        have s59 := s58.trans s9
        have rq2 := rs.r q2 mq2
        refine ⟨_, rfl, _, rfl, _, rfl, _, rfl, p, row, n, q.1, q2.1, q.2, q2.2, rfl, sk.same s59, n6, pm, same_seqT s59 (rs.t q mq), same_seqT s59 (rs.t q2 mq2), rq, rq2, fun L f H10 hf s10 g10 pl pw => ?_⟩
        refine nil_i ⟨f, _, rfl, .inl (SqL.of g10.l), ?_⟩
        have e : (L.map fun q => V.ref q.1).length = nP row q.2 q2.2 := by
          unfold nP
          rw [← pl.length_eq, List.length_map, List.length_map]
        rw [e]
        refine ⟨_, _, rfl, rfl, ?_⟩
        have er : rowSum row q.2 ((qs.drop (i + 1)).take (j + 1)) = rowSum row q.2 ((qs.drop (i + 1)).take j) + (nP row q.2 q2.2 : Nat) := by
          rw [List.take_add_one, hq2]
          unfold rowSum
          simp
        refine ⟨some (.ref q2.1), ?_, s9.trans s10⟩
        rw [er, ← Int.add_assoc]
        rfl
      · rintro σ H9 ⟨v5, rfl, s9⟩
        refine ⟨some (.int (i : Int)), some (.ref q.1), v5, ?_, s58.trans s9⟩
        have ef : fewS row qs (i + 1) = fewS row qs i + ownN row q.2 + rowSum row q.2 (qs.drop (i + 1)) := by
          show fewS row qs i + fewAt row qs i = _
          unfold fewAt
          rw [hq, Int.add_assoc]
        rw [ef, List.length_map, List.take_length]
    · rintro σ H5 ⟨v3, v4, v5, rfl, s5⟩
      rw [lq]
      exact ⟨_, rfl, k _ s5⟩
end
end Tt
set_option maxRecDepth 100000
set_option maxHeartbeats 4000000
namespace Tt
open PySem L2 Bt
section
variable {P : Program} {w : World} {K : PySem.W.Frag} {mg : Str → Option Value} {base : Heap}
def spCrossL (K : PySem.W.Frag) : Sp := fun vs H Q _ => ∃ (t u v : Addr) (row : List Int) (n : Nat) (ns ms : List Int), vs = [.ref t, .ref u, .ref v] ∧ SqT K H t (row.map V.int) ∧ n ≤ 6 ∧ row.Perm (rgI (2 * n)) ∧
  SqT K H u (ns.map V.int) ∧ SqT K H v (ms.map V.int) ∧ Rn row ns ∧ Rn row ms ∧ ∀ H', Same H H' → Q (.int (nP row ns ms : Nat)) H'
theorem ok_l_crossings (T : Txt K mg) : FnOk P w K mg base CX0 4 T.l_crossings.a T.l_crossings.fd ["row", "one", "other"] (spCrossL K) := by
  refine T.l_crossings.F.ok sc_l_crossings (fun vs H Q E h => ?_) (fun cdv A outer s H vs Q E hr h => ?_)
  · obtain ⟨t, u, v, row, n, ns, ms, rfl, _⟩ := h
    rfl
  · obtain ⟨t, u, v, row, n, ns, ms, rfl, ht, n6, pm, hu, hv, rn, rm, k⟩ := h
    have nd := sc_l_crossings.nd
    refine ⟨_, (pss_one (ps_ret (pe_callB call_len_seq (by rfl) T.zlen (by decide +kernel) (pa_cons (pe_call (ok_l_meets T) (hr.mono (by decide)) (by rfl) T.l_meets.g T.l_meets.k T.l_meets.b .nil pass0 (pa_cons (pv 0) (pa_cons (pv 1) (pa_cons (pv 2) pa_nil)))) pa_nil)))), ?_⟩
    refine ⟨_, rfl, _, rfl, _, rfl, t, u, v, row, n, ns, ms, rfl, ht, n6, pm, hu, hv, rn, rm, fun L l H1 hl s1 g1 e1 => nil_i ⟨l, _, rfl, .inl (SqL.of g1.l), ?_⟩⟩
    have e : (L.map fun q => V.ref q.1).length = nP row ns ms := by
      have := congrArg List.length e1
      rw [List.length_map, List.length_map] at this
      rw [List.length_map, this, Ln.meets_num (Rn.bt2 pm rn rm)]
      rfl
    rw [e]
    exact k H1 s1
def spRootL (K : PySem.W.Frag) : Sp := fun vs H Q _ => ∃ (u : Addr) (ns : List Int), vs = [.ref u] ∧ SqT K H u (ns.map V.int) ∧ ns ≠ [] ∧ ns.length ≤ 40 ∧
  ∀ (z : Nat) q H', IsRoot ns z → Same H H' → SqT K H' q ((ns.take z).map V.int) → Q (.ref q) H'
theorem ok_l_root (T : Txt K mg) : FnOk P w K mg base CX0 1 T.l_root.a T.l_root.fd ["one"] (spRootL K) := by
  refine T.l_root.F.ok sc_l_root (fun vs H Q E h => ?_) (fun cdv A outer s H vs Q E hr h => ?_)
  · obtain ⟨u, ns, rfl, _⟩ := h
    rfl
  · obtain ⟨u, ns, rfl, hu, ne, lns, k⟩ := h
    have nd := sc_l_root.nd
    have l0 := List.length_pos_iff.mpr ne
    have lm : (ns.map V.int).length = ns.length := List.length_map ..
    refine ⟨_, (pss_one (ps_ret (pe_slice sl_tupA (pv 0) po_none (po_some (pe_ix ix_list (pe_lc (own := [("k", 1)]) (g := gName 1) rfl nd (pi_range2 rfl T.zrange (pa_cons pe_int (pa_cons (pe_op op_add (pe_callB call_len_seq (by rfl) T.zlen (by decide +kernel) (pa_cons (pv 0) pa_nil)) pe_int) pa_nil))) (blkOk_by (own := [("k", 1)]) (N := N_l_root) (sc := defScope s_l_root) (by decide +kernel)) (fun _ _ _ _ _ => pg_name (i := 1) nd rfl (Or.inl rfl)) (fun _ _ _ _ _ => pts_one (pt_cmpR (op_eqDK (K := K) rfl hr.units) (pe_op (op_catAK (K := K) rfl) (pe_slice (sl_tupAK (K := K) rfl) (pv 0) (po_some (pv 1)) po_none) (pe_slice (sl_tupAK (K := K) rfl) (pv 0) po_none (po_some (pv 1)))) (pv 0) (nomark _))) (fun _ _ _ _ _ => (pv 1))) pe_int (fun _ _ => rfl)))))), ?_⟩
    refine ⟨_, rfl, noPart_i ⟨_, rfl, u, _, rfl, .inr hu, _, _, rfl, rfl, 1, _, rfl, by rw [lm]; omega, fun D2 hD2 => ?_⟩⟩
    refine lc_range (lo := 1) (n := (((ns.map V.int).length : Int) + 1 - 1).toNat) (fun i H' => ∃ ys : List Int, H' D2 = some (.lst (ys.map V.int)) ∧ ((ys = [] ∧ ∀ j, 1 ≤ j → j < i + 1 → turnAt ns j ≠ ns) ∨ ∃ (z : Nat) (ys' : List Int), ys = (z : Int) :: ys' ∧ IsRoot ns z) ∧ ys.length ≤ i ∧ Same H H')
      ⟨[], upd_same, .inl ⟨rfl, fun j j1 j2 => by omega⟩, Nat.le_refl _, same_new hD2⟩ ?_ ?_
    · rintro i H' hi ⟨ys, h1, h2, h3, sm⟩
      have hi' : i < ns.length := by rw [lm] at hi; omega
      have hp1 := same_seqT sm hu
      have ei : (1 : Int) + (i : Int) = ((i + 1 : Nat) : Int) := by omega
      rw [ei]
      refine ⟨rfl, ?_⟩
      refine ⟨_, rfl, _, rfl, _, rfl, noPart_i ?_⟩
      refine slT_genD (K := K) hp1 fun b1 G1 y1 g1 => ?_
      have hp2 := same_seqT y1 hp1
      refine ⟨_, rfl, noPart_i ⟨_, rfl, _, rfl, ?_⟩⟩
      refine slT_gen (K := K) hp2 fun b2 G2 y2 g2 => ?_
      refine catA_gen (K := K) (same_seqT y2 g1) g2 ?_ fun b3 G3 y3 g3 => ?_
      · rw [List.length_take, List.length_drop, lm]
        exact Nat.le_of_lt (small1000 (by omega))
      have et : (ns.map V.int).drop (i + 1) ++ (ns.map V.int).take (i + 1) = (turnAt ns (i + 1)).map V.int := by
        unfold turnAt
        rw [List.map_append, List.map_take, List.map_drop]
      rw [et] at g3
      have hp3 := same_seqT (y2.trans y3) hp2
      have sA := ((sm.trans y1).trans y2).trans y3
      have h4 := ((y1.trans y2).trans y3) _ _ h1
      refine ⟨_, rfl, .tuple ((turnAt ns (i + 1)).map PyData.int), .tuple (ns.map PyData.int), .tup g3 (dpAll_ints _ _), .tup hp3 (dpAll_ints _ _), shapedAll_ints _, shapedAll_ints _, ?_⟩
      have ev : PyData.eqv (.tuple ((turnAt ns (i + 1)).map PyData.int)) (.tuple (ns.map PyData.int)) = decide (turnAt ns (i + 1) = ns) := eqv_ints _ ns
      rw [ev]
      refine ⟨_, rfl, ite2 (fun z => ?_) (fun z => ?_)⟩
      · have z' : turnAt ns (i + 1) = ns := by simpa using z
        refine ⟨_, rfl, _, h4, by rw [List.length_map]; exact small1000 (by omega), ys ++ [((i + 1 : Nat) : Int)], by rw [upd_same, List.map_append]; rfl, ?_, by rw [List.length_append]; show _ + 1 ≤ _; omega, fun b o hb => by rw [upd_ne (ne_of_none hb hD2)]; exact sA b o hb⟩
        rcases h2 with ⟨e, no⟩ | ⟨y, ys', e, r⟩
        · rw [e]
          exact .inr ⟨i + 1, [], rfl, by omega, by omega, z', fun j j1 j2 => no j j1 j2⟩
        · rw [e]
          exact .inr ⟨y, ys' ++ [((i + 1 : Nat) : Int)], rfl, r⟩
      · have z' : ¬ turnAt ns (i + 1) = ns := by simpa using z
        refine ⟨ys, h4, ?_, by omega, sA⟩
        rcases h2 with ⟨e, no⟩ | r
        · refine .inl ⟨e, fun j j1 j2 => ?_⟩
          by_cases hj : j = i + 1
          · rw [hj]
            exact z'
          · exact no j j1 (by omega)
        · exact .inr r
    rintro H4 ⟨ys, h1, h2, h3, s34⟩
    obtain ⟨z, ys', rfl, rz⟩ : ∃ (z : Nat) (ys' : List Int), ys = (z : Int) :: ys' ∧ IsRoot ns z := by
      rcases h2 with ⟨_, no⟩ | r
      · rw [lm] at no
        exact absurd turnAt_len (no ns.length l0 (by omega))
      · exact r
    refine ⟨D2, _, 0, .int (z : Int), rfl, rfl, SqL.of h1, (by exact atI_n (j := 0) rfl), _, rfl, ?_⟩
    refine slT_gen (K := K) (same_seqT s34 hu) fun q H5 s5 g5 => ?_
    refine k z q H5 rz (s34.trans s5) ?_
    rw [List.map_take]
    exact g5
def spOwnL (K : PySem.W.Frag) : Sp := fun vs H Q _ => ∃ (t u : Addr) (row : List Int) (n : Nat) (ns : List Int), vs = [.ref t, .ref u] ∧ SqT K H t (row.map V.int) ∧ n ≤ 6 ∧ row.Perm (rgI (2 * n)) ∧
  SqT K H u (ns.map V.int) ∧ Rn row ns ∧ ∀ (z : Nat) H', IsRoot ns z → Same H H' → Q (.int (((nP row ns ns / 2 : Nat) : Int) + ((ns.length / z : Nat) : Int) - 1)) H'
theorem ok_l_own (T : Txt K mg) : FnOk P w K mg base CX0 4 T.l_own.a T.l_own.fd ["row", "one"] (spOwnL K) := by
  refine T.l_own.F.ok sc_l_own (fun vs H Q E h => ?_) (fun cdv A outer s H vs Q E hr h => ?_)
  · obtain ⟨t, u, row, n, ns, rfl, _⟩ := h
    rfl
  · obtain ⟨t, u, row, n, ns, rfl, ht, n6, pm, hu, rn, k⟩ := h
    have nd := sc_l_own.nd
    have ne := rn.r.1
    have lns := rn.l
    have l0 := List.length_pos_iff.mpr ne
    have lm : (ns.map V.int).length = ns.length := List.length_map ..
    refine ⟨_, (pss_cons (ps_set (i := 2) nd rfl (Or.inl rfl) (pe_ix ix_list (pe_lc (own := [("k", 3)]) (g := gName 3) rfl nd (pi_range2 rfl T.zrange (pa_cons pe_int (pa_cons (pe_op op_add (pe_callB call_len_seq (by rfl) T.zlen (by decide +kernel) (pa_cons (pv 1) pa_nil)) pe_int) pa_nil))) (blkOk_by (own := [("k", 3)]) (N := N_l_own) (sc := defScope s_l_own) (by decide +kernel)) (fun _ _ _ _ _ => pg_name (i := 3) nd rfl (Or.inl rfl)) (fun _ _ _ _ _ => pts_one (pt_cmpR (op_eqDK (K := K) rfl hr.units) (pe_op (op_catAK (K := K) rfl) (pe_slice (sl_tupAK (K := K) rfl) (pv 1) (po_some (pv 3)) po_none) (pe_slice (sl_tupAK (K := K) rfl) (pv 1) po_none (po_some (pv 3)))) (pv 1) (nomark _))) (fun _ _ _ _ _ => (pv 3))) pe_int (fun _ _ => rfl)))
    (pss_one (ps_ret (pe_op op_sub (pe_op op_add (pe_op op_fdiv (pe_callB call_len_seq (by rfl) T.zlen (by decide +kernel) (pa_cons (pe_call (ok_l_meets T) (hr.mono (by decide)) (by rfl) T.l_meets.g T.l_meets.k T.l_meets.b .nil pass0 (pa_cons (pv 0) (pa_cons (pv 1) (pa_cons (pv 1) pa_nil)))) pa_nil)) pe_int) (pe_op op_fdiv (pe_callB call_len_seq (by rfl) T.zlen (by decide +kernel) (pa_cons (pv 1) pa_nil)) (pv 2))) pe_int)))), ?_⟩
    refine sqn ⟨_, rfl, u, _, rfl, .inr hu, _, _, rfl, rfl, 1, _, rfl, by rw [lm]; omega, fun D2 hD2 => ?_⟩
    refine lc_range (lo := 1) (n := (((ns.map V.int).length : Int) + 1 - 1).toNat) (fun i H' => ∃ ys : List Int, H' D2 = some (.lst (ys.map V.int)) ∧ ((ys = [] ∧ ∀ j, 1 ≤ j → j < i + 1 → turnAt ns j ≠ ns) ∨ ∃ (z : Nat) (ys' : List Int), ys = (z : Int) :: ys' ∧ IsRoot ns z) ∧ ys.length ≤ i ∧ Same H H')
      ⟨[], upd_same, .inl ⟨rfl, fun j j1 j2 => by omega⟩, Nat.le_refl _, same_new hD2⟩ ?_ ?_
    · rintro i H' hi ⟨ys, h1, h2, h3, sm⟩
      have hi' : i < ns.length := by rw [lm] at hi; omega
      have hp1 := same_seqT sm hu
      have ei : (1 : Int) + (i : Int) = ((i + 1 : Nat) : Int) := by omega
      rw [ei]
      refine ⟨rfl, ?_⟩
      refine ⟨_, rfl, _, rfl, _, rfl, noPart_i ?_⟩
      refine slT_genD (K := K) hp1 fun b1 G1 y1 g1 => ?_
      have hp2 := same_seqT y1 hp1
      refine ⟨_, rfl, noPart_i ⟨_, rfl, _, rfl, ?_⟩⟩
      refine slT_gen (K := K) hp2 fun b2 G2 y2 g2 => ?_
      refine catA_gen (K := K) (same_seqT y2 g1) g2 ?_ fun b3 G3 y3 g3 => ?_
      · rw [List.length_take, List.length_drop, lm]
        exact Nat.le_of_lt (small1000 (by omega))
      have et : (ns.map V.int).drop (i + 1) ++ (ns.map V.int).take (i + 1) = (turnAt ns (i + 1)).map V.int := by
        unfold turnAt
        rw [List.map_append, List.map_take, List.map_drop]
      rw [et] at g3
      have hp3 := same_seqT (y2.trans y3) hp2
      have sA := ((sm.trans y1).trans y2).trans y3
      have h4 := ((y1.trans y2).trans y3) _ _ h1
      refine ⟨_, rfl, .tuple ((turnAt ns (i + 1)).map PyData.int), .tuple (ns.map PyData.int), .tup g3 (dpAll_ints _ _), .tup hp3 (dpAll_ints _ _), shapedAll_ints _, shapedAll_ints _, ?_⟩
      have ev : PyData.eqv (.tuple ((turnAt ns (i + 1)).map PyData.int)) (.tuple (ns.map PyData.int)) = decide (turnAt ns (i + 1) = ns) := eqv_ints _ ns
      rw [ev]
      refine ⟨_, rfl, ite2 (fun z => ?_) (fun z => ?_)⟩
      · have z' : turnAt ns (i + 1) = ns := by simpa using z
        refine ⟨_, rfl, _, h4, by rw [List.length_map]; exact small1000 (by omega), ys ++ [((i + 1 : Nat) : Int)], by rw [upd_same, List.map_append]; rfl, ?_, by rw [List.length_append]; show _ + 1 ≤ _; omega, fun b o hb => by rw [upd_ne (ne_of_none hb hD2)]; exact sA b o hb⟩
        rcases h2 with ⟨e, no⟩ | ⟨y, ys', e, r⟩
        · rw [e]
          exact .inr ⟨i + 1, [], rfl, by omega, by omega, z', fun j j1 j2 => no j j1 j2⟩
        · rw [e]
          exact .inr ⟨y, ys' ++ [((i + 1 : Nat) : Int)], rfl, r⟩
      · have z' : ¬ turnAt ns (i + 1) = ns := by simpa using z
        refine ⟨ys, h4, ?_, by omega, sA⟩
        rcases h2 with ⟨e, no⟩ | r
        · refine .inl ⟨e, fun j j1 j2 => ?_⟩
          by_cases hj : j = i + 1
          · rw [hj]
            exact z'
          · exact no j j1 (by omega)
        · exact .inr r
    rintro H4 ⟨ys, h1, h2, h3, s4⟩
    obtain ⟨z, ys', rfl, rz⟩ : ∃ (z : Nat) (ys' : List Int), ys = (z : Int) :: ys' ∧ IsRoot ns z := by
      rcases h2 with ⟨_, no⟩ | r
      · rw [lm] at no
        exact absurd turnAt_len (no ns.length l0 (by omega))
      · exact r
    have z1 := rz.1
    have z2 := rz.2.1
    refine ⟨D2, _, 0, .int (z : Int), rfl, rfl, SqL.of h1, (by exact atI_n (j := 0) rfl), ?_⟩
    have hu4 := same_seqT s4 hu
    refine ⟨_, rfl, _, rfl, _, rfl, t, u, u, row, n, ns, ns, rfl, same_seqT s4 ht, n6, pm, hu4, hu4, rn, rn, fun L l H5 hl s5 g5 e5 => nil_i ⟨l, _, rfl, .inl (SqL.of g5.l), ?_⟩⟩
    have e : (L.map fun q => V.ref q.1).length = nP row ns ns := by
      have := congrArg List.length e5
      rw [List.length_map, List.length_map] at this
      rw [List.length_map, this, Ln.meets_num (Rn.bt2 pm rn rn)]
      rfl
    rw [e]
    refine ⟨_, _, rfl, rfl, ⟨by decide, by decide⟩, ?_⟩
    refine ⟨_, rfl, u, _, rfl, .inr (same_seqT s5 hu4), _, rfl, _, _, rfl, rfl, ⟨by omega, by omega⟩, _, _, rfl, rfl, _, _, rfl, rfl, ?_⟩
    rw [lm]
    have := k z H5 rz (s4.trans s5)
    rw [Int.natCast_ediv, Int.natCast_ediv] at this
    exact this
def spTimesL (K : PySem.W.Frag) : Sp := fun vs H Q _ => ∃ (D : Dw) (u : Addr) (ns : List Int), vs = [.ref D.d, .ref u] ∧ SqT K H u (ns.map V.int) ∧ ns ≠ [] ∧ ns.length ≤ 40 ∧ DrOk D H ∧
  ∀ (a : Nat) H', 1 ≤ a → a ≤ 9 → a * ns.length ≤ 40 → DrOk D H' → Kp D H H' → Q (.int (a : Int)) H'
theorem ok_l_times (T : Txt K mg) : FnOk P w K mg base CX0 3 T.l_times.a T.l_times.fd ["draw", "one"] (spTimesL K) := by
  refine T.l_times.F.ok sc_l_times (fun vs H Q E h => ?_) (fun cdv A outer s H vs Q E hr h => ?_)
  · obtain ⟨D, u, ns, rfl, _⟩ := h
    rfl
  · obtain ⟨D, u, ns, rfl, hu, ne, lns, dr, k⟩ := h
    have nd := sc_l_times.nd
    have l0 := List.length_pos_iff.mpr ne
    have lm : (ns.map V.int).length = ns.length := List.length_map ..
    have d1 : 1 ≤ 40 / ns.length := (Nat.le_div_iff_mul_le l0).mpr (by omega)
    refine ⟨_, (pss_one (ps_ret (pe_op op_add pe_int (pe_call (ok_l_take T) (hr.mono (by decide)) (by rfl) T.l_take.g T.l_take.k T.l_take.b .nil pass0 (pa_cons (pv 0) (pa_cons (pe_callB (call_min2 rfl) (by rfl) T.zmin (by decide +kernel) (pa_cons pe_int (pa_cons (pe_op op_fdiv pe_int (pe_callB call_len_seq (by rfl) T.zlen (by decide +kernel) (pa_cons (pv 1) pa_nil))) pa_nil))) pa_nil)))))), ?_⟩
    have ed : (40 : Int) / (((ns.map V.int).length : Nat) : Int) = ((40 / ns.length : Nat) : Int) := by
      rw [lm]
      simp
    have mb : ∀ x : Int, x < (if (40 : Int) / (((ns.map V.int).length : Nat) : Int) < 9 then (40 : Int) / (((ns.map V.int).length : Nat) : Int) else 9) → x < 9 ∧ x < ((40 / ns.length : Nat) : Int) := fun x hx => by
      rw [ed] at hx
      split at hx <;> omega
    refine ⟨_, rfl, _, rfl, u, _, rfl, .inr hu, _, _, rfl, rfl, ⟨by rw [lm]; omega, by rw [lm]; omega⟩, _, _, rfl, D, _, rfl, ?_, ?_, dr, fun x H' x0 x1 d' k' => ?_⟩
    · rw [ed]
      split <;> omega
    · rw [ed]
      split <;> omega
    · obtain ⟨b1, b2⟩ := mb x x1
      obtain ⟨m, rfl⟩ := Int.eq_ofNat_of_zero_le x0
      refine rI0_add (v := ((m + 1 : Nat) : Int)) (by omega) (k (m + 1) H' (by omega) (by omega) ?_ d' k')
      exact (Nat.le_div_iff_mul_le l0).mp (by omega)
end
end Tt
set_option maxRecDepth 100000
set_option maxHeartbeats 4000000
namespace Tt
open PySem L2 Bt
section
variable {P : Program} {w : World} {K : PySem.W.Frag} {mg : Str → Option Value} {base : Heap}
theorem Sh.intL {i : Int} (h : i.natAbs < 10 ^ 12) : Sh 0 20 (.int i) := by
  have l : i.natAbs.log2 < 1920 := by
    rcases Nat.eq_zero_or_pos i.natAbs with z | z
    · rw [z]
      decide
    · exact (Nat.log2_lt (by omega)).mpr (Nat.lt_of_lt_of_le h (Nat.le_trans (show 10 ^ 12 ≤ 2 ^ 60 by decide) (Nat.pow_le_pow_right (by decide) (by decide))))
  refine ⟨decide_eq_true l, rfl, Nat.zero_le _, ?_⟩
  have q := PySem.int_text_length_le10 (a := i) (k := 12) (by decide) h
  have e : (PyData.int i).shown = Str.ofString (toString i) := rfl
  have e2 : (Str.ofString (toString i)).length = (toString i).length := PySem.ofString_length _
  rw [e, e2]
  omega
theorem dp_ints {H : Hp} : ∀ ns : List Int, DpAll K H (ns.map V.int) (ns.map PyData.int) := fun ns => dpAll_ints H ns
theorem show_ints {H : Hp} {g : Addr} {Q : VK} {ns : List Int} (hg : H g = some (.lst (ns.map V.int))) (hl : ns.length ≤ 8) (hn : ∀ x ∈ ns, x.natAbs < 10 ^ 12) (q : Q (.str (PyData.list (ns.map PyData.int)).shown) H) : rShow K [.ref g] H Q := by
  have sh := Sh.list (k := 0) (N := 20) (ds := ns.map PyData.int) fun d hd => by
    obtain ⟨x, hx, rfl⟩ := List.mem_map.mp hd
    exact Sh.intL (hn x hx)
  refine Sh.big (K := K) (d := .list (ns.map PyData.int)) (sh.mono (k' := 1) (N' := 400) (Nat.le_refl _) ?_) (by decide) (by decide) (.lst (SqL.of hg) (dpAll_ints _ _)) q
  rw [List.length_map]
  omega
theorem powG {u : Addr} {ns : List Int} {a : Nat} {H : Hp} {Q : VK} (h : SqT K H u (ns.map V.int)) (ne : ns ≠ []) (a1 : 1 ≤ a) (a9 : a ≤ 9) (hl : ns.length ≤ 40) (q : ∀ c H', Same H H' → SqT K H' c ((Wd.pow ns a).map V.int) → Q (.ref c) H') : rRepA K (.ref u) (.int (a : Int)) H Q :=
  repA_gen (K := K) h (fun z => ne (List.map_eq_nil_iff.mp z)) (by omega) (by omega) (by rw [List.length_map]; omega) fun c H' s hc => q c H' s (by rw [Int.toNat_natCast, repV] at hc; exact hc)
theorem Rn.pow {row ns : List Int} {a : Nat} (h : Rn row ns) (a1 : 1 ≤ a) (al : a * ns.length ≤ 40) : Rn row (Wd.pow ns a) :=
  ⟨rnd_pow h.r a1, by rw [Wd.pow_len]; exact al, fun x hx => h.m x (Wd.pow_mem hx)⟩
section
variable {row ns ms : List Int} {n a b : Nat}
theorem nP_pow (pm : row.Perm (rgI (2 * n))) (rn : Rn row ns) (rm : Rn row ms) (a1 : 1 ≤ a) (b1 : 1 ≤ b) : nP row (Wd.pow ns a) (Wd.pow ms b) = a * b * nP row ns ms := Ln.pairs_pow (Rn.bt2 pm rn rm) a1 b1
theorem nP_powL (pm : row.Perm (rgI (2 * n))) (rn : Rn row ns) (rm : Rn row ms) (a1 : 1 ≤ a) : nP row (Wd.pow ns a) ms = a * nP row ns ms := by
  have := nP_pow pm rn rm a1 (b := 1) (Nat.le_refl _)
  rw [Wd.pow_one, Nat.mul_one] at this
  exact this
theorem nP_powR (pm : row.Perm (rgI (2 * n))) (rn : Rn row ns) (rm : Rn row ms) (b1 : 1 ≤ b) : nP row ns (Wd.pow ms b) = b * nP row ns ms := by
  have := nP_pow pm rn rm (a := 1) (Nat.le_refl _) b1
  rw [Wd.pow_one, Nat.one_mul] at this
  exact this
theorem nP_swap (pm : row.Perm (rgI (2 * n))) (rn : Rn row ns) (rm : Rn row ms) : nP row ms ns = nP row ns ms := Ln.pairs_swap (Rn.bt2 pm rn rm)
theorem nP_le (rn : Rn row ns) (rm : Rn row ms) : nP row ns ms ≤ 3200 := pairsL_len rn.l rm.l
end
def spTwo (T : Txt K mg) : Sp := fun vs H Q _ => ∃ (D : Dw) (p t u v : Addr) (row : List Int) (n : Nat) (ns ms : List Int), vs = [.ref D.d, .ref p, .ref t, .ref u, .ref v] ∧ SkAt T H p row ∧ SqT K H t (row.map V.int) ∧ n ≤ 6 ∧ row.Perm (rgI (2 * n)) ∧
  SqT K H u (ns.map V.int) ∧ SqT K H v (ms.map V.int) ∧ Rn row ns ∧ Rn row ms ∧ DrOk D H ∧ ∀ H', DrOk D H' → Kp D H H' → Q (.bl true) H'
theorem ok_l_two_right (T : Txt K mg) : FnG P w K mg base CX0 9 T.l_two_right.a T.l_two_right.fd ["draw", "skin", "row", "x", "y"] (spTwo T) := by
  refine FunG T.l_two_right.F sc_l_two_right (fun vs H Q E h => ?_) (fun cdv A outer s H vs Q E hg hr h => ?_)
  · obtain ⟨D, p, t, u, v, row, n, ns, ms, rfl, _⟩ := h
    rfl
  · obtain ⟨D, p, t, u, v, row, n, ns, ms, rfl, sk, ht, n6, pm, hu, hv, rn, rm, dr, k⟩ := h
    have nd := sc_l_two_right.nd
    refine ⟨_, (pss_cons (ps_par3 (i := 5) (j := 6) (l := 7) rfl nd rfl rfl rfl (by decide) (by decide) (by decide) rfl rfl rfl (pa_cons (pe_call (ok_l_crossings T) (hr.mono (by decide)) (by rfl) T.l_crossings.g T.l_crossings.k T.l_crossings.b .nil pass0 (pa_cons (pv 2) (pa_cons (pv 3) (pa_cons (pv 4) pa_nil)))) (pa_cons (pe_call (ok_l_times T) (hr.mono (by decide)) (by rfl) T.l_times.g T.l_times.k T.l_times.b .nil pass0 (pa_cons (pv 0) (pa_cons (pv 3) pa_nil))) (pa_cons (pe_call (ok_l_times T) (hr.mono (by decide)) (by rfl) T.l_times.g T.l_times.k T.l_times.b .nil pass0 (pa_cons (pv 0) (pa_cons (pv 4) pa_nil))) pa_nil))) rfl)
    (pss_cons (ps_set (i := 8) nd rfl (Or.inl rfl) (pe_lst (pa_cons (pe_call (ok_crossings T) (hr.mono (by decide)) (by rfl) T.crossings.g T.crossings.k T.crossings.b .nil passF (pa_cons (pv 1) (pa_cons (pv 3) (pa_cons (pv 4) pa_nil)))) (pa_cons (pe_call (ok_crossings T) (hr.mono (by decide)) (by rfl) T.crossings.g T.crossings.k T.crossings.b .nil passF (pa_cons (pv 1) (pa_cons (pe_op op_repA (pv 3) (pv 6)) (pa_cons (pv 4) pa_nil)))) (pa_cons (pe_call (ok_crossings T) (hr.mono (by decide)) (by rfl) T.crossings.g T.crossings.k T.crossings.b .nil passF (pa_cons (pv 1) (pa_cons (pv 3) (pa_cons (pe_op op_repA (pv 4) (pv 7)) pa_nil)))) (pa_cons (pe_call (ok_crossings T) (hr.mono (by decide)) (by rfl) T.crossings.g T.crossings.k T.crossings.b .nil passF (pa_cons (pv 1) (pa_cons (pe_op op_repA (pv 3) (pv 6)) (pa_cons (pe_op op_repA (pv 4) (pv 7)) pa_nil)))) pa_nil))))))
    (pss_cons (ps_if (pt_cmpR op_ne (pe_callB (call_show hg hr.units) (by rfl) T.zrepr (by decide +kernel) (pa_cons (pv 8) pa_nil)) (pe_callB (call_show hg hr.units) (by rfl) T.zrepr (by decide +kernel) (pa_cons (pe_lst (pa_cons (pv 5) (pa_cons (pe_op op_mul (pv 6) (pv 5)) (pa_cons (pe_op op_mul (pv 7) (pv 5)) (pa_cons (pe_op op_mul (pe_op op_mul (pv 6) (pv 7)) (pv 5)) pa_nil))))) pa_nil)) (nomark _))
      (pss_one (ps_ret pe_bl))
      pss_nil)
    (pss_one (ps_ret (pe_and (pe_cmpR op_eq (pe_callB call_len_seq (by rfl) T.zlen (by decide +kernel) (pa_cons (pe_call (ok_linked_pairs T) (hr.mono (by decide)) (by rfl) T.linked_pairs.g T.linked_pairs.k T.linked_pairs.b .nil passF (pa_cons (pv 1) (pa_cons (pe_op op_repA (pv 3) (pv 6)) (pa_cons (pe_op op_repA (pv 4) (pv 7)) pa_nil)))) pa_nil)) (pe_op op_mul (pe_op op_mul (pv 6) (pv 7)) (pv 5)) (nomark _)) (pe_one (pe_cmpR op_eq (pe_call (ok_crossings T) (hr.mono (by decide)) (by rfl) T.crossings.g T.crossings.k T.crossings.b .nil passF (pa_cons (pv 1) (pa_cons (pe_op op_repA (pv 4) (pv 7)) (pa_cons (pe_op op_repA (pv 3) (pv 6)) pa_nil)))) (pe_op op_mul (pe_op op_mul (pv 6) (pv 7)) (pv 5)) (nomark _))))))))), ?_⟩
    have lns := rn.l
    have lms := rm.l
    have sl : 8192 ≤ sizeLine := by decide
    refine sqn ⟨_, rfl, _, rfl, _, rfl, t, u, v, row, n, ns, ms, rfl, ht, n6, pm, hu, hv, rn, rm, fun H1 s1 => ?_⟩
    have d1 := dr.same s1
    refine ⟨_, rfl, _, rfl, D, u, ns, rfl, same_seqT s1 hu, rn.r.1, lns, d1, fun a H2 a1 a9 al d2 k2 => ?_⟩
    have hv2 := k2.seqT d1 (same_seqT s1 hv)
    refine ⟨_, rfl, _, rfl, D, v, ms, rfl, hv2, rm.r.1, lms, d2, fun b H3 b1 b9 bl d3 k3 => nil_i ⟨_, _, _, rfl, ?_⟩⟩
    have kk : Kp D H H3 := (Kp.of s1).trans (k2.trans k3)
    have hu3 := kk.seqT dr hu
    have hv3 := kk.seqT dr hv
    have sk3 := sk.kp dr kk
    clear hv2 k2 k3 d2 d1 s1
    have rnA := rn.pow a1 al
    have rmB := rm.pow b1 bl
    have eA := nP_powL pm rn rm a1
    have eB := nP_powR pm rn rm b1
    have eAB := nP_pow pm rn rm a1 b1
    have eBA := (nP_swap pm rnA rmB).trans eAB
    have nb := nP_le rnA rmB
    have ab1 : 1 ≤ a * b := Nat.mul_pos a1 b1
    have ab81 : a * b ≤ 81 := Nat.le_trans (Nat.mul_le_mul a9 b9) (by decide)
    have n0 : nP row ns ms ≤ 3200 := nP_le rn rm
    have n1 := nP_le rnA rm
    have n2 := nP_le rn rmB
    have c1 : CMul (a : Int) ((nP row ns ms : Nat) : Int) := .inl ⟨by omega, by omega⟩
    have c2 : CMul (b : Int) ((nP row ns ms : Nat) : Int) := .inl ⟨by omega, by omega⟩
    have c3 : CMul (a : Int) (b : Int) := .inl ⟨by omega, by omega⟩
    have c4 : CMul ((a : Int) * (b : Int)) ((nP row ns ms : Nat) : Int) := .inr ⟨by omega, by omega⟩
    have vA : (a : Int) * ((nP row ns ms : Nat) : Int) = ((nP row (Wd.pow ns a) ms : Nat) : Int) := by rw [eA, Int.natCast_mul]
    have vB : (b : Int) * ((nP row ns ms : Nat) : Int) = ((nP row ns (Wd.pow ms b) : Nat) : Int) := by rw [eB, Int.natCast_mul]
    have vAB : (a : Int) * (b : Int) * ((nP row ns ms : Nat) : Int) = ((nP row (Wd.pow ns a) (Wd.pow ms b) : Nat) : Int) := by rw [eAB, Int.natCast_mul, Int.natCast_mul]
    have vBA : ((nP row (Wd.pow ms b) (Wd.pow ns a) : Nat) : Int) = ((nP row (Wd.pow ns a) (Wd.pow ms b) : Nat) : Int) := by rw [eBA, eAB]
    dsimp only
    refine sqn ⟨_, rfl, _, rfl, _, rfl, p, row, n, u, v, ns, ms, rfl, sk3, n6, pm, hu3, hv3, rn, rm, fun H4 s4 => ?_⟩
    refine ⟨_, rfl, _, rfl, _, rfl, powG (K := K) (same_seqT s4 hu3) rn.r.1 a1 a9 lns fun x5 H5 s5 h5 => ⟨_, rfl, p, row, n, x5, v, _, ms, rfl, (sk3.same s4).same s5, n6, pm, h5, same_seqT (s4.trans s5) hv3, rnA, rm, fun H6 s6 => ?_⟩⟩
    have t6 := (s4.trans s5).trans s6
    refine ⟨_, rfl, _, rfl, _, rfl, _, rfl, powG (K := K) (same_seqT t6 hv3) rm.r.1 b1 b9 lms fun x7 H7 s7 h7 => nil_i ⟨p, row, n, u, x7, ns, _, rfl, (sk3.same t6).same s7, n6, pm, same_seqT (t6.trans s7) hu3, h7, rn, rmB, fun H8 s8 => ?_⟩⟩
    have t8 := (t6.trans s7).trans s8
    refine ⟨_, rfl, _, rfl, _, rfl, powG (K := K) (same_seqT t8 hu3) rn.r.1 a1 a9 lns fun x9 H9 s9 h9 => ⟨_, rfl, _, rfl, powG (K := K) (same_seqT (t8.trans s9) hv3) rm.r.1 b1 b9 lms fun xA HA sA hA => nil_i ⟨p, row, n, x9, xA, _, _, rfl, (sk3.same t8).same (s9.trans sA), n6, pm, same_seqT sA h9, hA, rnA, rmB, fun HB sB => nil_i ⟨(by show 4 ≤ sizeLine; decide), fun g hg => ?_⟩⟩⟩⟩
    have tB := ((t8.trans s9).trans sA).trans sB
    have tC := tB.trans (same_new (o := .lst [.int ((pairsL row ns ms ns.length).length : Nat), .int ((pairsL row (Wd.pow ns a) ms (Wd.pow ns a).length).length : Nat), .int ((pairsL row ns (Wd.pow ms b) ns.length).length : Nat), .int ((pairsL row (Wd.pow ns a) (Wd.pow ms b) (Wd.pow ns a).length).length : Nat)]) hg)
    have eg : (upd HB g (.lst [.int ((pairsL row ns ms ns.length).length : Nat), .int ((pairsL row (Wd.pow ns a) ms (Wd.pow ns a).length).length : Nat), .int ((pairsL row ns (Wd.pow ms b) ns.length).length : Nat), .int ((pairsL row (Wd.pow ns a) (Wd.pow ms b) (Wd.pow ns a).length).length : Nat)])) g = some (.lst ([((nP row ns ms : Nat) : Int), ((nP row (Wd.pow ns a) ms : Nat) : Int), ((nP row ns (Wd.pow ms b) : Nat) : Int), ((nP row (Wd.pow ns a) (Wd.pow ms b) : Nat) : Int)].map V.int)) := upd_same
    generalize upd HB g (.lst [.int ((pairsL row ns ms ns.length).length : Nat), .int ((pairsL row (Wd.pow ns a) ms (Wd.pow ns a).length).length : Nat), .int ((pairsL row ns (Wd.pow ms b) ns.length).length : Nat), .int ((pairsL row (Wd.pow ns a) (Wd.pow ms b) (Wd.pow ns a).length).length : Nat)]) = HC at tC eg
    clear tB sB hA sA h9 s9 t8 s8 h7 s7 t6 s6 h5 s5 s4
    have sml : ∀ x ∈ [((nP row ns ms : Nat) : Int), ((nP row (Wd.pow ns a) ms : Nat) : Int), ((nP row ns (Wd.pow ms b) : Nat) : Int), ((nP row (Wd.pow ns a) (Wd.pow ms b) : Nat) : Int)], x.natAbs < 10 ^ 12 := fun x hx => by
      have : (10 : Nat) ^ 12 = 1000000000000 := by decide
      simp only [List.mem_cons, List.not_mem_nil, or_false] at hx
      rcases hx with rfl | rfl | rfl | rfl <;> omega
    dsimp only
    refine sqn ⟨_, rfl, nil_i (show_ints (K := K) eg (by show 4 ≤ 8; decide) sml ?_)⟩
    refine ⟨_, rfl, _, rfl, _, rfl, _, _, rfl, rfl, c1, _, rfl, _, rfl, _, _, rfl, rfl, c2, _, rfl, _, rfl, _, _, rfl, rfl, c3, _, rfl, _, _, rfl, rfl, c4, nil_i ⟨(by show 4 ≤ sizeLine; decide), fun g2 hg2 => ?_⟩⟩
    dsimp only
    rw [vA, vB, vAB]
    have eg2 : (upd HC g2 (.lst [.int (nP row ns ms : Nat), .int (nP row (Wd.pow ns a) ms : Nat), .int (nP row ns (Wd.pow ms b) : Nat), .int (nP row (Wd.pow ns a) (Wd.pow ms b) : Nat)])) g2 = some (.lst ([((nP row ns ms : Nat) : Int), ((nP row (Wd.pow ns a) ms : Nat) : Int), ((nP row ns (Wd.pow ms b) : Nat) : Int), ((nP row (Wd.pow ns a) (Wd.pow ms b) : Nat) : Int)].map V.int)) := upd_same
    have tD := tC.trans (same_new (o := .lst [.int (nP row ns ms : Nat), .int (nP row (Wd.pow ns a) ms : Nat), .int (nP row ns (Wd.pow ms b) : Nat), .int (nP row (Wd.pow ns a) (Wd.pow ms b) : Nat)]) hg2)
    generalize upd HC g2 (.lst [.int (nP row ns ms : Nat), .int (nP row (Wd.pow ns a) ms : Nat), .int (nP row ns (Wd.pow ms b) : Nat), .int (nP row (Wd.pow ns a) (Wd.pow ms b) : Nat)]) = HD at tD eg2
    refine nil_i (show_ints (K := K) eg2 (by show 4 ≤ 8; decide) sml ⟨rfl, _, rfl, ite2 (fun c => absurd c (by simp)) (fun _ => ?_)⟩)
    dsimp only [tNext]
    have uD := same_seqT tD hu3
    have wD := same_seqT tD hv3
    refine ⟨_, rfl, _, rfl, _, rfl, powG (K := K) uD rn.r.1 a1 a9 lns fun x5 H5 s5 h5 => ⟨_, rfl, _, rfl, powG (K := K) (same_seqT s5 wD) rm.r.1 b1 b9 lms fun x6 H6 s6 h6 => nil_i ⟨p, row, n, x5, x6, _, _, rfl, (sk3.same tD).same (s5.trans s6), n6, pm, same_seqT s6 h5, h6, rnA, rmB, fun L l H7 hl s7 g7 pl pw => nil_i ⟨l, _, rfl, .inl (SqL.of g7.l), ?_⟩⟩⟩⟩
    have e : (L.map fun q => V.ref q.1).length = nP row (Wd.pow ns a) (Wd.pow ms b) := by
      unfold nP
      rw [← pl.length_eq, List.length_map, List.length_map]
    rw [e]
    have t7 := ((tD.trans s5).trans s6).trans s7
    refine ⟨_, rfl, _, rfl, _, _, rfl, rfl, c3, _, rfl, _, _, rfl, rfl, c4, ?_⟩
    dsimp only
    rw [vAB]
    refine ⟨rfl, _, rfl, ite2 (fun _ => ?_) (fun c => absurd (by simp) c)⟩
    refine ⟨_, rfl, _, rfl, _, rfl, powG (K := K) (same_seqT t7 hv3) rm.r.1 b1 b9 lms fun x8 H8 s8 h8 => ⟨_, rfl, _, rfl, powG (K := K) (same_seqT (t7.trans s8) hu3) rn.r.1 a1 a9 lns fun x9 H9 s9 h9 => nil_i ⟨p, row, n, x8, x9, _, _, rfl, (sk3.same t7).same (s8.trans s9), n6, pm, same_seqT s9 h8, h9, rmB, rnA, fun HA sA => ?_⟩⟩⟩
    have tA := ((t7.trans s8).trans s9).trans sA
    refine ⟨_, rfl, _, rfl, _, _, rfl, rfl, c3, _, rfl, _, _, rfl, rfl, c4, ?_⟩
    dsimp only
    rw [vAB]
    have e2 : ((pairsL row (Wd.pow ms b) (Wd.pow ns a) (Wd.pow ms b).length).length : Int) = ((nP row (Wd.pow ns a) (Wd.pow ms b) : Nat) : Int) := vBA
    rw [e2]
    refine ⟨rfl, ?_⟩
    have := k HA (d3.same tA) (kk.trans (.of tA))
    simpa using this
end
end Tt
set_option maxRecDepth 100000
set_option maxHeartbeats 4000000
namespace Tt
open PySem L2 Bt
section
variable {row ns ms : List Int} {n a b o : Nat}
theorem Rn.abt (pm : row.Perm (rgI (2 * n))) (h : Rn row ns) : Rn row (Tt.abt ns) :=
  ⟨rnd_abt h.r, by rw [abt_len]; exact h.l, fun x hx => by
    have h2 := turn_mem (leastT_turn (undo_ne h.r.1)) hx
    unfold Wd.undo at h2
    obtain ⟨y, hy, rfl⟩ := List.mem_map.mp h2
    exact mateRow pm (h.m y (List.mem_reverse.mp hy))⟩
theorem nP_abt (pm : row.Perm (rgI (2 * n))) (rn : Rn row ns) (rm : Rn row ms) : nP row ns (Tt.abt ms) = nP row ns ms := by
  obtain ⟨u, v, h1, h2⟩ := leastT_turn (undo_ne rm.r.1)
  have hk : u.length ≤ ms.length := by
    have := congrArg List.length h1
    rw [Wd.undo_len, List.length_append] at this
    omega
  have e : Tt.abt ms = turnAt (Wd.undo ms) u.length := by
    show leastT (Wd.undo ms) = _
    rw [h2, h1]
    unfold turnAt
    rw [List.drop_left, List.take_left]
  unfold nP
  rw [e]
  exact Ln.pairs_about rm.r.1 hk _
theorem ownN_pow (pm : row.Perm (rgI (2 * n))) (rn : Rn row ns) (pr : Prim ns) (he : nP row ns ns = 2 * o) (a1 : 1 ≤ a) : ownN row (Wd.pow ns a) = ((a * a * o : Nat) : Int) + (a : Int) - 1 := by
  have l0 := List.length_pos_iff.mpr rn.r.1
  unfold ownN
  rw [nP_pow pm rn rn a1 a1, he, rootOf_eq (root_of_pow pr a1), Wd.pow_len, Nat.mul_div_cancel _ l0, Nat.mul_left_comm, Nat.mul_div_cancel_left _ (by decide)]
theorem ownN_one (rn : Rn row ns) (pr : Prim ns) {z : Nat} (r : IsRoot ns z) : ((nP row ns ns / 2 : Nat) : Int) + ((ns.length / z : Nat) : Int) - 1 = ((nP row ns ns / 2 : Nat) : Int) := by
  have l0 := List.length_pos_iff.mpr rn.r.1
  have ez : z = ns.length := root_uniq r pr
  rw [ez, Nat.div_self l0]
  omega
theorem few_two {c d : Addr} {xs ys : List Int} : fewS row [(c, xs), (d, ys)] 2 = ownN row xs + (nP row xs ys : Nat) + ownN row ys := by
  show (0 + fewAt row [(c, xs), (d, ys)] 0) + fewAt row [(c, xs), (d, ys)] 1 = _
  have e0 : fewAt row [(c, xs), (d, ys)] 0 = ownN row xs + rowSum row xs [(d, ys)] := rfl
  have e1 : fewAt row [(c, xs), (d, ys)] 1 = ownN row ys + rowSum row ys [] := rfl
  have r0 : rowSum row xs [(d, ys)] = ((nP row xs ys : Nat) : Int) + 0 := rfl
  have r1 : rowSum row ys ([] : List (Addr × List Int)) = 0 := rfl
  rw [e0, e1, r0, r1]
  omega
end
section
variable {P : Program} {w : World} {K : PySem.W.Frag} {mg : Str → Option Value} {base : Heap}
def spOne (T : Txt K mg) : Sp := fun vs H Q _ => ∃ (D : Dw) (p t u : Addr) (row : List Int) (n : Nat) (ns : List Int), vs = [.ref D.d, .ref p, .ref t, .ref u] ∧ SkAt T H p row ∧ SqT K H t (row.map V.int) ∧ n ≤ 6 ∧ row.Perm (rgI (2 * n)) ∧
  SqT K H u (ns.map V.int) ∧ Rn row ns ∧ Prim ns ∧ DrOk D H ∧ ∀ H', DrOk D H' → Kp D H H' → Q (.bl true) H'
theorem ok_l_one_right (T : Txt K mg) : FnG P w K mg base CX0 9 T.l_one_right.a T.l_one_right.fd ["draw", "skin", "row", "x"] (spOne T) := by
  refine FunG T.l_one_right.F sc_l_one_right (fun vs H Q E h => ?_) (fun cdv A outer s H vs Q E hg hr h => ?_)
  · obtain ⟨D, p, t, u, row, n, ns, rfl, _⟩ := h
    rfl
  · obtain ⟨D, p, t, u, row, n, ns, rfl, sk, ht, n6, pm, hu, rn, pr, dr, k⟩ := h
    have nd := sc_l_one_right.nd
    refine ⟨_, (pss_cons (ps_par3 (i := 4) (j := 5) (l := 6) rfl nd rfl rfl rfl (by decide) (by decide) (by decide) rfl rfl rfl (pa_cons (pe_call (ok_l_own T) (hr.mono (by decide)) (by rfl) T.l_own.g T.l_own.k T.l_own.b .nil pass0 (pa_cons (pv 2) (pa_cons (pv 3) pa_nil))) (pa_cons (pe_call (ok_l_times T) (hr.mono (by decide)) (by rfl) T.l_times.g T.l_times.k T.l_times.b .nil pass0 (pa_cons (pv 0) (pa_cons (pv 3) pa_nil))) (pa_cons (pe_call (ok_l_times T) (hr.mono (by decide)) (by rfl) T.l_times.g T.l_times.k T.l_times.b .nil pass0 (pa_cons (pv 0) (pa_cons (pv 3) pa_nil))) pa_nil))) rfl)
    (pss_cons (ps_set (i := 7) nd rfl (Or.inl rfl) (pe_op op_sub (pe_op op_add (pe_op op_mul (pe_op op_mul (pv 5) (pv 5)) (pv 4)) (pv 5)) pe_int))
    (pss_cons (ps_if (pt_cmpR op_ne (pe_callB (call_show hg hr.units) (by rfl) T.zrepr (by decide +kernel) (pa_cons (pe_lst (pa_cons (pe_call (ok_own_crossings T) (hr.mono (by decide)) (by rfl) T.own_crossings.g T.own_crossings.k T.own_crossings.b .nil passF (pa_cons (pv 1) (pa_cons (pv 3) pa_nil))) (pa_cons (pe_call (ok_own_crossings T) (hr.mono (by decide)) (by rfl) T.own_crossings.g T.own_crossings.k T.own_crossings.b .nil passF (pa_cons (pv 1) (pa_cons (pe_op op_repA (pv 3) (pv 5)) pa_nil))) (pa_cons (pe_callB call_len_seq (by rfl) T.zlen (by decide +kernel) (pa_cons (pe_call (ok_own_pairs T) (hr.mono (by decide)) (by rfl) T.own_pairs.g T.own_pairs.k T.own_pairs.b .nil passF (pa_cons (pv 1) (pa_cons (pe_op op_repA (pv 3) (pv 5)) pa_nil))) pa_nil)) pa_nil)))) pa_nil)) (pe_callB (call_show hg hr.units) (by rfl) T.zrepr (by decide +kernel) (pa_cons (pe_lst (pa_cons (pv 4) (pa_cons (pv 7) (pa_cons (pe_op op_mul (pe_op op_mul (pv 5) (pv 5)) (pv 4)) pa_nil)))) pa_nil)) (nomark _))
      (pss_one (ps_ret pe_bl))
      pss_nil)
    (pss_cons (ps_par (i := 8) (j := 9) rfl nd rfl rfl (by decide) rfl rfl (pa_cons (pe_op op_repA (pe_call (ok_l_least T) (hr.mono (by decide)) (by rfl) T.l_least.g T.l_least.k T.l_least.b .nil pass0 (pa_cons (pe_call (ok_l_undone T) (hr.mono (by decide)) (by rfl) T.l_undone.g T.l_undone.k T.l_undone.b .nil pass0 (pa_cons (pv 3) pa_nil)) pa_nil)) (pv 6)) (pa_cons (pe_op op_mul (pe_op op_mul (pe_op op_mul pe_int (pv 5)) (pv 6)) (pv 4)) pa_nil)) rfl)
    (pss_cons (ps_if (pt_cmpR op_ne (pe_callB (call_show hg hr.units) (by rfl) T.zrepr (by decide +kernel) (pa_cons (pe_lst (pa_cons (pe_call (ok_crossings T) (hr.mono (by decide)) (by rfl) T.crossings.g T.crossings.k T.crossings.b .nil passF (pa_cons (pv 1) (pa_cons (pe_op op_repA (pv 3) (pv 5)) (pa_cons (pe_op op_repA (pv 3) (pv 6)) pa_nil)))) (pa_cons (pe_call (ok_crossings T) (hr.mono (by decide)) (by rfl) T.crossings.g T.crossings.k T.crossings.b .nil passF (pa_cons (pv 1) (pa_cons (pe_op op_repA (pv 3) (pv 5)) (pa_cons (pv 8) pa_nil)))) (pa_cons (pe_call (ok_crossings T) (hr.mono (by decide)) (by rfl) T.crossings.g T.crossings.k T.crossings.b .nil passF (pa_cons (pv 1) (pa_cons (pv 8) (pa_cons (pe_op op_repA (pv 3) (pv 5)) pa_nil)))) pa_nil)))) pa_nil)) (pe_callB (call_show hg hr.units) (by rfl) T.zrepr (by decide +kernel) (pa_cons (pe_op op_rep (pe_lst (pa_cons (pv 9) pa_nil)) pe_int) pa_nil)) (nomark _))
      (pss_one (ps_ret pe_bl))
      pss_nil)
    (pss_one (ps_ret (pe_cmpR op_eq (pe_call (ok_fewest T) (hr.mono (by decide)) (by rfl) T.fewest.g T.fewest.k T.fewest.b .nil passF (pa_cons (pv 1) (pa_cons (pe_lst (pa_cons (pe_op op_repA (pv 3) (pv 5)) (pa_cons (pe_op op_repA (pv 3) (pv 6)) pa_nil))) pa_nil))) (pe_op op_add (pe_op op_sub (pe_op op_add (pe_op op_add (pv 7) (pe_op op_mul (pe_op op_mul (pv 6) (pv 6)) (pv 4))) (pv 6)) pe_int) (pv 9)) (nomark _))))))))), ?_⟩
    have lns := rn.l
    have sl : 8192 ≤ sizeLine := by decide
    refine sqn ⟨_, rfl, _, rfl, t, u, row, n, ns, rfl, ht, n6, pm, hu, rn, fun z H1 iz s1 => ?_⟩
    rw [ownN_one rn pr iz]
    clear iz
    have d1 := dr.same s1
    have hu1 := same_seqT s1 hu
    refine ⟨_, rfl, _, rfl, D, u, ns, rfl, hu1, rn.r.1, lns, d1, fun a H2 a1 a9 al d2 k2 => ?_⟩
    have hu2 := k2.seqT d1 hu1
    refine ⟨_, rfl, _, rfl, D, u, ns, rfl, hu2, rn.r.1, lns, d2, fun b H3 b1 b9 bl d3 k3 => nil_i ⟨_, _, _, rfl, ?_⟩⟩
    have kk : Kp D H H3 := (Kp.of s1).trans (k2.trans k3)
    have hu3 := kk.seqT dr hu
    have sk3 := sk.kp dr kk
    clear hu2 k2 k3 d2 d1 s1 hu1
    have rnA := rn.pow a1 al
    have rnB := rn.pow b1 bl
    obtain ⟨o, ho⟩ : ∃ o, nP row ns ns / 2 = o := ⟨_, rfl⟩
    have n0 : nP row ns ns ≤ 3200 := nP_le rn rn
    rw [ho]
    have aa : a * a ≤ 81 := Nat.le_trans (Nat.mul_le_mul a9 a9) (by decide)
    have bb : b * b ≤ 81 := Nat.le_trans (Nat.mul_le_mul b9 b9) (by decide)
    have ab : a * b ≤ 81 := Nat.le_trans (Nat.mul_le_mul a9 b9) (by decide)
    have caa : CMul (a : Int) (a : Int) := .inl ⟨by omega, by omega⟩
    have cbb : CMul (b : Int) (b : Int) := .inl ⟨by omega, by omega⟩
    have c2a : CMul (2 : Int) (a : Int) := .inl ⟨by omega, by omega⟩
    have c2b : CMul (2 * (a : Int)) (b : Int) := .inr ⟨by omega, by omega⟩
    have cO : ∀ x : Int, CMul x (o : Int) := fun x => .inr ⟨by omega, by omega⟩
    have vA : (a : Int) * (a : Int) * (o : Int) = ((a * a * o : Nat) : Int) := by rw [Int.natCast_mul, Int.natCast_mul]
    have vB : (b : Int) * (b : Int) * (o : Int) = ((b * b * o : Nat) : Int) := by rw [Int.natCast_mul, Int.natCast_mul]
    have v2 : 2 * (a : Int) * (b : Int) * (o : Int) = ((2 * a * b * o : Nat) : Int) := by rw [Int.natCast_mul, Int.natCast_mul, Int.natCast_mul]; rfl
    dsimp only
    refine sqn ⟨_, rfl, _, rfl, _, _, rfl, rfl, caa, _, rfl, _, _, rfl, rfl, cO _, _, rfl, _, _, rfl, rfl, _, _, rfl, rfl, ?_⟩
    dsimp only
    rw [vA]
    refine ⟨_, rfl, _, rfl, p, row, n, u, ns, rfl, sk3, n6, pm, hu3, rn, fun xs z H4 s4 o4 r4 => ?_⟩
    have he : nP row ns ns = 2 * o := by
      have := Ln.own_half (Rn.bt2 pm rn rn) o4
      have e : nP row ns ns = 2 * xs.length := this
      omega
    have o1600 : o ≤ 1600 := by omega
    have own1 : ownN row ns = (o : Int) := by
      unfold ownN
      rw [rootOf_eq pr, Nat.div_self (List.length_pos_iff.mpr rn.r.1), ho]
      omega
    have ownA := ownN_pow pm rn pr he a1
    have ownB := ownN_pow pm rn pr he b1
    rw [ownN_eq pm rn o4 r4, own1]
    clear o4 r4 xs z
    refine ⟨_, rfl, _, rfl, _, rfl, powG (K := K) (same_seqT s4 hu3) rn.r.1 a1 a9 lns fun x5 H5 s5 h5 => nil_i ⟨p, row, n, x5, _, rfl, sk3.same (s4.trans s5), n6, pm, h5, rnA, fun xs z H6 s6 o6 r6 => ?_⟩⟩
    rw [ownN_eq pm rnA o6 r6, ownA]
    clear o6 r6 xs z
    have t6 := (s4.trans s5).trans s6
    refine ⟨_, rfl, _, rfl, _, rfl, powG (K := K) (same_seqT t6 hu3) rn.r.1 a1 a9 lns fun x7 H7 s7 h7 => nil_i ⟨p, row, n, x7, _, rfl, sk3.same (t6.trans s7), n6, pm, h7, rnA, fun L l H8 hl s8 g8 nd8 pw8 mm8 => nil_i ⟨l, _, rfl, .inl (SqL.of g8.l), ?_⟩⟩⟩
    have len8 : (L.map fun q => V.ref q.1).length = a * a * o := by
      have := Ln.own_half (Rn.bt2 pm rnA rnA) (⟨nd8, List.pairwise_map.mpr pw8, mm8⟩ : OwnL row (Wd.pow ns a) (L.map (·.2)))
      have e : nP row (Wd.pow ns a) (Wd.pow ns a) = 2 * (L.map (·.2)).length := this
      rw [nP_pow pm rn rn a1 a1, he, Nat.mul_left_comm, List.length_map] at e
      rw [List.length_map]
      omega
    rw [len8]
    have t8 := (t6.trans s7).trans s8
    clear len8 nd8 pw8 mm8 g8 s8 h7 s7 t6 s6 h5 s5 s4
    have bA : a * a * o ≤ 129600 := Nat.le_trans (Nat.mul_le_mul aa o1600) (by decide)
    have bB : b * b * o ≤ 129600 := Nat.le_trans (Nat.mul_le_mul bb o1600) (by decide)
    have bC : 2 * a * b * o ≤ 259200 := by
      rw [Nat.mul_assoc 2 a b, Nat.mul_assoc 2]
      exact Nat.le_trans (Nat.mul_le_mul_left 2 (Nat.mul_le_mul ab o1600)) (by decide)
    generalize hNA : a * a * o = NA at vA ownA bA
    generalize hNB : b * b * o = NB at vB ownB bB
    generalize hNC : 2 * a * b * o = NC at v2 bC
    refine nil_i ⟨(by show 3 ≤ sizeLine; decide), fun g hg => ?_⟩
    have tC := t8.trans (same_new (o := .lst [.int (o : Int), .int ((NA : Int) + (a : Int) - 1), .int (NA : Int)]) hg)
    have eg : (upd H8 g (.lst [.int (o : Int), .int ((NA : Int) + (a : Int) - 1), .int (NA : Int)])) g = some (.lst ([(o : Int), (NA : Int) + (a : Int) - 1, (NA : Int)].map V.int)) := upd_same
    generalize upd H8 g (.lst [.int (o : Int), .int ((NA : Int) + (a : Int) - 1), .int (NA : Int)]) = HC at tC eg
    have sml : ∀ x ∈ [(o : Int), (NA : Int) + (a : Int) - 1, (NA : Int)], x.natAbs < 10 ^ 12 := fun x hx => by
      have : (10 : Nat) ^ 12 = 1000000000000 := by decide
      simp only [List.mem_cons, List.not_mem_nil, or_false] at hx
      rcases hx with rfl | rfl | rfl <;> omega
    clear t8 hg
    refine nil_i (show_ints (K := K) eg (by show 3 ≤ 8; decide) sml ?_)
    refine ⟨_, rfl, _, rfl, _, rfl, _, rfl, _, _, rfl, rfl, caa, _, rfl, _, _, rfl, rfl, cO _, nil_i ⟨(by show 3 ≤ sizeLine; decide), fun g2 hg2 => ?_⟩⟩
    dsimp only
    rw [vA]
    have tD := tC.trans (same_new (o := .lst [.int (o : Int), .int ((NA : Int) + (a : Int) - 1), .int (NA : Int)]) hg2)
    have eg2 : (upd HC g2 (.lst [.int (o : Int), .int ((NA : Int) + (a : Int) - 1), .int (NA : Int)])) g2 = some (.lst ([(o : Int), (NA : Int) + (a : Int) - 1, (NA : Int)].map V.int)) := upd_same
    generalize upd HC g2 (.lst [.int (o : Int), .int ((NA : Int) + (a : Int) - 1), .int (NA : Int)]) = HD at tD eg2
    refine nil_i (show_ints (K := K) eg2 (by show 3 ≤ 8; decide) sml ⟨rfl, _, rfl, ite2 (fun c => absurd c (by simp)) (fun _ => ?_)⟩)
    dsimp only [tNext]
    clear eg eg2 sml hg2 tC
    have B12n : ∀ y ∈ ns, 0 ≤ y ∧ y < 12 := fun y hy => row12 n6 pm (rn.m y hy)
    have neu := undo_ne rn.r.1
    have rnT := Rn.abt pm rn
    have lT : (Tt.abt ns).length = ns.length := abt_len ns
    have rnTB := rnT.pow b1 (by rw [lT]; exact bl)
    have q1 : nP row (Wd.pow ns a) (Wd.pow ns b) = NC := by
      rw [nP_pow pm rn rn a1 b1, he, ← hNC, Nat.mul_left_comm, Nat.mul_assoc 2 a b, Nat.mul_assoc 2]
    have q2 : nP row (Wd.pow ns a) (Wd.pow (Tt.abt ns) b) = NC := by
      rw [nP_pow pm rn rnT a1 b1, nP_abt pm rn rn, ← nP_pow pm rn rn a1 b1, q1]
    have q3 : nP row (Wd.pow (Tt.abt ns) b) (Wd.pow ns a) = NC := (nP_swap pm rnA rnTB).trans q2
    have huD := same_seqT tD hu3
    have skD := sk3.same tD
    refine sqn ⟨_, rfl, u, ns, rfl, huD, by omega, B12n, fun q H10 s10 e10 => nil_i ⟨q, _, rfl, SqT.of e10, neu, by rw [Wd.undo_len]; omega, fun r H11 s11 hr => ?_⟩⟩
    refine ⟨_, rfl, powG (K := K) (ns := Tt.abt ns) hr rnT.r.1 b1 b9 rnT.l fun w0 H12 s12 h12 => ?_⟩
    refine ⟨_, rfl, _, _, rfl, rfl, c2a, _, rfl, _, _, rfl, rfl, c2b, _, rfl, _, _, rfl, rfl, cO _, nil_i ⟨_, _, rfl, ?_⟩⟩
    dsimp only
    rw [v2]
    have tE := (s10.trans s11).trans s12
    have huE := same_seqT tE huD
    have skE := skD.same tE
    have tDE := tD.trans tE
    clear s10 s11 s12 e10 hr huD skD tD tE
    refine sqn ⟨_, rfl, _, rfl, _, rfl, powG (K := K) huE rn.r.1 a1 a9 lns fun x1 G1 y1 g1 => ⟨_, rfl, _, rfl, powG (K := K) (same_seqT y1 huE) rn.r.1 b1 b9 lns fun x2 G2 y2 g2 => nil_i ⟨p, row, n, x1, x2, _, _, rfl, skE.same (y1.trans y2), n6, pm, same_seqT y2 g1, g2, rnA, rnB, fun G3 y3 => ?_⟩⟩⟩
    have z3 := (y1.trans y2).trans y3
    refine ⟨_, rfl, _, rfl, _, rfl, powG (K := K) (same_seqT z3 huE) rn.r.1 a1 a9 lns fun x4 G4 y4 g4 => ⟨_, rfl, p, row, n, x4, w0, _, _, rfl, skE.same (z3.trans y4), n6, pm, g4, same_seqT (z3.trans y4) h12, rnA, rnTB, fun G5 y5 => ?_⟩⟩
    have z5 := (z3.trans y4).trans y5
    refine ⟨_, rfl, _, rfl, _, rfl, _, rfl, powG (K := K) (same_seqT z5 huE) rn.r.1 a1 a9 lns fun x6 G6 y6 g6 => nil_i ⟨p, row, n, w0, x6, _, _, rfl, skE.same (z5.trans y6), n6, pm, same_seqT (z5.trans y6) h12, g6, rnTB, rnA, fun G7 y7 => ?_⟩⟩
    have z7 := (z5.trans y6).trans y7
    have p1 : (pairsL row (Wd.pow ns a) (Wd.pow ns b) (Wd.pow ns a).length).length = NC := q1
    have p2 : (pairsL row (Wd.pow ns a) (Wd.pow (Tt.abt ns) b) (Wd.pow ns a).length).length = NC := q2
    have p3 : (pairsL row (Wd.pow (Tt.abt ns) b) (Wd.pow ns a) (Wd.pow (Tt.abt ns) b).length).length = NC := q3
    rw [p1, p2, p3]
    refine nil_i ⟨(by show 3 ≤ sizeLine; decide), fun g hg => ?_⟩
    have tF := z7.trans (same_new (o := .lst [.int (NC : Int), .int (NC : Int), .int (NC : Int)]) hg)
    have eg : (upd G7 g (.lst [.int (NC : Int), .int (NC : Int), .int (NC : Int)])) g = some (.lst ([(NC : Int), (NC : Int), (NC : Int)].map V.int)) := upd_same
    generalize upd G7 g (.lst [.int (NC : Int), .int (NC : Int), .int (NC : Int)]) = HF at tF eg
    have sml : ∀ x ∈ [(NC : Int), (NC : Int), (NC : Int)], x.natAbs < 10 ^ 12 := fun x hx => by
      have : (10 : Nat) ^ 12 = 1000000000000 := by decide
      simp only [List.mem_cons, List.not_mem_nil, or_false] at hx
      rcases hx with rfl | rfl | rfl <;> omega
    clear hg z7 y7 y6 g6 z5 y5 y4 g4 z3 y3 y2 g2 y1 g1
    refine nil_i (show_ints (K := K) eg (by show 3 ≤ 8; decide) sml ?_)
    refine ⟨_, rfl, (by show 1 ≤ sizeLine; decide), fun g2 hg2 => ?_⟩
    have tG := tF.trans (same_new (o := .lst [.int (NC : Int)]) hg2)
    have eg2 : (upd HF g2 (.lst [.int (NC : Int)])) g2 = some (.lst [.int (NC : Int)]) := upd_same
    generalize upd HF g2 (.lst [.int (NC : Int)]) = HG at tG eg2
    refine ⟨g2, 3, _, rfl, rfl, eg2, by decide, by decide, (by show 3 ≤ sizeLine; decide), fun g3 hg3 => ?_⟩
    have tH := tG.trans (same_new (o := .lst [.int (NC : Int), .int (NC : Int), .int (NC : Int)]) hg3)
    have eg3 : (upd HG g3 (.lst [.int (NC : Int), .int (NC : Int), .int (NC : Int)])) g3 = some (.lst ([(NC : Int), (NC : Int), (NC : Int)].map V.int)) := upd_same
    have rep3 : (List.replicate (3 : Int).toNat [V.int (NC : Int)]).flatten = [.int (NC : Int), .int (NC : Int), .int (NC : Int)] := rfl
    rw [rep3]
    generalize upd HG g3 (.lst [.int (NC : Int), .int (NC : Int), .int (NC : Int)]) = HH at tH eg3
    refine nil_i (show_ints (K := K) eg3 (by show 3 ≤ 8; decide) sml ⟨rfl, _, rfl, ite2 (fun c => absurd c (by simp)) (fun _ => ?_)⟩)
    dsimp only [tNext]
    have huH := same_seqT tH huE
    have skH := skE.same tH
    have tDH := tDE.trans tH
    clear eg eg2 eg3 sml hg2 hg3 rep3 tF tG tH huE skE tDE h12
    refine ⟨_, rfl, _, rfl, _, rfl, powG (K := K) huH rn.r.1 a1 a9 lns fun x1 G1 y1 g1 => ⟨_, rfl, _, rfl, powG (K := K) (same_seqT y1 huH) rn.r.1 b1 b9 lns fun x2 G2 y2 g2 => nil_i ⟨(by show 2 ≤ sizeLine; decide), fun l hl => ?_⟩⟩⟩
    have y3 := same_new (o := .lst [.ref x1, .ref x2]) hl
    have el : (upd G2 l (.lst [.ref x1, .ref x2])) l = some (.lst [.ref x1, .ref x2]) := upd_same
    generalize upd G2 l (.lst [.ref x1, .ref x2]) = G3 at y3 el
    have lA : (Wd.pow ns a).length ≤ 40 := rnA.l
    have lB : (Wd.pow ns b).length ≤ 40 := rnB.l
    have rds : Rds K G3 row l [(x1, Wd.pow ns a), (x2, Wd.pow ns b)] := ⟨SqL.of el, fun q hq => by
        simp only [List.mem_cons, List.not_mem_nil, or_false] at hq
        rcases hq with rfl | rfl
        · exact same_seqT (y2.trans y3) g1
        · exact same_seqT y3 g2, fun q hq => by
        simp only [List.mem_cons, List.not_mem_nil, or_false] at hq
        rcases hq with rfl | rfl
        · exact rnA
        · exact rnB, (by show 2 ≤ 8; decide), (by show (Wd.pow ns a).length + ((Wd.pow ns b).length + 0) ≤ 80; omega)⟩
    refine nil_i ⟨p, l, row, n, _, rfl, skH.same ((y1.trans y2).trans y3), n6, pm, rds, fun G4 y4 => ?_⟩
    have few : fewS row [(x1, Wd.pow ns a), (x2, Wd.pow ns b)] 2 = (NA : Int) + (a : Int) - 1 + (NC : Int) + ((NB : Int) + (b : Int) - 1) := by
      rw [few_two, ownA, ownB, q1]
    have few' : fewS row [(x1, Wd.pow ns a), (x2, Wd.pow ns b)] [(x1, Wd.pow ns a), (x2, Wd.pow ns b)].length = (NA : Int) + (a : Int) - 1 + (NC : Int) + ((NB : Int) + (b : Int) - 1) := few
    rw [few']
    refine ⟨_, rfl, _, rfl, _, rfl, _, _, rfl, rfl, cbb, _, rfl, _, _, rfl, rfl, cO _, _, _, rfl, rfl, _, rfl, _, _, rfl, rfl, _, _, rfl, rfl, _, rfl, _, _, rfl, rfl, ?_⟩
    dsimp only
    rw [vB]
    have er : (NA : Int) + (a : Int) - 1 + (NC : Int) + ((NB : Int) + (b : Int) - 1) = (NA : Int) + (a : Int) - 1 + (NB : Int) + (b : Int) - 1 + (NC : Int) := by omega
    rw [er]
    have tA := tDH.trans (((y1.trans y2).trans y3).trans y4)
    have := k G4 (d3.same tA) (kk.trans (.of tA))
    refine ⟨rfl, ?_⟩
    simpa using this
end
end Tt
set_option maxRecDepth 100000
set_option maxHeartbeats 4000000
namespace Tt
open PySem L2 Bt
section
variable {P : Program} {w : World} {K : PySem.W.Frag} {mg : Str → Option Value} {base : Heap}
theorem law_body (T : Txt K mg) {cdv : Value} {A : Around} {outer : List Env} {s : Shared} {H : Hp} {E : XK} {Q : VK} {a : Addr} {zs : List Int} (hA : A.guards = some []) (hr : Room 14 (A.deeper (PyProof.Rows.envOfC "law" (defScope s_law) s.heap.objs.size T.law.a cdv)))
    (hs : SqL K H a (zs.map V.int)) (hl : zs.length ≤ 63) (k : ∀ H', Q (.bl true) H') :
    ∃ t, PSs (cxOf CX0 P w K mg base N_law "law" (defScope s_law) T.law.a cdv A outer s H E).nox (defBody s_law) t ∧ t { nx := fun _ H' => Q .non H', rt := Q } (L2.start N_law [.ref a]) H := by
  have nd := sc_law.nd
  have hg : (cxOf CX0 P w K mg base N_law "law" (defScope s_law) T.law.a cdv A outer s H E).nox.A.guards = some [] := hA
  refine ⟨_, (pss_cons (ps_set (i := 1) nd rfl (Or.inl rfl) (pe_call (ok_l_begun T) (hr.mono (by decide)) (by rfl) T.l_begun.g T.l_begun.k T.l_begun.b .nil pass0 (pa_cons (pv 0) pa_nil)))
    (pss_cons (ps_for PassesOwn.never rfl (pi_range1 rfl T.zrange (pa_cons (pe_op op_add pe_int (pe_callB (call_min2 rfl) (by rfl) T.zmin (by decide +kernel) (pa_cons (pe_callB call_len_seq (by rfl) T.zlen (by decide +kernel) (pa_cons (pv 0) pa_nil)) (pa_cons pe_int pa_nil)))) pa_nil)) (pg_name (i := 2) nd rfl (Or.inl rfl))
      (pss_cons (ps_set (i := 3) nd rfl (Or.inl rfl) (pe_call (ok_l_pick T) (hr.mono (by decide)) (by rfl) T.l_pick.g T.l_pick.k T.l_pick.b .nil pass0 (pa_cons (pv 1) (pa_cons (pe_lst (pa_cons pe_int (pa_cons pe_int (pa_cons pe_int (pa_cons pe_int (pa_cons pe_int (pa_cons pe_int pa_nil))))))) pa_nil))))
      (pss_cons (ps_set (i := 4) nd rfl (Or.inl rfl) (pe_call (ok_l_row T) (hr.mono (by decide)) (by rfl) T.l_row.g T.l_row.k T.l_row.b .nil pass0 (pa_cons (pv 1) (pa_cons (pv 3) pa_nil))))
      (pss_cons (ps_par (i := 5) (j := 6) rfl nd rfl rfl (by decide) rfl rfl (pa_cons (pe_call (ok_l_any_loop T) (hr.mono (by decide)) (by rfl) T.l_any_loop.g T.l_any_loop.k T.l_any_loop.b .nil pass0 (pa_cons (pv 1) (pa_cons (pe_op op_mul pe_int (pv 3)) (pa_cons pe_int pa_nil)))) (pa_cons (pe_call (ok_l_any_loop T) (hr.mono (by decide)) (by rfl) T.l_any_loop.g T.l_any_loop.k T.l_any_loop.b .nil pass0 (pa_cons (pv 1) (pa_cons (pe_op op_mul pe_int (pv 3)) (pa_cons pe_int pa_nil)))) pa_nil)) rfl)
      (pss_one (ps_if (PW.pt (pw_or (pt_not (pt_val (pe_callG (ok_l_two_right T) hg (hr.mono (by decide)) (by rfl) T.l_two_right.g T.l_two_right.k T.l_two_right.b .nil pass0 (pa_cons (pv 1) (pa_cons (pe_make T.Skin.kk (ok_Skin_init T) (hr.mono (by decide)) (by rfl) T.Skin.g T.Skin.b .nil passF (pa_cons (pv 4) pa_nil)) (pa_cons (pv 4) (pa_cons (pv 5) (pa_cons (pv 6) pa_nil)))))))) (pw_or1 (pt_not (pt_val (pe_callG (ok_l_one_right T) hg (hr.mono (by decide)) (by rfl) T.l_one_right.g T.l_one_right.k T.l_one_right.b .nil pass0 (pa_cons (pv 1) (pa_cons (pe_make T.Skin.kk (ok_Skin_init T) (hr.mono (by decide)) (by rfl) T.Skin.g T.Skin.b .nil passF (pa_cons (pv 4) pa_nil)) (pa_cons (pv 4) (pa_cons (pe_call (ok_l_root T) (hr.mono (by decide)) (by rfl) T.l_root.g T.l_root.k T.l_root.b .nil pass0 (pa_cons (pv 5) pa_nil)) pa_nil))))))))))
        (pss_one (ps_ret pe_bl))
        pss_nil))))))
    (pss_one (ps_ret pe_bl)))), ?_⟩
  refine ⟨_, rfl, a, zs, rfl, hs, hl, fun D H1 d1 s1 => ?_⟩
  have hs1 : SqL K H1 a (zs.map V.int) := Same.seq s1 hs
  refine ⟨_, rfl, a, _, rfl, .inl hs1, _, _, rfl, _, _, rfl, rfl, _, rfl, ?_, ?_, ?_⟩
  · split <;> omega
  · split <;> omega
  refine for_range (lo := 0) (fun i σ H' => ∃ v2 v3 v4 v5 v6, σ = [some (.ref a), some (.ref D.d), v2, v3, v4, v5, v6] ∧ DrOk D H') ⟨none, none, none, none, none, rfl, d1⟩ ?_ ?_
  · rintro i0' σ H2 hi ⟨v2, v3, v4, v5, v6, rfl, d2⟩
    refine sqn ⟨_, rfl, (by show 6 ≤ sizeLine; decide), fun l hl => ?_⟩
    have ol : Off D l := d2.off hl
    refine ⟨D, l, _, rfl, .inl (SqL.of upd_same), ol.2.1, by simp, by simp, d2.new hl, fun i1 bv H3 hb d3 k3 => ?_⟩
    obtain ⟨n, rfl, n1, n6⟩ : ∃ n : Nat, bv = .int (n : Int) ∧ 1 ≤ n ∧ n ≤ 6 := by
      have := List.mem_of_getElem? hb
      simp only [List.mem_cons, List.not_mem_nil, or_false] at this
      rcases this with rfl | rfl | rfl | rfl | rfl | rfl
      · exact ⟨1, rfl, by omega, by omega⟩
      · exact ⟨2, rfl, by omega, by omega⟩
      · exact ⟨2, rfl, by omega, by omega⟩
      · exact ⟨3, rfl, by omega, by omega⟩
      · exact ⟨4, rfl, by omega, by omega⟩
      · exact ⟨6, rfl, by omega, by omega⟩
    clear hb k3 hl ol d2
    refine sqn ⟨_, rfl, _, rfl, D, n, rfl, n1, n6, d3, fun row t H4 pm h0 d4 k4 fz => ?_⟩
    clear k4 d3
    have hlen := perm_len pm
    have ev : (2 * (n : Int)) % 2 = 0 := by omega
    have rnOf : ∀ {q : List Int}, Rnd q → (q.length : Int) ≤ 8 → Lt (2 * (n : Int)) q → Rn row q := fun r l h => ⟨r, by omega, fun y hy => (perm_mem pm).mpr (by have := h y hy; omega)⟩
    refine sqn ⟨_, rfl, _, rfl, _, _, rfl, rfl, .inl ⟨by decide, by decide⟩, D, _, _, rfl, by omega, by omega, ev, by omega, by omega, d4, fun ns u H5 rn0 ln lt d5 k5 hu => ?_⟩
    refine ⟨_, rfl, _, rfl, _, _, rfl, rfl, .inl ⟨by decide, by decide⟩, D, _, _, rfl, by omega, by omega, ev, by omega, by omega, d5, fun ms v H6 rm0 lm0 lt2 d6 k6 hv => nil_i ⟨_, _, rfl, ?_⟩⟩
    have rn := rnOf rn0 ln lt
    have rm := rnOf rm0 lm0 lt2
    have fz6 := FzT.kp (FzT.kp fz d4 k5) d5 k6
    have hu6 := k6.seqT d5 hu
    have ndr : row.Nodup := row_nodup pm
    have turn0 : ∀ {st : Nat}, row[st]? = some 0 → row.drop st ++ row.take st = row := fun {st} i0 => by
      have st0 : st = 0 := (List.getElem?_inj (i := st) (j := 0) (by have := (List.getElem?_eq_some_iff.mp i0).1; exact this) ndr).mp (i0.trans h0.symm)
      subst st0
      simp
    dsimp only
    refine ⟨_, rfl, _, rfl, ?_⟩
    intro x dx hx hdx ne
    have sA : Same H6 (upd (upd H6 dx (.own x)) x (.ins T.Skin.C dx [])) := (same_new hdx).trans (same_new (by rw [upd_ne ne.symm]; exact hx))
    refine ⟨x, t, dx, n, row, rfl, upd_same, FzT.same fz6 sA, n1, n6, pm, fun st H7 i0 sk kp => ⟨rfl, ?_⟩⟩
    have s7 : Same H6 H7 := fun b o hb => kp b o (sA b o hb) (ne_of_none hb hx)
    rw [turn0 i0] at sk
    have d7 := d6.same s7
    refine ⟨_, rfl, _, rfl, _, rfl, D, x, t, u, v, row, n, ns, ms, rfl, sk, (FzT.same fz6 s7).sq, n6, pm, same_seqT s7 hu6, same_seqT s7 hv, rn, rm, d7, fun H8 d8 k8 => ⟨_, rfl, iteF ?_⟩⟩
    have fz8 := FzT.kp (FzT.same fz6 s7) d7 k8
    have hu8 := k8.seqT d7 (same_seqT s7 hu6)
    clear sk kp s7 sA i0 hx hdx ne
    refine ⟨_, rfl, _, rfl, ?_⟩
    intro x2 dx2 hx hdx ne
    have sA : Same H8 (upd (upd H8 dx2 (.own x2)) x2 (.ins T.Skin.C dx2 [])) := (same_new hdx).trans (same_new (by rw [upd_ne ne.symm]; exact hx))
    refine ⟨x2, t, dx2, n, row, rfl, upd_same, FzT.same fz8 sA, n1, n6, pm, fun st H9 i0 sk kp => ⟨rfl, ?_⟩⟩
    have s9 : Same H8 H9 := fun b o hb => kp b o (sA b o hb) (ne_of_none hb hx)
    rw [turn0 i0] at sk
    have d9 := d8.same s9
    refine ⟨_, rfl, _, rfl, u, ns, rfl, same_seqT s9 hu8, rn.r.1, rn.l, fun z q HA rz sA2 hq => ?_⟩
    have dA := d9.same sA2
    have lz : (ns.take z).length = z := by
      rw [List.length_take]
      have := rz.2.1
      omega
    have rnz : Rn row (ns.take z) := ⟨rnd_root rn.r rz, by rw [lz]; have := rz.2.1; have := rn.l; omega, fun y hy => rn.m y (List.mem_of_mem_take hy)⟩
    refine nil_i ⟨D, x2, t, q, row, n, ns.take z, rfl, sk.same sA2, same_seqT sA2 (FzT.same fz8 s9).sq, n6, pm, hq, rnz, prim_root rz, dA, fun HB dB kB => ⟨_, rfl, iteF ?_⟩⟩
    exact ⟨_, _, _, _, _, rfl, dB⟩
  · rintro σ H2 ⟨v2, v3, v4, v5, v6, rfl, d2⟩
    exact k H2
end
end Tt
set_option maxRecDepth 100000
set_option maxHeartbeats 4000000
namespace Tt
open PySem PySem.Spec PyProof.Rows L2
open LamX (TabB)
def firstH (a : Addr) (ts : List (Addr × Addr)) (u : Option HO) : Hp := fun b => if b = a then u else if b ∈ ts.map (·.2) then some (.tbl #[]) else none
theorem firstH_a {a : Addr} {ts : List (Addr × Addr)} {u : Option HO} : firstH a ts u a = u := if_pos rfl
theorem firstH_t {a t : Addr} {ts : List (Addr × Addr)} {u : Option HO} (n : t ≠ a) (h : t ∈ ts.map (·.2)) : firstH a ts u t = some (.tbl #[]) := (if_neg n).trans (if_pos h)
theorem firstH_o {a b : Addr} {ts : List (Addr × Addr)} {u : Option HO} (n : b ≠ a) (m : b ∉ ts.map (·.2)) : firstH a ts u b = none := (if_neg n).trans (if_neg m)
theorem law_run {P : Program} {w : World} {K : PySem.W.Frag} {mg mb : Str → Option Value} {fa a : Addr} {ts : List (Addr × Addr)} {s₁ : Shared} {vs : List Value} {ns : List Int}
    (KX : K.In s₁.heap) (hg : s₁.heap.Ns mainGlobals mg) (hb : s₁.heap.Ns builtinsNs mb) (hbb : ∀ x : Str, x ≠ "__name__" → mb x = bootBuiltins x) (lim : s₁.heap.NoLimit) (gens : s₁.gens = #[])
    (hts : ∀ p ∈ ts, s₁.heap.get? p.2 = some { cls := .none, data := .fields #[] } ∧ K.lookup p.2 = none ∧ PySem.W.CodeHd s₁.heap p.1 p.2)
    (bmain : ∃ (bm : Addr) (ob : Obj), mg "__builtins__" = some (.ref bm) ∧ bm ≠ builtinsNs ∧ s₁.heap.get? bm = some ob ∧ ob.cls = .type "module" ∧ ob.dict = some builtinsNs ∧ ob.data = .plain)
    (ha : s₁.heap.get? a = some { cls := .type "list", data := .seq vs.toArray }) (hi : IntsAre vs ns) (hl : ns.length ≤ sizeLine)
    (run : ∀ (base : Heap) (H : Hp), (∀ p ∈ ts, TabB base mg p.1 p.2) → Env0 P w K mg base callerA [] s₁ H → (∀ p ∈ ts, H p.2 = some (.tbl #[])) → SqL K H a (ns.map V.int) → codeAny (model P w) callerA (.call (.ref fa) ⟨[.ref a], []⟩) (CR CX0 [] P w H s₁ (fun v _ => v = .bl true) E0) s₁) :
    codeAny (model P w) callerA (.call (.ref fa) ⟨[.ref a], []⟩) (fun r s' => r = .ok (.ret (.bool true)) ∧ OldK s₁.heap s'.heap ∧ s'.os = s₁.os ∧ AllBare s'.gens) s₁ := by
  have rv := vals_ints hi
  have mem : ∀ {t : Addr}, t ∈ ts.map (·.2) → ∃ c, (c, t) ∈ ts := fun {t} h => by
    obtain ⟨⟨c, t'⟩, h1, rfl⟩ := List.mem_map.mp h
    exact ⟨c, h1⟩
  have nta : ∀ t ∈ ts.map (·.2), t ≠ a := fun t ht z => by
    obtain ⟨c, hc⟩ := mem ht
    have h1 := (hts _ hc).1
    rw [z, ha] at h1
    have z' : Data.seq vs.toArray _ = Data.fields #[] := congrArg Obj.data (Option.some.inj h1)
    cases z'
  obtain ⟨u, hu, hS, hK⟩ : ∃ u : Option HO, (u = none ∨ u = some (.frz { cls := .type "list", data := .seq vs.toArray } (.lst (ns.map V.int)))) ∧ SqL K (firstH a ts u) a (ns.map V.int) ∧ (u ≠ none → K.lookup a = none) := by
    cases hk : K.lookup a with
    | none => exact ⟨_, .inr rfl, .inl (.inr ⟨_, firstH_a⟩), fun _ => rfl⟩
    | some o =>
      have e := KX a o hk
      rw [ha] at e
      cases e
      exact ⟨none, .inl rfl, .inr ⟨_, vs.toArray, _, hk, rfl, rfl, rfl, by rw [List.size_toArray, hi.length]; exact hl, by simpa using rv⟩, fun z => absurd rfl z⟩
  have hT : ∀ t ∈ ts.map (·.2), firstH a ts u t = some (.tbl #[]) := fun t ht => firstH_t (nta t ht) ht
  have look : ∀ b x, firstH a ts u b = some x → (b = a ∧ u = some x) ∨ (b ∈ ts.map (·.2) ∧ x = .tbl #[]) := fun b x e => by
    by_cases h1 : b = a
    · subst h1
      exact .inl ⟨rfl, firstH_a.symm.trans e⟩
    · by_cases h2 : b ∈ ts.map (·.2)
      · rw [hT b h2] at e
        exact .inr ⟨h2, (Option.some.inj e).symm⟩
      · rw [firstH_o h1 h2] at e
        cases e
  generalize hH : firstH a ts u = H at hS hT look
  have free : ∀ {b : Addr} {o : Obj}, s₁.heap.get? b = some o → (∀ vs n, o.data ≠ .seq vs n) → o.data ≠ .fields #[] → H b = none := fun {b o} e h1 h2 => by
    cases q : H b with
    | none => rfl
    | some x =>
      rcases look b x q with ⟨rfl, _⟩ | ⟨hb, _⟩
      · rw [ha] at e
        cases e
        exact (h1 _ _ rfl).elim
      · obtain ⟨c, hc⟩ := mem hb
        rw [(hts _ hc).1] at e
        cases e
        exact (h2 rfl).elim
  have dict : ∀ {b : Addr} {m : Str → Option Value}, s₁.heap.Ns b m → (hidT s₁.heap H).Ns b m := fun {b m} ⟨o, es, ep, e, d, r⟩ =>
    ⟨o, es, ep, hidT_get e (free e (fun _ _ z => by rw [d] at z; cases z) (fun z => by rw [d] at z; cases z)), d, r⟩
  have kin : K.In (hidT s₁.heap H) := fun b o e => hidT_get (KX b o e) (by
    cases q : H b with
    | none => rfl
    | some x =>
      rcases look b x q with ⟨rfl, hx⟩ | ⟨hb, _⟩
      · rw [hK (by rw [hx]; simp)] at e
        cases e
      · obtain ⟨c, hc⟩ := mem hb
        rw [(hts _ hc).2.1] at e
        cases e)
  have mod : L2.Mod K mg (hidT s₁.heap H) := ⟨kin, dict hg, ⟨mb, dict hb, hbb⟩, let ⟨mc, h1, h2⟩ := lim; ⟨mc, dict h1, h2⟩⟩
  have TB : ∀ p ∈ ts, TabB (hidT s₁.heap H) mg p.1 p.2 := fun p hp => by
    obtain ⟨ht, nt, C⟩ := hts p hp
    refine ⟨?_, ?_, fun z => ?_⟩
    · obtain ⟨o, us, file, tf, flags, tg, inF, text, tt, e1, r1, r2, r3, rest⟩ := C
      refine ⟨o, us, file, tf, flags, tg, inF, text, tt, hidT_get e1 (free e1 (fun _ _ z => by rw [r2] at z; cases z) fun z => ?_), r1, r2, r3, rest⟩
      rw [r2] at z
      cases z
      simp at r3
    · obtain ⟨bm, ob, b1, b2, b3, b4, b5, b6⟩ := bmain
      refine ⟨bm, ob, b1, b2, fun q => ?_, fun q => ?_, hidT_get b3 (free b3 (fun _ _ z => by rw [b6] at z; cases z) (fun z => by rw [b6] at z; cases z)), b4, b5, b6⟩
      · obtain ⟨o, es, ep, e, hd, _⟩ := hg
        rw [q, e] at b3
        cases b3
        rw [hd] at b6
        cases b6
      · rw [q, ht] at b3
        cases b3
        cases b6
    · obtain ⟨o, es, ep, e, hd, _⟩ := hg
      rw [z, ht] at e
      cases e
      cases hd
  have hok : HOk P w H s₁.heap := fun b x e => by
    rcases look b x e with ⟨rfl, hx⟩ | ⟨hb, rfl⟩
    · rcases hu with rfl | rfl
      · cases hx
      · cases hx
        exact ⟨ha, by rw [List.length_map]; exact hl, vs, _, rv, ha⟩
    · obtain ⟨c, hc⟩ := mem hb
      exact (hts _ hc).1
  have e0 : Env0 P w K mg (hidT s₁.heap H) callerA [] s₁ H := ⟨rfl, mod, fun b o e => of_hidT e, Nat.le_of_eq (hidT_size _ _), trivial, fun b hb => absurd (show b ∈ ([] : List Addr) from hb) (by simp), hok, .of_eq gens⟩
  refine codeAny_mono (run _ H TB e0 (fun p hp => hT _ (List.mem_map_of_mem hp)) hS) fun r s' h => ?_
  match r, h with
  | .error e, h => exact (show False from h).elim
  | .ok .next, h => exact (show False from h).elim
  | .ok .brk, h => exact (show False from h).elim
  | .ok .cont, h => exact (show False from h).elim
  | .ok (.ret v'), h =>
    obtain ⟨v, H', os, bare, un, hok', rr, rfl⟩ := h
    obtain rfl : v' = Value.bool true := rr
    have ends : ∀ t ∈ ts.map (·.2), ∃ more : Array Value, s'.heap.get? t = some { cls := .none, data := .fields more } := fun t ht => by
      obtain ⟨more, e3⟩ := un.tbls t #[] (hT t ht)
      have e4 : s'.heap.get? t = some { cls := .none, data := .fields (#[] ++ more) } := hok' t _ e3
      rw [Array.empty_append] at e4
      exact ⟨more, e4⟩
    have stay : ∀ b o, b ∉ ts.map (·.2) → s₁.heap.get? b = some o → s'.heap.get? b = some o := fun b o nb e => by
      cases q : H b with
      | none => exact un.keep b o e q (fun z => absurd (show b ∈ ([] : List Addr) from z) (by simp)) (by simp)
      | some x =>
        rcases look b x q with ⟨rfl, hx⟩ | ⟨hb, _⟩
        · rcases hu with rfl | rfl
          · cases hx
          · cases hx
            obtain ⟨e1, _⟩ := hok b _ q
            obtain ⟨e2, _⟩ := hok' b _ (un.frzs b _ _ q)
            rw [e] at e1
            cases e1
            exact e2
        · exact absurd hb nb
    refine ⟨rfl, ⟨fun b o e => ?_, fun b o e => ?_⟩, os, bare⟩
    · by_cases nb : b ∈ ts.map (·.2)
      · obtain ⟨c, hc⟩ := mem nb
        obtain ⟨ht, nt, C⟩ := hts _ hc
        obtain ⟨more, e4⟩ := ends b nb
        have ht' : s₁.heap.get? b = some { cls := .none, data := .fields #[] } := ht
        rw [ht'] at e
        cases e
        exact .inr (.inl ⟨(C.tab ht).isCodeTable, rfl, #[], more, rfl, by rw [Array.empty_append]; exact e4⟩)
      · exact .inl (stay b o nb e)
    · by_cases nb : b ∈ ts.map (·.2)
      · obtain ⟨more, e4⟩ := ends b nb
        exact ⟨_, e4⟩
      · exact ⟨o, stay b o nb e⟩
end Tt
set_option maxRecDepth 100000
set_option maxHeartbeats 4000000
namespace Tt
open PySem PySem.Spec PyProof.Rows L2
open LamX (TabB)
theorem all_mk {K : PySem.W.Frag} {h : Heap} {mg : Str → Option Value} {fa  : Addr} (X : K.In h) (G : h.Ns mainGlobals mg) (hfa : mg "law" = some (.ref fa))
    {C_RoundError : Addr}
    {C_BadRound : Addr}
    {C_BadRounds : Addr}
    {od_BadRounds an_BadRounds : Option Addr} {sl_BadRounds : Array (Option Value)} {oc_BadRounds kV_BadRounds dc_BadRounds pm_BadRounds cd_BadRounds ct_BadRounds : Value} {f_BadRounds : Addr}
    {nm_BadRounds qn_BadRounds : Str} {N_BadRounds : Addr} {bs_BadRounds bm_BadRounds : List Value} {sn_BadRounds : List Str} {sb_BadRounds : List Value} {ab_BadRounds : Bool} {co_BadRounds : Option Bool} {dd_BadRounds : Option Addr} {m0_BadRounds m1_BadRounds m2_BadRounds m3_BadRounds m5_BadRounds : Option Value}
    {C_BadSkin : Addr}
    {od_BadSkin an_BadSkin : Option Addr} {sl_BadSkin : Array (Option Value)} {oc_BadSkin kV_BadSkin dc_BadSkin pm_BadSkin cd_BadSkin ct_BadSkin : Value} {f_BadSkin : Addr}
    {nm_BadSkin qn_BadSkin : Str} {N_BadSkin : Addr} {bs_BadSkin bm_BadSkin : List Value} {sn_BadSkin : List Str} {sb_BadSkin : List Value} {ab_BadSkin : Bool} {co_BadSkin : Option Bool} {dd_BadSkin : Option Addr} {m0_BadSkin m1_BadSkin m2_BadSkin m3_BadSkin m5_BadSkin : Option Value}
    {od_is_number an_is_number : Option Addr} {sl_is_number : Array (Option Value)} {oc_is_number kV_is_number dc_is_number pm_is_number cd_is_number ct_is_number : Value} {f_is_number : Addr}
    {od_is_within an_is_within : Option Addr} {sl_is_within : Array (Option Value)} {oc_is_within kV_is_within dc_is_within pm_is_within cd_is_within ct_is_within : Value} {f_is_within : Addr}
    {od_is_tuple an_is_tuple : Option Addr} {sl_is_tuple : Array (Option Value)} {oc_is_tuple kV_is_tuple dc_is_tuple pm_is_tuple cd_is_tuple ct_is_tuple : Value} {f_is_tuple : Addr}
    {od_is_list an_is_list : Option Addr} {sl_is_list : Array (Option Value)} {oc_is_list kV_is_list dc_is_list pm_is_list cd_is_list ct_is_list : Value} {f_is_list : Addr}
    {od_is_row an_is_row : Option Addr} {sl_is_row : Array (Option Value)} {oc_is_row kV_is_row dc_is_row pm_is_row cd_is_row ct_is_row : Value} {f_is_row : Addr}
    {C_Skin : Addr}
    {od_Skin an_Skin : Option Addr} {sl_Skin : Array (Option Value)} {oc_Skin kV_Skin dc_Skin pm_Skin cd_Skin ct_Skin : Value} {f_Skin : Addr}
    {od_check_skin an_check_skin : Option Addr} {sl_check_skin : Array (Option Value)} {oc_check_skin kV_check_skin dc_check_skin pm_check_skin cd_check_skin ct_check_skin : Value} {f_check_skin : Addr}
    {od_is_end an_is_end : Option Addr} {sl_is_end : Array (Option Value)} {oc_is_end kV_is_end dc_is_end pm_is_end cd_is_end ct_is_end : Value} {f_is_end : Addr}
    {od_stands_ahead an_stands_ahead : Option Addr} {sl_stands_ahead : Array (Option Value)} {oc_stands_ahead kV_stands_ahead dc_stands_ahead pm_stands_ahead cd_stands_ahead ct_stands_ahead : Value} {f_stands_ahead : Addr}
    {od_by_turns an_by_turns : Option Addr} {sl_by_turns : Array (Option Value)} {oc_by_turns kV_by_turns dc_by_turns pm_by_turns cd_by_turns ct_by_turns : Value} {f_by_turns : Addr}
    {od_least_turn an_least_turn : Option Addr} {sl_least_turn : Array (Option Value)} {oc_least_turn kV_least_turn dc_least_turn pm_least_turn cd_least_turn ct_least_turn : Value} {f_least_turn : Addr}
    {od_is_any_word an_is_any_word : Option Addr} {sl_is_any_word : Array (Option Value)} {oc_is_any_word kV_is_any_word dc_is_any_word pm_is_any_word cd_is_any_word ct_is_any_word : Value} {f_is_any_word : Addr}
    {od_has_letters an_has_letters : Option Addr} {sl_has_letters : Array (Option Value)} {oc_has_letters kV_has_letters dc_has_letters pm_has_letters cd_has_letters ct_has_letters : Value} {f_has_letters : Addr}
    {od_cut_free an_cut_free : Option Addr} {sl_cut_free : Array (Option Value)} {oc_cut_free kV_cut_free dc_cut_free pm_cut_free cd_cut_free ct_cut_free : Value} {f_cut_free : Addr}
    {od_closed_letters an_closed_letters : Option Addr} {sl_closed_letters : Array (Option Value)} {oc_closed_letters kV_closed_letters dc_closed_letters pm_closed_letters cd_closed_letters ct_closed_letters : Value} {f_closed_letters : Addr}
    {od_closed_up an_closed_up : Option Addr} {sl_closed_up : Array (Option Value)} {oc_closed_up kV_closed_up dc_closed_up pm_closed_up cd_closed_up ct_closed_up : Value} {f_closed_up : Addr}
    {od_is_fit_round an_is_fit_round : Option Addr} {sl_is_fit_round : Array (Option Value)} {oc_is_fit_round kV_is_fit_round dc_is_fit_round pm_is_fit_round cd_is_fit_round ct_is_fit_round : Value} {f_is_fit_round : Addr}
    {od_check_round an_check_round : Option Addr} {sl_check_round : Array (Option Value)} {oc_check_round kV_check_round dc_check_round pm_check_round cd_check_round ct_check_round : Value} {f_check_round : Addr}
    {od_check_rounds an_check_rounds : Option Addr} {sl_check_rounds : Array (Option Value)} {oc_check_rounds kV_check_rounds dc_check_rounds pm_check_rounds cd_check_rounds ct_check_rounds : Value} {f_check_rounds : Addr}
    {od_rooted an_rooted : Option Addr} {sl_rooted : Array (Option Value)} {oc_rooted kV_rooted dc_rooted pm_rooted cd_rooted ct_rooted : Value} {f_rooted : Addr}
    {od_letter_on an_letter_on : Option Addr} {sl_letter_on : Array (Option Value)} {oc_letter_on kV_letter_on dc_letter_on pm_letter_on cd_letter_on ct_letter_on : Value} {f_letter_on : Addr}
    {od_shared an_shared : Option Addr} {sl_shared : Array (Option Value)} {oc_shared kV_shared dc_shared pm_shared cd_shared ct_shared : Value} {f_shared : Addr}
    {od_from_left an_from_left : Option Addr} {sl_from_left : Array (Option Value)} {oc_from_left kV_from_left dc_from_left pm_from_left cd_from_left ct_from_left : Value} {f_from_left : Addr}
    {od_to_right an_to_right : Option Addr} {sl_to_right : Array (Option Value)} {oc_to_right kV_to_right dc_to_right pm_to_right cd_to_right ct_to_right : Value} {f_to_right : Addr}
    {od_common_stretch an_common_stretch : Option Addr} {sl_common_stretch : Array (Option Value)} {oc_common_stretch kV_common_stretch dc_common_stretch pm_common_stretch cd_common_stretch ct_common_stretch : Value} {f_common_stretch : Addr}
    {od_linked_along an_linked_along : Option Addr} {sl_linked_along : Array (Option Value)} {oc_linked_along kV_linked_along dc_linked_along pm_linked_along cd_linked_along ct_linked_along : Value} {f_linked_along : Addr}
    {od_linked_across an_linked_across : Option Addr} {sl_linked_across : Array (Option Value)} {oc_linked_across kV_linked_across dc_linked_across pm_linked_across cd_linked_across ct_linked_across : Value} {f_linked_across : Addr}
    {od_pairs_of an_pairs_of : Option Addr} {sl_pairs_of : Array (Option Value)} {oc_pairs_of kV_pairs_of dc_pairs_of pm_pairs_of cd_pairs_of ct_pairs_of : Value} {f_pairs_of : Addr}
    {od_linked_pairs an_linked_pairs : Option Addr} {sl_linked_pairs : Array (Option Value)} {oc_linked_pairs kV_linked_pairs dc_linked_pairs pm_linked_pairs cd_linked_pairs ct_linked_pairs : Value} {f_linked_pairs : Addr}
    {od_taken_otherwise an_taken_otherwise : Option Addr} {sl_taken_otherwise : Array (Option Value)} {oc_taken_otherwise kV_taken_otherwise dc_taken_otherwise pm_taken_otherwise cd_taken_otherwise ct_taken_otherwise : Value} {f_taken_otherwise : Addr}
    {od_u_own_pairs an_u_own_pairs : Option Addr} {sl_u_own_pairs : Array (Option Value)} {oc_u_own_pairs kV_u_own_pairs dc_u_own_pairs pm_u_own_pairs cd_u_own_pairs ct_u_own_pairs : Value} {f_u_own_pairs : Addr}
    {od_own_pairs an_own_pairs : Option Addr} {sl_own_pairs : Array (Option Value)} {oc_own_pairs kV_own_pairs dc_own_pairs pm_own_pairs cd_own_pairs ct_own_pairs : Value} {f_own_pairs : Addr}
    {od_own_number an_own_number : Option Addr} {sl_own_number : Array (Option Value)} {oc_own_number kV_own_number dc_own_number pm_own_number cd_own_number ct_own_number : Value} {f_own_number : Addr}
    {od_crossings an_crossings : Option Addr} {sl_crossings : Array (Option Value)} {oc_crossings kV_crossings dc_crossings pm_crossings cd_crossings ct_crossings : Value} {f_crossings : Addr}
    {od_own_crossings an_own_crossings : Option Addr} {sl_own_crossings : Array (Option Value)} {oc_own_crossings kV_own_crossings dc_own_crossings pm_own_crossings cd_own_crossings ct_own_crossings : Value} {f_own_crossings : Addr}
    {od_fewest an_fewest : Option Addr} {sl_fewest : Array (Option Value)} {oc_fewest kV_fewest dc_fewest pm_fewest cd_fewest ct_fewest : Value} {f_fewest : Addr}
    {od_l_begun an_l_begun : Option Addr} {sl_l_begun : Array (Option Value)} {oc_l_begun kV_l_begun dc_l_begun pm_l_begun cd_l_begun ct_l_begun : Value} {f_l_begun : Addr}
    {od_l_mixed an_l_mixed : Option Addr} {sl_l_mixed : Array (Option Value)} {oc_l_mixed kV_l_mixed dc_l_mixed pm_l_mixed cd_l_mixed ct_l_mixed : Value} {f_l_mixed : Addr}
    {od_l_take an_l_take : Option Addr} {sl_l_take : Array (Option Value)} {oc_l_take kV_l_take dc_l_take pm_l_take cd_l_take ct_l_take : Value} {f_l_take : Addr}
    {od_l_pick an_l_pick : Option Addr} {sl_l_pick : Array (Option Value)} {oc_l_pick kV_l_pick dc_l_pick pm_l_pick cd_l_pick ct_l_pick : Value} {f_l_pick : Addr}
    {od_l_shuffled an_l_shuffled : Option Addr} {sl_l_shuffled : Array (Option Value)} {oc_l_shuffled kV_l_shuffled dc_l_shuffled pm_l_shuffled cd_l_shuffled ct_l_shuffled : Value} {f_l_shuffled : Addr}
    {od_l_row an_l_row : Option Addr} {sl_l_row : Array (Option Value)} {oc_l_row kV_l_row dc_l_row pm_l_row cd_l_row ct_l_row : Value} {f_l_row : Addr}
    {od_l_undone an_l_undone : Option Addr} {sl_l_undone : Array (Option Value)} {oc_l_undone kV_l_undone dc_l_undone pm_l_undone cd_l_undone ct_l_undone : Value} {f_l_undone : Addr}
    {od_l_least an_l_least : Option Addr} {sl_l_least : Array (Option Value)} {oc_l_least kV_l_least dc_l_least pm_l_least cd_l_least ct_l_least : Value} {f_l_least : Addr}
    {od_l_drawn an_l_drawn : Option Addr} {sl_l_drawn : Array (Option Value)} {oc_l_drawn kV_l_drawn dc_l_drawn pm_l_drawn cd_l_drawn ct_l_drawn : Value} {f_l_drawn : Addr}
    {od_l_any_loop an_l_any_loop : Option Addr} {sl_l_any_loop : Array (Option Value)} {oc_l_any_loop kV_l_any_loop dc_l_any_loop pm_l_any_loop cd_l_any_loop ct_l_any_loop : Value} {f_l_any_loop : Addr}
    {od_l_mended an_l_mended : Option Addr} {sl_l_mended : Array (Option Value)} {oc_l_mended kV_l_mended dc_l_mended pm_l_mended cd_l_mended ct_l_mended : Value} {f_l_mended : Addr}
    {od_l_far an_l_far : Option Addr} {sl_l_far : Array (Option Value)} {oc_l_far kV_l_far dc_l_far pm_l_far cd_l_far ct_l_far : Value} {f_l_far : Addr}
    {od_l_ways an_l_ways : Option Addr} {sl_l_ways : Array (Option Value)} {oc_l_ways kV_l_ways dc_l_ways pm_l_ways cd_l_ways ct_l_ways : Value} {f_l_ways : Addr}
    {od_l_by_turns an_l_by_turns : Option Addr} {sl_l_by_turns : Array (Option Value)} {oc_l_by_turns kV_l_by_turns dc_l_by_turns pm_l_by_turns cd_l_by_turns ct_l_by_turns : Value} {f_l_by_turns : Addr}
    {od_l_meets an_l_meets : Option Addr} {sl_l_meets : Array (Option Value)} {oc_l_meets kV_l_meets dc_l_meets pm_l_meets cd_l_meets ct_l_meets : Value} {f_l_meets : Addr}
    {od_l_crossings an_l_crossings : Option Addr} {sl_l_crossings : Array (Option Value)} {oc_l_crossings kV_l_crossings dc_l_crossings pm_l_crossings cd_l_crossings ct_l_crossings : Value} {f_l_crossings : Addr}
    {od_l_own an_l_own : Option Addr} {sl_l_own : Array (Option Value)} {oc_l_own kV_l_own dc_l_own pm_l_own cd_l_own ct_l_own : Value} {f_l_own : Addr}
    {od_l_root an_l_root : Option Addr} {sl_l_root : Array (Option Value)} {oc_l_root kV_l_root dc_l_root pm_l_root cd_l_root ct_l_root : Value} {f_l_root : Addr}
    {od_l_times an_l_times : Option Addr} {sl_l_times : Array (Option Value)} {oc_l_times kV_l_times dc_l_times pm_l_times cd_l_times ct_l_times : Value} {f_l_times : Addr}
    {od_l_two_right an_l_two_right : Option Addr} {sl_l_two_right : Array (Option Value)} {oc_l_two_right kV_l_two_right dc_l_two_right pm_l_two_right cd_l_two_right ct_l_two_right : Value} {f_l_two_right : Addr}
    {od_l_one_right an_l_one_right : Option Addr} {sl_l_one_right : Array (Option Value)} {oc_l_one_right kV_l_one_right dc_l_one_right pm_l_one_right cd_l_one_right ct_l_one_right : Value} {f_l_one_right : Addr}
    {od_law an_law : Option Addr} {sl_law : Array (Option Value)} {oc_law kV_law dc_law pm_law cd_law ct_law : Value} {f_law : Addr}
    {tkMOST_IN_ROUND : Tok}
    {tkMOST_ROUNDS : Tok}
    {tkMOST_TOGETHER : Tok}
    (hn0 : PySem.W.specialIn K (.builtin "object.__class__") "__get__" = some (some (.builtin "getset_descriptor.__get__")))
    (ht0 : PySem.W.takesIn K (.builtin "object.__class__") = some true)
    (a_RoundError : PySem.W.nsIn K mainGlobals "RoundError" = some (some (.ref C_RoundError)))
    (k_RoundError : PySem.W.keepIn K (.ref C_RoundError) = true)
    (q_RoundError : PySem.W.excIn K C_RoundError [.type "ValueError", .type "Exception", .type "BaseException", .type "object"] "ValueError.__new__" = true)
    (ty_RoundError : PySem.W.typeIn K (.ref C_RoundError) = some (.type "type"))
    (ga_RoundError : PySem.W.findIn K (.ref C_RoundError) "__getattribute__" = some (some (.builtin "BaseException.__getattribute__")))
    (gg_RoundError : PySem.W.findIn K (.ref C_RoundError) "__getattr__" = some none)
    (ex_RoundError : PySem.W.subIn K (.ref C_RoundError) (.type "BaseException") = some true)
    (hd_RoundError : PySem.W.hasDictIn K C_RoundError = true)
    (ca_RoundError : PySem.W.findIn K (.ref C_RoundError) "__class__" = some (some (.builtin "object.__class__")))
    (mo_RoundError : PySem.W.mroIn K C_RoundError (.type "object") = some true)
    (a_BadRound : PySem.W.nsIn K mainGlobals "BadRound" = some (some (.ref C_BadRound)))
    (k_BadRound : PySem.W.keepIn K (.ref C_BadRound) = true)
    (q_BadRound : PySem.W.excIn K C_BadRound [.type "ValueError", .type "Exception", .type "BaseException", .type "object"] "ValueError.__new__" = true)
    (ty_BadRound : PySem.W.typeIn K (.ref C_BadRound) = some (.type "type"))
    (ga_BadRound : PySem.W.findIn K (.ref C_BadRound) "__getattribute__" = some (some (.builtin "BaseException.__getattribute__")))
    (gg_BadRound : PySem.W.findIn K (.ref C_BadRound) "__getattr__" = some none)
    (ex_BadRound : PySem.W.subIn K (.ref C_BadRound) (.type "BaseException") = some true)
    (hd_BadRound : PySem.W.hasDictIn K C_BadRound = true)
    (ca_BadRound : PySem.W.findIn K (.ref C_BadRound) "__class__" = some (some (.builtin "object.__class__")))
    (mo_BadRound : PySem.W.mroIn K C_BadRound (.type "object") = some true)
    (a_BadRounds : PySem.W.nsIn K mainGlobals "BadRounds" = some (some (.ref C_BadRounds)))
    (x_BadRounds : K.lookup C_BadRounds = some (excClassObj nm_BadRounds qn_BadRounds C_BadRounds N_BadRounds bs_BadRounds bm_BadRounds true sn_BadRounds sb_BadRounds ab_BadRounds co_BadRounds dd_BadRounds m0_BadRounds m1_BadRounds m2_BadRounds m3_BadRounds m5_BadRounds "ValueError.__new__"))
    (rv_BadRounds : PySem.HandSPX.refsVE bm_BadRounds = true)
    (sa_BadRounds : PySem.W.findIn K (.ref C_BadRounds) "__setattr__" = some (some (.builtin "object.__setattr__")))
    (ty_BadRounds : PySem.W.typeIn K (.ref C_BadRounds) = some (.type "type"))
    (kc_BadRounds : PySem.W.keepIn K (.ref C_BadRounds) = true)
    (i_BadRounds : PySem.W.findIn K (.ref C_BadRounds) "__init__" = some (some (.ref f_BadRounds)))
    (t_BadRounds : PySem.W.typeIn K (.ref f_BadRounds) = some (.type "function"))
    (l_BadRounds : K.lookup f_BadRounds = some ⟨oc_BadRounds, od_BadRounds, .func (PySem.W.fnOf "__init__" "BadRounds.__init__" (defArgs s_BadRounds_init) (defBody s_BadRounds_init) (defScope s_BadRounds_init) .none kV_BadRounds dc_BadRounds pm_BadRounds an_BadRounds cd_BadRounds ct_BadRounds), sl_BadRounds⟩)
    (c_BadRounds : PySem.W.codeIn K cd_BadRounds "BadRounds.__init__" = true)
    (k_BadRounds : PySem.W.keepIn K (.ref f_BadRounds) = true)
    (nf_BadRounds : PySem.W.findIn K (.ref C_BadRounds) "part" = some none)
    (ga_BadRounds : PySem.W.findIn K (.ref C_BadRounds) "__getattribute__" = some (some (.builtin "BaseException.__getattribute__")))
    (gg_BadRounds : PySem.W.findIn K (.ref C_BadRounds) "__getattr__" = some none)
    (ex_BadRounds : PySem.W.subIn K (.ref C_BadRounds) (.type "BaseException") = some true)
    (hd_BadRounds : PySem.W.hasDictIn K C_BadRounds = true)
    (ca_BadRounds : PySem.W.findIn K (.ref C_BadRounds) "__class__" = some (some (.builtin "object.__class__")))
    (mo_BadRounds : PySem.W.mroIn K C_BadRounds (.type "object") = some true)
    (a_BadSkin : PySem.W.nsIn K mainGlobals "BadSkin" = some (some (.ref C_BadSkin)))
    (x_BadSkin : K.lookup C_BadSkin = some (excClassObj nm_BadSkin qn_BadSkin C_BadSkin N_BadSkin bs_BadSkin bm_BadSkin true sn_BadSkin sb_BadSkin ab_BadSkin co_BadSkin dd_BadSkin m0_BadSkin m1_BadSkin m2_BadSkin m3_BadSkin m5_BadSkin "ValueError.__new__"))
    (rv_BadSkin : PySem.HandSPX.refsVE bm_BadSkin = true)
    (sa_BadSkin : PySem.W.findIn K (.ref C_BadSkin) "__setattr__" = some (some (.builtin "object.__setattr__")))
    (ty_BadSkin : PySem.W.typeIn K (.ref C_BadSkin) = some (.type "type"))
    (kc_BadSkin : PySem.W.keepIn K (.ref C_BadSkin) = true)
    (i_BadSkin : PySem.W.findIn K (.ref C_BadSkin) "__init__" = some (some (.ref f_BadSkin)))
    (t_BadSkin : PySem.W.typeIn K (.ref f_BadSkin) = some (.type "function"))
    (l_BadSkin : K.lookup f_BadSkin = some ⟨oc_BadSkin, od_BadSkin, .func (PySem.W.fnOf "__init__" "BadSkin.__init__" (defArgs s_BadSkin_init) (defBody s_BadSkin_init) (defScope s_BadSkin_init) .none kV_BadSkin dc_BadSkin pm_BadSkin an_BadSkin cd_BadSkin ct_BadSkin), sl_BadSkin⟩)
    (c_BadSkin : PySem.W.codeIn K cd_BadSkin "BadSkin.__init__" = true)
    (k_BadSkin : PySem.W.keepIn K (.ref f_BadSkin) = true)
    (nf_BadSkin : PySem.W.findIn K (.ref C_BadSkin) "part" = some none)
    (ga_BadSkin : PySem.W.findIn K (.ref C_BadSkin) "__getattribute__" = some (some (.builtin "BaseException.__getattribute__")))
    (gg_BadSkin : PySem.W.findIn K (.ref C_BadSkin) "__getattr__" = some none)
    (ex_BadSkin : PySem.W.subIn K (.ref C_BadSkin) (.type "BaseException") = some true)
    (hd_BadSkin : PySem.W.hasDictIn K C_BadSkin = true)
    (ca_BadSkin : PySem.W.findIn K (.ref C_BadSkin) "__class__" = some (some (.builtin "object.__class__")))
    (mo_BadSkin : PySem.W.mroIn K C_BadSkin (.type "object") = some true)
    (a_is_number : PySem.W.nsIn K mainGlobals "is_number" = some (some (.ref f_is_number)))
    (l_is_number : K.lookup f_is_number = some ⟨oc_is_number, od_is_number, .func (PySem.W.fnOf "is_number" "is_number" (defArgs s_is_number) (defBody s_is_number) (defScope s_is_number) .none kV_is_number dc_is_number pm_is_number an_is_number cd_is_number ct_is_number), sl_is_number⟩)
    (c_is_number : PySem.W.codeIn K cd_is_number "is_number" = true)
    (k_is_number : PySem.W.keepIn K (.ref f_is_number) = true)
    (a_is_within : PySem.W.nsIn K mainGlobals "is_within" = some (some (.ref f_is_within)))
    (l_is_within : K.lookup f_is_within = some ⟨oc_is_within, od_is_within, .func (PySem.W.fnOf "is_within" "is_within" (defArgs s_is_within) (defBody s_is_within) (defScope s_is_within) .none kV_is_within dc_is_within pm_is_within an_is_within cd_is_within ct_is_within), sl_is_within⟩)
    (c_is_within : PySem.W.codeIn K cd_is_within "is_within" = true)
    (k_is_within : PySem.W.keepIn K (.ref f_is_within) = true)
    (a_is_tuple : PySem.W.nsIn K mainGlobals "is_tuple" = some (some (.ref f_is_tuple)))
    (l_is_tuple : K.lookup f_is_tuple = some ⟨oc_is_tuple, od_is_tuple, .func (PySem.W.fnOf "is_tuple" "is_tuple" (defArgs s_is_tuple) (defBody s_is_tuple) (defScope s_is_tuple) .none kV_is_tuple dc_is_tuple pm_is_tuple an_is_tuple cd_is_tuple ct_is_tuple), sl_is_tuple⟩)
    (c_is_tuple : PySem.W.codeIn K cd_is_tuple "is_tuple" = true)
    (k_is_tuple : PySem.W.keepIn K (.ref f_is_tuple) = true)
    (a_is_list : PySem.W.nsIn K mainGlobals "is_list" = some (some (.ref f_is_list)))
    (l_is_list : K.lookup f_is_list = some ⟨oc_is_list, od_is_list, .func (PySem.W.fnOf "is_list" "is_list" (defArgs s_is_list) (defBody s_is_list) (defScope s_is_list) .none kV_is_list dc_is_list pm_is_list an_is_list cd_is_list ct_is_list), sl_is_list⟩)
    (c_is_list : PySem.W.codeIn K cd_is_list "is_list" = true)
    (k_is_list : PySem.W.keepIn K (.ref f_is_list) = true)
    (a_is_row : PySem.W.nsIn K mainGlobals "is_row" = some (some (.ref f_is_row)))
    (l_is_row : K.lookup f_is_row = some ⟨oc_is_row, od_is_row, .func (PySem.W.fnOf "is_row" "is_row" (defArgs s_is_row) (defBody s_is_row) (defScope s_is_row) .none kV_is_row dc_is_row pm_is_row an_is_row cd_is_row ct_is_row), sl_is_row⟩)
    (c_is_row : PySem.W.codeIn K cd_is_row "is_row" = true)
    (k_is_row : PySem.W.keepIn K (.ref f_is_row) = true)
    (a_Skin : PySem.W.nsIn K mainGlobals "Skin" = some (some (.ref C_Skin)))
    (i_Skin : PySem.W.findIn K (.ref C_Skin) "__init__" = some (some (.ref f_Skin)))
    (fn_Skin : PySem.W.isFn K (.ref f_Skin) = true)
    (l_Skin : K.lookup f_Skin = some ⟨oc_Skin, od_Skin, .func (PySem.W.fnOf "__init__" "Skin.__init__" (defArgs s_Skin_init) (defBody s_Skin_init) (defScope s_Skin_init) .none kV_Skin dc_Skin pm_Skin an_Skin cd_Skin ct_Skin), sl_Skin⟩)
    (c_Skin : PySem.W.codeIn K cd_Skin "Skin.__init__" = true)
    (k_Skin : PySem.W.keepIn K (.ref f_Skin) = true)
    (pg_Skin : PySem.W.plainGet K C_Skin Str.empty = true)
    (hd_Skin : PySem.W.hasDictIn K C_Skin = true)
    (po_Skin : PySem.W.plainOver K C_Skin = true)
    (sa_Skin : PySem.W.findIn K (.ref C_Skin) "__setattr__" = some (some (.builtin "object.__setattr__")))
    (mk_Skin : PySem.W.makesIn K C_Skin = true)
    (kc_Skin : PySem.W.keepIn K (.ref C_Skin) = true)
    (ca_Skin : PySem.W.findIn K (.ref C_Skin) "__class__" = some (some (.builtin "object.__class__")))
    (mo_Skin : PySem.W.mroIn K C_Skin (.type "object") = some true)
    (n_Skin_row : PySem.W.findIn K (.ref C_Skin) "row" = some none)
    (n_Skin_bands : PySem.W.findIn K (.ref C_Skin) "bands" = some none)
    (n_Skin_places : PySem.W.findIn K (.ref C_Skin) "places" = some none)
    (a_check_skin : PySem.W.nsIn K mainGlobals "check_skin" = some (some (.ref f_check_skin)))
    (l_check_skin : K.lookup f_check_skin = some ⟨oc_check_skin, od_check_skin, .func (PySem.W.fnOf "check_skin" "check_skin" (defArgs s_check_skin) (defBody s_check_skin) (defScope s_check_skin) .none kV_check_skin dc_check_skin pm_check_skin an_check_skin cd_check_skin ct_check_skin), sl_check_skin⟩)
    (c_check_skin : PySem.W.codeIn K cd_check_skin "check_skin" = true)
    (k_check_skin : PySem.W.keepIn K (.ref f_check_skin) = true)
    (a_is_end : PySem.W.nsIn K mainGlobals "is_end" = some (some (.ref f_is_end)))
    (l_is_end : K.lookup f_is_end = some ⟨oc_is_end, od_is_end, .func (PySem.W.fnOf "is_end" "is_end" (defArgs s_is_end) (defBody s_is_end) (defScope s_is_end) .none kV_is_end dc_is_end pm_is_end an_is_end cd_is_end ct_is_end), sl_is_end⟩)
    (c_is_end : PySem.W.codeIn K cd_is_end "is_end" = true)
    (k_is_end : PySem.W.keepIn K (.ref f_is_end) = true)
    (a_stands_ahead : PySem.W.nsIn K mainGlobals "stands_ahead" = some (some (.ref f_stands_ahead)))
    (l_stands_ahead : K.lookup f_stands_ahead = some ⟨oc_stands_ahead, od_stands_ahead, .func (PySem.W.fnOf "stands_ahead" "stands_ahead" (defArgs s_stands_ahead) (defBody s_stands_ahead) (defScope s_stands_ahead) .none kV_stands_ahead dc_stands_ahead pm_stands_ahead an_stands_ahead cd_stands_ahead ct_stands_ahead), sl_stands_ahead⟩)
    (c_stands_ahead : PySem.W.codeIn K cd_stands_ahead "stands_ahead" = true)
    (k_stands_ahead : PySem.W.keepIn K (.ref f_stands_ahead) = true)
    (a_by_turns : PySem.W.nsIn K mainGlobals "by_turns" = some (some (.ref f_by_turns)))
    (l_by_turns : K.lookup f_by_turns = some ⟨oc_by_turns, od_by_turns, .func (PySem.W.fnOf "by_turns" "by_turns" (defArgs s_by_turns) (defBody s_by_turns) (defScope s_by_turns) .none kV_by_turns dc_by_turns pm_by_turns an_by_turns cd_by_turns ct_by_turns), sl_by_turns⟩)
    (c_by_turns : PySem.W.codeIn K cd_by_turns "by_turns" = true)
    (k_by_turns : PySem.W.keepIn K (.ref f_by_turns) = true)
    (a_least_turn : PySem.W.nsIn K mainGlobals "least_turn" = some (some (.ref f_least_turn)))
    (l_least_turn : K.lookup f_least_turn = some ⟨oc_least_turn, od_least_turn, .func (PySem.W.fnOf "least_turn" "least_turn" (defArgs s_least_turn) (defBody s_least_turn) (defScope s_least_turn) .none kV_least_turn dc_least_turn pm_least_turn an_least_turn cd_least_turn ct_least_turn), sl_least_turn⟩)
    (c_least_turn : PySem.W.codeIn K cd_least_turn "least_turn" = true)
    (k_least_turn : PySem.W.keepIn K (.ref f_least_turn) = true)
    (a_is_any_word : PySem.W.nsIn K mainGlobals "is_any_word" = some (some (.ref f_is_any_word)))
    (l_is_any_word : K.lookup f_is_any_word = some ⟨oc_is_any_word, od_is_any_word, .func (PySem.W.fnOf "is_any_word" "is_any_word" (defArgs s_is_any_word) (defBody s_is_any_word) (defScope s_is_any_word) .none kV_is_any_word dc_is_any_word pm_is_any_word an_is_any_word cd_is_any_word ct_is_any_word), sl_is_any_word⟩)
    (c_is_any_word : PySem.W.codeIn K cd_is_any_word "is_any_word" = true)
    (k_is_any_word : PySem.W.keepIn K (.ref f_is_any_word) = true)
    (a_has_letters : PySem.W.nsIn K mainGlobals "has_letters" = some (some (.ref f_has_letters)))
    (l_has_letters : K.lookup f_has_letters = some ⟨oc_has_letters, od_has_letters, .func (PySem.W.fnOf "has_letters" "has_letters" (defArgs s_has_letters) (defBody s_has_letters) (defScope s_has_letters) .none kV_has_letters dc_has_letters pm_has_letters an_has_letters cd_has_letters ct_has_letters), sl_has_letters⟩)
    (c_has_letters : PySem.W.codeIn K cd_has_letters "has_letters" = true)
    (k_has_letters : PySem.W.keepIn K (.ref f_has_letters) = true)
    (a_cut_free : PySem.W.nsIn K mainGlobals "cut_free" = some (some (.ref f_cut_free)))
    (l_cut_free : K.lookup f_cut_free = some ⟨oc_cut_free, od_cut_free, .func (PySem.W.fnOf "cut_free" "cut_free" (defArgs s_cut_free) (defBody s_cut_free) (defScope s_cut_free) .none kV_cut_free dc_cut_free pm_cut_free an_cut_free cd_cut_free ct_cut_free), sl_cut_free⟩)
    (c_cut_free : PySem.W.codeIn K cd_cut_free "cut_free" = true)
    (k_cut_free : PySem.W.keepIn K (.ref f_cut_free) = true)
    (a_closed_letters : PySem.W.nsIn K mainGlobals "closed_letters" = some (some (.ref f_closed_letters)))
    (l_closed_letters : K.lookup f_closed_letters = some ⟨oc_closed_letters, od_closed_letters, .func (PySem.W.fnOf "closed_letters" "closed_letters" (defArgs s_closed_letters) (defBody s_closed_letters) (defScope s_closed_letters) .none kV_closed_letters dc_closed_letters pm_closed_letters an_closed_letters cd_closed_letters ct_closed_letters), sl_closed_letters⟩)
    (c_closed_letters : PySem.W.codeIn K cd_closed_letters "closed_letters" = true)
    (k_closed_letters : PySem.W.keepIn K (.ref f_closed_letters) = true)
    (a_closed_up : PySem.W.nsIn K mainGlobals "closed_up" = some (some (.ref f_closed_up)))
    (l_closed_up : K.lookup f_closed_up = some ⟨oc_closed_up, od_closed_up, .func (PySem.W.fnOf "closed_up" "closed_up" (defArgs s_closed_up) (defBody s_closed_up) (defScope s_closed_up) .none kV_closed_up dc_closed_up pm_closed_up an_closed_up cd_closed_up ct_closed_up), sl_closed_up⟩)
    (c_closed_up : PySem.W.codeIn K cd_closed_up "closed_up" = true)
    (k_closed_up : PySem.W.keepIn K (.ref f_closed_up) = true)
    (a_is_fit_round : PySem.W.nsIn K mainGlobals "is_fit_round" = some (some (.ref f_is_fit_round)))
    (l_is_fit_round : K.lookup f_is_fit_round = some ⟨oc_is_fit_round, od_is_fit_round, .func (PySem.W.fnOf "is_fit_round" "is_fit_round" (defArgs s_is_fit_round) (defBody s_is_fit_round) (defScope s_is_fit_round) .none kV_is_fit_round dc_is_fit_round pm_is_fit_round an_is_fit_round cd_is_fit_round ct_is_fit_round), sl_is_fit_round⟩)
    (c_is_fit_round : PySem.W.codeIn K cd_is_fit_round "is_fit_round" = true)
    (k_is_fit_round : PySem.W.keepIn K (.ref f_is_fit_round) = true)
    (a_check_round : PySem.W.nsIn K mainGlobals "check_round" = some (some (.ref f_check_round)))
    (l_check_round : K.lookup f_check_round = some ⟨oc_check_round, od_check_round, .func (PySem.W.fnOf "check_round" "check_round" (defArgs s_check_round) (defBody s_check_round) (defScope s_check_round) .none kV_check_round dc_check_round pm_check_round an_check_round cd_check_round ct_check_round), sl_check_round⟩)
    (c_check_round : PySem.W.codeIn K cd_check_round "check_round" = true)
    (k_check_round : PySem.W.keepIn K (.ref f_check_round) = true)
    (a_check_rounds : PySem.W.nsIn K mainGlobals "check_rounds" = some (some (.ref f_check_rounds)))
    (l_check_rounds : K.lookup f_check_rounds = some ⟨oc_check_rounds, od_check_rounds, .func (PySem.W.fnOf "check_rounds" "check_rounds" (defArgs s_check_rounds) (defBody s_check_rounds) (defScope s_check_rounds) .none kV_check_rounds dc_check_rounds pm_check_rounds an_check_rounds cd_check_rounds ct_check_rounds), sl_check_rounds⟩)
    (c_check_rounds : PySem.W.codeIn K cd_check_rounds "check_rounds" = true)
    (k_check_rounds : PySem.W.keepIn K (.ref f_check_rounds) = true)
    (a_rooted : PySem.W.nsIn K mainGlobals "rooted" = some (some (.ref f_rooted)))
    (l_rooted : K.lookup f_rooted = some ⟨oc_rooted, od_rooted, .func (PySem.W.fnOf "rooted" "rooted" (defArgs s_rooted) (defBody s_rooted) (defScope s_rooted) .none kV_rooted dc_rooted pm_rooted an_rooted cd_rooted ct_rooted), sl_rooted⟩)
    (c_rooted : PySem.W.codeIn K cd_rooted "rooted" = true)
    (k_rooted : PySem.W.keepIn K (.ref f_rooted) = true)
    (a_letter_on : PySem.W.nsIn K mainGlobals "letter_on" = some (some (.ref f_letter_on)))
    (l_letter_on : K.lookup f_letter_on = some ⟨oc_letter_on, od_letter_on, .func (PySem.W.fnOf "letter_on" "letter_on" (defArgs s_letter_on) (defBody s_letter_on) (defScope s_letter_on) .none kV_letter_on dc_letter_on pm_letter_on an_letter_on cd_letter_on ct_letter_on), sl_letter_on⟩)
    (c_letter_on : PySem.W.codeIn K cd_letter_on "letter_on" = true)
    (k_letter_on : PySem.W.keepIn K (.ref f_letter_on) = true)
    (a_shared : PySem.W.nsIn K mainGlobals "_shared" = some (some (.ref f_shared)))
    (l_shared : K.lookup f_shared = some ⟨oc_shared, od_shared, .func (PySem.W.fnOf "_shared" "_shared" (defArgs s_shared) (defBody s_shared) (defScope s_shared) .none kV_shared dc_shared pm_shared an_shared cd_shared ct_shared), sl_shared⟩)
    (c_shared : PySem.W.codeIn K cd_shared "_shared" = true)
    (k_shared : PySem.W.keepIn K (.ref f_shared) = true)
    (a_from_left : PySem.W.nsIn K mainGlobals "_from_left" = some (some (.ref f_from_left)))
    (l_from_left : K.lookup f_from_left = some ⟨oc_from_left, od_from_left, .func (PySem.W.fnOf "_from_left" "_from_left" (defArgs s_from_left) (defBody s_from_left) (defScope s_from_left) .none kV_from_left dc_from_left pm_from_left an_from_left cd_from_left ct_from_left), sl_from_left⟩)
    (c_from_left : PySem.W.codeIn K cd_from_left "_from_left" = true)
    (k_from_left : PySem.W.keepIn K (.ref f_from_left) = true)
    (a_to_right : PySem.W.nsIn K mainGlobals "_to_right" = some (some (.ref f_to_right)))
    (l_to_right : K.lookup f_to_right = some ⟨oc_to_right, od_to_right, .func (PySem.W.fnOf "_to_right" "_to_right" (defArgs s_to_right) (defBody s_to_right) (defScope s_to_right) .none kV_to_right dc_to_right pm_to_right an_to_right cd_to_right ct_to_right), sl_to_right⟩)
    (c_to_right : PySem.W.codeIn K cd_to_right "_to_right" = true)
    (k_to_right : PySem.W.keepIn K (.ref f_to_right) = true)
    (a_common_stretch : PySem.W.nsIn K mainGlobals "common_stretch" = some (some (.ref f_common_stretch)))
    (l_common_stretch : K.lookup f_common_stretch = some ⟨oc_common_stretch, od_common_stretch, .func (PySem.W.fnOf "common_stretch" "common_stretch" (defArgs s_common_stretch) (defBody s_common_stretch) (defScope s_common_stretch) .none kV_common_stretch dc_common_stretch pm_common_stretch an_common_stretch cd_common_stretch ct_common_stretch), sl_common_stretch⟩)
    (c_common_stretch : PySem.W.codeIn K cd_common_stretch "common_stretch" = true)
    (k_common_stretch : PySem.W.keepIn K (.ref f_common_stretch) = true)
    (a_linked_along : PySem.W.nsIn K mainGlobals "_linked_along" = some (some (.ref f_linked_along)))
    (l_linked_along : K.lookup f_linked_along = some ⟨oc_linked_along, od_linked_along, .func (PySem.W.fnOf "_linked_along" "_linked_along" (defArgs s_linked_along) (defBody s_linked_along) (defScope s_linked_along) .none kV_linked_along dc_linked_along pm_linked_along an_linked_along cd_linked_along ct_linked_along), sl_linked_along⟩)
    (c_linked_along : PySem.W.codeIn K cd_linked_along "_linked_along" = true)
    (k_linked_along : PySem.W.keepIn K (.ref f_linked_along) = true)
    (a_linked_across : PySem.W.nsIn K mainGlobals "_linked_across" = some (some (.ref f_linked_across)))
    (l_linked_across : K.lookup f_linked_across = some ⟨oc_linked_across, od_linked_across, .func (PySem.W.fnOf "_linked_across" "_linked_across" (defArgs s_linked_across) (defBody s_linked_across) (defScope s_linked_across) .none kV_linked_across dc_linked_across pm_linked_across an_linked_across cd_linked_across ct_linked_across), sl_linked_across⟩)
    (c_linked_across : PySem.W.codeIn K cd_linked_across "_linked_across" = true)
    (k_linked_across : PySem.W.keepIn K (.ref f_linked_across) = true)
    (a_pairs_of : PySem.W.nsIn K mainGlobals "pairs_of" = some (some (.ref f_pairs_of)))
    (l_pairs_of : K.lookup f_pairs_of = some ⟨oc_pairs_of, od_pairs_of, .func (PySem.W.fnOf "pairs_of" "pairs_of" (defArgs s_pairs_of) (defBody s_pairs_of) (defScope s_pairs_of) .none kV_pairs_of dc_pairs_of pm_pairs_of an_pairs_of cd_pairs_of ct_pairs_of), sl_pairs_of⟩)
    (c_pairs_of : PySem.W.codeIn K cd_pairs_of "pairs_of" = true)
    (k_pairs_of : PySem.W.keepIn K (.ref f_pairs_of) = true)
    (a_linked_pairs : PySem.W.nsIn K mainGlobals "linked_pairs" = some (some (.ref f_linked_pairs)))
    (l_linked_pairs : K.lookup f_linked_pairs = some ⟨oc_linked_pairs, od_linked_pairs, .func (PySem.W.fnOf "linked_pairs" "linked_pairs" (defArgs s_linked_pairs) (defBody s_linked_pairs) (defScope s_linked_pairs) .none kV_linked_pairs dc_linked_pairs pm_linked_pairs an_linked_pairs cd_linked_pairs ct_linked_pairs), sl_linked_pairs⟩)
    (c_linked_pairs : PySem.W.codeIn K cd_linked_pairs "linked_pairs" = true)
    (k_linked_pairs : PySem.W.keepIn K (.ref f_linked_pairs) = true)
    (a_taken_otherwise : PySem.W.nsIn K mainGlobals "_taken_otherwise" = some (some (.ref f_taken_otherwise)))
    (l_taken_otherwise : K.lookup f_taken_otherwise = some ⟨oc_taken_otherwise, od_taken_otherwise, .func (PySem.W.fnOf "_taken_otherwise" "_taken_otherwise" (defArgs s_taken_otherwise) (defBody s_taken_otherwise) (defScope s_taken_otherwise) .none kV_taken_otherwise dc_taken_otherwise pm_taken_otherwise an_taken_otherwise cd_taken_otherwise ct_taken_otherwise), sl_taken_otherwise⟩)
    (c_taken_otherwise : PySem.W.codeIn K cd_taken_otherwise "_taken_otherwise" = true)
    (k_taken_otherwise : PySem.W.keepIn K (.ref f_taken_otherwise) = true)
    (a_u_own_pairs : PySem.W.nsIn K mainGlobals "_own_pairs" = some (some (.ref f_u_own_pairs)))
    (l_u_own_pairs : K.lookup f_u_own_pairs = some ⟨oc_u_own_pairs, od_u_own_pairs, .func (PySem.W.fnOf "_own_pairs" "_own_pairs" (defArgs s_u_own_pairs) (defBody s_u_own_pairs) (defScope s_u_own_pairs) .none kV_u_own_pairs dc_u_own_pairs pm_u_own_pairs an_u_own_pairs cd_u_own_pairs ct_u_own_pairs), sl_u_own_pairs⟩)
    (c_u_own_pairs : PySem.W.codeIn K cd_u_own_pairs "_own_pairs" = true)
    (k_u_own_pairs : PySem.W.keepIn K (.ref f_u_own_pairs) = true)
    (a_own_pairs : PySem.W.nsIn K mainGlobals "own_pairs" = some (some (.ref f_own_pairs)))
    (l_own_pairs : K.lookup f_own_pairs = some ⟨oc_own_pairs, od_own_pairs, .func (PySem.W.fnOf "own_pairs" "own_pairs" (defArgs s_own_pairs) (defBody s_own_pairs) (defScope s_own_pairs) .none kV_own_pairs dc_own_pairs pm_own_pairs an_own_pairs cd_own_pairs ct_own_pairs), sl_own_pairs⟩)
    (c_own_pairs : PySem.W.codeIn K cd_own_pairs "own_pairs" = true)
    (k_own_pairs : PySem.W.keepIn K (.ref f_own_pairs) = true)
    (a_own_number : PySem.W.nsIn K mainGlobals "own_number" = some (some (.ref f_own_number)))
    (l_own_number : K.lookup f_own_number = some ⟨oc_own_number, od_own_number, .func (PySem.W.fnOf "own_number" "own_number" (defArgs s_own_number) (defBody s_own_number) (defScope s_own_number) .none kV_own_number dc_own_number pm_own_number an_own_number cd_own_number ct_own_number), sl_own_number⟩)
    (c_own_number : PySem.W.codeIn K cd_own_number "own_number" = true)
    (k_own_number : PySem.W.keepIn K (.ref f_own_number) = true)
    (a_crossings : PySem.W.nsIn K mainGlobals "crossings" = some (some (.ref f_crossings)))
    (l_crossings : K.lookup f_crossings = some ⟨oc_crossings, od_crossings, .func (PySem.W.fnOf "crossings" "crossings" (defArgs s_crossings) (defBody s_crossings) (defScope s_crossings) .none kV_crossings dc_crossings pm_crossings an_crossings cd_crossings ct_crossings), sl_crossings⟩)
    (c_crossings : PySem.W.codeIn K cd_crossings "crossings" = true)
    (k_crossings : PySem.W.keepIn K (.ref f_crossings) = true)
    (a_own_crossings : PySem.W.nsIn K mainGlobals "own_crossings" = some (some (.ref f_own_crossings)))
    (l_own_crossings : K.lookup f_own_crossings = some ⟨oc_own_crossings, od_own_crossings, .func (PySem.W.fnOf "own_crossings" "own_crossings" (defArgs s_own_crossings) (defBody s_own_crossings) (defScope s_own_crossings) .none kV_own_crossings dc_own_crossings pm_own_crossings an_own_crossings cd_own_crossings ct_own_crossings), sl_own_crossings⟩)
    (c_own_crossings : PySem.W.codeIn K cd_own_crossings "own_crossings" = true)
    (k_own_crossings : PySem.W.keepIn K (.ref f_own_crossings) = true)
    (a_fewest : PySem.W.nsIn K mainGlobals "fewest" = some (some (.ref f_fewest)))
    (l_fewest : K.lookup f_fewest = some ⟨oc_fewest, od_fewest, .func (PySem.W.fnOf "fewest" "fewest" (defArgs s_fewest) (defBody s_fewest) (defScope s_fewest) .none kV_fewest dc_fewest pm_fewest an_fewest cd_fewest ct_fewest), sl_fewest⟩)
    (c_fewest : PySem.W.codeIn K cd_fewest "fewest" = true)
    (k_fewest : PySem.W.keepIn K (.ref f_fewest) = true)
    (a_l_begun : PySem.W.nsIn K mainGlobals "_law_begun" = some (some (.ref f_l_begun)))
    (l_l_begun : K.lookup f_l_begun = some ⟨oc_l_begun, od_l_begun, .func (PySem.W.fnOf "_law_begun" "_law_begun" (defArgs s_l_begun) (defBody s_l_begun) (defScope s_l_begun) .none kV_l_begun dc_l_begun pm_l_begun an_l_begun cd_l_begun ct_l_begun), sl_l_begun⟩)
    (c_l_begun : PySem.W.codeIn K cd_l_begun "_law_begun" = true)
    (k_l_begun : PySem.W.keepIn K (.ref f_l_begun) = true)
    (a_l_mixed : PySem.W.nsIn K mainGlobals "_law_mixed" = some (some (.ref f_l_mixed)))
    (l_l_mixed : K.lookup f_l_mixed = some ⟨oc_l_mixed, od_l_mixed, .func (PySem.W.fnOf "_law_mixed" "_law_mixed" (defArgs s_l_mixed) (defBody s_l_mixed) (defScope s_l_mixed) .none kV_l_mixed dc_l_mixed pm_l_mixed an_l_mixed cd_l_mixed ct_l_mixed), sl_l_mixed⟩)
    (c_l_mixed : PySem.W.codeIn K cd_l_mixed "_law_mixed" = true)
    (k_l_mixed : PySem.W.keepIn K (.ref f_l_mixed) = true)
    (a_l_take : PySem.W.nsIn K mainGlobals "_law_take" = some (some (.ref f_l_take)))
    (l_l_take : K.lookup f_l_take = some ⟨oc_l_take, od_l_take, .func (PySem.W.fnOf "_law_take" "_law_take" (defArgs s_l_take) (defBody s_l_take) (defScope s_l_take) .none kV_l_take dc_l_take pm_l_take an_l_take cd_l_take ct_l_take), sl_l_take⟩)
    (c_l_take : PySem.W.codeIn K cd_l_take "_law_take" = true)
    (k_l_take : PySem.W.keepIn K (.ref f_l_take) = true)
    (a_l_pick : PySem.W.nsIn K mainGlobals "_law_pick" = some (some (.ref f_l_pick)))
    (l_l_pick : K.lookup f_l_pick = some ⟨oc_l_pick, od_l_pick, .func (PySem.W.fnOf "_law_pick" "_law_pick" (defArgs s_l_pick) (defBody s_l_pick) (defScope s_l_pick) .none kV_l_pick dc_l_pick pm_l_pick an_l_pick cd_l_pick ct_l_pick), sl_l_pick⟩)
    (c_l_pick : PySem.W.codeIn K cd_l_pick "_law_pick" = true)
    (k_l_pick : PySem.W.keepIn K (.ref f_l_pick) = true)
    (a_l_shuffled : PySem.W.nsIn K mainGlobals "_law_shuffled" = some (some (.ref f_l_shuffled)))
    (l_l_shuffled : K.lookup f_l_shuffled = some ⟨oc_l_shuffled, od_l_shuffled, .func (PySem.W.fnOf "_law_shuffled" "_law_shuffled" (defArgs s_l_shuffled) (defBody s_l_shuffled) (defScope s_l_shuffled) .none kV_l_shuffled dc_l_shuffled pm_l_shuffled an_l_shuffled cd_l_shuffled ct_l_shuffled), sl_l_shuffled⟩)
    (c_l_shuffled : PySem.W.codeIn K cd_l_shuffled "_law_shuffled" = true)
    (k_l_shuffled : PySem.W.keepIn K (.ref f_l_shuffled) = true)
    (a_l_row : PySem.W.nsIn K mainGlobals "_law_row" = some (some (.ref f_l_row)))
    (l_l_row : K.lookup f_l_row = some ⟨oc_l_row, od_l_row, .func (PySem.W.fnOf "_law_row" "_law_row" (defArgs s_l_row) (defBody s_l_row) (defScope s_l_row) .none kV_l_row dc_l_row pm_l_row an_l_row cd_l_row ct_l_row), sl_l_row⟩)
    (c_l_row : PySem.W.codeIn K cd_l_row "_law_row" = true)
    (k_l_row : PySem.W.keepIn K (.ref f_l_row) = true)
    (a_l_undone : PySem.W.nsIn K mainGlobals "_law_undone" = some (some (.ref f_l_undone)))
    (l_l_undone : K.lookup f_l_undone = some ⟨oc_l_undone, od_l_undone, .func (PySem.W.fnOf "_law_undone" "_law_undone" (defArgs s_l_undone) (defBody s_l_undone) (defScope s_l_undone) .none kV_l_undone dc_l_undone pm_l_undone an_l_undone cd_l_undone ct_l_undone), sl_l_undone⟩)
    (c_l_undone : PySem.W.codeIn K cd_l_undone "_law_undone" = true)
    (k_l_undone : PySem.W.keepIn K (.ref f_l_undone) = true)
    (a_l_least : PySem.W.nsIn K mainGlobals "_law_least" = some (some (.ref f_l_least)))
    (l_l_least : K.lookup f_l_least = some ⟨oc_l_least, od_l_least, .func (PySem.W.fnOf "_law_least" "_law_least" (defArgs s_l_least) (defBody s_l_least) (defScope s_l_least) .none kV_l_least dc_l_least pm_l_least an_l_least cd_l_least ct_l_least), sl_l_least⟩)
    (c_l_least : PySem.W.codeIn K cd_l_least "_law_least" = true)
    (k_l_least : PySem.W.keepIn K (.ref f_l_least) = true)
    (a_l_drawn : PySem.W.nsIn K mainGlobals "_law_drawn" = some (some (.ref f_l_drawn)))
    (l_l_drawn : K.lookup f_l_drawn = some ⟨oc_l_drawn, od_l_drawn, .func (PySem.W.fnOf "_law_drawn" "_law_drawn" (defArgs s_l_drawn) (defBody s_l_drawn) (defScope s_l_drawn) .none kV_l_drawn dc_l_drawn pm_l_drawn an_l_drawn cd_l_drawn ct_l_drawn), sl_l_drawn⟩)
    (c_l_drawn : PySem.W.codeIn K cd_l_drawn "_law_drawn" = true)
    (k_l_drawn : PySem.W.keepIn K (.ref f_l_drawn) = true)
    (a_l_any_loop : PySem.W.nsIn K mainGlobals "_law_any_loop" = some (some (.ref f_l_any_loop)))
    (l_l_any_loop : K.lookup f_l_any_loop = some ⟨oc_l_any_loop, od_l_any_loop, .func (PySem.W.fnOf "_law_any_loop" "_law_any_loop" (defArgs s_l_any_loop) (defBody s_l_any_loop) (defScope s_l_any_loop) .none kV_l_any_loop dc_l_any_loop pm_l_any_loop an_l_any_loop cd_l_any_loop ct_l_any_loop), sl_l_any_loop⟩)
    (c_l_any_loop : PySem.W.codeIn K cd_l_any_loop "_law_any_loop" = true)
    (k_l_any_loop : PySem.W.keepIn K (.ref f_l_any_loop) = true)
    (a_l_mended : PySem.W.nsIn K mainGlobals "_law_mended" = some (some (.ref f_l_mended)))
    (l_l_mended : K.lookup f_l_mended = some ⟨oc_l_mended, od_l_mended, .func (PySem.W.fnOf "_law_mended" "_law_mended" (defArgs s_l_mended) (defBody s_l_mended) (defScope s_l_mended) .none kV_l_mended dc_l_mended pm_l_mended an_l_mended cd_l_mended ct_l_mended), sl_l_mended⟩)
    (c_l_mended : PySem.W.codeIn K cd_l_mended "_law_mended" = true)
    (k_l_mended : PySem.W.keepIn K (.ref f_l_mended) = true)
    (a_l_far : PySem.W.nsIn K mainGlobals "_law_far" = some (some (.ref f_l_far)))
    (l_l_far : K.lookup f_l_far = some ⟨oc_l_far, od_l_far, .func (PySem.W.fnOf "_law_far" "_law_far" (defArgs s_l_far) (defBody s_l_far) (defScope s_l_far) .none kV_l_far dc_l_far pm_l_far an_l_far cd_l_far ct_l_far), sl_l_far⟩)
    (c_l_far : PySem.W.codeIn K cd_l_far "_law_far" = true)
    (k_l_far : PySem.W.keepIn K (.ref f_l_far) = true)
    (a_l_ways : PySem.W.nsIn K mainGlobals "_law_ways" = some (some (.ref f_l_ways)))
    (l_l_ways : K.lookup f_l_ways = some ⟨oc_l_ways, od_l_ways, .func (PySem.W.fnOf "_law_ways" "_law_ways" (defArgs s_l_ways) (defBody s_l_ways) (defScope s_l_ways) .none kV_l_ways dc_l_ways pm_l_ways an_l_ways cd_l_ways ct_l_ways), sl_l_ways⟩)
    (c_l_ways : PySem.W.codeIn K cd_l_ways "_law_ways" = true)
    (k_l_ways : PySem.W.keepIn K (.ref f_l_ways) = true)
    (a_l_by_turns : PySem.W.nsIn K mainGlobals "_law_by_turns" = some (some (.ref f_l_by_turns)))
    (l_l_by_turns : K.lookup f_l_by_turns = some ⟨oc_l_by_turns, od_l_by_turns, .func (PySem.W.fnOf "_law_by_turns" "_law_by_turns" (defArgs s_l_by_turns) (defBody s_l_by_turns) (defScope s_l_by_turns) .none kV_l_by_turns dc_l_by_turns pm_l_by_turns an_l_by_turns cd_l_by_turns ct_l_by_turns), sl_l_by_turns⟩)
    (c_l_by_turns : PySem.W.codeIn K cd_l_by_turns "_law_by_turns" = true)
    (k_l_by_turns : PySem.W.keepIn K (.ref f_l_by_turns) = true)
    (a_l_meets : PySem.W.nsIn K mainGlobals "_law_meets" = some (some (.ref f_l_meets)))
    (l_l_meets : K.lookup f_l_meets = some ⟨oc_l_meets, od_l_meets, .func (PySem.W.fnOf "_law_meets" "_law_meets" (defArgs s_l_meets) (defBody s_l_meets) (defScope s_l_meets) .none kV_l_meets dc_l_meets pm_l_meets an_l_meets cd_l_meets ct_l_meets), sl_l_meets⟩)
    (c_l_meets : PySem.W.codeIn K cd_l_meets "_law_meets" = true)
    (k_l_meets : PySem.W.keepIn K (.ref f_l_meets) = true)
    (a_l_crossings : PySem.W.nsIn K mainGlobals "_law_crossings" = some (some (.ref f_l_crossings)))
    (l_l_crossings : K.lookup f_l_crossings = some ⟨oc_l_crossings, od_l_crossings, .func (PySem.W.fnOf "_law_crossings" "_law_crossings" (defArgs s_l_crossings) (defBody s_l_crossings) (defScope s_l_crossings) .none kV_l_crossings dc_l_crossings pm_l_crossings an_l_crossings cd_l_crossings ct_l_crossings), sl_l_crossings⟩)
    (c_l_crossings : PySem.W.codeIn K cd_l_crossings "_law_crossings" = true)
    (k_l_crossings : PySem.W.keepIn K (.ref f_l_crossings) = true)
    (a_l_own : PySem.W.nsIn K mainGlobals "_law_own" = some (some (.ref f_l_own)))
    (l_l_own : K.lookup f_l_own = some ⟨oc_l_own, od_l_own, .func (PySem.W.fnOf "_law_own" "_law_own" (defArgs s_l_own) (defBody s_l_own) (defScope s_l_own) .none kV_l_own dc_l_own pm_l_own an_l_own cd_l_own ct_l_own), sl_l_own⟩)
    (c_l_own : PySem.W.codeIn K cd_l_own "_law_own" = true)
    (k_l_own : PySem.W.keepIn K (.ref f_l_own) = true)
    (a_l_root : PySem.W.nsIn K mainGlobals "_law_root" = some (some (.ref f_l_root)))
    (l_l_root : K.lookup f_l_root = some ⟨oc_l_root, od_l_root, .func (PySem.W.fnOf "_law_root" "_law_root" (defArgs s_l_root) (defBody s_l_root) (defScope s_l_root) .none kV_l_root dc_l_root pm_l_root an_l_root cd_l_root ct_l_root), sl_l_root⟩)
    (c_l_root : PySem.W.codeIn K cd_l_root "_law_root" = true)
    (k_l_root : PySem.W.keepIn K (.ref f_l_root) = true)
    (a_l_times : PySem.W.nsIn K mainGlobals "_law_times" = some (some (.ref f_l_times)))
    (l_l_times : K.lookup f_l_times = some ⟨oc_l_times, od_l_times, .func (PySem.W.fnOf "_law_times" "_law_times" (defArgs s_l_times) (defBody s_l_times) (defScope s_l_times) .none kV_l_times dc_l_times pm_l_times an_l_times cd_l_times ct_l_times), sl_l_times⟩)
    (c_l_times : PySem.W.codeIn K cd_l_times "_law_times" = true)
    (k_l_times : PySem.W.keepIn K (.ref f_l_times) = true)
    (a_l_two_right : PySem.W.nsIn K mainGlobals "_law_two_right" = some (some (.ref f_l_two_right)))
    (l_l_two_right : K.lookup f_l_two_right = some ⟨oc_l_two_right, od_l_two_right, .func (PySem.W.fnOf "_law_two_right" "_law_two_right" (defArgs s_l_two_right) (defBody s_l_two_right) (defScope s_l_two_right) .none kV_l_two_right dc_l_two_right pm_l_two_right an_l_two_right cd_l_two_right ct_l_two_right), sl_l_two_right⟩)
    (c_l_two_right : PySem.W.codeIn K cd_l_two_right "_law_two_right" = true)
    (k_l_two_right : PySem.W.keepIn K (.ref f_l_two_right) = true)
    (a_l_one_right : PySem.W.nsIn K mainGlobals "_law_one_right" = some (some (.ref f_l_one_right)))
    (l_l_one_right : K.lookup f_l_one_right = some ⟨oc_l_one_right, od_l_one_right, .func (PySem.W.fnOf "_law_one_right" "_law_one_right" (defArgs s_l_one_right) (defBody s_l_one_right) (defScope s_l_one_right) .none kV_l_one_right dc_l_one_right pm_l_one_right an_l_one_right cd_l_one_right ct_l_one_right), sl_l_one_right⟩)
    (c_l_one_right : PySem.W.codeIn K cd_l_one_right "_law_one_right" = true)
    (k_l_one_right : PySem.W.keepIn K (.ref f_l_one_right) = true)
    (a_law : PySem.W.nsIn K mainGlobals "law" = some (some (.ref f_law)))
    (l_law : K.lookup f_law = some ⟨oc_law, od_law, .func (PySem.W.fnOf "law" "law" (defArgs s_law) (defBody s_law) (defScope s_law) .none kV_law dc_law pm_law an_law cd_law ct_law), sl_law⟩)
    (c_law : PySem.W.codeIn K cd_law "law" = true)
    (k_law : PySem.W.keepIn K (.ref f_law) = true)
    (zabs : PySem.W.nsIn K mainGlobals "abs" = some none)
    (zall : PySem.W.nsIn K mainGlobals "all" = some none)
    (zdict : PySem.W.nsIn K mainGlobals "dict" = some none)
    (zenumerate : PySem.W.nsIn K mainGlobals "enumerate" = some none)
    (zint : PySem.W.nsIn K mainGlobals "int" = some none)
    (zisinstance : PySem.W.nsIn K mainGlobals "isinstance" = some none)
    (zlen : PySem.W.nsIn K mainGlobals "len" = some none)
    (zlist : PySem.W.nsIn K mainGlobals "list" = some none)
    (zmax : PySem.W.nsIn K mainGlobals "max" = some none)
    (zmin : PySem.W.nsIn K mainGlobals "min" = some none)
    (zrange : PySem.W.nsIn K mainGlobals "range" = some none)
    (zrepr : PySem.W.nsIn K mainGlobals "repr" = some none)
    (zset : PySem.W.nsIn K mainGlobals "set" = some none)
    (zsorted : PySem.W.nsIn K mainGlobals "sorted" = some none)
    (zsum : PySem.W.nsIn K mainGlobals "sum" = some none)
    (ztuple : PySem.W.nsIn K mainGlobals "tuple" = some none)
    (ztype : PySem.W.nsIn K mainGlobals "type" = some none)
    (c_MOST_IN_ROUND : PySem.W.nsIn K mainGlobals "MOST_IN_ROUND" = some (some (.int 40 tkMOST_IN_ROUND)))
    (c_MOST_ROUNDS : PySem.W.nsIn K mainGlobals "MOST_ROUNDS" = some (some (.int 8 tkMOST_ROUNDS)))
    (c_MOST_TOGETHER : PySem.W.nsIn K mainGlobals "MOST_TOGETHER" = some (some (.int 80 tkMOST_TOGETHER)))
    (kSS : PySem.W.kitOne K (.ref C_Skin) (.ref C_Skin) = some true)
    (kST : PySem.W.kitOne K (.type "tuple") (.ref C_Skin) = some false)
    (kSN : PySem.W.kitOne K (.type "NoneType") (.ref C_Skin) = some false)
    :
    ∃ T : Txt K mg, fa = T.law.a := by
  have no_Skin : ∀ f ∈ (["row", "bands", "places"] : List Str), NoAttr K C_Skin f := fun f hf => by
      simp only [List.mem_cons, List.not_mem_nil, or_false] at hf
      rcases hf with rfl | rfl | rfl
      · exact n_Skin_row
      · exact n_Skin_bands
      · exact n_Skin_places
  have e := hfa.symm.trans (PySem.W.mg_of X G a_law)
  cases e
  refine ⟨{
    RoundError := ⟨C_RoundError, PySem.W.mg_of X G a_RoundError, k_RoundError, q_RoundError, ty_RoundError, ⟨ga_RoundError, gg_RoundError, ex_RoundError, hd_RoundError, ca_RoundError, hn0, ht0, mo_RoundError⟩⟩,
    BadRound := ⟨C_BadRound, PySem.W.mg_of X G a_BadRound, k_BadRound, q_BadRound, ty_BadRound, ⟨ga_BadRound, gg_BadRound, ex_BadRound, hd_BadRound, ca_BadRound, hn0, ht0, mo_BadRound⟩⟩,
    BadRounds := ⟨C_BadRounds, f_BadRounds, _, PySem.W.mg_of X G a_BadRounds, ⟨⟨_, _, _, _, _, _, _, _, _, _, _, _, _, _, _, x_BadRounds, rv_BadRounds⟩, sa_BadRounds, ex_BadRounds, ty_BadRounds, kc_BadRounds⟩, i_BadRounds, t_BadRounds, fun_mk (st := s_BadRounds_init) l_BadRounds c_BadRounds k_BadRounds, (fun_mk (st := s_BadRounds_init) l_BadRounds c_BadRounds k_BadRounds).binds (ps := ["self", "part"]) (fun _ _ _ _ _ _ us hl => match us, hl with | [_, _], _ => rfl), nf_BadRounds, ⟨ga_BadRounds, gg_BadRounds, ex_BadRounds, hd_BadRounds⟩, ⟨ga_BadRounds, gg_BadRounds, ex_BadRounds, hd_BadRounds, ca_BadRounds, hn0, ht0, mo_BadRounds⟩⟩,
    BadSkin := ⟨C_BadSkin, f_BadSkin, _, PySem.W.mg_of X G a_BadSkin, ⟨⟨_, _, _, _, _, _, _, _, _, _, _, _, _, _, _, x_BadSkin, rv_BadSkin⟩, sa_BadSkin, ex_BadSkin, ty_BadSkin, kc_BadSkin⟩, i_BadSkin, t_BadSkin, fun_mk (st := s_BadSkin_init) l_BadSkin c_BadSkin k_BadSkin, (fun_mk (st := s_BadSkin_init) l_BadSkin c_BadSkin k_BadSkin).binds (ps := ["self", "part"]) (fun _ _ _ _ _ _ us hl => match us, hl with | [_, _], _ => rfl), nf_BadSkin, ⟨ga_BadSkin, gg_BadSkin, ex_BadSkin, hd_BadSkin⟩, ⟨ga_BadSkin, gg_BadSkin, ex_BadSkin, hd_BadSkin, ca_BadSkin, hn0, ht0, mo_BadSkin⟩⟩,
    is_number := ⟨f_is_number, _, fun_mk (st := s_is_number) l_is_number c_is_number k_is_number, PySem.W.mg_of X G a_is_number, (fun_mk (st := s_is_number) l_is_number c_is_number k_is_number).binds (ps := ["thing"]) (fun _ _ _ _ _ _ us hl => match us, hl with | [_], _ => rfl)⟩,
    is_within := ⟨f_is_within, _, fun_mk (st := s_is_within) l_is_within c_is_within k_is_within, PySem.W.mg_of X G a_is_within, (fun_mk (st := s_is_within) l_is_within c_is_within k_is_within).binds (ps := ["thing", "low", "high"]) (fun _ _ _ _ _ _ us hl => match us, hl with | [_, _, _], _ => rfl)⟩,
    is_tuple := ⟨f_is_tuple, _, fun_mk (st := s_is_tuple) l_is_tuple c_is_tuple k_is_tuple, PySem.W.mg_of X G a_is_tuple, (fun_mk (st := s_is_tuple) l_is_tuple c_is_tuple k_is_tuple).binds (ps := ["thing"]) (fun _ _ _ _ _ _ us hl => match us, hl with | [_], _ => rfl)⟩,
    is_list := ⟨f_is_list, _, fun_mk (st := s_is_list) l_is_list c_is_list k_is_list, PySem.W.mg_of X G a_is_list, (fun_mk (st := s_is_list) l_is_list c_is_list k_is_list).binds (ps := ["thing"]) (fun _ _ _ _ _ _ us hl => match us, hl with | [_], _ => rfl)⟩,
    is_row := ⟨f_is_row, _, fun_mk (st := s_is_row) l_is_row c_is_row k_is_row, PySem.W.mg_of X G a_is_row, (fun_mk (st := s_is_row) l_is_row c_is_row k_is_row).binds (ps := ["row"]) (fun _ _ _ _ _ _ us hl => match us, hl with | [_], _ => rfl)⟩,
    Skin := ⟨C_Skin, f_Skin, _, PySem.W.mg_of X G a_Skin, ⟨pg_Skin, hd_Skin, po_Skin, sa_Skin⟩, no_Skin, ⟨mk_Skin, i_Skin, fn_Skin, kc_Skin⟩, fun_mk (st := s_Skin_init) l_Skin c_Skin k_Skin, (fun_mk (st := s_Skin_init) l_Skin c_Skin k_Skin).binds (ps := ["self", "row"]) (fun _ _ _ _ _ _ us hl => match us, hl with | [_, _], _ => rfl), ca_Skin, hn0, ht0, mo_Skin⟩,
    check_skin := ⟨f_check_skin, _, fun_mk (st := s_check_skin) l_check_skin c_check_skin k_check_skin, PySem.W.mg_of X G a_check_skin, (fun_mk (st := s_check_skin) l_check_skin c_check_skin k_check_skin).binds (ps := ["skin"]) (fun _ _ _ _ _ _ us hl => match us, hl with | [_], _ => rfl)⟩,
    is_end := ⟨f_is_end, _, fun_mk (st := s_is_end) l_is_end c_is_end k_is_end, PySem.W.mg_of X G a_is_end, (fun_mk (st := s_is_end) l_is_end c_is_end k_is_end).binds (ps := ["skin", "thing"]) (fun _ _ _ _ _ _ us hl => match us, hl with | [_, _], _ => rfl)⟩,
    stands_ahead := ⟨f_stands_ahead, _, fun_mk (st := s_stands_ahead) l_stands_ahead c_stands_ahead k_stands_ahead, PySem.W.mg_of X G a_stands_ahead, (fun_mk (st := s_stands_ahead) l_stands_ahead c_stands_ahead k_stands_ahead).binds (ps := ["skin", "start", "one", "other"]) (fun _ _ _ _ _ _ us hl => match us, hl with | [_, _, _, _], _ => rfl)⟩,
    by_turns := ⟨f_by_turns, _, fun_mk (st := s_by_turns) l_by_turns c_by_turns k_by_turns, PySem.W.mg_of X G a_by_turns, (fun_mk (st := s_by_turns) l_by_turns c_by_turns k_by_turns).binds (ps := ["one", "end", "other", "tail"]) (fun _ _ _ _ _ _ us hl => match us, hl with | [_, _, _, _], _ => rfl)⟩,
    least_turn := ⟨f_least_turn, _, fun_mk (st := s_least_turn) l_least_turn c_least_turn k_least_turn, PySem.W.mg_of X G a_least_turn, (fun_mk (st := s_least_turn) l_least_turn c_least_turn k_least_turn).binds (ps := ["word"]) (fun _ _ _ _ _ _ us hl => match us, hl with | [_], _ => rfl)⟩,
    is_any_word := ⟨f_is_any_word, _, fun_mk (st := s_is_any_word) l_is_any_word c_is_any_word k_is_any_word, PySem.W.mg_of X G a_is_any_word, (fun_mk (st := s_is_any_word) l_is_any_word c_is_any_word k_is_any_word).binds (ps := ["skin", "thing"]) (fun _ _ _ _ _ _ us hl => match us, hl with | [_, _], _ => rfl)⟩,
    has_letters := ⟨f_has_letters, _, fun_mk (st := s_has_letters) l_has_letters c_has_letters k_has_letters, PySem.W.mg_of X G a_has_letters, (fun_mk (st := s_has_letters) l_has_letters c_has_letters k_has_letters).binds (ps := ["skin", "thing", "most"]) (fun _ _ _ _ _ _ us hl => match us, hl with | [_, _, _], _ => rfl)⟩,
    cut_free := ⟨f_cut_free, _, fun_mk (st := s_cut_free) l_cut_free c_cut_free k_cut_free, PySem.W.mg_of X G a_cut_free, (fun_mk (st := s_cut_free) l_cut_free c_cut_free k_cut_free).binds (ps := ["word"]) (fun _ _ _ _ _ _ us hl => match us, hl with | [_], _ => rfl)⟩,
    closed_letters := ⟨f_closed_letters, _, fun_mk (st := s_closed_letters) l_closed_letters c_closed_letters k_closed_letters, PySem.W.mg_of X G a_closed_letters, (fun_mk (st := s_closed_letters) l_closed_letters c_closed_letters k_closed_letters).binds (ps := ["word"]) (fun _ _ _ _ _ _ us hl => match us, hl with | [_], _ => rfl)⟩,
    closed_up := ⟨f_closed_up, _, fun_mk (st := s_closed_up) l_closed_up c_closed_up k_closed_up, PySem.W.mg_of X G a_closed_up, (fun_mk (st := s_closed_up) l_closed_up c_closed_up k_closed_up).binds (ps := ["word"]) (fun _ _ _ _ _ _ us hl => match us, hl with | [_], _ => rfl)⟩,
    is_fit_round := ⟨f_is_fit_round, _, fun_mk (st := s_is_fit_round) l_is_fit_round c_is_fit_round k_is_fit_round, PySem.W.mg_of X G a_is_fit_round, (fun_mk (st := s_is_fit_round) l_is_fit_round c_is_fit_round k_is_fit_round).binds (ps := ["skin", "thing"]) (fun _ _ _ _ _ _ us hl => match us, hl with | [_, _], _ => rfl)⟩,
    check_round := ⟨f_check_round, _, fun_mk (st := s_check_round) l_check_round c_check_round k_check_round, PySem.W.mg_of X G a_check_round, (fun_mk (st := s_check_round) l_check_round c_check_round k_check_round).binds (ps := ["skin", "loop"]) (fun _ _ _ _ _ _ us hl => match us, hl with | [_, _], _ => rfl)⟩,
    check_rounds := ⟨f_check_rounds, _, fun_mk (st := s_check_rounds) l_check_rounds c_check_rounds k_check_rounds, PySem.W.mg_of X G a_check_rounds, (fun_mk (st := s_check_rounds) l_check_rounds c_check_rounds k_check_rounds).binds (ps := ["skin", "rounds"]) (fun _ _ _ _ _ _ us hl => match us, hl with | [_, _], _ => rfl)⟩,
    rooted := ⟨f_rooted, _, fun_mk (st := s_rooted) l_rooted c_rooted k_rooted, PySem.W.mg_of X G a_rooted, (fun_mk (st := s_rooted) l_rooted c_rooted k_rooted).binds (ps := ["loop"]) (fun _ _ _ _ _ _ us hl => match us, hl with | [_], _ => rfl)⟩,
    letter_on := ⟨f_letter_on, _, fun_mk (st := s_letter_on) l_letter_on c_letter_on k_letter_on, PySem.W.mg_of X G a_letter_on, (fun_mk (st := s_letter_on) l_letter_on c_letter_on k_letter_on).binds (ps := ["loop", "place", "way", "far"]) (fun _ _ _ _ _ _ us hl => match us, hl with | [_, _, _, _], _ => rfl)⟩,
    shared := ⟨f_shared, _, fun_mk (st := s_shared) l_shared c_shared k_shared, PySem.W.mg_of X G a_shared, (fun_mk (st := s_shared) l_shared c_shared k_shared).binds (ps := ["one", "place", "other", "spot", "way", "side"]) (fun _ _ _ _ _ _ us hl => match us, hl with | [_, _, _, _, _, _], _ => rfl)⟩,
    from_left := ⟨f_from_left, _, fun_mk (st := s_from_left) l_from_left c_from_left k_from_left, PySem.W.mg_of X G a_from_left, (fun_mk (st := s_from_left) l_from_left c_from_left k_from_left).binds (ps := ["skin", "one", "place", "other", "spot", "way"]) (fun _ _ _ _ _ _ us hl => match us, hl with | [_, _, _, _, _, _], _ => rfl)⟩,
    to_right := ⟨f_to_right, _, fun_mk (st := s_to_right) l_to_right c_to_right k_to_right, PySem.W.mg_of X G a_to_right, (fun_mk (st := s_to_right) l_to_right c_to_right k_to_right).binds (ps := ["skin", "one", "place", "other", "spot", "way"]) (fun _ _ _ _ _ _ us hl => match us, hl with | [_, _, _, _, _, _], _ => rfl)⟩,
    common_stretch := ⟨f_common_stretch, _, fun_mk (st := s_common_stretch) l_common_stretch c_common_stretch k_common_stretch, PySem.W.mg_of X G a_common_stretch, (fun_mk (st := s_common_stretch) l_common_stretch c_common_stretch k_common_stretch).binds (ps := ["skin", "one", "place", "other", "spot"]) (fun _ _ _ _ _ _ us hl => match us, hl with | [_, _, _, _, _], _ => rfl)⟩,
    linked_along := ⟨f_linked_along, _, fun_mk (st := s_linked_along) l_linked_along c_linked_along k_linked_along, PySem.W.mg_of X G a_linked_along, (fun_mk (st := s_linked_along) l_linked_along c_linked_along k_linked_along).binds (ps := ["skin", "one", "place", "other", "spot"]) (fun _ _ _ _ _ _ us hl => match us, hl with | [_, _, _, _, _], _ => rfl)⟩,
    linked_across := ⟨f_linked_across, _, fun_mk (st := s_linked_across) l_linked_across c_linked_across k_linked_across, PySem.W.mg_of X G a_linked_across, (fun_mk (st := s_linked_across) l_linked_across c_linked_across k_linked_across).binds (ps := ["skin", "one", "place", "other", "spot"]) (fun _ _ _ _ _ _ us hl => match us, hl with | [_, _, _, _, _], _ => rfl)⟩,
    pairs_of := ⟨f_pairs_of, _, fun_mk (st := s_pairs_of) l_pairs_of c_pairs_of k_pairs_of, PySem.W.mg_of X G a_pairs_of, (fun_mk (st := s_pairs_of) l_pairs_of c_pairs_of k_pairs_of).binds (ps := ["skin", "one", "other"]) (fun _ _ _ _ _ _ us hl => match us, hl with | [_, _, _], _ => rfl)⟩,
    linked_pairs := ⟨f_linked_pairs, _, fun_mk (st := s_linked_pairs) l_linked_pairs c_linked_pairs k_linked_pairs, PySem.W.mg_of X G a_linked_pairs, (fun_mk (st := s_linked_pairs) l_linked_pairs c_linked_pairs k_linked_pairs).binds (ps := ["skin", "one", "other"]) (fun _ _ _ _ _ _ us hl => match us, hl with | [_, _, _], _ => rfl)⟩,
    taken_otherwise := ⟨f_taken_otherwise, _, fun_mk (st := s_taken_otherwise) l_taken_otherwise c_taken_otherwise k_taken_otherwise, PySem.W.mg_of X G a_taken_otherwise, (fun_mk (st := s_taken_otherwise) l_taken_otherwise c_taken_otherwise k_taken_otherwise).binds (ps := ["loop", "pair"]) (fun _ _ _ _ _ _ us hl => match us, hl with | [_, _], _ => rfl)⟩,
    u_own_pairs := ⟨f_u_own_pairs, _, fun_mk (st := s_u_own_pairs) l_u_own_pairs c_u_own_pairs k_u_own_pairs, PySem.W.mg_of X G a_u_own_pairs, (fun_mk (st := s_u_own_pairs) l_u_own_pairs c_u_own_pairs k_u_own_pairs).binds (ps := ["skin", "loop"]) (fun _ _ _ _ _ _ us hl => match us, hl with | [_, _], _ => rfl)⟩,
    own_pairs := ⟨f_own_pairs, _, fun_mk (st := s_own_pairs) l_own_pairs c_own_pairs k_own_pairs, PySem.W.mg_of X G a_own_pairs, (fun_mk (st := s_own_pairs) l_own_pairs c_own_pairs k_own_pairs).binds (ps := ["skin", "loop"]) (fun _ _ _ _ _ _ us hl => match us, hl with | [_, _], _ => rfl)⟩,
    own_number := ⟨f_own_number, _, fun_mk (st := s_own_number) l_own_number c_own_number k_own_number, PySem.W.mg_of X G a_own_number, (fun_mk (st := s_own_number) l_own_number c_own_number k_own_number).binds (ps := ["skin", "loop"]) (fun _ _ _ _ _ _ us hl => match us, hl with | [_, _], _ => rfl)⟩,
    crossings := ⟨f_crossings, _, fun_mk (st := s_crossings) l_crossings c_crossings k_crossings, PySem.W.mg_of X G a_crossings, (fun_mk (st := s_crossings) l_crossings c_crossings k_crossings).binds (ps := ["skin", "one", "other"]) (fun _ _ _ _ _ _ us hl => match us, hl with | [_, _, _], _ => rfl)⟩,
    own_crossings := ⟨f_own_crossings, _, fun_mk (st := s_own_crossings) l_own_crossings c_own_crossings k_own_crossings, PySem.W.mg_of X G a_own_crossings, (fun_mk (st := s_own_crossings) l_own_crossings c_own_crossings k_own_crossings).binds (ps := ["skin", "loop"]) (fun _ _ _ _ _ _ us hl => match us, hl with | [_, _], _ => rfl)⟩,
    fewest := ⟨f_fewest, _, fun_mk (st := s_fewest) l_fewest c_fewest k_fewest, PySem.W.mg_of X G a_fewest, (fun_mk (st := s_fewest) l_fewest c_fewest k_fewest).binds (ps := ["skin", "rounds"]) (fun _ _ _ _ _ _ us hl => match us, hl with | [_, _], _ => rfl)⟩,
    l_begun := ⟨f_l_begun, _, fun_mk (st := s_l_begun) l_l_begun c_l_begun k_l_begun, PySem.W.mg_of X G a_l_begun, (fun_mk (st := s_l_begun) l_l_begun c_l_begun k_l_begun).binds (ps := ["script"]) (fun _ _ _ _ _ _ us hl => match us, hl with | [_], _ => rfl)⟩,
    l_mixed := ⟨f_l_mixed, _, fun_mk (st := s_l_mixed) l_l_mixed c_l_mixed k_l_mixed, PySem.W.mg_of X G a_l_mixed, (fun_mk (st := s_l_mixed) l_l_mixed c_l_mixed k_l_mixed).binds (ps := ["draw"]) (fun _ _ _ _ _ _ us hl => match us, hl with | [_], _ => rfl)⟩,
    l_take := ⟨f_l_take, _, fun_mk (st := s_l_take) l_l_take c_l_take k_l_take, PySem.W.mg_of X G a_l_take, (fun_mk (st := s_l_take) l_l_take c_l_take k_l_take).binds (ps := ["draw", "amount"]) (fun _ _ _ _ _ _ us hl => match us, hl with | [_, _], _ => rfl)⟩,
    l_pick := ⟨f_l_pick, _, fun_mk (st := s_l_pick) l_l_pick c_l_pick k_l_pick, PySem.W.mg_of X G a_l_pick, (fun_mk (st := s_l_pick) l_l_pick c_l_pick k_l_pick).binds (ps := ["draw", "some"]) (fun _ _ _ _ _ _ us hl => match us, hl with | [_, _], _ => rfl)⟩,
    l_shuffled := ⟨f_l_shuffled, _, fun_mk (st := s_l_shuffled) l_l_shuffled c_l_shuffled k_l_shuffled, PySem.W.mg_of X G a_l_shuffled, (fun_mk (st := s_l_shuffled) l_l_shuffled c_l_shuffled k_l_shuffled).binds (ps := ["draw", "some"]) (fun _ _ _ _ _ _ us hl => match us, hl with | [_, _], _ => rfl)⟩,
    l_row := ⟨f_l_row, _, fun_mk (st := s_l_row) l_l_row c_l_row k_l_row, PySem.W.mg_of X G a_l_row, (fun_mk (st := s_l_row) l_l_row c_l_row k_l_row).binds (ps := ["draw", "bands"]) (fun _ _ _ _ _ _ us hl => match us, hl with | [_, _], _ => rfl)⟩,
    l_undone := ⟨f_l_undone, _, fun_mk (st := s_l_undone) l_l_undone c_l_undone k_l_undone, PySem.W.mg_of X G a_l_undone, (fun_mk (st := s_l_undone) l_l_undone c_l_undone k_l_undone).binds (ps := ["word"]) (fun _ _ _ _ _ _ us hl => match us, hl with | [_], _ => rfl)⟩,
    l_least := ⟨f_l_least, _, fun_mk (st := s_l_least) l_l_least c_l_least k_l_least, PySem.W.mg_of X G a_l_least, (fun_mk (st := s_l_least) l_l_least c_l_least k_l_least).binds (ps := ["word"]) (fun _ _ _ _ _ _ us hl => match us, hl with | [_], _ => rfl)⟩,
    l_drawn := ⟨f_l_drawn, _, fun_mk (st := s_l_drawn) l_l_drawn c_l_drawn k_l_drawn, PySem.W.mg_of X G a_l_drawn, (fun_mk (st := s_l_drawn) l_l_drawn c_l_drawn k_l_drawn).binds (ps := ["draw", "size", "many"]) (fun _ _ _ _ _ _ us hl => match us, hl with | [_, _, _], _ => rfl)⟩,
    l_any_loop := ⟨f_l_any_loop, _, fun_mk (st := s_l_any_loop) l_l_any_loop c_l_any_loop k_l_any_loop, PySem.W.mg_of X G a_l_any_loop, (fun_mk (st := s_l_any_loop) l_l_any_loop c_l_any_loop k_l_any_loop).binds (ps := ["draw", "size", "most"]) (fun _ _ _ _ _ _ us hl => match us, hl with | [_, _, _], _ => rfl)⟩,
    l_mended := ⟨f_l_mended, _, fun_mk (st := s_l_mended) l_l_mended c_l_mended k_l_mended, PySem.W.mg_of X G a_l_mended, (fun_mk (st := s_l_mended) l_l_mended c_l_mended k_l_mended).binds (ps := ["word"]) (fun _ _ _ _ _ _ us hl => match us, hl with | [_], _ => rfl)⟩,
    l_far := ⟨f_l_far, _, fun_mk (st := s_l_far) l_l_far c_l_far k_l_far, PySem.W.mg_of X G a_l_far, (fun_mk (st := s_l_far) l_l_far c_l_far k_l_far).binds (ps := ["letters", "spots"]) (fun _ _ _ _ _ _ us hl => match us, hl with | [_, _], _ => rfl)⟩,
    l_ways := ⟨f_l_ways, _, fun_mk (st := s_l_ways) l_l_ways c_l_ways k_l_ways, PySem.W.mg_of X G a_l_ways, (fun_mk (st := s_l_ways) l_l_ways c_l_ways k_l_ways).binds (ps := ["row", "one", "many"]) (fun _ _ _ _ _ _ us hl => match us, hl with | [_, _, _], _ => rfl)⟩,
    l_by_turns := ⟨f_l_by_turns, _, fun_mk (st := s_l_by_turns) l_l_by_turns c_l_by_turns k_l_by_turns, PySem.W.mg_of X G a_l_by_turns, (fun_mk (st := s_l_by_turns) l_l_by_turns c_l_by_turns k_l_by_turns).binds (ps := ["first", "second"]) (fun _ _ _ _ _ _ us hl => match us, hl with | [_, _], _ => rfl)⟩,
    l_meets := ⟨f_l_meets, _, fun_mk (st := s_l_meets) l_l_meets c_l_meets k_l_meets, PySem.W.mg_of X G a_l_meets, (fun_mk (st := s_l_meets) l_l_meets c_l_meets k_l_meets).binds (ps := ["row", "one", "other"]) (fun _ _ _ _ _ _ us hl => match us, hl with | [_, _, _], _ => rfl)⟩,
    l_crossings := ⟨f_l_crossings, _, fun_mk (st := s_l_crossings) l_l_crossings c_l_crossings k_l_crossings, PySem.W.mg_of X G a_l_crossings, (fun_mk (st := s_l_crossings) l_l_crossings c_l_crossings k_l_crossings).binds (ps := ["row", "one", "other"]) (fun _ _ _ _ _ _ us hl => match us, hl with | [_, _, _], _ => rfl)⟩,
    l_own := ⟨f_l_own, _, fun_mk (st := s_l_own) l_l_own c_l_own k_l_own, PySem.W.mg_of X G a_l_own, (fun_mk (st := s_l_own) l_l_own c_l_own k_l_own).binds (ps := ["row", "one"]) (fun _ _ _ _ _ _ us hl => match us, hl with | [_, _], _ => rfl)⟩,
    l_root := ⟨f_l_root, _, fun_mk (st := s_l_root) l_l_root c_l_root k_l_root, PySem.W.mg_of X G a_l_root, (fun_mk (st := s_l_root) l_l_root c_l_root k_l_root).binds (ps := ["one"]) (fun _ _ _ _ _ _ us hl => match us, hl with | [_], _ => rfl)⟩,
    l_times := ⟨f_l_times, _, fun_mk (st := s_l_times) l_l_times c_l_times k_l_times, PySem.W.mg_of X G a_l_times, (fun_mk (st := s_l_times) l_l_times c_l_times k_l_times).binds (ps := ["draw", "one"]) (fun _ _ _ _ _ _ us hl => match us, hl with | [_, _], _ => rfl)⟩,
    l_two_right := ⟨f_l_two_right, _, fun_mk (st := s_l_two_right) l_l_two_right c_l_two_right k_l_two_right, PySem.W.mg_of X G a_l_two_right, (fun_mk (st := s_l_two_right) l_l_two_right c_l_two_right k_l_two_right).binds (ps := ["draw", "skin", "row", "x", "y"]) (fun _ _ _ _ _ _ us hl => match us, hl with | [_, _, _, _, _], _ => rfl)⟩,
    l_one_right := ⟨f_l_one_right, _, fun_mk (st := s_l_one_right) l_l_one_right c_l_one_right k_l_one_right, PySem.W.mg_of X G a_l_one_right, (fun_mk (st := s_l_one_right) l_l_one_right c_l_one_right k_l_one_right).binds (ps := ["draw", "skin", "row", "x"]) (fun _ _ _ _ _ _ us hl => match us, hl with | [_, _, _, _], _ => rfl)⟩,
    law := ⟨fa, _, fun_mk (st := s_law) l_law c_law k_law, PySem.W.mg_of X G a_law, (fun_mk (st := s_law) l_law c_law k_law).binds (ps := ["script"]) (fun _ _ _ _ _ _ us hl => match us, hl with | [_], _ => rfl)⟩,
    zabs := PySem.W.mg_none_of X G zabs,
    zall := PySem.W.mg_none_of X G zall,
    zdict := PySem.W.mg_none_of X G zdict,
    zenumerate := PySem.W.mg_none_of X G zenumerate,
    zint := PySem.W.mg_none_of X G zint,
    zisinstance := PySem.W.mg_none_of X G zisinstance,
    zlen := PySem.W.mg_none_of X G zlen,
    zlist := PySem.W.mg_none_of X G zlist,
    zmax := PySem.W.mg_none_of X G zmax,
    zmin := PySem.W.mg_none_of X G zmin,
    zrange := PySem.W.mg_none_of X G zrange,
    zrepr := PySem.W.mg_none_of X G zrepr,
    zset := PySem.W.mg_none_of X G zset,
    zsorted := PySem.W.mg_none_of X G zsorted,
    zsum := PySem.W.mg_none_of X G zsum,
    ztuple := PySem.W.mg_none_of X G ztuple,
    ztype := PySem.W.mg_none_of X G ztype,
    v_MOST_IN_ROUND := .int 40 tkMOST_IN_ROUND,
    c_MOST_IN_ROUND := PySem.W.mg_of X G c_MOST_IN_ROUND,
    r_MOST_IN_ROUND := ⟨_, rfl⟩,
    v_MOST_ROUNDS := .int 8 tkMOST_ROUNDS,
    c_MOST_ROUNDS := PySem.W.mg_of X G c_MOST_ROUNDS,
    r_MOST_ROUNDS := ⟨_, rfl⟩,
    v_MOST_TOGETHER := .int 80 tkMOST_TOGETHER,
    c_MOST_TOGETHER := PySem.W.mg_of X G c_MOST_TOGETHER,
    r_MOST_TOGETHER := ⟨_, rfl⟩,
    kSS := kSS,
    kST := kST,
    kSN := kSN }, rfl, ⟩
theorem walk_law {l : PySem.W.OpenLaw} {q : Program} {loose : List Str} {XP : (Str → Option Value) → Heap → Prop} {YP : World → Heap → Prop} {d : DefRec} {K : Params → PySem.W.Frag} (hn : l.most = some 63) (hdf : d.params.defaults = [])
    (hY : ∀ (w : World) (h : Heap), YP w h → (K w.params).In h)
    (F : ∀ (w : World) (mg : Str → Option Value) (fa : Addr) (h : Heap), YP w h → (K w.params).In h → h.Ns mainGlobals mg → mg d.name = some (.ref fa) →
      ∃ T : Txt (K w.params) mg, fa = T.law.a) :
    PySem.W.WalkO q loose XP YP l.row.toRowW d [] (fun f vs => PySem.call f vs) := by
  refine Att.attach_callB hn hdf fun w s₀ s₁ mg mb fa o pm cd doc a vs ns G Y ho hd hcd hmg hobj hints hlen hbits hg => ?_
  have KX := hY w _ Y
  obtain ⟨T, rfl⟩ := F w mg fa _ Y KX G.T.g hmg
  refine law_run (ts := []) KX G.T.g G.T.b G.T.builtins G.T.nolimit hg (fun p hp => ?_) G.T.bmain hobj hints (Nat.le_trans hlen (by decide)) fun base H TB e0 hT hS => ?_
  · cases hp
  obtain ⟨oc, od, kV, doc', pm', an, cdv, ct, osl, e, lk, hc⟩ := T.law.F.ex
  have hb := T.law.b s₁ [.ref a] KX rfl
  rw [e] at lk hb
  refine LamX.run_ofS (N := N_law) (ps := ["script"]) (k := 14) (us := [.ref a]) (vs := [.ref a]) lk hc sc_law ⟨rfl, by decide, by decide⟩ e0 hb (.cons rfl .nil) rfl fun hr' => ?_
  obtain ⟨t, h1, h2⟩ := law_body (w := w) (base := base) (E := E0) (outer := []) (Q := fun v _ => v = .bl true) T  (cdv := cdv) (A := callerA) (s := s₁) rfl hr' hS hlen (fun _ => rfl)
  exact ⟨t, h1.nox, h2⟩
end Tt
open PySem PySem.W PyProof.Rows in
set_option maxRecDepth 100000 in
set_option maxHeartbeats 0 in
theorem PySem.Challenge.cw_tautrounds_k12_whole_powers_holds : PySem.Challenge.rw_tautrounds_k12_whole_powers.Holds := by
  w_on; o_law; k_head; (case hw => w_witness2)
  k_fill
  refine' Tt.walk_law (l := PySem.Challenge.rw_tautrounds_k12_whole_powers) rfl rfl (fun w h Y => PySem.W.kIn_of Y) ?F
  case F =>
    intro w mg fa h Y KX G hmg
    refine' Tt.all_mk KX G hmg ?hn0 ?ht0 ?a_RoundError ?k_RoundError ?q_RoundError ?ty_RoundError ?ga_RoundError ?gg_RoundError ?ex_RoundError ?hd_RoundError ?ca_RoundError ?mo_RoundError ?a_BadRound ?k_BadRound ?q_BadRound ?ty_BadRound ?ga_BadRound ?gg_BadRound ?ex_BadRound ?hd_BadRound ?ca_BadRound ?mo_BadRound ?a_BadRounds ?x_BadRounds ?rv_BadRounds ?sa_BadRounds ?ty_BadRounds ?kc_BadRounds ?i_BadRounds ?t_BadRounds ?l_BadRounds ?c_BadRounds ?k_BadRounds ?nf_BadRounds ?ga_BadRounds ?gg_BadRounds ?ex_BadRounds ?hd_BadRounds ?ca_BadRounds ?mo_BadRounds ?a_BadSkin ?x_BadSkin ?rv_BadSkin ?sa_BadSkin ?ty_BadSkin ?kc_BadSkin ?i_BadSkin ?t_BadSkin ?l_BadSkin ?c_BadSkin ?k_BadSkin ?nf_BadSkin ?ga_BadSkin ?gg_BadSkin ?ex_BadSkin ?hd_BadSkin ?ca_BadSkin ?mo_BadSkin ?a_is_number ?l_is_number ?c_is_number ?k_is_number ?a_is_within ?l_is_within ?c_is_within ?k_is_within ?a_is_tuple ?l_is_tuple ?c_is_tuple ?k_is_tuple ?a_is_list ?l_is_list ?c_is_list ?k_is_list ?a_is_row ?l_is_row ?c_is_row ?k_is_row ?a_Skin ?i_Skin ?fn_Skin ?l_Skin ?c_Skin ?k_Skin ?pg_Skin ?hd_Skin ?po_Skin ?sa_Skin ?mk_Skin ?kc_Skin ?ca_Skin ?mo_Skin ?n_Skin_row ?n_Skin_bands ?n_Skin_places ?a_check_skin ?l_check_skin ?c_check_skin ?k_check_skin ?a_is_end ?l_is_end ?c_is_end ?k_is_end ?a_stands_ahead ?l_stands_ahead ?c_stands_ahead ?k_stands_ahead ?a_by_turns ?l_by_turns ?c_by_turns ?k_by_turns ?a_least_turn ?l_least_turn ?c_least_turn ?k_least_turn ?a_is_any_word ?l_is_any_word ?c_is_any_word ?k_is_any_word ?a_has_letters ?l_has_letters ?c_has_letters ?k_has_letters ?a_cut_free ?l_cut_free ?c_cut_free ?k_cut_free ?a_closed_letters ?l_closed_letters ?c_closed_letters ?k_closed_letters ?a_closed_up ?l_closed_up ?c_closed_up ?k_closed_up ?a_is_fit_round ?l_is_fit_round ?c_is_fit_round ?k_is_fit_round ?a_check_round ?l_check_round ?c_check_round ?k_check_round ?a_check_rounds ?l_check_rounds ?c_check_rounds ?k_check_rounds ?a_rooted ?l_rooted ?c_rooted ?k_rooted ?a_letter_on ?l_letter_on ?c_letter_on ?k_letter_on ?a_shared ?l_shared ?c_shared ?k_shared ?a_from_left ?l_from_left ?c_from_left ?k_from_left ?a_to_right ?l_to_right ?c_to_right ?k_to_right ?a_common_stretch ?l_common_stretch ?c_common_stretch ?k_common_stretch ?a_linked_along ?l_linked_along ?c_linked_along ?k_linked_along ?a_linked_across ?l_linked_across ?c_linked_across ?k_linked_across ?a_pairs_of ?l_pairs_of ?c_pairs_of ?k_pairs_of ?a_linked_pairs ?l_linked_pairs ?c_linked_pairs ?k_linked_pairs ?a_taken_otherwise ?l_taken_otherwise ?c_taken_otherwise ?k_taken_otherwise ?a_u_own_pairs ?l_u_own_pairs ?c_u_own_pairs ?k_u_own_pairs ?a_own_pairs ?l_own_pairs ?c_own_pairs ?k_own_pairs ?a_own_number ?l_own_number ?c_own_number ?k_own_number ?a_crossings ?l_crossings ?c_crossings ?k_crossings ?a_own_crossings ?l_own_crossings ?c_own_crossings ?k_own_crossings ?a_fewest ?l_fewest ?c_fewest ?k_fewest ?a_l_begun ?l_l_begun ?c_l_begun ?k_l_begun ?a_l_mixed ?l_l_mixed ?c_l_mixed ?k_l_mixed ?a_l_take ?l_l_take ?c_l_take ?k_l_take ?a_l_pick ?l_l_pick ?c_l_pick ?k_l_pick ?a_l_shuffled ?l_l_shuffled ?c_l_shuffled ?k_l_shuffled ?a_l_row ?l_l_row ?c_l_row ?k_l_row ?a_l_undone ?l_l_undone ?c_l_undone ?k_l_undone ?a_l_least ?l_l_least ?c_l_least ?k_l_least ?a_l_drawn ?l_l_drawn ?c_l_drawn ?k_l_drawn ?a_l_any_loop ?l_l_any_loop ?c_l_any_loop ?k_l_any_loop ?a_l_mended ?l_l_mended ?c_l_mended ?k_l_mended ?a_l_far ?l_l_far ?c_l_far ?k_l_far ?a_l_ways ?l_l_ways ?c_l_ways ?k_l_ways ?a_l_by_turns ?l_l_by_turns ?c_l_by_turns ?k_l_by_turns ?a_l_meets ?l_l_meets ?c_l_meets ?k_l_meets ?a_l_crossings ?l_l_crossings ?c_l_crossings ?k_l_crossings ?a_l_own ?l_l_own ?c_l_own ?k_l_own ?a_l_root ?l_l_root ?c_l_root ?k_l_root ?a_l_times ?l_l_times ?c_l_times ?k_l_times ?a_l_two_right ?l_l_two_right ?c_l_two_right ?k_l_two_right ?a_l_one_right ?l_l_one_right ?c_l_one_right ?k_l_one_right ?a_law ?l_law ?c_law ?k_law ?zabs ?zall ?zdict ?zenumerate ?zint ?zisinstance ?zlen ?zlist ?zmax ?zmin ?zrange ?zrepr ?zset ?zsorted ?zsum ?ztuple ?ztype ?c_MOST_IN_ROUND ?c_MOST_ROUNDS ?c_MOST_TOGETHER ?kSS ?kST ?kSN
    (case hn0 => k_is)
    (case ht0 => k_is)
    (case a_RoundError => k_is)
    (case k_RoundError => k_is)
    (case q_RoundError => k_exc)
    (case ty_RoundError => k_is)
    (case ga_RoundError => k_is)
    (case gg_RoundError => k_is)
    (case ex_RoundError => k_is)
    (case hd_RoundError => k_is)
    (case ca_RoundError => k_is)
    (case mo_RoundError => k_is)
    (case a_BadRound => k_is)
    (case k_BadRound => k_is)
    (case q_BadRound => k_exc)
    (case ty_BadRound => k_is)
    (case ga_BadRound => k_is)
    (case gg_BadRound => k_is)
    (case ex_BadRound => k_is)
    (case hd_BadRound => k_is)
    (case ca_BadRound => k_is)
    (case mo_BadRound => k_is)
    (case a_BadRounds => k_is)
    (case x_BadRounds => k_is)
    (case rv_BadRounds => decide +kernel)
    (case sa_BadRounds => k_is)
    (case ty_BadRounds => k_is)
    (case kc_BadRounds => k_is)
    (case i_BadRounds => k_is)
    (case t_BadRounds => k_is)
    (case l_BadRounds => k_is)
    (case c_BadRounds => k_is)
    (case k_BadRounds => k_is)
    (case nf_BadRounds => k_is)
    (case ga_BadRounds => k_is)
    (case gg_BadRounds => k_is)
    (case ex_BadRounds => k_is)
    (case hd_BadRounds => k_is)
    (case ca_BadRounds => k_is)
    (case mo_BadRounds => k_is)
    (case a_BadSkin => k_is)
    (case x_BadSkin => k_is)
    (case rv_BadSkin => decide +kernel)
    (case sa_BadSkin => k_is)
    (case ty_BadSkin => k_is)
    (case kc_BadSkin => k_is)
    (case i_BadSkin => k_is)
    (case t_BadSkin => k_is)
    (case l_BadSkin => k_is)
    (case c_BadSkin => k_is)
    (case k_BadSkin => k_is)
    (case nf_BadSkin => k_is)
    (case ga_BadSkin => k_is)
    (case gg_BadSkin => k_is)
    (case ex_BadSkin => k_is)
    (case hd_BadSkin => k_is)
    (case ca_BadSkin => k_is)
    (case mo_BadSkin => k_is)
    (case a_is_number => k_is)
    (case l_is_number => k_is)
    (case c_is_number => k_is)
    (case k_is_number => k_is)
    (case a_is_within => k_is)
    (case l_is_within => k_is)
    (case c_is_within => k_is)
    (case k_is_within => k_is)
    (case a_is_tuple => k_is)
    (case l_is_tuple => k_is)
    (case c_is_tuple => k_is)
    (case k_is_tuple => k_is)
    (case a_is_list => k_is)
    (case l_is_list => k_is)
    (case c_is_list => k_is)
    (case k_is_list => k_is)
    (case a_is_row => k_is)
    (case l_is_row => k_is)
    (case c_is_row => k_is)
    (case k_is_row => k_is)
    (case a_Skin => k_is)
    (case i_Skin => k_is)
    (case fn_Skin => k_is)
    (case l_Skin => k_is)
    (case c_Skin => k_is)
    (case k_Skin => k_is)
    (case pg_Skin => k_is)
    (case hd_Skin => k_is)
    (case po_Skin => k_is)
    (case sa_Skin => k_is)
    (case mk_Skin => k_is)
    (case kc_Skin => k_is)
    (case ca_Skin => k_is)
    (case mo_Skin => k_is)
    (case n_Skin_row => k_is)
    (case n_Skin_bands => k_is)
    (case n_Skin_places => k_is)
    (case a_check_skin => k_is)
    (case l_check_skin => k_is)
    (case c_check_skin => k_is)
    (case k_check_skin => k_is)
    (case a_is_end => k_is)
    (case l_is_end => k_is)
    (case c_is_end => k_is)
    (case k_is_end => k_is)
    (case a_stands_ahead => k_is)
    (case l_stands_ahead => k_is)
    (case c_stands_ahead => k_is)
    (case k_stands_ahead => k_is)
    (case a_by_turns => k_is)
    (case l_by_turns => k_is)
    (case c_by_turns => k_is)
    (case k_by_turns => k_is)
    (case a_least_turn => k_is)
    (case l_least_turn => k_is)
    (case c_least_turn => k_is)
    (case k_least_turn => k_is)
    (case a_is_any_word => k_is)
    (case l_is_any_word => k_is)
    (case c_is_any_word => k_is)
    (case k_is_any_word => k_is)
    (case a_has_letters => k_is)
    (case l_has_letters => k_is)
    (case c_has_letters => k_is)
    (case k_has_letters => k_is)
    (case a_cut_free => k_is)
    (case l_cut_free => k_is)
    (case c_cut_free => k_is)
    (case k_cut_free => k_is)
    (case a_closed_letters => k_is)
    (case l_closed_letters => k_is)
    (case c_closed_letters => k_is)
    (case k_closed_letters => k_is)
    (case a_closed_up => k_is)
    (case l_closed_up => k_is)
    (case c_closed_up => k_is)
    (case k_closed_up => k_is)
    (case a_is_fit_round => k_is)
    (case l_is_fit_round => k_is)
    (case c_is_fit_round => k_is)
    (case k_is_fit_round => k_is)
    (case a_check_round => k_is)
    (case l_check_round => k_is)
    (case c_check_round => k_is)
    (case k_check_round => k_is)
    (case a_check_rounds => k_is)
    (case l_check_rounds => k_is)
    (case c_check_rounds => k_is)
    (case k_check_rounds => k_is)
    (case a_rooted => k_is)
    (case l_rooted => k_is)
    (case c_rooted => k_is)
    (case k_rooted => k_is)
    (case a_letter_on => k_is)
    (case l_letter_on => k_is)
    (case c_letter_on => k_is)
    (case k_letter_on => k_is)
    (case a_shared => k_is)
    (case l_shared => k_is)
    (case c_shared => k_is)
    (case k_shared => k_is)
    (case a_from_left => k_is)
    (case l_from_left => k_is)
    (case c_from_left => k_is)
    (case k_from_left => k_is)
    (case a_to_right => k_is)
    (case l_to_right => k_is)
    (case c_to_right => k_is)
    (case k_to_right => k_is)
    (case a_common_stretch => k_is)
    (case l_common_stretch => k_is)
    (case c_common_stretch => k_is)
    (case k_common_stretch => k_is)
    (case a_linked_along => k_is)
    (case l_linked_along => k_is)
    (case c_linked_along => k_is)
    (case k_linked_along => k_is)
    (case a_linked_across => k_is)
    (case l_linked_across => k_is)
    (case c_linked_across => k_is)
    (case k_linked_across => k_is)
    (case a_pairs_of => k_is)
    (case l_pairs_of => k_is)
    (case c_pairs_of => k_is)
    (case k_pairs_of => k_is)
    (case a_linked_pairs => k_is)
    (case l_linked_pairs => k_is)
    (case c_linked_pairs => k_is)
    (case k_linked_pairs => k_is)
    (case a_taken_otherwise => k_is)
    (case l_taken_otherwise => k_is)
    (case c_taken_otherwise => k_is)
    (case k_taken_otherwise => k_is)
    (case a_u_own_pairs => k_is)
    (case l_u_own_pairs => k_is)
    (case c_u_own_pairs => k_is)
    (case k_u_own_pairs => k_is)
    (case a_own_pairs => k_is)
    (case l_own_pairs => k_is)
    (case c_own_pairs => k_is)
    (case k_own_pairs => k_is)
    (case a_own_number => k_is)
    (case l_own_number => k_is)
    (case c_own_number => k_is)
    (case k_own_number => k_is)
    (case a_crossings => k_is)
    (case l_crossings => k_is)
    (case c_crossings => k_is)
    (case k_crossings => k_is)
    (case a_own_crossings => k_is)
    (case l_own_crossings => k_is)
    (case c_own_crossings => k_is)
    (case k_own_crossings => k_is)
    (case a_fewest => k_is)
    (case l_fewest => k_is)
    (case c_fewest => k_is)
    (case k_fewest => k_is)
    (case a_l_begun => k_is)
    (case l_l_begun => k_is)
    (case c_l_begun => k_is)
    (case k_l_begun => k_is)
    (case a_l_mixed => k_is)
    (case l_l_mixed => k_is)
    (case c_l_mixed => k_is)
    (case k_l_mixed => k_is)
    (case a_l_take => k_is)
    (case l_l_take => k_is)
    (case c_l_take => k_is)
    (case k_l_take => k_is)
    (case a_l_pick => k_is)
    (case l_l_pick => k_is)
    (case c_l_pick => k_is)
    (case k_l_pick => k_is)
    (case a_l_shuffled => k_is)
    (case l_l_shuffled => k_is)
    (case c_l_shuffled => k_is)
    (case k_l_shuffled => k_is)
    (case a_l_row => k_is)
    (case l_l_row => k_is)
    (case c_l_row => k_is)
    (case k_l_row => k_is)
    (case a_l_undone => k_is)
    (case l_l_undone => k_is)
    (case c_l_undone => k_is)
    (case k_l_undone => k_is)
    (case a_l_least => k_is)
    (case l_l_least => k_is)
    (case c_l_least => k_is)
    (case k_l_least => k_is)
    (case a_l_drawn => k_is)
    (case l_l_drawn => k_is)
    (case c_l_drawn => k_is)
    (case k_l_drawn => k_is)
    (case a_l_any_loop => k_is)
    (case l_l_any_loop => k_is)
    (case c_l_any_loop => k_is)
    (case k_l_any_loop => k_is)
    (case a_l_mended => k_is)
    (case l_l_mended => k_is)
    (case c_l_mended => k_is)
    (case k_l_mended => k_is)
    (case a_l_far => k_is)
    (case l_l_far => k_is)
    (case c_l_far => k_is)
    (case k_l_far => k_is)
    (case a_l_ways => k_is)
    (case l_l_ways => k_is)
    (case c_l_ways => k_is)
    (case k_l_ways => k_is)
    (case a_l_by_turns => k_is)
    (case l_l_by_turns => k_is)
    (case c_l_by_turns => k_is)
    (case k_l_by_turns => k_is)
    (case a_l_meets => k_is)
    (case l_l_meets => k_is)
    (case c_l_meets => k_is)
    (case k_l_meets => k_is)
    (case a_l_crossings => k_is)
    (case l_l_crossings => k_is)
    (case c_l_crossings => k_is)
    (case k_l_crossings => k_is)
    (case a_l_own => k_is)
    (case l_l_own => k_is)
    (case c_l_own => k_is)
    (case k_l_own => k_is)
    (case a_l_root => k_is)
    (case l_l_root => k_is)
    (case c_l_root => k_is)
    (case k_l_root => k_is)
    (case a_l_times => k_is)
    (case l_l_times => k_is)
    (case c_l_times => k_is)
    (case k_l_times => k_is)
    (case a_l_two_right => k_is)
    (case l_l_two_right => k_is)
    (case c_l_two_right => k_is)
    (case k_l_two_right => k_is)
    (case a_l_one_right => k_is)
    (case l_l_one_right => k_is)
    (case c_l_one_right => k_is)
    (case k_l_one_right => k_is)
    (case a_law => k_is)
    (case l_law => k_is)
    (case c_law => k_is)
    (case k_law => k_is)
    (case zabs => k_is)
    (case zall => k_is)
    (case zdict => k_is)
    (case zenumerate => k_is)
    (case zint => k_is)
    (case zisinstance => k_is)
    (case zlen => k_is)
    (case zlist => k_is)
    (case zmax => k_is)
    (case zmin => k_is)
    (case zrange => k_is)
    (case zrepr => k_is)
    (case zset => k_is)
    (case zsorted => k_is)
    (case zsum => k_is)
    (case ztuple => k_is)
    (case ztype => k_is)
    (case c_MOST_IN_ROUND => k_is)
    (case c_MOST_ROUNDS => k_is)
    (case c_MOST_TOGETHER => k_is)
    (case kSS => kit_is)
    (case kST => kit_is)
    (case kSN => kit_is)
