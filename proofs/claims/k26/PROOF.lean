import PyProof.Rows.All
import Wide.All
import OpenK.AllK
import Wide.FinOn
import HandS.ForMost
import HandS.ForExc
import HandS.More
import HandS.TupAny
import HandS.Conv
import HandS.Style
import HandS.Strs
import HandS.SortInts
import HandS.Sort
import HandS.DeepEq
import HandS.RaiseMore
import HandS.Lambda
import HandS.EndTab
import HandS.IsInst
import HandS.ExcIs
import HandS.ExcField
import HandS.ExcInit
import HandS.ExcValue
import HandS.CallLocal
import HandS.CallSlots
import HandS.Nested
import PyProof.ReprRoads
import PyProof.ReprLen
import KE.DataMinMax
import KE.SortData
import PyProof.SumAny
import KE.GoesMore
import HandS.Iter
import HandS.Walk
import KE.KTupSum
import HandS.DictTup
import HandS.DictSubView
import KE.KDictSum
import HandS.DictComp
import KE.KDictPairs
import PyProof.CallFns
import HandS.TupLen
import PyProof.Rows.TupDisplay
import PySem.Challenge.RW_tautrounds_k26_sums_judged_and_added
import PyProof.AutoSeq1
import HandS.TupMul
import HandS.Deep
import KE.KeyNested
import HandS.ListItems
import KE.KDictItemsList
import KE.KDictKeyed
import PyProof.FitsInt
import HandS.EndBits
import KE.KNest
import KE.KNestM
import KE.RegKIsAll
set_option Elab.async false
set_option linter.all false
set_option maxRecDepth 100000
set_option maxHeartbeats 4000000
namespace SrtO
open PySem PyProof.Rows Srt
section
variable {prog : Program} {w : World} {A : Around} {E : Value → Shared → Prop} {s : Shared}
theorem tt_collect_tup {l : Addr} {vs : List Value} {Q : List Value → Shared → Prop} (hl : IsTup s.heap l vs.toArray)
    (h : Q vs { s with heap := (s.heap.push (seqObj "list" #[] 0)).update s.heap.objs.size (Obj.mapSeq (· ++ vs.toArray)) }) (hsz : vs.length ≤ sizeLine) :
    wpAny (model prog w) A (collect (.ref l)) Q E s := by
  obtain ⟨o, ho, hc, n, hd⟩ := id hl
  unfold collect
  refine wpAny_bind (wpAny_runValue (codeAny_builtin entry_proto_collect' ?_))
  show wpAny _ _ (do again (.builtin "list.__iadd__" ⟨[← newList [], .ref l], []⟩)) _ _ s
  refine wpAny_bind (wpAny_newList (wpAny_pure ⟨Code.quiet_builtin _ (by decide +kernel), codeAny_builtin entry_list_iadd' ?_⟩))
  show wpAny _ _ (Builtin.List.listExtendWith (.ref s.heap.objs.size) (.ref l) (.ref s.heap.objs.size)) _ _ { s with heap := s.heap.push (seqObj "list" #[] 0) }
  unfold Builtin.List.listExtendWith
  have ho' : (s.heap.push (seqObj "list" #[] 0)).get? l = some o := Heap.get?_push_of_some _ ho
  refine wpAny_bind (wpAny_typeOf (T := "tuple") ⟨o, ho', hc⟩ ?_)
  have ht : (Value.type "tuple" == Value.type "tuple") = true := by rfl
  rw [if_pos (by rw [ht]; simp)]
  refine wpAny_bind (listItems_at ho' hd ?_)
  refine wpAny_bind (listItems_at (xs := #[]) (n := 0) (Heap.get?_push_size _ rfl) rfl ?_)
  rw [if_neg (by simp)]
  refine wpAny_bind (listUpdate_at (xs := #[]) (n := 0) (Heap.get?_push_size _ rfl) rfl ?_ (Nat.zero_le _) (by show (#[] ++ vs.toArray).size ≤ sizeLine + 1; simp only [Array.size_append, List.size_toArray, List.length_nil]; omega))
  refine wpAny_pure ?_
  show wpAny (model prog w) A (do
      let o ← load s.heap.objs.size
      match o.data with
      | .seq xs _ => pure xs.toList
      | _ => unsupported "internal:collect") Q E { s with heap := (s.heap.push (seqObj "list" #[] 0)).update s.heap.objs.size (Obj.mapSeq (· ++ vs.toArray)) }
  refine wpAny_bind (wpAny_load (get?_update_seq (Heap.get?_push_size _ rfl) _) ?_)
  show wpAny _ _ (pure ((#[] : Array Value) ++ vs.toArray).toList) Q E _
  rw [show ((#[] : Array Value) ++ vs.toArray).toList = vs by simp]
  exact wpAny_pure h
theorem tt_sorted_tup {l : Addr} {vs : List Value} {ltv : Value → Value → Bool} {Q : Value → Shared → Prop} (O : Swo ltv) (hl : IsTup s.heap l vs.toArray) (hz : vs.length ≤ sizeLine)
    (hS : 2 ≤ vs.length → ∀ (h₁ : Heap) (a : Addr), h₁.get? a = some (seqObj "list" vs.toArray 0) → (∀ b o, s.heap.get? b = some o → b ≠ a ∧ h₁.get? b = some o) → SortableO prog w A.in1.in1 { s with heap := h₁ } a vs ltv)
    (h : ∀ out : List Value, Srtd ltv out → Stb ltv out vs → Q (.ref (s.heap.objs.size + 1)) { s with heap := sortedAll s.heap vs out.toArray }) :
    wpAny (model prog w) A (call (.builtin "sorted") [.ref l]) Q E s := by
  refine Calls.call_function_entry kind_sorted plain_sorted entry_sorted (args_sorted1 _) ?_
  unfold Builtin.«sorted»
  refine wpAny_bind (m := checkCount "sorted" 1 1 _) (wpAny_pure ?_)
  refine wpAny_bind (tt_collect_tup hl ?_ hz)
  refine wpAny_bind (wpAny_newList ?_ hz)
  have hsz : ((s.heap.push (seqObj "list" #[] 0)).update s.heap.objs.size (Obj.mapSeq (· ++ vs.toArray))).objs.size = s.heap.objs.size + 1 := by
    rw [Heap.size_update, size_push']
  have hoL : (((s.heap.push (seqObj "list" #[] 0)).update s.heap.objs.size (Obj.mapSeq (· ++ vs.toArray))).push (seqObj "list" vs.toArray 0)).get? (s.heap.objs.size + 1) = some (seqObj "list" vs.toArray 0) := by
    rw [← hsz]; exact Heap.get?_push_size _ rfl
  have keep : ∀ b o, s.heap.get? b = some o → b ≠ s.heap.objs.size + 1 ∧ (((s.heap.push (seqObj "list" #[] 0)).update s.heap.objs.size (Obj.mapSeq (· ++ vs.toArray))).push (seqObj "list" vs.toArray 0)).get? b = some o := fun b o q => by
    have hlt : b < s.heap.objs.size := Heap.lt_size q
    refine ⟨Nat.ne_of_lt (Nat.lt_succ_of_lt hlt), Heap.get?_push_of_some _ ?_⟩
    rw [Heap.get?_update_ne _ _ _ _ (Nat.ne_of_lt hlt)]
    exact Heap.get?_push_of_some _ q
  show wpAny _ _ _ _ _ { s with heap := ((s.heap.push (seqObj "list" #[] 0)).update s.heap.objs.size (Obj.mapSeq (· ++ vs.toArray))).push (seqObj "list" vs.toArray 0) }
  rw [hsz]
  refine wpAny_bind (wpAny_holding (wpAny_call_entry slot_list_sort ⟨_, hoL, rfl⟩ entry_list_sort (list_sort_ord O hoL hz (fun h2 => hS h2 _ _ hoL keep) fun out hs hb => ⟨_, rfl, ?_⟩) (args_list_sort _)))
  exact wpAny_pure ⟨_, rfl, h out hs hb⟩
end
end SrtO
namespace L2
open PySem PySem.Spec PyProof.Rows
section
variable {X : Cx}
def rSortedIT (K : PySem.W.Frag) : List V → Hp → VK → Prop := fun vs H Q => ∃ (a : Addr) (ns : List Int), vs = [V.ref a] ∧ SqT K H a (ns.map V.int) ∧
  ∀ (ns' : List Int) (p : Addr), ns'.Perm ns → ns'.Pairwise (· ≤ ·) → H p = none → Q (.ref p) (upd H p (.lst (ns'.map V.int)))
theorem cr_sortedIT : CallR X (.builtin "sorted") (rSortedIT X.K) := by
  intro pins s σ H vs us Q I r h
  obtain ⟨a, ns, rfl, hs, q⟩ := h
  obtain ⟨its, rv, hl, hz⟩ := I.tuple hs
  rw [Vals.ref1 r]
  have hi := rv.ints
  refine SrtO.tt_sorted_tup SrtO.swo_int hl (by rw [← rv.length]; exact hz) (fun h2 h₁ a' _ _ => SrtO.ints_sortable hi h2) fun out h1 h2 => ?_
  obtain ⟨k1, k2, k3⟩ := SrtO.ints_out hi h1 h2
  obtain ⟨ep, he'⟩ := PyProof.Rows.sortedAll_at s.heap its out.toArray
  have hlen : ((out.map SrtO.iv).map V.int).length ≤ sizeLine := by
    rw [List.length_map, k2.length_eq]
    rw [List.length_map] at hz
    exact hz
  exact ⟨.ref _, upd H (s.heap.objs.size + 1) (.lst ((out.map SrtO.iv).map V.int)), I.laid (t' := s.toks) (fun _ _ => PyProof.Rows.sortedAll_old) (Nat.le_succ _) ⟨hlen, out, ep, vals_of_ints k1, he'⟩, rfl, q _ _ k2 k3 (I.hok.fresh (Nat.le_succ _))⟩
def rSortedS2 (K : PySem.W.Frag) : List V → Hp → VK → Prop := fun vs H Q => rSortedI K vs H Q ∨ rSortedIT K vs H Q
theorem cr_sortedS2 : CallR X (.builtin "sorted") (rSortedS2 X.K) := by
  intro pins s σ H vs us Q I r h
  rcases h with h | h
  · exact cr_sortedI pins s σ H vs us Q I r h
  · exact cr_sortedIT pins s σ H vs us Q I r h
theorem mt_tup_indexI : MtR X "tuple.index" (fun x xs H Q => ∃ p, ∃ ys : List Int, ∃ z j, x = .ref p ∧ xs = [.int z] ∧ SqT X.K H p (ys.map V.int) ∧ ys[j]? = some z ∧ (∀ m, m < j → ys[m]? ≠ some z) ∧ Q (.int (j : Nat)) H) := by
  intro pins s σ H x xs v us Q I rx rs h
  obtain ⟨p, ys, z, j, rfl, rfl, hq, hy, hno, q⟩ := h
  cases rx
  obtain ⟨u, rfl, t, rfl⟩ := vals1 rs
  obtain ⟨its, r, pl, hz⟩ := I.tuple hq
  obtain ⟨⟨cls, dd, dt, sl⟩, ho, hc, n, hd⟩ := pl
  simp only at hc hd
  subst hc
  subst hd
  have hl : its.toArray.size = ys.length := by rw [List.size_toArray, ← r.length, List.length_map]
  have hj : j < its.toArray.size := by rw [hl]; exact (List.getElem?_eq_some_iff.mp hy).1
  have at' : ∀ (m : Nat) (hm : m < its.toArray.size), ∃ y t', ys[m]? = some y ∧ its.toArray[m] = Value.int y t' := fun m hm => by
    have hm' : m < ys.length := by rw [← hl]; exact hm
    obtain ⟨w, hw, t', hw'⟩ := r.get (i := m) (x := .int ys[m]) (by simp [hm'])
    refine ⟨ys[m], t', List.getElem?_eq_getElem hm', ?_⟩
    have e := (List.getElem?_eq_some_iff.mp hw).2
    rw [← hw', ← e]
    simp
  have flat : ∀ ys : List Int, (ys.map V.int).all flatV = true := fun ys => by
    induction ys with
    | nil => rfl
    | cons a b ih => rw [List.map_cons, List.all_cons, ih]; rfl
  refine call_meets PySem.F.slot_tuple_index ⟨_, ho, rfl⟩ PySem.F.entry_tuple_index (PySem.F.args_tuple_index_2 _ _) (TI.tuple_indexAt p its.toArray n dd sl (.int z t) (eqU (.int z)) j hj ?_ ?_)
    ⟨ho, fun w hw => mem_eqAt (x := .int z) ⟨t, rfl⟩ rfl r (flat ys) w (by simpa using hw), ⟨.int (j : Nat), H, I.tok _, ⟨_, rfl⟩, q⟩⟩
  · obtain ⟨y, t', h1, h2⟩ := at' j hj
    rw [hy] at h1
    cases h1
    rw [h2]
    show (z == z) = true
    exact beq_self_eq_true z
  · intro m hm hmj
    obtain ⟨y, t', h1, h2⟩ := at' m hm
    rw [h2]
    show (y == z) = false
    exact beq_eq_false_iff_ne.mpr fun e => hno m hmj (by rw [h1, e])
end
end L2
set_option maxRecDepth 100000
set_option maxHeartbeats 4000000
namespace HT
open PySem PySem.Spec PyProof.Rows
section
variable {prog : Program} {w : World} {A : Around} {E : Value → Shared → Prop} {s : Shared}
theorem tt_adjust_rev (n : Nat) : Builtin.Slice.sliceAdjust none none (-1) (n : Int) = ((n : Int) - 1, -1) := by
  unfold Builtin.Slice.sliceAdjust
  simp only [show (-1 : Int) < 0 by decide, if_true]
theorem tt_places_rev (n : Nat) : Builtin.Slice.slicePlaces ((n : Int) - 1) (-1) (-1) = n := by
  unfold Builtin.Slice.slicePlaces
  simp only [show ¬ ((-1 : Int) > 0) by decide, if_false, Int.neg_neg, Int.ediv_one]
  split <;> omega
theorem tt_applied_rev {sl : Addr} {vs : Value} {n : Nat} {Q : Int × Int × Nat → Shared → Prop} (hs : s.heap.IsSliceOf sl .none .none vs) (ps : IsPart vs (some (-1)))
    (h : Q ((n : Int) - 1, -1, n) s) : wpAny (model prog w) A (Builtin.Slice.sliceApplied (.ref sl) (pure (n : Int))) Q E s := by
  obtain ⟨os, hos, hcs, hds⟩ := id hs
  unfold Builtin.Slice.sliceApplied Builtin.Slice.sliceFields
  refine wpAny_bind (wpAny_bind (wpAny_field hos hds (x := .none) rfl (wpAny_bind (wpAny_field hos hds (x := .none) rfl (wpAny_bind (wpAny_field hos hds (x := vs) rfl (wpAny_pure ?_)))))))
  refine wpAny_bind (slicePart_ ps ?_)
  show wpAny _ _ (if ((-1 : Int) == 0) = true then _ else _) _ _ s
  rw [if_neg (by decide)]
  refine wpAny_bind (slicePart_ .none (wpAny_bind (slicePart_ .none (wpAny_bind (wpAny_pure ?_)))))
  show wpAny _ _ (match Builtin.Slice.sliceAdjust none none (-1) (n : Int) with | (lo, hi) => pure (lo, (-1 : Int), Builtin.Slice.slicePlaces lo hi (-1))) _ _ s
  rw [tt_adjust_rev n]
  show wpAny _ _ (pure ((n : Int) - 1, (-1 : Int), Builtin.Slice.slicePlaces ((n : Int) - 1) (-1) (-1))) _ _ s
  rw [tt_places_rev n]
  exact wpAny_pure h
theorem tt_fm {α β : Type} {f g : α → Option β} : ∀ {l : List α}, (∀ x ∈ l, f x = g x) → l.filterMap f = l.filterMap g
  | [], _ => rfl
  | a :: l, h => by
    rw [List.filterMap_cons, List.filterMap_cons, h a List.mem_cons_self, tt_fm fun x hx => h x (List.mem_cons_of_mem _ hx)]
theorem tt_pick_rev (xs : Array Value) : ((List.range xs.size).filterMap fun (m : Nat) => xs[(((xs.size : Int) - 1) + (m : Int) * (-1)).toNat]?).toArray = xs.toList.reverse.toArray := by
  have e : (List.range xs.size).filterMap (fun (m : Nat) => xs[(((xs.size : Int) - 1) + (m : Int) * (-1)).toNat]?) = xs.toList.reverse := by
    have h1 : ∀ m ∈ List.range xs.size, xs[(((xs.size : Int) - 1) + (m : Int) * (-1)).toNat]? = some (xs.toList.reverse.getD m .none) := fun m hm => by
      have hm := List.mem_range.mp hm
      have e1 : (((xs.size : Int) - 1) + (m : Int) * (-1)).toNat = xs.size - 1 - m := by omega
      rw [e1, List.getD_eq_getElem?_getD, List.getElem?_reverse (by simpa using hm)]
      have e2 : xs.size - 1 - m < xs.size := by omega
      simp [e2]
    have h2 : (List.range xs.size).filterMap (fun (m : Nat) => xs[(((xs.size : Int) - 1) + (m : Int) * (-1)).toNat]?) = (List.range xs.size).map fun m => xs.toList.reverse.getD m .none := by
      rw [← List.filterMap_eq_map]
      exact tt_fm h1
    rw [h2]
    refine List.ext_getElem? fun i => ?_
    rw [List.getElem?_map]
    by_cases hi : i < xs.size
    · rw [List.getElem?_range hi]
      have : i < xs.toList.reverse.length := by simpa using hi
      rw [List.getElem?_eq_getElem this]
      simp [List.getD_eq_getElem?_getD, List.getElem?_eq_getElem this]
    · rw [List.getElem?_eq_none (by simpa using hi), List.getElem?_eq_none (by simpa using hi)]
      rfl
  rw [e]
theorem tt_getItem_tuple_rev {t sl : Addr} {items : Array Value} {vs : Value} {Q : Value → Shared → Prop} (ht : IsTup s.heap t items) (hs : s.heap.IsSliceOf sl .none .none vs) (ps : IsPart vs (some (-1)))
    (h : Q (.ref s.heap.objs.size) { s with heap := s.heap.push { cls := .type "tuple", data := .seq items.toList.reverse.toArray } })
    (hsz : items.size ≤ sizeLine) : wpAny (model prog w) A (getItem (.ref t) (.ref sl)) Q E s := by
  have htake : sizeOk (.seq items.toList.reverse.toArray) := by
    show items.toList.reverse.toArray.size ≤ sizeLine
    rw [List.size_toArray, List.length_reverse, Array.length_toList]
    exact hsz
  obtain ⟨os, hos, hcs, hds⟩ := id hs
  have hTs : s.TypeIs (.ref sl) "slice" := ⟨os, hos, hcs⟩
  unfold getItem
  try with_reducible refine wpAny_holding ?_
  first | refine wpAny_bind (wpAny_pure ?_) | skip
  refine wpAny_bind (wpAny_sequenceKey ht.typeIs (by decide) ?_)
  refine wpAny_bind (wpAny_callSpecial?_slot (name := Str.ofString "__getitem__") ht.typeIs PyProof.Rows.slot_tuple_getitem
    (wpAny_call_entry PyProof.Rows.slot_tuple_getitem ht.typeIs entry_tuple_getitem ?_ (args_tuple_getitem _ _)))
  show wpAny _ _ (Builtin.Tuple.tupleItemsOf (.ref t) >>= _) _ _ s
  refine wpAny_bind (tupleItemsOf_ ht ?_)
  refine wpAny_bind (wpAny_typeOf hTs ?_)
  rw [if_pos (by decide)]
  refine wpAny_bind (tt_applied_rev hs ps ?_)
  have hno : ¬ (((items.size : Int) - 1 == 0 && (-1 : Int) == 1 && items.size == items.size) = true) := by
    intro q
    rw [Bool.and_eq_true, Bool.and_eq_true] at q
    exact absurd q.1.2 (by decide)
  show wpAny _ _ (if ((items.size : Int) - 1 == 0 && (-1 : Int) == 1 && items.size == items.size) = true then _ else _) _ _ s
  rw [if_neg hno, tt_pick_rev]
  first
    | exact wpAny_bind (m := Builtin.Tuple.tupleExact _) (wpAny_newObj_type (wpAny_pure ⟨_, rfl, wpAny_pure h⟩) htake)
    | exact wpAny_bind (m := Builtin.Tuple.tupleExact _) (wpAny_newObj_type (wpAny_bind (wpAny_pure (wpAny_pure ⟨_, rfl, wpAny_pure h⟩))) htake)
    | exact wpAny_bind (wpAny_bind (m := Builtin.Tuple.tupleExact _) (wpAny_newObj_type (wpAny_pure (wpAny_pure ⟨_, rfl, wpAny_pure h⟩)) htake))
    | exact wpAny_bind (wpAny_bind (m := Builtin.Tuple.tupleExact _) (wpAny_newObj_type (wpAny_pure ⟨_, rfl, wpAny_pure h⟩) htake))
end
end HT
namespace L2
open PySem PySem.Spec PyProof.Rows
section
variable {X : Cx}
def tRevT (K : PySem.W.Frag) (te : TE) : TE := fun σ H Q => te σ H fun x H1 => ∃ a xs, x = .ref a ∧ SqT K H1 a xs ∧ ∀ p, H1 p = none → Q (.ref p) (upd H1 p (.tup xs.reverse))
theorem pe_revT {e : Expr} {te : TE} {k : Nat} {p1 p2 p3 pos : Pos} (he : PE X e te) : PE X (.Subscript e (.Slice none none (some (.UnaryOp .USub (.Constant (.int 1) k p1) p2)) p3) pos) (tRevT X.K te) := by
  refine ⟨fun pins s σ H Q I h => ?_⟩
  refine Subscript_ (thn (he.run pins s σ H _ I h) fun v s1 ⟨x, H1, I1, r1, q1⟩ => ?_)
  obtain ⟨a, xs, ex, hx, q⟩ := q1
  subst ex
  cases r1
  have hst : PO X (some (.UnaryOp .USub (.Constant (.int 1) k p1) p2)) (tPart (tUn (rU fun i => .int (-i)) (tC (.int 1)))) := po_some (pe_un un_neg pe_int)
  refine wpAny_Slice (wpAny_pure ?_)
  refine wpAny_pure ?_
  refine thn (hst.run pins s1 σ H1 (fun o H4 => o = some (-1) ∧ H4 = H1) I1 ⟨1, rfl, -1, rfl, rfl, rfl⟩) fun vs s4 ⟨o, H4, I4, ps, eo, e4⟩ => ?_
  subst eo e4
  have I5 : Inv X pins σ H4 { s4 with heap := s4.heap.push { cls := .type "slice", data := .fields #[.none, .none, vs] } } := I4.kept (t' := s4.toks) fun b ob q => Heap.get?_push_of_some _ q
  obtain ⟨its, r, ht, hz⟩ := I5.tuple hx
  have hlen := r.length
  show wpAny (model X.prog X.w) X.A (subscriptTail e (.Slice none none (some (.UnaryOp .USub (.Constant (.int 1) k p1) p2)) p3) (.ref a) (.ref s4.heap.objs.size)) (EP X pins σ Q) X.xe { s4 with heap := s4.heap.push { cls := .type "slice", data := .fields #[.none, .none, vs] } }
  refine tail_any (ops := [.ref a, .ref s4.heap.objs.size]) ht.typeIs (PyProof.Rows.slot_tuple_getitem.lookup) ?_ (by with_unfolding_all rfl)
  refine HT.tt_getItem_tuple_rev ht (Heap.IsSliceOf.new _ .none .none vs) ps ?_ (by rw [List.size_toArray]; omega)
  refine ⟨.ref _, _, I5.laid (t' := s4.toks) (o := .tup xs.reverse) (fun b ob q => Heap.get?_push_of_some _ q) (Nat.le_refl _) ?_, rfl, q _ (I5.hok.fresh (Nat.le_refl _))⟩
  exact ⟨by rw [List.length_reverse]; exact hz, _, r.reverse, IsTup.new _ _⟩
end
section
variable {X : Cx} {K : PySem.W.Frag}
theorem ix_listK (h : X.K = K) : IxR X (rIxL K) := by subst h; exact ix_list
theorem ix_tupK (h : X.K = K) : IxR X (rIxT K) := by subst h; exact ix_tup
theorem call_len_seqK (h : X.K = K) : CallR X (.builtin "len") (fun xs H Q => ∃ p ys, xs = [.ref p] ∧ (SqL K H p ys ∨ SqT K H p ys) ∧ Q (.int ys.length) H) := by subst h; exact call_len_seq
theorem op_in_seqK (h : X.K = K) : OpR X (compareOp .In) (rIn K false) := by subst h; exact op_in_seq
theorem op_notIn_seqK (h : X.K = K) : OpR X (compareOp .NotIn) (rIn K true) := by subst h; exact op_notIn_seq
theorem op_eqDK (h : X.K = K) (hu : X.A.units + 64 < cLine) : OpR X (compareOp .Eq) (rEqD K) := by subst h; exact op_eqD hu
theorem op_neDK (h : X.K = K) (hu : X.A.units + 64 < cLine) : OpR X (compareOp .NotEq) (rNeD K) := by subst h; exact op_neD hu
theorem op_catAK (h : X.K = K) : OpR X (binaryOp .Add) (rCatA K) := by subst h; exact op_catA
theorem sl_listK (h : X.K = K) : SlR X (rSlL K) := by subst h; exact sl_list
theorem sl_tupAK (h : X.K = K) : SlR X (rSlA K) := by subst h; exact sl_tupA
theorem call_tuple_ofK (h : X.K = K) : CallR X (.type "tuple") (fun xs H Q => ∃ p ys, xs = [.ref p] ∧ ((SqL K H p ys ∧ ∀ l, H l = none → Q (.ref l) (upd H l (.tup ys))) ∨ (SqT K H p ys ∧ Q (.ref p) H))) := by subst h; exact call_tuple_of
theorem call_list_ofK (h : X.K = K) : CallR X (.type "list") (fun xs H Q => ∃ p ys, xs = [.ref p] ∧ (SqL K H p ys ∨ SqT K H p ys) ∧ ∀ l, H l = none → Q (.ref l) (upd H l (.lst ys))) := by subst h; exact call_list_of
theorem call_type1K (h : X.K = K) : CallR X (.type "type") (rTyp K) := by subst h; exact call_type1
theorem pe_fldK {e : Expr} {ta : TE} {f : Str} {pos : Pos} (h : X.K = K) (he : PE X e ta) (hb : attributeBase e f X.env (eval e X.env) = eval e X.env) : PE X (.Attribute e f pos) (tFld K ta f) := by subst h; exact pe_fld he hb
theorem mt_tup_indexIK (h : X.K = K) : MtR X "tuple.index" (fun x xs H Q => ∃ p, ∃ ys : List Int, ∃ z j, x = .ref p ∧ xs = [.int z] ∧ SqT K H p (ys.map V.int) ∧ ys[j]? = some z ∧ (∀ m, m < j → ys[m]? ≠ some z) ∧ Q (.int (j : Nat)) H) := by subst h; exact mt_tup_indexI
theorem pe_bmK {T name id : String} {r : V → List V → Hp → VK → Prop} {o e : Expr} {es : List Expr} {to : TE} {t : TA} {apos cpos : Pos} (hk : X.K = K) (pa : PlainAttrs T) (slot : Slot T name id) (hty : typeOf (.builtin id) = pure (.type "method_descriptor")) (hm : MtR X id r) (ho : PE X o to) (ha : PA X (e :: es) t)
    (hbase : attributeBase o name X.env (eval o X.env) = eval o X.env := by rfl)
    (hfew : ((backTo cpos (starEach (e :: es) X.env)).all (fun x => !x.1) && (backToKw cpos (keywordEach [] X.env)).all (fun x => x.1.isSome)
      && decide ((e :: es).length + ([] : List Keyword).length + (if ([] : List Keyword).isEmpty then 0 else 1) < 30)) = true := by rfl)
    (hline : (apos.endLine == cpos.line) = true := by rfl) (hpl : (backTo cpos (starEach es X.env)).any (·.1) = false := by rfl) (hs : starEach (e :: es) X.env = (false, eval e X.env) :: starEach es X.env := by rfl) :
    PE X (.Call (.Attribute o name apos) (e :: es) [] cpos) (tBM K T r to t) := by
  subst hk
  first
    | exact pe_bm pa slot hty hm ho ha hbase hfew hline hpl hs
    | exact pe_bm pa slot hty hm ho ha hbase hfew hline hs hpl
    | exact pe_bm pa slot hty hm ho ha hbase hfew hline
    | exact pe_bm pa slot hty hm ho ha
end
end L2
set_option maxRecDepth 100000
set_option maxHeartbeats 4000000
namespace PySem.W
open PySem PySem.Spec PySem.Calls PyProof.Rows
section
variable {prog : Program} {w : World} {A : Around} {E : Value → Shared → Prop} {s : Shared} {K : Frag} {x D : Addr} {ox : Obj}
theorem tt_findObj_data {C : Addr} {od : Option Obj} {name : Str} {a g : Value} (hc : (clsIn K C).isSome = true) (ha : findIn K (.ref C) name = some (some a)) (hg : specialIn K a "__get__" = some (some g)) (ht : takesIn K a = some true) : findObj K C od name = some (.bind g a) := by
  obtain ⟨cd, hc⟩ := Option.isSome_iff_exists.mp hc
  unfold findObj
  rw [hc, Option.bind_some, ha, Option.bind_some]
  simp [hg, ht]
theorem tt_kin_classE {od : Option Obj} {Q : Option Value → Shared → Prop} (hga : findIn K (.ref D) "__getattribute__" = some (some (.builtin "BaseException.__getattribute__"))) (hgt : findIn K (.ref D) "__getattr__" = some none) (hsub : subIn K (.ref D) (.type "BaseException") = some true)
    (hdct : hasDictIn K D = true) (ha : findIn K (.ref D) "__class__" = some (some (.builtin "object.__class__")))
    (hn : specialIn K (.builtin "object.__class__") "__get__" = some (some (.builtin "getset_descriptor.__get__"))) (htk : takesIn K (.builtin "object.__class__") = some true) (hm : mroIn K D (.type "object") = some true)
    (X : K.In s.heap) (I : InstAt s.heap x ox D od) (h : Q (some (.ref D)) { s with toks := s.toks + 1 }) : wpAny (model prog w) A (getAttr? (.ref x) "__class__") Q E s := by
  have hf : findObj K D od "__class__" = some (.bind (.builtin "getset_descriptor.__get__") (.builtin "object.__class__")) := tt_findObj_data (by obtain ⟨cd, hc, _⟩ := any_some hdct; rw [hc]; rfl) ha hn htk
  obtain ⟨hp, g, d, t, os⟩ := s
  have L0 := I.type (M := model prog w)
  have L1 := looks_findIn (M := model prog w) X hga
  have L2 := looks_findIn (M := model prog w) X hgt
  have L3 := looks_find (M := model prog w) X I hf
  have sub : Looks (model prog w) hp (isInstance (.ref x) (.type "BaseException")) true := L0.andThen (looks_subIn X hsub)
  have hx0 : (false && onTheHeap (Value.builtin "BaseException.__getattribute__")) = false := rfl
  have hx2 : (Value.builtin "BaseException.__getattribute__" == Value.builtin "object.__getattribute__") = false := by decide +kernel
  have hx1 : (onTheHeap (Value.ref D) && Value.builtin "BaseException.__getattribute__" == Value.builtin "object.__getattribute__") = false := by rw [hx2]; rfl
  unfold getAttr? getAttrBy? getAttrBy
  refine wpAny_bind (wpAny_mkText (wpAny_bind (wpAny_attempt (wpAny_holding (wpAny_bind (L0.at (wpAny_bind (L1.at ?_))))))))
  show wpAny _ _ (if (onTheHeap (Value.ref D) && Value.builtin "BaseException.__getattribute__" == Value.builtin "object.__getattribute__") = true then _ else _) _ _ _
  rw [hx1, if_neg Bool.false_ne_true]
  unfold getAttrByItsOwn hookBefore
  refine wpAny_bind ?_
  rw [if_pos (show onTheHeap (Value.ref D) = true from rfl)]
  refine L2.at ?_
  refine wpAny_bind (wpAny_attempt (wpAny_holding ?_))
  unfold callGetattribute
  rw [hx0, if_neg Bool.false_ne_true]
  unfold boundAndCalled
  rw [PySem.F.excAttr_ValueError.ga.bind (.ref x)]
  refine wpAny_bind (wpAny_pure ?_)
  show wpAny _ _ (call (.builtin "BaseException.__getattribute__") [.ref x, .str "__class__" t]) _ _ _
  refine wpAny_call (codeAny_call_builtin PySem.F.excAttr_ValueError.ga.plain PySem.F.entry_bexc_ga ?_)
  refine @check_slot (model prog w) _ _ ⟨hp, g, d, t + 1, os⟩ "BaseException.__getattribute__" "BaseException" "__getattribute__" (.ref x) [.str "__class__" t] [] _ (by decide +kernel) (by decide +kernel) sub (PySem.F.args_bexc_ga (.ref x) (.str "__class__" t)) ?_
  unfold Builtin.«object.__getattribute__»
  refine wpAny_bind (wpAny_of_eq (a := ((Value.ref x : Value), [Value.str "__class__" t])) (by first | rfl | (simp only [slotArgs]; rfl)) ?_)
  refine wpAny_bind (wpAny_pure (wpAny_bind (L0.at (wpAny_bind (L3.at ?_)))))
  show wpAny _ _ (holding [Value.builtin "object.__class__"] (call (.builtin "getset_descriptor.__get__") [.builtin "object.__class__", .ref x, .ref D]) >>= ret) _ _ _
  refine wpAny_bind (wpAny_holding (wpAny_call (class_get (s := ⟨hp, g, d, t + 1, os⟩) (ox := ox) (od := od) X I hm ?_)))
  refine wpAny_pure ?_
  show wpAny _ _ (handedOut (.ref D)) _ _ _
  rw [handedOut_of (v := .ref D) rfl]
  first
    | exact wpAny_pure (wpAny_pure h)
    | exact wpAny_pure h
    | exact wpAny_pure (wpAny_bind (wpAny_pure (wpAny_pure h)))
theorem tt_kitx_exc {od : Option Obj} (hga : findIn K (.ref D) "__getattribute__" = some (some (.builtin "BaseException.__getattribute__"))) (hgt : findIn K (.ref D) "__getattr__" = some none) (hsub : subIn K (.ref D) (.type "BaseException") = some true) (hdct : hasDictIn K D = true) (ha : findIn K (.ref D) "__class__" = some (some (.builtin "object.__class__")))
    (hn : specialIn K (.builtin "object.__class__") "__get__" = some (some (.builtin "getset_descriptor.__get__"))) (htk : takesIn K (.builtin "object.__class__") = some true) (hm : mroIn K D (.type "object") = some true) :
    KitX K (.ref x) (.ref D) (fun h => InstAt h x ox D od) where
  ty := fun _ _ _ I => I.type
  it := fun _ _ X _ => by
    obtain ⟨cdD, hcD, _⟩ := any_some hdct
    unfold clsIn at hcD
    split at hcD
    · rename_i c' d' cd' sl' ho
      intro A' Q' E' s' k q
      unfold isType loadHead
      exact wpAny_bind (wpAny_loadPart (k _ _ (X _ _ ho)) (wpAny_pure q))
    · cases hcD
  ne := fun h tp dd its n sl X htp => by
    obtain ⟨cdD, hcD, _⟩ := any_some hdct
    refine Bool.eq_false_iff.mpr fun q => ?_
    have e : D = tp := Value.ref.inj (beq_iff_eq.mp q)
    subst e
    unfold clsIn at hcD
    split at hcD
    · rename_i c' d' cd' sl' ho
      have z := (X _ _ ho).symm.trans htp
      cases z
    · cases hcD
  ca := fun X I k => tt_kin_classE hga hgt hsub hdct ha hn htk hm X I k
end
end PySem.W
namespace L2
open PySem PySem.Spec PyProof.Rows
def exh (cls : Value) (d : Option Addr) (a : Addr) : HO := .ext fun h => ∃ (oe : Obj) (vs : Array Value), h.get? a = some oe ∧ Zc cls d oe ∧ oe.data = .fields vs
theorem exh_ok {P : Program} {w : World} {H : Hp} {h : Heap} {a : Addr} {cls : Value} {d : Option Addr} {oe : Obj} {vs : Array Value} (e : h.get? a = some oe) (z : Zc cls d oe) (hd : oe.data = .fields vs) : ObjOk P w H h a (exh cls d a) :=
  ⟨⟨oe, vs, e, z, hd⟩, ⟨oe, e⟩, fun _ _ ⟨o, v, q, r⟩ k => ⟨o, v, k o q, r⟩⟩
theorem exh_at {P : Program} {w : World} {H : Hp} {h : Heap} {a : Addr} {cls : Value} {d : Option Addr} (hok : HOk P w H h) (e : H a = some (exh cls d a)) : ∃ (oe : Obj) (vs : Array Value), h.get? a = some oe ∧ Zc cls d oe ∧ oe.data = .fields vs := by
  have x : ObjOk P w H h a (.ext fun h => ∃ (oe : Obj) (vs : Array Value), h.get? a = some oe ∧ Zc cls d oe ∧ oe.data = .fields vs) := hok a _ e
  exact x.1
def XdOk (H : Hp) (d : Option Addr) : Prop := d = none ∨ ∃ (dd : Addr) (fs : List (Str × V)), d = some dd ∧ H dd = some (.xd fs)
section
variable {X : Cx} {pins : List (Addr × Obj)} {σ : St} {H : Hp} {s : Shared}
theorem exh_inst {a D : Addr} {d : Option Addr} (I : Inv X pins σ H s) (e : H a = some (exh (.ref D) d a)) (hd : XdOk H d) : ∃ (oe : Obj) (od : Option Obj), PySem.W.InstAt s.heap a oe D od := by
  obtain ⟨⟨oc, odc, oda, osl⟩, vs, h1, ⟨h2, h3⟩, h4⟩ := exh_at I.hok e
  dsimp only at h2 h3 h4
  subst h2 h3 h4
  rcases hd with rfl | ⟨dd, fs, rfl, ed⟩
  · exact ⟨_, none, ⟨h1, rfl, rfl, trivial⟩⟩
  · have hx : ObjOk X.prog X.w H s.heap dd (.xd fs) := I.hok dd _ ed
    obtain ⟨mA, ⟨o, _, _, ho, _⟩, _⟩ := hx
    exact ⟨_, some o, ⟨h1, rfl, rfl, ho⟩⟩
def rIsH (K : PySem.W.Frag) : List V → Hp → VK → Prop := fun xs H Q => ∃ (a D : Addr) (d : Option Addr) (c : V) (cv : Value) (b : Bool), xs = [.ref a, c] ∧ H a = some (exh (.ref D) d a) ∧ XdOk H d ∧ ExcC K D ∧ ClsV c cv ∧ PySem.W.kitOne K (.ref D) cv = some b ∧ Q (.bl b) H
theorem call_isH : CallR X (.builtin "isinstance") (rIsH X.K) := by
  intro pins s σ H xs us Q I r h
  obtain ⟨a, D, d, c, cv, b, rfl, ea, hd, C, hc, e, q⟩ := h
  cases r with
  | cons rx rr =>
    cases rr with
    | cons rt rr =>
      cases rr
      cases rx
      have ec := hc.eq rt
      subst ec
      obtain ⟨oe, od, J⟩ := exh_inst I ea hd
      exact PySem.W.kia_one (PySem.W.tt_kitx_exc C.hg C.hk C.hs C.hd C.ha C.hn C.ht C.hm) I.kIn J e (fun z => nomatch z) fun tk => ⟨.bl b, H, I.kept (t' := tk) fun _ _ z => z, rfl, q⟩
def rIsA (K : PySem.W.Frag) : List V → Hp → VK → Prop := fun xs H Q => rIsH K xs H Q ∨ rIsi K xs H Q
theorem call_isA : CallR X (.builtin "isinstance") (rIsA X.K) := by
  intro pins s σ H xs us Q I r h
  rcases h with h | h
  · exact call_isH pins s σ H xs us Q I r h
  · exact call_isi pins s σ H xs us Q I r h
def tXfH (K : PySem.W.Frag) (n : Str) (te : TE) : TE := fun σ H Q => te σ H fun x H1 => ∃ (a C dd : Addr) (fs : List (Str × V)) (v : V), x = .ref a ∧ H1 a = some (exh (.ref C) (some dd) a) ∧ H1 dd = some (.xd fs) ∧ XfC K C ∧ PySem.W.findIn K (.ref C) n = some none ∧ fs.lookup n = some v ∧ Q v H1
theorem pe_xfH {e : Expr} {te : TE} {pos : Pos} {n : Str} (he : PE X e te) (hb : attributeBase e n X.env (eval e X.env) = eval e X.env := by rfl) :
    PE X (.Attribute e n pos) (tXfH X.K n te) := by
  refine ⟨fun pins s σ H Q I h => ?_⟩
  refine attr_of hb (thn (he.run pins s σ H _ I h) fun u s1 hh => ?_)
  obtain ⟨x, H1, I1, rx, a, C, dd, fs, v, ex, ea, ed, T, hno, l, q⟩ := hh
  subst ex
  obtain rfl : u = Value.ref a := rx
  obtain ⟨oe, vs, ha, hz, hd⟩ := exh_at I1.hok ea
  have hx : ObjOk X.prog X.w H1 s1.heap dd (.xd fs) := I1.hok dd _ ed
  obtain ⟨mA, hns, hr⟩ := hx
  obtain ⟨od, ho, hl⟩ := lookIn_ns hns
  obtain ⟨u, hu, ru⟩ := RelO.some_of (v := v) (o := mA n) (by rw [← l]; exact hr n)
  have J : PySem.W.InstAt s1.heap a oe C (some od) := ⟨ha, hz.1, by unfold PySem.W.notCls; rw [hd] <;> rfl, by rw [hz.2]; exact ho⟩
  exact HandSPX.exc_get I1.kIn J T.ga T.gg T.exC (PySem.W.findObj_own T.hdC hno rfl (by rw [hl, hu])) (handed_of ru) ⟨v, H1, I1.tok _, ru, q⟩
theorem Inv.adopt {a : Addr} {o : Obj} {φ : Heap → Prop} (I : Inv X pins σ H s) (he : s.heap.get? a = some o) (na : H a = none) (n0 : X.s_0.heap.get? a = none) (nL : a ≠ X.env.locals) (np : ∀ p ∈ X.pn ++ pins, p.1 ≠ a)
    (nc : ∀ x c, X.env.cells.lookup x = some c → c ≠ a) (ok : ObjOk X.prog X.w (upd H a (.ext φ)) s.heap a (.ext φ)) : Inv X pins σ (upd H a (.ext φ)) s := by
  refine ⟨I.ok, I.os, I.bare, ⟨I.base.keep, I.base.slot, fun b u q n hx => ?_, I.base.there, fun b xs q => ?_, fun b u v q => ?_, fun b ps q => ?_⟩, I.loc, I.cell, ?_, fun x c e => ?_, fun p hp => ?_, fun b u e => ?_, I.len⟩
  · rw [upd_ne (fun z => by rw [z, n0] at q; cases q)]
    exact I.base.free b u q n hx
  · have z := I.base.tups b xs q
    rw [upd_ne (ne_of_none z na)]
    exact z
  · have z := I.base.frzs b u v q
    rw [upd_ne (ne_of_none z na)]
    exact z
  · obtain ⟨m, z⟩ := I.base.tbls b ps q
    exact ⟨m, by rw [upd_ne (ne_of_none z na)]; exact z⟩
  · rw [upd_ne nL.symm]
    exact I.free
  · rw [upd_ne (nc x c e)]
    exact I.freeC x c e
  · obtain ⟨e1, e2, e3⟩ := I.pin p hp
    exact ⟨e1, by rw [upd_ne (np p hp)]; exact e2, e3⟩
  · by_cases hb : b = a
    · subst hb
      rw [upd_same] at e
      cases e
      exact ok
    · rw [upd_ne hb] at e
      exact (I.hok b u e).stay (fun c v _ q => q) (fun c q => by rw [upd_ne (ne_of_none q na)]; exact q) fun c xs q => by rw [upd_ne (ne_of_none q na)]; exact q
end
end L2
set_option maxRecDepth 100000
set_option maxHeartbeats 4000000
namespace L2
open PySem PySem.Spec PyProof.Rows
def wKeep (K : PySem.W.Frag) (c : Value) (i : Nat) (ts : Addr → Value → Option Addr → TS) (Wout : WX) (D : Ends) : WX := fun cls d σ H =>
  ∃ b, PySem.W.exmOne K cls c = some b ∧ (b = true → ∀ a, H a = none → ts a cls d { nx := fun σ' H' => H' a = none ∧ D.nx (σ'.set i none) (upd H' a (exh cls d a)), rt := fun _ _ => False, bk := fun _ _ => False, ct := fun _ _ => False } (σ.set i (some (.ref a))) H) ∧
    (b = false → Wout cls d σ H)
section
variable {X : Cx} {x n : Str} {c : Value} {i : Nat} {body suite : List Stmt} {b₀ : Stmt} {np pos pos' : Pos} {tb : WX → TS} {ts : Addr → Value → Option Addr → TS} {Wout : WX}
theorem ps_try_keep (hs : X.stack = X.env :: X.outer) (hf : X.env.frame = some X.env.locals) (hex : X.ex = []) (hN : X.N.Nodup) (hi : X.N[i]? = some n) (hln : X.env.kindOf n = some .local) (hc : Names X x c) (tk : Takes X Wout)
    (hb : ∀ (W : WX) (pn : List (Addr × Obj)) (xe : Value → Shared → Prop), Takes (X.tr pn xe) W → PassesOwn (model X.prog X.w) X.A X.env xe → PSs (X.tr pn xe) body (tb W))
    (hsu : ∀ (a : Addr) (oe : Obj) (cls : Value) (d : Option Addr) (pn : List (Addr × Obj)), Zc cls d oe → (∃ vs, oe.data = .fields vs) → PSs (X.suite a ((a, oe) :: pn)) (b₀ :: suite) (ts a cls d)) :
    PS X (.Try body [.ExceptHandler (some (.Name x np)) (some n) (b₀ :: suite) pos'] [] [] pos) (fun D σ H => tb (wKeep X.K c i ts Wout D) D σ H) := by
  refine ⟨fun pins s σ H D I h => ?_⟩
  have ok := I.ok
  have hfr : X.A.frames = some (X.env :: X.outer) := by rw [ok.frames, hs]
  have hloc : Loc X.env.scope n := .inl hln
  refine wpAny_Try_except ?_
  refine wpAny_mono ((hb (wKeep X.K c i ts Wout D) (X.pn ++ pins) (fun e s₁ => wpAny (model X.prog X.w) X.A (noteFrame e X.env) (fun _ s₂ => wpAny (model X.prog X.w) X.A (setFlight e none) (fun _ s₃ =>
    wpAny (model X.prog X.w) X.A (handleBy e X.env [.ExceptHandler (some (.Name x np)) (some n) (b₀ :: suite) pos']) (SP X pins D) X.xe s₃) X.xe s₂) X.xe s₁) (fun u s' xx => ?_) PassesOwn.looking).run [] s σ H D (I.toTry _) h) (fun f s1 hsp => ?_) (fun e s1 he => he)
  ·
    obtain ⟨a, B, sI, pins', σ', H', cls, d, rfl, J', nb, up, sky, na, os, ag, b, hb1, hyes, hno⟩ := xx
    have J : Inv X pins σ' H' sI := J'.ofTry ok
    have sky' : Sky B (X.env :: X.outer) a (Zc cls d) X.env.locals s'.heap := by rw [← hs]; exact sky
    show wpAny (model X.prog X.w) X.A (noteFrame (.ref a) X.env) _ _ _
    refine Sky.land Zc.steady hfr hf sky' fun h3 fl3 up3 => ?_
    have J3 : Inv X pins σ' H' { s' with heap := h3 } := J.landed nb fl3.1 (up.trans up3) os ag
    obtain ⟨oe3, vs3, he3, hz3, hd3⟩ := fl3.there
    have notFr : ∀ {h : Heap} {o : Obj} {vs : Array Value}, h.FunFrames B (X.env :: X.outer) → h.get? a = some o → o.data = .fields vs → a ∉ frs (X.env :: X.outer) := fun {h o vs} ff e dd hm => by
      obtain ⟨_, o', e', hnf⟩ := ff.mem hm
      rw [e] at e'; cases e'
      exact hnf _ dd
    have nfr := notFr fl3.2.2.1 he3 hd3
    have nL : a ≠ X.env.locals := fun z => nfr (List.mem_filterMap.mpr ⟨X.env, List.mem_cons_self, by rw [hf, z]⟩)
    have nF : a ∉ X.fs := fun hm => by
      obtain ⟨e, he, q⟩ := List.mem_filterMap.mp hm
      exact nfr (List.mem_filterMap.mpr ⟨e, List.mem_cons_of_mem _ he, q⟩)
    have nB : B.get? a = none := fl3.2.1
    have nfr' : a ∉ frs X.stack := by rw [hs]; exact nfr
    have nI : sI.heap.get? a = none := by
      cases q : sI.heap.get? a with
      | none => rfl
      | some o =>
        have z := nb a o q nfr'
        rw [nB] at z
        cases z
    have n0 : X.s_0.heap.get? a = none := by
      cases q : X.s_0.heap.get? a with
      | none => rfl
      | some o =>
        obtain ⟨o', q'⟩ := J.base.there a o q (by rw [hex]; exact fun z => nomatch z)
        rw [nI] at q'
        cases q'
    have npin : ∀ p ∈ X.pn ++ pins, p.1 ≠ a := fun p hp z => by
      obtain ⟨e, _⟩ := J.pin p hp
      rw [z, nI] at e
      cases e
    have S3 := J3.suite he3 hd3 na nL nF
    refine wpAny_handleBy_cons (codeAny_handlers_test ?_) (by intro q; cases q)
    have LT : PySem.W.Looks (model X.prog X.w) h3 (typeOf (.ref a)) cls := fun A Q E s k q => wpAny_typeOf_ref (k _ _ he3) (by rw [hz3.1]; exact q)
    have LM := PySem.W.exm_one (M := model X.prog X.w) (J3.kIn) LT hb1
    have test : ∀ {Q : Value → Shared → Prop} {E : Value → Shared → Prop}, Q c { s' with heap := h3 } → wpAny (model X.prog X.w) (X.A.mark (some (.ref a))) (eval (.Name x np) X.env) Q E { s' with heap := h3 } := fun {Q E} q => by
      obtain ⟨hg, hdbg, hm | ⟨hm, hv, hnn⟩⟩ := hc
      · exact ld_glob (X := X.suite a ((a, oe3) :: (X.pn ++ pins))) S3 hg hm q hdbg
      · exact ld_blt (X := X.suite a ((a, oe3) :: (X.pn ++ pins))) S3 hg hm hv q hnn hdbg
    refine test (LM.here ?_)
    cases b with
    | true =>
      refine codeAny_handlers_suite_as ?_
      refine HandSPX.lands_againZ fl3 fun h4 fl4 up4 => ?_
      have J4 : Inv X pins σ' H' { s' with heap := h4 } := J.landed nb fl4.1 ((up.trans up3).trans up4) os ag
      obtain ⟨oe4, vs4, he4, hz4, hd4⟩ := fl4.there
      have S4 := J4.suite he4 hd4 na nL nF
      refine store_ok (X := X.suite a ((a, oe4) :: (X.pn ++ pins))) (v := .ref a) S4 hN hi hloc rfl (fun s5 S5 => ?_) (.inr hln)
      refine wpAny_mono ((hsu a oe4 cls d (X.pn ++ pins) hz4 ⟨_, hd4⟩).run [] s5 _ H' _ S5 (hyes rfl a na)) (fun f s6 hsp => ?_) (fun _ _ z => False.elim z)
      cases f with
      | next =>
        obtain ⟨σ6, H6, S6, n6, q6⟩ := hsp
        obtain ⟨he6, _⟩ := S6.pin (a, oe4) (List.mem_append.mpr (.inl List.mem_cons_self))
        have J6 : Inv X pins σ6 H6 s6 := S6.unsuite ok
        have nc : ∀ y c, X.env.cells.lookup y = some c → c ≠ a := fun y c e z => by
          obtain ⟨v, o, ho, hv⟩ := J6.cell y c e
          rw [z, he6] at ho
          cases ho
          rw [hd4] at hv
          cases hv
        have J7 : Inv X pins σ6 (upd H6 a (exh cls d a)) s6 := J6.adopt he6 n6 n0 nL npin nc (exh_ok he6 hz4 hd4)
        exact gone_ok J7 hN hi hln fun s7 J8 => ⟨_, _, J8, q6⟩
      | brk =>
        obtain ⟨σ6, H6, S6, q6⟩ := hsp
        exact False.elim q6
      | cont =>
        obtain ⟨σ6, H6, S6, q6⟩ := hsp
        exact False.elim q6
      | ret u =>
        obtain ⟨v6, σ6, H6, S6, r6, q6⟩ := hsp
        exact False.elim q6
    | false =>
      show wpAny _ X.A (handleBy (.ref a) X.env []) _ _ _
      refine wpAny_handleBy_nil ?_
      obtain ⟨k1, k2, k3, oe, vs, T, oT, ts', he, hz, hd, h1, hr⟩ := id fl3
      unfold PySem.passOn
      refine wpAny_bind (wpAny_field he hd h1 ?_)
      rw [if_neg (show ¬ ((Value.ref T == Value.none) = true) from by simp)]
      have fin : wpAny (model X.prog X.w) X.A (setFlight (.ref a) X.env.frame) (fun _ s4 => wpAny (model X.prog X.w) X.A (throw (.ref a) : Sem Flow) (SP X pins D) X.xe s4) X.xe { s' with heap := h3 } := by
        rw [hf]
        refine HandSPX.setFlight_upZ fl3 fun h4 hh4 up4 => wpAny_throw (tk _ _ ?_)
        exact ⟨a, B, sI, pins, σ', H', cls, d, rfl, J, nb, (up.trans up3).trans up4, .inr (.inr (by rw [hs]; exact hh4)), na, os, ag, hno rfl⟩
      first
        | exact wpAny_bind (wpAny_pure (wpAny_bind fin))
        | exact wpAny_bind fin
  · cases f with
    | next =>
      obtain ⟨σ', H', J', q⟩ := hsp
      exact wpAny_execs_nil ⟨σ', H', J'.ofTry ok, q⟩
    | brk =>
      obtain ⟨σ', H', J', q⟩ := hsp
      exact ⟨σ', H', J'.ofTry ok, q⟩
    | cont =>
      obtain ⟨σ', H', J', q⟩ := hsp
      exact ⟨σ', H', J'.ofTry ok, q⟩
    | ret u =>
      obtain ⟨v, σ', H', J', r, q⟩ := hsp
      exact ⟨v, σ', H', J'.ofTry ok, r, q⟩
end
end L2
set_option maxRecDepth 100000
set_option maxHeartbeats 4000000
namespace LamX
open PySem PySem.Spec PyProof.Rows L2
section
variable {X : Cx} {pins : List (Addr × Obj)} {σ : L2.St} {H : Hp} {s : Shared}
theorem tt_act {CXg : CXT} {Eg : XK} {names : List Str} {qg : Str} {sg : Scope} {g fl co : Addr} {cdg pm ctv : Value} {ps : Arguments} {bd : Expr} {lsc : Scope} {k i : Nat} {a : Str} {pn : List (Addr × Obj)} {xe : Value → Shared → Prop} {W : WX} {Ew : L2.St → XK} {rd : XK → TE} {p1 p2 : Pos}
    (I : Inv X pins σ H s) (L : LamS X.env.scope lsc) (h1 : s.heap.get? fl = some (PySem.W.kla_obj "<lambda>" (X.env.qual ++ "<lambda>") ps bd lsc (cloFrom X.env.cells lsc.names []) pm co ctv)) (h2 : H fl = none) (h3 : fl ∉ frs X.stack)
    (noArgs : bindArgs (PySem.W.kla_fn "<lambda>" (X.env.qual ++ "<lambda>") ps bd lsc (cloFrom X.env.cells lsc.names []) pm (.ref co) ctv) ⟨[], []⟩ = pure [])
    (tk : Takes ((cxOf CXg X.prog X.w X.K X.mg X.base names qg sg g cdg X.A X.stack s H Eg).tr pn xe) W) (wish : ∀ τ cls d H', Ew τ cls d H' → W cls d τ H') (room : Room (k + 1) (X.A.deeper (envOfC qg sg s.heap.objs.size g cdg)))
    (body : ∀ (E : XK) (A : Around) (outer : List Env) (s : Shared) (H : Hp), Room k (A.deeper (lamEnv X lsc s.heap.objs.size fl co)) → PE (lamCx X A outer s H E lsc fl co) bd (rd E))
    (at_ : names[i]? = some a) (vis : Vis sg a) (n1 : (a == ("__debug__" : Str)) = false) (n2 : (a == ("__classdict__" : Str)) = false) :
    PE ((cxOf CXg X.prog X.w X.K X.mg X.base names qg sg g cdg X.A X.stack s H Eg).tr pn xe) (.Call (.Name a p1) [] [] p2)
      (fun τ G Q => τ[i]? = some (some (.ref fl)) ∧ G co = some (CodeO co (X.env.qual ++ "<lambda>")) ∧ rd (Ew τ) σ G Q) := by
  refine ⟨fun pz sz τ G Q J hyp => ?_⟩
  obtain ⟨slot, code, want⟩ := hyp
  have load := (pe_var (pos := p1) (i := i) at_ vis n1 n2).run pz sz τ G (fun v G' => v = .ref fl ∧ G' = G) J ⟨.ref fl, slot, rfl, rfl⟩
  refine wpAny_Call_Name_kw (thn load fun u s1 ⟨v, G', J1, ru, ev, eG⟩ => ?_)
  subst ev eG
  obtain rfl : u = Value.ref fl := ru
  have here : s1.heap.get? fl = some (PySem.W.kla_obj "<lambda>" (X.env.qual ++ "<lambda>") ps bd lsc (cloFrom X.env.cells lsc.names []) pm co ctv) := J1.base.keep fl _ h1 h2 h3 (fun z => nomatch (show fl ∈ ([] : List Addr) from z))
  refine PySem.W.callWith_F0 ⟨_, _, _, _, here⟩ ?_
  have since : Un (frs X.stack) [] H G' s.heap s1.heap := J1.base
  obtain ⟨⟨oc, fields, tok, ho, hf, hq⟩, _, _⟩ := J1.hok co _ code
  have run : codeAny (model X.prog X.w) (X.A.deeper (envOfC qg sg s.heap.objs.size g cdg)) (.call (.ref fl) ⟨[], []⟩) (CR (L2.CX X.prog X.w) (envOfC qg sg s.heap.objs.size g cdg :: X.stack) X.prog X.w G' s1 Q (Ew τ)) s1 := by
    refine PySem.W.kla_callFunE room.depth here rfl L.co L.gen rfl ⟨co, oc, fields, tok, rfl, ho, hf, hq⟩ ?_
    rw [noArgs]
    refine wpAny_pure (wpAny_newFunctionEnv (fun y hy => (L.own y hy).2) (fun y hy => absurd hy (by simp)) (fun h' ns but => ⟨J1.nolimit.fresh _ but, ?_⟩) L.kind)
    have stays : ∀ b o, s1.heap.get? b = some o → h'.get? b = some o := fun b o e => but.extBut b o (Nat.ne_of_lt (Heap.lt_size e)) (Heap.get?_push_of_some _ e)
    have start : Inv (lamCx X (X.A.deeper (envOfC qg sg s.heap.objs.size g cdg)) (envOfC qg sg s.heap.objs.size g cdg :: X.stack) s1 G' (Ew τ) lsc fl co) [] σ G' { s1 with heap := h', toks := s1.toks + ([] : List (Str × Value)).length } :=
      lam_start2 I L J1.env0 room.hd since ns stays
    show codeAny _ _ (.expr bd (lamEnv X lsc s1.heap.objs.size fl co)) _ _
    refine PySem.W.kla_codeExpr (wpAny_mono ((body (Ew τ) _ _ s1 G' (room.deeper _)).run [] _ _ G' Q start want) (fun v s' ⟨x, G2, J2, rx, q⟩ => ?_) fun e s' q => q)
    exact ⟨x, G2, J2.os, J2.bare, J2.base, J2.hok, rx, q⟩
  refine wpAny_call (codeAny_mono run fun r s' q => ?_)
  match r with
  | .error e => exact tk e s' (XE.of_call J1 (fun cls d G2 z => wish τ cls d G2 z) q)
  | .ok (.ret u) => exact J1.after q
  | .ok .next => exact False.elim q
  | .ok .brk => exact False.elim q
  | .ok .cont => exact False.elim q
end
def GivesToS (X : Cx) (names : List Str) (x : Str) (sg : Scope) (g : Addr) (cdg : Value) (bg : List Stmt) (a : Str) (q : Str) (TT : (XK → Hp → VK → Prop) → Hp → VK → Prop) : Prop :=
  ∀ (fl co : Addr) (s : Shared) (H : Hp) (Q : VK) (tl : XK → Hp → VK → Prop),
    (∀ (W : WX) (pn : List (Addr × Obj)) (xe : Value → Shared → Prop) (Ew : L2.St → XK) (p1 p2 : Pos), Takes ((cxOf C8.CX0 X.prog X.w X.K X.mg X.base names x sg g cdg X.A X.stack s H C8.E0).tr pn xe) W → (∀ τ cls d H', Ew τ cls d H' → W cls d τ H') →
      PE ((cxOf C8.CX0 X.prog X.w X.K X.mg X.base names x sg g cdg X.A X.stack s H C8.E0).tr pn xe) (.Call (.Name a p1) [] [] p2) (fun τ G Q => τ[0]? = some (some (.ref fl)) ∧ G co = some (CodeO co q) ∧ tl (Ew τ) G Q)) →
    H co = some (CodeO co q) → TT tl H Q →
    ∃ t, PSs (cxOf C8.CX0 X.prog X.w X.K X.mg X.base names x sg g cdg X.A X.stack s H C8.E0).nox bg t ∧ t { nx := fun _ H' => Q .non H', rt := Q } (L2.start names [.ref fl]) H
section
variable {X : Cx}
theorem tt_lamcall {T : List (Addr × Str)} {TT : (XK → Hp → VK → Prop) → Hp → VK → Prop} {x a : Str} {g c P : Addr} {k : Nat} {pg : Arguments} {bg : List Stmt} {sg : Scope} {dV kV doc pm cdv ct oc : Value} {an od : Option Addr} {osl : Array (Option Value)} {names : List Str}
    {ps : Arguments} {bd : Expr} {lsc : Scope} {t : XK → TE} {p lpos pos : Pos} (hg : Gl X x) (hm : X.mg x = some (.ref g)) (hk : PySem.W.keepIn X.K (.ref g) = true)
    (lk : X.K.lookup g = some ⟨oc, od, .func (PySem.W.fnOf x x pg bg sg dV kV doc pm an cdv ct), osl⟩) (hcg : PySem.W.codeIn X.K cdv x = true) (hb : L2.Binds X.K (PySem.W.fnOf x x pg bg sg dV kV doc pm an cdv ct) [a] []) (Sg : FnScope names [a] sg) (at_ : names[0]? = some a) (vis : Vis sg a)
    (hG : GivesToS X names x sg g cdv bg a (X.env.qual ++ "<lambda>") TT)
    (TB : TabB X.base X.mg c P) (hcode : X.env.code = .ref c) (hmT : (P, X.env.qual ++ "<lambda>") ∈ T) (hu : ∀ p ∈ T, p.1 = P → p.2 = X.env.qual ++ "<lambda>") (hr : Room (k + 2) X.A) (L : LamS X.env.scope lsc) (hdef : defaultsOf ps X.env = ([], []))
    (noArgs : ∀ (q : Str) (cl : List (Str × Addr)) (pm cv ctv : Value), bindArgs (PySem.W.kla_fn "<lambda>" q ps bd lsc cl pm cv ctv) ⟨[], []⟩ = pure [])
    (body : ∀ (A : Around) (outer : List Env) (s : Shared) (H : Hp) (E : XK) (fl co : Addr), Room k (A.deeper (lamEnv X lsc s.heap.objs.size fl co)) → PE (lamCx X A outer s H E lsc fl co) bd (t E))
    (n0 : (x == ("__debug__" : Str)) = false := by decide) (n1 : (a == ("__debug__" : Str)) = false := by decide) (n2 : (a == ("__classdict__" : Str)) = false := by decide) :
    PE X (.Call (.Name x p) [.Lambda ps bd lsc lpos] [] pos) (tLam T TT t) := by
  refine ⟨fun pins s σ H Q I hyp => ?_⟩
  obtain ⟨tabs, want⟩ := hyp
  refine wpAny_Call_Name_kw (ld_glob I hg hm ?_ n0)
  refine PySem.W.callWith_K (h₀ := X.base) I.ok.mod.kin hk ?_ (by rfl) (by rfl)
  show wpAny _ _ (spliced ((false, eval (.Lambda ps bd lsc lpos) X.env) :: backTo pos (starEach [] X.env))) _ _ s
  refine Calls.spliced_cons (lam_make2 I TB hcode hmT hu tabs hdef (L.has I.ok) fun fl co pm' ctv G s' J eN tabs' f1 f2 f3 fc => ?_)
  refine Calls.spliced_nil ⟨J.kIn, ?_⟩
  have run : codeAny (model X.prog X.w) X.A (.call (.ref g) ⟨[.ref fl], []⟩) (CR C8.CX0 X.stack X.prog X.w G s' Q C8.E0) s' := by
    refine run_ofS (N := names) (ps := [a]) (us := [.ref fl]) (vs := [.ref fl]) lk hcg Sg hr J.env0 (hb s' [.ref fl] J.kIn rfl) (.cons rfl .nil) rfl fun hr' => ?_
    obtain ⟨t', ht', hq'⟩ := hG fl co s' G Q (fun E G' Q' => t E σ G' Q') (fun W pn xe Ew p1 p2 tk wish => tt_act (i := 0) J L f1 f2 f3 (noArgs _ _ _ _ _) tk wish hr' (fun E A outer s H room => body A outer s H E fl co room) at_ vis n1 n2) fc (want G eN tabs')
    exact ⟨t', ht'.nox, hq'⟩
  refine wpAny_call (codeAny_mono run fun r s2 q => ?_)
  match r with
  | .error e => exact (show False from q).elim
  | .ok (.ret u) => exact J.after q
  | .ok .next => exact False.elim q
  | .ok .brk => exact False.elim q
  | .ok .cont => exact False.elim q
end
end LamX
set_option maxRecDepth 100000
set_option maxHeartbeats 4000000
namespace L2
open PySem PySem.Spec PyProof.Rows HT
section
variable {X : Cx} {K : PySem.W.Frag}
def FzT (H : Hp) (a : Addr) (xs : List V) : Prop := ∃ ob : Obj, H a = some (.frz ob (.tup xs)) ∧ ob.dict = none
theorem FzT.sq {H : Hp} {a : Addr} {xs : List V} (h : FzT H a xs) : SqT K H a xs := by
  obtain ⟨ob, h, _⟩ := h
  exact .inl (.inr ⟨ob, h⟩)
theorem FzT.new {H : Hp} {p : Addr} {ob : Obj} {xs : List V} (h : ob.dict = none) : FzT (upd H p (.frz ob (.tup xs))) p xs := ⟨ob, upd_same, h⟩
def NwT (H : Hp) (xs : List V) (Q : VK) : Prop := ∀ (p : Addr) (ob : Obj), H p = none → ob.dict = none → Q (.ref p) (upd H p (.frz ob (.tup xs)))
def rTupF (K : PySem.W.Frag) : List V → Hp → VK → Prop := fun xs H Q => ∃ p ys, xs = [.ref p] ∧ ((SqL K H p ys ∧ NwT H ys Q) ∨ (SqT K H p ys ∧ Q (.ref p) H))
theorem call_tuple_ofF : CallR X (.type "tuple") (rTupF X.K) := by
  intro pins s σ H xs us Q I r h
  obtain ⟨p, ys, rfl, h⟩ := h
  obtain ⟨u, rfl, rx⟩ := vals1 r
  cases rx
  rcases h with ⟨hq, q⟩ | ⟨hq, q⟩
  · obtain ⟨its, rv, pl, hz⟩ := I.list hq
    have hn := rv.length
    refine call_tuple_list pl.isList (fun h' kp => ?_) (by simp only [List.size_toArray] <;> omega)
    have J : Inv X pins σ H { s with heap := h' } := I.kept (t' := s.toks) kp
    have J2 : Inv X pins σ (upd H h'.objs.size (.frz { cls := .type "tuple", data := .seq its.toArray } (.tup ys))) { s with heap := h'.push { cls := .type "tuple", data := .seq its.toArray } } :=
      J.laid (t' := s.toks) (fun b o e => Heap.get?_push_of_some _ e) (Nat.le_refl _) ⟨Heap.get?_push_size _ rfl, hz, its, rv, IsTup.new _ _⟩
    exact ⟨.ref h'.objs.size, _, J2, rfl, q _ _ (J.hok.fresh (Nat.le_refl _)) rfl⟩
  · obtain ⟨its, rv, pl, hz⟩ := I.tuple hq
    exact call_tuple_same pl ⟨.ref p, H, I, rfl, q⟩
def rCatF (K : PySem.W.Frag) : R2 := fun x y H Q => ∃ a b xs ys, x = .ref a ∧ y = .ref b ∧ SqT K H a xs ∧ SqT K H b ys ∧ xs ≠ [] ∧ xs.length + ys.length ≤ sizeLine ∧
  (ys = [] → Q (.ref a) H) ∧ (ys ≠ [] → NwT H (xs ++ ys) Q)
theorem op_catF : OpR X (binaryOp .Add) (rCatF X.K) := by
  intro pins s σ H x y v u Q I rx ry h
  obtain ⟨a, b, xs, ys, rfl, rfl, ha, hb, hx, hz, q1, q2⟩ := h
  cases rx
  cases ry
  obtain ⟨its, r1, p1, _⟩ := I.tuple ha
  obtain ⟨its2, r2, p2, _⟩ := I.tuple hb
  refine HT.cat_tup p1 p2 (fun z => hx (r1.nil_iff.mp z)) (fun z => ⟨.ref a, H, I, rfl, q1 (r2.nil_iff.mp z)⟩) (fun z => ?_) (by rw [← r1.length, ← r2.length]; exact hz)
  refine ⟨.ref s.heap.objs.size, _, I.laid (t' := s.toks) (fun b ob q => Heap.get?_push_of_some _ q) (Nat.le_refl _) ?_, rfl, q2 (fun w => z (r2.nil_iff.mpr w)) _ { cls := .type "tuple", data := .seq (its ++ its2).toArray } (I.hok.fresh (Nat.le_refl _)) rfl⟩
  exact ⟨Heap.get?_push_size _ rfl, by rw [List.length_append]; exact hz, _, r1.append r2, IsTup.new _ _⟩
def tyF (K : PySem.W.Frag) (T : String) (x : V) (H : Hp) : Prop := tyV K T x H ∨ (T = "tuple" ∧ ∃ p xs, x = .ref p ∧ FzT H p xs)
theorem tyF_is {pins : List (Addr × Obj)} {σ : St} {H : Hp} {s : Shared} {T : String} {x : V} {v : Value} (I : Inv X pins σ H s) (r : RelV x v) (ty : tyF X.K T x H) :
    s.TypeIs v T ∧ ∀ a, v = .ref a → ∃ ob, s.heap.get? a = some ob ∧ ob.dict = none := by
  rcases ty with ty | ⟨rfl, p, xs, rfl, ob, h, hd⟩
  · exact tyV_is I r ty
  · cases r
    obtain ⟨e, _, its, _, o, e2, hc, _⟩ := (show ObjOk X.prog X.w H s.heap p (.frz ob (.tup xs)) from I.hok p _ h)
    rw [e] at e2
    cases e2
    refine ⟨⟨ob, e, hc⟩, fun a z => ?_⟩
    cases z
    exact ⟨ob, e, hd⟩
def tBMF (K : PySem.W.Frag) (T : String) (r : V → List V → Hp → VK → Prop) (to : TE) (t : TA) : TE := fun σ H Q => to σ H fun x H1 => tyF K T x H1 ∧ t σ H1 fun xs H2 => r x xs H2 Q
variable {o e : Expr} {es : List Expr} {to : TE} {t : TA} {name : Str} {apos cpos : Pos} {T id : String} {r : V → List V → Hp → VK → Prop}
theorem pe_bmF (pa : PlainAttrs T) (slot : Slot T name id) (hty : typeOf (.builtin id) = pure (.type "method_descriptor")) (hm : MtR X id r) (ho : PE X o to) (ha : PA X (e :: es) t)
    (hbase : attributeBase o name X.env (eval o X.env) = eval o X.env := by rfl)
    (hfew : ((backTo cpos (starEach (e :: es) X.env)).all (fun x => !x.1) && (backToKw cpos (keywordEach [] X.env)).all (fun x => x.1.isSome)
      && decide ((e :: es).length + ([] : List Keyword).length + (if ([] : List Keyword).isEmpty then 0 else 1) < 30)) = true := by rfl)
    (hline : (apos.endLine == cpos.line) = true := by rfl) (hs : starEach (e :: es) X.env = (false, eval e X.env) :: starEach es X.env := by rfl) (hplain : (backTo cpos (starEach es X.env)).any (·.1) = false := by rfl) :
    PE X (.Call (.Attribute o name apos) (e :: es) [] cpos) (tBMF X.K T r to t) := by
  refine ⟨fun pins s σ H Q I h => ?_⟩
  refine wpAny_Call_method_late hbase hfew hline rfl (thn (ho.run pins s σ H _ I h) fun v s1 ⟨x, H1, I1, r1, ty, q1⟩ => ?_)
  obtain ⟨h1, h2⟩ := tyF_is I1 r1 ty
  refine ⟨T, id, pa, slot, hty, h1, h2, ?_⟩
  have hA := ha.run cpos pins s1 σ H1 _ I1 q1
  rw [hs] at hA ⊢
  refine Calls.callWith_builtin (by show (false || (backTo cpos (starEach es X.env)).any (·.1)) = false; rw [hplain] <;> rfl) (Calls.evalArgs_plain ?_)
  exact thn hA fun us s2 ⟨vs, H2, I2, r2, q2⟩ => hm pins s2 σ H2 x vs v us Q I2 r1 r2 q2
theorem pe_bmFK (hk : X.K = K) (pa : PlainAttrs T) (slot : Slot T name id) (hty : typeOf (.builtin id) = pure (.type "method_descriptor")) (hm : MtR X id r) (ho : PE X o to) (ha : PA X (e :: es) t)
    (hbase : attributeBase o name X.env (eval o X.env) = eval o X.env := by rfl)
    (hfew : ((backTo cpos (starEach (e :: es) X.env)).all (fun x => !x.1) && (backToKw cpos (keywordEach [] X.env)).all (fun x => x.1.isSome)
      && decide ((e :: es).length + ([] : List Keyword).length + (if ([] : List Keyword).isEmpty then 0 else 1) < 30)) = true := by rfl)
    (hline : (apos.endLine == cpos.line) = true := by rfl) (hs : starEach (e :: es) X.env = (false, eval e X.env) :: starEach es X.env := by rfl) (hplain : (backTo cpos (starEach es X.env)).any (·.1) = false := by rfl) :
    PE X (.Call (.Attribute o name apos) (e :: es) [] cpos) (tBMF K T r to t) := by
  subst hk
  exact pe_bmF pa slot hty hm ho ha hbase hfew hline hs hplain
end
end L2
set_option maxRecDepth 100000
set_option maxHeartbeats 4000000
namespace L2
open PySem PySem.Spec PyProof.Rows
def Swaps (fd : FuncData) (a b : Str) : Prop := ∀ (s : Shared) (v u : Value), BindsTo s fd ⟨[], [(b, v), (a, u)]⟩ [(a, u), (b, v)]
theorem Fun.swaps {K : PySem.W.Frag} {x qual : Str} {st : Stmt} {f : Addr} {fd : FuncData} {a b : Str} (F : Fun K x qual st f fd)
    (h : ∀ (kV doc pm : Value) (an : Option Addr) (cdv ct v u : Value), bindArgs (PySem.W.fnOf x qual (defArgs st) (defBody st) (defScope st) .none kV doc pm an cdv ct) ⟨[], [(b, v), (a, u)]⟩ = pure [(a, u), (b, v)]) : Swaps fd a b := by
  obtain ⟨oc, od, kV, doc, pm, an, cdv, ct, osl, rfl, lk, hcd⟩ := F.ex
  exact fun s v u => BindsTo.of_eq (h kV doc pm an cdv ct v u)
def tSw (sp : Sp) (E : XK) (t1 t2 : TE) : TE := fun σ H Q => tCons t1 (tCons t2 tNil) σ H fun zs H2 => sp zs.reverse H2 Q E
section
variable {X : Cx} {CX : CXT} {k : Nat} {f : Addr} {fd : FuncData} {a b : Str} {sp : Sp} {E : XK} {x : Str} {p p1 p2 pos : Pos} {e1 e2 : Expr} {t1 t2 : TE}
theorem run_sw {pins : List (Addr × Obj)} {σ : St} {H : Hp} {s : Shared} {Q : VK} {v u : V} {v' u' : Value} (F : FnOk X.prog X.w X.K X.mg X.base CX k f fd [a, b] sp) (hr : Room k X.A) (hb : Swaps fd a b) (hx : Passes CX X E)
    (I : Inv X pins σ H s) (r1 : RelV v v') (r2 : RelV u u') (h : sp [u, v] H Q E) : wpAny (model X.prog X.w) X.A (call (.ref f) [] [(b, v'), (a, u')]) (EP X pins σ Q) X.xe s := by
  refine wpAny_call (codeAny_mono (F.run X.A X.stack s H ⟨[], [(b, v'), (a, u')]⟩ [u', v'] [u, v] Q E hr I.env0 (hb s v' u') (.cons r2 (.cons r1 .nil)) h) fun r s' hq => ?_)
  cases r with
  | error e => exact hx pins σ H s e s' I hq
  | ok fl =>
    cases fl with
    | ret u => exact I.after hq
    | next => exact False.elim hq
    | brk => exact False.elim hq
    | cont => exact False.elim hq
theorem pe_callSw (F : FnOk X.prog X.w X.K X.mg X.base CX k f fd [a, b] sp) (hr : Room k X.A) (hg : Gl X x) (hm : X.mg x = some (.ref f)) (hk : PySem.W.keepIn X.K (.ref f) = true) (hb : Swaps fd a b) (hx : Passes CX X E)
    (h1 : PE X e1 t1) (h2 : PE X e2 t2) (hdb : (x == ("__debug__" : Str)) = false := by decide)
    (hall : (backToKw pos (keywordEach [⟨some b, e1, p1⟩, ⟨some a, e2, p2⟩] X.env)).all (·.1.isSome) = true := by rfl) (hks : (backToKw pos (keywordEach [⟨some b, e1, p1⟩, ⟨some a, e2, p2⟩] X.env)).filterMap (·.1) = [b, a] := by rfl)
    (hpl : ((backTo pos (starEach [] X.env)).any (·.1) || (backToKw pos (keywordEach [⟨some b, e1, p1⟩, ⟨some a, e2, p2⟩] X.env)).any (·.1.isNone)) = false := by rfl) :
    PE X (.Call (.Name x p) [] [⟨some b, e1, p1⟩, ⟨some a, e2, p2⟩] pos) (tSw sp E t1 t2) := by
  refine ⟨fun pins s σ H Q I h => ?_⟩
  refine wpAny_Call_Name_kw (ld_glob I hg hm ?_ hdb)
  refine PySem.W.callWith_KW0 (h₀ := X.base) I.ok.mod.kin hk hall ?_ hpl
  refine thn ((pk_cons h1 (pk_cons h2 pk_nil)).run pos pins s σ H _ I h) fun ws s2 ⟨zs, H2, J, rz, q⟩ => ⟨J.kIn, ?_⟩
  rw [hks]
  have hl := F.len _ _ _ _ q
  rw [List.length_reverse] at hl
  cases rz with
  | nil => exact absurd hl (by simp)
  | cons r1 rz =>
    cases rz with
    | nil => exact absurd hl (by simp)
    | cons r2 rz =>
      cases rz with
      | nil => exact run_sw F hr hb hx J r1 r2 q
      | cons r3 rz => exact absurd hl (by simp)
end
end L2
set_option maxRecDepth 100000
set_option maxHeartbeats 4000000
namespace L2
open PySem PySem.Spec PyProof.Rows
section
variable {X : Cx}
def rShow (K : PySem.W.Frag) : List V → Hp → VK → Prop := fun xs H Q => ∃ (a : Addr) (d : PyData), xs = [.ref a] ∧ Dp K H (.ref a) d ∧ d.showable = true ∧ d.hasDict = false ∧ d.depth ≤ 60 ∧ d.shown.length ≤ sizeLine ∧ Q (.str d.shown) H
theorem call_show (hg : X.A.guards = some []) (hu : X.A.units + 64 < cLine) : CallR X (.builtin "repr") (rShow X.K) := by
  intro pins s σ H xs us Q I r h
  obtain ⟨a, d, rfl, hd, h1, h2, h3, h4, q⟩ := h
  obtain ⟨u, rfl, rx⟩ := vals1 r
  cases rx
  obtain ⟨as, rd⟩ := Dp.reads I d (.ref a) (.ref a) hd rfl
  exact repr_of_reads' rd h1 (fun z => absurd (h2.symm.trans z) (by decide)) hg (by omega) (fun b o e => e) (fun h' u tk k => ⟨.str d.shown, H, I.kept (t' := tk) k, ⟨u, rfl⟩, q⟩) h4
end
end L2
set_option maxRecDepth 100000
set_option maxHeartbeats 4000000
namespace L2
open PySem PySem.Spec PyProof.Rows
open PySem.W (alike alikeAll minD min_list_data)
def rowD (m : List Int) : PyData := .tuple (m.map PyData.int)
theorem alike_ints : ∀ a b : List Int, alikeAll (a.map PyData.int) (b.map PyData.int) = true
  | [], _ => by simp [alikeAll]
  | _ :: _, [] => by simp [alikeAll]
  | x :: a, y :: b => by
    show (alike (.int x) (.int y) && alikeAll (a.map PyData.int) (b.map PyData.int)) = true
    rw [alike_ints a b]
    rfl
theorem depth_ints : ∀ a : List Int, PyData.depthAll (a.map PyData.int) = 0
  | [] => rfl
  | x :: a => by
    show max 0 (PyData.depthAll (a.map PyData.int)) = 0
    rw [depth_ints a]
    rfl
theorem depth_rows : ∀ rs : List (List Int), PyData.depthAll (rs.map rowD) ≤ 1
  | [] => Nat.zero_le _
  | r :: rs => by
    show max (PyData.depthAll (r.map PyData.int) + 1) (PyData.depthAll (rs.map rowD)) ≤ 1
    rw [depth_ints r]
    have := depth_rows rs
    omega
theorem rowD_inj {a b : List Int} (h : rowD a = rowD b) : a = b := by
  unfold rowD at h
  injection h with h
  induction a generalizing b with
  | nil =>
    cases b with
    | nil => rfl
    | cons y b => cases h
  | cons x a ih =>
    cases b with
    | nil => cases h
    | cons y b =>
      rw [List.map_cons, List.map_cons] at h
      injection h with h1 h2
      injection h1 with h1
      rw [h1, ih h2]
theorem pair_at {α β : Type} {F : α → β → Prop} : ∀ {l : List α} {k : List β}, Paired F l k → ∀ {i : Nat} {a : α} {b : β}, l[i]? = some a → k[i]? = some b → F a b
  | _, _, .nil, i, a, b, h, _ => by simp at h
  | _, _, .cons r _, 0, a, b, h, g => by
    simp at h g
    subst h
    subst g
    exact r
  | _, _, .cons _ t, i + 1, a, b, h, g => pair_at t (by simpa using h) (by simpa using g)
section
variable {X : Cx}
theorem dpAll_intsL {K : PySem.W.Frag} (H : Hp) : ∀ ls : List Int, DpAll K H (ls.map V.int) (ls.map PyData.int)
  | [] => .nil
  | a :: l => .cons (.int a) (dpAll_intsL H l)
theorem dpAll_rows {K : PySem.W.Frag} {H : Hp} : ∀ {ps : List Addr} {rows : List (List Int)}, Paired (fun p m => SqT K H p (m.map V.int)) ps rows → DpAll K H (ps.map V.ref) (rows.map rowD)
  | _, _, .nil => .nil
  | _, _, .cons h t => .cons (.tup h (dpAll_intsL H _)) (dpAll_rows t)
def rMinT (K : PySem.W.Frag) : List V → Hp → VK → Prop := fun vs H Q => ∃ (l : Addr) (ps : List Addr) (r0 : List Int) (rs : List (List Int)), vs = [.ref l] ∧ SqL K H l (ps.map V.ref) ∧ Paired (fun p m => SqT K H p (m.map V.int)) ps (r0 :: rs) ∧
  ∀ (i : Nat) (p : Addr), ps[i]? = some p → (∀ m, (r0 :: rs)[i]? = some m → rowD m = minD (rowD r0) (rs.map rowD)) → Q (.ref p) H
theorem cr_minT (hc : X.calm = true) (hu : X.A.units + 64 < cLine) : CallR X (.builtin "min") (rMinT X.K) := by
  intro pins s σ H vs us Q I r h
  obtain ⟨l, ps, r0, rs, rfl, hs, hp, q⟩ := h
  obtain ⟨its, rv, hl, _⟩ := I.list hs
  rw [Vals.ref1 r]
  obtain ⟨as, hr⟩ := Dp.readsAll I _ _ its (dpAll_rows hp) rv
  have hd := depth_rows (r0 :: rs)
  refine min_list_data (I.ok.hd hc) hl.isList (x := rowD r0) (xs := rs.map rowD) (as := as) hr ⟨fun x hx y hy => ?_, fun x hx => ?_⟩ (by show X.A.units + 1 + PyData.depthAll ((r0 :: rs).map rowD) < cLine; omega) fun i v h' tk bs hv hm hk => ?_
  · obtain ⟨a, _, rfl⟩ := List.mem_map.mp (show x ∈ (r0 :: rs).map rowD from hx)
    obtain ⟨b, _, rfl⟩ := List.mem_map.mp (show y ∈ (r0 :: rs).map rowD from hy)
    exact alike_ints a b
  · obtain ⟨a, _, rfl⟩ := List.mem_map.mp (show x ∈ (r0 :: rs).map rowD from hx)
    exact fun z => by cases z
  · have hv' : its[i]? = some v := by simpa using hv
    have hi : i < ps.length := by
      have h1 := (List.getElem?_eq_some_iff.mp hv').1
      have h2 := rv.length
      rw [List.length_map] at h2
      omega
    obtain ⟨v2, e2, rel⟩ := rv.get (i := i) (x := V.ref ps[i]) (by simp [hi])
    rw [hv'] at e2
    cases e2
    obtain rfl : v = .ref ps[i] := rel
    refine ⟨.ref ps[i], H, I.kept (t' := tk) hk, rfl, q i ps[i] (List.getElem?_eq_getElem hi) fun m hm2 => ?_⟩
    obtain ⟨as0, r0'⟩ := Dp.reads I (rowD m) (.ref ps[i]) (.ref ps[i]) (.tup (pair_at hp (List.getElem?_eq_getElem hi) hm2) (dpAll_intsL H m)) rfl
    exact (reads_det (fun b o e _ => hk b o e) r0' hm).1.symm
end
end L2
set_option maxRecDepth 100000
set_option maxHeartbeats 4000000
namespace L2
open PySem PySem.Spec PyProof.Rows
def Swaps3 (fd : FuncData) (a b c : Str) : Prop := ∀ (s : Shared) (v u z : Value), BindsTo s fd ⟨[], [(c, v), (b, u), (a, z)]⟩ [(a, z), (b, u), (c, v)]
theorem Fun.swaps3 {K : PySem.W.Frag} {x qual : Str} {st : Stmt} {f : Addr} {fd : FuncData} {a b c : Str} (F : Fun K x qual st f fd)
    (h : ∀ (kV doc pm : Value) (an : Option Addr) (cdv ct v u z : Value), bindArgs (PySem.W.fnOf x qual (defArgs st) (defBody st) (defScope st) .none kV doc pm an cdv ct) ⟨[], [(c, v), (b, u), (a, z)]⟩ = pure [(a, z), (b, u), (c, v)]) : Swaps3 fd a b c := by
  obtain ⟨oc, od, kV, doc, pm, an, cdv, ct, osl, rfl, lk, hcd⟩ := F.ex
  exact fun s v u z => BindsTo.of_eq (h kV doc pm an cdv ct v u z)
def tSw3 (sp : Sp) (E : XK) (t1 t2 t3 : TE) : TE := fun σ H Q => tCons t1 (tCons t2 (tCons t3 tNil)) σ H fun zs H2 => sp zs.reverse H2 Q E
section
variable {X : Cx} {CX : CXT} {k : Nat} {f : Addr} {fd : FuncData} {a b c : Str} {sp : Sp} {E : XK} {x : Str} {p p1 p2 p3 pos : Pos} {e1 e2 e3 : Expr} {t1 t2 t3 : TE}
theorem run_sw3 {pins : List (Addr × Obj)} {σ : St} {H : Hp} {s : Shared} {Q : VK} {v u z : V} {v' u' z' : Value} (F : FnOk X.prog X.w X.K X.mg X.base CX k f fd [a, b, c] sp) (hr : Room k X.A) (hb : Swaps3 fd a b c) (hx : Passes CX X E)
    (I : Inv X pins σ H s) (r1 : RelV v v') (r2 : RelV u u') (r3 : RelV z z') (h : sp [z, u, v] H Q E) : wpAny (model X.prog X.w) X.A (call (.ref f) [] [(c, v'), (b, u'), (a, z')]) (EP X pins σ Q) X.xe s := by
  refine wpAny_call (codeAny_mono (F.run X.A X.stack s H ⟨[], [(c, v'), (b, u'), (a, z')]⟩ [z', u', v'] [z, u, v] Q E hr I.env0 (hb s v' u' z') (.cons r3 (.cons r2 (.cons r1 .nil))) h) fun r s' hq => ?_)
  cases r with
  | error e => exact hx pins σ H s e s' I hq
  | ok fl =>
    cases fl with
    | ret u => exact I.after hq
    | next => exact False.elim hq
    | brk => exact False.elim hq
    | cont => exact False.elim hq
theorem pe_callSw3 (F : FnOk X.prog X.w X.K X.mg X.base CX k f fd [a, b, c] sp) (hr : Room k X.A) (hg : Gl X x) (hm : X.mg x = some (.ref f)) (hk : PySem.W.keepIn X.K (.ref f) = true) (hb : Swaps3 fd a b c) (hx : Passes CX X E)
    (h1 : PE X e1 t1) (h2 : PE X e2 t2) (h3 : PE X e3 t3) (hdb : (x == ("__debug__" : Str)) = false := by decide)
    (hall : (backToKw pos (keywordEach [⟨some c, e1, p1⟩, ⟨some b, e2, p2⟩, ⟨some a, e3, p3⟩] X.env)).all (·.1.isSome) = true := by rfl) (hks : (backToKw pos (keywordEach [⟨some c, e1, p1⟩, ⟨some b, e2, p2⟩, ⟨some a, e3, p3⟩] X.env)).filterMap (·.1) = [c, b, a] := by rfl)
    (hpl : ((backTo pos (starEach [] X.env)).any (·.1) || (backToKw pos (keywordEach [⟨some c, e1, p1⟩, ⟨some b, e2, p2⟩, ⟨some a, e3, p3⟩] X.env)).any (·.1.isNone)) = false := by rfl) :
    PE X (.Call (.Name x p) [] [⟨some c, e1, p1⟩, ⟨some b, e2, p2⟩, ⟨some a, e3, p3⟩] pos) (tSw3 sp E t1 t2 t3) := by
  refine ⟨fun pins s σ H Q I h => ?_⟩
  refine wpAny_Call_Name_kw (ld_glob I hg hm ?_ hdb)
  refine PySem.W.callWith_KW0 (h₀ := X.base) I.ok.mod.kin hk hall ?_ hpl
  refine thn ((pk_cons h1 (pk_cons h2 (pk_cons h3 pk_nil))).run pos pins s σ H _ I h) fun ws s2 ⟨zs, H2, J, rz, q⟩ => ⟨J.kIn, ?_⟩
  rw [hks]
  have hl := F.len _ _ _ _ q
  rw [List.length_reverse] at hl
  cases rz with
  | nil => exact absurd hl (by simp)
  | cons r1 rz =>
    cases rz with
    | nil => exact absurd hl (by simp)
    | cons r2 rz =>
      cases rz with
      | nil => exact absurd hl (by simp)
      | cons r3 rz =>
        cases rz with
        | nil => exact run_sw3 F hr hb hx J r1 r2 r3 q
        | cons r4 rz => exact absurd hl (by simp)
end
end L2
namespace Wd
def mate (x : Int) : Int := if x % 2 = 0 then x + 1 else x - 1
theorem mate_mate (x : Int) : mate (mate x) = x := by unfold mate; split <;> split <;> omega
theorem mate_eq {a b : Int} : b = mate a ↔ a = mate b := ⟨fun h => by rw [h, mate_mate], fun h => by rw [h, mate_mate]⟩
theorem mate_range {n x : Int} (h0 : 0 ≤ x) (h1 : x < 2 * n) : 0 ≤ mate x ∧ mate x < 2 * n := by unfold mate; split <;> omega
def push (st : List Int) (x : Int) : List Int := if st.getLast? = some (mate x) then st.dropLast else st ++ [x]
def freed (w : List Int) : List Int := w.foldl push []
def undo (w : List Int) : List Int := w.reverse.map mate
def Rd (st : List Int) : Prop := ∀ i a b, st[i]? = some a → st[i + 1]? = some b → b ≠ mate a
theorem rd_nil : Rd [] := fun i a b h => by simp at h
theorem last_get {st : List Int} {a : Int} : st.getLast? = some a ↔ st ≠ [] ∧ st[st.length - 1]? = some a := by
  rw [List.getLast?_eq_getElem?]
  constructor
  · intro h
    refine ⟨fun e => ?_, h⟩
    subst e
    simp at h
  · exact fun h => h.2
theorem rd_push {st : List Int} {x : Int} (h : Rd st) : Rd (push st x) := by
  unfold push
  split
  · intro i a b h1 h2
    have e1 : i + 1 < st.dropLast.length := (List.getElem?_eq_some_iff.mp h2).1
    rw [List.length_dropLast] at e1
    rw [List.getElem?_dropLast, if_pos (by omega)] at h1
    rw [List.getElem?_dropLast, if_pos (by omega)] at h2
    exact h i a b h1 h2
  · rename_i hn
    intro i a b h1 h2
    have e1 : i + 1 < (st ++ [x]).length := (List.getElem?_eq_some_iff.mp h2).1
    rw [List.length_append, List.length_singleton] at e1
    by_cases hi : i + 1 < st.length
    · rw [List.getElem?_append_left (by omega)] at h1
      rw [List.getElem?_append_left hi] at h2
      exact h i a b h1 h2
    · have ei : i + 1 = st.length := by omega
      rw [List.getElem?_append_left (by omega)] at h1
      rw [List.getElem?_append_right (by omega)] at h2
      have e0 : i + 1 - st.length = 0 := by omega
      rw [e0] at h2
      have hb : x = b := by simpa using h2
      subst hb
      intro z
      apply hn
      rw [last_get]
      refine ⟨fun e => by rw [e] at ei; simp at ei, ?_⟩
      have e2 : st.length - 1 = i := by omega
      rw [e2, h1, mate_eq.mp z]
theorem snoc_of_last {st : List Int} {a : Int} (h : st.getLast? = some a) : st.dropLast ++ [a] = st := by
  have hne := (last_get.mp h).1
  have e := List.dropLast_concat_getLast hne
  have e2 : st.getLast hne = a := by
    rw [List.getLast?_eq_some_getLast hne] at h
    exact Option.some.inj h
  rw [e2] at e
  exact e
theorem push_push {st : List Int} {x : Int} (h : Rd st) : push (push st (mate x)) x = st := by
  unfold push
  split
  · rename_i h1
    rw [mate_mate] at h1
    have e := snoc_of_last h1
    have n : ¬ st.dropLast.getLast? = some (mate x) := by
      intro z
      obtain ⟨z1, z2⟩ := last_get.mp z
      have l0 : 0 < st.dropLast.length := List.length_pos_iff.mpr z1
      have hl : st.dropLast.length = st.length - 1 := List.length_dropLast
      have g1 : st[st.dropLast.length - 1]? = some (mate x) := by
        rw [← z2, List.getElem?_dropLast, if_pos (by omega)]
      have g2 : st[st.dropLast.length - 1 + 1]? = some x := by
        have := (last_get.mp h1).2
        have e3 : st.dropLast.length - 1 + 1 = st.length - 1 := by omega
        rw [e3]
        exact this
      exact h _ _ _ g1 g2 (mate_mate x).symm
    rw [if_neg n, e]
  · rename_i h1
    rw [if_pos (by simp), List.dropLast_concat]
theorem rd_fold : ∀ (w : List Int) {st : List Int}, Rd st → Rd (w.foldl push st)
  | [], _, h => h
  | a :: w, _, h => rd_fold w (rd_push h)
theorem snoc_ind {P : List Int → Prop} (h0 : P []) (h1 : ∀ l a, P l → P (l ++ [a])) (l : List Int) : P l := by
  have h : ∀ r : List Int, P r.reverse := by
    intro r
    induction r with
    | nil => exact h0
    | cons a r ih => rw [List.reverse_cons]; exact h1 _ _ ih
  have := h l.reverse
  rwa [List.reverse_reverse] at this
theorem fold_freed {st : List Int} (h : Rd st) (b : List Int) : b.foldl push st = (freed b).foldl push st := by
  induction b using snoc_ind with
  | h0 => rfl
  | h1 l a ih =>
    have e : freed (l ++ [a]) = push (freed l) a := by unfold freed; rw [List.foldl_append]; rfl
    rw [e, List.foldl_append, ih]
    show push ((freed l).foldl push st) a = _
    by_cases c : (freed l).getLast? = some (mate a)
    · have e2 := snoc_of_last c
      unfold push
      rw [if_pos c]
      show push ((freed l).foldl push st) a = _
      conv => lhs; rw [← e2, List.foldl_append]
      exact push_push (rd_fold _ h)
    · have e2 : push (freed l) a = freed l ++ [a] := by unfold push; rw [if_neg c]
      rw [e2, List.foldl_append]
      rfl
theorem rd_freed (w : List Int) : Rd (freed w) := rd_fold w rd_nil
theorem freed_freed (w : List Int) : freed (freed w) = freed w := (fold_freed rd_nil w).symm
theorem freed_app (a b : List Int) : freed (a ++ b) = freed (freed a ++ freed b) := by
  have e1 : freed (a ++ b) = (freed b).foldl push (freed a) := by
    unfold freed
    rw [List.foldl_append]
    exact fold_freed (rd_fold a rd_nil) b
  have e2 : freed (freed a ++ freed b) = (freed b).foldl push (freed a) := by
    show (freed a ++ freed b).foldl push [] = _
    rw [List.foldl_append]
    show (freed b).foldl push (freed (freed a)) = _
    rw [freed_freed]
  rw [e1, e2]
theorem undo_cons (a : Int) (w : List Int) : undo (a :: w) = undo w ++ [mate a] := by
  unfold undo
  rw [List.reverse_cons, List.map_append]
  rfl
theorem fold_undo : ∀ (w : List Int) {st : List Int}, Rd st → (w ++ undo w).foldl push st = st
  | [], _, _ => rfl
  | a :: w, st, h => by
    rw [undo_cons, List.cons_append, List.foldl_cons, ← List.append_assoc, List.foldl_append, fold_undo w (rd_push h)]
    show push (push st a) (mate a) = st
    have := push_push (x := mate a) h
    rw [mate_mate] at this
    exact this
theorem freed_undo (w : List Int) : freed (w ++ undo w) = [] := fold_undo w rd_nil
theorem freed_cut (u v : List Int) (b : Int) : freed (u ++ mate b :: b :: v) = freed (u ++ v) := by
  unfold freed
  rw [List.foldl_append, List.foldl_append, List.foldl_cons, List.foldl_cons, push_push (rd_fold u rd_nil)]
theorem freed_of_rd (w : List Int) : Rd w → freed w = w := by
  induction w using snoc_ind with
  | h0 => intro _; rfl
  | h1 l a ih =>
    intro h
    have hl : Rd l := fun i x y h1 h2 => h i x y (by rw [List.getElem?_append_left (List.getElem?_eq_some_iff.mp h1).1]; exact h1) (by rw [List.getElem?_append_left (List.getElem?_eq_some_iff.mp h2).1]; exact h2)
    have e : freed (l ++ [a]) = push (freed l) a := by unfold freed; rw [List.foldl_append]; rfl
    rw [e, ih hl]
    unfold push
    rw [if_neg]
    intro z
    obtain ⟨z1, z2⟩ := last_get.mp z
    have l0 : 0 < l.length := List.length_pos_iff.mpr z1
    refine h (l.length - 1) (mate a) a (by rw [List.getElem?_append_left (by omega)]; exact z2) ?_ (mate_mate a).symm
    have e3 : l.length - 1 + 1 = l.length := by omega
    rw [e3, List.getElem?_append_right (Nat.le_refl _)]
    simp
theorem mem_push {st : List Int} {x y : Int} (h : y ∈ push st x) : y ∈ st ∨ y = x := by
  unfold push at h
  split at h
  · exact .inl (List.dropLast_subset _ h)
  · simpa using h
theorem mem_fold : ∀ (w : List Int) {st : List Int} {y : Int}, y ∈ w.foldl push st → y ∈ st ∨ y ∈ w
  | [], _, _, h => .inl h
  | a :: w, _, y, h => by
    rcases mem_fold w h with h | h
    · rcases mem_push h with h | h
      · exact .inl h
      · exact .inr (by rw [h]; exact List.mem_cons_self)
    · exact .inr (List.mem_cons_of_mem _ h)
theorem mem_freed {w : List Int} {y : Int} (h : y ∈ freed w) : y ∈ w := by
  rcases mem_fold w h with h | h
  · cases h
  · exact h
theorem len_push (st : List Int) (x : Int) : (push st x).length ≤ st.length + 1 := by
  unfold push
  split
  · rw [List.length_dropLast]; omega
  · rw [List.length_append]; simp
theorem len_fold : ∀ (w : List Int) (st : List Int), (w.foldl push st).length ≤ st.length + w.length
  | [], _ => by simp
  | a :: w, st => by
    have h1 := len_fold w (push st a)
    have h2 := len_push st a
    rw [List.foldl_cons, List.length_cons]
    omega
theorem len_freed (w : List Int) : (freed w).length ≤ w.length := by
  have h := len_fold w []
  show (w.foldl push []).length ≤ _
  simp only [List.length_nil, Nat.zero_add] at h
  exact h
theorem freed_snoc (w : List Int) (a : Int) : freed (w ++ [a]) = push (freed w) a := by unfold freed; rw [List.foldl_append]; rfl
theorem undo_len (w : List Int) : (undo w).length = w.length := by unfold undo; rw [List.length_map, List.length_reverse]
end Wd
set_option maxRecDepth 100000
set_option maxHeartbeats 4000000
namespace L2
open PySem PySem.Spec PyProof.Rows
def Swaps1 (fd : FuncData) (a : Str) : Prop := ∀ (s : Shared) (z : Value), BindsTo s fd ⟨[], [(a, z)]⟩ [(a, z)]
theorem Fun.swaps1 {K : PySem.W.Frag} {x qual : Str} {st : Stmt} {f : Addr} {fd : FuncData} {a : Str} (F : Fun K x qual st f fd)
    (h : ∀ (kV doc pm : Value) (an : Option Addr) (cdv ct z : Value), bindArgs (PySem.W.fnOf x qual (defArgs st) (defBody st) (defScope st) .none kV doc pm an cdv ct) ⟨[], [(a, z)]⟩ = pure [(a, z)]) : Swaps1 fd a := by
  obtain ⟨oc, od, kV, doc, pm, an, cdv, ct, osl, rfl, lk, hcd⟩ := F.ex
  exact fun s z => BindsTo.of_eq (h kV doc pm an cdv ct z)
def tSw1 (sp : Sp) (E : XK) (t1 : TE) : TE := fun σ H Q => tCons t1 tNil σ H fun zs H2 => sp zs.reverse H2 Q E
section
variable {X : Cx} {CX : CXT} {k : Nat} {f : Addr} {fd : FuncData} {a : Str} {sp : Sp} {E : XK} {x : Str} {p p1 pos : Pos} {e1 : Expr} {t1 : TE}
theorem run_sw1 {pins : List (Addr × Obj)} {σ : St} {H : Hp} {s : Shared} {Q : VK} {z : V} {z' : Value} (F : FnOk X.prog X.w X.K X.mg X.base CX k f fd [a] sp) (hr : Room k X.A) (hb : Swaps1 fd a) (hx : Passes CX X E)
    (I : Inv X pins σ H s) (r1 : RelV z z') (h : sp [z] H Q E) : wpAny (model X.prog X.w) X.A (call (.ref f) [] [(a, z')]) (EP X pins σ Q) X.xe s := by
  refine wpAny_call (codeAny_mono (F.run X.A X.stack s H ⟨[], [(a, z')]⟩ [z'] [z] Q E hr I.env0 (hb s z') (.cons r1 .nil) h) fun r s' hq => ?_)
  cases r with
  | error e => exact hx pins σ H s e s' I hq
  | ok fl =>
    cases fl with
    | ret u => exact I.after hq
    | next => exact False.elim hq
    | brk => exact False.elim hq
    | cont => exact False.elim hq
theorem pe_callSw1 (F : FnOk X.prog X.w X.K X.mg X.base CX k f fd [a] sp) (hr : Room k X.A) (hg : Gl X x) (hm : X.mg x = some (.ref f)) (hk : PySem.W.keepIn X.K (.ref f) = true) (hb : Swaps1 fd a) (hx : Passes CX X E)
    (h1 : PE X e1 t1) (hdb : (x == ("__debug__" : Str)) = false := by decide)
    (hall : (backToKw pos (keywordEach [⟨some a, e1, p1⟩] X.env)).all (·.1.isSome) = true := by rfl) (hks : (backToKw pos (keywordEach [⟨some a, e1, p1⟩] X.env)).filterMap (·.1) = [a] := by rfl)
    (hpl : ((backTo pos (starEach [] X.env)).any (·.1) || (backToKw pos (keywordEach [⟨some a, e1, p1⟩] X.env)).any (·.1.isNone)) = false := by rfl) :
    PE X (.Call (.Name x p) [] [⟨some a, e1, p1⟩] pos) (tSw1 sp E t1) := by
  refine ⟨fun pins s σ H Q I h => ?_⟩
  refine wpAny_Call_Name_kw (ld_glob I hg hm ?_ hdb)
  refine PySem.W.callWith_KW0 (h₀ := X.base) I.ok.mod.kin hk hall ?_ hpl
  refine thn ((pk_cons h1 pk_nil).run pos pins s σ H _ I h) fun ws s2 ⟨zs, H2, J, rz, q⟩ => ⟨J.kIn, ?_⟩
  rw [hks]
  have hl := F.len _ _ _ _ q
  rw [List.length_reverse] at hl
  cases rz with
  | nil => exact absurd hl (by simp)
  | cons r1 rz =>
    cases rz with
    | nil => exact run_sw1 F hr hb hx J r1 q
    | cons r4 rz => exact absurd hl (by simp)
end
theorem dataLe_tups {β : Type} (x : β → List Int) : PySem.W.dataLe false (fun b => rowD (x b)) = fun p q => decide (x p ≤ x q) := by
  funext p q
  have e := congrFun (congrFun (PySem.W.dataLe_rows x) p) q
  rw [← e]
  show (!PySem.W.dataLt (.tuple ((x q).map PyData.int)) (.tuple ((x p).map PyData.int))) = !PySem.W.dataLt (.list ((x q).map PyData.int)) (.list ((x p).map PyData.int))
  rw [PySem.W.dataLt_tuple, PySem.W.dataLt_list]
def rSortTW (K : PySem.W.Frag) : List V → Hp → VK → Prop := fun vs H Q => ∃ (l : Addr) (bs : List (Addr × List Int)), vs = [.ref l] ∧ SqL K H l (bs.map fun b => V.ref b.1) ∧ (∀ b ∈ bs, b.2 ≠ [] ∧ SqT K H b.1 (b.2.map V.int)) ∧
  ∀ (bs' : List (Addr × List Int)) (p : Addr), bs'.Perm bs → bs'.Pairwise (fun a b => a.2 ≤ b.2) → H p = none → Q (.ref p) (upd H p (.lst (bs'.map fun b => V.ref b.1)))
theorem each_of {R : Value → Addr × List Int → Prop} (h : ∀ b : Addr × List Int, R (.ref b.1) b) : ∀ {bs : List (Addr × List Int)} {its : List Value}, Vals (bs.map fun b => V.ref b.1) its → PySem.W.EachIs R its bs
  | [], _, r => by
    cases r
    exact .nil
  | b :: bs, _, r => by
    cases r with
    | cons r1 r2 =>
      obtain rfl := r1
      exact .cons (h b) (each_of h r2)
theorem vals_each : ∀ {bs : List (Addr × List Int)} {its : List Value}, PySem.W.EachIs (fun v (b : Addr × List Int) => v = .ref b.1) its bs → Vals (bs.map fun b => V.ref b.1) its
  | _, _, .nil => .nil
  | _, _, .cons h t => by
    subst h
    exact .cons rfl (vals_each t)
section
variable {X : Cx}
theorem cr_sortedTW (hu : X.A.units + 64 < cLine) : CallR X (.builtin "sorted") (rSortTW X.K) := by
  intro pins s σ H vs us Q I r h
  obtain ⟨l, bs, rfl, hs, hb, q⟩ := h
  obtain ⟨its, rv, hl, hz⟩ := I.list hs
  rw [Vals.ref1 r]
  have lb : bs.length ≤ sizeLine := by rw [List.length_map] at hz; exact hz
  refine PySem.W.sorted_data (R := fun v (b : Addr × List Int) => v = .ref b.1) (enc := fun b => rowD b.2) hl.isList (each_of (fun _ => rfl) rv) ?_ ?_ ?_ lb (fun b _ => ?_) fun out ho eo => ?_
  · have e1 : PySem.W.EachIs (fun v (b : Addr × List Int) => v = .ref b.1) its bs := each_of (fun _ => rfl) rv
    refine (PySem.W.each_mem e1).mono fun v b ⟨e, hm⟩ => ?_
    subst e
    obtain ⟨as, r2⟩ := Dp.reads I (rowD b.2) (.ref b.1) (.ref b.1) (.tup (hb b hm).2 (dpAll_intsL H b.2)) rfl
    exact ⟨as, r2⟩
  · exact PySem.W.AllAlike.of fun b b' => PySem.W.alike_ints b.2 b'.2
  · refine .inl fun d hd => ?_
    obtain ⟨b, hm, rfl⟩ := List.mem_map.mp hd
    cases e : b.2 with
    | nil => exact absurd e (hb b hm).1
    | cons x m => exact ⟨.int x, m.map PyData.int, by show rowD _ = _; first | rfl | (rw [e]; rfl)⟩
  · have hd : (rowD b.2).depth = 1 := by
      show PyData.depthAll (b.2.map PyData.int) + 1 = 1
      rw [PySem.W.depth_ints]
    rw [hd]
    omega
  · obtain ⟨ep, he'⟩ := PyProof.Rows.sortedAll_at s.heap its out.toArray
    have hp := List.mergeSort_perm bs (PySem.W.dataLe false fun b : Addr × List Int => rowD b.2)
    have hw : (bs.mergeSort (PySem.W.dataLe false fun b : Addr × List Int => rowD b.2)).Pairwise (fun a b => a.2 ≤ b.2) := by
      rw [dataLe_tups (fun b : Addr × List Int => b.2)]
      refine (List.pairwise_mergeSort (le := fun p q : Addr × List Int => decide (p.2 ≤ q.2)) (fun a b c h1 h2 => ?_) (fun a b => ?_) bs).imp fun h => of_decide_eq_true h
      · exact decide_eq_true (List.le_trans (of_decide_eq_true h1) (of_decide_eq_true h2))
      · rcases List.le_total a.2 b.2 with h | h
        · rw [decide_eq_true h]
          rfl
        · rw [decide_eq_true h, Bool.or_true]
    have hv := vals_each eo
    have hlen : ((bs.mergeSort (PySem.W.dataLe false fun b : Addr × List Int => rowD b.2)).map fun b => V.ref b.1).length ≤ sizeLine := by
      rw [List.length_map, hp.length_eq]
      exact lb
    exact ⟨.ref _, upd H (s.heap.objs.size + 1) (.lst _), I.laid (t' := s.toks) (fun _ _ => PyProof.Rows.sortedAll_old) (Nat.le_succ _) ⟨hlen, out, ep, hv, he'⟩, rfl, q _ _ hp hw (I.hok.fresh (Nat.le_succ _))⟩
end
end L2
set_option maxRecDepth 100000
set_option maxHeartbeats 4000000
namespace SmT
open PySem PySem.Spec PyProof.Rows HT
theorem args_sum2 (a b : Value) : PySem.argsOk "sum" ⟨[a, b], []⟩ := by unfold PySem.argsOk; kernel_rfl
section
variable {prog : Program} {w : World} {A : Around} {R : Result → Shared → Prop}
def cat (ts : List (Addr × List Value)) (i : Nat) : List Value := ((ts.take i).map (·.2)).flatten
theorem cat_next {ts : List (Addr × List Value)} {i : Nat} {p : Addr × List Value} (h : ts[i]? = some p) : cat ts (i + 1) = cat ts i ++ p.2 := by
  unfold cat
  rw [List.take_add_one, h]
  simp
theorem cat_len (ts : List (Addr × List Value)) (i : Nat) : (cat ts i).length ≤ (cat ts ts.length).length := by
  unfold cat
  rw [List.take_length]
  have e : ((ts.take i).map (·.2)).flatten ++ ((ts.drop i).map (·.2)).flatten = (ts.map (·.2)).flatten := by
    rw [← List.flatten_append, ← List.map_append, List.take_append_drop]
  rw [← e, List.length_append]
  omega
def At (h0 : Heap) (t0 : Addr) (ts : List (Addr × List Value)) (i : Nat) (a : Addr) : Prop := (i = 0 ∧ a = t0) ∨ (i = 1 ∧ ∃ p, ts[0]? = some p ∧ a = p.1) ∨ (2 ≤ i ∧ h0.get? a = none)
theorem loop {it l S t0 : Addr} {ts : List (Addr × List Value)} {h0 : Heap} (hh : A.handled = none) (hli : l ≠ it) (hSi : S ≠ it) (hSl : S ≠ l) (n1 : h0.get? it = none) (n2 : h0.get? S = none)
    (ht0 : IsTup h0 t0 #[]) (hts : ∀ p ∈ ts, IsTup h0 p.1 p.2.toArray ∧ p.2 ≠ []) (hz : (cat ts ts.length).length ≤ sizeLine) :
    ∀ (k i : Nat) (s : Shared) (acc : Addr) (c : Nat), ts.length - i = k → i ≤ ts.length → s.heap.IsListIter it l i → s.heap.IsList l (ts.map fun p => Value.ref p.1).toArray →
    s.heap.get? S = some { cls := .type "list", dict := none, data := .seq #[.ref acc] c, slots := #[] } → (∀ b o, h0.get? b = some o → s.heap.get? b = some o) → At h0 t0 ts i acc → IsTup s.heap acc (cat ts i).toArray → acc ≠ it → acc ≠ S →
    (∀ (h' : Heap) (tk : Tok) (a : Addr), (∀ b o, h0.get? b = some o → h'.get? b = some o) → At h0 t0 ts ts.length a → IsTup h' a (cat ts ts.length).toArray → R (.ok (.ret (.ref a))) { s with heap := h', toks := tk }) →
    codeAny (model prog w) A (.builtin "sum.loop" ⟨[.ref it, .ref S, rawInt 2, rawInt 0], []⟩) R s := by
  have W := (PySem.Walks.list (prog := prog) (w := w) (A := A.in1) hh it l hli (ts.map fun p => Value.ref p.1).toArray).toS
  have eN : ((ts.map fun p => Value.ref p.1).toArray).size = ts.length := by simp
  rw [eN] at W
  intro k
  induction k with
  | zero =>
    intro i s acc c hk hi hit hl hS old ha htu na nS hR
    have hin : i = ts.length := by omega
    subst hin
    refine PySem.codeAny_builtin PySem.F.entry_sum_loop ?_
    rw [Around.under_plainId PySem.F.plain_sum_loop _]
    show wpAny _ A.in1 (seqItems? (.ref S) >>= _) _ _ s
    refine wpAny_bind (PySem.wpAny_seqItems hS rfl ?_)
    show wpAny _ A.in1 (tryCatch (pyNext (.ref it)) _ >>= _) _ _ s
    refine wpAny_bind (wpAny_tryCatch (W.done s _ _ ⟨hit, hl⟩ fun s' hm => ?_))
    refine wpAny_pure ?_
    rw [PySem.Moved.eq_with hm]
    have keep : ∀ b o, b ≠ it → s.heap.get? b = some o → s'.heap.get? b = some o := fun b o hb e => hm.heap b o (by simpa using hb) e
    exact hR s'.heap s'.toks acc (fun b o e => keep b o (fun z => by rw [z, n1] at e; cases e) (old b o e)) ha (by
      obtain ⟨o, ho, r⟩ := htu
      exact ⟨o, keep _ _ na ho, r⟩)
  | succ k ih =>
    intro i s acc c hk hi hit hl hS old ha htu na nS hR
    have hlt : i < ts.length := by omega
    obtain ⟨p, hp⟩ : ∃ p, ts[i]? = some p := ⟨_, List.getElem?_eq_getElem hlt⟩
    obtain ⟨tp, pne⟩ := hts p (List.mem_of_getElem? hp)
    refine PySem.codeAny_builtin PySem.F.entry_sum_loop ?_
    rw [Around.under_plainId PySem.F.plain_sum_loop _]
    show wpAny _ A.in1 (seqItems? (.ref S) >>= _) _ _ s
    refine wpAny_bind (PySem.wpAny_seqItems hS rfl ?_)
    show wpAny _ A.in1 (tryCatch (pyNext (.ref it)) _ >>= _) _ _ s
    refine wpAny_bind (wpAny_tryCatch (W.item i s _ _ hlt ⟨hit, hl⟩ fun v s' hP hst' hm => ?_))
    have ev : v = .ref p.1 := by
      have h2 : ((ts.map fun p => Value.ref p.1).toArray)[i]? = some v := hP
      rw [List.getElem?_toArray, List.getElem?_map, hp] at h2
      exact (Option.some.inj h2).symm
    subst ev
    rw [PySem.Moved.eq_with hm]
    have keep : ∀ b o, b ≠ it → s.heap.get? b = some o → s'.heap.get? b = some o := fun b o hb e => hm.heap b o (by simpa using hb) e
    have hS' := keep _ _ hSi hS
    have old' : ∀ b o, h0.get? b = some o → s'.heap.get? b = some o := fun b o e => keep b o (fun z => by rw [z, n1] at e; cases e) (old b o e)
    have htu' : IsTup s'.heap acc (cat ts i).toArray := by
      obtain ⟨o, ho, r⟩ := htu
      exact ⟨o, keep _ _ na ho, r⟩
    have tp' : IsTup s'.heap p.1 p.2.toArray := by
      obtain ⟨o, ho, r⟩ := tp
      exact ⟨o, old' _ _ ho, r⟩
    obtain ⟨hit', hl'⟩ := hst'
    generalize s'.heap = h1 at keep hS' old' htu' tp' hit' hl'
    generalize s'.toks = t1
    clear hm hP
    have hpn : h0.get? p.1 ≠ none := by
      obtain ⟨o, ho, r⟩ := tp
      rw [ho]
      exact fun z => nomatch z
    have pit : p.1 ≠ it := fun z => hpn (by rw [z]; exact n1)
    have pS : p.1 ≠ S := fun z => hpn (by rw [z]; exact n2)
    have add : ∀ (E : Value → Shared → Prop), wpAny (model prog w) A.in1 (binaryOp .Add (.ref acc) (.ref p.1)) (fun v s2 => ∃ (r : Addr) (h2 : Heap), v = .ref r ∧ s2 = { s with heap := h2, toks := t1 } ∧ (∀ b o, h1.get? b = some o → h2.get? b = some o) ∧
        At h0 t0 ts (i + 1) r ∧ IsTup h2 r (cat ts (i + 1)).toArray ∧ r ≠ it ∧ r ≠ S) E { s with heap := h1, toks := t1 } := fun E => by
      have en := cat_next hp
      by_cases hw : cat ts i = []
      · rw [hw, List.nil_append] at en
        rw [hw] at htu'
        refine L2.cat_tup0 htu' tp' ⟨p.1, h1, rfl, rfl, fun _ _ e => e, ?_, by rw [en]; exact tp', pit, pS⟩
        have i0 : i = 0 := by
          refine Classical.byContradiction fun z => ?_
          obtain ⟨q, hq⟩ : ∃ q, ts[0]? = some q := ⟨_, List.getElem?_eq_getElem (by omega)⟩
          have e2 : cat ts i = q.2 ++ (((ts.take i).drop 1).map (·.2)).flatten := by
            unfold cat
            cases ts with
            | nil => simp at hq
            | cons a m =>
              have : a = q := by simpa using hq
              subst this
              cases i with
              | zero => exact absurd rfl z
              | succ i => simp
          rw [e2] at hw
          exact (hts q (List.mem_of_getElem? hq)).2 (List.append_eq_nil_iff.mp hw).1
        subst i0
        exact .inr (.inl ⟨rfl, p, hp, rfl⟩)
      · have sz := cat_len ts (i + 1)
        rw [en, List.length_append] at sz
        refine cat_tup htu' tp' hw (fun z => absurd z pne) (fun _ => ⟨h1.objs.size, _, rfl, rfl, fun b o e => Heap.get?_push_of_some _ e, .inr (.inr ⟨?_, ?_⟩), ?_, ?_, ?_⟩) (by omega)
        · refine Classical.byContradiction fun z => ?_
          have i0 : i = 0 := by omega
          subst i0
          exact hw rfl
        · cases e : h0.get? h1.objs.size with
          | none => rfl
          | some o => exact absurd (Heap.lt_size (old' _ _ e)) (Nat.lt_irrefl _)
        · rw [en]
          exact IsTup.new _ _
        · obtain ⟨o, ho, _⟩ := hit'
          exact fun z => absurd (Heap.lt_size ho) (by rw [← z]; exact Nat.lt_irrefl _)
        · exact fun z => absurd (Heap.lt_size hS') (by rw [← z]; exact Nat.lt_irrefl _)
    show wpAny _ A.in1 ((holding [Value.ref p.1] (binaryOp .Add (.ref acc) (.ref p.1))).attempt >>= _) _ _ _
    refine wpAny_bind (wpAny_attempt (wpAny_holding (wpAny_mono (add _) (fun v s2 hv => ?_) fun _ _ e => e)))
    obtain ⟨r, h2, rfl, rfl, k2, at2, tu2, rit, rS⟩ := hv
    have hS2 := k2 _ _ hS'
    show wpAny _ A.in1 (updateSeq S (fun _ => #[Value.ref r]) >>= _) _ _ _
    refine wpAny_bind (PySem.wpAny_updateSeq hS2 rfl ?_)
    have hS3 := Heap.get?_update_self (Obj.mapSeq fun _ => #[Value.ref r]) hS2 rfl
    refine wpAny_bind (PySem.wpAny_letGo ?_)
    refine wpAny_bind (PySem.wpAny_updateSeq hS3 rfl (wpAny_pure ⟨plainId_quiet PySem.F.plain_sum_loop _, ?_⟩))
    have up : ∀ b o, b ≠ S → h2.get? b = some o → (((h2.update S (Obj.mapSeq fun _ => #[Value.ref r])).update S (Obj.mapSeq fun _ => #[Value.ref r]))).get? b = some o := fun b o hb e =>
      (Heap.get?_update_other _ _ (fun h : S = b => hb h.symm)).trans ((Heap.get?_update_other _ _ (fun h : S = b => hb h.symm)).trans e)
    refine ih (i + 1) { s with heap := _, toks := t1 } r _ (by omega) hlt ?_ ?_ (Heap.get?_update_self _ hS3 rfl) (fun b o e => ?_) at2 ?_ rit rS fun h' tk a q1 q2 q3 => hR h' tk a q1 q2 q3
    · obtain ⟨o, ho, q⟩ := hit'
      exact ⟨o, up _ _ (fun z => hSi z.symm) (k2 _ _ ho), q⟩
    · obtain ⟨o, ho, q⟩ := hl'
      exact ⟨o, up _ _ (fun z => hSl z.symm) (k2 _ _ ho), q⟩
    · exact up _ _ (fun z => by rw [z, n2] at e; cases e) (k2 _ _ (old' _ _ e))
    · obtain ⟨o, ho, q⟩ := tu2
      exact ⟨o, up _ _ rS ho, q⟩
end
end SmT
set_option maxRecDepth 100000
set_option maxHeartbeats 4000000
namespace SmT
open PySem PySem.Spec PyProof.Rows HT
section
variable {prog : Program} {w : World} {A : Around} {E : Value → Shared → Prop} {s : Shared}
theorem call_sumT {l t0 : Addr} {ts : List (Addr × List Value)} {Q : Value → Shared → Prop} (hh : A.handled = none) (hl : s.heap.IsList l (ts.map fun p => Value.ref p.1).toArray)
    (ht0 : IsTup s.heap t0 #[]) (hts : ∀ p ∈ ts, IsTup s.heap p.1 p.2.toArray ∧ p.2 ≠ []) (hz : (cat ts ts.length).length ≤ sizeLine)
    (h : ∀ (h' : Heap) (tk : Tok) (a : Addr), (∀ b o, s.heap.get? b = some o → h'.get? b = some o) → At s.heap t0 ts ts.length a → IsTup h' a (cat ts ts.length).toArray → Q (.ref a) { s with heap := h', toks := tk }) :
    wpAny (model prog w) A (call (.builtin "sum") [.ref l, .ref t0]) Q E s := by
  have tT : ∀ {h' : Heap} {tk : Tok}, (∀ b o, s.heap.get? b = some o → h'.get? b = some o) → Shared.TypeIs { s with heap := h', toks := tk } (.ref t0) "tuple" := fun k => by
    obtain ⟨o, ho, hc, _⟩ := ht0
    exact ⟨o, k _ _ ho, hc⟩
  refine call_function_tree PySem.F.kind_sum PySem.F.plain_sum PySem.F.entry_sum (args_sum2 _ _) ?_
  unfold Builtin.«sum»
  simp only [List.length_cons, List.length_nil]
  rw [if_neg (by decide)]
  refine wpAny_bind (wpAny_of_eq (show Builtin.Builtins.bindParams "sum" ["start"] 0 ⟨[.ref t0], []⟩ = pure [some (.ref t0)] from rfl) ?_)
  refine wpAny_bind (PySem.wpAny_pyIter_list hl ?_)
  refine wpAny_bind (wpAny_pure ?_)
  have k1 : ∀ b o, s.heap.get? b = some o → (s.heap.push { cls := .type "list_iterator", data := .fields #[.ref l, .int 0 0] }).get? b = some o := fun b o e => Heap.get?_push_of_some _ e
  have hI : (s.heap.push { cls := .type "list_iterator", data := .fields #[.ref l, .int 0 0] }).get? s.heap.objs.size = some { cls := .type "list_iterator", data := .fields #[.ref l, .int 0 0] } := Heap.get?_push_size _ rfl
  have sz : (s.heap.push { cls := .type "list_iterator", data := .fields #[.ref l, .int 0 0] }).objs.size = s.heap.objs.size + 1 := Heap.size_push ..
  generalize hh1 : s.heap.push { cls := .type "list_iterator", data := .fields #[.ref l, .int 0 0] } = h1 at k1 hI sz
  simp only [List.forIn_cons, List.forIn_nil]
  refine wpAny_bind (wpAny_bind (wpAny_bind (wpAny_isInstance (T := "tuple") (b := false) (tT (tk := s.toks) k1) PySem.F.sub_tuple_str ?_)))
  simp only [Bool.false_eq_true, if_false]
  refine wpAny_pure (wpAny_bind (wpAny_bind (wpAny_isInstance (T := "tuple") (b := false) (tT (tk := s.toks) k1) PySem.F.sub_tuple_bytes ?_)))
  simp only [Bool.false_eq_true, if_false]
  refine wpAny_pure (wpAny_bind (wpAny_bind (wpAny_isInstance (T := "tuple") (b := false) (tT (tk := s.toks) k1) PySem.F.sub_tuple_bytearray ?_)))
  simp only [Bool.false_eq_true, if_false]
  refine wpAny_pure (wpAny_pure ?_)
  refine wpAny_bind (wpAny_newObj_type ?_)
  have ll : l < s.heap.objs.size := by obtain ⟨o, ho, _⟩ := hl; exact Heap.lt_size ho
  have none1 : ∀ b, s.heap.objs.size ≤ b → s.heap.get? b = none := fun b hb => by
    cases e : s.heap.get? b with
    | none => rfl
    | some o => exact absurd (Heap.lt_size e) (Nat.not_lt.mpr hb)
  have t0l : t0 < s.heap.objs.size := by obtain ⟨o, ho, _⟩ := ht0; exact Heap.lt_size ho
  have k2 : ∀ b o, s.heap.get? b = some o → (h1.push { cls := .type "list", data := .seq #[.ref t0] }).get? b = some o := fun b o e => Heap.get?_push_of_some _ (k1 _ _ e)
  refine wpAny_pure ⟨plainId_quiet PySem.F.plain_sum_loop _, loop (it := s.heap.objs.size) (l := l) (S := h1.objs.size) (t0 := t0) (ts := ts) (h0 := s.heap) hh (Nat.ne_of_lt ll) (by rw [sz]; exact Nat.succ_ne_self _) (by rw [sz]; exact Nat.ne_of_gt (Nat.lt_succ_of_lt ll)) (none1 _ (Nat.le_refl _)) (none1 _ (by rw [sz]; exact Nat.le_succ _)) ht0 hts hz
    _ 0 _ t0 _ rfl (Nat.zero_le _) ?_ ?_ (Heap.get?_push_size _ rfl) k2 (.inl ⟨rfl, rfl⟩) ?_ (Nat.ne_of_lt t0l) (by rw [sz]; exact Nat.ne_of_lt (Nat.lt_succ_of_lt t0l)) fun h' tk a q1 q2 q3 => h h' tk a q1 q2 q3⟩
  · exact ⟨_, Heap.get?_push_of_some _ hI, rfl, rfl⟩
  · obtain ⟨o, ho, q⟩ := hl
    exact ⟨o, k2 _ _ ho, q⟩
  · obtain ⟨o, ho, q⟩ := ht0
    exact ⟨o, k2 _ _ ho, by simpa [cat] using q⟩
end
end SmT
namespace L2
open PySem PySem.Spec PyProof.Rows HT
def rSumT (K : PySem.W.Frag) : List V → Hp → VK → Prop := fun vs H Q => ∃ (l t0 : Addr) (bs : List (Addr × List V)), vs = [.ref l, .ref t0] ∧ SqL K H l (bs.map fun b => V.ref b.1) ∧ SqT K H t0 [] ∧ (∀ b ∈ bs, b.2 ≠ [] ∧ SqT K H b.1 b.2) ∧ ((bs.map (·.2)).flatten).length ≤ sizeLine ∧
  ∀ a H', Same H H' → SqT K H' a (bs.map (·.2)).flatten → Q (.ref a) H'
section
variable {X : Cx}
theorem tups_of {pins : List (Addr × Obj)} {σ : St} {H : Hp} {s : Shared} (I : Inv X pins σ H s) : ∀ (bs : List (Addr × List V)), (∀ b ∈ bs, b.2 ≠ [] ∧ SqT X.K H b.1 b.2) →
    ∃ ts : List (Addr × List Value), ts.map (·.1) = bs.map (·.1) ∧ (∀ p ∈ ts, IsTup s.heap p.1 p.2.toArray ∧ p.2 ≠ []) ∧ Vals (bs.map (·.2)).flatten (ts.map (·.2)).flatten
  | [], _ => ⟨[], rfl, fun _ h => absurd h (by simp), .nil⟩
  | b :: bs, h => by
    obtain ⟨h1, h2⟩ := h b List.mem_cons_self
    obtain ⟨ts, e1, e2, e3⟩ := tups_of I bs fun c hc => h c (List.mem_cons_of_mem _ hc)
    obtain ⟨its, r1, p1, _⟩ := I.tuple h2
    refine ⟨(b.1, its) :: ts, by rw [List.map_cons, List.map_cons, e1], fun p hp => ?_, ?_⟩
    · rcases List.mem_cons.mp hp with rfl | hp
      · exact ⟨p1, fun (z : its = []) => h1 (by have hl := r1.length; rw [z] at hl; exact List.length_eq_zero_iff.mp hl)⟩
      · exact e2 p hp
    · rw [List.map_cons, List.map_cons, List.flatten_cons, List.flatten_cons]
      exact r1.append e3
theorem cr_sumT (hc : X.calm = true) : CallR X (.builtin "sum") (rSumT X.K) := by
  intro pins s σ H vs us Q I r h
  obtain ⟨l, t0, bs, rfl, hs, ht, hb, hz, q⟩ := h
  obtain ⟨its, rv, hl, _⟩ := I.list hs
  obtain ⟨it0, r0, p0, _⟩ := I.tuple ht
  cases r0
  obtain ⟨ts, e1, e2, e3⟩ := tups_of I bs hb
  obtain ⟨u1, u2, rfl, ru1, ru2⟩ := vals2 r
  cases ru1
  cases ru2
  have eL : its = ts.map fun p => Value.ref p.1 := by
    have h1 : ts.map (fun p => Value.ref p.1) = (ts.map (·.1)).map Value.ref := by rw [List.map_map]; rfl
    rw [h1, e1]
    refine refs_at ?_
    rw [List.map_map]
    exact rv
  have eC : SmT.cat ts ts.length = (ts.map (·.2)).flatten := by
    unfold SmT.cat
    rw [List.take_length]
  rw [eL] at hl
  refine SmT.call_sumT (I.ok.hd hc) hl.isList p0 e2 (by rw [eC, ← e3.length]; exact hz) fun h' tk a k1 at1 tu => ?_
  rw [eC] at tu
  have hI := I.kept (t' := tk) k1
  have len : ts.length = bs.length := by
    have := congrArg List.length e1
    rw [List.length_map, List.length_map] at this
    exact this
  rcases at1 with ⟨n0, rfl⟩ | ⟨n1, p, hp, rfl⟩ | ⟨_, hn⟩
  · refine ⟨.ref a, H, hI, rfl, q a H (fun _ _ e => e) ?_⟩
    have : bs = [] := List.length_eq_zero_iff.mp (by omega)
    rw [this]
    exact ht
  · refine ⟨.ref p.1, H, hI, rfl, q p.1 H (fun _ _ e => e) ?_⟩
    cases bs with
    | nil =>
      rw [n1] at len
      exact absurd len (by simp)
    | cons b m =>
      have m0 : m = [] := List.length_eq_zero_iff.mp (by rw [List.length_cons] at len; omega)
      subst m0
      have ep : p.1 = b.1 := by
        cases ts with
        | nil => simp at hp
        | cons c k =>
          have : c = p := by simpa using hp
          subst this
          exact (List.cons.inj e1).1
      rw [ep]
      simpa using (hb b List.mem_cons_self).2
  · refine ⟨.ref a, upd H a (.tup (bs.map (·.2)).flatten), I.laidN (t' := tk) k1 hn (I.hok.gone hn) ⟨hz, _, e3, tu⟩, rfl, q a _ (fun b o e => ?_) (.inl (.inl (upd_same)))⟩
    rw [upd_ne (ne_of_none e (I.hok.gone hn))]
    exact e
end
end L2
set_option maxRecDepth 100000
set_option maxHeartbeats 4000000
namespace EnT
open PySem PySem.Spec PyProof.Rows
open AutoSeq1 (wpAny_loadPart')
theorem meets_newT (l : Addr) (items : Array Value) (n : Nat) (dct : Option Addr) (sl : Array (Option Value)) :
    Meets (Builtin.«enumerate.__new__» ⟨[.type "enumerate", .ref l], []⟩) (fun _ R s => s.heap.get? l = some { cls := .type "tuple", dict := dct, data := .seq items n, slots := sl } ∧
      R (.ok (.ret (.ref (s.heap.push { cls := .type "tuple_iterator", data := .fields #[.ref l, .int 0 0] }).objs.size)))
        { s with heap := (s.heap.push { cls := .type "tuple_iterator", data := .fields #[.ref l, .int 0 0] }).push { cls := .type "enumerate", data := .fields #[.none, .bool false, .ref s.heap.objs.size, rawInt 0, .none, .none] } }) :=
  .of_wp fun prog w A R s h => by
    obtain ⟨hp, g, d, tk, os⟩ := s; obtain ⟨hl, h⟩ := h
    have hsub := PySem.sub_enumerate
    have hL : Heap.IsTuple (Shared.heap ⟨hp, g, d, tk, os⟩) l items := ⟨_, hl, rfl, n, rfl⟩
    wp_walk using wpAny_loadPart' hl
    refine wpAny_stack_any fun st => wpAny_pure ?_
    split
    · rename_i c _ _ _ _ _
      cases (c == Value.type "enumerate")
      · wp_walk using wpAny_loadPart' hl, PySem.wpAny_pyIter_tuple hL
        exact ⟨_, rfl, h⟩
      · wp_walk using wpAny_loadPart' hl, PySem.wpAny_pyIter_tuple hL
        exact ⟨_, rfl, h⟩
    · wp_walk using wpAny_loadPart' hl, PySem.wpAny_pyIter_tuple hL
      exact ⟨_, rfl, h⟩
section
variable {prog : Program} {w : World} {A : Around} {E : Value → Shared → Prop} {s : Shared}
theorem call_enumT {l : Addr} {items : Array Value} {Q : Value → Shared → Prop} (hL : s.heap.IsTuple l items)
    (h : ∀ h', IsEnum h' (s.heap.objs.size + 1) s.heap.objs.size 0 .none → h'.IsTupleIter s.heap.objs.size l 0 → h'.objs.size = s.heap.objs.size + 2 →
      (∀ b o, s.heap.get? b = some o → h'.get? b = some o) → Q (.ref (s.heap.objs.size + 1)) { s with heap := h' }) :
    wpAny (model prog w) A (call (.type "enumerate") [.ref l]) Q E s := by
  obtain ⟨⟨c, dct, dt, sl⟩, hl, hc, n, hd⟩ := hL
  replace hc : c = .type "tuple" := hc
  replace hd : dt = .seq items n := hd
  subst hc hd
  refine callType_new PySem.F.called_enumerate (by decide) (PySem.F.typeCall_enumerate_1 _) (PySem.F.newCall_enumerate_1 _) (fun obj => PySem.F.args_object_init_2 obj _) PySem.F.entry_enumerate_new
    (meets_newT l items n dct sl) ⟨hl, ?_⟩
  have hz : (s.heap.push { cls := .type "tuple_iterator", data := .fields #[.ref l, .int 0 0] }).objs.size = s.heap.objs.size + 1 := Heap.size_push ..
  show _ ∧ _
  rw [hz]
  have he : IsEnum ((s.heap.push { cls := .type "tuple_iterator", data := .fields #[.ref l, .int 0 0] }).push
      { cls := .type "enumerate", data := .fields #[.none, .bool false, .ref s.heap.objs.size, rawInt 0, .none, .none] }) (s.heap.objs.size + 1) s.heap.objs.size 0 .none := by
    have := Heap.get?_push_size (s.heap.push { cls := .type "tuple_iterator", data := .fields #[.ref l, .int 0 0] })
      (o := { cls := .type "enumerate", data := .fields #[.none, .bool false, .ref s.heap.objs.size, rawInt 0, .none, .none] }) rfl
    rw [hz] at this; exact this
  refine ⟨⟨_, he, rfl⟩, h _ he ⟨_, Heap.get?_push_of_some _ (Heap.get?_push_size _ rfl), rfl, rfl⟩ (by rw [Heap.size_push, hz]) fun b o x => Heap.get?_push_of_some _ (Heap.get?_push_of_some _ x)⟩
end
end EnT
namespace L2
open PySem PySem.Spec PyProof.Rows HT
def Iteu (K : PySem.W.Frag) (a : Addr) : It :=
  ⟨fun i H => ∃ (xs : List V) (x : V), SqT K H a xs ∧ xs[i]? = some x, fun i H v H' => ∃ T x, v = .ref T ∧ H T = none ∧ H' = upd H T (.tup [.int (i : Nat), x]) ∧ ∀ xs, SqT K H a xs → xs[i]? = some x, fun i H => ∃ xs : List V, SqT K H a xs ∧ xs.length ≤ i⟩
theorem tuple_of {h : Heap} {a : Addr} {items : Array Value} (x : IsTup h a items) : h.IsTuple a items := by
  obtain ⟨o, ho, hc, n, hd⟩ := x
  exact ⟨o, ho, hc, n, hd⟩
theorem turn_enumU {P : Program} {w : World} {K : PySem.W.Frag} {elts : List Expr} {kk : Nat} {tpos : Pos} (a e it : Addr) :
    Turn P w K (.Tuple elts kk tpos) (Iteu K a) [e, it] e (fun i h => (∃ old, IsEnum h e it ((i : Nat) : Int) old) ∧ h.IsTupleIter it a i ∧ e ≠ it) where
  mem := by simp
  obj := fun i h st b hb => by
    obtain ⟨⟨old, he⟩, ⟨o, ho, hc, hd⟩, _⟩ := st
    have e' : b = e ∨ b = it := by simpa using hb
    rcases e' with z | z
    · rw [z]; exact ⟨_, he, fun v q => nomatch q⟩
    · rw [z]; exact ⟨o, ho, fun v q => by rw [hd] at q; cases q⟩
  keep := fun i h h' st k => let ⟨⟨old, he⟩, hi, hne⟩ := st; ⟨⟨old, k e (by simp) _ he⟩, hi.at fun o q => k it (by simp) o q, hne⟩
  item := by
    intro X hP hw hK hc i pins s σ H E I hf st hg
    subst hP hw hK
    obtain ⟨⟨old, he⟩, hit, hne⟩ := st
    obtain ⟨xs, x, hq, hx⟩ := hg
    obtain ⟨its, rv, p, hz⟩ := I.tuple hq
    obtain ⟨u, hu, ru⟩ := rv.get hx
    have hel : e < s.heap.objs.size := Heap.lt_size he
    have hil : it < s.heap.objs.size := by obtain ⟨_, q, _⟩ := hit; exact Heap.lt_size q
    have pt := tuple_of p
    have hai : a ≠ it := fun z => by
      obtain ⟨o, ho, hc, _⟩ := hit
      obtain ⟨o2, ho2, hc2, _⟩ := pt
      rw [z, ho] at ho2
      cases ho2
      rw [hc] at hc2
      exact absurd hc2 (by simp)
    have hae : a ≠ e := fun z => by
      obtain ⟨o2, ho2, hc2, _⟩ := pt
      rw [z, he] at ho2
      cases ho2
      exact absurd hc2 (by simp)
    have hi : i < its.toArray.size := by
      rw [List.size_toArray]
      exact (List.getElem?_eq_some_iff.mp hu).1
    refine PySem.wpAny_pyNext_enum_itemD (PySem.Draws.tuple (prog := X.prog) (w := X.w) (A := X.A.in1) (I.ok.hd hc) it a hai its.toArray) he ⟨hit, pt⟩ hi hne (by simpa using ⟨hne, fun z => hae z.symm⟩) fun x' h' tk hP ho hst' hT hsz hk => ?_
    have ex : x' = u := by
      have hP' : its.toArray[i]? = some x' := hP
      rw [List.getElem?_toArray, hu] at hP'
      exact (Option.some.inj hP').symm
    subst ex
    obtain ⟨hit', _⟩ := hst'
    refine ⟨_, rfl, wpAny_letOwnedTupleGo_enum (s := { s with heap := h', toks := tk + 1 }) ho fun h'' he' sb => ?_⟩
    have hT2 : h''.get? s.heap.objs.size = some { cls := .type "tuple", data := .seq #[.int i tk, x'] } := (sb.2 _ (Nat.ne_of_gt hel)).trans hT
    have new : ObjOk X.prog X.w (upd H s.heap.objs.size (.tup [.int (i : Nat), x])) h'' s.heap.objs.size (.tup [.int (i : Nat), x]) :=
      ⟨by show 2 ≤ sizeLine; decide, [.int i tk, x'], .cons ⟨_, rfl⟩ (.cons ru .nil), ⟨_, hT2, rfl, _, rfl⟩⟩
    have I1 : Inv X pins σ (upd H s.heap.objs.size (.tup [.int (i : Nat), x])) { s with heap := h'', toks := tk + 1 } :=
      I.turnedNew (ch := [e, it]) (fun b ob hb q => (sb.2 b (fun z => hb (by simp [z]))).trans (hk b ob (fun z => hb (by simp [z])) (fun z => hb (by simp [z])) q)) hf (Nat.le_refl _) new
    refine ⟨.ref s.heap.objs.size, _, I1, rfl, ⟨_, x, rfl, I.hok.fresh (Nat.le_refl _), rfl, fun ys hy => by rw [I.tuple_inj hy hq]; exact hx⟩, ⟨⟨x', ?_⟩, hit'.at fun o q => (sb.2 it (Ne.symm hne)).trans q, hne⟩, fun b hb => ?_⟩
    · have e1 : ((i + 1 : Nat) : Int) = (i : Int) + 1 := by omega
      rw [e1]; exact he'
    · have hb' : b < s.heap.objs.size := by
        have e' : b = e ∨ b = it := by simpa using hb
        rcases e' with z | z
        · rw [z]; exact hel
        · rw [z]; exact hil
      rw [upd_ne (Nat.ne_of_lt hb')]
      exact (hf b hb).1
  done := by
    intro X hP hw hK hc i pins s σ H E I hf st hg
    subst hP hw hK
    obtain ⟨⟨old, he⟩, hit, hne⟩ := st
    obtain ⟨xs, hq, hx⟩ := hg
    obtain ⟨its, rv, p, hz⟩ := I.tuple hq
    obtain ⟨f0, f1, f2, f3, f4, f5⟩ := hf it (by simp)
    have hl := rv.length
    have pt := tuple_of p
    have hT : s.TypeIs (.ref e) "enumerate" := ⟨_, he, rfl⟩
    unfold pyNext
    refine wpAny_bind (wpAny_attempt (PySem.wpAny_callSpecial?_slot (name := Str.ofString "__next__") hT PySem.F.slot_enumerate_next
      (PySem.wpAny_call_entry PySem.F.slot_enumerate_next hT PySem.F.entry_enumerate_next ?_ (PySem.F.args_enumerate_next_1 _))))
    show wpAny _ _ (field (.ref e) 2 >>= _) _ _ _
    refine wpAny_bind (PySem.wpAny_field he rfl (x := .ref it) rfl ?_)
    refine wpAny_bind (PySem.wpAny_nextOf_tuple_end (I.ok.hd hc) hit pt (by simp; omega) fun h' x eb hx' => ?_)
    obtain ⟨o, ho, hc'⟩ := hx'
    refine wpAny_bind (wpAny_isInstance (T := "StopIteration") (b := true) ⟨o, ho, hc'⟩ PySem.isSubtype_stop ?_)
    exact wpAny_pure ⟨rfl, I.turned (t' := s.toks) (fun b o hb q => eb b o hb q) f0 f1 f3 f4 f5⟩
  self := fun A i s Q E st h => let ⟨⟨_, he⟩, _⟩ := st; wpAny_pyIter_enum he h
def iEnumU (K : PySem.W.Frag) (ta : TA) : TI := fun σ H R => ta σ H fun vs H1 => ∃ a xs, vs = [.ref a] ∧ SqT K H1 a xs ∧ R (Iteu K a) H1
theorem pi_enumU {X : Cx} {e : Expr} {ta : TA} {p pos tpos : Pos} {elts : List Expr} {kk : Nat} (hg : Gl X "enumerate") (hm : X.mg "enumerate" = none) (ha : PA X [e] ta) (hs : starEach [e] X.env = [(false, eval e X.env)] := by rfl) :
    PI X (.Tuple elts kk tpos) (.Call (.Name "enumerate" p) [e] [] pos) (iEnumU X.K ta) := by
  refine ⟨fun pins s σ H R I h => ?_⟩
  refine Call_ (ld_blt I hg hm boot_enumerate (PyProof.Rows.callWith_type1 (thn (ha.run pos pins s σ H _ I h) fun us s1 ⟨vs, H1, I1, r1, q1⟩ => ?_) hs rfl))
  obtain ⟨a, xs, ex, hq, q⟩ := q1
  subst ex
  cases r1 with
  | cons r rr =>
    cases rr
    cases r
    obtain ⟨its, rv, p', hz⟩ := I1.tuple hq
    refine EnT.call_enumT (tuple_of p') fun h' he hit hsz hk => wpAny_pyIter_enum he ?_
    have I2 : Inv X pins σ H1 { s1 with heap := h' } := I1.kept (t' := s1.toks) hk
    refine ⟨s1.heap.objs.size + 1, [s1.heap.objs.size + 1, s1.heap.objs.size], _, _, H1, rfl, I2, turn_enumU a (s1.heap.objs.size + 1) s1.heap.objs.size, ⟨⟨.none, he⟩, hit, Nat.succ_ne_self _⟩, fun b hb => ?_, q⟩
    have e' : b = s1.heap.objs.size + 1 ∨ b = s1.heap.objs.size := by simpa using hb
    have hle : s1.heap.objs.size ≤ b := by
      rcases e' with z | z
      · rw [z]; exact Nat.le_add_right _ _
      · rw [z]; exact Nat.le_refl _
    exact I1.fpOk hle (I1.hok.fresh hle)
theorem walk_enumU {K : PySem.W.Frag} {a : Addr} {xs : List V} : Walk (Iteu K a) xs.length (fun H => SqT K H a xs) (YPair (fun i => some (.int (i : Nat))) (fun i => xs[i]?)) := by
  refine ⟨fun i _ hi q => ⟨xs, xs[i], q, by simp [hi]⟩, fun _ q => ⟨xs, q, Nat.le_refl _⟩, fun i H v H' _ q y => ?_⟩
  obtain ⟨T, x, h1, h2, h3, h4⟩ := y
  exact ⟨T, .int (i : Nat), x, h1, h2, h3, rfl, h4 xs q⟩
end L2
set_option maxRecDepth 100000
set_option maxHeartbeats 4000000
namespace LamX
open PySem PySem.Spec PyProof.Rows L2
def LamO (fl co : Addr) (q : Str) (ps : Arguments) (bd : Expr) (lsc : Scope) (clo : List (Str × Addr)) : HO := .ext fun h => ∃ pm ctv : Value, h.get? fl = some (PySem.W.kla_obj "<lambda>" q ps bd lsc clo pm co ctv)
theorem lamO_ok {P : Program} {w : World} {H : Hp} {h : Heap} {fl co : Addr} {q : Str} {ps : Arguments} {bd : Expr} {lsc : Scope} {clo : List (Str × Addr)} {pm ctv : Value} (e : h.get? fl = some (PySem.W.kla_obj "<lambda>" q ps bd lsc clo pm co ctv)) : ObjOk P w H h fl (LamO fl co q ps bd lsc clo) :=
  ⟨⟨pm, ctv, e⟩, ⟨_, e⟩, fun _ _ ⟨pm, ctv, z⟩ st => ⟨pm, ctv, st _ z⟩⟩
section
variable {X : Cx} {pins : List (Addr × Obj)} {σ : L2.St} {H : Hp} {s : Shared}
theorem lam_made {Ts : List (Addr × Str)} {c P : Addr} {ps : Arguments} {bd : Expr} {lsc : Scope} {pos : Pos} {E : Value → Shared → Prop} {Q : Value → Shared → Prop} (I : Inv X pins σ H s) (TB : TabB X.base X.mg c P) (own : X.env.code = .ref c)
    (mem : (P, X.env.qual ++ "<lambda>") ∈ Ts) (uni : ∀ p ∈ Ts, p.1 = P → p.2 = X.env.qual ++ "<lambda>") (tabs : Tabs Ts H) (nodef : defaultsOf ps X.env = ([], [])) (fr : ∀ y ∈ lsc.names, y.2 = .free → ∃ c, X.env.cells.lookup y.1 = some c)
    (go : ∀ (fl co : Addr) (G : Hp) (s' : Shared), Inv X pins σ G s' → ExtN H G → Tabs Ts G → H fl = none → G fl = some (LamO fl co (X.env.qual ++ "<lambda>") ps bd lsc (cloFrom X.env.cells lsc.names [])) → G co = some (CodeO co (X.env.qual ++ "<lambda>")) → Q (.ref fl) s') :
    wpAny (model X.prog X.w) X.A (eval (.Lambda ps bd lsc pos) X.env) Q E s := by
  obtain ⟨arr, e1, e2, e3⟩ := tabs _ mem
  refine PySem.W.kla_eval nodef ?_
  have bm : s.heap.BuiltinsAt X.mg P := TB.bm.keeps I.bk
  have arrH : s.heap.get? P = some { cls := .none, data := .fields arr } := I.hok P _ e1
  cases found : codeAmong pos arr.toList with
  | none =>
    refine PySem.W.kla_makeFunction (mg := X.mg) (c := c) (P := P) (ps := arr) (closure_ok fr) I.ok.glob (I.mod.glob.keeps I.bk) own (TB.code.keeps I.bk) arrH e2 found TB.gP bm fun co ctv g tk old low high made tab => ?_
    obtain ⟨c2, oc, fs, tok, eq, ho, hf, hq⟩ := made
    cases eq
    have grow : s.heap.objs.size ≤ g.objs.size := Nat.le_trans low (Nat.le_of_lt high)
    have new : H co = none := I.hok.fresh low
    have J := inv_table (t' := tk) (more := #[rawInt pos.line, rawInt pos.col, .ref co]) (h' := g) I e1 old tab low ⟨oc, fs, tok, ho, hf, hq⟩
    generalize eK : upd (upd H P (.tbl (arr ++ #[rawInt pos.line, rawInt pos.col, .ref co]))) co (CodeO co (X.env.qual ++ "<lambda>")) = K1 at J
    have x1 : ExtN H K1 := fun b o e n => by
      rw [← eK, upd_ne (ne_of_none e new), upd_ne (fun z => n arr (Option.some.inj (e.symm.trans (by rw [z]; exact e1))))]
      exact e
    have nP : g.objs.size ≠ P := Nat.ne_of_gt (Nat.lt_of_lt_of_le (Heap.lt_size arrH) grow)
    have nc : g.objs.size ≠ co := Nat.ne_of_gt high
    have free : K1 g.objs.size = none := by
      rw [← eK, upd_ne nc, upd_ne nP]
      exact I.hok.fresh grow
    have fH : H g.objs.size = none := I.hok.fresh grow
    have eC : K1 co = some (CodeO co (X.env.qual ++ "<lambda>")) := by rw [← eK]; exact upd_same
    have eT : K1 P = some (.tbl (arr ++ #[rawInt pos.line, rawInt pos.col, .ref co])) := by rw [← eK, upd_ne (ne_of_none e1 new), upd_same]
    have tb1 : Tabs Ts K1 := fun p hp => by
      have asL : (arr ++ #[rawInt pos.line, rawInt pos.col, .ref co]).toList = arr.toList ++ [rawInt pos.line, rawInt pos.col, .ref co] := by simp
      by_cases hb : p.1 = P
      · rw [uni p hp hb, hb]
        refine ⟨_, eT, by rw [asL]; exact PySem.TriplesOk_snoc _ _ _ _ e2, fun p' cv k => ?_⟩
        rw [asL] at k
        rcases among_app _ e2 k with z | z
        · obtain ⟨c0, w1, w2⟩ := e3 p' cv z
          exact ⟨c0, w1, x1 _ _ w2 codeO_ne⟩
        · exact ⟨co, z, eC⟩
      · obtain ⟨arr', w1, w2, w3⟩ := tabs p hp
        refine ⟨arr', by rw [← eK, upd_ne (ne_of_none w1 new), upd_ne hb]; exact w1, w2, fun p' cv k => ?_⟩
        obtain ⟨c0, v1, v2⟩ := w3 p' cv k
        exact ⟨c0, v1, x1 _ _ v2 codeO_ne⟩
    have lay := J.laid (a := g.objs.size) (t' := tk) (o := LamO g.objs.size co (X.env.qual ++ "<lambda>") ps bd lsc (cloFrom X.env.cells lsc.names [])) (h' := g.push (PySem.W.kla_obj "<lambda>" (X.env.qual ++ "<lambda>") ps bd lsc (cloFrom X.env.cells lsc.names []) ((X.mg "__name__").getD .none) co ctv))
      (fun _ _ e => Heap.get?_push_of_some _ e) (Nat.le_refl _) (lamO_ok (Heap.get?_push_size _ rfl))
    exact go g.objs.size co _ _ lay (fun b o e n => by rw [upd_ne (ne_of_none (x1 b o e n) free)]; exact x1 b o e n) (tb1.ext fun b o e => by rw [upd_ne (ne_of_none e free)]; exact e) fH upd_same (by rw [upd_ne (ne_of_none eC free)]; exact eC)
  | some cv =>
    obtain ⟨co, ec, known⟩ := e3 pos cv found
    subst ec
    refine PySem.W.kla_makeFunctionHit (mg := X.mg) (c := c) (P := P) (ps := arr) (closure_ok fr) I.ok.glob (I.mod.glob.keeps I.bk) own (TB.code.keeps I.bk) arrH e2 found bm fun ctv g tk old grow => ?_
    have free : H g.objs.size = none := I.hok.fresh grow
    have lay := I.laid (a := g.objs.size) (t' := tk) (o := LamO g.objs.size co (X.env.qual ++ "<lambda>") ps bd lsc (cloFrom X.env.cells lsc.names [])) (h' := g.push (PySem.W.kla_obj "<lambda>" (X.env.qual ++ "<lambda>") ps bd lsc (cloFrom X.env.cells lsc.names []) ((X.mg "__name__").getD .none) co ctv))
      (fun b o e => Heap.get?_push_of_some _ (old b o e)) grow (lamO_ok (Heap.get?_push_size _ rfl))
    exact go g.objs.size co _ _ lay (fun b o e _ => by rw [upd_ne (ne_of_none e free)]; exact e) (tabs.ext fun b o e => by rw [upd_ne (ne_of_none e free)]; exact e) free upd_same (by rw [upd_ne (ne_of_none known free)]; exact known)
theorem act_known {CXg : CXT} {Eg : XK} {names : List Str} {qg : Str} {sg : Scope} {g fl co : Addr} {cdg : Value} {ps : Arguments} {bd : Expr} {lsc : Scope} {k i : Nat} {a : Str} {pn : List (Addr × Obj)} {xe : Value → Shared → Prop} {W : WX} {Ew : L2.St → XK} {rd : XK → TE} {p1 p2 : Pos}
    (I : Inv X pins σ H s) (L : LamS X.env.scope lsc)
    (noArgs : ∀ pm ctv : Value, bindArgs (PySem.W.kla_fn "<lambda>" (X.env.qual ++ "<lambda>") ps bd lsc (cloFrom X.env.cells lsc.names []) pm (.ref co) ctv) ⟨[], []⟩ = pure [])
    (tk : Takes ((cxOf CXg X.prog X.w X.K X.mg X.base names qg sg g cdg X.A X.stack s H Eg).tr pn xe) W) (wish : ∀ τ cls d H', Ew τ cls d H' → W cls d τ H') (room : Room (k + 1) (X.A.deeper (envOfC qg sg s.heap.objs.size g cdg)))
    (body : ∀ (E : XK) (A : Around) (outer : List Env) (s : Shared) (H : Hp), Room k (A.deeper (lamEnv X lsc s.heap.objs.size fl co)) → PE (lamCx X A outer s H E lsc fl co) bd (rd E))
    (at_ : names[i]? = some a) (vis : Vis sg a) (n1 : (a == ("__debug__" : Str)) = false) (n2 : (a == ("__classdict__" : Str)) = false) :
    PE ((cxOf CXg X.prog X.w X.K X.mg X.base names qg sg g cdg X.A X.stack s H Eg).tr pn xe) (.Call (.Name a p1) [] [] p2)
      (fun τ G Q => τ[i]? = some (some (.ref fl)) ∧ G fl = some (LamO fl co (X.env.qual ++ "<lambda>") ps bd lsc (cloFrom X.env.cells lsc.names [])) ∧ G co = some (CodeO co (X.env.qual ++ "<lambda>")) ∧ rd (Ew τ) σ G Q) := by
  refine ⟨fun pz sz τ G Q J hyp => ?_⟩
  obtain ⟨slot, known, code, want⟩ := hyp
  have load := (pe_var (pos := p1) (i := i) at_ vis n1 n2).run pz sz τ G (fun v G' => v = .ref fl ∧ G' = G) J ⟨.ref fl, slot, rfl, rfl⟩
  refine wpAny_Call_Name_kw (thn load fun u s1 ⟨v, G', J1, ru, ev, eG⟩ => ?_)
  subst ev eG
  obtain rfl : u = Value.ref fl := ru
  have there : ObjOk X.prog X.w G' s1.heap fl (LamO fl co (X.env.qual ++ "<lambda>") ps bd lsc (cloFrom X.env.cells lsc.names [])) := J1.hok fl _ known
  obtain ⟨⟨pm, ctv, here⟩, _, _⟩ := there
  refine PySem.W.callWith_F0 ⟨_, _, _, _, here⟩ ?_
  have since : Un (frs X.stack) [] H G' s.heap s1.heap := J1.base
  obtain ⟨⟨oc, fields, tok, ho, hf, hq⟩, _, _⟩ := J1.hok co _ code
  have run : codeAny (model X.prog X.w) (X.A.deeper (envOfC qg sg s.heap.objs.size g cdg)) (.call (.ref fl) ⟨[], []⟩) (CR (L2.CX X.prog X.w) (envOfC qg sg s.heap.objs.size g cdg :: X.stack) X.prog X.w G' s1 Q (Ew τ)) s1 := by
    refine PySem.W.kla_callFunE room.depth here rfl L.co L.gen rfl ⟨co, oc, fields, tok, rfl, ho, hf, hq⟩ ?_
    rw [noArgs]
    refine wpAny_pure (wpAny_newFunctionEnv (fun y hy => (L.own y hy).2) (fun y hy => absurd hy (by simp)) (fun h' ns but => ⟨J1.nolimit.fresh _ but, ?_⟩) L.kind)
    have stays : ∀ b o, s1.heap.get? b = some o → h'.get? b = some o := fun b o e => but.extBut b o (Nat.ne_of_lt (Heap.lt_size e)) (Heap.get?_push_of_some _ e)
    have start : Inv (lamCx X (X.A.deeper (envOfC qg sg s.heap.objs.size g cdg)) (envOfC qg sg s.heap.objs.size g cdg :: X.stack) s1 G' (Ew τ) lsc fl co) [] σ G' { s1 with heap := h', toks := s1.toks + ([] : List (Str × Value)).length } :=
      lam_start2 I L J1.env0 room.hd since ns stays
    show codeAny _ _ (.expr bd (lamEnv X lsc s1.heap.objs.size fl co)) _ _
    refine PySem.W.kla_codeExpr (wpAny_mono ((body (Ew τ) _ _ s1 G' (room.deeper _)).run [] _ _ G' Q start want) (fun v s' ⟨x, G2, J2, rx, q⟩ => ?_) fun e s' q => q)
    exact ⟨x, G2, J2.os, J2.bare, J2.base, J2.hok, rx, q⟩
  refine wpAny_call (codeAny_mono run fun r s' q => ?_)
  match r with
  | .error e => exact tk e s' (XE.of_call J1 (fun cls d G2 z => wish τ cls d G2 z) q)
  | .ok (.ret u) => exact J1.after q
  | .ok .next => exact False.elim q
  | .ok .brk => exact False.elim q
  | .ok .cont => exact False.elim q
end
structure LamIs (X : Cx) (k : Nat) (t : XK → TE) (fl co : Addr) (o : HO) : Prop where
  ex : ∃ (ps : Arguments) (bd : Expr) (lsc : Scope), o = LamO fl co (X.env.qual ++ "<lambda>") ps bd lsc (cloFrom X.env.cells lsc.names []) ∧ LamS X.env.scope lsc ∧
    (∀ (q : Str) (cl : List (Str × Addr)) (pm cv ctv : Value), bindArgs (PySem.W.kla_fn "<lambda>" q ps bd lsc cl pm cv ctv) ⟨[], []⟩ = pure []) ∧
    ∀ (A : Around) (outer : List Env) (s : Shared) (H : Hp) (E : XK), Room k (A.deeper (lamEnv X lsc s.heap.objs.size fl co)) → PE (lamCx X A outer s H E lsc fl co) bd (t E)
theorem lamO_ne {fl co : Addr} {q : Str} {ps : Arguments} {bd : Expr} {lsc : Scope} {clo : List (Str × Addr)} (arr : Array Value) : LamO fl co q ps bd lsc clo ≠ .tbl arr := fun z => by
  unfold LamO at z
  cases z
def IsLam (X : Cx) (k : Nat) (q : Str) (t : XK → TE) (G : Hp) (v : V) : Prop := ∃ (fl co : Addr) (o : HO), v = .ref fl ∧ G fl = some o ∧ LamIs X k t fl co o ∧ G co = some (CodeO co q)
theorem IsLam.ext {X : Cx} {k : Nat} {q : Str} {t : XK → TE} {G G' : Hp} {v : V} (h : IsLam X k q t G v) (e : ExtN G G') : IsLam X k q t G' v := by
  obtain ⟨fl, co, o, ev, h1, h2, h3⟩ := h
  obtain ⟨ps, bd, lsc, rfl, _⟩ := h2.ex
  exact ⟨fl, co, _, ev, e _ _ h1 lamO_ne, h2, e _ _ h3 codeO_ne⟩
def tLamV (X : Cx) (Ts : List (Addr × Str)) (k : Nat) (q : Str) (t : XK → TE) : TE := fun _ H Q => Tabs Ts H ∧ ∀ v G, ExtN H G → Tabs Ts G → IsLam X k q t G v → (∀ a, v = .ref a → H a = none) → Q v G
section
variable {X : Cx}
theorem pe_lamV {Ts : List (Addr × Str)} {c P : Addr} {k : Nat} {q : Str} {ps : Arguments} {bd : Expr} {lsc : Scope} {t : XK → TE} {pos : Pos} (TB : TabB X.base X.mg c P) (own : X.env.code = .ref c) (eq : X.env.qual ++ "<lambda>" = q)
    (mem : (P, q) ∈ Ts) (uni : ∀ p ∈ Ts, p.1 = P → p.2 = q) (L : LamS X.env.scope lsc) (nodef : defaultsOf ps X.env = ([], []))
    (noArgs : ∀ (q : Str) (cl : List (Str × Addr)) (pm cv ctv : Value), bindArgs (PySem.W.kla_fn "<lambda>" q ps bd lsc cl pm cv ctv) ⟨[], []⟩ = pure [])
    (body : ∀ (A : Around) (outer : List Env) (s : Shared) (H : Hp) (E : XK) (fl co : Addr), Room k (A.deeper (lamEnv X lsc s.heap.objs.size fl co)) → PE (lamCx X A outer s H E lsc fl co) bd (t E)) :
    PE X (.Lambda ps bd lsc pos) (tLamV X Ts k q t) := by
  subst eq
  refine ⟨fun pins s σ H Q I hyp => ?_⟩
  obtain ⟨tabs, want⟩ := hyp
  exact lam_made I TB own mem uni tabs nodef (L.has I.ok) fun fl co G s' J x tb fH f1 f2 =>
    ⟨.ref fl, G, J, rfl, want _ _ x tb ⟨fl, co, _, rfl, f1, ⟨ps, bd, lsc, rfl, L, noArgs, fun A outer s H E room => body A outer s H E fl co room⟩, f2⟩ fun a e => by cases e; exact fH⟩
def GivesToV (X : Cx) (names : List Str) (x : Str) (sg : Scope) (g : Addr) (cdg : Value) (bg : List Stmt) (a : Str) (TT : (XK → Hp → VK → Prop) → Hp → VK → Prop) : Prop :=
  ∀ (fl : Addr) (s : Shared) (H : Hp) (Q : VK) (tl : XK → Hp → VK → Prop) (keep : Hp → Prop),
    (∀ (W : WX) (pn : List (Addr × Obj)) (xe : Value → Shared → Prop) (Ew : L2.St → XK) (p1 p2 : Pos), Takes ((cxOf C8.CX0 X.prog X.w X.K X.mg X.base names x sg g cdg X.A X.stack s H C8.E0).tr pn xe) W → (∀ τ cls d H', Ew τ cls d H' → W cls d τ H') →
      PE ((cxOf C8.CX0 X.prog X.w X.K X.mg X.base names x sg g cdg X.A X.stack s H C8.E0).tr pn xe) (.Call (.Name a p1) [] [] p2) (fun τ G Q => τ[0]? = some (some (.ref fl)) ∧ keep G ∧ tl (Ew τ) G Q)) →
    keep H → TT tl H Q →
    ∃ t, PSs (cxOf C8.CX0 X.prog X.w X.K X.mg X.base names x sg g cdg X.A X.stack s H C8.E0).nox bg t ∧ t { nx := fun _ H' => Q .non H', rt := Q } (L2.start names [.ref fl]) H
def tCallLam (X : Cx) (k : Nat) (q : Str) (TT : (XK → Hp → VK → Prop) → Hp → VK → Prop) (te : TE) : TE := fun σ H Q => te σ H fun v G => ∃ t : XK → TE, IsLam X k q t G v ∧ TT (fun E H' Q' => t E σ H' Q') G Q
theorem pe_callLam {TT : (XK → Hp → VK → Prop) → Hp → VK → Prop} {x a q : Str} {g : Addr} {k : Nat} {pg : Arguments} {bg : List Stmt} {sg : Scope} {dV kV doc pm cdv ct oc : Value} {an od : Option Addr} {osl : Array (Option Value)} {names : List Str}
    {e : Expr} {te : TE} {p pos : Pos} (he : PE X e te) (hg : Gl X x) (hm : X.mg x = some (.ref g)) (hk : PySem.W.keepIn X.K (.ref g) = true)
    (lk : X.K.lookup g = some ⟨oc, od, .func (PySem.W.fnOf x x pg bg sg dV kV doc pm an cdv ct), osl⟩) (hcg : PySem.W.codeIn X.K cdv x = true) (hb : L2.Binds X.K (PySem.W.fnOf x x pg bg sg dV kV doc pm an cdv ct) [a] []) (Sg : FnScope names [a] sg) (at_ : names[0]? = some a) (vis : Vis sg a)
    (gives : GivesToV X names x sg g cdv bg a TT) (eq : X.env.qual ++ "<lambda>" = q) (hr : Room (k + 2) X.A)
    (hs : starEach [e] X.env = [(false, eval e X.env)] := by rfl)
    (n0 : (x == ("__debug__" : Str)) = false := by decide) (n1 : (a == ("__debug__" : Str)) = false := by decide) (n2 : (a == ("__classdict__" : Str)) = false := by decide) (hpl : (backTo pos (starEach ([] : List Expr) X.env)).any (·.1) = false := by rfl) :
    PE X (.Call (.Name x p) [e] [] pos) (tCallLam X k q TT te) := by
  subst eq
  refine ⟨fun pins s σ H Q I hyp => ?_⟩
  refine wpAny_Call_Name_kw (ld_glob I hg hm ?_ n0)
  refine PySem.W.callWith_K (h₀ := X.base) I.ok.mod.kin hk ?_ hs hpl
  rw [hs]
  refine Calls.spliced_cons (thn (he.run pins s σ H _ I hyp) fun u s' ⟨v, G, J, ru, t, ⟨fl, co, o, ev, f1, f2, fc⟩, want⟩ => ?_)
  subst ev
  obtain rfl : u = Value.ref fl := ru
  obtain ⟨ps, bd, lsc, rfl, L, noArgs, body⟩ := f2.ex
  refine Calls.spliced_nil ⟨J.kIn, ?_⟩
  have run : codeAny (model X.prog X.w) X.A (.call (.ref g) ⟨[.ref fl], []⟩) (CR C8.CX0 X.stack X.prog X.w G s' Q C8.E0) s' := by
    refine run_ofS (N := names) (ps := [a]) (us := [.ref fl]) (vs := [.ref fl]) lk hcg Sg hr J.env0 (hb s' [.ref fl] J.kIn rfl) (.cons rfl .nil) rfl fun hr' => ?_
    obtain ⟨t', ht', hq'⟩ := gives fl s' G Q (fun E G' Q' => t E σ G' Q') (fun G => G fl = some (LamO fl co (X.env.qual ++ "<lambda>") ps bd lsc (cloFrom X.env.cells lsc.names [])) ∧ G co = some (CodeO co (X.env.qual ++ "<lambda>")))
      (fun W pn xe Ew p1 p2 tk wish => ⟨fun pz sz τ G2 Q2 J2 hyp2 => (act_known (i := 0) J L (fun _ _ => noArgs _ _ _ _ _) tk wish hr' (fun E A outer s H room => body A outer s H E room) at_ vis n1 n2).run pz sz τ G2 Q2 J2 ⟨hyp2.1, hyp2.2.1.1, hyp2.2.1.2, hyp2.2.2⟩⟩) ⟨f1, fc⟩ want
    exact ⟨t', ht'.nox, hq'⟩
  refine wpAny_call (codeAny_mono run fun r s2 q => ?_)
  match r with
  | .error e => exact (show False from q).elim
  | .ok (.ret u) => exact J.after q
  | .ok .next => exact False.elim q
  | .ok .brk => exact False.elim q
  | .ok .cont => exact False.elim q
end
end LamX
set_option maxRecDepth 100000
set_option maxHeartbeats 4000000
namespace L2
open PySem PySem.Spec PyProof.Rows
theorem sqn {a b : TS} {D : Ends} {σ : St} {H : Hp} (h : a { D with nx := b D } σ H) : tSeq a b D σ H := h
theorem tnx {D : Ends} {σ : St} {H : Hp} (h : D.nx σ H) : tNext D σ H := h
theorem asn {e : TE} {g : TG} {D : Ends} {σ : St} {H : Hp} (h : e σ H fun x H1 => g x σ H1 D.nx) : tAsg e g D σ H := h
theorem tIfS_r {c : TT} {t u : TS} {D : Ends} {σ : St} {H : Hp} (R : Hp → Prop) (h : (∀ H', R H' → u D σ H') → tIfS c t u D σ H) (f : ∀ H', R H' → u D σ H') : tIfS c t u D σ H := h f
theorem tIf_r {t : TT} {ta tb : TE} {σ : St} {H : Hp} {Q : VK} (R : V → Hp → Prop) (h : (∀ v H', R v H' → Q v H') → tIf t ta tb σ H Q) (f : ∀ v H', R v H' → Q v H') : tIf t ta tb σ H Q := h f
theorem te_r {t : TE} {σ : St} {H : Hp} {Q : VK} (R : V → Hp → Prop) (h : (∀ v H', R v H' → Q v H') → t σ H Q) (f : ∀ v H', R v H' → Q v H') : t σ H Q := h f
theorem let_rest {J C : Hp → Prop} {G : Prop} (main : (∀ H', J H' → C H') → G) (rest : ∀ H', J H' → C H') : G := main rest
theorem let_val {J C : V → Hp → Prop} {G : Prop} (main : (∀ v H', J v H' → C v H') → G) (rest : ∀ v H', J v H' → C v H') : G := main rest
open PySem.W (alike alikeAll minD maxD min_tuple_data max_tuple_data)
def rBest2 (K : PySem.W.Frag) (best : List Int → List Int → List Int) : List V → Hp → VK → Prop := fun vs H Q => ∃ (t p q : Addr) (a b : List Int), vs = [.ref t] ∧ SqT K H t [.ref p, .ref q] ∧ SqT K H p (a.map V.int) ∧ SqT K H q (b.map V.int) ∧
  ∀ r, SqT K H r ((best a b).map V.int) → Q (.ref r) H
def lessOf (a b : List Int) : List Int := if PySem.W.dataLt (rowD b) (rowD a) then b else a
def moreOf (a b : List Int) : List Int := if PySem.W.dataLt (rowD a) (rowD b) then b else a
theorem less_D (a b : List Int) : minD (rowD a) [rowD b] = rowD (lessOf a b) := by
  unfold minD lessOf
  show (if PySem.W.dataLt (rowD b) (rowD a) then rowD b else rowD a) = _
  split <;> rfl
theorem more_D (a b : List Int) : maxD (rowD a) [rowD b] = rowD (moreOf a b) := by
  unfold maxD moreOf
  show (if PySem.W.dataLt (rowD a) (rowD b) then rowD b else rowD a) = _
  split <;> rfl
section
variable {X : Cx}
theorem pair_reads {pins : List (Addr × Obj)} {σ : St} {H : Hp} {s : Shared} {p q : Addr} {a b : List Int} {its : List Value} (I : Inv X pins σ H s) (hp : SqT X.K H p (a.map V.int)) (hq : SqT X.K H q (b.map V.int)) (rv : Vals [.ref p, .ref q] its) : ∃ as, ReadsAll s.heap its [rowD a, rowD b] as :=
  Dp.readsAll I _ _ its (dpAll_rows (K := X.K) (ps := [p, q]) (rows := [a, b]) (.cons hp (.cons hq .nil))) rv
theorem pair_best {pins : List (Addr × Obj)} {σ : St} {H : Hp} {s : Shared} {p q : Addr} {a b m : List Int} {its : List Value} {i : Nat} {v : Value} {h' : Heap} {bs : List Addr} (I : Inv X pins σ H s) (hp : SqT X.K H p (a.map V.int)) (hq : SqT X.K H q (b.map V.int)) (rv : Vals [.ref p, .ref q] its) (hv : its[i]? = some v)
    (keep : ∀ b o, s.heap.get? b = some o → h'.get? b = some o) (hm : Reads h' v (rowD m) bs) : ∃ r, v = .ref r ∧ SqT X.K H r (m.map V.int) := by
  have one : ∀ (r : Addr) (c : List Int), v = .ref r → SqT X.K H r (c.map V.int) → ∃ r, v = .ref r ∧ SqT X.K H r (m.map V.int) := fun r c e h => by
    subst e
    obtain ⟨as0, r0⟩ := Dp.reads I (rowD c) (.ref r) (.ref r) (.tup h (dpAll_intsL H c)) rfl
    have e2 := rowD_inj (reads_det (fun b o e _ => keep b o e) r0 hm).1
    subst e2
    exact ⟨r, rfl, h⟩
  cases rv with
  | cons r1 rv =>
    cases rv with
    | cons r2 rv =>
      cases rv
      match i, hv with
      | 0, hv =>
        have e := Option.some.inj hv
        exact one p a (e.symm.trans r1) hp
      | 1, hv =>
        have e := Option.some.inj hv
        exact one q b (e.symm.trans r2) hq
theorem alike_two (a b : List Int) : PySem.W.AlikeAll [rowD a, rowD b] := by
  refine ⟨fun x hx y hy => ?_, fun x hx => ?_⟩
  · obtain ⟨c, _, rfl⟩ := List.mem_map.mp (show x ∈ [a, b].map rowD from hx)
    obtain ⟨d, _, rfl⟩ := List.mem_map.mp (show y ∈ [a, b].map rowD from hy)
    exact alike_ints c d
  · obtain ⟨c, _, rfl⟩ := List.mem_map.mp (show x ∈ [a, b].map rowD from hx)
    exact fun z => by cases z
theorem cr_min2T (hc : X.calm = true) (hu : X.A.units + 64 < cLine) : CallR X (.builtin "min") (rBest2 X.K lessOf) := by
  intro pins s σ H vs us Q I r h
  obtain ⟨t, p, q, a, b, rfl, ht, hp, hq, k⟩ := h
  obtain ⟨its, rv, pt, _⟩ := I.tuple ht
  rw [Vals.ref1 r]
  obtain ⟨as, hr⟩ := pair_reads I hp hq rv
  have hd := depth_rows [a, b]
  refine min_tuple_data (I.ok.hd hc) (show s.heap.IsTuple t its.toArray from pt) (x := rowD a) (xs := [rowD b]) (as := as) hr (alike_two a b) (by show X.A.units + 1 + PyData.depthAll ([a, b].map rowD) < cLine; omega) fun i v h' tk bs hv hm keep => ?_
  rw [less_D] at hm
  obtain ⟨r', rfl, hs⟩ := pair_best I hp hq rv (by simpa using hv) keep hm
  exact ⟨.ref r', H, I.kept (t' := tk) keep, rfl, k r' hs⟩
theorem cr_max2T (hc : X.calm = true) (hu : X.A.units + 64 < cLine) : CallR X (.builtin "max") (rBest2 X.K moreOf) := by
  intro pins s σ H vs us Q I r h
  obtain ⟨t, p, q, a, b, rfl, ht, hp, hq, k⟩ := h
  obtain ⟨its, rv, pt, _⟩ := I.tuple ht
  rw [Vals.ref1 r]
  obtain ⟨as, hr⟩ := pair_reads I hp hq rv
  have hd := depth_rows [a, b]
  refine max_tuple_data (I.ok.hd hc) (show s.heap.IsTuple t its.toArray from pt) (x := rowD a) (xs := [rowD b]) (as := as) hr (alike_two a b) (by show X.A.units + 1 + PyData.depthAll ([a, b].map rowD) < cLine; omega) fun i v h' tk bs hv hm keep => ?_
  rw [more_D] at hm
  obtain ⟨r', rfl, hs⟩ := pair_best I hp hq rv (by simpa using hv) keep hm
  exact ⟨.ref r', H, I.kept (t' := tk) keep, rfl, k r' hs⟩
def tChain3 (r1 r2 r3 : R2) (ta tb tc td : TE) : TE := fun σ H Q => ta σ H fun x H1 => tb σ H1 fun y H2 => r1 x y H2 fun z H3 => ∃ k, z = .bl k ∧
  (if k = true then tc σ H3 fun y2 H4 => r2 y y2 H4 fun z2 H5 => ∃ k2, z2 = .bl k2 ∧ (if k2 = true then td σ H5 fun y3 H6 => r3 y2 y3 H6 Q else Q (.bl false) H5) else Q (.bl false) H3)
theorem pe_chain3 {a b c d : Expr} {ta tb tc td : TE} {o1 o2 o3 : CmpOp} {r1 r2 r3 : R2} {pos : Pos} (h1 : OpR X (compareOp o1) r1) (h2 : OpR X (compareOp o2) r2) (h3 : OpR X (compareOp o3) r3) (ha : PE X a ta) (hb : PE X b tb) (hc : PE X c tc) (hd : PE X d td)
    (hm : lastMarks [o1, o2, o3] [b, c, d] = false := by with_unfolding_all rfl) : PE X (.Compare a [o1, o2, o3] [b, c, d] pos) (tChain3 r1 r2 r3 ta tb tc td) := by
  refine ⟨fun pins s σ H Q I h => ?_⟩
  refine Compare_chain (thn (ha.run pins s σ H _ I h) fun v sA ⟨x, HA, IA, rA, qA⟩ => chain_link (thn (hb.run pins sA σ HA _ IA qA) fun u sB ⟨y, HB, IB, rB, qB⟩ =>
    thn (h1 pins sB σ HB x y v u _ IB rA rB qB) fun e sC ⟨z, HC, IC, rC, k, ez, qC⟩ => ?_)) hm
  subst ez
  cases rC
  refine wpAny_truthy_bool ?_
  cases k with
  | false => exact ite_ff ⟨.bl false, HC, IC, rfl, qC⟩
  | true =>
    refine ite_tt (chain_link (thn (hc.run pins sC σ HC _ IC qC) fun u2 sD ⟨y2, HD, ID, rD, qD⟩ => thn (h2 pins sD σ HD y y2 u u2 _ ID rB rD qD) fun e2 sE ⟨z2, HE, IE, rE, k2, ez2, qE⟩ => ?_))
    subst ez2
    cases rE
    refine wpAny_truthy_bool ?_
    cases k2 with
    | false => exact ite_ff ⟨.bl false, HE, IE, rfl, qE⟩
    | true => exact ite_tt (chain_last (thn (hd.run pins sE σ HE _ IE qE) fun u3 sF ⟨y3, HF, IF, rF, qF⟩ => h3 pins sF σ HF y2 y3 u2 u3 Q IF rD rF qF))
def tListR3 (ta : TA) : TE := fun σ H Q => ta σ H fun vs H1 => ∃ (i j c : Int) (n : Nat), vs = [.int i, .int j, .int c] ∧ RgC i j c n ∧ n ≤ 1000 ∧ ∀ q, H1 q = none → Q (.ref q) (upd H1 q (.lst ((List.range n).map fun (k : Nat) => V.int (i + (k : Int) * c))))
theorem vals_rg3 {i c : Int} {n : Nat} {acc : Array Value} (h : ItemsOf (fun k v => ∃ t, v = .int (i + k * c) t) acc n) : Vals ((List.range n).map fun (k : Nat) => V.int (i + (k : Int) * c)) acc.toList := by
  have e : acc.toList.length = n := by rw [Array.length_toList]; exact h.1
  rw [← e]
  refine vals_of_get acc.toList _ fun j u hj => ?_
  obtain ⟨t, rfl⟩ := h.2 j u (by rw [← hj, Array.getElem?_toList])
  exact ⟨t, rfl⟩
theorem pe_listR3 {a b c : Expr} {ta : TA} {p p2 pos pos2 : Pos} (hcalm : X.calm = true) (hl : Gl X "list") (hml : X.mg "list" = none) (hg : Gl X "range") (hm : X.mg "range" = none) (ha : PA X [a, b, c] ta)
    (hs : starEach [a, b, c] X.env = (false, eval a X.env) :: starEach [b, c] X.env := by rfl) (hpl : (backTo pos2 (starEach [b, c] X.env)).any (·.1) = false := by rfl) (na : starEach [.Call (.Name "range" p2) [a, b, c] [] pos2] X.env = (false, eval (.Call (.Name "range" p2) [a, b, c] [] pos2) X.env) :: starEach [] X.env := by rfl) :
    PE X (.Call (.Name "list" p) [.Call (.Name "range" p2) [a, b, c] [] pos2] [] pos) (tListR3 ta) := by
  refine ⟨fun pins s σ H Q I h => ?_⟩
  refine Call_ (ld_blt I hl hml boot_list (PyProof.Rows.callWith_type1 (args_cons (Call_ (ld_blt I hg hm boot_range (PyProof.Rows.callWith_type1 (thn (ha.run pos2 pins s σ H _ I h) fun us s1 ⟨vs, H1, I1, r1, q1⟩ => ?_) hs hpl))) na) na))
  obtain ⟨i, j, k, n, ev, ⟨c0, c1, c2, c3⟩, n24, q⟩ := q1
  subst ev
  cases r1 with
  | cons w1 r1 =>
    cases r1 with
    | cons w2 r1 =>
      cases r1 with
      | cons w3 r1 =>
        cases r1
        obtain ⟨t1, rfl⟩ := w1
        obtain ⟨t2, rfl⟩ := w2
        obtain ⟨t3, rfl⟩ := w3
        refine call_range_3 c0 ?_ (.inl (PyProof.noPylong_small c1))
        refine args_nil ?_
        have I2 : Inv X pins σ H1 { s1 with heap := s1.heap.push { cls := .type "range", data := .fields #[.int i t1, .int j t2, .int k t3] } } := I1.kept (t' := s1.toks) fun b o e => Heap.get?_push_of_some _ e
        refine call_list_range (n := n) (I1.ok.hd hcalm) (IsRange.new ..) c2 c3 (by omega) fun h' tk acc c' keep e' hi => ?_
        refine ⟨.ref _, upd H1 _ (.lst ((List.range n).map fun (z : Nat) => V.int (i + (z : Int) * k))), I2.laid (t' := tk) keep (Nat.le_refl _) (show ObjOk X.prog X.w _ _ _ (.lst _) from ⟨?_, acc.toList, c', vals_rg3 hi, ?_⟩), rfl, q _ (I2.hok.fresh (Nat.le_refl _))⟩
        · rw [List.length_map, List.length_range, sizeLine_eq]; omega
        · rw [Array.toArray_toList]; exact e'
def rSumU (K : PySem.W.Frag) : List V → Hp → VK → Prop := fun vs H Q => ∃ (t : Addr) (a b : Int), vs = [.ref t] ∧ SqT K H t [.int a, .int b] ∧ Q (.int (a + b)) H
theorem cr_sumU (hc : X.calm = true) : CallR X (.builtin "sum") (rSumU X.K) := by
  intro pins s σ H vs us Q I r h
  obtain ⟨t, a, b, rfl, ht, k⟩ := h
  obtain ⟨its, rv, pt, _⟩ := I.tuple ht
  rw [Vals.ref1 r]
  cases rv with
  | cons r1 rv =>
    cases rv with
    | cons r2 rv =>
      cases rv
      obtain ⟨t1, rfl⟩ := r1
      obtain ⟨t2, rfl⟩ := r2
      refine PySem.W.ktm_sumG (xs := #[(a, t1), (b, t2)]) (I.ok.hd hc) (show s.heap.IsTuple t _ by have e : intItems #[(a, t1), (b, t2)] = #[Value.int a t1, Value.int b t2] := (by simp [intItems]); rw [e]; exact pt) fun h' tk t' keep => ?_
      have e : preSum (numAt #[(a, t1), (b, t2)]) (#[(a, t1), (b, t2)] : Array (Int × Tok)).size = a + b := by
        first | rfl | (simp [preSum, numAt]) | trace_state
      rw [e]
      exact ⟨.int (a + b), H, I.kept (t' := tk) keep, ⟨t', rfl⟩, k⟩
end
end L2
set_option maxRecDepth 100000
set_option maxHeartbeats 4000000
namespace L2
open PySem PySem.Spec PyProof.Rows
def Swaps5 (fd : FuncData) (a b c d e : Str) : Prop := ∀ (s : Shared) (v1 v2 v3 v4 v5 : Value), BindsTo s fd ⟨[], [(e, v1), (d, v2), (c, v3), (b, v4), (a, v5)]⟩ [(a, v5), (b, v4), (c, v3), (d, v2), (e, v1)]
theorem Fun.swaps5 {K : PySem.W.Frag} {x qual : Str} {st : Stmt} {f : Addr} {fd : FuncData} {a b c d e : Str} (F : Fun K x qual st f fd)
    (h : ∀ (kV doc pm : Value) (an : Option Addr) (cdv ct v1 v2 v3 v4 v5 : Value), bindArgs (PySem.W.fnOf x qual (defArgs st) (defBody st) (defScope st) .none kV doc pm an cdv ct) ⟨[], [(e, v1), (d, v2), (c, v3), (b, v4), (a, v5)]⟩ = pure [(a, v5), (b, v4), (c, v3), (d, v2), (e, v1)]) : Swaps5 fd a b c d e := by
  obtain ⟨oc, od, kV, doc, pm, an, cdv, ct, osl, rfl, lk, hcd⟩ := F.ex
  exact fun s v1 v2 v3 v4 v5 => BindsTo.of_eq (h kV doc pm an cdv ct v1 v2 v3 v4 v5)
def tSw5 (sp : Sp) (E : XK) (ta : TA) : TE := fun σ H Q => ta σ H fun zs H2 => sp zs.reverse H2 Q E
section
variable {X : Cx} {CX : CXT} {k : Nat} {f : Addr} {fd : FuncData} {a b c d e : Str} {sp : Sp} {E : XK} {x : Str} {p p1 p2 p3 p4 p5 pos : Pos} {e1 e2 e3 e4 e5 : Expr} {t1 t2 t3 t4 t5 : TE}
theorem run_sw5 {pins : List (Addr × Obj)} {σ : St} {H : Hp} {s : Shared} {Q : VK} {zs : List V} {w1 w2 w3 w4 w5 : Value} (F : FnOk X.prog X.w X.K X.mg X.base CX k f fd [a, b, c, d, e] sp) (hr : Room k X.A) (hb : Swaps5 fd a b c d e) (hx : Passes CX X E)
    (I : Inv X pins σ H s) (r : Vals zs [w5, w4, w3, w2, w1]) (h : sp zs H Q E) : wpAny (model X.prog X.w) X.A (call (.ref f) [] [(e, w1), (d, w2), (c, w3), (b, w4), (a, w5)]) (EP X pins σ Q) X.xe s := by
  refine wpAny_call (codeAny_mono (F.run X.A X.stack s H ⟨[], [(e, w1), (d, w2), (c, w3), (b, w4), (a, w5)]⟩ [w5, w4, w3, w2, w1] zs Q E hr I.env0 (hb s w1 w2 w3 w4 w5) r h) fun r s' hq => ?_)
  cases r with
  | error e => exact hx pins σ H s e s' I hq
  | ok fl =>
    cases fl with
    | ret u => exact I.after hq
    | next => exact False.elim hq
    | brk => exact False.elim hq
    | cont => exact False.elim hq
theorem vals_rev : ∀ {zs : List V} {us : List Value}, Vals zs us → Vals zs.reverse us.reverse
  | [], [], .nil => .nil
  | z :: zs, u :: us, .cons r h => by
    rw [List.reverse_cons, List.reverse_cons]
    exact (vals_rev h).append (.cons r .nil)
theorem pe_callSw5 (F : FnOk X.prog X.w X.K X.mg X.base CX k f fd [a, b, c, d, e] sp) (hr : Room k X.A) (hg : Gl X x) (hm : X.mg x = some (.ref f)) (hk : PySem.W.keepIn X.K (.ref f) = true) (hb : Swaps5 fd a b c d e) (hx : Passes CX X E)
    (h1 : PE X e1 t1) (h2 : PE X e2 t2) (h3 : PE X e3 t3) (h4 : PE X e4 t4) (h5 : PE X e5 t5) (hdb : (x == ("__debug__" : Str)) = false := by decide)
    (hall : (backToKw pos (keywordEach [⟨some e, e1, p1⟩, ⟨some d, e2, p2⟩, ⟨some c, e3, p3⟩, ⟨some b, e4, p4⟩, ⟨some a, e5, p5⟩] X.env)).all (·.1.isSome) = true := by rfl)
    (hks : (backToKw pos (keywordEach [⟨some e, e1, p1⟩, ⟨some d, e2, p2⟩, ⟨some c, e3, p3⟩, ⟨some b, e4, p4⟩, ⟨some a, e5, p5⟩] X.env)).filterMap (·.1) = [e, d, c, b, a] := by rfl)
    (hpl : ((backTo pos (starEach [] X.env)).any (·.1) || (backToKw pos (keywordEach [⟨some e, e1, p1⟩, ⟨some d, e2, p2⟩, ⟨some c, e3, p3⟩, ⟨some b, e4, p4⟩, ⟨some a, e5, p5⟩] X.env)).any (·.1.isNone)) = false := by rfl) :
    PE X (.Call (.Name x p) [] [⟨some e, e1, p1⟩, ⟨some d, e2, p2⟩, ⟨some c, e3, p3⟩, ⟨some b, e4, p4⟩, ⟨some a, e5, p5⟩] pos) (tSw5 sp E (tCons t1 (tCons t2 (tCons t3 (tCons t4 (tCons t5 tNil)))))) := by
  refine ⟨fun pins s σ H Q I h => ?_⟩
  refine wpAny_Call_Name_kw (ld_glob I hg hm ?_ hdb)
  refine PySem.W.callWith_KW0 (h₀ := X.base) I.ok.mod.kin hk hall ?_ hpl
  refine thn ((pk_cons h1 (pk_cons h2 (pk_cons h3 (pk_cons h4 (pk_cons h5 pk_nil))))).run pos pins s σ H _ I h) fun ws s2 ⟨zs, H2, J, rz, q⟩ => ⟨J.kIn, ?_⟩
  rw [hks]
  have hl := F.len _ _ _ _ q
  rw [List.length_reverse, rz.length] at hl
  match ws, hl, rz with
  | [w1, w2, w3, w4, w5], _, rz => exact run_sw5 F hr hb hx J (vals_rev rz) q
end
end L2
set_option maxRecDepth 100000
set_option maxHeartbeats 4000000
namespace L2
open PySem PySem.Spec PyProof.Rows
section
variable {X : Cx} {pins : List (Addr × Obj)} {σ : St} {H : Hp} {s : Shared} {d : Addr} {o : Obj}
theorem Inv.frzTV {kvs : List (List Key × V)} (I : Inv X pins σ H s) (h : H d = some (.frz o (.dT kvs))) :
    (d == sysModules) = false ∧ s.heap.get? d = some o ∧ o.ExactDict ∧ ∃ (es : Array DictEntry) (ep : Nat), o.data = .dict es ep ∧ es.size = kvs.length ∧
      ∀ (i : Nat) (k : List Key) (v : V), kvs[i]? = some (k, v) → ∃ (en : DictEntry) (q : Addr), es[i]? = some en ∧ en.key = .ref q ∧ H q = some (.tup (k.map kV)) ∧ RelV v en.val := by
  obtain ⟨here, _, low, xs, pr, o', es, ep, ho, ex, dat, ent, _⟩ := I.hok d _ h
  obtain rfl : o' = o := Option.some.inj (ho.symm.trans here)
  have l1 := size_of_entries ent
  have l2 := Paired.length pr
  refine ⟨low, here, ex, es, ep, dat, l1.trans l2.symm, fun i k v at_ => ?_⟩
  obtain ⟨b, hb, e1, e2, e3⟩ := paired_get pr at_
  have en := entry_at ent i
  rw [hb] at en
  exact ⟨_, b.2.1, en, rfl, e2, e3⟩
end
def Itdt (d : Addr) (o : Obj) (kvs : List (List Key × V)) : It :=
  ⟨fun i H => i < kvs.length ∧ H d = some (.frz o (.dT kvs)), fun i H x G => (∃ k, kvs[i]? = some (k, x)) ∧ G = H, fun i H => kvs.length ≤ i ∧ H d = some (.frz o (.dT kvs))⟩
def Itit (d : Addr) (o : Obj) (kvs : List (List Key × V)) : It :=
  ⟨fun i H => i < kvs.length ∧ H d = some (.frz o (.dT kvs)), fun i H x G => ∃ (T q : Addr) (k : List Key) (v : V), kvs[i]? = some (k, v) ∧ H q = some (.tup (k.map kV)) ∧ x = .ref T ∧ H T = none ∧ G = upd H T (.tup [.ref q, v]), fun i H => kvs.length ≤ i ∧ H d = some (.frz o (.dT kvs))⟩
section
variable {P : Program} {w : World} {K : PySem.W.Frag} {tg : Expr} {d : Addr} {o : Obj} {es : Array DictEntry} {ep : Nat}
theorem turn_valsT {kvs : List (List Key × V)} (it : Addr) (dat : o.data = .dict es ep) : Turn P w K tg (Itdt d o kvs) [it] it (fun i h => h.get? it = some (DVw.valOb d i kvs.length ep)) where
  mem := List.mem_singleton_self it
  obj := fun i h st b hb => by
    rw [List.mem_singleton.mp hb]
    exact ⟨_, st, fun v z => nomatch z⟩
  keep := fun i h h' st k => k it (List.mem_singleton_self it) _ st
  item := by
    intro X hP hw hK hc i pins s σ H E I hf st hg
    subst hP hw hK
    obtain ⟨lt, hd⟩ := hg
    obtain ⟨f0, f1, f2, f3, f4, f5⟩ := hf it (List.mem_singleton_self it)
    obtain ⟨low, here, ex, es', ep', dat', hsz, ent⟩ := I.frzTV hd
    obtain ⟨rfl, rfl⟩ := dict_ep dat dat'
    obtain ⟨en, q, hen, hk, hq, rv⟩ := ent i kvs[i].1 kvs[i].2 (List.getElem?_eq_getElem lt)
    refine DVw.val_item st here dat hsz hen fun h' st' sb => ?_
    have J : Inv X pins σ H { s with heap := h' } := I.turned (t' := s.toks) (fun b ob nb e => (sb.2 b nb).trans e) f0 f1 f3 f4 f5
    exact ⟨en.val, rfl, go_of (s := { s with heap := h' }) st' rfl rfl (by decide) ⟨kvs[i].2, H, J, rv, ⟨⟨_, List.getElem?_eq_getElem lt⟩, rfl⟩, st', fun b hb => (hf b hb).1⟩⟩
  done := by
    intro X hP hw hK hc i pins s σ H E I hf st hg
    subst hP hw hK
    obtain ⟨ge, hd⟩ := hg
    obtain ⟨f0, f1, f2, f3, f4, f5⟩ := hf it (List.mem_singleton_self it)
    obtain ⟨low, here, ex, es', ep', dat', hsz, ent⟩ := I.frzTV hd
    obtain ⟨rfl, rfl⟩ := dict_ep dat dat'
    exact DVw.val_end (I.ok.hd hc) st here dat hsz (Array.getElem?_eq_none (by omega)) fun h' eb => ⟨rfl, I.turned (t' := s.toks) (fun b ob nb e => eb b ob nb e) f0 f1 f3 f4 f5⟩
  self := fun A i s Q E st h => by
    have ty : s.TypeIs (.ref it) "dict_valueiterator" := ⟨_, st, rfl⟩
    exact wpAny_pyIter_valiter (d := d) (i := i) (n := kvs.length) (ep := ep) ⟨_, st, rfl, rfl⟩ h
theorem turn_itemsT {kvs : List (List Key × V)} {elts : List Expr} {kk : Nat} {tpos : Pos} (it : Addr) (dat : o.data = .dict es ep) :
    Turn P w K (.Tuple elts kk tpos) (Itit d o kvs) [it] it (fun i h => ∃ ok ov, h.get? it = some (DVw.itmOb d .none i kvs.length ep ok ov)) where
  mem := List.mem_singleton_self it
  obj := fun i h st b hb => by
    obtain ⟨ok, ov, e⟩ := st
    rw [List.mem_singleton.mp hb]
    exact ⟨_, e, fun v z => nomatch z⟩
  keep := fun i h h' st k => let ⟨ok, ov, e⟩ := st; ⟨ok, ov, k it (List.mem_singleton_self it) _ e⟩
  item := by
    intro X hP hw hK hc i pins s σ H E I hf st hg
    subst hP hw hK
    obtain ⟨lt, hd⟩ := hg
    obtain ⟨low, here, ex, es', ep', dat', hsz, ent⟩ := I.frzTV hd
    obtain ⟨rfl, rfl⟩ := dict_ep dat dat'
    obtain ⟨ok, ov, hit⟩ := st
    have small : it < s.heap.objs.size := Heap.lt_size hit
    obtain ⟨en, q, hen, hk, hq, rv⟩ := ent i kvs[i].1 kvs[i].2 (List.getElem?_eq_getElem lt)
    refine DVw.itm_item hit here dat hsz hen fun h1 b1 b2 b3 b4 => ?_
    refine ⟨_, rfl, wpAny_letOwnedTupleGo_items (s := { s with heap := h1 }) (d := d) (i := i + 1) (n := kvs.length) (ep := _) (ok := en.key) (ov := en.val) b1 fun h2 st2 sb => ?_⟩
    have pair : h2.get? s.heap.objs.size = some { cls := .type "tuple", data := .seq #[en.key, en.val] } := (sb.2 _ (Nat.ne_of_gt small)).trans b2
    have new : ObjOk X.prog X.w (upd H s.heap.objs.size (.tup [.ref q, kvs[i].2])) h2 s.heap.objs.size (.tup [.ref q, kvs[i].2]) :=
      ⟨by show 2 ≤ sizeLine; decide, [en.key, en.val], .cons hk (.cons rv .nil), ⟨_, pair, rfl, _, rfl⟩⟩
    have J : Inv X pins σ (upd H s.heap.objs.size (.tup [.ref q, kvs[i].2])) { s with heap := h2 } :=
      I.turnedNew (t' := s.toks) (ch := [it]) (fun b ob nb z => (sb.2 b (by simpa using nb)).trans (b4 b ob (by simpa using nb) z)) hf (Nat.le_refl _) new
    refine ⟨.ref s.heap.objs.size, _, J, rfl, ⟨_, q, _, _, List.getElem?_eq_getElem lt, hq, rfl, I.hok.fresh (Nat.le_refl _), rfl⟩, ⟨en.key, en.val, st2⟩, fun b hb => ?_⟩
    rw [List.mem_singleton.mp hb, upd_ne (Nat.ne_of_lt small)]
    exact (hf it (List.mem_singleton_self it)).1
  done := by
    intro X hP hw hK hc i pins s σ H E I hf st hg
    subst hP hw hK
    obtain ⟨ge, hd⟩ := hg
    obtain ⟨f0, f1, f2, f3, f4, f5⟩ := hf it (List.mem_singleton_self it)
    obtain ⟨low, here, ex, es', ep', dat', hsz, ent⟩ := I.frzTV hd
    obtain ⟨rfl, rfl⟩ := dict_ep dat dat'
    obtain ⟨ok, ov, hit⟩ := st
    exact DVw.itm_end (I.ok.hd hc) hit here dat hsz (Array.getElem?_eq_none (by omega)) fun h' eb => ⟨rfl, I.turned (t' := s.toks) (fun b ob nb e => eb b ob nb e) f0 f1 f3 f4 f5⟩
  self := fun A i s Q E st h => let ⟨_, _, e⟩ := st; PySem.W.kcp_self e h
end
def iValsT (td : TE) : TI := fun σ H R => td σ H fun x G => ∃ d o kvs, x = .ref d ∧ G d = some (.frz o (.dT kvs)) ∧ R (Itdt d o kvs) G
def iItemsT (td : TE) : TI := fun σ H R => td σ H fun x G => ∃ d o kvs, x = .ref d ∧ G d = some (.frz o (.dT kvs)) ∧ R (Itit d o kvs) G
theorem meetsValues {prog : Program} {w : World} {d : Addr} {es : Array DictEntry} {ep : Nat} (low : (d == sysModules) = false) :
    MeetsIn prog w (Builtin.«dict.values» ⟨[.ref d], []⟩) (fun _ R s => DT.Raw s.heap d es ep ∧ R (.ok (.ret (.ref s.heap.objs.size))) { s with heap := s.heap.push (DSub.viewOb "dict_values" d) }) :=
  .of_wp fun A R s ⟨hm, h⟩ => by
    change wpAny _ _ (Builtin.Dict.noArgs "values" ⟨[.ref d], []⟩ >>= _) _ _ _
    unfold Builtin.Dict.noArgs
    refine wpAny_bind (wpAny_bind (wpAny_notOrdered_dict hm.typeIs ?_))
    show wpAny _ _ (pure d) _ _ s
    refine wpAny_pure ?_
    show wpAny _ _ (Builtin.Dict.showsAll d >>= _) _ _ s
    unfold Builtin.Dict.showsAll
    rw [if_neg (by rw [low]; exact Bool.false_ne_true)]
    exact wpAny_bind (wpAny_pure (wpAny_bind (wpAny_newObj_type (wpAny_pure ⟨_, rfl, h⟩))))
section
variable {X : Cx} {tg e : Expr} {td : TE} {apos cpos : Pos}
theorem raw_of {h : Heap} {d : Addr} {o : Obj} {es : Array DictEntry} {ep : Nat} (here : h.get? d = some o) (ex : o.ExactDict) (dat : o.data = .dict es ep) : DT.Raw h d es ep := ⟨o, here, ex, dat⟩
theorem noDict_of {h : Heap} {d : Addr} {o : Obj} (here : h.get? d = some o) (ex : o.ExactDict) : ∀ b, Value.ref d = .ref b → ∃ ob, h.get? b = some ob ∧ ob.dict = none := fun b z => by
  cases z
  exact ⟨o, here, ex.2.1⟩
theorem pi_valuesT (he : PE X e td) (hbase : attributeBase e "values" X.env (eval e X.env) = eval e X.env := by rfl) (hline : (apos.endLine == cpos.line) = true := by rfl) : PI X tg (.Call (.Attribute e "values" apos) [] [] cpos) (iValsT td) := by
  refine ⟨fun pins s σ H R I h => ?_⟩
  refine wpAny_Call_method (T := "dict") (id := "dict.values") hbase rfl hline F.plainAttrs_dict F.slot_dict_values F.type_dict_values (thn (he.run pins s σ H _ I h) fun u s1 ⟨x, H1, I1, rx, d, o, kvs, ex, hd, q⟩ => ?_)
  subst ex
  obtain rfl : u = Value.ref d := rx
  obtain ⟨low, here, exact_, es, ep, dat, hsz, ent⟩ := I1.frzTV hd
  have raw := raw_of here exact_ dat
  refine ⟨raw.typeIs, noDict_of here exact_, ?_⟩
  have J : Inv X pins σ H1 { s1 with heap := s1.heap.push (DSub.viewOb "dict_values" d) } := I1.kept (t' := s1.toks) fun b ob q => Heap.get?_push_of_some _ q
  have fin : wpAny (model X.prog X.w) X.A (pyIter (.ref s1.heap.objs.size)) (PIE X pins σ tg R) X.xe { s1 with heap := s1.heap.push (DSub.viewOb "dict_values" d) } := by
    refine DSub.iter_vals (Heap.get?_push_size _ rfl) (Heap.get?_push_of_some _ here) dat ?_
    refine pi_one (tk := s1.toks) J _ (turn_valsT _ dat) ?_ q
    rw [← hsz]
    exact Heap.get?_push_size _ rfl
  show wpAny _ _ (callWith cpos (.builtin "dict.values") [.ref d] [] []) _ X.xe s1
  exact method_meetsIn F.slot_dict_values F.entry_dict_values rfl (PySem.evalArgs_none ⟨rfl, raw.typeIs, F.args_dict_values_1 _, _, meetsValues low, ⟨raw, fin⟩⟩)
theorem pi_itemsT {elts : List Expr} {kk : Nat} {tpos : Pos} (he : PE X e td) (hbase : attributeBase e "items" X.env (eval e X.env) = eval e X.env := by rfl) (hline : (apos.endLine == cpos.line) = true := by rfl) :
    PI X (.Tuple elts kk tpos) (.Call (.Attribute e "items" apos) [] [] cpos) (iItemsT td) := by
  refine ⟨fun pins s σ H R I h => ?_⟩
  refine wpAny_Call_method (T := "dict") (id := "dict.items") hbase rfl hline F.plainAttrs_dict F.slot_dict_items F.type_dict_items (thn (he.run pins s σ H _ I h) fun u s1 ⟨x, H1, I1, rx, d, o, kvs, ex, hd, q⟩ => ?_)
  subst ex
  obtain rfl : u = Value.ref d := rx
  obtain ⟨low, here, exact_, es, ep, dat, hsz, ent⟩ := I1.frzTV hd
  have raw := raw_of here exact_ dat
  refine ⟨raw.typeIs, noDict_of here exact_, ?_⟩
  have J : Inv X pins σ H1 { s1 with heap := s1.heap.push (DSub.viewOb "dict_items" d) } := I1.kept (t' := s1.toks) fun b ob q => Heap.get?_push_of_some _ q
  have fin : wpAny (model X.prog X.w) X.A (pyIter (.ref s1.heap.objs.size)) (PIE X pins σ (.Tuple elts kk tpos) R) X.xe { s1 with heap := s1.heap.push (DSub.viewOb "dict_items" d) } := by
    refine DSub.iter_itms (Heap.get?_push_size _ rfl) (Heap.get?_push_of_some _ here) dat ?_
    refine pi_one (tk := s1.toks) J _ (turn_itemsT _ dat) ⟨.none, .none, ?_⟩ q
    rw [← hsz]
    exact Heap.get?_push_size _ rfl
  show wpAny _ _ (callWith cpos (.builtin "dict.items") [.ref d] [] []) _ X.xe s1
  exact method_meetsIn F.slot_dict_items F.entry_dict_items rfl (PySem.evalArgs_none ⟨rfl, raw.typeIs, F.args_dict_items_1 _, _, DT.meetsItems low, ⟨raw, fin⟩⟩)
end
end L2
set_option maxRecDepth 100000
set_option maxHeartbeats 4000000
namespace L2
open PySem PySem.Spec PySem.Calls PyProof.Rows
theorem reads_ints {h : Heap} : ∀ {ns : List Int} {us : List Value}, Vals (ns.map V.int) us → ReadsAll h us (ns.map PyData.int) []
  | [], _, .nil => .nil
  | n :: ns, _, .cons r t => by
    obtain ⟨tk, rfl⟩ := r
    exact ReadsAll.cons (as := []) (bs := []) (.int n tk) (reads_ints t)
theorem reads_tup {X : Cx} {pins : List (Addr × Obj)} {σ : St} {H : Hp} {s : Shared} {q : Addr} {ns : List Int} (I : Inv X pins σ H s) (h : SqT X.K H q (ns.map V.int)) : Reads s.heap (.ref q) (rowD ns) [] := by
  obtain ⟨its, rv, ⟨o, ho, hc, n, hd⟩, _⟩ := I.tuple h
  exact .tuple ho hc hd (reads_ints rv)
def KeysI (H : Hp) (kvs : List (List Key × V)) (bs : List (Addr × List Int)) : Prop := Paired (fun (p : List Key × V) (b : Addr × List Int) => p.1 = b.2.map Sum.inl ∧ H b.1 = some (.tup (b.2.map V.int))) kvs bs
def rSortDT : List V → Hp → VK → Prop := fun vs H Q => ∃ (d : Addr) (kvs : List (List Key × V)), vs = [.ref d] ∧ Rd H d (.dT kvs) ∧ (∀ p ∈ kvs, ∃ ns : List Int, ns ≠ [] ∧ p.1 = ns.map Sum.inl) ∧
  ∀ (bs bs' : List (Addr × List Int)) (p : Addr), KeysI H kvs bs → bs'.Perm bs → bs'.Pairwise (fun a b => a.2 ≤ b.2) → H p = none → Q (.ref p) (upd H p (.lst (bs'.map fun b => V.ref b.1)))
theorem keysI_of {H : Hp} {kvs : List (List Key × V)} {xs : List (List Key × Addr × Value)} (r : KT H kvs xs) (all : ∀ p ∈ kvs, ∃ ns : List Int, ns ≠ [] ∧ p.1 = ns.map Sum.inl) :
    ∃ bs : List (Addr × List Int), KeysI H kvs bs ∧ bs.map (·.1) = xs.map (fun x => x.2.1) ∧ ∀ b ∈ bs, b.2 ≠ [] ∧ H b.1 = some (.tup (b.2.map V.int)) := by
  induction r with
  | nil => exact ⟨[], .nil, rfl, fun b hb => nomatch hb⟩
  | @cons p q l1 l2 h t ih =>
    obtain ⟨bs, b1, b2, b3⟩ := ih fun z hz => all z (List.mem_cons_of_mem _ hz)
    obtain ⟨ns, n0, e⟩ := all p (List.mem_cons_self ..)
    have et : H q.2.1 = some (.tup (ns.map V.int)) := by
      rw [h.2.1, e, List.map_map]
      rfl
    refine ⟨(q.2.1, ns) :: bs, .cons ⟨e, et⟩ b1, by rw [List.map_cons, List.map_cons, b2], fun b hb => ?_⟩
    rcases List.mem_cons.mp hb with rfl | hb
    · exact ⟨n0, et⟩
    · exact b3 b hb
section
variable {X : Cx}
theorem cr_sortedDT (calm : X.calm = true) (hu : X.A.units + 64 < cLine) : CallR X (.builtin "sorted") rSortDT := by
  intro pins s σ H vs us Q I r h
  obtain ⟨d, kvs, rfl, hd, all, q⟩ := h
  rw [Vals.ref1 r]
  obtain ⟨z, low, xs, pr, o, es, ep, ho, hx, dat, ent, nodup⟩ := (show ObjOk X.prog X.w H s.heap d (.dT kvs) from hd.ok I.hok)
  obtain ⟨bs, kb, fst, each⟩ := keysI_of pr all
  have lx : es.size = xs.length := size_of_entries ent
  have lk : kvs.length = xs.length := Paired.length pr
  have lb : bs.length = xs.length := by
    have := congrArg List.length fst
    rwa [List.length_map, List.length_map] at this
  refine call_function_entry kind_sorted plain_sorted entry_sorted (args_sorted1 _) ?_
  unfold Builtin.«sorted»
  refine wpAny_bind (m := checkCount "sorted" 1 1 _) (wpAny_pure ?_)
  refine wpAny_bind (PySem.W.kdu_collect (A := X.A.in1) (kdl_raw low hx dat) (I.ok.hd calm) ho (by omega) fun h1 tk acc keep items => ?_)
  have ea : acc.toList = bs.map fun b => Value.ref b.1 := by
    have e0 : (bs.map fun b => Value.ref b.1) = (xs.map fun x => x.2.1).map Value.ref := by rw [← fst, List.map_map]; rfl
    rw [e0]
    have l0 : acc.toList.length = xs.length := by rw [Array.length_toList, items.1]; exact lx
    refine List.ext_getElem? fun j => ?_
    cases hj : acc.toList[j]? with
    | none =>
      have := List.getElem?_eq_none_iff.mp hj
      rw [List.getElem?_eq_none (by rw [List.length_map, List.length_map]; omega)]
    | some v =>
      obtain ⟨en, hen, hv⟩ := items.2 j v (by rw [← Array.getElem?_toList]; exact hj)
      have qe := entry_at ent j
      rw [hen] at qe
      cases hb : xs[j]? with
      | none =>
        rw [hb] at qe
        cases qe
      | some b =>
        rw [hb] at qe
        have e2 : en = entryOfKey (tupleKind (mixKind X.prog X.w)) b := Option.some.inj qe
        rw [List.getElem?_map, List.getElem?_map, hb, hv, e2]
        rfl
  refine wpAny_bind (wpAny_newList ?_ (by rw [ea, List.length_map]; omega))
  have rv : Vals (bs.map fun b => V.ref b.1) acc.toList := by
    rw [ea]
    clear ea fst each kb lb
    induction bs with
    | nil => exact .nil
    | cons b bs ih => exact .cons rfl ih
  have I1 : Inv X pins σ H { s with heap := h1, toks := tk } := I.kept (t' := tk) keep
  have I2 : Inv X pins σ H { s with heap := h1.push { cls := .type "list", data := .seq acc.toList.toArray }, toks := tk } := I1.kept (t' := tk) fun b o e => Heap.get?_push_of_some _ e
  have at_ : (h1.push { cls := .type "list", data := .seq acc.toList.toArray }).get? h1.objs.size = some (seqObj "list" acc.toList.toArray 0) := Heap.get?_push_size _ rfl
  have e1 : PySem.W.EachIs (fun v (b : Addr × List Int) => v = .ref b.1) acc.toList bs := each_of (fun _ => rfl) rv
  have hp := List.mergeSort_perm bs (PySem.W.dataLe false fun b : Addr × List Int => rowD b.2)
  have hw : (bs.mergeSort (PySem.W.dataLe false fun b : Addr × List Int => rowD b.2)).Pairwise (fun a b => a.2 ≤ b.2) := by
    rw [dataLe_tups (fun b : Addr × List Int => b.2)]
    refine (List.pairwise_mergeSort (le := fun p q : Addr × List Int => decide (p.2 ≤ q.2)) (fun a b c h1 h2 => ?_) (fun a b => ?_) bs).imp fun h => of_decide_eq_true h
    · exact decide_eq_true (List.le_trans (of_decide_eq_true h1) (of_decide_eq_true h2))
    · rcases List.le_total a.2 b.2 with h | h
      · rw [decide_eq_true h]
        rfl
      · rw [decide_eq_true h, Bool.or_true]
  refine wpAny_bind (wpAny_holding (wpAny_mono (PySem.W.list_sort_data (A := X.A.in1) (s := { s with heap := h1.push { cls := .type "list", data := .seq acc.toList.toArray }, toks := tk }) (R := fun v (b : Addr × List Int) => v = .ref b.1) (enc := fun b => rowD b.2) (Q := fun _ s' => EP X pins σ Q (.ref h1.objs.size) s') at_ e1 ?_ ?_ ?_ ?_ (fun b _ => ?_) fun out ho2 eo => ?_) (fun _ s' x => ?_) fun _ _ e => e))
  · exact (PySem.W.each_mem e1).mono fun v b ⟨e, hm⟩ => ⟨[], by rw [e]; exact reads_tup I2 (SqT.of (each b hm).2), by simp⟩
  · exact PySem.W.AllAlike.of fun b b' => PySem.W.alike_ints b.2 b'.2
  · refine .inl fun y hy => ?_
    obtain ⟨b, hm, rfl⟩ := List.mem_map.mp hy
    cases e : b.2 with
    | nil => exact absurd e (each b hm).1
    | cons x m => exact ⟨.int x, m.map PyData.int, by show rowD _ = _; first | rfl | (rw [e]; rfl)⟩
  · omega
  · have hd : (rowD b.2).depth = 1 := by
      show PyData.depthAll (b.2.map PyData.int) + 1 = 1
      rw [PySem.W.depth_ints]
    rw [hd]
    show X.A.units + 1 + 1 + 1 < cLine
    omega
  · have hv := vals_each eo
    obtain ⟨ep2, at2⟩ := sortedHeap_at (out := List.toArray out) at_
    have sizes : (h1.push { cls := .type "list", data := .seq acc.toList.toArray }).objs.size = h1.objs.size + 1 := Heap.size_push ..
    refine ⟨.ref h1.objs.size, upd H h1.objs.size (.lst _), I1.laid (t' := tk) (fun b o e => ?_) (Nat.le_refl _) ⟨?_, out, ep2, hv, at2⟩, rfl, q _ _ _ kb hp hw (I1.hok.fresh (Nat.le_refl _))⟩
    · have lt : b < h1.objs.size := Heap.lt_size e
      rw [sortedHeap_old (Nat.ne_of_lt lt) (by rw [sizes]; exact Nat.lt_succ_of_lt lt)]
      exact Heap.get?_push_of_some _ e
    · rw [List.length_map, hp.length_eq]
      omega
  · exact wpAny_pure ⟨_, rfl, x⟩
end
end L2
set_option maxRecDepth 100000
set_option maxHeartbeats 4000000
namespace L2
open PySem PySem.Spec PyProof.Rows
section
variable {X : Cx} {pins : List (Addr × Obj)} {σ : St} {H : Hp} {s : Shared} {E : Value → Shared → Prop}
theorem put_tup {D q : Addr} {kvs : List (List Key × V)} {k : List Key} {v : V} {r : Value} {Q : Unit → Shared → Prop} (few : X.A.units + 1 < cLine) (I : Inv X pins σ H s) (hD : H D = some (.dT kvs)) (hq : H q = some (.tup (k.map kV))) (small : kvs.length < sizeLine) (rv : RelV v r)
    (go : ∀ s', Inv X pins σ (upd H D (.dT (putK kvs k v))) s' → Q () s') : wpAny (model X.prog X.w) X.A (dictSet D (.ref q) r) Q E s := by
  obtain ⟨z, low, xs, rel, dd⟩ := dt_of I.hok hD
  have lx : xs.length ≤ sizeLine := (Paired.length rel) ▸ z
  have lp := length_putK kvs k v
  refine wpAny_dictSet_heap (hsz := lx) (show X.A.units < cLine by omega) (key_of I.hok hq) dd fun h1 after same => go _ ?_
  obtain ⟨o, es, ep, at_, x1, x2, x3, _, x4⟩ := after
  refine d_write I (by rw [hD]; trivial) same ⟨o, at_⟩ ⟨by omega, low, _, (rel.put k hq rv).keeps fun c ys ec => ?_, o, es, ep, at_, x1, x2, x3, x4⟩
  have cD : c ≠ D := ne_of ec hD fun w => nomatch w
  exact (upd_ne cD).trans ec
end
section
variable {X : Cx}
def tDcT (wi : TI) (g : TG) (tt : TT) (tk tv : TE) (vs : List Nat) : TE := fun σ H Q => wi σ H fun J G => ∀ D, G D = none → ∃ W : Nat → Nat → Hp → Prop, (∃ m, W 0 m (upd G D (.dT []))) ∧ ∀ i m G, W i m G →
  (J.stop i G ∧ Q (.ref D) G) ∨ (J.go i G ∧ ∃ Nx : Hp → Prop, (∀ G', Nx G' → ∃ m', m' < m ∧ W (i + 1) m' G') ∧ ∀ x G', J.yld i G x G' → g x (wipe σ vs) G' fun τ G2 => wipe τ vs = wipe σ vs ∧ tt τ G2 fun b G3 =>
    if b = true then tk τ G3 fun y G4 => tv τ G4 fun z G5 => ∃ (kvs : List (List Key × V)) (k : List Key) (q : Addr), y = .ref q ∧ G5 q = some (.tup (k.map kV)) ∧ G5 D = some (.dT kvs) ∧ kvs.length < sizeLine ∧ Nx (upd G5 D (.dT (putK kvs k z))) else Nx G3)
theorem pe_dcT {kx vx tg iter : Expr} {ifs : List Expr} {scope : Scope} {own : List (Str × Nat)} {pos : Pos} {wi : TI} {g : TG} {tt : TT} {tk tv : TE} (calm : X.calm = true) (few : X.A.units + 1 < cLine) (hN : X.N.Nodup) (it0 : PI X tg iter wi) (ok : BlkOk X.N X.env.scope scope own)
    (rg : ∀ (s : Shared) (H : Hp) (C : Addr) (cl : List (Str × Addr)) (fp : List Addr), PG (X.blk s H scope (compEnvC scope cl C X.env) fp) tg g)
    (rt : ∀ (s : Shared) (H : Hp) (C : Addr) (cl : List (Str × Addr)) (fp : List Addr), PTs (X.blk s H scope (compEnvC scope cl C X.env) fp) ifs tt)
    (rk : ∀ (s : Shared) (H : Hp) (C : Addr) (cl : List (Str × Addr)) (fp : List Addr), PE (X.blk s H scope (compEnvC scope cl C X.env) fp) kx tk)
    (rv : ∀ (s : Shared) (H : Hp) (C : Addr) (cl : List (Str × Addr)) (fp : List Addr), PE (X.blk s H scope (compEnvC scope cl C X.env) fp) vx tv) (fold : ∀ x, foldedSetIterable iter X.env x = pure x := by intro _; rfl) :
    PE X (.DictComp kx vx [⟨tg, iter, ifs, 0⟩] scope pos) (tDcT wi g tt tk tv (own.map (·.2))) := by
  refine ⟨fun pins s σ H Q I hyp => ?_⟩
  rw [arm_eval_DictComp]
  have capt : ∀ y ∈ scope.names, y.2 = .free → ∃ c, X.env.cells.lookup y.1 = some c := fun y hy e => (ok.free y hy e).elim (fun k => I.ok.has _ (.inl k)) fun k => I.ok.has _ (.inr k)
  refine wpAny_comprehension_free rfl fold (closure_ok capt) ok.kind (fun y hy e => by rw [ok.uniq y hy, e]) (thn (it0.run pins s σ H _ I hyp) fun xv sa ha => thn ha fun iv sb hb => ?_)
  obtain ⟨it, fp, tn, J, G, ev, IG, T, stb, fb, want⟩ := hb
  subst ev
  refine wpAny_newObj_type (newEnv_comp ?_)
  generalize hD : sb.heap.objs.size = D
  obtain ⟨W, ⟨m0, w0⟩, turn⟩ := want D (IG.hok.fresh (Nat.le_of_eq hD))
  generalize hsc : ({ sb with heap := sb.heap.push { cls := .type "dict", data := .dict #[] } } : Shared) = sc
  have hc : sc.heap = sb.heap.push { cls := .type "dict", data := .dict #[] } := by rw [← hsc]
  have IC : Inv X pins σ (upd G D (.dT [])) sc := by
    rw [← hsc]
    refine IG.laid (t' := sb.toks) (fun b o e => Heap.get?_push_of_some _ e) (Nat.le_of_eq hD) ?_
    rw [← hD]
    exact dt_empty sb.heap IG.big
  have under : ∀ b ∈ fp, b < sb.heap.objs.size := fun b hb => let ⟨_, e, _⟩ := T.obj _ _ stb b hb; Heap.lt_size e
  have fc : ∀ b ∈ fp, FpOk X pins (upd G D (.dT [])) b ∧ b < sc.heap.objs.size := fun b hb => by
    have lt := under b hb
    refine ⟨⟨(upd_ne (hD ▸ Nat.ne_of_lt lt)).trans (fb b hb).1, (fb b hb).2⟩, ?_⟩
    rw [hc, Heap.size_push]
    exact Nat.lt_succ_of_lt lt
  have stc : tn 0 sc.heap := T.keep _ _ _ stb fun b _ o e => hc ▸ Heap.get?_push_of_some _ e
  have ID := block_start IC ok hN fc
  have pg := rg sc (upd G D (.dT [])) sc.heap.objs.size (cellsFrom (sc.heap.objs.size + 1) scope.names (cloFrom X.env.cells scope.names [])) fp
  have pt := rt sc (upd G D (.dT [])) sc.heap.objs.size (cellsFrom (sc.heap.objs.size + 1) scope.names (cloFrom X.env.cells scope.names [])) fp
  have pk := rk sc (upd G D (.dT [])) sc.heap.objs.size (cellsFrom (sc.heap.objs.size + 1) scope.names (cloFrom X.env.cells scope.names [])) fp
  have pv := rv sc (upd G D (.dT [])) sc.heap.objs.size (cellsFrom (sc.heap.objs.size + 1) scope.names (cloFrom X.env.cells scope.names [])) fp
  show codeAny _ _ (.compStart (.DictComp kx vx [⟨tg, iter, ifs, 0⟩] scope pos) 0 (.ref it) (.ref D) (compEnvC scope (cellsFrom (sc.heap.objs.size + 1) scope.names (cloFrom X.env.cells scope.names [])) sc.heap.objs.size X.env)) (compPost (model X.prog X.w) X.A X.xe _ _ (.ref D) sc.heap.objs.size) { sc with heap := pushCells (sc.heap.push { cls := .type "dict", data := .dict #[] }) scope.names }
  have away : ∀ b ∈ fp, (upd G D (.dT [])) b = none := fun b hb => (fc b hb).1.1
  generalize hce : compEnvC scope (cellsFrom (sc.heap.objs.size + 1) scope.names (cloFrom X.env.cells scope.names [])) sc.heap.objs.size X.env = ce at ID pg pt pk pv ⊢
  have loc : ce.locals = sc.heap.objs.size := by subst hce; rfl
  generalize hG1 : upd G D (.dT []) = G1 at IC ID pg pt pk pv w0 away fc
  generalize hsd : ({ sc with heap := pushCells (sc.heap.push { cls := .type "dict", data := .dict #[] }) scope.names } : Shared) = sd at ID ⊢
  have std : tn 0 sd.heap := T.keep _ _ _ stc fun b _ o e => hsd ▸ pushCells_keeps _ _ _ _ (Heap.get?_push_of_some _ e)
  have pinned : ∀ {τ : St} {G' : Hp} {s' : Shared}, Inv (X.blk sc G1 scope ce fp) [] τ G' s' → (∀ b ∈ fp, G' b = none) → ∀ b ∈ fp, FpOk (X.blk sc G1 scope ce fp) [] G' b := fun {τ G' s'} J' hn b hb =>
    ⟨hn b hb, (J'.ok.exf b hb).1, J'.ok.exfs b hb, .inl hb, fun x c e => (J'.ok.exf b hb).2 x c e, fun p hp => absurd (show p ∈ ([] : List (Addr × Obj)) ++ [] from hp) (by simp)⟩
  have loop : codeAny (model X.prog X.w) X.A (.compLoop (.DictComp kx vx [⟨tg, iter, ifs, 0⟩] scope pos) 0 (.ref it) (.ref D) ce) (compPost (model X.prog X.w) X.A X.xe none (EP X pins σ Q) (.ref D) sc.heap.objs.size) sd := by
    refine compLoop_anyD (fun n s' => ∃ i G', Inv (X.blk sc G1 scope ce fp) [] (wipe σ (own.map (·.2))) G' s' ∧ (∀ b ∈ fp, G' b = none) ∧ tn i s'.heap ∧ W i n G') ?_ m0 ⟨0, G1, ID, away, std, w0⟩
    rintro n se ⟨i, G5, IE, ne, ste, we⟩
    rcases turn i n G5 we with ⟨stop, fin⟩ | ⟨more, Nx, down, step⟩
    · refine thnF (T.done (X.blk sc G1 scope ce fp) rfl rfl rfl calm i [] se _ G5 (fun _ _ => False) IE (pinned IE ne) ste stop) fun r sf ⟨er, IF⟩ => ?_
      subst er
      have back : Inv X pins σ G5 sf := IC.call' (ch := fp) IF.os IF.base IF.hok IF.bare fun b hb => let ⟨f, _⟩ := fc b hb; ⟨f.2.2.2.1, f.2.1, f.2.2.2.2.1, f.2.2.2.2.2⟩
      have nl : G5 sc.heap.objs.size = none := loc ▸ (show G5 ce.locals = none from IF.free)
      obtain ⟨m, hn, _⟩ := IF.loc
      have ns : sf.heap.Ns sc.heap.objs.size m := loc ▸ (show sf.heap.Ns ce.locals m from hn)
      obtain ⟨f0, f1, f2, f3, f4, f5⟩ := IC.fpOk (Nat.le_refl _) nl
      exact ⟨m, ns, fun h2 same => ⟨.ref D, G5, back.turned (t' := sf.toks) (fun b o nb e => (same.2 b nb).trans e) f0 f1 f3 f4 f5, rfl, fin⟩⟩
    · refine thnF (T.item (X.blk sc G1 scope ce fp) rfl rfl rfl calm i [] se _ G5 (fun _ _ => False) IE (pinned IE ne) ste more) fun r sf ⟨u, er, hf⟩ => ?_
      subst er
      refine thnF hf fun _ sg ⟨x, G7, I7, r7, y7, st7, n7⟩ => ?_
      have obs := T.obj _ _ st7
      refine thnF (pg.run _ sg _ G7 x u _ (I7.pinned (pinned I7 n7) obs) r7 (step x G7 y7)) fun _ sh ⟨τ, G8, I8, same8, q8⟩ => ?_
      refine thnF (pt.run _ sh τ G8 _ I8 q8) fun b si ⟨G9, I9, q9⟩ => ?_
      have next : ∀ {s' : Shared} {G' : Hp}, Inv (X.blk sc G1 scope ce fp) ([] ++ pinsAt fp sg.heap) τ G' s' → Nx G' → ∃ m, m < n ∧ ∃ i G', Inv (X.blk sc G1 scope ce fp) [] (wipe σ (own.map (·.2))) G' s' ∧ (∀ b ∈ fp, G' b = none) ∧ tn i s'.heap ∧ W i m G' := fun {s' G'} J' nx => by
        obtain ⟨m', lt, w'⟩ := down G' nx
        have kept : ∀ b ∈ fp, ∀ o, sg.heap.get? b = some o → s'.heap.get? b = some o ∧ G' b = none := fun b hb o e => by
          have p := J'.pin (b, o) (List.mem_append_right _ (List.mem_append_right _ (mem_pinsAt hb e)))
          exact ⟨p.1, p.2.1⟩
        refine ⟨m', lt, i + 1, G', (J'.unpinned (pins := [])).weak (by rw [← same8, wipe_length]) (fun j v e => (wipe_some (same8.symm ▸ e)).1), fun b hb => ?_, T.keep _ _ _ st7 fun b hb o e => (kept b hb o e).1, w'⟩
        obtain ⟨o, e, _⟩ := obs b hb
        exact (kept b hb o e).2
      cases b with
      | false => exact next I9 q9
      | true =>
        refine thnF (pk.run _ si τ G9 _ I9 q9) fun z1 sj ⟨yk, Ga, Ia, ra, qa⟩ => ?_
        refine thnF (pv.run _ sj τ Ga _ Ia qa) fun z2 sk ⟨yv, Gb, Ib, rb, kvs, k, q, ek, eq, eD, small, nx⟩ => ?_
        subst ek
        obtain rfl : z1 = Value.ref q := ra
        exact put_tup (X := X.blk sc G1 scope ce fp) few Ib eD eq small rb fun sl Il => next Il nx
  exact codeAny_compStart_dict loop (T.self X.A 0 _ _ _ std loop)
end
end L2
set_option maxRecDepth 100000
set_option maxHeartbeats 4000000
namespace L2
open PySem PySem.Spec PyProof.Rows
structure PrT where
  t : Addr
  q : Addr
  k : List Key
  v : V
def mergeT (kvs : List (List Key × V)) (more : List PrT) : List (List Key × V) := more.foldl (fun acc p => putK acc p.k p.v) kvs
theorem mergeT_len : ∀ (more : List PrT) (kvs : List (List Key × V)), (mergeT kvs more).length ≤ kvs.length + more.length
  | [], _ => Nat.le_refl _
  | p :: more, kvs => by
    have h1 := mergeT_len more (putK kvs p.k p.v)
    have h2 := length_putK kvs p.k p.v
    show (mergeT (putK kvs p.k p.v) more).length ≤ kvs.length + (more.length + 1)
    omega
def rDictPT (K : PySem.W.Frag) : List V → Hp → VK → Prop := fun xs H Q => ∃ (a : Addr) (ts : List PrT), xs = [.ref a] ∧ SqL K H a (ts.map fun p => V.ref p.t) ∧ (∀ p ∈ ts, SqT K H p.t [.ref p.q, p.v] ∧ H p.q = some (.tup (p.k.map kV))) ∧
  ∀ d, H d = none → Q (.ref d) (upd H d (.dT (mergeT [] ts)))
theorem paired_mem {α β : Type} {G : α → β → Prop} : ∀ {l : List α} {r : List β}, Paired G l r → ∀ {x : β}, x ∈ r → ∃ p ∈ l, G p x
  | _, _, .nil, x, h => by cases h
  | _, _, .cons (a := p) (b := y) g t, x, h => by
    rcases List.mem_cons.mp h with rfl | h
    · exact ⟨p, List.mem_cons_self .., g⟩
    · obtain ⟨z, hz, gz⟩ := paired_mem t h
      exact ⟨z, List.mem_cons_of_mem _ hz, gz⟩
def RawP (h : Heap) (p : PrT) (x : List Key × Addr × Value) : Prop := x.1 = p.k ∧ x.2.1 = p.q ∧ RelV p.v x.2.2 ∧ h.IsTuple p.t #[.ref p.q, x.2.2]
section
variable {X : Cx} {pins : List (Addr × Obj)} {σ : St} {H : Hp} {s : Shared}
theorem raw_pairs (I : Inv X pins σ H s) : ∀ {ts : List PrT}, (∀ p ∈ ts, SqT X.K H p.t [.ref p.q, p.v] ∧ H p.q = some (.tup (p.k.map kV))) → ∃ hs, Paired (RawP s.heap) ts hs
  | [], _ => ⟨[], .nil⟩
  | p :: ts, all => by
    obtain ⟨hs, tail⟩ := raw_pairs I (ts := ts) fun z hz => all z (List.mem_cons_of_mem _ hz)
    obtain ⟨its, rv, pt, _⟩ := I.tuple (all p (List.mem_cons_self ..)).1
    cases rv with
    | cons r1 rv =>
      cases rv with
      | cons r2 rv =>
        cases rv
        rename_i u1 u2
        obtain rfl : u1 = Value.ref p.q := r1
        exact ⟨(p.k, p.q, u2) :: hs, .cons ⟨rfl, rfl, r2, pt⟩ tail⟩
theorem kt_merge {H : Hp} {h : Heap} : ∀ {ts : List PrT} {hs : List (List Key × Addr × Value)}, Paired (RawP h) ts hs → (∀ p ∈ ts, H p.q = some (.tup (p.k.map kV))) → ∀ {kvs : List (List Key × V)} {xs : List (List Key × Addr × Value)}, KT H kvs xs → KT H (mergeT kvs ts) (storedAllH xs hs)
  | _, _, .nil, _, _, _, b => b
  | _, _, .cons (a := p) (b := x) r t, all, kvs, xs, b => by
    obtain ⟨e1, e2, e3, e4⟩ := r
    obtain ⟨k, q, u⟩ := x
    simp only at e1 e2 e3
    subst e1 e2
    exact kt_merge t (fun z hz => all z (List.mem_cons_of_mem _ hz)) (KT.put b p.k (all p (List.mem_cons_self ..)) e3)
theorem cr_dictPT (calm : X.calm = true) (hu : X.A.units + 64 < cLine) : CallR X (.type "dict") (rDictPT X.K) := by
  intro pins s σ H xs us Q I r hyp
  obtain ⟨a, ts, rfl, hs, all, q⟩ := hyp
  rw [Vals.ref1 r]
  obtain ⟨its, rv, ⟨o, n, ho, hc, hd, hdat⟩, hz⟩ := I.list hs
  rw [List.length_map] at hz
  obtain ⟨rs, pr⟩ := raw_pairs I all
  have lr : ts.length = rs.length := Paired.length pr
  have ei : its = ts.map fun p => Value.ref p.t := by
    clear pr lr all q hs hz hdat
    induction ts generalizing its with
    | nil => cases rv; rfl
    | cons p ts ih =>
      cases rv with
      | cons r1 rv =>
        obtain rfl := r1
        rw [ih _ rv]
        rfl
  let ps : List (Value × Value) := rs.map fun x => (.ref x.2.1, x.2.2)
  let Ts : Nat → Addr := fun j => (ts[j]?.map (·.t)).getD 0
  have lp : ps.length = rs.length := List.length_map ..
  have at_ : ∀ {j : Nat} {k v : Value}, ps[j]? = some (k, v) → ∃ (p : PrT) (x : List Key × Addr × Value), ts[j]? = some p ∧ rs[j]? = some x ∧ RawP s.heap p x ∧ k = .ref x.2.1 ∧ v = x.2.2 := fun {j k v} e => by
    rw [show ps[j]? = rs[j]?.map fun x => (Value.ref x.2.1, x.2.2) from List.getElem?_map ..] at e
    cases er : rs[j]? with
    | none => rw [er] at e; cases e
    | some x =>
      rw [er] at e
      cases e
      have jt : j < ts.length := by
        have := (List.getElem?_eq_some_iff.mp er).1
        omega
      obtain ⟨x', ex, rp⟩ := paired_get pr (List.getElem?_eq_getElem jt)
      rw [er] at ex
      cases ex
      exact ⟨_, x, List.getElem?_eq_getElem jt, rfl, rp, rfl, rfl⟩
  refine call_dict_pairsH (knd := tupleKind (mixKind X.prog X.w)) (ps := rs) (PairArg.list a its.toArray Ts ps) (I.ok.hd calm) (show X.A.units + 2 < cLine by omega) ⟨⟨o, n, ho, hc, hd, hdat⟩, ?_, ?_⟩ ⟨lp.symm, ?_⟩ ?_ (by omega) fun h1 tk after keep => ?_
  · rw [List.size_toArray, ei, List.length_map, lp]
    exact lr
  · intro j k v e
    obtain ⟨p, x, ht, hr, rp, rfl, rfl⟩ := at_ e
    have eT : Ts j = p.t := by
      show (ts[j]?.map (·.t)).getD 0 = p.t
      rw [ht]
      rfl
    refine ⟨?_, .inl ?_⟩
    · rw [List.getElem?_toArray, ei, List.getElem?_map, ht, eT]
      rfl
    · rw [eT, rp.2.1]
      exact rp.2.2.2
  · intro i key v e
    obtain ⟨p, x, ht, hr, rp, rfl, rfl⟩ := at_ e
    exact ⟨x.1, x.2.1, hr, rfl⟩
  · intro h2 keep x hx
    obtain ⟨p, hp, rp⟩ := paired_mem pr hx
    obtain ⟨o2, i2, n2, y1, y2, y3, y4⟩ := key_of I.hok (all p hp).2
    rw [rp.1, rp.2.1]
    exact ⟨o2, i2, n2, keep _ _ (Nat.ne_of_lt (Heap.lt_size y1)) (by simp) y1, y2, y3, y4⟩
  · obtain ⟨o2, es, ep, y1, y2, y3, y4, _, y5⟩ := after
    have fresh : H s.heap.objs.size = none := I.hok.fresh (Nat.le_refl _)
    have few : (mergeT [] ts).length ≤ sizeLine := Nat.le_trans (mergeT_len ts []) (by rw [List.length_nil, Nat.zero_add]; exact hz)
    refine ⟨.ref s.heap.objs.size, upd H s.heap.objs.size (.dT (mergeT [] ts)), I.laid (t' := tk) (fun b ob e => keep b ob (by simp) e) (Nat.le_refl _) ⟨few, beq_eq_false_iff_ne.mpr (Nat.ne_of_gt I.big), storedAllH [] rs, (kt_merge pr (fun p hp => (all p hp).2) .nil).keeps fun c ys ec => ?_, o2, es, ep, y1, y2, y3, y4, y5⟩, rfl, q _ fresh⟩
    rw [upd_ne (ne_of_none ec fresh)]
    exact ec
end
end L2
set_option maxRecDepth 100000
set_option maxHeartbeats 4000000
namespace L2
open PySem PySem.Spec PyProof.Rows
def RdQ (K : PySem.W.Frag) (H : Hp) (v : V) (d : PyData) : Prop := ∀ (X : Cx) (pins : List (Addr × Obj)) (σ : St) (s : Shared), X.K = K → Inv X pins σ H s → ∀ u, RelV v u → ∃ as, Reads s.heap u d as ∧ sysModules ∉ as
theorem RdQ.non {K : PySem.W.Frag} {H : Hp} : RdQ K H .non .none := fun X pins σ s e I u r => by
  cases r
  exact ⟨_, .none, by simp⟩
theorem RdQ.bl {K : PySem.W.Frag} {H : Hp} (b : Bool) : RdQ K H (.bl b) (.bool b) := fun X pins σ s e I u r => by
  cases r
  exact ⟨_, .bool b, by simp⟩
theorem RdQ.int {K : PySem.W.Frag} {H : Hp} (i : Int) : RdQ K H (.int i) (.int i) := fun X pins σ s e I u r => by
  obtain ⟨t, rfl⟩ := (show ∃ t, u = Value.int i t from r)
  exact ⟨_, .int i t, by simp⟩
theorem RdQ.str {K : PySem.W.Frag} {H : Hp} (x : Str) : RdQ K H (.str x) (.str x) := fun X pins σ s e I u r => by
  obtain ⟨t, rfl⟩ := (show ∃ t, u = Value.str x t from r)
  exact ⟨_, .str x t, by simp⟩
theorem RdQ.row {K : PySem.W.Frag} {H : Hp} {a : Addr} {ns : List Int} (h : SqT K H a (ns.map V.int)) : RdQ K H (.ref a) (rowD ns) := fun X pins σ s e I u r => by
  subst e
  cases (show u = Value.ref a from r)
  exact ⟨[], reads_tup I h, by simp⟩
inductive RdQs (K : PySem.W.Frag) (H : Hp) : List V → List PyData → Prop
  | nil : RdQs K H [] []
  | cons {v : V} {vs : List V} {d : PyData} {ds : List PyData} (h : RdQ K H v d) (t : RdQs K H vs ds) : RdQs K H (v :: vs) (d :: ds)
theorem RdQs.reads {X : Cx} {pins : List (Addr × Obj)} {σ : St} {H : Hp} {s : Shared} (I : Inv X pins σ H s) : ∀ {vs : List V} {ds : List PyData} {us : List Value}, RdQs X.K H vs ds → Vals vs us → ∃ as, ReadsAll s.heap us ds as ∧ sysModules ∉ as
  | _, _, _, .nil, r => by
    cases r
    exact ⟨_, .nil, by simp⟩
  | _, _, _, .cons (d := d) (ds := ds) h t, r => by
    cases r with
    | cons r1 r2 =>
      obtain ⟨as, h1, n1⟩ := h X pins σ s rfl I _ r1
      obtain ⟨bs, h2, n2⟩ := RdQs.reads I t r2
      exact ⟨_, .cons h1 h2, fun m => (List.mem_append.mp m).elim n1 n2⟩
def dtK (ps : List (List Int × Int)) : List (List Key × V) := ps.map fun p => (p.1.map Sum.inl, V.int p.2)
def dtD (ps : List (List Int × Int)) : PyData := .dict (ps.map fun p => (rowD p.1, .int p.2))
theorem reads_ent {X : Cx} {pins : List (Addr × Obj)} {σ : St} {H : Hp} {s : Shared} (I : Inv X pins σ H s) : ∀ {ps : List (List Int × Int)} {xs : List (List Key × Addr × Value)}, KT H (dtK ps) xs →
    ReadsAll s.heap (xs.map fun x => Value.ref x.2.1) (ps.map fun p => rowD p.1) [] ∧ ReadsAll s.heap (xs.map fun x => x.2.2) (ps.map fun p => PyData.int p.2) []
  | [], _, h => by
    cases h
    exact ⟨.nil, .nil⟩
  | p :: ps, _, h => by
    cases h with
    | cons g t =>
      rename_i x xs
      obtain ⟨a1, a2⟩ := reads_ent I (ps := ps) t
      obtain ⟨e1, e2, e3⟩ := g
      obtain ⟨tk, e4⟩ := (show ∃ tk, x.2.2 = Value.int p.2 tk from e3)
      have key : H x.2.1 = some (.tup (p.1.map V.int)) := by
        rw [e2]
        show some (HO.tup ((p.1.map Sum.inl).map kV)) = _
        rw [List.map_map]
        rfl
      refine ⟨ReadsAll.cons (as := []) (bs := []) (reads_tup I (SqT.of key)) a1, ?_⟩
      rw [List.map_cons, e4]
      exact ReadsAll.cons (as := []) (bs := []) (.int p.2 tk) a2
theorem RdQ.dT {K : PySem.W.Frag} {H : Hp} {a : Addr} {ps : List (List Int × Int)} (h : Rd H a (.dT (dtK ps))) : RdQ K H (.ref a) (dtD ps) := fun X pins σ s e I u r => by
  cases (show u = Value.ref a from r)
  obtain ⟨z, low, xs, pr, o, es, ep, ho, ex, dat, ent, nd⟩ := (show ObjOk X.prog X.w H s.heap a (.dT (dtK ps)) from h.ok I.hok)
  obtain ⟨a1, a2⟩ := reads_ent I pr
  refine ⟨_, Reads.dict (as := []) (bs := []) (kvs := ps.map fun (p : List Int × Int) => (rowD p.1, PyData.int p.2)) ho ex.1 dat ?_ ?_, fun m => ?_⟩
  · rw [ent, List.map_map, List.map_map]
    exact a1
  · rw [ent, List.map_map, List.map_map]
    exact a2
  · simp at m
    rw [← m] at low
    simp at low
theorem RdQ.lst {K : PySem.W.Frag} {H : Hp} {l : Addr} {vs : List V} {ds : List PyData} (h : H l = some (.lst vs)) (n : l ≠ sysModules) (all : RdQs K H vs ds) : RdQ K H (.ref l) (.list ds) := fun X pins σ s e I u r => by
  subst e
  cases (show u = Value.ref l from r)
  obtain ⟨its, rv, ⟨o, k, ho, hc, _, hd⟩, _⟩ := I.list (SqL.of (K := X.K) h)
  obtain ⟨as, ra, na⟩ := all.reads I rv
  refine ⟨_, Reads.list ho hc hd ra, fun m => ?_⟩
  rcases List.mem_cons.mp m with m | m
  · exact n m.symm
  · exact na m
theorem RdQ.tup {K : PySem.W.Frag} {H : Hp} {a : Addr} {vs : List V} {ds : List PyData} (h : SqT K H a vs) (all : RdQs K H vs ds) : RdQ K H (.ref a) (.tuple ds) := fun X pins σ s e I u r => by
  subst e
  cases (show u = Value.ref a from r)
  obtain ⟨its, rv, ⟨o, ho, hc, k, hd⟩, _⟩ := I.tuple h
  obtain ⟨as, ra, na⟩ := all.reads I rv
  exact ⟨_, Reads.tuple ho hc hd ra, na⟩
def rShowQ (K : PySem.W.Frag) : List V → Hp → VK → Prop := fun xs H Q => ∃ (a : Addr) (d : PyData), xs = [.ref a] ∧ RdQ K H (.ref a) d ∧ d.showable = true ∧ d.depth ≤ 60 ∧ d.shown.length ≤ sizeLine ∧ Q (.str d.shown) H
section
variable {X : Cx}
theorem call_showQ (hg : X.A.guards = some []) (hu : X.A.units + 64 < cLine) : CallR X (.builtin "repr") (rShowQ X.K) := by
  intro pins s σ H xs us Q I r h
  obtain ⟨a, d, rfl, rd, h1, h2, h3, q⟩ := h
  obtain ⟨u, rfl, rx⟩ := vals1 r
  cases (show u = Value.ref a from rx)
  obtain ⟨as, ra, na⟩ := rd X pins σ s rfl I _ rfl
  exact repr_of_reads' ra h1 (fun _ => na) hg (by omega) (fun b o e => e) (fun h' u tk k => ⟨.str d.shown, H, I.kept (t' := tk) k, ⟨u, rfl⟩, q⟩) h3
def tLstB (t : TA) : TE := fun σ H Q => t σ H fun xs G => xs.length ≤ sizeLine ∧ ∀ p, p ≠ sysModules → G p = none → Q (.ref p) (upd G p (.lst xs))
theorem pe_lstB {es : List Expr} {t : TA} {pos : Pos} (h : PA X es t) : PE X (.List es pos) (tLstB t) := by
  refine ⟨fun pins s σ H Q I hyp => ?_⟩
  refine wpAny_List_spliced (thn (h.run pos pins s σ H _ I hyp) fun us s1 ⟨xs, G, J, r, z, q⟩ => ⟨r.length ▸ z, ?_⟩)
  exact ⟨.ref _, _, J.lnew (t' := s1.toks) r z, rfl, q _ (Nat.ne_of_gt J.big) J.fresh⟩
end
end L2
set_option maxRecDepth 100000
set_option maxHeartbeats 4000000
namespace L2
open PySem PySem.Spec PyProof.Rows
section
variable {d : Addr} {o : Obj} {kvs : List (List Key × V)}
theorem walk_valuesT : Walk (Itdt d o kvs) kvs.length (fun H => H d = some (.frz o (.dT kvs))) (fun i H x G => G = H ∧ ∃ k, kvs[i]? = some (k, x)) :=
  ⟨fun _ _ lt q => ⟨lt, q⟩, fun _ q => ⟨Nat.le_refl _, q⟩, fun _ _ _ _ _ _ y => ⟨y.2, y.1⟩⟩
theorem walk_itemsT : Walk (Itit d o kvs) kvs.length (fun H => H d = some (.frz o (.dT kvs))) (fun i H x G => ∃ (T q : Addr) (k : List Key) (v : V), kvs[i]? = some (k, v) ∧ H q = some (.tup (k.map kV)) ∧ x = .ref T ∧ H T = none ∧ G = upd H T (.tup [.ref q, v])) :=
  ⟨fun _ _ lt q => ⟨lt, q⟩, fun _ q => ⟨Nat.le_refl _, q⟩, fun _ _ _ _ _ _ y => y⟩
end
theorem dcT_it {J : It} {n : Nat} {S : Hp → Prop} {Y : Nat → Hp → V → Hp → Prop} (w : Walk J n S Y) {g : TG} {tt : TT} {tk tv : TE} {vs : List Nat} {σ : St} {G : Hp} {D : Addr} {Qd : Hp → Prop} (Pv : Nat → Hp → Prop) (h0 : Pv 0 (upd G D (.dT []))) (hS : ∀ i H, i ≤ n → Pv i H → S H)
    (hs : ∀ i x H G', i < n → Pv i H → Y i H x G' → g x (wipe σ vs) G' fun τ G2 => wipe τ vs = wipe σ vs ∧ tt τ G2 fun b G3 =>
      if b = true then tk τ G3 fun y G4 => tv τ G4 fun z G5 => ∃ (kvs : List (List Key × V)) (k : List Key) (q : Addr), y = .ref q ∧ G5 q = some (.tup (k.map kV)) ∧ G5 D = some (.dT kvs) ∧ kvs.length < sizeLine ∧ Pv (i + 1) (upd G5 D (.dT (putK kvs k z))) else Pv (i + 1) G3) (hd : ∀ H, Pv n H → Qd H) :
    ∃ W : Nat → Nat → Hp → Prop, (∃ m, W 0 m (upd G D (.dT []))) ∧ ∀ i m H, W i m H →
      (J.stop i H ∧ Qd H) ∨ (J.go i H ∧ ∃ Nx : Hp → Prop, (∀ G', Nx G' → ∃ m', m' < m ∧ W (i + 1) m' G') ∧ ∀ x G', J.yld i H x G' → g x (wipe σ vs) G' fun τ G2 => wipe τ vs = wipe σ vs ∧ tt τ G2 fun b G3 =>
        if b = true then tk τ G3 fun y G4 => tv τ G4 fun z G5 => ∃ (kvs : List (List Key × V)) (k : List Key) (q : Addr), y = .ref q ∧ G5 q = some (.tup (k.map kV)) ∧ G5 D = some (.dT kvs) ∧ kvs.length < sizeLine ∧ Nx (upd G5 D (.dT (putK kvs k z))) else Nx G3) := by
  refine ⟨fun i m H => Pv i H ∧ i ≤ n ∧ m = n - i, ⟨n, h0, Nat.zero_le _, rfl⟩, ?_⟩
  rintro i m H ⟨p, le, rfl⟩
  have st := hS i H le p
  rcases Nat.lt_or_ge i n with lt | ge
  · exact .inr ⟨w.goes i H lt st, Pv (i + 1), fun G' p' => ⟨n - (i + 1), by omega, p', lt, rfl⟩, fun x G' y => hs i x H G' lt p (w.yields i H x G' lt st y)⟩
  · obtain rfl : i = n := Nat.le_antisymm le ge
    exact .inl ⟨w.stops H st, hd H p⟩
def rTypD (K : PySem.W.Frag) : List V → Hp → VK → Prop := fun xs H Q => rTyp K xs H Q ∨ ∃ (a : Addr) (kvs : List (List Key × V)), xs = [.ref a] ∧ Rd H a (.dT kvs) ∧ Q (.ty "dict") H
section
variable {X : Cx}
theorem call_typeD : CallR X (.type "type") (rTypD X.K) := by
  intro pins s σ H xs us Q I r h
  rcases h with h | ⟨a, kvs, rfl, hd, q⟩
  · exact call_type1 pins s σ H xs us Q I r h
  · obtain ⟨u, rfl, rx⟩ := vals1 r
    cases (show u = Value.ref a from rx)
    obtain ⟨z, low, xs, pr, o, es, ep, ho, ex, dat, ent, nd⟩ := (show ObjOk X.prog X.w H s.heap a (.dT kvs) from hd.ok I.hok)
    have ty : s.TypeIs (.ref a) "dict" := ⟨o, ho, ex.1⟩
    exact call_type_of ty (by decide +kernel) ⟨.ty "dict", H, I, rfl, q⟩
end
end L2
set_option maxRecDepth 100000
set_option maxHeartbeats 4000000
namespace L2
open PySem PySem.Spec PyProof.Rows
def tDispT (trs : List (TE × TE)) : TE := fun σ H Q => ∀ d, H d = none → tPairs trs σ (upd H d (.dT [])) fun ps G => ∃ (q : Addr) (k : List Key) (v : V), ps = [(.ref q, v)] ∧ G q = some (.tup (k.map kV)) ∧ G d = some (.dT []) ∧ Q (.ref d) (upd G d (.dT [(k, v)]))
theorem pe_dispT {X : Cx} {pos : Pos} {k v : Expr} {trs : List (TE × TE)} (few : X.A.units + 1 < cLine) (h : PPs X pos [some k] [v] trs) : PE X (.Dict [some k] [v] pos) (tDispT trs) := by
  refine ⟨fun pins s σ H Q I hyp => ?_⟩
  have fresh := I.hok.fresh (Nat.le_refl s.heap.objs.size)
  have J := I.laid (a := s.heap.objs.size) (o := .dT []) (h' := s.heap.push { cls := .type "dict", data := .dict #[] }) (t' := s.toks) (fun _ _ q => Heap.get?_push_of_some _ q) (Nat.le_refl _) (dt_empty s.heap I.big)
  refine wpAny_Dict_any rfl rfl (by simp) (by show 1 ≤ 15; decide) (thn (h.run pins _ σ _ _ J (hyp _ fresh)) fun ws s2 ⟨ps, G, J2, rel, q, ks, z, e, eq, ed, want⟩ => ?_)
  subst e
  generalize hw : ws = wl at rel
  cases rel with
  | @cons a b la lb r1 r2 =>
    cases r2
    obtain ⟨u1, u2⟩ := b
    obtain ⟨e1, e2⟩ := r1
    obtain rfl : u1 = Value.ref q := e1
    unfold storeAll
    simp only [List.forIn_cons, List.forIn_nil]
    refine wpAny_bind (wpAny_bind (put_tup (kvs := []) few J2 ed eq (by show 0 < sizeLine; decide) e2 fun s3 J3 => ?_))
    exact wpAny_pure (wpAny_pure ⟨.ref s.heap.objs.size, _, J3, rfl, want⟩)
end L2
set_option maxRecDepth 100000
set_option maxHeartbeats 4000000
namespace L2
open PySem PySem.Spec PyProof.Rows
section
variable {X : Cx}
def Back (X : Cx) (s : Shared) (G : Hp) (scope : Scope) (ce : Env) (fp : List Addr) (pins : List (Addr × Obj)) (σ : St) : Prop :=
  ∀ (qs : List (Addr × Obj)) (τ : St) (G' : Hp) (s' : Shared), Inv (X.blk s G scope ce fp) qs τ G' s' → Inv X pins σ G' s'
theorem pe_lcI {el tg iter : Expr} {ifs : List Expr} {scope : Scope} {own : List (Str × Nat)} {pos : Pos} {wi : TI} {g : TG} {tt : St → TT} {tl : TE} (calm : X.calm = true) (hN : X.N.Nodup) (it0 : PI X tg iter wi) (ok : BlkOk X.N X.env.scope scope own)
    (rg : ∀ (s : Shared) (H : Hp) (C : Addr) (cl : List (Str × Addr)) (fp : List Addr), PG (X.blk s H scope (compEnvC scope cl C X.env) fp) tg g)
    (rt : ∀ (s : Shared) (H : Hp) (C : Addr) (cl : List (Str × Addr)) (fp : List Addr) (pins : List (Addr × Obj)) (σ : St), Back X s H scope (compEnvC scope cl C X.env) fp pins σ → PTs (X.blk s H scope (compEnvC scope cl C X.env) fp) ifs (tt σ))
    (rl : ∀ (s : Shared) (H : Hp) (C : Addr) (cl : List (Str × Addr)) (fp : List Addr), PE (X.blk s H scope (compEnvC scope cl C X.env) fp) el tl) (fold : ∀ x, foldedSetIterable iter X.env x = pure x := by intro _; rfl) :
    PE X (.ListComp el [⟨tg, iter, ifs, 0⟩] scope pos) (fun σ H Q => tLc wi g (tt σ) tl (own.map (·.2)) σ H Q) := by
  refine ⟨fun pins s σ H Q I hyp => ?_⟩
  rw [eval_ListComp]
  have capt : ∀ y ∈ scope.names, y.2 = .free → ∃ c, X.env.cells.lookup y.1 = some c := fun y hy e => (ok.free y hy e).elim (fun k => I.ok.has _ (.inl k)) fun k => I.ok.has _ (.inr k)
  refine wpAny_comprehension_free rfl fold (closure_ok capt) ok.kind (fun y hy e => by rw [ok.uniq y hy, e]) (thn (it0.run pins s σ H _ I hyp) fun xv sa ha => thn ha fun iv sb hb => ?_)
  obtain ⟨it, fp, tn, J, G, ev, IG, T, stb, fb, want⟩ := hb
  subst ev
  refine wpAny_newObj_type (newEnv_comp ?_) (by show 0 ≤ sizeLine; decide)
  generalize hD : sb.heap.objs.size = D
  obtain ⟨W, ⟨m0, w0⟩, turn⟩ := want D (IG.hok.fresh (Nat.le_of_eq hD))
  generalize hsc : ({ sb with heap := sb.heap.push { cls := .type "list", data := .seq ([] : List Value).toArray } } : Shared) = sc
  have hc : sc.heap = sb.heap.push { cls := .type "list", data := .seq ([] : List Value).toArray } := by rw [← hsc]
  have IC : Inv X pins σ (upd G D (.lst [])) sc := by
    rw [← hsc]
    refine IG.laid (t' := sb.toks) (fun b o e => Heap.get?_push_of_some _ e) (Nat.le_of_eq hD) ?_
    rw [← hD]
    exact ⟨Nat.zero_le _, [], 0, .nil, Heap.get?_push_size _ rfl⟩
  have under : ∀ b ∈ fp, b < sb.heap.objs.size := fun b hb => let ⟨_, e, _⟩ := T.obj _ _ stb b hb; Heap.lt_size e
  have fc : ∀ b ∈ fp, FpOk X pins (upd G D (.lst [])) b ∧ b < sc.heap.objs.size := fun b hb => by
    have lt := under b hb
    refine ⟨⟨(upd_ne (hD ▸ Nat.ne_of_lt lt)).trans (fb b hb).1, (fb b hb).2⟩, ?_⟩
    rw [hc, Heap.size_push]
    exact Nat.lt_succ_of_lt lt
  have stc : tn 0 sc.heap := T.keep _ _ _ stb fun b _ o e => hc ▸ Heap.get?_push_of_some _ e
  have ID := block_start IC ok hN fc
  have backI : Back X sc (upd G D (.lst [])) scope (compEnvC scope (cellsFrom (sc.heap.objs.size + 1) scope.names (cloFrom X.env.cells scope.names [])) sc.heap.objs.size X.env) fp pins σ := fun qs τ G' s' J' =>
    IC.call' (ch := fp) J'.os J'.base J'.hok J'.bare fun b hb => let ⟨f, _⟩ := fc b hb; ⟨f.2.2.2.1, f.2.1, f.2.2.2.2.1, f.2.2.2.2.2⟩
  have pg := rg sc (upd G D (.lst [])) sc.heap.objs.size (cellsFrom (sc.heap.objs.size + 1) scope.names (cloFrom X.env.cells scope.names [])) fp
  have pt := rt sc (upd G D (.lst [])) sc.heap.objs.size (cellsFrom (sc.heap.objs.size + 1) scope.names (cloFrom X.env.cells scope.names [])) fp pins σ backI
  have pl := rl sc (upd G D (.lst [])) sc.heap.objs.size (cellsFrom (sc.heap.objs.size + 1) scope.names (cloFrom X.env.cells scope.names [])) fp
  show codeAny _ _ (.compStart (.ListComp el [⟨tg, iter, ifs, 0⟩] scope pos) 0 (.ref it) (.ref D) (compEnvC scope (cellsFrom (sc.heap.objs.size + 1) scope.names (cloFrom X.env.cells scope.names [])) sc.heap.objs.size X.env)) (compPost (model X.prog X.w) X.A X.xe _ _ (.ref D) sc.heap.objs.size) { sc with heap := pushCells (sc.heap.push { cls := .type "dict", data := .dict #[] }) scope.names }
  have away : ∀ b ∈ fp, (upd G D (.lst [])) b = none := fun b hb => (fc b hb).1.1
  generalize hce : compEnvC scope (cellsFrom (sc.heap.objs.size + 1) scope.names (cloFrom X.env.cells scope.names [])) sc.heap.objs.size X.env = ce at ID pg pt pl ⊢
  have loc : ce.locals = sc.heap.objs.size := by subst hce; rfl
  clear backI
  generalize hG1 : upd G D (.lst []) = G1 at IC ID pg pt pl w0 away fc
  generalize hsd : ({ sc with heap := pushCells (sc.heap.push { cls := .type "dict", data := .dict #[] }) scope.names } : Shared) = sd at ID ⊢
  have std : tn 0 sd.heap := T.keep _ _ _ stc fun b _ o e => hsd ▸ pushCells_keeps _ _ _ _ (Heap.get?_push_of_some _ e)
  have pinned : ∀ {τ : St} {G' : Hp} {s' : Shared}, Inv (X.blk sc G1 scope ce fp) [] τ G' s' → (∀ b ∈ fp, G' b = none) → ∀ b ∈ fp, FpOk (X.blk sc G1 scope ce fp) [] G' b := fun {τ G' s'} J' hn b hb =>
    ⟨hn b hb, (J'.ok.exf b hb).1, J'.ok.exfs b hb, .inl hb, fun x c e => (J'.ok.exf b hb).2 x c e, fun p hp => absurd (show p ∈ ([] : List (Addr × Obj)) ++ [] from hp) (by simp)⟩
  have loop : codeAny (model X.prog X.w) X.A (.compLoop (.ListComp el [⟨tg, iter, ifs, 0⟩] scope pos) 0 (.ref it) (.ref D) ce) (compPost (model X.prog X.w) X.A X.xe none (EP X pins σ Q) (.ref D) sc.heap.objs.size) sd := by
    refine compLoop_any (fun n s' => ∃ i G', Inv (X.blk sc G1 scope ce fp) [] (wipe σ (own.map (·.2))) G' s' ∧ (∀ b ∈ fp, G' b = none) ∧ tn i s'.heap ∧ W i n G') ?_ m0 ⟨0, G1, ID, away, std, w0⟩
    rintro n se ⟨i, G5, IE, ne, ste, we⟩
    rcases turn i n G5 we with ⟨stop, fin⟩ | ⟨more, Nx, down, step⟩
    · refine thnF (T.done (X.blk sc G1 scope ce fp) rfl rfl rfl calm i [] se _ G5 (fun _ _ => False) IE (pinned IE ne) ste stop) fun r sf ⟨er, IF⟩ => ?_
      subst er
      have back : Inv X pins σ G5 sf := IC.call' (ch := fp) IF.os IF.base IF.hok IF.bare fun b hb => let ⟨f, _⟩ := fc b hb; ⟨f.2.2.2.1, f.2.1, f.2.2.2.2.1, f.2.2.2.2.2⟩
      have nl : G5 sc.heap.objs.size = none := loc ▸ (show G5 ce.locals = none from IF.free)
      obtain ⟨m, hn, _⟩ := IF.loc
      have ns : sf.heap.Ns sc.heap.objs.size m := loc ▸ (show sf.heap.Ns ce.locals m from hn)
      obtain ⟨f0, f1, f2, f3, f4, f5⟩ := IC.fpOk (Nat.le_refl _) nl
      exact ⟨m, ns, fun h2 same => ⟨.ref D, G5, back.turned (t' := sf.toks) (fun b o nb e => (same.2 b nb).trans e) f0 f1 f3 f4 f5, rfl, fin⟩⟩
    · refine thnF (T.item (X.blk sc G1 scope ce fp) rfl rfl rfl calm i [] se _ G5 (fun _ _ => False) IE (pinned IE ne) ste more) fun r sf ⟨u, er, hf⟩ => ?_
      subst er
      refine thnF hf fun _ sg ⟨x, G7, I7, r7, y7, st7, n7⟩ => ?_
      have obs := T.obj _ _ st7
      refine thnF (pg.run _ sg _ G7 x u _ (I7.pinned (pinned I7 n7) obs) r7 (step x G7 y7)) fun _ sh ⟨τ, G8, I8, same8, q8⟩ => ?_
      refine thnF (pt.run _ sh τ G8 _ I8 q8) fun b si ⟨G9, I9, q9⟩ => ?_
      have next : ∀ {s' : Shared} {G' : Hp}, Inv (X.blk sc G1 scope ce fp) ([] ++ pinsAt fp sg.heap) τ G' s' → Nx G' → ∃ m, m < n ∧ ∃ i G', Inv (X.blk sc G1 scope ce fp) [] (wipe σ (own.map (·.2))) G' s' ∧ (∀ b ∈ fp, G' b = none) ∧ tn i s'.heap ∧ W i m G' := fun {s' G'} J' nx => by
        obtain ⟨m', lt, w'⟩ := down G' nx
        have kept : ∀ b ∈ fp, ∀ o, sg.heap.get? b = some o → s'.heap.get? b = some o ∧ G' b = none := fun b hb o e => by
          have p := J'.pin (b, o) (List.mem_append_right _ (List.mem_append_right _ (mem_pinsAt hb e)))
          exact ⟨p.1, p.2.1⟩
        refine ⟨m', lt, i + 1, G', (J'.unpinned (pins := [])).weak (by rw [← same8, wipe_length]) (fun j v e => (wipe_some (same8.symm ▸ e)).1), fun b hb => ?_, T.keep _ _ _ st7 fun b hb o e => (kept b hb o e).1, w'⟩
        obtain ⟨o, e, _⟩ := obs b hb
        exact (kept b hb o e).2
      cases b with
      | false => exact next I9 q9
      | true =>
        refine thnF (pl.run _ si τ G9 _ I9 q9) fun z1 sj ⟨yl, Ga, Ia, ra, acc, eD, small, nx⟩ => ?_
        exact app_ok (X := X.blk sc G1 scope ce fp) Ia eD small ra fun sl Il => next Il nx
  exact codeAny_compStart_list loop (T.self X.A 0 _ _ _ std loop)
theorem call_isAK {K : PySem.W.Frag} (h : X.K = K) : CallR X (.builtin "isinstance") (rIsA K) := by
  subst h
  exact call_isA
end
end L2
namespace LamX
open PySem PySem.Spec PyProof.Rows L2
def tCallLamI (X : Cx) (σ0 : L2.St) (k : Nat) (q : Str) (TT : (XK → Hp → VK → Prop) → Hp → VK → Prop) (te : TE) : TE := fun τ H Q => te τ H fun v G => ∃ t : XK → TE, IsLam X k q t G v ∧ TT (fun E H' Q' => t E σ0 H' Q') G Q
theorem pe_callLamI {X : Cx} {s0 : Shared} {H0 : Hp} {scope : Scope} {ce : Env} {fp : List Addr} {ps0 : List (Addr × Obj)} {σ0 : L2.St} {TT : (XK → Hp → VK → Prop) → Hp → VK → Prop} {x a q : Str} {g : Addr} {k : Nat} {pg : Arguments} {bg : List Stmt} {sg : Scope} {dV kV doc pm cdv ct oc : Value} {an od : Option Addr} {osl : Array (Option Value)} {names : List Str}
    {e : Expr} {te : TE} {p pos : Pos} (bk : Back X s0 H0 scope ce fp ps0 σ0) (he : PE (X.blk s0 H0 scope ce fp) e te) (hg : Gl (X.blk s0 H0 scope ce fp) x) (hm : X.mg x = some (.ref g)) (hk : PySem.W.keepIn X.K (.ref g) = true)
    (lk : X.K.lookup g = some ⟨oc, od, .func (PySem.W.fnOf x x pg bg sg dV kV doc pm an cdv ct), osl⟩) (hcg : PySem.W.codeIn X.K cdv x = true) (hb : L2.Binds X.K (PySem.W.fnOf x x pg bg sg dV kV doc pm an cdv ct) [a] []) (Sg : FnScope names [a] sg) (at_ : names[0]? = some a) (vis : Vis sg a)
    (gives : GivesToV X names x sg g cdv bg a TT) (eq : X.env.qual ++ "<lambda>" = q) (hr : Room (k + 2) X.A)
    (hs : starEach [e] ce = [(false, eval e ce)] := by rfl)
    (n0 : (x == ("__debug__" : Str)) = false := by decide) (n1 : (a == ("__debug__" : Str)) = false := by decide) (n2 : (a == ("__classdict__" : Str)) = false := by decide) (hpl : (backTo pos (starEach ([] : List Expr) ce)).any (·.1) = false := by rfl) :
    PE (X.blk s0 H0 scope ce fp) (.Call (.Name x p) [e] [] pos) (tCallLamI X σ0 k q TT te) := by
  subst eq
  refine ⟨fun pins s τ H Q I hyp => ?_⟩
  refine wpAny_Call_Name_kw (ld_glob I hg hm ?_ n0)
  refine PySem.W.callWith_K (h₀ := X.base) I.ok.mod.kin hk ?_ hs hpl
  rw [hs]
  refine Calls.spliced_cons (thn (he.run pins s τ H _ I hyp) fun u s' ⟨v, G, J, ru, t, ⟨fl, co, o, ev, f1, f2, fc⟩, want⟩ => ?_)
  subst ev
  obtain rfl : u = Value.ref fl := ru
  obtain ⟨ps, bd, lsc, rfl, L, noArgs, body⟩ := f2.ex
  refine Calls.spliced_nil ⟨J.kIn, ?_⟩
  have J0 := bk _ _ _ _ J
  have run : codeAny (model X.prog X.w) X.A (.call (.ref g) ⟨[.ref fl], []⟩) (CR C8.CX0 X.stack X.prog X.w G s' Q C8.E0) s' := by
    refine run_ofS (N := names) (ps := [a]) (us := [.ref fl]) (vs := [.ref fl]) lk hcg Sg hr J0.env0 (hb s' [.ref fl] J0.kIn rfl) (.cons rfl .nil) rfl fun hr' => ?_
    obtain ⟨t', ht', hq'⟩ := gives fl s' G Q (fun E G' Q' => t E σ0 G' Q') (fun G => G fl = some (LamO fl co (X.env.qual ++ "<lambda>") ps bd lsc (cloFrom X.env.cells lsc.names [])) ∧ G co = some (CodeO co (X.env.qual ++ "<lambda>")))
      (fun W pn xe Ew p1 p2 tk wish => ⟨fun pz sz τ2 G2 Q2 J2 hyp2 => (act_known (i := 0) J0 L (fun _ _ => noArgs _ _ _ _ _) tk wish hr' (fun E A outer s H room => body A outer s H E room) at_ vis n1 n2).run pz sz τ2 G2 Q2 J2 ⟨hyp2.1, hyp2.2.1.1, hyp2.2.1.2, hyp2.2.2⟩⟩) ⟨f1, fc⟩ want
    exact ⟨t', ht'.nox, hq'⟩
  refine wpAny_call (codeAny_mono run fun r s2 q => ?_)
  match r with
  | .error e => exact (show False from q).elim
  | .ok (.ret u) => exact J.after q
  | .ok .next => exact False.elim q
  | .ok .brk => exact False.elim q
  | .ok .cont => exact False.elim q
end LamX
set_option maxRecDepth 100000
set_option maxHeartbeats 4000000
namespace Tt
open PySem L2
structure DefAt (K : PySem.W.Frag) (mg : Str → Option Value) (x : Str) (st : Stmt) (ps : List Str) where
  a : Addr
  fd : FuncData
  F : Fun K x x st a fd
  g : mg x = some (.ref a)
  b : Binds K fd ps []
theorem DefAt.k {K : PySem.W.Frag} {mg : Str → Option Value} {x : Str} {st : Stmt} {ps : List Str} (d : DefAt K mg x st ps) : PySem.W.keepIn K (.ref d.a) = true := d.F.kp
structure Ex0 (K : PySem.W.Frag) (mg : Str → Option Value) (x : Str) where
  C : Addr
  g : mg x = some (.ref C)
  k : PySem.W.keepIn K (.ref C) = true
  q : PySem.W.excIn K C [.type "ValueError", .type "Exception", .type "BaseException", .type "object"] "ValueError.__new__" = true
  ty : PySem.W.typeIn K (.ref C) = some (.type "type")
  ec : ExcC K C
structure Ex1 (K : PySem.W.Frag) (mg : Str → Option Value) (x qual : Str) (st : Stmt) (ps : List Str) (field : Str) where
  C : Addr
  fI : Addr
  fd : FuncData
  g : mg x = some (.ref C)
  o : OexC K C
  i : PySem.W.findIn K (.ref C) "__init__" = some (some (.ref fI))
  t : PySem.W.typeIn K (.ref fI) = some (.type "function")
  F : Fun K "__init__" qual st fI fd
  b : Binds K fd ps []
  n : PySem.W.findIn K (.ref C) field = some none
  xf : XfC K C
  ec : ExcC K C
structure ClsAt (K : PySem.W.Frag) (mg : Str → Option Value) (x qual : Str) (st : Stmt) (ps : List Str) (attrs : List Str) where
  C : Addr
  fI : Addr
  fd : FuncData
  g : mg x = some (.ref C)
  c : Cls K C
  n : ∀ f ∈ attrs, NoAttr K C f
  kk : Mk K C fI
  F : Fun K "__init__" qual st fI fd
  b : Binds K fd ps []
  ha : PySem.W.findIn K (.ref C) "__class__" = some (some (.builtin "object.__class__"))
  hn : PySem.W.specialIn K (.builtin "object.__class__") "__get__" = some (some (.builtin "getset_descriptor.__get__"))
  ht : PySem.W.takesIn K (.builtin "object.__class__") = some true
  hm : PySem.W.mroIn K C (.type "object") = some true
structure FunC (K : PySem.W.Frag) (x qual : Str) (st : Stmt) (f : Addr) (fd : FuncData) (cdv : Value) : Prop where
  ex : ∃ (oc : Value) (od : Option Addr) (kV doc pm : Value) (an : Option Addr) (ct : Value) (osl : Array (Option Value)),
    fd = PySem.W.fnOf x qual (defArgs st) (defBody st) (defScope st) .none kV doc pm an cdv ct ∧ K.lookup f = some ⟨oc, od, .func fd, osl⟩ ∧ PySem.W.codeIn K cdv qual = true
theorem FunC.ok {P : Program} {w : World} {K : PySem.W.Frag} {mg : Str → Option Value} {base : Heap} {x qual : Str} {st : Stmt} {f : Addr} {fd : FuncData} {cdv : Value} {N ps : List Str} {k : Nat} {sp : Sp} (F : FunC K x qual st f fd cdv) (S : FnScope N ps (defScope st)) (len : ∀ vs H Q E, sp vs H Q E → vs.length = ps.length)
    (body : ∀ (A : Around) (outer : List Env) (s : Shared) (H : Hp) (vs : List V) (Q : VK) (E : XK), Room k (A.deeper (PyProof.Rows.envOfC qual (defScope st) s.heap.objs.size f cdv)) → sp vs H Q E →
      ∃ t, PSs (cxOf CX0 P w K mg base N qual (defScope st) f cdv A outer s H E).nox (defBody st) t ∧ t { nx := fun _ H' => Q .non H', rt := Q } (L2.start N vs) H) : FnOk P w K mg base CX0 (k + 1) f fd ps sp := by
  obtain ⟨oc, od, kV, doc, pm, an, ct, osl, rfl, lk, hc⟩ := F.ex
  refine fn_of lk hc S len fun A outer s H vs Q E hr h => ?_
  obtain ⟨t, h1, h2⟩ := body A outer s H vs Q E hr h
  exact ⟨t, h1.nox, h2⟩
def top (i : Nat) : Stmt := PySem.Challenge.pw_tautrounds_k26_sums_judged_and_added.main.body.getD i (.Pass ⟨0, 0, 0, 0⟩)
abbrev s_BadNumber_init : Stmt := inClass (top 2) 0
abbrev N_BadNumber_init : List Str := ["self", "part"]
theorem sc_BadNumber_init : FnScope N_BadNumber_init ["self", "part"] (defScope s_BadNumber_init) := ⟨rfl, rfl, rfl, by decide +kernel, rfl, by decide +kernel, by decide +kernel⟩
abbrev s_BadSkin_init : Stmt := inClass (top 3) 0
abbrev N_BadSkin_init : List Str := ["self", "part"]
theorem sc_BadSkin_init : FnScope N_BadSkin_init ["self", "part"] (defScope s_BadSkin_init) := ⟨rfl, rfl, rfl, by decide +kernel, rfl, by decide +kernel, by decide +kernel⟩
abbrev s_is_number : Stmt := top 6
abbrev N_is_number : List Str := ["thing"]
theorem sc_is_number : FnScope N_is_number ["thing"] (defScope s_is_number) := ⟨rfl, rfl, rfl, by decide +kernel, rfl, by decide +kernel, by decide +kernel⟩
abbrev s_is_within : Stmt := top 7
abbrev N_is_within : List Str := ["thing", "low", "high"]
theorem sc_is_within : FnScope N_is_within ["thing", "low", "high"] (defScope s_is_within) := ⟨rfl, rfl, rfl, by decide +kernel, rfl, by decide +kernel, by decide +kernel⟩
abbrev s_is_tuple : Stmt := top 8
abbrev N_is_tuple : List Str := ["thing"]
theorem sc_is_tuple : FnScope N_is_tuple ["thing"] (defScope s_is_tuple) := ⟨rfl, rfl, rfl, by decide +kernel, rfl, by decide +kernel, by decide +kernel⟩
abbrev s_is_list : Stmt := top 9
abbrev N_is_list : List Str := ["thing"]
theorem sc_is_list : FnScope N_is_list ["thing"] (defScope s_is_list) := ⟨rfl, rfl, rfl, by decide +kernel, rfl, by decide +kernel, by decide +kernel⟩
abbrev s_is_row : Stmt := top 11
abbrev N_is_row : List Str := ["row", "end"]
theorem sc_is_row : FnScope N_is_row ["row"] (defScope s_is_row) := ⟨rfl, rfl, rfl, by decide +kernel, rfl, by decide +kernel, by decide +kernel⟩
abbrev s_Skin_init : Stmt := inClass (top 12) 0
abbrev N_Skin_init : List Str := ["self", "row", "start", "end"]
theorem sc_Skin_init : FnScope N_Skin_init ["self", "row"] (defScope s_Skin_init) := ⟨rfl, rfl, rfl, by decide +kernel, rfl, by decide +kernel, by decide +kernel⟩
abbrev s_Skin_eq : Stmt := inClass (top 12) 1
abbrev N_Skin_eq : List Str := ["self", "other"]
theorem sc_Skin_eq : FnScope N_Skin_eq ["self", "other"] (defScope s_Skin_eq) := ⟨rfl, rfl, rfl, by decide +kernel, rfl, by decide +kernel, by decide +kernel⟩
abbrev s_check_skin : Stmt := top 13
abbrev N_check_skin : List Str := ["skin"]
theorem sc_check_skin : FnScope N_check_skin ["skin"] (defScope s_check_skin) := ⟨rfl, rfl, rfl, by decide +kernel, rfl, by decide +kernel, by decide +kernel⟩
abbrev s_is_end : Stmt := top 14
abbrev N_is_end : List Str := ["skin", "thing"]
theorem sc_is_end : FnScope N_is_end ["skin", "thing"] (defScope s_is_end) := ⟨rfl, rfl, rfl, by decide +kernel, rfl, by decide +kernel, by decide +kernel⟩
abbrev s_least_turn : Stmt := top 15
abbrev N_least_turn : List Str := ["word", "many", "one", "other", "alike", "first", "second", "start"]
theorem sc_least_turn : FnScope N_least_turn ["word"] (defScope s_least_turn) := ⟨rfl, rfl, rfl, by decide +kernel, rfl, by decide +kernel, by decide +kernel⟩
abbrev s_is_any_word : Stmt := top 17
abbrev N_is_any_word : List Str := ["skin", "thing", "letter"]
theorem sc_is_any_word : FnScope N_is_any_word ["skin", "thing"] (defScope s_is_any_word) := ⟨rfl, rfl, rfl, by decide +kernel, rfl, by decide +kernel, by decide +kernel⟩
abbrev s_has_letters : Stmt := top 18
abbrev N_has_letters : List Str := ["skin", "thing", "most"]
theorem sc_has_letters : FnScope N_has_letters ["skin", "thing", "most"] (defScope s_has_letters) := ⟨rfl, rfl, rfl, by decide +kernel, rfl, by decide +kernel, by decide +kernel⟩
abbrev s_cut_free : Stmt := top 19
abbrev N_cut_free : List Str := ["word", "left", "letter"]
theorem sc_cut_free : FnScope N_cut_free ["word"] (defScope s_cut_free) := ⟨rfl, rfl, rfl, by decide +kernel, rfl, by decide +kernel, by decide +kernel⟩
abbrev s_closed_letters : Stmt := top 22
abbrev N_closed_letters : List Str := ["word", "left", "cut"]
theorem sc_closed_letters : FnScope N_closed_letters ["word"] (defScope s_closed_letters) := ⟨rfl, rfl, rfl, by decide +kernel, rfl, by decide +kernel, by decide +kernel⟩
abbrev s_closed_up : Stmt := top 23
abbrev N_closed_up : List Str := ["word", "left"]
theorem sc_closed_up : FnScope N_closed_up ["word"] (defScope s_closed_up) := ⟨rfl, rfl, rfl, by decide +kernel, rfl, by decide +kernel, by decide +kernel⟩
abbrev s_is_fit_round : Stmt := top 24
abbrev N_is_fit_round : List Str := ["skin", "thing"]
theorem sc_is_fit_round : FnScope N_is_fit_round ["skin", "thing"] (defScope s_is_fit_round) := ⟨rfl, rfl, rfl, by decide +kernel, rfl, by decide +kernel, by decide +kernel⟩
abbrev s_is_number_of_sum : Stmt := top 28
abbrev N_is_number_of_sum : List Str := ["thing"]
theorem sc_is_number_of_sum : FnScope N_is_number_of_sum ["thing"] (defScope s_is_number_of_sum) := ⟨rfl, rfl, rfl, by decide +kernel, rfl, by decide +kernel, by decide +kernel⟩
abbrev s_is_fit_sum : Stmt := top 29
abbrev N_is_fit_sum : List Str := ["skin", "thing", "loop", "number"]
theorem sc_is_fit_sum : FnScope N_is_fit_sum ["skin", "thing"] (defScope s_is_fit_sum) := ⟨rfl, rfl, rfl, by decide +kernel, rfl, by decide +kernel, by decide +kernel⟩
abbrev s_is_sum : Stmt := top 30
abbrev N_is_sum : List Str := ["skin", "thing"]
theorem sc_is_sum : FnScope N_is_sum ["skin", "thing"] (defScope s_is_sum) := ⟨rfl, rfl, rfl, by decide +kernel, rfl, by decide +kernel, by decide +kernel⟩
abbrev s_check_sum : Stmt := top 31
abbrev N_check_sum : List Str := ["skin", "some"]
theorem sc_check_sum : FnScope N_check_sum ["skin", "some"] (defScope s_check_sum) := ⟨rfl, rfl, rfl, by decide +kernel, rfl, by decide +kernel, by decide +kernel⟩
abbrev s_put_together : Stmt := top 32
abbrev N_put_together : List Str := ["rows", "numbers", "key", "number"]
theorem sc_put_together : FnScope N_put_together ["rows"] (defScope s_put_together) := ⟨rfl, rfl, rfl, by decide +kernel, rfl, by decide +kernel, by decide +kernel⟩
abbrev s_times_rows : Stmt := top 33
abbrev N_times_rows : List Str := ["some", "times", "key", "number"]
theorem sc_times_rows : FnScope N_times_rows ["some", "times"] (defScope s_times_rows) := ⟨rfl, rfl, rfl, by decide +kernel, rfl, by decide +kernel, by decide +kernel⟩
abbrev s_added : Stmt := top 34
abbrev N_added : List Str := ["skin", "one", "other", "times"]
theorem sc_added : FnScope N_added ["skin", "one", "other", "times"] (defScope s_added) := ⟨rfl, rfl, rfl, by decide +kernel, rfl, by decide +kernel, by decide +kernel⟩
abbrev s_weight : Stmt := top 35
abbrev N_weight : List Str := ["skin", "some", "number"]
theorem sc_weight : FnScope N_weight ["skin", "some"] (defScope s_weight) := ⟨rfl, rfl, rfl, by decide +kernel, rfl, by decide +kernel, by decide +kernel⟩
abbrev s_l_begun : Stmt := top 37
abbrev N_l_begun : List Str := ["script", "large", "grain"]
theorem sc_l_begun : FnScope N_l_begun ["script"] (defScope s_l_begun) := ⟨rfl, rfl, rfl, by decide +kernel, rfl, by decide +kernel, by decide +kernel⟩
abbrev s_l_mixed : Stmt := top 38
abbrev N_l_mixed : List Str := ["draw", "turn", "found", "great", "stirred", "cell"]
theorem sc_l_mixed : FnScope N_l_mixed ["draw"] (defScope s_l_mixed) := ⟨rfl, rfl, rfl, by decide +kernel, rfl, by decide +kernel, by decide +kernel⟩
abbrev s_l_take : Stmt := top 39
abbrev N_l_take : List Str := ["draw", "amount", "found"]
theorem sc_l_take : FnScope N_l_take ["draw", "amount"] (defScope s_l_take) := ⟨rfl, rfl, rfl, by decide +kernel, rfl, by decide +kernel, by decide +kernel⟩
abbrev s_l_pick : Stmt := top 40
abbrev N_l_pick : List Str := ["draw", "some"]
theorem sc_l_pick : FnScope N_l_pick ["draw", "some"] (defScope s_l_pick) := ⟨rfl, rfl, rfl, by decide +kernel, rfl, by decide +kernel, by decide +kernel⟩
abbrev s_l_shuffled : Stmt := top 41
abbrev N_l_shuffled : List Str := ["draw", "some", "left", "found"]
theorem sc_l_shuffled : FnScope N_l_shuffled ["draw", "some"] (defScope s_l_shuffled) := ⟨rfl, rfl, rfl, by decide +kernel, rfl, by decide +kernel, by decide +kernel⟩
abbrev s_l_caught : Stmt := top 42
abbrev N_l_caught : List Str := ["work", "found", "error"]
theorem sc_l_caught : FnScope N_l_caught ["work"] (defScope s_l_caught) := ⟨rfl, rfl, rfl, by decide +kernel, rfl, by decide +kernel, by decide +kernel⟩
abbrev s_l_row : Stmt := top 43
abbrev N_l_row : List Str := ["draw", "bands"]
theorem sc_l_row : FnScope N_l_row ["draw", "bands"] (defScope s_l_row) := ⟨rfl, rfl, rfl, by decide +kernel, rfl, by decide +kernel, by decide +kernel⟩
abbrev s_l_freed : Stmt := top 44
abbrev N_l_freed : List Str := ["word", "left", "letter"]
theorem sc_l_freed : FnScope N_l_freed ["word"] (defScope s_l_freed) := ⟨rfl, rfl, rfl, by decide +kernel, rfl, by decide +kernel, by decide +kernel⟩
abbrev s_l_turn : Stmt := top 45
abbrev N_l_turn : List Str := ["word", "spot"]
theorem sc_l_turn : FnScope N_l_turn ["word"] (defScope s_l_turn) := ⟨rfl, rfl, rfl, by decide +kernel, rfl, by decide +kernel, by decide +kernel⟩
abbrev s_l_round : Stmt := top 46
abbrev N_l_round : List Str := ["word", "left"]
theorem sc_l_round : FnScope N_l_round ["word"] (defScope s_l_round) := ⟨rfl, rfl, rfl, by decide +kernel, rfl, by decide +kernel, by decide +kernel⟩
abbrev s_l_word : Stmt := top 47
abbrev N_l_word : List Str := ["draw", "bands", "many", "found", "spot", "barred", "some", "letter"]
theorem sc_l_word : FnScope N_l_word ["draw", "bands", "many"] (defScope s_l_word) := ⟨rfl, rfl, rfl, by decide +kernel, rfl, by decide +kernel, by decide +kernel⟩
abbrev s_l_any_round : Stmt := top 48
abbrev N_l_any_round : List Str := ["draw", "bands", "most", "way", "many", "part", "found"]
theorem sc_l_any_round : FnScope N_l_any_round ["draw", "bands", "most"] (defScope s_l_any_round) := ⟨rfl, rfl, rfl, by decide +kernel, rfl, by decide +kernel, by decide +kernel⟩
abbrev s_l_put : Stmt := top 49
abbrev N_l_put : List Str := ["book", "key", "number"]
theorem sc_l_put : FnScope N_l_put ["book", "key", "number"] (defScope s_l_put) := ⟨rfl, rfl, rfl, by decide +kernel, rfl, by decide +kernel, by decide +kernel⟩
abbrev s_l_kept : Stmt := top 50
abbrev N_l_kept : List Str := ["book", "key"]
theorem sc_l_kept : FnScope N_l_kept ["book"] (defScope s_l_kept) := ⟨rfl, rfl, rfl, by decide +kernel, rfl, by decide +kernel, by decide +kernel⟩
abbrev s_l_same_dict : Stmt := top 51
abbrev N_l_same_dict : List Str := ["found", "due"]
theorem sc_l_same_dict : FnScope N_l_same_dict ["found", "due"] (defScope s_l_same_dict) := ⟨rfl, rfl, rfl, by decide +kernel, rfl, by decide +kernel, by decide +kernel⟩
abbrev s_l_weight : Stmt := top 52
abbrev N_l_weight : List Str := ["book", "key"]
theorem sc_l_weight : FnScope N_l_weight ["book"] (defScope s_l_weight) := ⟨rfl, rfl, rfl, by decide +kernel, rfl, by decide +kernel, by decide +kernel⟩
abbrev s_l_unlike_rounds : Stmt := top 53
abbrev N_l_unlike_rounds : List Str := ["draw", "bands", "many", "found", "lap", "letter", "size"]
theorem sc_l_unlike_rounds : FnScope N_l_unlike_rounds ["draw", "bands", "many"] (defScope s_l_unlike_rounds) := ⟨rfl, rfl, rfl, by decide +kernel, rfl, by decide +kernel, by decide +kernel⟩
abbrev s_l_numbered : Stmt := top 54
abbrev N_l_numbered : List Str := ["draw", "loops", "found", "loop", "number"]
theorem sc_l_numbered : FnScope N_l_numbered ["draw", "loops"] (defScope s_l_numbered) := ⟨rfl, rfl, rfl, by decide +kernel, rfl, by decide +kernel, by decide +kernel⟩
abbrev s_l_bent : Stmt := top 55
abbrev N_l_bent : List Str := ["draw", "bands", "some", "bad", "unlike", "found", "way"]
theorem sc_l_bent : FnScope N_l_bent ["draw", "bands", "some"] (defScope s_l_bent) := ⟨rfl, rfl, rfl, by decide +kernel, rfl, by decide +kernel, by decide +kernel⟩
abbrev s_l_judged : Stmt := top 56
abbrev N_l_judged : List Str := ["draw", "skin", "bands", "one", "lap", "wide", "less"]
theorem sc_l_judged : FnScope N_l_judged ["draw", "skin", "bands", "one"] (defScope s_l_judged) := ⟨rfl, rfl, rfl, by decide +kernel, rfl, by decide +kernel, by decide +kernel⟩
abbrev s_l_added_right : Stmt := top 57
abbrev N_l_added_right : List Str := ["draw", "skin", "one", "other", "times", "due", "loop", "kept", "found", "away"]
theorem sc_l_added_right : FnScope N_l_added_right ["draw", "skin", "one", "other"] (defScope s_l_added_right) := ⟨rfl, rfl, rfl, by decide +kernel, rfl, by decide +kernel, by decide +kernel⟩
abbrev s_l_refused : Stmt := top 58
abbrev N_l_refused : List Str := ["draw", "skin", "bands", "one", "bad", "no", "odd", "works", "work", "caught"]
theorem sc_l_refused : FnScope N_l_refused ["draw", "skin", "bands", "one"] (defScope s_l_refused) := ⟨rfl, rfl, rfl, by decide +kernel, rfl, by decide +kernel, by decide +kernel⟩
abbrev s_law : Stmt := top 59
abbrev N_law : List Str := ["script", "draw", "turn", "bands", "skin", "many", "loops", "one", "other"]
theorem sc_law : FnScope N_law ["script"] (defScope s_law) := ⟨rfl, rfl, rfl, by decide +kernel, rfl, by decide +kernel, by decide +kernel⟩
structure Txt (K : PySem.W.Frag) (mg : Str → Option Value) where
  RoundError : Ex0 K mg "RoundError"
  BadNumber : Ex1 K mg "BadNumber" "BadNumber.__init__" s_BadNumber_init ["self", "part"] "part"
  BadSkin : Ex1 K mg "BadSkin" "BadSkin.__init__" s_BadSkin_init ["self", "part"] "part"
  BadSum : Ex0 K mg "BadSum"
  is_number : DefAt K mg "is_number" s_is_number ["thing"]
  is_within : DefAt K mg "is_within" s_is_within ["thing", "low", "high"]
  is_tuple : DefAt K mg "is_tuple" s_is_tuple ["thing"]
  is_list : DefAt K mg "is_list" s_is_list ["thing"]
  is_row : DefAt K mg "is_row" s_is_row ["row"]
  Skin : ClsAt K mg "Skin" "Skin.__init__" s_Skin_init ["self", "row"] ["row", "bands", "places"]
  check_skin : DefAt K mg "check_skin" s_check_skin ["skin"]
  is_end : DefAt K mg "is_end" s_is_end ["skin", "thing"]
  least_turn : DefAt K mg "least_turn" s_least_turn ["word"]
  is_any_word : DefAt K mg "is_any_word" s_is_any_word ["skin", "thing"]
  has_letters : DefAt K mg "has_letters" s_has_letters ["skin", "thing", "most"]
  cut_free : DefAt K mg "cut_free" s_cut_free ["word"]
  closed_letters : DefAt K mg "closed_letters" s_closed_letters ["word"]
  closed_up : DefAt K mg "closed_up" s_closed_up ["word"]
  is_fit_round : DefAt K mg "is_fit_round" s_is_fit_round ["skin", "thing"]
  is_number_of_sum : DefAt K mg "is_number_of_sum" s_is_number_of_sum ["thing"]
  is_fit_sum : DefAt K mg "_is_fit_sum" s_is_fit_sum ["skin", "thing"]
  is_sum : DefAt K mg "is_sum" s_is_sum ["skin", "thing"]
  check_sum : DefAt K mg "check_sum" s_check_sum ["skin", "some"]
  put_together : DefAt K mg "put_together" s_put_together ["rows"]
  times_rows : DefAt K mg "times_rows" s_times_rows ["some", "times"]
  added : DefAt K mg "added" s_added ["skin", "one", "other", "times"]
  weight : DefAt K mg "weight" s_weight ["skin", "some"]
  l_begun : DefAt K mg "_law_begun" s_l_begun ["script"]
  l_mixed : DefAt K mg "_law_mixed" s_l_mixed ["draw"]
  l_take : DefAt K mg "_law_take" s_l_take ["draw", "amount"]
  l_pick : DefAt K mg "_law_pick" s_l_pick ["draw", "some"]
  l_shuffled : DefAt K mg "_law_shuffled" s_l_shuffled ["draw", "some"]
  l_caught : DefAt K mg "_law_caught" s_l_caught ["work"]
  l_row : DefAt K mg "_law_row" s_l_row ["draw", "bands"]
  l_freed : DefAt K mg "_law_freed" s_l_freed ["word"]
  l_turn : DefAt K mg "_law_turn" s_l_turn ["word"]
  l_round : DefAt K mg "_law_round" s_l_round ["word"]
  l_word : DefAt K mg "_law_word" s_l_word ["draw", "bands", "many"]
  l_any_round : DefAt K mg "_law_any_round" s_l_any_round ["draw", "bands", "most"]
  l_put : DefAt K mg "_law_put" s_l_put ["book", "key", "number"]
  l_kept : DefAt K mg "_law_kept" s_l_kept ["book"]
  l_same_dict : DefAt K mg "_law_same_dict" s_l_same_dict ["found", "due"]
  l_weight : DefAt K mg "_law_weight" s_l_weight ["book"]
  l_unlike_rounds : DefAt K mg "_law_unlike_rounds" s_l_unlike_rounds ["draw", "bands", "many"]
  l_numbered : DefAt K mg "_law_numbered" s_l_numbered ["draw", "loops"]
  l_bent : DefAt K mg "_law_bent" s_l_bent ["draw", "bands", "some"]
  l_judged : DefAt K mg "_law_judged" s_l_judged ["draw", "skin", "bands", "one"]
  l_added_right : DefAt K mg "_law_added_right" s_l_added_right ["draw", "skin", "one", "other"]
  l_refused : DefAt K mg "_law_refused" s_l_refused ["draw", "skin", "bands", "one"]
  law : DefAt K mg "law" s_law ["script"]
  zabs : mg "abs" = none
  zall : mg "all" = none
  zdict : mg "dict" = none
  zint : mg "int" = none
  zisinstance : mg "isinstance" = none
  zlen : mg "len" = none
  zlist : mg "list" = none
  zmax : mg "max" = none
  zmin : mg "min" = none
  zrange : mg "range" = none
  zrepr : mg "repr" = none
  zsorted : mg "sorted" = none
  zsum : mg "sum" = none
  ztuple : mg "tuple" = none
  ztype : mg "type" = none
  v_MOST_IN_ROUND : Value
  c_MOST_IN_ROUND : mg "MOST_IN_ROUND" = some v_MOST_IN_ROUND
  r_MOST_IN_ROUND : RelV (.int 40) v_MOST_IN_ROUND
  v_MOST_IN_SUM : Value
  c_MOST_IN_SUM : mg "MOST_IN_SUM" = some v_MOST_IN_SUM
  r_MOST_IN_SUM : RelV (.int 60) v_MOST_IN_SUM
  v_MOST_NUMBER : Value
  c_MOST_NUMBER : mg "MOST_NUMBER" = some v_MOST_NUMBER
  r_MOST_NUMBER : RelV (.int 1000000000) v_MOST_NUMBER
  kSS : PySem.W.kitOne K (.ref Skin.C) (.ref Skin.C) = some true
  kST : PySem.W.kitOne K (.type "tuple") (.ref Skin.C) = some false
  kSN : PySem.W.kitOne K (.type "NoneType") (.ref Skin.C) = some false
  kSI : PySem.W.kitOne K (.type "int") (.ref Skin.C) = some false
  kSY : PySem.W.kitOne K (.type "str") (.ref Skin.C) = some false
  kSkSk : PySem.W.kitOne K (.ref BadSkin.C) (.ref BadSkin.C) = some true
  sSR : PySem.W.subIn K (.ref BadSkin.C) (.ref RoundError.C) = some true
  kUU : PySem.W.kitOne K (.ref BadSum.C) (.ref BadSum.C) = some true
  sUR : PySem.W.subIn K (.ref BadSum.C) (.ref RoundError.C) = some true
  kNN : PySem.W.kitOne K (.ref BadNumber.C) (.ref BadNumber.C) = some true
  sNR : PySem.W.subIn K (.ref BadNumber.C) (.ref RoundError.C) = some true
  kDD : PySem.W.kitOne K (.type "dict") (.type "dict") = some true
  jc : Addr
  jP : Addr
  jF : FunC K "_law_refused" "_law_refused" s_l_refused l_refused.a l_refused.fd (.ref jc)
structure Dw where
  d : Addr
  l : Addr
  c : Addr
def drK (D : Dw) (r t : Int) : List (Key × V) := [(Sum.inr "large", .ref D.l), (Sum.inr "rest", .int r), (Sum.inr "cells", .ref D.c), (Sum.inr "turn", .int t)]
structure DrAt (D : Dw) (H : Hp) (ls cs : List Int) (r t : Int) : Prop where
  hd : H D.d = some (.dK (drK D r t))
  hl : H D.l = some (.lst (ls.map V.int))
  hc : H D.c = some (.lst (cs.map V.int))
  ne : D.l ≠ D.c
  nl : ls.length ≤ 63
  nc : cs.length ≤ 63
def DrOk (D : Dw) (H : Hp) : Prop := ∃ ls cs r t, DrAt D H ls cs r t
def Kp (D : Dw) (H H' : Hp) : Prop := ∀ b o, H b = some o → b ≠ D.d → b ≠ D.l → H' b = some o
theorem Kp.refl {D : Dw} {H : Hp} : Kp D H H := fun _ _ h _ _ => h
theorem Kp.trans {D : Dw} {H H1 H2 : Hp} (a : Kp D H H1) (b : Kp D H1 H2) : Kp D H H2 := fun c o h n m => b c o (a c o h n m) n m
theorem Kp.of {D : Dw} {H H' : Hp} (a : Same H H') : Kp D H H' := fun c o h _ _ => a c o h
theorem Kp.new {D : Dw} {H : Hp} {p : Addr} {o : HO} (h : H p = none) : Kp D H (upd H p o) := fun c u e _ _ => by
  rw [upd_ne (ne_of_none e h)]
  exact e
theorem DrAt.dne {D : Dw} {H : Hp} {ls cs : List Int} {r t : Int} (h : DrAt D H ls cs r t) {b : Addr} {o : HO} (e : H b = some o) (n : ∀ kvs, o ≠ .dK kvs) : b ≠ D.d := fun z => by
  rw [z, h.hd] at e
  exact n _ (Option.some.inj e).symm
theorem DrAt.lne {D : Dw} {H : Hp} {ls cs : List Int} {r t : Int} (h : DrAt D H ls cs r t) {b : Addr} {o : HO} (e : H b = some o) (n : ∀ xs, o ≠ .lst xs) : b ≠ D.l := fun z => by
  rw [z, h.hl] at e
  exact n _ (Option.some.inj e).symm
theorem DrAt.new {D : Dw} {H : Hp} {ls cs : List Int} {r t : Int} (h : DrAt D H ls cs r t) {p : Addr} {o : HO} (n : H p = none) : DrAt D (upd H p o) ls cs r t :=
  ⟨by rw [upd_ne (ne_of_none h.hd n)]; exact h.hd, by rw [upd_ne (ne_of_none h.hl n)]; exact h.hl, by rw [upd_ne (ne_of_none h.hc n)]; exact h.hc, h.ne, h.nl, h.nc⟩
theorem DrAt.same {D : Dw} {H H' : Hp} {ls cs : List Int} {r t : Int} (h : DrAt D H ls cs r t) (s : Same H H') : DrAt D H' ls cs r t := ⟨s _ _ h.hd, s _ _ h.hl, s _ _ h.hc, h.ne, h.nl, h.nc⟩
theorem DrAt.nelc {D : Dw} {H : Hp} {ls cs : List Int} {r t : Int} (h : DrAt D H ls cs r t) : D.l ≠ D.d := h.dne h.hl (fun _ z => nomatch z)
theorem DrAt.necd {D : Dw} {H : Hp} {ls cs : List Int} {r t : Int} (h : DrAt D H ls cs r t) : D.c ≠ D.d := h.dne h.hc (fun _ z => nomatch z)
theorem DrAt.put {D : Dw} {H : Hp} {ls cs : List Int} {r t r' t' : Int} (h : DrAt D H ls cs r t) : DrAt D (upd H D.d (.dK (drK D r' t'))) ls cs r' t' :=
  ⟨upd_same, by rw [upd_ne h.nelc]; exact h.hl, by rw [upd_ne h.necd]; exact h.hc, h.ne, h.nl, h.nc⟩
theorem Kp.put {D : Dw} {H : Hp} {o : HO} : Kp D H (upd H D.d o) := fun b u e n _ => by rw [upd_ne n]; exact e
theorem Kp.putl {D : Dw} {H : Hp} {o : HO} : Kp D H (upd H D.l o) := fun b u e _ n => by rw [upd_ne n]; exact e
theorem DrAt.pop {D : Dw} {H : Hp} {ls cs ls' : List Int} {r t : Int} (h : DrAt D H ls cs r t) (n : ls'.length ≤ 63) : DrAt D (upd H D.l (.lst (ls'.map V.int))) ls' cs r t :=
  ⟨by rw [upd_ne h.nelc.symm]; exact h.hd, upd_same, by rw [upd_ne h.ne.symm]; exact h.hc, h.ne, n, h.nc⟩
theorem val_large (D : Dw) (r t : Int) : valV (drK D r t) (Sum.inr "large") = some (.ref D.l) := rfl
theorem val_rest (D : Dw) (r t : Int) : valV (drK D r t) (Sum.inr "rest") = some (.int r) := rfl
theorem val_cells (D : Dw) (r t : Int) : valV (drK D r t) (Sum.inr "cells") = some (.ref D.c) := rfl
theorem val_turn (D : Dw) (r t : Int) : valV (drK D r t) (Sum.inr "turn") = some (.int t) := rfl
theorem put_rest (D : Dw) (r t r' : Int) : putK (drK D r t) (Sum.inr "rest") (.int r') = drK D r' t := rfl
theorem put_turn (D : Dw) (r t t' : Int) : putK (drK D r t) (Sum.inr "turn") (.int t') = drK D r t' := rfl
end Tt
set_option maxRecDepth 100000
set_option maxHeartbeats 4000000
namespace Tt
open PySem L2
section
variable {P : Program} {w : World} {K : PySem.W.Frag} {mg : Str → Option Value} {base : Heap}
def spMixed : Sp := fun vs H Q _ => ∃ D : Dw, vs = [.ref D.d] ∧ DrOk D H ∧ ∀ z H', DrOk D H' → Kp D H H' → Q (.int z) H'
theorem ok_l_mixed (T : Txt K mg) : FnOk P w K mg base CX0 1 T.l_mixed.a T.l_mixed.fd ["draw"] spMixed := by
  refine T.l_mixed.F.ok sc_l_mixed (fun vs H Q E h => ?_) (fun cdv A outer s H vs Q E hr h => ?_)
  · obtain ⟨D, rfl, _⟩ := h
    rfl
  · obtain ⟨D, rfl, ⟨ls, cs, r, t, dr⟩, k⟩ := h
    have hu := hu_of hr
    have nd := sc_l_mixed.nd
    refine ⟨_, (pss_cons (ps_dput hu (pv 0) pe_str (pe_op op_add (pe_dget hu (pv 0) pe_str (fun _ _ => rfl)) pe_int) rfl)
    (pss_cons (ps_par (i := 1) (j := 2) rfl nd rfl rfl (by decide) rfl rfl (pa_cons (pe_callTy call_int1 (by rfl) T.zint (by decide +kernel) (pa_cons (pe_dget hu (pv 0) pe_str (fun _ _ => rfl)) pa_nil)) (pa_cons pe_int pa_nil)) rfl)
    (pss_cons (ps_for PassesOwn.never rfl (pi_list (pe_lst (pa_cons pe_int (pa_cons pe_int (pa_cons pe_int pa_nil))))) (pg_name (i := 3) nd rfl (Or.inl rfl))
      (pss_cons (ps_set (i := 4) nd rfl (Or.inl rfl) (pe_op op_mod (pe_callTy call_int1 (by rfl) T.zint (by decide +kernel) (pa_cons (pe_op op_add (pe_op op_mul (pv 1) pe_int) (pe_op op_fdiv (pv 3) pe_int)) pa_nil)) (pv 3)))
      (pss_cons (ps_for PassesOwn.never rfl (pi_list (pe_dget hu (pv 0) pe_str (fun _ _ => rfl))) (pg_name (i := 5) nd rfl (Or.inl rfl))
        (pss_one (ps_set (i := 4) nd rfl (Or.inl rfl) (pe_op op_mod (pe_callTy call_int1 (by rfl) T.zint (by decide +kernel) (pa_cons (pe_op op_add (pe_op op_add (pe_op op_mul (pv 4) pe_int) (pe_callTy call_int1 (by rfl) T.zint (by decide +kernel) (pa_cons (pv 5) pa_nil))) pe_int) pa_nil)) (pv 3)))))
      (pss_one (ps_set (i := 2) nd rfl (Or.inl rfl) (pe_op op_add (pe_op op_mul (pv 2) pe_int) (pe_op op_mod (pe_callTy call_int1 (by rfl) T.zint (by decide +kernel) (pa_cons (pe_op op_pow (pv 4) pe_int) pa_nil)) (pv 3))))))))
    (pss_one (ps_ret (pv 2)))))), ?_⟩
    refine ⟨_, rfl, _, _, rfl, DGet.k (k := Sum.inr "turn") dr.hd, _, _, rfl, rfl, _, rfl, _, _, rfl, DPut.k (k := Sum.inr "turn") dr.hd (small1000 (by show 4 ≤ 1000; decide)), ?_⟩
    have dr1 : DrAt D (upd H D.d (.dK (drK D r (t + 1)))) ls cs r (t + 1) := dr.put
    have k1 : Kp D H (upd H D.d (.dK (drK D r (t + 1)))) := Kp.put
    generalize hH1 : upd H D.d (.dK (drK D r (t + 1))) = H1 at dr1 k1
    have eH1 : upd H D.d (.dK (putK (drK D r t) (Sum.inr "turn") (.int (t + 1)))) = H1 := hH1
    rw [eH1]
    refine ⟨_, rfl, _, _, rfl, DGet.k (k := Sum.inr "turn") dr1.hd, .inl ⟨_, rfl, ?_⟩⟩
    refine ⟨_, _, rfl, ?_⟩
    refine ⟨(by show 3 ≤ sizeLine; decide), fun p hp => ?_⟩
    have dr2 := dr1.new (o := .lst [.int 2147483629, .int 2147483587, .int 2147483579]) hp
    have k2 : Kp D H1 (upd H1 p (.lst [.int 2147483629, .int 2147483587, .int 2147483579])) := Kp.new hp
    refine ⟨p, rfl, ⟨_, SqL.of upd_same⟩, ?_⟩
    have hp2 : (upd H1 p (.lst [.int 2147483629, .int 2147483587, .int 2147483579])) p = some (.lst [.int 2147483629, .int 2147483587, .int 2147483579]) := upd_same
    generalize upd H1 p (.lst [.int 2147483629, .int 2147483587, .int 2147483579]) = H2 at dr2 k2 hp2
    refine for_list (K := K) (a := p) (xs := [.int 2147483629, .int 2147483587, .int 2147483579]) (fun i σ H' => H' = H2 ∧ ∃ f v3 v4 v5, σ = [some (.ref D.d), some (.int (t + 1)), some (.int f), v3, v4, v5])
      ⟨rfl, 0, _, _, _, rfl⟩ (fun i σ H' _ q => by rw [q.1]; exact SqL.of hp2) ?_ ?_
    · rintro i x σ H' hi ⟨rfl, f, v3, v4, v5, rfl⟩
      obtain ⟨g, rfl, g0, g1⟩ : ∃ g : Int, x = .int g ∧ 0 < g ∧ g < 2147483648 := by
        match i, hi with
        | 0, hi => exact ⟨_, (Option.some.inj hi).symm, by decide, by decide⟩
        | 1, hi => exact ⟨_, (Option.some.inj hi).symm, by decide, by decide⟩
        | 2, hi => exact ⟨_, (Option.some.inj hi).symm, by decide, by decide⟩
      refine ⟨_, rfl, _, _, rfl, rfl, .inr ⟨by decide, by decide⟩, _, rfl, _, _, rfl, rfl, ⟨by decide, by decide⟩, _, _, rfl, rfl, .inl ⟨_, rfl, _, rfl, _, _, rfl, rfl, g0, ?_⟩⟩
      refine ⟨_, rfl, _, _, rfl, DGet.k (k := Sum.inr "cells") dr2.hd, _, rfl, ⟨_, SqL.of dr2.hc⟩, ?_⟩
      refine for_list (K := K) (a := D.c) (xs := cs.map V.int) (fun i σ H'' => H'' = H' ∧ ∃ b v5, (0 ≤ b ∧ b < g) ∧ σ = [some (.ref D.d), some (.int (t + 1)), some (.int f), some (.int g), some (.int b), v5])
        ⟨rfl, _, _, ⟨Int.emod_nonneg _ (by omega), Int.emod_lt_of_pos _ g0⟩, rfl⟩ (fun i σ H'' _ q => by rw [q.1]; exact SqL.of dr2.hc) ?_ ?_
      · rintro j y σ H'' hj ⟨rfl, b, v5, hb, rfl⟩
        obtain ⟨z, rfl⟩ : ∃ z, y = V.int z := by
          rw [List.getElem?_map] at hj
          cases e : cs[j]? with
          | none => rw [e] at hj; cases hj
          | some z => rw [e] at hj; exact ⟨z, (Option.some.inj hj).symm⟩
        refine ⟨_, rfl, _, _, rfl, rfl, .inr ⟨by decide, by decide⟩, _, rfl, .inl ⟨_, rfl, _, _, rfl, rfl, _, _, rfl, rfl, .inl ⟨_, rfl, _, rfl, _, _, rfl, rfl, g0, ?_⟩⟩⟩
        exact ⟨rfl, _, _, ⟨Int.emod_nonneg _ (by omega), Int.emod_lt_of_pos _ g0⟩, rfl⟩
      · rintro σ H'' ⟨rfl, b, v5, hb, rfl⟩
        refine ⟨_, rfl, _, _, rfl, rfl, .inr ⟨by decide, by decide⟩, _, rfl, _, _, rfl, rfl, ⟨by decide, by decide, by omega⟩, .inl ⟨_, rfl, _, rfl, _, _, rfl, rfl, g0, _, _, rfl, rfl, ?_⟩⟩
        exact ⟨rfl, _, _, _, _, rfl⟩
    · rintro σ H' ⟨rfl, f, v3, v4, v5, rfl⟩
      refine ⟨_, rfl, ?_⟩
      exact k _ _ ⟨_, _, _, _, dr2⟩ (k1.trans k2)
end
end Tt
set_option maxRecDepth 100000
set_option maxHeartbeats 4000000
namespace Tt
open PySem L2
section
variable {P : Program} {w : World} {K : PySem.W.Frag} {mg : Str → Option Value} {base : Heap}
theorem dpAll_ints (H : Hp) : ∀ ls : List Int, DpAll K H (ls.map V.int) (ls.map PyData.int)
  | [] => .nil
  | a :: l => .cons (.int a) (dpAll_ints H l)
theorem shapedAll_ints : ∀ ls : List Int, SeqAt.shaped (.list (ls.map PyData.int)) = true
  | [] => by first | rfl | decide
  | a :: l => by
    have h := shapedAll_ints l
    first | exact h | (simp [SeqAt.shaped] at h ⊢) | trace_state
theorem eqv_nil (ls : List Int) : PyData.eqv (.list (ls.map PyData.int)) (.list []) = decide (ls = []) := by
  cases ls with
  | nil => rfl
  | cons a l => simp [PyData.eqv] <;> rfl
theorem yes_t {σ : L2.St} {H : Hp} {A B : Hp → Prop} (h : A H) : tYes σ H (fun b H3 => if b = true then A H3 else B H3) := by
  show if true = true then A H else B H
  rw [if_pos rfl]
  exact h
theorem ints_at {cs : List Int} {j : Nat} {y : V} (hj : (cs.map V.int)[j]? = some y) : ∃ z, y = V.int z ∧ cs[j]? = some z := by
  rw [List.getElem?_map] at hj
  cases e : cs[j]? with
  | none => rw [e] at hj; cases hj
  | some z => rw [e] at hj; exact ⟨z, (Option.some.inj hj).symm, rfl⟩
def spTake : Sp := fun vs H Q _ => ∃ (D : Dw) (m : Int), vs = [.ref D.d, .int m] ∧ 0 < m ∧ m < 1073741824 ∧ DrOk D H ∧ ∀ n H', 0 ≤ n → n < m → DrOk D H' → Kp D H H' → Q (.int n) H'
theorem sq_r {a b : TS} {D : Ends} {σ : L2.St} {H : Hp} (J : L2.St → Hp → Prop) (main : (∀ σ H', J σ H' → b D σ H') → a { D with nx := b D } σ H) (rest : ∀ σ H', J σ H' → b D σ H') : tSeq a b D σ H := main rest
theorem ok_l_take (T : Txt K mg) : FnOk P w K mg base CX0 2 T.l_take.a T.l_take.fd ["draw", "amount"] spTake := by
  refine T.l_take.F.ok sc_l_take (fun vs H Q E h => ?_) (fun cdv A outer s H vs Q E hr h => ?_)
  · obtain ⟨D, m, rfl, _⟩ := h
    rfl
  · obtain ⟨D, m, rfl, m0, m1, dr, k⟩ := h
    have hu := hu_of hr
    have nd := sc_l_take.nd
    refine ⟨_, (pss_cons (ps_while PassesOwn.never (PW.pt (pw_and (pt_cmpR op_eq (pe_dget hu (pv 0) pe_str (fun _ _ => rfl)) pe_int (nomark _)) (pw_and1 (pt_cmpR (op_neD hr.units) (pe_dget hu (pv 0) pe_str (fun _ _ => rfl)) (pe_lst pa_nil) (nomark _)))))
      (pss_one (ps_dput hu (pv 0) pe_str (pe_bm PySem.F.plainAttrs_list PySem.F.slot_list_pop PySem.F.type_list_pop mt_popAt (pe_dget hu (pv 0) pe_str (fun _ _ => rfl)) (pa_cons pe_int pa_nil)) rfl)))
    (pss_cons (ps_if (pt_cmpR op_eq (pe_dget hu (pv 0) pe_str (fun _ _ => rfl)) pe_int (nomark _))
      (pss_one (ps_dput hu (pv 0) pe_str (pe_call (ok_l_mixed T) (hr.mono (by decide)) (by rfl) T.l_mixed.g T.l_mixed.k T.l_mixed.b .nil pass0 (pa_cons (pv 0) pa_nil)) rfl))
      pss_nil)
    (pss_cons (ps_set (i := 2) nd rfl (Or.inl rfl) (pe_op op_mod (pe_callTy call_int1 (by rfl) T.zint (by decide +kernel) (pa_cons (pe_dget hu (pv 0) pe_str (fun _ _ => rfl)) pa_nil)) (pv 1)))
    (pss_cons (ps_dput hu (pv 0) pe_str (pe_op op_fdiv (pe_callTy call_int1 (by rfl) T.zint (by decide +kernel) (pa_cons (pe_dget hu (pv 0) pe_str (fun _ _ => rfl)) pa_nil)) (pv 1)) rfl)
    (pss_one (ps_ret (pv 2))))))), ?_⟩
    refine sq_r (fun σ H' => σ = [some (.ref D.d), some (.int m), none] ∧ DrOk D H' ∧ Kp D H H') (fun rest => ?_) ?_
    · refine while_by (fun σ H' => σ = [some (.ref D.d), some (.int m), none] ∧ DrOk D H' ∧ Kp D H H') (fun σ H' => match H' D.l with | some (.lst xs) => xs.length | _ => 0) ⟨rfl, dr, .refl⟩ ?_ ?_
      · rintro σ H' ⟨rfl, ⟨ls, cs, r, t, d1⟩, k1⟩
        refine ⟨_, rfl, _, _, rfl, DGet.k (k := Sum.inr "rest") d1.hd, rfl, _, rfl, ite2 (fun _ => ?_) (fun _ => iteF (rest _ _ ⟨rfl, ⟨_, _, _, _, d1⟩, k1⟩))⟩
        refine ⟨_, rfl, _, _, rfl, DGet.k (k := Sum.inr "large") d1.hd, (by show 0 ≤ sizeLine; decide), fun p hp => ?_⟩
        have d2 := d1.new (o := .lst []) hp
        have k2 : Kp D H (upd H' p (.lst [])) := k1.trans (Kp.new hp)
        refine ⟨_, _, .lst (SqL.of d2.hl) (dpAll_ints _ ls), .lst (SqL.of upd_same) .nil, shapedAll_ints ls, rfl, _, rfl, ?_⟩
        rw [eqv_nil]
        cases ls with
        | nil => exact iteF (rest _ _ ⟨rfl, ⟨_, _, _, _, d2⟩, k2⟩)
        | cons a l =>
          refine iteT ?_
          refine ⟨_, rfl, _, _, rfl, DGet.k (k := Sum.inr "large") d2.hd, .inl ⟨rfl, _, SqL.of d2.hl⟩, D.l, _, 0, 0, _, rfl, rfl, d2.hl, by decide, by decide, by simp [seqIndex?], rfl, ?_⟩
          have d3 : DrAt D (upd (upd H' p (.lst [])) D.l (.lst (l.map V.int))) l cs r t := d2.pop (Nat.le_trans (Nat.le_succ _) d1.nl)
          refine ⟨_, rfl, _, _, rfl, DPut.k (k := Sum.inr "rest") d3.hd (small1000 (by show 4 ≤ 1000; decide)), ?_⟩
          have d4 : DrAt D (upd (upd (upd H' p (.lst [])) D.l (.lst (l.map V.int))) D.d (.dK (drK D a t))) l cs a t := d3.put
          refine ⟨⟨rfl, ⟨_, _, _, _, d4⟩, (k2.trans Kp.putl).trans Kp.put⟩, ?_⟩
          show (match (upd (upd (upd H' p (.lst [])) D.l (.lst (((a :: l).map V.int).eraseIdx 0))) D.d (.dK (putK (drK D r t) (Sum.inr "rest") (.int a)))) D.l with | some (.lst xs) => xs.length | _ => 0) < (match H' D.l with | some (.lst xs) => xs.length | _ => 0)
          rw [upd_ne d3.nelc, upd_same, d1.hl]
          show ((a :: l).map V.int |>.eraseIdx 0).length < ((a :: l).map V.int).length
          simp
      · rintro σ H1 Q1 Q2 hq ⟨v, h1, a, w, h2, g, sc, c, e, h⟩
        refine ⟨v, h1, a, w, h2, g, sc, c, e, ?_⟩
        cases c with
        | false => exact hq _ _ h
        | true =>
          obtain ⟨v2, i1, a2, w2, i2, g2, z, f⟩ := h
          exact ⟨v2, i1, a2, w2, i2, g2, z, fun p hp => by obtain ⟨d, e', p1, p2, s1, s2, b, eb, hh⟩ := f p hp; exact ⟨d, e', p1, p2, s1, s2, b, eb, hq _ _ hh⟩⟩
    · rintro σ H' ⟨rfl, ⟨ls, cs, r, t, d1⟩, k1⟩
      have fin : ∀ r' ls' cs' t' H', DrAt D H' ls' cs' r' t' → Kp D H H' → tSeq (tAsg (tOp (rI (fun _ j => 0 < j) fun i j => .int (i % j)) (tCB (fun xs H Q => (∃ i, xs = [.int i] ∧ Q (.int i) H) ∨ ∃ k, xs = [.bl k] ∧ Q (.int (if k then 1 else 0)) H) (tCons (tDGet (tVar 0) (tC (.str "rest"))) tNil)) (tVar 1)) (gName 2))
        (tSeq (sDPut (tVar 0) (tC (.str "rest")) (tOp (rI CDiv fun i j => .int (i / j)) (tCB (fun xs H Q => (∃ i, xs = [.int i] ∧ Q (.int i) H) ∨ ∃ k, xs = [.bl k] ∧ Q (.int (if k then 1 else 0)) H) (tCons (tDGet (tVar 0) (tC (.str "rest"))) tNil)) (tVar 1))) (tRet (tVar 2))) { nx := fun _ H' => Q .non H', rt := Q } [some (.ref D.d), some (.int m), none] H' := by
        intro r' ls' cs' t' H' d' k'
        refine ⟨_, rfl, _, _, rfl, DGet.k (k := Sum.inr "rest") d'.hd, .inl ⟨_, rfl, _, rfl, _, _, rfl, rfl, m0, ?_⟩⟩
        refine ⟨_, rfl, _, _, rfl, DGet.k (k := Sum.inr "rest") d'.hd, .inl ⟨_, rfl, _, rfl, _, _, rfl, rfl, ⟨m0, m1⟩, _, rfl, _, _, rfl, DPut.k (k := Sum.inr "rest") d'.hd (small1000 (by show 4 ≤ 1000; decide)), ?_⟩⟩
        refine ⟨_, rfl, k _ _ (Int.emod_nonneg _ (by omega)) (Int.emod_lt_of_pos _ m0) ⟨ls', cs', r' / m, t', ?_⟩ (k'.trans ?_)⟩
        · exact d'.put
        · exact Kp.put
      refine ⟨_, rfl, _, _, rfl, DGet.k (k := Sum.inr "rest") d1.hd, rfl, _, rfl, ite2 (fun _ => ?_) (fun _ => fin r ls cs t H' d1 k1)⟩
      refine ⟨_, rfl, D, rfl, ⟨_, _, _, _, d1⟩, fun z H2 ⟨ls2, cs2, r2, t2, d2⟩ k2 => ?_⟩
      refine ⟨_, rfl, _, _, rfl, DPut.k (k := Sum.inr "rest") d2.hd (small1000 (by show 4 ≤ 1000; decide)), ?_⟩
      exact fin z ls2 cs2 t2 _ (d2.put : DrAt D (upd H2 D.d (.dK (drK D z t2))) ls2 cs2 z t2) ((k1.trans k2).trans Kp.put)
def spPick (K : PySem.W.Frag) : Sp := fun vs H Q _ => ∃ (D : Dw) (p : Addr) (xs : List V), vs = [.ref D.d, .ref p] ∧ (SqL K H p xs ∨ SqT K H p xs) ∧ p ≠ D.l ∧ xs ≠ [] ∧ xs.length < 1073741824 ∧ DrOk D H ∧
  ∀ (i : Nat) x H', xs[i]? = some x → DrOk D H' → Kp D H H' → Q x H'
theorem Kp.seqL {D : Dw} {H H' : Hp} {p : Addr} {xs : List V} (k : Kp D H H') (dr : DrOk D H) (n : p ≠ D.l) (h : SqL K H p xs) : SqL K H' p xs := by
  obtain ⟨ls, cs, r, t, d⟩ := dr
  rcases h with (h | ⟨o, h⟩) | h
  · exact .inl (.inl (k _ _ h (d.dne h fun _ z => nomatch z) n))
  · exact .inl (.inr ⟨o, k _ _ h (d.dne h fun _ z => nomatch z) n⟩)
  · exact .inr h
theorem Kp.seqT {D : Dw} {H H' : Hp} {p : Addr} {xs : List V} (k : Kp D H H') (dr : DrOk D H) (h : SqT K H p xs) : SqT K H' p xs := by
  obtain ⟨ls, cs, r, t, d⟩ := dr
  rcases h with (h | ⟨o, h⟩) | h
  · exact .inl (.inl (k _ _ h (d.dne h fun _ z => nomatch z) (d.lne h fun _ z => nomatch z)))
  · exact .inl (.inr ⟨o, k _ _ h (d.dne h fun _ z => nomatch z) (d.lne h fun _ z => nomatch z)⟩)
  · exact .inr h
theorem ok_l_pick (T : Txt K mg) : FnOk P w K mg base CX0 3 T.l_pick.a T.l_pick.fd ["draw", "some"] (spPick K) := by
  refine T.l_pick.F.ok sc_l_pick (fun vs H Q E h => ?_) (fun cdv A outer s H vs Q E hr h => ?_)
  · obtain ⟨D, p, xs, rfl, _⟩ := h
    rfl
  · obtain ⟨D, p, xs, rfl, hs, np, ne, ln, dr, k⟩ := h
    have hu := hu_of hr
    have nd := sc_l_pick.nd
    refine ⟨_, (pss_one (ps_ret (pe_ix (IxR.or ix_list ix_tup) (pv 1) (pe_call (ok_l_take T) (hr.mono (by decide)) (by rfl) T.l_take.g T.l_take.k T.l_take.b .nil pass0 (pa_cons (pv 0) (pa_cons (pe_callB call_len_seq (by rfl) T.zlen (by decide +kernel) (pa_cons (pv 1) pa_nil)) pa_nil))) (fun _ _ => rfl)))), ?_⟩
    have l0 : 0 < xs.length := List.length_pos_iff.mpr ne
    refine ⟨_, rfl, _, rfl, _, rfl, p, xs, rfl, hs, D, (xs.length : Int), rfl, by omega, by omega, dr, fun n H' n0 n1 dr' k' => ?_⟩
    obtain ⟨m, rfl⟩ := Int.eq_ofNat_of_zero_le n0
    have hn : m < xs.length := by omega
    have hat : atI xs (m : Int) = some xs[m] := atI_nat (List.getElem?_eq_getElem hn)
    have fin : Q xs[m] H' := k m _ H' (List.getElem?_eq_getElem hn) dr' k'
    rcases hs with hs | hs
    · exact .inl ⟨p, xs, m, _, rfl, rfl, k'.seqL dr np hs, hat, fin⟩
    · exact .inr ⟨p, xs, m, _, rfl, rfl, k'.seqT dr hs, hat, fin⟩
def spBegun (K : PySem.W.Frag) : Sp := fun vs H Q _ => ∃ (a : Addr) (ns : List Int), vs = [.ref a] ∧ SqL K H a (ns.map V.int) ∧ ns.length ≤ 63 ∧ ∀ (D : Dw) H', DrOk D H' → Same H H' → Q (.ref D.d) H'
theorem ok_l_begun (T : Txt K mg) : FnOk P w K mg base CX0 1 T.l_begun.a T.l_begun.fd ["script"] (spBegun K) := by
  refine T.l_begun.F.ok sc_l_begun (fun vs H Q E h => ?_) (fun cdv A outer s H vs Q E hr h => ?_)
  · obtain ⟨a, ns, rfl, _⟩ := h
    rfl
  · obtain ⟨a, ns, rfl, hs, hl, k⟩ := h
    have hu := hu_of hr
    have nd := sc_l_begun.nd
    refine ⟨_, (pss_cons (ps_setLc (i := 1) (own := [("grain", 2)]) (g := gName 2) rfl nd rfl rfl (sw_true rfl rfl rfl (by decide +kernel)) (pi_list (pv 0)) (blkOk_by (own := [("grain", 2)]) (N := N_l_begun) (sc := defScope s_l_begun) (by decide +kernel)) (fun _ _ _ _ _ => pg_name (i := 2) nd rfl (Or.inl rfl)) (fun _ _ _ _ _ => pts_one (pt_cmpR op_ge (pe_callB call_abs (by rfl) T.zabs (by decide +kernel) (pa_cons (pv 2) pa_nil)) (pe_op op_pow pe_int pe_int) (nomark _))) (fun _ _ _ _ _ => (pe_op op_sub (pe_callB call_abs (by rfl) T.zabs (by decide +kernel) (pa_cons (pv 2) pa_nil)) (pe_op op_pow pe_int pe_int))))
    (pss_one (ps_ret (pe_disp (pps_cons pe_str (pv 1) (pps_cons pe_str pe_int (pps_cons pe_str (pe_lc (own := [("grain", 2)]) (g := gName 2) rfl nd (pi_list (pv 0)) (blkOk_by (own := [("grain", 2)]) (N := N_l_begun) (sc := defScope s_l_begun) (by decide +kernel)) (fun _ _ _ _ _ => pg_name (i := 2) nd rfl (Or.inl rfl)) (fun _ _ _ _ _ => pts_nil) (fun _ _ _ _ _ => (pe_callB call_abs (by rfl) T.zabs (by decide +kernel) (pa_cons (pv 2) pa_nil)))) (pps_cons pe_str pe_int pps_nil)))) (by rfl) (by rfl) (fun z => by cases z) (by decide))))), ?_⟩
    refine ⟨_, rfl, a, rfl, ⟨_, hs⟩, fun D1 hD1 => lc_list (K := K) (a := a) (xs := ns.map V.int) (fun i H' => ∃ ls : List Int, ls.length ≤ i ∧ H' D1 = some (.lst (ls.map V.int)) ∧ Same H H')
      ⟨[], Nat.le_refl _, upd_same, fun b o e => by rw [upd_ne (ne_of_none e hD1)]; exact e⟩ (fun i H' _ ⟨_, _, _, s⟩ => s.seq hs) ?_ ?_⟩
    · rintro i y H' hi ⟨ls, hls, h1, s1⟩
      obtain ⟨z, rfl, hz⟩ := ints_at hi
      have hi63 : i < ns.length := (List.getElem?_eq_some_iff.mp hz).1
      refine ⟨rfl, _, rfl, _, rfl, _, _, rfl, rfl, ⟨by decide, by decide, by decide⟩, _, _, rfl, rfl, _, rfl, ?_⟩
      refine ite2 (fun _ => ?_) (fun _ => ⟨ls, by omega, h1, s1⟩)
      refine ⟨_, rfl, _, rfl, _, _, rfl, rfl, ⟨by decide, by decide, by decide⟩, _, _, rfl, rfl, _, h1, ?_, ?_⟩
      · rw [List.length_map]
        exact small1000 (by omega)
      · refine ⟨ls ++ [(if z < 0 then -z else z) - 10 ^ (18 : Int).toNat], by rw [List.length_append]; show ls.length + 1 ≤ i + 1; omega, ?_, ?_⟩
        · rw [upd_same, List.map_append]
          rfl
        · intro b o e
          have e1 := s1 b o e
          rw [upd_ne (ne_of_none e hD1)]
          exact e1
    · rintro H1 ⟨ls, hls, h1, s1⟩
      rw [List.length_map] at hls
      refine fun p hp => ?_
      refine ⟨_, rfl, ?_⟩
      have s2 : Same H (upd H1 p (.dK [])) := fun b o e => by rw [upd_ne (ne_of_none (s1 b o e) hp)]; exact s1 b o e
      refine ⟨_, rfl, a, rfl, ⟨_, s2.seq hs⟩, fun D2 hD2 => lc_list (K := K) (a := a) (xs := ns.map V.int) (fun i H' => ∃ cs : List Int, cs.length ≤ i ∧ H' D2 = some (.lst (cs.map V.int)) ∧ Same (upd H1 p (.dK [])) H')
        ⟨[], Nat.le_refl _, upd_same, fun b o e => by rw [upd_ne (ne_of_none e hD2)]; exact e⟩ (fun i H' _ ⟨_, _, _, s⟩ => s.seq (s2.seq hs)) ?_ ?_⟩
      · rintro i y H' hi ⟨cs, hcs, h2, s3⟩
        obtain ⟨z, rfl, hz⟩ := ints_at hi
        have hi63 : i < ns.length := (List.getElem?_eq_some_iff.mp hz).1
        refine ⟨rfl, yes_t ?_⟩
        refine ⟨_, rfl, _, rfl, _, h2, by rw [List.length_map]; exact small1000 (by omega), ?_⟩
        refine ⟨cs ++ [if z < 0 then -z else z], by rw [List.length_append]; show cs.length + 1 ≤ i + 1; omega, ?_, ?_⟩
        · rw [upd_same, List.map_append]
          rfl
        · intro b o e
          rw [upd_ne (ne_of_none e hD2)]
          exact s3 b o e
      · rintro H2 ⟨cs, hcs, h2, s3⟩
        rw [List.length_map] at hcs
        have hp2 : H2 p = some (.dK []) := s3 _ _ upd_same
        have nDp : D2 ≠ p := fun z => by rw [z, upd_same] at hD2; cases hD2
        have nD1p : D1 ≠ p := ne_of_none h1 hp
        have h12 : H2 D1 = some (.lst (ls.map V.int)) := s3 _ _ (by rw [upd_ne nD1p]; exact h1)
        have nD12 : D1 ≠ D2 := fun z => by
          rw [← z, upd_ne nD1p, h1] at hD2
          cases hD2
        refine ⟨hp2, drK ⟨p, D1, D2⟩ 0 0, rfl, by show 4 ≤ 15; decide, ?_⟩
        refine k ⟨p, D1, D2⟩ _ ⟨ls, cs, 0, 0, ⟨upd_same, by rw [upd_ne nD1p]; exact h12, by rw [upd_ne nDp]; exact h2, nD12, by omega, by omega⟩⟩ ?_
        intro b o e
        rw [upd_ne (ne_of_none (s1 b o e) hp)]
        exact s3 _ _ (s2 b o e)
end
end Tt
set_option maxRecDepth 100000
set_option maxHeartbeats 4000000
namespace Tt
open PySem L2
section
variable {P : Program} {w : World} {K : PySem.W.Frag} {mg : Str → Option Value} {base : Heap}
def Off (D : Dw) (b : Addr) : Prop := b ≠ D.d ∧ b ≠ D.l ∧ b ≠ D.c
theorem DrOk.off {D : Dw} {H : Hp} {b : Addr} (h : DrOk D H) (n : H b = none) : Off D b := by
  obtain ⟨ls, cs, r, t, d⟩ := h
  exact ⟨(ne_of_none d.hd n).symm, (ne_of_none d.hl n).symm, (ne_of_none d.hc n).symm⟩
theorem DrOk.new {D : Dw} {H : Hp} {p : Addr} {o : HO} (h : DrOk D H) (n : H p = none) : DrOk D (upd H p o) := by
  obtain ⟨ls, cs, r, t, d⟩ := h
  exact ⟨ls, cs, r, t, d.new n⟩
theorem DrOk.put {D : Dw} {H : Hp} {p : Addr} {o : HO} (h : DrOk D H) (n : Off D p) : DrOk D (upd H p o) := by
  obtain ⟨ls, cs, r, t, d⟩ := h
  exact ⟨ls, cs, r, t, ⟨by rw [upd_ne n.1.symm]; exact d.hd, by rw [upd_ne n.2.1.symm]; exact d.hl, by rw [upd_ne n.2.2.symm]; exact d.hc, d.ne, d.nl, d.nc⟩⟩
theorem DrOk.same {D : Dw} {H H' : Hp} (h : DrOk D H) (s : Same H H') : DrOk D H' := by
  obtain ⟨ls, cs, r, t, d⟩ := h
  exact ⟨ls, cs, r, t, d.same s⟩
theorem Kp.at {D : Dw} {H H' : Hp} {b : Addr} {o : HO} (k : Kp D H H') (n : Off D b) (h : H b = some o) : H' b = some o := k b o h n.1 n.2.1
theorem DrOk.tup {D : Dw} {H H' : Hp} {b : Addr} {xs : List V} (h : DrOk D H) (k : Kp D H H') (e : H b = some (.tup xs)) : H' b = some (.tup xs) := by
  obtain ⟨ls, cs, r, t, d⟩ := h
  exact k b _ e (d.dne e fun _ z => nomatch z) (d.lne e fun _ z => nomatch z)
theorem perm_erase : ∀ {l : List Int} {i : Nat} {a : Int}, l[i]? = some a → (a :: l.eraseIdx i).Perm l
  | [], _, _, h => by simp at h
  | b :: l, 0, a, h => by
    have e : b = a := by simpa using h
    subst e
    exact List.Perm.refl _
  | b :: l, i + 1, a, h => by
    have h' : l[i]? = some a := by simpa using h
    rw [List.eraseIdx_cons_succ]
    exact (List.Perm.swap b a _).trans ((perm_erase h').cons b)
theorem eraseIdx_mapI : ∀ (l : List Int) (i : Nat), (l.map V.int).eraseIdx i = (l.eraseIdx i).map V.int
  | [], _ => rfl
  | _ :: _, 0 => rfl
  | a :: l, i + 1 => by
    rw [List.map_cons, List.eraseIdx_cons_succ, eraseIdx_mapI l i, List.eraseIdx_cons_succ, List.map_cons]
theorem eqv_list_nil (H : Hp) : ∀ {xs : List V} {ds : List PyData}, DpAll K H xs ds → (PyData.eqv (.list ds) (.list []) = decide (xs = []))
  | [], _, .nil => rfl
  | _ :: _, _, .cons _ _ => by simp [PyData.eqv] <;> rfl
inductive El (K : PySem.W.Frag) (H : Hp) : V → Prop
  | int (n : Int) : El K H (.int n)
  | tup {p : Addr} {ns : List Int} (h : SqT K H p (ns.map V.int)) (l : ns.length ≤ 1000) : El K H (.ref p)
theorem El.kp {D : Dw} {H H' : Hp} {v : V} (h : El K H v) (dr : DrOk D H) (k : Kp D H H') : El K H' v := by
  cases h with
  | int n => exact .int n
  | tup h l => exact .tup (k.seqT dr h) l
theorem El.new {H : Hp} {v : V} {e : Addr} {o : HO} (h : El K H v) (n : H e = none) : El K (upd H e o) v := by
  cases h with
  | int n => exact .int n
  | tup h l =>
    refine .tup ?_ l
    rcases h with (h | ⟨o, h⟩) | h
    · exact .inl (.inl ((show upd H e _ _ = _ from (upd_ne (ne_of_none h n)).trans h)))
    · exact .inl (.inr ⟨o, (show upd H e _ _ = _ from (upd_ne (ne_of_none h n)).trans h)⟩)
    · exact .inr h
theorem lay_ints : ∀ ns : List Int, PyData.canLayAll0 (ns.map PyData.int) = true
  | [] => by simp [PyData.canLayAll0]
  | x :: ns => by
    have h := lay_ints ns
    simp only [List.map_cons, PyData.canLayAll0, h, Bool.and_true]
    rfl
theorem el_data0 {H : Hp} : ∀ {xs : List V}, (∀ v ∈ xs, El K H v) → ∃ ds, DpAll K H xs ds ∧ PyData.canLayAll0 ds = true ∧ PyData.depthAll ds ≤ 1
  | [], _ => ⟨[], .nil, by simp [PyData.canLayAll0], by simp [PyData.depthAll]⟩
  | v :: xs, h => by
    obtain ⟨ds, d1, d2, d3⟩ := el_data0 (xs := xs) fun u hu => h u (List.mem_cons_of_mem _ hu)
    have hv := h v (List.mem_cons_self ..)
    cases hv with
    | int n =>
      refine ⟨.int n :: ds, .cons (.int n) d1, ?_, ?_⟩
      · simp only [PyData.canLayAll0, d2, Bool.and_true]
        rfl
      · show max 0 (PyData.depthAll ds) ≤ 1
        omega
    | @tup p ns hp l =>
      refine ⟨rowD ns :: ds, .cons (.tup hp (dpAll_intsL H ns)) d1, ?_, ?_⟩
      · simp only [PyData.canLayAll0, d2, Bool.and_true]
        exact lay_ints ns
      · show max (PyData.depthAll (ns.map PyData.int) + 1) (PyData.depthAll ds) ≤ 1
        rw [depth_ints ns]
        omega
theorem el_data {H : Hp} {xs : List V} (h : ∀ v ∈ xs, El K H v) : ∃ ds, DpAll K H xs ds ∧ SeqAt.shaped (.list ds) = true := by
  obtain ⟨ds, d1, d2, d3⟩ := el_data0 h
  refine ⟨ds, d1, ?_⟩
  have e1 : (PyData.list ds).canLay0 = true := d2
  have e2 : (PyData.list ds).depth = PyData.depthAll ds + 1 := rfl
  simp only [SeqAt.shaped, e1, e2, Bool.true_and]
  exact decide_eq_true (by omega)
theorem perm_eraseV : ∀ {l : List V} {i : Nat} {a : V}, l[i]? = some a → (a :: l.eraseIdx i).Perm l
  | [], _, _, h => by simp at h
  | b :: l, 0, a, h => by
    have e : b = a := by simpa using h
    subst e
    exact List.Perm.refl _
  | b :: l, i + 1, a, h => by
    have h' : l[i]? = some a := by simpa using h
    rw [List.eraseIdx_cons_succ]
    exact (List.Perm.swap b a _).trans ((perm_eraseV h').cons b)
theorem permV_ints {ys : List V} {ns : List Int} (h : ys.Perm (ns.map V.int)) : ∃ ms : List Int, ms.Perm ns ∧ ys = ms.map V.int := by
  obtain ⟨ms, h1, h2⟩ : ∃ ms : List Int, ys = ms.map V.int ∧ True := by
    have al : ∀ y ∈ ys, ∃ n, y = V.int n := fun y hy => by
      obtain ⟨n, _, e⟩ := List.mem_map.mp (h.mem_iff.mp hy)
      exact ⟨n, e.symm⟩
    clear h
    induction ys with
    | nil => exact ⟨[], rfl, trivial⟩
    | cons y ys ih =>
      obtain ⟨n, rfl⟩ := al y (List.mem_cons_self ..)
      obtain ⟨ms, rfl, _⟩ := ih fun z hz => al z (List.mem_cons_of_mem _ hz)
      exact ⟨n :: ms, rfl, trivial⟩
  subst h1
  refine ⟨ms, ?_, rfl⟩
  have := h.map fun v => match v with | .int n => n | _ => 0
  rw [List.map_map, List.map_map] at this
  have e : ∀ l : List Int, l.map ((fun v : V => match v with | .int n => n | _ => 0) ∘ V.int) = l := fun l => List.map_id _
  rwa [e, e] at this
def spShuf (K : PySem.W.Frag) : Sp := fun vs H Q _ => ∃ (D : Dw) (p : Addr) (xs : List V), vs = [.ref D.d, .ref p] ∧ (SqL K H p xs ∨ SqT K H p xs) ∧ xs.length ≤ 1000 ∧ (∀ v ∈ xs, El K H v) ∧ DrOk D H ∧
  ∀ (ys : List V) q H', ys.Perm xs → DrOk D H' → Kp D H H' → H q = none → H' q = some (.lst ys) → Q (.ref q) H'
theorem ok_l_shuffled (T : Txt K mg) : FnOk P w K mg base CX0 3 T.l_shuffled.a T.l_shuffled.fd ["draw", "some"] (spShuf K) := by
  refine T.l_shuffled.F.ok sc_l_shuffled (fun vs H Q E h => ?_) (fun cdv A outer s H vs Q E hr h => ?_)
  · obtain ⟨D, p, ns, rfl, _⟩ := h
    rfl
  · obtain ⟨D, p, ns, rfl, hs, hl, al, dr, k⟩ := h
    have hu := hu_of hr
    have nd := sc_l_shuffled.nd
    refine ⟨_, (pss_cons (ps_par (i := 2) (j := 3) rfl nd rfl rfl (by decide) rfl rfl (pa_cons (pe_callTy call_list_of (by rfl) T.zlist (by decide +kernel) (pa_cons (pv 1) pa_nil)) (pa_cons (pe_lst pa_nil) pa_nil)) rfl)
    (pss_cons (ps_while PassesOwn.never (pt_cmpR (op_neD hr.units) (pv 2) (pe_lst pa_nil) (nomark _))
      (pss_one (ps_expr (pe_bm PySem.F.plainAttrs_list PySem.F.slot_list_append PySem.F.type_list_append mt_append (pv 3) (pa_cons (pe_bm PySem.F.plainAttrs_list PySem.F.slot_list_pop PySem.F.type_list_pop mt_popAt (pv 2) (pa_cons (pe_call (ok_l_take T) (hr.mono (by decide)) (by rfl) T.l_take.g T.l_take.k T.l_take.b .nil pass0 (pa_cons (pv 0) (pa_cons (pe_callB call_len_seq (by rfl) T.zlen (by decide +kernel) (pa_cons (pv 2) pa_nil)) pa_nil))) pa_nil)) pa_nil)))))
    (pss_one (ps_ret (pv 3))))), ?_⟩
    refine ⟨_, rfl, p, _, rfl, hs, fun l hl0 => ⟨(by show 0 ≤ sizeLine; decide), fun q hq => ⟨_, _, rfl, ?_⟩⟩⟩
    have d1 := (dr.new (o := .lst ns) hl0).new (o := .lst []) hq
    have k1 : Kp D H (upd (upd H l (.lst ns)) q (.lst [])) := (Kp.new hl0).trans (Kp.new hq)
    have nlq : l ≠ q := ne_of_none upd_same hq
    have nl : Off D l := dr.off hl0
    have nq : Off D q := (dr.new (o := .lst ns) hl0).off hq
    have hqH : H q = none := by rw [upd_ne nlq.symm] at hq; exact hq
    have a1 : (upd (upd H l (.lst ns)) q (.lst [])) l = some (.lst ns) := by rw [upd_ne nlq]; exact upd_same
    have a2 : (upd (upd H l (.lst ns)) q (.lst [])) q = some (.lst []) := upd_same
    generalize upd (upd H l (.lst ns)) q (.lst []) = H1 at d1 k1 a1 a2
    refine while_by (fun σ H' => ∃ (le fo : List V), σ = [some (.ref D.d), some (.ref p), some (.ref l), some (.ref q)] ∧ H' l = some (.lst le) ∧ H' q = some (.lst fo) ∧ (fo ++ le).Perm ns ∧ DrOk D H' ∧ Kp D H H')
      (fun σ H' => match H' l with | some (.lst xs) => xs.length | _ => 0) ⟨ns, [], rfl, a1, a2, List.Perm.refl _, d1, k1⟩ ?_ ?_
    · rintro σ H' ⟨le, fo, rfl, h1, h2, pm, dr', k'⟩
      have hlen : fo.length + le.length = ns.length := by rw [← pm.length_eq, List.length_append]
      have ale : ∀ v ∈ le, El K H' v := fun v hv => (al v (pm.mem_iff.mp (List.mem_append.mpr (.inr hv)))).kp dr k'
      refine ⟨_, rfl, (by show 0 ≤ sizeLine; decide), fun e he => ?_⟩
      have e1 : (upd H' e (.lst [])) l = some (.lst le) := by rw [upd_ne (ne_of_none h1 he)]; exact h1
      have e2 : (upd H' e (.lst [])) q = some (.lst fo) := by rw [upd_ne (ne_of_none h2 he)]; exact h2
      have d2 : DrOk D (upd H' e (.lst [])) := dr'.new he
      have k2 : Kp D H (upd H' e (.lst [])) := k'.trans (Kp.new he)
      obtain ⟨ds, dp, sh⟩ := el_data (xs := le) (H := upd H' e (.lst [])) fun v hv => (ale v hv).new he
      refine ⟨_, _, .lst (SqL.of e1) dp, .lst (SqL.of upd_same) .nil, sh, rfl, _, rfl, ?_⟩
      rw [eqv_list_nil (K := K) (H := upd H' e (.lst [])) dp]
      refine ite2 (fun c => ?_) (fun c => ?_)
      · have hne : le ≠ [] := by simpa using c
        have l0 : 0 < le.length := List.length_pos_iff.mpr hne
        refine ⟨_, rfl, .inl ⟨rfl, _, SqL.of e2⟩, _, rfl, .inl ⟨rfl, _, SqL.of e1⟩, _, rfl, _, rfl, l, _, rfl, .inl (SqL.of e1), D, _, rfl, ?_⟩
        refine ⟨by omega, by omega, d2, fun n H3 n0 n1 d3 k3 => ?_⟩
        obtain ⟨m, rfl⟩ := Int.eq_ofNat_of_zero_le n0
        have hm : m < le.length := by omega
        have f1 : H3 l = some (.lst le) := k3.at nl e1
        have f2 : H3 q = some (.lst fo) := k3.at nq e2
        refine ⟨l, _, _, m, le[m], rfl, rfl, f1, by omega, by omega, ?_, ?_, ?_⟩
        · have e0 : ¬ ((m : Int) < 0) := by omega
          simp [seqIndex?, e0, hm]
        · exact List.getElem?_eq_getElem hm
        · have nlq' : q ≠ l := nlq.symm
          have g2 : (upd H3 l (.lst (le.eraseIdx m))) q = some (.lst fo) := by rw [upd_ne nlq']; exact f2
          refine ⟨q, _, _, rfl, rfl, g2, small1000 (by omega), ?_⟩
          refine ⟨⟨le.eraseIdx m, fo ++ [le[m]], rfl, ?_, ?_, ?_, ?_, ?_⟩, ?_⟩
          · rw [upd_ne nlq, upd_same]
          · rw [upd_same]
          · refine List.Perm.trans ?_ pm
            rw [List.append_assoc]
            exact (perm_eraseV (List.getElem?_eq_getElem hm)).append_left fo
          · exact (d3.put nl).put nq
          · intro b o hb n1 n2
            have hbl : b ≠ l := ne_of_none hb hl0
            have hbq : b ≠ q := ne_of_none hb hqH
            rw [upd_ne hbq, upd_ne hbl]
            exact k3 _ _ (k2 _ _ hb n1 n2) n1 n2
          · show (match (upd (upd H3 l _) q _) l with | some (.lst xs) => xs.length | _ => 0) < (match H' l with | some (.lst xs) => xs.length | _ => 0)
            rw [upd_ne nlq, upd_same, h1]
            show (le.eraseIdx m).length < le.length
            rw [List.length_eraseIdx_of_lt hm]
            omega
      · have hne : le = [] := by simpa using c
        subst hne
        refine ⟨_, rfl, ?_⟩
        rw [List.append_nil] at pm
        exact k fo q _ pm d2 k2 hqH e2
    · rintro σ H Q Q' hq ⟨v, h1, h2, h3⟩
      exact ⟨v, h1, h2, fun p hp => by obtain ⟨d, e, a1, a2, a3, a4, b, eb, h⟩ := h3 p hp; exact ⟨d, e, a1, a2, a3, a4, b, eb, hq _ _ h⟩⟩
end
end Tt
set_option maxRecDepth 100000
set_option maxHeartbeats 4000000
namespace Tt
open PySem L2
section
variable {P : Program} {w : World} {K : PySem.W.Frag} {mg : Str → Option Value} {base : Heap}
theorem xor_mate {x : Int} (h0 : 0 ≤ x) (h1 : x < 12) : Builtin.bitXor x 1 = Wd.mate x := by
  have h : ∀ n : Fin 12, Builtin.bitXor ((n.val : Nat) : Int) 1 = Wd.mate ((n.val : Nat) : Int) := by decide
  obtain ⟨n, rfl⟩ := Int.eq_ofNat_of_zero_le h0
  exact h ⟨n, by omega⟩
theorem same_new {H : Hp} {p : Addr} {o : HO} (n : H p = none) : Same H (upd H p o) := fun b u e => by
  rw [upd_ne (ne_of_none e n)]
  exact e
theorem ints_get {st : List Int} {i : Nat} {a : Int} (h : st[i]? = some a) : (st.map V.int)[i]? = some (V.int a) := by rw [List.getElem?_map, h]; rfl
theorem atI_last {st : List Int} (h : st ≠ []) : ∃ a, st.getLast? = some a ∧ atI (st.map V.int) (-1) = some (V.int a) := by
  have l0 : 0 < st.length := List.length_pos_iff.mpr h
  have hl : st.length - 1 < st.length := by omega
  refine ⟨st[st.length - 1], by rw [List.getLast?_eq_getElem?, List.getElem?_eq_getElem hl], ?_⟩
  unfold atI
  have e : ixN (st.map V.int).length (-1) = some (st.length - 1) := by
    rw [List.length_map]
    unfold ixN
    simp
    omega
  rw [e]
  exact ints_get (List.getElem?_eq_getElem hl)
theorem smallB {n : Nat} (h : n ≤ 4000) : n < sizeLine := Nat.lt_of_le_of_lt h (of_decide_eq_true rfl)
def spFreed (K : PySem.W.Frag) : Sp := fun vs H Q _ => ∃ (p : Addr) (ns : List Int), vs = [.ref p] ∧ SqT K H p (ns.map V.int) ∧ ns.length ≤ 4000 ∧ (∀ x ∈ ns, 0 ≤ x ∧ x < 12) ∧
  ∀ q H', Same H H' → H' q = some (.tup ((Wd.freed ns).map V.int)) → Q (.ref q) H'
theorem same_seqT {K : PySem.W.Frag} {H H' : Hp} {a : Addr} {xs : List V} (e : Same H H') (h : SqT K H a xs) : SqT K H' a xs := by
  rcases h with (h | ⟨o, h⟩) | h
  · exact .inl (.inl (e _ _ h))
  · exact .inl (.inr ⟨o, e _ _ h⟩)
  · exact .inr h
end
end Tt
set_option maxRecDepth 100000
set_option maxHeartbeats 4000000
namespace Tt
open PySem L2
section
variable {P : Program} {w : World} {K : PySem.W.Frag} {mg : Str → Option Value} {base : Heap}
theorem ok_cut_free (T : Txt K mg) : FnOk P w K mg base CX0 2 T.cut_free.a T.cut_free.fd ["word"] (spFreed K) := by
  refine T.cut_free.F.ok sc_cut_free (fun vs H Q E h => ?_) (fun cdv A outer s H vs Q E hr h => ?_)
  · obtain ⟨p, ns, rfl, _⟩ := h
    rfl
  · obtain ⟨p, ns, rfl, hs, hl, hb, k⟩ := h
    have nd := sc_cut_free.nd
    refine ⟨_, (pss_cons (ps_set (i := 1) nd rfl (Or.inl rfl) (pe_lst pa_nil))
    (pss_cons (ps_for PassesOwn.never rfl (pi_tup (pv 0)) (pg_name (i := 2) nd rfl (Or.inl rfl))
      (pss_one (ps_if (PW.pt (pw_and (pt_truth (pv 1) (fun _ => rfl)) (pw_and1 (pt_cmpR op_eq (pe_ix ix_list (pv 1) (pe_un un_neg pe_int) (fun _ _ => rfl)) (pe_op op_xor (pv 2) pe_int) (nomark _)))))
        (pss_one (ps_expr (pe_bm0 PySem.F.plainAttrs_list PySem.F.slot_list_pop PySem.F.type_list_pop mt_pop (pv 1))))
        (pss_one (ps_expr (pe_bm PySem.F.plainAttrs_list PySem.F.slot_list_append PySem.F.type_list_append mt_append (pv 1) (pa_cons (pv 2) pa_nil)))))))
    (pss_one (ps_ret (pe_callTy call_tuple_of (by rfl) T.ztuple (by decide +kernel) (pa_cons (pv 1) pa_nil)))))), ?_⟩
    refine ⟨(by show 0 ≤ sizeLine; decide), fun f hf => ?_⟩
    have s1 : Same H (upd H f (.lst [])) := same_new hf
    refine ⟨_, rfl, p, rfl, ⟨_, same_seqT s1 hs⟩, ?_⟩
    refine for_tup (K := K) (a := p) (xs := ns.map V.int) (fun i σ H' => ∃ v2, σ = [some (.ref p), some (.ref f), v2] ∧ Same H H' ∧ H' f = some (.lst ((Wd.freed (ns.take i)).map V.int)))
      ⟨_, rfl, s1, upd_same⟩ (fun i σ H' _ ⟨_, _, s, _⟩ => same_seqT s hs) ?_ ?_
    · rintro i y σ H' hi ⟨v2, rfl, s3, e1⟩
      obtain ⟨x, rfl, hx⟩ := ints_at hi
      have hil : i < ns.length := (List.getElem?_eq_some_iff.mp hx).1
      have hxm : x ∈ ns := List.mem_of_getElem? hx
      have ht : ns.take (i + 1) = ns.take i ++ [x] := by rw [List.take_add_one, hx]; rfl
      have hsz : (Wd.freed (ns.take i)).length ≤ 4000 := Nat.le_trans (Wd.len_freed _) (by rw [List.length_take]; omega)
      have grow : ¬ (Wd.freed (ns.take i)).getLast? = some (Wd.mate x) → Same H (upd H' f (.lst ((Wd.freed (ns.take i)).map V.int ++ [V.int x]))) ∧ (upd H' f (.lst ((Wd.freed (ns.take i)).map V.int ++ [V.int x]))) f = some (.lst ((Wd.freed (ns.take (i + 1))).map V.int)) := fun hn => by
        refine ⟨fun b o hb => ?_, ?_⟩
        · rw [upd_ne (ne_of_none hb hf)]
          exact s3 b o hb
        · rw [upd_same, ht, Wd.freed_snoc]
          unfold Wd.push
          rw [if_neg hn, List.map_append]
          rfl
      refine ⟨_, rfl, !((Wd.freed (ns.take i)).map V.int).isEmpty, .inl ⟨_, SqL.of e1, rfl⟩, ?_⟩
      refine ite2 (fun c => ?_) (fun c => ?_)
      · have hne : Wd.freed (ns.take i) ≠ [] := by simpa using c
        obtain ⟨a, ha, hat⟩ := atI_last hne
        refine ⟨_, rfl, _, rfl, f, _, _, _, rfl, rfl, SqL.of e1, hat, ?_⟩
        refine ⟨_, rfl, _, _, rfl, rfl, rfl, _, rfl, ?_⟩
        refine ite2 (fun c2 => ?_) (fun c2 => ?_)
        · have hax : a = Wd.mate x := by
            have c3 : decide (V.int a = V.int (Builtin.bitXor x 1)) = true := c2
            rw [xor_mate (hb x hxm).1 (hb x hxm).2] at c3
            simpa using c3
          refine ⟨_, rfl, .inl ⟨rfl, _, SqL.of e1⟩, f, _, V.int a, rfl, rfl, e1, ?_, ?_⟩
          · rw [List.length_map]
            exact ints_get (Wd.last_get.mp ha).2
          · refine ⟨_, rfl, fun b o hb => ?_, ?_⟩
            · rw [upd_ne (ne_of_none hb hf)]
              exact s3 b o hb
            · rw [upd_same, ht, Wd.freed_snoc]
              unfold Wd.push
              rw [if_pos (by rw [ha, hax]), List.map_dropLast]
        · have hax : ¬ a = Wd.mate x := by
            have c3 : ¬ decide (V.int a = V.int (Builtin.bitXor x 1)) = true := c2
            rw [xor_mate (hb x hxm).1 (hb x hxm).2] at c3
            simpa using c3
          refine ⟨_, rfl, .inl ⟨rfl, _, SqL.of e1⟩, _, rfl, f, _, _, rfl, rfl, e1, by rw [List.length_map]; exact smallB (by omega), ?_⟩
          exact ⟨_, rfl, grow (by rw [ha]; intro z; exact hax (Option.some.inj z))⟩
      · have hne : Wd.freed (ns.take i) = [] := by simpa using c
        refine ite2 (fun z => absurd z Bool.false_ne_true) (fun _ => ?_)
        refine ⟨_, rfl, .inl ⟨rfl, _, SqL.of e1⟩, _, rfl, f, _, _, rfl, rfl, e1, by rw [List.length_map]; exact smallB (by omega), ?_⟩
        exact ⟨_, rfl, grow (by rw [hne]; intro z; cases z)⟩
    · rintro σ H' ⟨v2, rfl, s2, h2⟩
      rw [List.length_map, List.take_length] at h2
      refine ⟨_, rfl, f, _, rfl, .inl ⟨SqL.of h2, fun q hq => ?_⟩⟩
      exact k q _ (s2.trans (same_new hq)) upd_same
def spUndo (K : PySem.W.Frag) : Sp := fun vs H Q _ => ∃ (p : Addr) (ns : List Int), vs = [.ref p] ∧ SqT K H p (ns.map V.int) ∧ ns.length ≤ 4000 ∧ (∀ x ∈ ns, 0 ≤ x ∧ x < 12) ∧
  ∀ q H', Same H H' → H' q = some (.tup ((Wd.undo ns).map V.int)) → Q (.ref q) H'
def rgI (n : Nat) : List Int := (List.range n).map fun (i : Nat) => (i : Int)
theorem rgV_rgI {n : Int} (h : 0 ≤ n) : rgV 0 n = (rgI n.toNat).map V.int := by
  unfold rgV rgI
  rw [List.map_map, Int.sub_zero]
  exact List.map_congr_left fun a _ => by show V.int (0 + (a : Nat)) = _; rw [Int.zero_add]; rfl
theorem rgI_len (n : Nat) : (rgI n).length = n := by unfold rgI; rw [List.length_map, List.length_range]
end
end Tt
set_option maxRecDepth 100000
set_option maxHeartbeats 4000000
namespace Tt
open PySem L2
def lenAt (i : Nat) : L2.St → Hp → Nat := fun σ H' => match σ[i]? with
  | some (some (V.ref f)) => (match H' f with
    | some (HO.lst xs) => 1000 - xs.length
    | _ => 0)
  | _ => 0
theorem lenAt_of {i : Nat} {σ : L2.St} {H : Hp} {f : Addr} {xs : List V} (h : σ[i]? = some (some (.ref f))) (e : H f = some (.lst xs)) : lenAt i σ H = 1000 - xs.length := by
  unfold lenAt
  rw [h]
  show (match H f with | some (HO.lst xs) => 1000 - xs.length | _ => 0) = _
  rw [e]
def lenOf (i : Nat) : L2.St → Hp → Nat := fun σ H' => match σ[i]? with
  | some (some (V.ref f)) => (match H' f with
    | some (HO.lst xs) => xs.length
    | _ => 0)
  | _ => 0
theorem lenOf_of {i : Nat} {σ : L2.St} {H : Hp} {f : Addr} {xs : List V} (h : σ[i]? = some (some (.ref f))) (e : H f = some (.lst xs)) : lenOf i σ H = xs.length := by
  unfold lenOf
  rw [h]
  show (match H f with | some (HO.lst xs) => xs.length | _ => 0) = _
  rw [e]
theorem upk {H : Hp} {p b : Addr} {o u : HO} (n : H p = none) (h : H b = some o) : (upd H p u) b = some o := by
  rw [upd_ne (ne_of_none h n)]
  exact h
theorem cut_to (xs : List V) {n : Nat} (h : n ≤ xs.length) : cutV xs none (some (n : Int)) = xs.take n := by
  unfold cutV
  have e : HT.sIx xs.length xs.length (some (n : Int)) = n := by rw [HT.sIx_nat]; omega
  have e0 : HT.sIx xs.length 0 none = 0 := rfl
  rw [e, e0]
  simp
theorem cut_from (xs : List V) {n : Nat} : cutV xs (some (n : Int)) none = xs.drop n := by
  unfold cutV
  have e : HT.sIx xs.length 0 (some (n : Int)) = min n xs.length := HT.sIx_nat ..
  have e0 : HT.sIx xs.length xs.length none = xs.length := rfl
  rw [e, e0, List.take_of_length_le (by rw [List.length_drop]; omega)]
  by_cases h : n ≤ xs.length
  · rw [Nat.min_eq_left h]
  · rw [Nat.min_eq_right (by omega), List.drop_eq_nil_of_le (Nat.le_refl _), List.drop_eq_nil_of_le (by omega)]
section
variable {P : Program} {w : World} {K : PySem.W.Frag} {mg : Str → Option Value} {base : Heap}
def Lt (e : Int) (ns : List Int) : Prop := ∀ x ∈ ns, 0 ≤ x ∧ x < e
theorem Lt.app {e : Int} {a b : List Int} (ha : Lt e a) (hb : Lt e b) : Lt e (a ++ b) := fun x hx => (List.mem_append.mp hx).elim (ha x) (hb x)
theorem Lt.take {e : Int} {a : List Int} (ha : Lt e a) (n : Nat) : Lt e (a.take n) := fun x hx => ha x (List.mem_of_mem_take hx)
theorem Lt.drop {e : Int} {a : List Int} (ha : Lt e a) (n : Nat) : Lt e (a.drop n) := fun x hx => ha x (List.mem_of_mem_drop hx)
theorem Lt.undo {e : Int} {a : List Int} (ev : e % 2 = 0) (ha : Lt e a) : Lt e (Wd.undo a) := fun x hx => by
  unfold Wd.undo at hx
  obtain ⟨y, hy, rfl⟩ := List.mem_map.mp hx
  have h := ha y (by simpa using hy)
  have hb := Wd.mate_range (n := e / 2) h.1 (by omega)
  exact ⟨hb.1, by omega⟩
end
end Tt
set_option maxRecDepth 100000
set_option maxHeartbeats 4000000
namespace Tt
open PySem L2
open LamX (GivesToS CodeO)
def TTc (K : PySem.W.Frag) (RE : Addr) : (XK → Hp → VK → Prop) → Hp → VK → Prop := fun tl H Q =>
  tl (fun cls d H' => PySem.W.exmOne K cls (.ref RE) = some true ∧ ∀ a, H' a = none → Q (.ref a) (upd H' a (exh cls d a))) H (fun _ H' => Q .non H')
theorem caught_gives {X : Cx} {q : Str} {cdg : Value} {g RE : Addr} (hme : X.mg "RoundError" = some (.ref RE)) :
    GivesToS X N_l_caught "_law_caught" (defScope s_l_caught) g cdg (defBody s_l_caught) "work" q (TTc X.K RE) := by
  intro f c' s H Q tl act hc h
  have nd := sc_l_caught.nd
  refine ⟨_, pss_cons (ps_set (i := 1) nd rfl (Or.inl rfl) pe_non)
    (pss_cons (ps_try_keep (X := (cxOf C8.CX0 X.prog X.w X.K X.mg X.base N_l_caught "_law_caught" (defScope s_l_caught) g cdg X.A X.stack s H C8.E0).nox) (c := .ref RE) (i := 2)
      (tb := fun W D σ H => ∃ Ew : L2.St → XK, (∀ τ cls d H', Ew τ cls d H' → W cls d τ H') ∧ σ[0]? = some (some (.ref f)) ∧ H c' = some (CodeO c' q) ∧ tl (Ew σ) H (fun _ H' => D.nx σ H'))
      rfl rfl rfl nd rfl rfl ⟨rfl, by decide, .inl hme⟩ LamX.takes0 (fun W pn xe tk _ => ?_) (fun a oe cls d pn _ _ => pss_one (ps_set (i := 1) nd rfl (Or.inl rfl) (pv 2))))
    (pss_one (ps_ret (pv 1)))), ?_⟩
  · refine ⟨fun pins s' σ H' D I h' => ?_⟩
    obtain ⟨Ew, hW, h1, h2, h3⟩ := h'
    exact (pss_one (ps_expr (act W pn xe Ew _ _ tk hW))).run pins s' σ H' D I ⟨h1, h2, h3⟩
  · refine ⟨fun τ cls d H' => τ = [some (.ref f), some .non, none] ∧ PySem.W.exmOne X.K cls (.ref RE) = some true ∧ ∀ a, H' a = none → Q (.ref a) (upd H' a (exh cls d a)), ?_, rfl, hc, ?_⟩
    · rintro τ cls d H' ⟨rfl, h1, h2⟩
      refine ⟨true, h1, fun _ a ha => ?_, fun z => nomatch z⟩
      exact ⟨_, rfl, ha, _, rfl, h2 a ha⟩
    · have e1 : (fun (cls : Value) (d : Option Addr) (H' : Hp) => ([some (.ref f), some .non, none] : L2.St) = [some (.ref f), some .non, none] ∧ PySem.W.exmOne X.K cls (.ref RE) = some true ∧ ∀ a, H' a = none → Q (.ref a) (upd H' a (exh cls d a))) =
          fun cls d H' => PySem.W.exmOne X.K cls (.ref RE) = some true ∧ ∀ a, H' a = none → Q (.ref a) (upd H' a (exh cls d a)) :=
        funext fun cls => funext fun d => funext fun H' => propext ⟨fun z => z.2, fun z => ⟨rfl, z⟩⟩
      have e2 : (fun (_ : V) (H' : Hp) => ∃ v, ([some (.ref f), some .non, none] : L2.St)[1]? = some (some v) ∧ Q v H') = fun _ H' => Q .non H' :=
        funext fun _ => funext fun H' => propext ⟨fun ⟨v, h1, h2⟩ => by cases h1; exact h2, fun z => ⟨_, rfl, z⟩⟩
      have h' : tl (fun (cls : Value) (d : Option Addr) (H' : Hp) => ([some (.ref f), some .non, none] : L2.St) = [some (.ref f), some .non, none] ∧ PySem.W.exmOne X.K cls (.ref RE) = some true ∧ ∀ a, H' a = none → Q (.ref a) (upd H' a (exh cls d a))) H
          (fun (_ : V) (H' : Hp) => ∃ v, ([some (.ref f), some .non, none] : L2.St)[1]? = some (some v) ∧ Q v H') := by
        rw [e1, e2]
        exact h
      exact h'
end Tt
set_option maxRecDepth 100000
set_option maxHeartbeats 4000000
namespace Tt
open PySem L2
section
variable {P : Program} {w : World} {K : PySem.W.Frag} {mg : Str → Option Value} {base : Heap}
theorem passF {P : Program} {w : World} {X : Cx} : Passes (L2.CX P w) X (fun _ _ _ => False) := fun _ _ _ _ _ _ _ h => by
  obtain ⟨_, _, _, _, _, _, _, _, _, _, _, _, z⟩ := h
  exact z.elim
def inB (lo hi : Int) : V → Bool
  | .int i => decide (lo ≤ i) && decide (i ≤ hi)
  | _ => false
def isI : V → Bool
  | .int _ => true
  | _ => false
theorem TyB.isI {H : Hp} {x : V} {S : String} (t : TyB K H x S) : decide (S = "int") = isI x := by cases t <;> rfl
theorem TyB.isT {H : Hp} {x : V} {S : String} (t : TyB K H x S) : (∃ a xs, x = .ref a ∧ SqT K H a xs ∧ S = "tuple") ∨ decide (S = "tuple") = false := by
  cases t with
  | tup h => exact .inl ⟨_, _, rfl, h, rfl⟩
  | _ => exact .inr rfl
def spNumber (K : PySem.W.Frag) : Sp := fun vs H Q _ => ∃ (x : V) (S : String), vs = [x] ∧ TyB K H x S ∧ Q (.bl (isI x)) H
theorem ok_is_number (T : Txt K mg) : FnOk P w K mg base CX0 1 T.is_number.a T.is_number.fd ["thing"] (spNumber K) := by
  refine T.is_number.F.ok sc_is_number (fun vs H Q E h => ?_) (fun cdv A outer s H vs Q E hr h => ?_)
  · obtain ⟨x, S, rfl, _⟩ := h
    rfl
  · obtain ⟨x, S, rfl, t, k⟩ := h
    refine ⟨_, (pss_one (ps_ret (pe_cmpR op_isTyB (pe_callTy call_type1 (by rfl) T.ztype (by decide +kernel) (pa_cons (pv 0) pa_nil)) (pe_bltn (v := .ty "int") (by rfl) T.zint (by decide +kernel) rfl) (nomark _)))), ?_⟩
    refine ⟨x, rfl, x, S, rfl, t, _, _, rfl, rfl, ?_⟩
    rw [← TyB.isI t] at k
    exact k
def spWithin (K : PySem.W.Frag) : Sp := fun vs H Q _ => ∃ (x : V) (lo hi : Int) (S : String), vs = [x, .int lo, .int hi] ∧ TyB K H x S ∧ Q (.bl (inB lo hi x)) H
theorem ok_is_within (T : Txt K mg) : FnOk P w K mg base CX0 2 T.is_within.a T.is_within.fd ["thing", "low", "high"] (spWithin K) := by
  refine T.is_within.F.ok sc_is_within (fun vs H Q E h => ?_) (fun cdv A outer s H vs Q E hr h => ?_)
  · obtain ⟨x, lo, hi, S, rfl, _⟩ := h
    rfl
  · obtain ⟨x, lo, hi, S, rfl, t, k⟩ := h
    refine ⟨_, (pss_one (ps_ret (pe_and (pe_call (ok_is_number T) (hr.mono (by decide)) (by rfl) T.is_number.g T.is_number.k T.is_number.b .nil pass0 (pa_cons (pv 0) pa_nil)) (pe_one (pe_chain op_le op_le (pv 1) (pv 0) (pv 2)))))), ?_⟩
    refine ⟨x, rfl, x, S, rfl, t, _, rfl, ?_⟩
    cases x with
    | int i =>
      refine iteT ⟨_, rfl, _, rfl, _, _, rfl, rfl, _, rfl, ?_⟩
      have k' : Q (.bl (decide (lo ≤ i) && decide (i ≤ hi))) H := k
      refine ite2 (fun c => ?_) (fun c => ?_)
      · rw [c, Bool.true_and] at k'
        exact ⟨_, rfl, _, _, rfl, rfl, k'⟩
      · have c' : decide (lo ≤ i) = false := by simpa using c
        rw [c', Bool.false_and] at k'
        exact k'
    | _ => exact iteF k
def spTuple (K : PySem.W.Frag) : Sp := fun vs H Q _ => ∃ (x : V) (S : String), vs = [x] ∧ TyB K H x S ∧ Q (.bl (decide (S = "tuple"))) H
theorem ok_is_tuple (T : Txt K mg) : FnOk P w K mg base CX0 1 T.is_tuple.a T.is_tuple.fd ["thing"] (spTuple K) := by
  refine T.is_tuple.F.ok sc_is_tuple (fun vs H Q E h => ?_) (fun cdv A outer s H vs Q E hr h => ?_)
  · obtain ⟨x, S, rfl, _⟩ := h
    rfl
  · obtain ⟨x, S, rfl, t, k⟩ := h
    refine ⟨_, (pss_one (ps_ret (pe_cmpR op_isTyB (pe_callTy call_type1 (by rfl) T.ztype (by decide +kernel) (pa_cons (pv 0) pa_nil)) (pe_bltn (v := .ty "tuple") (by rfl) T.ztuple (by decide +kernel) rfl) (nomark _)))), ?_⟩
    exact ⟨x, rfl, x, S, rfl, t, _, _, rfl, rfl, k⟩
def spList (K : PySem.W.Frag) : Sp := fun vs H Q _ => ∃ (x : V) (S : String), vs = [x] ∧ TyB K H x S ∧ Q (.bl (decide (S = "list") || decide (S = "tuple"))) H
theorem ok_is_list (T : Txt K mg) : FnOk P w K mg base CX0 2 T.is_list.a T.is_list.fd ["thing"] (spList K) := by
  refine T.is_list.F.ok sc_is_list (fun vs H Q E h => ?_) (fun cdv A outer s H vs Q E hr h => ?_)
  · obtain ⟨x, S, rfl, _⟩ := h
    rfl
  · obtain ⟨x, S, rfl, t, k⟩ := h
    refine ⟨_, (pss_one (ps_ret (pe_or (pe_cmpR op_isTyB (pe_callTy call_type1 (by rfl) T.ztype (by decide +kernel) (pa_cons (pv 0) pa_nil)) (pe_bltn (v := .ty "list") (by rfl) T.zlist (by decide +kernel) rfl) (nomark _)) (pe_one (pe_call (ok_is_tuple T) (hr.mono (by decide)) (by rfl) T.is_tuple.g T.is_tuple.k T.is_tuple.b .nil pass0 (pa_cons (pv 0) pa_nil)))))), ?_⟩
    refine ⟨x, rfl, x, S, rfl, t, _, _, rfl, rfl, _, rfl, ?_⟩
    refine ite2 (fun c => ?_) (fun c => ?_)
    · rw [c] at k
      exact k
    · have c' : decide (S = "list") = false := by simpa using c
      rw [c', Bool.false_or] at k
      exact ⟨x, rfl, x, S, rfl, t, k⟩
def skF (r q : Addr) (n : Int) : List (Str × V) := [("row", .ref r), ("bands", .int n), ("places", .ref q)]
def places (row : List Int) : List Int := (List.range row.length).map fun (e : Nat) => (((row.idxOf (e : Int) : Nat)) : Int)
def SkAt (T : Txt K mg) (H : Hp) (p : Addr) (row : List Int) : Prop := ∃ dx r q, H p = some (.ins T.Skin.C dx (skF r q (row.length / 2 : Nat))) ∧ FzT H r (row.map V.int) ∧ FzT H q ((places row).map V.int)
theorem FzT.same {H H' : Hp} {a : Addr} {xs : List V} (h : FzT H a xs) (s : Same H H') : FzT H' a xs := by
  obtain ⟨ob, h1, h2⟩ := h
  exact ⟨ob, s _ _ h1, h2⟩
theorem FzT.kp {D : Dw} {H H' : Hp} {a : Addr} {xs : List V} (h : FzT H a xs) (dr : DrOk D H) (k : Kp D H H') : FzT H' a xs := by
  obtain ⟨ob, h1, h2⟩ := h
  obtain ⟨ls, cs, rr, t, d⟩ := dr
  exact ⟨ob, k _ _ h1 (d.dne h1 fun _ z => nomatch z) (d.lne h1 fun _ z => nomatch z), h2⟩
theorem SkAt.same {T : Txt K mg} {H H' : Hp} {p : Addr} {row : List Int} (h : SkAt T H p row) (s : Same H H') : SkAt T H' p row := by
  obtain ⟨dx, r, q, h1, h2, h3⟩ := h
  exact ⟨dx, r, q, s _ _ h1, FzT.same h2 s, FzT.same h3 s⟩
theorem SkAt.kp {T : Txt K mg} {D : Dw} {H H' : Hp} {p : Addr} {row : List Int} (h : SkAt T H p row) (dr : DrOk D H) (k : Kp D H H') : SkAt T H' p row := by
  obtain ⟨dx, r, q, h1, h2, h3⟩ := h
  obtain ⟨ls, cs, rr, t, d⟩ := id dr
  exact ⟨dx, r, q, k _ _ h1 (d.dne h1 fun _ z => nomatch z) (d.lne h1 fun _ z => nomatch z), FzT.kp h2 dr k, FzT.kp h3 dr k⟩
theorem skF_row (r q : Addr) (n : Int) : (skF r q n).lookup ("row" : Str) = some (V.ref r) := rfl
theorem skF_bands (r q : Addr) (n : Int) : (skF r q n).lookup ("bands" : Str) = some (V.int n) := rfl
theorem nRow (T : Txt K mg) : NoAttr K T.Skin.C "row" := T.Skin.n _ (by decide)
theorem nBands (T : Txt K mg) : NoAttr K T.Skin.C "bands" := T.Skin.n _ (by decide)
theorem nPlaces (T : Txt K mg) : NoAttr K T.Skin.C "places" := T.Skin.n _ (by decide)
inductive SkV (T : Txt K mg) (H : Hp) : V → Bool → Prop where
  | skin {p dx : Addr} {fs : List (Str × V)} (h : H p = some (.ins T.Skin.C dx fs)) : SkV T H (.ref p) true
  | ty {x : V} {S : String} (t : TyB K H x S) (h : PySem.W.kitOne K (.type S) (.ref T.Skin.C) = some false) : SkV T H x false
theorem TyB.x {H : Hp} {x : V} {S : String} (t : TyB K H x S) : TyX K H x (.type S) := by
  cases t with
  | non => exact .base .non
  | bl b => exact .base (.bl b)
  | int i => exact .base (.int i)
  | str x => exact .base (.str x)
  | byt b => exact .byt b
  | lst h =>
    rcases h with (h | ⟨o, h⟩) | ⟨o, its, n, h1, h2, _⟩
    · exact .base (.lst h)
    · exact .base (.frz h)
    · exact .kList h1 h2
  | tup h =>
    rcases h with (h | ⟨o, h⟩) | ⟨o, its, n, h1, h2, _⟩
    · exact .base (.tup h)
    · exact .fTuple h
    · exact .kTuple h1 h2
  | dK h => exact .base (.dK h)
theorem SkAt.v {T : Txt K mg} {H : Hp} {p : Addr} {row : List Int} (h : SkAt T H p row) : SkV T H (.ref p) true := by
  obtain ⟨dx, r, q, h1, _⟩ := h
  exact .skin h1
theorem SkV.isi {T : Txt K mg} {H : Hp} {v : V} {b : Bool} (h : SkV T H v b) : ∃ t, TyX K H v t ∧ PySem.W.kitOne K t (.ref T.Skin.C) = some b := by
  cases h with
  | skin h => exact ⟨_, .base (.ins h T.Skin.c T.Skin.ha T.Skin.hn T.Skin.ht T.Skin.hm), T.kSS⟩
  | ty t h => exact ⟨_, Tt.TyB.x t, h⟩
def SkErr (T : Txt K mg) (H : Hp) (E : XK) : Prop := ∀ d H', Same H H' → H' d = some (.xd [("part", .non)]) → E (.ref T.BadSkin.C) (some d) H'
def spExI (T : Txt K mg) : Sp := fun vs H Q _ => ∃ (a : Addr) (v : V), vs = [.ref a, v] ∧ H a = some (exo a T.BadSkin.C none) ∧
  ∀ dx, H dx = none → dx ≠ a → Q .non (upd (upd H dx (exd dx [("part", v)])) a (exo a T.BadSkin.C (some dx)))
theorem ok_BadSkin_init (T : Txt K mg) : FnOk P w K mg base CX0 1 T.BadSkin.fI T.BadSkin.fd ["self", "part"] (spExI T) := by
  refine T.BadSkin.F.ok sc_BadSkin_init (fun vs H Q E h => ?_) (fun cdv A outer s H vs Q E hr h => ?_)
  · obtain ⟨a, v, rfl, _⟩ := h
    rfl
  · obtain ⟨a, v, rfl, ha, k⟩ := h
    refine ⟨_, (pss_one (ps_ost (pv 0) (pv 1))), ?_⟩
    exact ⟨v, rfl, _, rfl, a, T.BadSkin.C, rfl, T.BadSkin.o, T.BadSkin.n, .inl ⟨ha, fun dx n ne => k dx n ne⟩⟩
def spCheckSkin (T : Txt K mg) : Sp := fun vs H Q E => ∃ (v : V) (b : Bool), vs = [v] ∧ SkV T H v b ∧ (b = true → Q .non H) ∧ (b = false → SkErr T H E)
theorem ok_check_skin (T : Txt K mg) : FnOk P w K mg base (L2.CX P w) 3 T.check_skin.a T.check_skin.fd ["skin"] (spCheckSkin T) := by
  refine T.check_skin.F.okX sc_check_skin (fun vs H Q E h => ?_) (fun cdv A outer s H vs Q E hr h => ?_)
  · obtain ⟨v, b, rfl, _⟩ := h
    rfl
  · obtain ⟨v, b, rfl, hv, kT, kF⟩ := h
    refine ⟨_, (pss_one (ps_if (pt_not (pt_val (pe_callB call_isA (by rfl) T.zisinstance (by decide +kernel) (pa_cons (pv 0) (pa_cons (pe_glob (v := .ref T.Skin.C) rfl T.Skin.g rfl) pa_nil)))))
      (pss_one (ps_raise rfl (takes_of rfl rfl rfl rfl) (pmk_oex T.BadSkin.o T.BadSkin.i T.BadSkin.t (ok_BadSkin_init T) (hr.mono (by decide)) T.BadSkin.b .nil pass0 (by rfl) T.BadSkin.g (pa_cons pe_non pa_nil))))
      pss_nil)), ?_⟩
    obtain ⟨t, ht, hk⟩ := hv.isi
    refine ⟨v, rfl, .inr ⟨v, _, t, _, b, rfl, .own T.Skin.C, ht, hk, b, rfl, ?_⟩⟩
    cases b with
    | true => exact iteF (kT rfl)
    | false =>
      refine iteT ⟨(by show 1 ≤ 1000; decide), fun a ha => ?_⟩
      refine ⟨a, .non, rfl, upd_same, fun dx ndx ne => ⟨rfl, dx, ([("part", V.non)] : List (Str × V)), upd_same, ?_, ?_, ?_⟩⟩
      · rw [upd_ne ne, upd_same]
      · rw [upd_ne ne] at ndx
        exact ndx
      · have ndx' : H dx = none := by rw [upd_ne ne] at ndx; exact ndx
        refine kF rfl dx _ (fun b o hb => ?_) upd_same
        have nb : b ≠ a := ne_of_none hb ha
        have nb2 : b ≠ dx := ne_of_none hb ndx'
        rw [upd_ne nb2, del_ne nb, upd_ne nb, upd_ne nb2, upd_ne nb]
        exact hb
end
end Tt
set_option maxRecDepth 100000
set_option maxHeartbeats 4000000
namespace Tt
open PySem L2
section
variable {P : Program} {w : World} {K : PySem.W.Frag} {mg : Str → Option Value} {base : Heap}
theorem eqv_ints : ∀ a b : List Int, PyData.eqv (.list (a.map PyData.int)) (.list (b.map PyData.int)) = decide (a = b)
  | [], [] => rfl
  | [], _ :: _ => by simp [PyData.eqv] <;> rfl
  | _ :: _, [] => by simp [PyData.eqv] <;> rfl
  | x :: a, y :: b => by
    have h := eqv_ints a b
    simp [PyData.eqv, PyData.eqvAll] at h ⊢
    rw [h]
    rfl
theorem perm_sorted {n : Nat} {ns' ns : List Int} (h : ns'.Perm ns) (p : ns'.Pairwise (· ≤ ·)) (q : ns.Perm (rgI n)) : ns' = rgI n := by
  refine List.Perm.eq_of_pairwise (fun a b _ _ h1 h2 => Int.le_antisymm h1 h2) p ?_ (h.trans q)
  unfold rgI
  rw [List.pairwise_map]
  exact List.pairwise_lt_range.imp fun {a b} h => by show (a : Int) ≤ b; omega
theorem perm_len {n : Nat} {row : List Int} (h : row.Perm (rgI n)) : row.length = n := by rw [h.length_eq, rgI_len]
theorem perm_mem {n : Nat} {row : List Int} (h : row.Perm (rgI n)) {x : Int} : x ∈ row ↔ 0 ≤ x ∧ x < n := by
  rw [h.mem_iff]
  unfold rgI
  rw [List.mem_map]
  constructor
  · rintro ⟨a, ha, rfl⟩
    have := List.mem_range.mp ha
    omega
  · rintro ⟨h0, h1⟩
    exact ⟨x.toNat, List.mem_range.mpr (by omega), by omega⟩
def spRowOk (K : PySem.W.Frag) : Sp := fun vs H Q _ => ∃ (t : Addr) (n : Nat) (row : List Int), vs = [.ref t] ∧ SqT K H t (row.map V.int) ∧ 1 ≤ n ∧ n ≤ 6 ∧ row.Perm (rgI (2 * n)) ∧ ∀ H', Same H H' → Q (.bl true) H'
theorem ok_is_row (T : Txt K mg) : FnOk P w K mg base CX0 3 T.is_row.a T.is_row.fd ["row"] (spRowOk K) := by
  refine T.is_row.F.ok sc_is_row (fun vs H Q E h => ?_) (fun cdv A outer s H vs Q E hr h => ?_)
  · obtain ⟨t, n, row, rfl, _⟩ := h
    rfl
  · obtain ⟨t, n, row, rfl, hs, n1, n6, pm, k⟩ := h
    have nd := sc_is_row.nd
    have hlen := perm_len pm
    refine ⟨_, (pss_cons (ps_if (PW.pt (pw_or (pt_not (pt_val (pe_call (ok_is_list T) (hr.mono (by decide)) (by rfl) T.is_list.g T.is_list.k T.is_list.b .nil pass0 (pa_cons (pv 0) pa_nil)))) (pw_or1 (pt_cmpR op_notIn_seq (pe_callB call_len_seq (by rfl) T.zlen (by decide +kernel) (pa_cons (pv 0) pa_nil)) (pe_tup (pa_cons pe_int (pa_cons pe_int (pa_cons pe_int (pa_cons pe_int (pa_cons pe_int (pa_cons pe_int pa_nil))))))) rfl))))
      (pss_one (ps_ret pe_bl))
      pss_nil)
    (pss_one (ps_ret (pe_and (pe_callB (cr_all rfl) (by rfl) T.zall (by decide +kernel) (pa_cons (pe_lc (own := [("end", 1)]) (g := gName 1) rfl nd (pi_tup (pv 0)) (blkOk_by (own := [("end", 1)]) (N := N_is_row) (sc := defScope s_is_row) (by decide +kernel)) (fun _ _ _ _ _ => pg_name (i := 1) nd rfl (Or.inl rfl)) (fun _ _ _ _ _ => pts_nil) (fun _ _ _ _ _ => (pe_call (ok_is_number T) (hr.mono (by decide)) (by rfl) T.is_number.g T.is_number.k T.is_number.b .nil pass0 (pa_cons (pv 1) pa_nil)))) pa_nil)) (pe_one (pe_cmpR (op_eqD hr.units) (pe_callB cr_sortedS2 (by rfl) T.zsorted (by decide +kernel) (pa_cons (pv 0) pa_nil)) (pe_listRg rfl (by rfl) T.zlist (prg_1 (by rfl) T.zrange (pe_callB call_len_seq (by rfl) T.zlen (by decide +kernel) (pa_cons (pv 0) pa_nil)))) (nomark _))))))), ?_⟩
    refine ⟨_, rfl, _, _, rfl, .tup hs, _, rfl, iteF ?_⟩
    refine ⟨_, rfl, t, _, rfl, .inr hs, (by show 6 ≤ sizeLine; decide), fun p hp => ?_⟩
    refine ⟨p, _, rfl, .inr (SqT.of upd_same), rfl, rfl, _, rfl, ?_⟩
    have hin : inV (.int ((row.map V.int).length : Int)) [.int 2, .int 4, .int 6, .int 8, .int 10, .int 12] = true := by
      rw [List.length_map, hlen]
      have : n = 1 ∨ n = 2 ∨ n = 3 ∨ n = 4 ∨ n = 5 ∨ n = 6 := by omega
      rcases this with rfl | rfl | rfl | rfl | rfl | rfl <;> rfl
    refine ite2 (fun c => ?_) (fun _ => ?_)
    · exfalso
      have c' : (!inV (.int ((row.map V.int).length : Int)) [.int 2, .int 4, .int 6, .int 8, .int 10, .int 12]) = true := c
      rw [hin] at c'
      exact Bool.noConfusion c'
    · have s1 : Same H (upd H p (.tup [.int 2, .int 4, .int 6, .int 8, .int 10, .int 12])) := same_new hp
      generalize upd H p (.tup [.int 2, .int 4, .int 6, .int 8, .int 10, .int 12]) = H1 at s1
      refine ⟨_, rfl, t, rfl, ⟨_, same_seqT s1 hs⟩, fun D1 hD1 => lc_tup (K := K) (a := t) (xs := row.map V.int) (fun i H' => H' D1 = some (.lst ((List.replicate i true).map V.bl)) ∧ Same H1 H')
        ⟨upd_same, same_new hD1⟩ (fun i H' _ z => same_seqT (s1.trans z.2) hs) ?_ ?_⟩
      · rintro i y H' hi ⟨h1, s2⟩
        obtain ⟨x, rfl, hx⟩ := ints_at hi
        have hil : i < row.length := (List.getElem?_eq_some_iff.mp hx).1
        refine ⟨rfl, yes_t ?_⟩
        refine ⟨_, rfl, _, _, rfl, .int x, _, h1, ?_, ?_, ?_⟩
        · rw [List.length_map, List.length_replicate]
          exact small1000 (by omega)
        · rw [upd_same, List.replicate_succ', List.map_append]
          rfl
        · intro b o hb
          rw [upd_ne (ne_of_none hb hD1)]
          exact s2 b o hb
      · rintro H' ⟨h1, s2⟩
        have s3 : Same H H' := s1.trans s2
        refine ⟨D1, List.replicate (row.map V.int).length true, rfl, SqL.of h1, _, rfl, ?_⟩
        have hall : (List.replicate (row.map V.int).length true).all id = true := by simp
        rw [hall]
        refine iteT ?_
        refine ⟨_, rfl, .inr ⟨t, row, rfl, same_seqT s3 hs, fun ns' p2 pm2 pw hp2 => ?_⟩⟩
        have s4 : Same H (upd H' p2 (.lst (ns'.map V.int))) := s3.trans (same_new hp2)
        refine ⟨_, rfl, t, _, rfl, .inr (same_seqT s4 hs), _, rfl, RgOk.of_le (by omega) ?_ (by omega) (by omega), fun q hq => ?_⟩
        · rw [List.length_map]
          omega
        · have eN : ns' = rgI (2 * n) := perm_sorted pm2 pw pm
          have e1 : (upd (upd H' p2 (.lst (ns'.map V.int))) q (.lst (rgV 0 ((row.map V.int).length : Int)))) q = some (.lst ((rgI (2 * n)).map V.int)) := by
            rw [upd_same, rgV_rgI (by omega), List.length_map, hlen, Int.toNat_natCast]
          have e2 : (upd (upd H' p2 (.lst (ns'.map V.int))) q (.lst (rgV 0 ((row.map V.int).length : Int)))) p2 = some (.lst (ns'.map V.int)) := upk hq upd_same
          refine ⟨_, _, .lst (SqL.of e2) (dpAll_ints _ ns'), .lst (SqL.of e1) (dpAll_ints _ _), shapedAll_ints _, shapedAll_ints _, ?_⟩
          rw [eqv_ints, decide_eq_true eN]
          exact k _ (s4.trans (same_new hq))
def spSkinI (T : Txt K mg) : Sp := fun vs H Q _ => ∃ (p t dx : Addr) (n : Nat) (row : List Int), vs = [.ref p, .ref t] ∧ H p = some (.ins T.Skin.C dx []) ∧ FzT H t (row.map V.int) ∧ 1 ≤ n ∧ n ≤ 6 ∧ row.Perm (rgI (2 * n)) ∧
  ∀ (s : Nat) H', row[s]? = some 0 → SkAt T H' p (row.drop s ++ row.take s) → (∀ b o, H b = some o → b ≠ p → H' b = some o) → Q .non H'
theorem turn_perm (row : List Int) (s : Nat) : (row.drop s ++ row.take s).Perm row := by
  have h : (row.drop s ++ row.take s).Perm (row.take s ++ row.drop s) := List.perm_append_comm
  rw [List.take_append_drop] at h
  exact h
theorem idx_at {row : List Int} {x : Int} (h : x ∈ row) : row[row.idxOf x]? = some x ∧ ∀ m, m < row.idxOf x → row[m]? ≠ some x := by
  have hl : row.idxOf x < row.length := List.idxOf_lt_length_of_mem h
  refine ⟨by rw [List.getElem?_eq_getElem hl, List.getElem_idxOf hl], fun m hm e => ?_⟩
  obtain ⟨h1, h2⟩ := List.getElem?_eq_some_iff.mp e
  exact absurd h2 (by simpa using List.not_of_lt_findIdx (xs := row) (p := (· == x)) (i := m) hm)
theorem slT_from {xs : List V} {a : Addr} {H : Hp} {Q : VK} {n : Nat} (hx : 0 < xs.length) (h : SqT K H a xs) (q0 : n = 0 → Q (.ref a) H) (q1 : n ≠ 0 → ∀ p, H p = none → Q (.ref p) (upd H p (.tup (xs.drop n)))) : rSlA K (.ref a) (some (n : Int)) none H Q := by
  refine ⟨a, xs, rfl, h, fun z => q0 ?_, fun nz p hp => ?_⟩
  · rw [HT.sIx_nat] at z
    omega
  · rw [cut_from]
    refine q1 (fun e => nz ?_) p hp
    subst e
    exact ⟨by rw [HT.sIx_nat]; omega, rfl⟩
theorem slT_to {xs : List V} {a : Addr} {H : Hp} {Q : VK} {n : Nat} (hx : n < xs.length) (h : SqT K H a xs) (q1 : ∀ p, H p = none → Q (.ref p) (upd H p (.tup (xs.take n)))) : rSlA K (.ref a) none (some (n : Int)) H Q := by
  refine ⟨a, xs, rfl, h, fun z => ?_, fun _ p hp => ?_⟩
  · rw [HT.sIx_nat] at z
    exfalso
    omega
  · rw [cut_to _ (by omega)]
    exact q1 p hp
theorem noPart_i {σ : L2.St} {H : Hp} {Q : Option Int → Hp → Prop} (h : Q none H) : tNoPart σ H Q := h
def tTurned (K : PySem.W.Frag) : TE := tOp (rCatF K) (tCB (rTupF K) (tCons (tSl (rSlA K) (tVar 1) (tPart (tVar 2)) tNoPart) tNil)) (tCB (rTupF K) (tCons (tSl (rSlA K) (tVar 1) tNoPart (tPart (tVar 2))) tNil))
theorem row_turned {σ : L2.St} {H : Hp} {Q : VK} {t : Addr} {st : Nat} {row : List Int} (h1 : σ[1]? = some (some (.ref t))) (h2 : σ[2]? = some (some (.int (st : Nat)))) (ht : FzT H t (row.map V.int)) (hst : st < row.length) (hl : row.length ≤ 12)
    (k : ∀ (r : Addr) (H4 : Hp), Same H H4 → FzT H4 r ((row.drop st ++ row.take st).map V.int) → Q (.ref r) H4) : tTurned K σ H Q := by
  have hx : 0 < (row.map V.int).length := by rw [List.length_map]; omega
  have hd : ((row.drop st).map V.int) ≠ [] := fun z => by
    have := congrArg List.length z
    rw [List.length_map, List.length_drop] at this
    simp at this
    omega
  have hz : ((row.drop st).map V.int).length + ((row.take st).map V.int).length ≤ sizeLine := by
    rw [List.length_map, List.length_map, List.length_drop, List.length_take]
    have : (12 : Nat) ≤ sizeLine := by decide
    omega
  have step : ∀ (a : Addr) (H2 : Hp), Same H H2 → SqT K H2 a ((row.drop st).map V.int) → (st = 0 → a = t) →
      tCB (rTupF K) (tCons (tSl (rSlA K) (tVar 1) tNoPart (tPart (tVar 2))) tNil) σ H2 fun y H3 => rCatF K (.ref a) y H3 Q := by
    intro a H2 s2 ha hat
    refine ⟨_, h1, noPart_i ⟨_, h2, st, rfl, ?_⟩⟩
    refine slT_to (K := K) (by rw [List.length_map]; exact hst) (FzT.same ht s2).sq (fun b hb => ?_)
    have e1 : (upd H2 b (.tup ((row.map V.int).take st))) b = some (.tup ((row.take st).map V.int)) := by rw [upd_same, List.map_take]
    have s3 : Same H2 (upd H2 b (.tup ((row.map V.int).take st))) := same_new hb
    refine ⟨b, _, rfl, .inr ⟨SqT.of e1, ?_⟩⟩
    refine ⟨a, b, _, _, rfl, rfl, same_seqT s3 ha, SqT.of e1, hd, hz, fun z => ?_, fun z r ob hr hob => ?_⟩
    · have z0 : st = 0 := by
        have := congrArg List.length z
        rw [List.length_map, List.length_take, List.length_nil] at this
        omega
      subst z0
      rw [hat rfl]
      refine k t _ (s2.trans s3) ?_
      rw [show List.drop 0 row ++ List.take 0 row = row by simp]
      exact FzT.same (FzT.same ht s2) s3
    · refine k r _ ((s2.trans s3).trans (same_new hr)) ?_
      rw [List.map_append]
      exact FzT.new hob
  refine ⟨_, h1, _, h2, st, rfl, noPart_i ?_⟩
  refine slT_from (K := K) hx ht.sq (fun z => ?_) (fun nz a ha => ?_)
  · refine ⟨t, _, rfl, .inr ⟨ht.sq, ?_⟩⟩
    refine step t H (fun _ _ h => h) ?_ (fun _ => rfl)
    rw [z, List.drop_zero]
    exact ht.sq
  · have e1 : (upd H a (.tup ((row.map V.int).drop st))) a = some (.tup ((row.drop st).map V.int)) := by rw [upd_same, List.map_drop]
    refine ⟨a, _, rfl, .inr ⟨SqT.of e1, ?_⟩⟩
    refine step a _ (same_new ha) (SqT.of e1) (fun z => absurd z nz)
theorem FzT.ne {H : Hp} {a p : Addr} {xs : List V} {u o : HO} (h : FzT H a xs) (e : H p = some u) (n : ∀ ob x, u ≠ .frz ob x) : FzT (upd H p o) a xs := by
  obtain ⟨ob, h1, h2⟩ := h
  refine ⟨ob, ?_, h2⟩
  rw [upd_ne]
  · exact h1
  · intro z
    subst z
    rw [e] at h1
    exact n _ _ (Option.some.inj h1)
theorem place_at {row : List Int} {i : Nat} (h : i < row.length) : (places row)[i]? = some (((row.idxOf (i : Int) : Nat)) : Int) := by
  unfold places
  rw [List.getElem?_map, List.getElem?_range h]
  rfl
theorem ok_Skin_init (T : Txt K mg) : FnOk P w K mg base (L2.CX P w) 4 T.Skin.fI T.Skin.fd ["self", "row"] (spSkinI T) := by
  refine T.Skin.F.okX sc_Skin_init (fun vs H Q E h => ?_) (fun cdv A outer s H vs Q E hr h => ?_)
  · obtain ⟨p, t, dx, n, row, rfl, _⟩ := h
    rfl
  · obtain ⟨p, t, dx, n, row, rfl, hp, ht, n1, n6, pm, k⟩ := h
    have nd := sc_Skin_init.nd
    have hu := hu_of hr
    have hlen := perm_len pm
    refine ⟨_, (pss_cons (ps_if (pt_not (pt_val (pe_call (ok_is_row T) (hr.mono (by decide)) (by rfl) T.is_row.g T.is_row.k T.is_row.b .nil pass0 (pa_cons (pv 1) pa_nil))))
      (pss_one (ps_raise rfl (takes_of rfl rfl rfl rfl) (pmk_oex T.BadSkin.o T.BadSkin.i T.BadSkin.t (ok_BadSkin_init T) (hr.mono (by decide)) T.BadSkin.b .nil pass0 (by rfl) T.BadSkin.g (pa_cons pe_str pa_nil))))
      pss_nil)
    (pss_cons (ps_set (i := 2) nd rfl (Or.inl rfl) (pe_bmF PySem.F.plainAttrs_tuple PySem.F.slot_tuple_index PySem.F.type_tuple_index mt_tup_indexI (pv 1) (pa_cons pe_int pa_nil)))
    (pss_cons (ps_fld (pv 0) (pe_op op_catF (pe_callTy call_tuple_ofF (by rfl) T.ztuple (by decide +kernel) (pa_cons (pe_slice sl_tupA (pv 1) (po_some (pv 2)) po_none) pa_nil)) (pe_callTy call_tuple_ofF (by rfl) T.ztuple (by decide +kernel) (pa_cons (pe_slice sl_tupA (pv 1) po_none (po_some (pv 2))) pa_nil))) rfl)
    (pss_cons (ps_fld (pv 0) (pe_op op_fdiv (pe_callB call_len_seq (by rfl) T.zlen (by decide +kernel) (pa_cons (pv 1) pa_nil)) pe_int) rfl)
    (pss_one (ps_fld (pv 0) (pe_callTy call_tuple_ofF (by rfl) T.ztuple (by decide +kernel) (pa_cons (pe_lc (own := [("end", 3)]) (g := gName 3) rfl nd (pi_range1 rfl T.zrange (pa_cons (pe_callB call_len_seq (by rfl) T.zlen (by decide +kernel) (pa_cons (pv 1) pa_nil)) pa_nil)) (blkOk_by (own := [("end", 3)]) (N := N_Skin_init) (sc := defScope s_Skin_init) (by decide +kernel)) (fun _ _ _ _ _ => pg_name (i := 3) nd rfl (Or.inl rfl)) (fun _ _ _ _ _ => pts_nil) (fun _ _ _ _ _ => (pe_bmFK (K := K) rfl PySem.F.plainAttrs_tuple PySem.F.slot_tuple_index PySem.F.type_tuple_index (mt_tup_indexIK (K := K) rfl) (pe_fldK (K := K) rfl (pv 0) rfl) (pa_cons (pv 3) pa_nil)))) pa_nil)) rfl)))))), ?_⟩
    refine ⟨_, rfl, t, n, row, rfl, ht.sq, n1, n6, pm, fun H1 s1 => ⟨_, rfl, iteF ?_⟩⟩
    have ht1 := FzT.same ht s1
    have hp1 := s1 _ _ hp
    have h0 : (0 : Int) ∈ row := (perm_mem pm).mpr (by omega)
    obtain ⟨i0, i1⟩ := idx_at h0
    have hst : row.idxOf 0 < row.length := List.idxOf_lt_length_of_mem h0
    refine ⟨_, rfl, .inr ⟨rfl, t, _, rfl, ht1⟩, t, row, 0, row.idxOf 0, rfl, rfl, ht1.sq, i0, i1, ?_⟩
    generalize row.idxOf 0 = st at i0 hst
    clear i1
    refine row_turned (K := K) rfl rfl ht1 hst (by omega) (fun r H4 s4 fr => ?_)
    generalize hrow : row.drop st ++ row.take st = row2 at fr
    have pm2 : row2.Perm (rgI (2 * n)) := by rw [← hrow]; exact (turn_perm row st).trans pm
    have hlen2 : row2.length = 2 * n := perm_len pm2
    have hp4 : H4 p = some (.ins T.Skin.C dx []) := s4 _ _ hp1
    refine ⟨_, rfl, p, T.Skin.C, dx, [], rfl, hp4, T.Skin.c, nRow T, (by show 0 < 1000; decide), ?_⟩
    have hp5 : (upd H4 p (.ins T.Skin.C dx (putF "row" (.ref r) []))) p = some (.ins T.Skin.C dx [("row", .ref r)]) := upd_same
    have fr5 : FzT (upd H4 p (.ins T.Skin.C dx (putF "row" (.ref r) []))) r (row2.map V.int) := FzT.ne fr hp4 (fun _ _ z => nomatch z)
    have ft5 : FzT (upd H4 p (.ins T.Skin.C dx (putF "row" (.ref r) []))) t (row.map V.int) := FzT.ne (FzT.same ht1 s4) hp4 (fun _ _ z => nomatch z)
    have k5 : ∀ b o, H b = some o → b ≠ p → (upd H4 p (.ins T.Skin.C dx (putF "row" (.ref r) []))) b = some o := fun b o hb nb => by
      rw [upd_ne nb]
      exact s4 _ _ (s1 _ _ hb)
    generalize upd H4 p (.ins T.Skin.C dx (putF "row" (.ref r) [])) = H5 at hp5 fr5 ft5 k5
    refine ⟨_, rfl, t, _, rfl, .inr ft5.sq, _, _, rfl, rfl, ⟨by decide, by decide⟩, ?_⟩
    refine ⟨_, rfl, p, T.Skin.C, dx, _, rfl, hp5, T.Skin.c, nBands T, (by show 1 < 1000; decide), ?_⟩
    have ebands : ((row.map V.int).length : Int) / 2 = ((row2.length / 2 : Nat) : Int) := by
      rw [List.length_map, hlen2, hlen]
      rfl
    have eV : ((fun (i j : Int) => V.int (i / j)) ((row.map V.int).length : Int) 2) = V.int ((row2.length / 2 : Nat) : Int) := congrArg V.int ebands
    rw [eV]
    have hp6 : (upd H5 p (.ins T.Skin.C dx (putF "bands" (.int ((row2.length / 2 : Nat) : Int)) [("row", .ref r)]))) p = some (.ins T.Skin.C dx [("row", .ref r), ("bands", .int ((row2.length / 2 : Nat) : Int))]) := upd_same
    have fr6 : FzT (upd H5 p (.ins T.Skin.C dx (putF "bands" (.int ((row2.length / 2 : Nat) : Int)) [("row", .ref r)]))) r (row2.map V.int) := FzT.ne fr5 hp5 (fun _ _ z => nomatch z)
    have ft6 : FzT (upd H5 p (.ins T.Skin.C dx (putF "bands" (.int ((row2.length / 2 : Nat) : Int)) [("row", .ref r)]))) t (row.map V.int) := FzT.ne ft5 hp5 (fun _ _ z => nomatch z)
    have k6 : ∀ b o, H b = some o → b ≠ p → (upd H5 p (.ins T.Skin.C dx (putF "bands" (.int ((row2.length / 2 : Nat) : Int)) [("row", .ref r)]))) b = some o := fun b o hb nb => by
      rw [upd_ne nb]
      exact k5 b o hb nb
    generalize upd H5 p (.ins T.Skin.C dx (putF "bands" (.int ((row2.length / 2 : Nat) : Int)) [("row", .ref r)])) = H6 at hp6 fr6 ft6 k6
    refine ⟨_, rfl, t, _, rfl, .inr ft6.sq, _, rfl, by omega, by rw [List.length_map]; omega, fun D1 hD1 => ?_⟩
    refine lc_range (lo := 0) (n := ((row.map V.int).length : Int).toNat) (fun i H' => H' D1 = some (.lst (((places row2).take i).map V.int)) ∧ Same H6 H')
      ⟨upd_same, same_new hD1⟩ ?_ ?_
    · rintro i H' hi ⟨h1, s2⟩
      have hi2 : i < row2.length := by rw [List.length_map, hlen] at hi; omega
      have hm : (i : Int) ∈ row2 := (perm_mem pm2).mpr (by omega)
      obtain ⟨j0, j1⟩ := idx_at hm
      refine ⟨rfl, yes_t ?_⟩
      refine ⟨_, rfl, p, _, _, _, _, rfl, s2 _ _ hp6, T.Skin.c, nRow T, rfl, .inr ⟨rfl, r, _, rfl, FzT.same fr6 s2⟩, ?_⟩
      refine ⟨_, rfl, r, row2, i, _, rfl, by rw [Int.zero_add], (FzT.same fr6 s2).sq, j0, j1, ?_⟩
      refine ⟨_, h1, ?_, ?_⟩
      · rw [List.length_map, List.length_take]
        exact small1000 (by omega)
      · refine ⟨?_, fun b o hb => ?_⟩
        · rw [upd_same, List.take_add_one, place_at hi2, List.map_append]
          rfl
        · rw [upd_ne (ne_of_none hb hD1)]
          exact s2 b o hb
    · rintro H' ⟨h1, s2⟩
      have e2 : (places row2).take ((row.map V.int).length : Int).toNat = places row2 := by
        refine List.take_of_length_le ?_
        unfold places
        rw [List.length_map, List.length_map, List.length_range]
        omega
      rw [e2] at h1
      refine ⟨D1, _, rfl, .inl ⟨SqL.of h1, fun q ob hq hob => ?_⟩⟩
      have s3 : Same H6 (upd H' q (.frz ob (.tup ((places row2).map V.int)))) := s2.trans (same_new hq)
      have fq : FzT (upd H' q (.frz ob (.tup ((places row2).map V.int)))) q ((places row2).map V.int) := FzT.new hob
      generalize upd H' q (.frz ob (.tup ((places row2).map V.int))) = H7 at s3 fq
      refine ⟨_, rfl, p, T.Skin.C, dx, _, rfl, s3 _ _ hp6, T.Skin.c, nPlaces T, (by show 2 < 1000; decide), ?_⟩
      refine k st _ i0 ?_ (fun b o hb nb => ?_)
      · rw [hrow]
        exact ⟨dx, r, q, upd_same, FzT.ne (FzT.same fr6 s3) (s3 _ _ hp6) (fun _ _ z => nomatch z), FzT.ne fq (s3 _ _ hp6) (fun _ _ z => nomatch z)⟩
      · rw [upd_ne nb]
        exact s3 _ _ (k6 b o hb nb)
end
end Tt
set_option maxRecDepth 100000
set_option maxHeartbeats 4000000
namespace Tt
open PySem L2
section
variable {P : Program} {w : World} {K : PySem.W.Frag} {mg : Str → Option Value} {base : Heap}
theorem TyB.same {H H' : Hp} {x : V} {S : String} (t : TyB K H x S) (s : Same H H') : TyB K H' x S := by
  cases t with
  | non => exact .non
  | bl b => exact .bl b
  | int i => exact .int i
  | str x => exact .str x
  | byt b => exact .byt b
  | @lst a xs h =>
    have h' : SqL K H' a xs := by
      rcases h with (h | ⟨o, h⟩) | h
      · exact .inl (.inl (s _ _ h))
      · exact .inl (.inr ⟨o, s _ _ h⟩)
      · exact .inr h
    exact .lst h'
  | tup h => exact .tup (same_seqT s h)
  | dK h => exact .dK (s _ _ h)
def hiE (row : List Int) : Int := 2 * ((row.length / 2 : Nat) : Int) - 1
def spIsEnd (T : Txt K mg) : Sp := fun vs H Q _ => ∃ (p : Addr) (row : List Int) (x : V) (S : String), vs = [.ref p, x] ∧ SkAt T H p row ∧ row.length ≤ 12 ∧ TyB K H x S ∧ Q (.bl (inB 0 (hiE row) x)) H
theorem ok_is_end (T : Txt K mg) : FnOk P w K mg base CX0 3 T.is_end.a T.is_end.fd ["skin", "thing"] (spIsEnd T) := by
  refine T.is_end.F.ok sc_is_end (fun vs H Q E h => ?_) (fun cdv A outer s H vs Q E hr h => ?_)
  · obtain ⟨p, row, x, S, rfl, _⟩ := h
    rfl
  · obtain ⟨p, row, x, S, rfl, ⟨dx, r, q, h1, h2, h3⟩, hl, t, k⟩ := h
    refine ⟨_, (pss_one (ps_ret (pe_call (ok_is_within T) (hr.mono (by decide)) (by rfl) T.is_within.g T.is_within.k T.is_within.b .nil pass0 (pa_cons (pv 1) (pa_cons pe_int (pa_cons (pe_op op_sub (pe_op op_mul pe_int (pe_fld (pv 0) rfl)) pe_int) pa_nil)))))), ?_⟩
    refine ⟨x, rfl, _, rfl, p, T.Skin.C, dx, _, _, rfl, h1, T.Skin.c, nBands T, skF_bands .., _, _, rfl, rfl, .inl ⟨by decide, by decide⟩, _, _, rfl, rfl, ?_⟩
    exact ⟨x, 0, hiE row, S, rfl, t, k⟩
inductive WV (K : PySem.W.Frag) (m : Int) (row : List Int) (H : Hp) : V → Bool → Prop where
  | tup {p : Addr} {xs : List V} (h : SqT K H p xs) (n : xs.length < 1000) (ty : ∀ y ∈ xs, ∃ S, TyB K H y S) : WV K m row H (.ref p) (decide ((xs.length : Int) ≤ m) && xs.all (inB 0 (hiE row)))
  | non {x : V} {S : String} (h : TyB K H x S) (n : decide (S = "tuple") = false) : WV K m row H x false
theorem WV.same {m : Int} {row : List Int} {H H' : Hp} {x : V} {b : Bool} (h : WV K m row H x b) (s : Same H H') : WV K m row H' x b := by
  cases h with
  | tup h n ty => exact .tup (same_seqT s h) n fun y hy => (ty y hy).elim fun S t => ⟨S, TyB.same t s⟩
  | non h n => exact .non (TyB.same h s) n
def spAny (T : Txt K mg) : Sp := fun vs H Q _ => ∃ (p : Addr) (row : List Int) (t : Addr) (xs : List V), vs = [.ref p, .ref t] ∧ SkAt T H p row ∧ row.length ≤ 12 ∧ SqT K H t xs ∧ xs.length < 1000 ∧ (∀ y ∈ xs, ∃ S, TyB K H y S) ∧ ∀ H', Same H H' → Q (.bl (xs.all (inB 0 (hiE row)))) H'
theorem ok_is_any_word (T : Txt K mg) : FnOk P w K mg base CX0 4 T.is_any_word.a T.is_any_word.fd ["skin", "thing"] (spAny T) := by
  refine T.is_any_word.F.ok sc_is_any_word (fun vs H Q E h => ?_) (fun cdv A outer s H vs Q E hr h => ?_)
  · obtain ⟨p, row, t, xs, rfl, _⟩ := h
    rfl
  · obtain ⟨p, row, t, xs, rfl, hs, hl, h, n, ty, k⟩ := h
    have nd := sc_is_any_word.nd
    refine ⟨_, (pss_one (ps_ret (pe_and (pe_call (ok_is_tuple T) (hr.mono (by decide)) (by rfl) T.is_tuple.g T.is_tuple.k T.is_tuple.b .nil pass0 (pa_cons (pv 1) pa_nil)) (pe_one (pe_callB (cr_all rfl) (by rfl) T.zall (by decide +kernel) (pa_cons (pe_lc (own := [("letter", 2)]) (g := gName 2) rfl nd (pi_tup (pv 1)) (blkOk_by (own := [("letter", 2)]) (N := N_is_any_word) (sc := defScope s_is_any_word) (by decide +kernel)) (fun _ _ _ _ _ => pg_name (i := 2) nd rfl (Or.inl rfl)) (fun _ _ _ _ _ => pts_nil) (fun _ _ _ _ _ => (pe_call (ok_is_end T) (hr.mono (by decide)) (by rfl) T.is_end.g T.is_end.k T.is_end.b .nil pass0 (pa_cons (pv 0) (pa_cons (pv 2) pa_nil))))) pa_nil)))))), ?_⟩
    refine ⟨_, rfl, _, _, rfl, .tup h, _, rfl, iteT ?_⟩
    refine ⟨_, rfl, t, rfl, ⟨_, h⟩, fun D1 hD1 => lc_tup (K := K) (a := t) (xs := xs) (fun i H' => H' D1 = some (.lst (((xs.take i).map (inB 0 (hiE row))).map V.bl)) ∧ Same H H')
      ⟨upd_same, same_new hD1⟩ (fun i H' _ z => same_seqT z.2 h) ?_ ?_⟩
    · rintro i y H' hi ⟨h1, s2⟩
      have hil : i < xs.length := (List.getElem?_eq_some_iff.mp hi).1
      obtain ⟨S, ty'⟩ := ty y (List.mem_of_getElem? hi)
      refine ⟨rfl, yes_t ?_⟩
      refine ⟨_, rfl, _, rfl, p, row, y, S, rfl, hs.same s2, hl, TyB.same ty' s2, ?_⟩
      refine ⟨_, h1, ?_, ?_⟩
      · rw [List.length_map, List.length_map, List.length_take]
        exact small1000 (by omega)
      · refine ⟨?_, fun b o hb => ?_⟩
        · rw [upd_same, List.take_add_one, hi, List.map_append, List.map_append]
          rfl
        · rw [upd_ne (ne_of_none hb hD1)]
          exact s2 b o hb
    · rintro H' ⟨h1, s2⟩
      have e2 : xs.take xs.length = xs := List.take_length
      rw [e2] at h1
      refine ⟨D1, _, rfl, SqL.of h1, ?_⟩
      have e3 : (xs.map (inB 0 (hiE row))).all id = xs.all (inB 0 (hiE row)) := by rw [List.all_map]; rfl
      rw [e3]
      exact k H' s2
def spHas (T : Txt K mg) : Sp := fun vs H Q _ => ∃ (p : Addr) (row : List Int) (x : V) (m : Int) (b : Bool), vs = [.ref p, x, .int m] ∧ SkAt T H p row ∧ row.length ≤ 12 ∧ WV K m row H x b ∧ ∀ H', Same H H' → Q (.bl b) H'
theorem ok_has_letters (T : Txt K mg) : FnOk P w K mg base CX0 5 T.has_letters.a T.has_letters.fd ["skin", "thing", "most"] (spHas T) := by
  refine T.has_letters.F.ok sc_has_letters (fun vs H Q E h => ?_) (fun cdv A outer s H vs Q E hr h => ?_)
  · obtain ⟨p, row, x, m, b, rfl, _⟩ := h
    rfl
  · obtain ⟨p, row, x, m, b, rfl, hs, hl, hv, k⟩ := h
    have nd := sc_has_letters.nd
    refine ⟨_, (pss_one (ps_ret (pe_and (pe_call (ok_is_tuple T) (hr.mono (by decide)) (by rfl) T.is_tuple.g T.is_tuple.k T.is_tuple.b .nil pass0 (pa_cons (pv 1) pa_nil)) (pe_and (pe_cmpR op_le (pe_callB call_len_seq (by rfl) T.zlen (by decide +kernel) (pa_cons (pv 1) pa_nil)) (pv 2) (nomark _)) (pe_one (pe_call (ok_is_any_word T) (hr.mono (by decide)) (by rfl) T.is_any_word.g T.is_any_word.k T.is_any_word.b .nil pass0 (pa_cons (pv 0) (pa_cons (pv 1) pa_nil)))))))), ?_⟩
    cases hv with
    | non h n => 
      refine ⟨_, rfl, _, _, rfl, h, _, rfl, ?_⟩
      rw [n]
      exact iteF (k _ fun _ _ z => z)
    | @tup t xs h n ty =>
      refine ⟨_, rfl, _, _, rfl, .tup h, _, rfl, iteT ?_⟩
      refine ⟨_, rfl, t, _, rfl, .inr h, _, rfl, _, _, rfl, rfl, _, rfl, ?_⟩
      refine ite2 (fun c => ?_) (fun c => ?_)
      · rw [c, Bool.true_and] at k
        exact ⟨_, rfl, _, rfl, p, row, t, xs, rfl, hs, hl, h, n, ty, k⟩
      · have c' : decide ((xs.length : Int) ≤ m) = false := by simpa using c
        rw [c', Bool.false_and] at k
        exact k _ fun _ _ z => z
end
end Tt
set_option maxRecDepth 100000
set_option maxHeartbeats 4000000
namespace Tt
open PySem L2
section
variable {P : Program} {w : World} {K : PySem.W.Frag} {mg : Str → Option Value} {base : Heap}
def SkOr (T : Txt K mg) (v : V) (H : Hp) (E : XK) (k : Addr → List Int → Prop) : Prop := (SkV T H v false ∧ SkErr T H E) ∨ ∃ (p : Addr) (row : List Int), v = .ref p ∧ SkAt T H p row ∧ (row.length ≤ 12 ∧ row.length % 2 = 0) ∧ k p row
theorem word_wv {m : Int} {row : List Int} {H : Hp} {t : Addr} {ns : List Int} (hl : row.length % 2 = 0) (h : SqT K H t (ns.map V.int)) (n2 : ns.length ≤ 500) (hm : (ns.length : Int) ≤ m) (hb : Lt (row.length : Int) ns) : WV K m row H (.ref t) true := by
  have e : (decide (((ns.map V.int).length : Int) ≤ m) && (ns.map V.int).all (inB 0 (hiE row))) = true := by
    rw [List.length_map, decide_eq_true hm, Bool.true_and, List.all_eq_true]
    intro y hy
    obtain ⟨x, hx, rfl⟩ := List.mem_map.mp hy
    obtain ⟨h0, h1⟩ := hb x hx
    show (decide (0 ≤ x) && decide (x ≤ hiE row)) = true
    unfold hiE
    rw [Bool.and_eq_true]
    exact ⟨decide_eq_true h0, decide_eq_true (by omega)⟩
  rw [← e]
  refine .tup h (by rw [List.length_map]; omega) fun y hy => ?_
  obtain ⟨x, _, rfl⟩ := List.mem_map.mp hy
  exact ⟨_, .int x⟩
end
end Tt
set_option maxRecDepth 100000
set_option maxHeartbeats 4000000
namespace Tt
open PySem L2
section
variable {P : Program} {w : World} {K : PySem.W.Frag} {mg : Str → Option Value} {base : Heap}
theorem slT_gen {xs : List V} {a : Addr} {H : Hp} {Q : VK} {n : Nat} (h : SqT K H a xs) (q : ∀ b H', Same H H' → SqT K H' b (xs.take n) → Q (.ref b) H') : rSlA K (.ref a) none (some (n : Int)) H Q := by
  by_cases hn : n < xs.length
  · refine slT_to hn h fun p hp => q p _ (same_new hp) (SqT.of upd_same)
  · refine ⟨a, xs, rfl, h, fun _ => q a H (fun _ _ z => z) ?_, fun z => absurd ⟨rfl, ?_⟩ z⟩
    · rw [List.take_of_length_le (by omega)]
      exact h
    · rw [HT.sIx_nat]
      omega
theorem catA_gen {xs ys : List V} {a b : Addr} {H : Hp} {Q : VK} (ha : SqT K H a xs) (hb : SqT K H b ys) (hz : xs.length + ys.length ≤ sizeLine) (q : ∀ c H', Same H H' → SqT K H' c (xs ++ ys) → Q (.ref c) H') : rCatA K (.ref a) (.ref b) H Q := by
  refine ⟨a, b, xs, ys, rfl, rfl, ha, hb, hz, fun z => ?_, fun _ z => ?_, fun _ _ p hp => q p _ (same_new hp) (SqT.of upd_same)⟩
  · subst z
    exact q b H (fun _ _ z => z) hb
  · subst z
    exact q a H (fun _ _ z => z) (by rw [List.append_nil]; exact ha)
theorem slT_genD {xs : List V} {a : Addr} {H : Hp} {Q : VK} {n : Nat} (h : SqT K H a xs) (q : ∀ b H', Same H H' → SqT K H' b (xs.drop n) → Q (.ref b) H') : rSlA K (.ref a) (some (n : Int)) none H Q := by
  by_cases hx : 0 < xs.length
  · refine slT_from hx h (fun z => ?_) fun _ p hp => q p _ (same_new hp) (SqT.of upd_same)
    subst z
    exact q a H (fun _ _ z => z) (by rw [List.drop_zero]; exact h)
  · have e : xs = [] := List.length_eq_zero_iff.mp (by omega)
    subst e
    refine ⟨a, [], rfl, h, fun _ => q a H (fun _ _ z => z) (by rw [List.drop_nil]; exact h), fun z => absurd ⟨by rw [HT.sIx_nat]; simp, rfl⟩ z⟩
end
end Tt
set_option maxHeartbeats 1000000
namespace Wd
def strip (w : List Int) : List Int := if h : 2 ≤ w.length ∧ w.head? = w.getLast?.map mate then strip (w.drop 1).dropLast else w
termination_by w.length
decreasing_by
  rw [List.length_dropLast, List.length_drop]
  omega
theorem strip_yes {a : Int} {m : List Int} : strip (mate a :: (m ++ [a])) = strip m := by
  rw [strip]
  rw [dif_pos]
  · simp
  · refine ⟨by simp, ?_⟩
    have : (mate a :: (m ++ [a])).getLast? = some a := by simp [List.getLast?_cons]
    rw [this]
    rfl
theorem strip_no {w : List Int} (h : w.head? ≠ w.getLast?.map mate) : strip w = w := by
  rw [strip, dif_neg]
  exact fun z => h z.2
theorem strip_short {w : List Int} (h : w.length < 2) : strip w = w := by
  rw [strip, dif_neg]
  exact fun z => by omega
def core (w : List Int) : List Int := strip (freed w)
def Turn (a b : List Int) : Prop := ∃ u v, a = u ++ v ∧ b = v ++ u
theorem Turn.refl (a : List Int) : Turn a a := ⟨[], a, rfl, by simp⟩
theorem Turn.symm {a b : List Int} (h : Turn a b) : Turn b a := by
  obtain ⟨u, v, h1, h2⟩ := h
  exact ⟨v, u, h2, h1⟩
theorem app_split {u v p q : List Int} (h : u ++ v = p ++ q) : (∃ m, p = u ++ m ∧ v = m ++ q) ∨ ∃ m, u = p ++ m ∧ q = m ++ v := by
  rcases List.append_eq_append_iff.mp h with ⟨m, h1, h2⟩ | ⟨m, h1, h2⟩
  · exact .inl ⟨m, h1, h2⟩
  · exact .inr ⟨m, h1, h2⟩
theorem Turn.trans {a b c : List Int} (h : Turn a b) (k : Turn b c) : Turn a c := by
  obtain ⟨u, v, rfl, rfl⟩ := h
  obtain ⟨p, q, h1, rfl⟩ := k
  rcases app_split h1 with ⟨m, rfl, rfl⟩ | ⟨m, rfl, rfl⟩
  · exact ⟨m, q ++ v, by simp, by simp⟩
  · exact ⟨u ++ p, m, by simp, by simp⟩
theorem freed_head {a : Int} {r : List Int} (h : Rd r) : freed (a :: r) = if r.head? = some (mate a) then r.drop 1 else a :: r := by
  split
  · rename_i hh
    cases r with
    | nil => simp at hh
    | cons b r' =>
      have hb : b = mate a := by simpa using hh
      subst hb
      have h1 := freed_cut [] r' (mate a)
      rw [mate_mate] at h1
      simp only [List.nil_append] at h1
      rw [h1]
      simp only [List.drop_succ_cons, List.drop_zero]
      refine freed_of_rd r' fun i x y hx hy => h (i + 1) x y ?_ ?_
      · simpa using hx
      · simpa using hy
  · rename_i hh
    refine freed_of_rd _ fun i x y hx hy => ?_
    cases i with
    | zero =>
      have ex : a = x := by simpa using hx
      subst ex
      cases r with
      | nil => simp at hy
      | cons b r' =>
        have ey : b = y := by simpa using hy
        subst ey
        intro z
        exact hh (by simp [z])
    | succ i => exact h i x y (by simpa using hx) (by simpa using hy)
theorem last_snoc {r : List Int} {b : Int} (h : r.getLast? = some b) : r.dropLast ++ [b] = r := snoc_of_last h
theorem rd_sub {u m v : List Int} (h : Rd (u ++ m ++ v)) : Rd m := fun i x y hx hy => by
  refine h (u.length + i) x y ?_ ?_
  · rw [List.append_assoc, List.getElem?_append_right (by omega)]
    have e : u.length + i - u.length = i := by omega
    rw [e, List.getElem?_append_left (List.getElem?_eq_some_iff.mp hx).1]
    exact hx
  · rw [List.append_assoc, List.getElem?_append_right (by omega)]
    have e : u.length + i + 1 - u.length = i + 1 := by omega
    rw [e, List.getElem?_append_left (List.getElem?_eq_some_iff.mp hy).1]
    exact hy
theorem rd_two {u v : List Int} {x y : Int} (h : Rd (u ++ [x, y] ++ v)) : y ≠ mate x := rd_sub h 0 x y rfl rfl
theorem core_step (a : Int) (w : List Int) : Turn (core (a :: w)) (core (w ++ [a])) := by
  have e1 : freed (a :: w) = freed (a :: freed w) := by
    have h := freed_app [a] w
    have h2 := freed_app [a] (freed w)
    rw [freed_freed] at h2
    exact h.trans h2.symm
  have hr : Rd (freed w) := rd_freed w
  unfold core
  rw [freed_snoc, e1, freed_head hr]
  generalize freed w = r at hr
  unfold push
  by_cases hd : r.head? = some (mate a) <;> by_cases tl : r.getLast? = some (mate a)
  · rw [if_pos hd, if_pos tl]
    cases r with
    | nil => exact Turn.refl _
    | cons b r1 =>
      have hb : b = mate a := by simpa using hd
      subst hb
      rw [List.drop_succ_cons, List.drop_zero]
      by_cases h1 : r1 = []
      · subst h1
        exact Turn.refl _
      · have t1 : r1.getLast? = some (mate a) := by
          rw [List.getLast?_cons] at tl
          cases h2 : r1.getLast? with
          | none => exact absurd (List.getLast?_eq_none_iff.mp h2) h1
          | some z =>
            rw [h2] at tl
            exact tl
        have e := last_snoc t1
        generalize r1.dropLast = m at e
        subst e
        have e2 : (mate a :: (m ++ [mate a])).dropLast = mate a :: m := by
          rw [← List.cons_append, List.dropLast_concat]
        rw [e2]
        by_cases h2 : m = []
        · subst h2
          exact Turn.refl _
        · have n1 : (m ++ [mate a]).head? ≠ (m ++ [mate a]).getLast?.map mate := by
            rw [List.getLast?_append]
            cases m with
            | nil => exact absurd rfl h2
            | cons x m' =>
              have := rd_two (u := []) (v := m' ++ [mate a]) (x := mate a) (y := x) (by simpa using hr)
              simp [mate_mate] at this ⊢
              exact this
          have n2 : (mate a :: m).head? ≠ (mate a :: m).getLast?.map mate := by
            cases h3 : m.getLast? with
            | none => exact absurd (List.getLast?_eq_none_iff.mp h3) h2
            | some z =>
              rw [List.getLast?_cons, h3]
              have e3 := last_snoc h3
              have := rd_two (u := mate a :: m.dropLast) (v := []) (x := z) (y := mate a) (by
                have e4 : mate a :: m.dropLast ++ [z, mate a] ++ [] = mate a :: (m ++ [mate a]) := by
                  rw [← e3]
                  simp
                rw [e4]
                exact hr)
              simp only [List.head?_cons, Option.getD_some, Option.map_some]
              exact fun z' => this (Option.some.inj z')
          rw [strip_no n1, strip_no n2]
          exact ⟨m, [mate a], rfl, rfl⟩
  · rw [if_pos hd, if_neg tl]
    cases r with
    | nil => simp at hd
    | cons b r1 =>
      have hb : b = mate a := by simpa using hd
      subst hb
      rw [List.drop_succ_cons, List.drop_zero, List.cons_append, strip_yes]
      exact Turn.refl _
  · rw [if_neg hd, if_pos tl]
    have e := last_snoc tl
    generalize r.dropLast = m at e
    subst e
    have h := strip_yes (a := mate a) (m := m)
    rw [mate_mate] at h
    rw [h]
    exact Turn.refl _
  · rw [if_neg hd, if_neg tl]
    cases r with
    | nil => exact Turn.refl _
    | cons b r1 =>
      have n1 : (a :: b :: r1).head? ≠ (a :: b :: r1).getLast?.map mate := by
        rw [List.getLast?_cons]
        cases h3 : (b :: r1).getLast? with
        | none => exact absurd (List.getLast?_eq_none_iff.mp h3) (by simp)
        | some z =>
          rw [h3] at tl
          simp only [List.head?_cons, Option.getD_some, Option.map_some]
          exact fun q => tl (by rw [Option.some.inj q, mate_mate])
      have n2 : (b :: r1 ++ [a]).head? ≠ (b :: r1 ++ [a]).getLast?.map mate := by
        rw [List.getLast?_append]
        simp at hd ⊢
        exact hd
      rw [strip_no n1, strip_no n2]
      exact ⟨[a], b :: r1, rfl, rfl⟩
theorem core_turn : ∀ u w : List Int, Turn (core (u ++ w)) (core (w ++ u))
  | [], w => by
    rw [List.append_nil]
    exact Turn.refl _
  | a :: u, w => by
    have h1 := core_step a (u ++ w)
    have h2 := core_turn u (w ++ [a])
    have e1 : (u ++ w) ++ [a] = u ++ (w ++ [a]) := by simp
    have e2 : (w ++ [a]) ++ u = w ++ (a :: u) := by simp
    rw [e1] at h1
    rw [e2] at h2
    exact h1.trans h2
theorem undo_undo (u : List Int) : undo (undo u) = u := by
  unfold undo
  rw [← List.map_reverse, List.reverse_reverse, List.map_map]
  have : mate ∘ mate = id := by
    funext x
    exact mate_mate x
  rw [this, List.map_id]
theorem core_freed {a b : List Int} (h : freed a = freed b) : core a = core b := by
  unfold core
  rw [h]
theorem core_conj (u w : List Int) : Turn (core (u ++ w ++ undo u)) (core w) := by
  have h := core_turn u (w ++ undo u)
  rw [← List.append_assoc] at h
  refine h.trans ?_
  have e : freed (w ++ undo u ++ u) = freed w := by
    rw [List.append_assoc, freed_app]
    have h2 := freed_undo (undo u)
    rw [undo_undo] at h2
    rw [h2, List.append_nil, freed_freed]
  rw [core_freed e]
  exact Turn.refl _
theorem core_pair (u v : List Int) (b : Int) : core (u ++ b :: mate b :: v) = core (u ++ v) := by
  refine core_freed ?_
  have h := freed_cut u v (mate b)
  rw [mate_mate] at h
  exact h
def mid (w : List Int) (c : Nat) : List Int := (w.drop c).take (w.length - 2 * c)
theorem mid_zero (w : List Int) : mid w 0 = w := by
  unfold mid
  rw [List.drop_zero, Nat.mul_zero, Nat.sub_zero, List.take_length]
theorem mid_step {w : List Int} {c : Nat} {a b : Int} (h : 2 * c + 2 ≤ w.length) (ha : w[c]? = some a) (hb : w[w.length - 1 - c]? = some b) : mid w c = a :: (mid w (c + 1) ++ [b]) := by
  unfold mid
  have e1 : w.drop c = a :: w.drop (c + 1) := by
    have hc : c < w.length := by omega
    rw [List.drop_eq_getElem_cons hc]
    rw [List.getElem?_eq_getElem hc] at ha
    rw [Option.some.inj ha]
  have e2 : w.length - 2 * c = (w.length - 2 * (c + 1) + 1) + 1 := by omega
  rw [e1, e2, List.take_succ_cons, List.take_add_one]
  have e3 : (w.drop (c + 1))[w.length - 2 * (c + 1)]? = some b := by
    rw [List.getElem?_drop]
    have : c + 1 + (w.length - 2 * (c + 1)) = w.length - 1 - c := by omega
    rw [this]
    exact hb
  rw [e3]
  rfl
theorem mid_yes {w : List Int} {c : Nat} {a b : Int} (h : 2 * c + 2 ≤ w.length) (ha : w[c]? = some a) (hb : w[w.length - 1 - c]? = some b) (e : a = mate b) : strip (mid w c) = strip (mid w (c + 1)) := by
  rw [mid_step h ha hb, e, strip_yes]
theorem mid_no {w : List Int} {c : Nat} {a b : Int} (h : 2 * c + 2 ≤ w.length) (ha : w[c]? = some a) (hb : w[w.length - 1 - c]? = some b) (e : a ≠ mate b) : strip (mid w c) = mid w c := by
  refine strip_no ?_
  rw [mid_step h ha hb]
  have : (a :: (mid w (c + 1) ++ [b])).getLast? = some b := by simp [List.getLast?_cons]
  rw [this]
  simpa using e
theorem mid_short {w : List Int} {c : Nat} (h : w.length < 2 * c + 2) : strip (mid w c) = mid w c := by
  refine strip_short ?_
  unfold mid
  rw [List.length_take, List.length_drop]
  omega
theorem mid_mem {w : List Int} {c : Nat} {x : Int} (h : x ∈ mid w c) : x ∈ w := List.mem_of_mem_drop (List.mem_of_mem_take h)
theorem mid_len (w : List Int) (c : Nat) : (mid w c).length ≤ w.length := by
  unfold mid
  rw [List.length_take, List.length_drop]
  omega
end Wd
set_option maxRecDepth 100000
set_option maxHeartbeats 4000000
namespace Tt
open PySem L2
section
variable {P : Program} {w : World} {K : PySem.W.Frag} {mg : Str → Option Value} {base : Heap}
def turnAt (ns : List Int) (i : Nat) : List Int := ns.drop i ++ ns.take i
def turns (ns : List Int) : List (List Int) := (List.range ns.length).map (turnAt ns)
def minR (r0 : List Int) (rs : List (List Int)) : List Int := rs.foldl (fun a y => if PySem.W.dataLt (rowD y) (rowD a) then y else a) r0
theorem minR_D : ∀ (rs : List (List Int)) (r0 : List Int), PySem.W.minD (rowD r0) (rs.map rowD) = rowD (minR r0 rs)
  | [], _ => rfl
  | y :: rs, r0 => by
    show PySem.W.minD (if PySem.W.dataLt (rowD y) (rowD r0) then rowD y else rowD r0) (rs.map rowD) = rowD (minR (if PySem.W.dataLt (rowD y) (rowD r0) then y else r0) rs)
    by_cases h : PySem.W.dataLt (rowD y) (rowD r0) = true
    · rw [if_pos h, if_pos h]
      exact minR_D rs y
    · rw [if_neg h, if_neg h]
      exact minR_D rs r0
def leastT (ns : List Int) : List Int := match turns ns with
  | [] => []
  | r0 :: rs => minR r0 rs
theorem turns_len (ns : List Int) : (turns ns).length = ns.length := by unfold turns; rw [List.length_map, List.length_range]
theorem turns_get {ns : List Int} {i : Nat} (h : i < ns.length) : (turns ns)[i]? = some (turnAt ns i) := by
  unfold turns
  rw [List.getElem?_map, List.getElem?_range h]
  rfl
theorem pair_snoc {α β : Type} {F : α → β → Prop} : ∀ {l : List α} {k : List β} {a : α} {b : β}, Paired F l k → F a b → Paired F (l ++ [a]) (k ++ [b])
  | _, _, _, _, .nil, r => .cons r .nil
  | _, _, _, _, .cons r t, q => .cons r (pair_snoc t q)
theorem pair_mono {α β : Type} {F G : α → β → Prop} (f : ∀ a b, F a b → G a b) : ∀ {l : List α} {k : List β}, Paired F l k → Paired G l k
  | _, _, .nil => .nil
  | _, _, .cons r t => .cons (f _ _ r) (pair_mono f t)
theorem sqT_put {H : Hp} {p l : Addr} {xs ys : List V} {o : HO} (h : SqT K H p xs) (e : H l = some (.lst ys)) : SqT K (upd H l o) p xs := by
  rcases h with (h | ⟨ob, h⟩) | h
  · exact .inl (.inl (by rw [upd_ne (ne_of h e (fun z => nomatch z))]; exact h))
  · exact .inl (.inr ⟨ob, by rw [upd_ne (ne_of h e (fun z => nomatch z))]; exact h⟩)
  · exact .inr h
def spLeast (K : PySem.W.Frag) : Sp := fun vs H Q _ => ∃ (p : Addr) (ns : List Int), vs = [.ref p] ∧ SqT K H p (ns.map V.int) ∧ ns ≠ [] ∧ ns.length ≤ 400 ∧
  ∀ q H', Same H H' → SqT K H' q ((leastT ns).map V.int) → (H p = some (.tup (ns.map V.int)) → H' q = some (.tup ((leastT ns).map V.int))) → Q (.ref q) H'
end
end Tt
set_option maxRecDepth 100000
set_option maxHeartbeats 4000000
namespace Tt
open PySem L2
theorem row_lt (a b : List Int) : PySem.W.dataLt (rowD a) (rowD b) = decide (a < b) := by
  unfold rowD
  rw [PySem.W.dataLt_tuple]
  exact PySem.W.dataLt_ints a b
theorem minR_mem : ∀ (rs : List (List Int)) (r0 : List Int), minR r0 rs ∈ r0 :: rs
  | [], _ => List.mem_singleton.mpr rfl
  | y :: rs, r0 => by
    have h := minR_mem rs (if PySem.W.dataLt (rowD y) (rowD r0) then y else r0)
    show minR (if PySem.W.dataLt (rowD y) (rowD r0) then y else r0) rs ∈ _
    rcases List.mem_cons.mp h with h | h
    · rw [h]
      split
      · exact List.mem_cons_of_mem _ List.mem_cons_self
      · exact List.mem_cons_self
    · exact List.mem_cons_of_mem _ (List.mem_cons_of_mem _ h)
theorem minR_le : ∀ (rs : List (List Int)) (r0 y : List Int), y ∈ r0 :: rs → ¬ y < minR r0 rs
  | [], r0, y, h => by
    rw [List.mem_singleton.mp h]
    exact List.lt_irrefl _
  | z :: rs, r0, y, h => by
    show ¬ y < minR (if PySem.W.dataLt (rowD z) (rowD r0) then z else r0) rs
    have ih := minR_le rs (if PySem.W.dataLt (rowD z) (rowD r0) then z else r0)
    rw [row_lt] at ih ⊢
    by_cases c : z < r0
    · simp only [c, decide_true, if_true] at ih ⊢
      rcases List.mem_cons.mp h with rfl | h
      · exact fun q => ih z List.mem_cons_self (List.lt_trans c q)
      · rcases List.mem_cons.mp h with rfl | h
        · exact ih _ List.mem_cons_self
        · exact ih _ (List.mem_cons_of_mem _ h)
    · simp only [c, decide_false] at ih ⊢
      rcases List.mem_cons.mp h with rfl | h
      · exact ih _ List.mem_cons_self
      · rcases List.mem_cons.mp h with rfl | h
        · intro q
          have h1 := ih r0 List.mem_cons_self
          exact h1 (by
            rcases Classical.em (r0 < y) with k | k
            · exact List.lt_trans k q
            · have : r0 = y := List.le_antisymm (as := r0) (bs := y) (by simpa using c) (by simpa using k)
              subst this
              exact q)
        · exact ih _ (List.mem_cons_of_mem _ h)
theorem turnAt_turn {ns : List Int} (i : Nat) : Wd.Turn ns (turnAt ns i) := ⟨ns.take i, ns.drop i, (List.take_append_drop i ns).symm, rfl⟩
theorem mem_turns {ns t : List Int} (hne : ns ≠ []) : t ∈ turns ns ↔ Wd.Turn ns t := by
  constructor
  · intro h
    unfold turns at h
    obtain ⟨i, _, rfl⟩ := List.mem_map.mp h
    exact turnAt_turn i
  · rintro ⟨u, v, rfl, rfl⟩
    unfold turns
    by_cases hv : v = []
    · subst hv
      refine List.mem_map.mpr ⟨0, List.mem_range.mpr ?_, ?_⟩
      · exact List.length_pos_iff.mpr hne
      · unfold turnAt
        simp
    · refine List.mem_map.mpr ⟨u.length, List.mem_range.mpr ?_, ?_⟩
      · rw [List.length_append]
        have := List.length_pos_iff.mpr hv
        omega
      · unfold turnAt
        simp
theorem leastT_facts {ns : List Int} (hne : ns ≠ []) : leastT ns ∈ turns ns ∧ ∀ t ∈ turns ns, ¬ t < leastT ns := by
  unfold leastT
  cases ht : turns ns with
  | nil =>
    have := turns_len ns
    rw [ht] at this
    exact absurd (List.length_eq_zero_iff.mp this.symm) hne
  | cons r0 rs => exact ⟨minR_mem rs r0, fun t h => minR_le rs r0 t h⟩
theorem leastT_turn {ns : List Int} (hne : ns ≠ []) : Wd.Turn ns (leastT ns) := (mem_turns hne).mp (leastT_facts hne).1
theorem turn_nil {a b : List Int} (h : Wd.Turn a b) : a = [] ↔ b = [] := by
  obtain ⟨u, v, rfl, rfl⟩ := h
  simp [and_comm]
theorem leastT_eq {a b : List Int} (h : Wd.Turn a b) : leastT a = leastT b := by
  by_cases ha : a = []
  · have hb := (turn_nil h).mp ha
    rw [ha, hb]
  · have hb : b ≠ [] := fun z => ha ((turn_nil h).mpr z)
    obtain ⟨a1, a2⟩ := leastT_facts ha
    obtain ⟨b1, b2⟩ := leastT_facts hb
    have m1 : leastT b ∈ turns a := (mem_turns ha).mpr (h.trans ((mem_turns hb).mp b1))
    have m2 : leastT a ∈ turns b := (mem_turns hb).mpr (h.symm.trans ((mem_turns ha).mp a1))
    have l1 := a2 _ m1
    have l2 := b2 _ m2
    exact List.le_antisymm (as := leastT a) (bs := leastT b) (by simpa using l1) (by simpa using l2)
theorem turn_of_leastT {a b : List Int} (h : leastT a = leastT b) : Wd.Turn a b := by
  by_cases ha : a = [] <;> by_cases hb : b = []
  · rw [ha, hb]
    exact Wd.Turn.refl _
  · have h2 := (turn_nil (leastT_turn hb))
    rw [← h, ha] at h2
    exact absurd (h2.mpr rfl) hb
  · have h2 := (turn_nil (leastT_turn ha))
    rw [h, hb] at h2
    exact absurd (h2.mpr rfl) ha
  · have h1 := leastT_turn ha
    rw [h] at h1
    exact h1.trans (leastT_turn hb).symm
def closedT (ns : List Int) : List Int := leastT (Wd.core ns)
theorem leastT_nil : leastT [] = [] := rfl
theorem closedT_freed {a b : List Int} (h : Wd.Turn (Wd.core a) (Wd.core b)) : closedT a = closedT b := leastT_eq h
end Tt
set_option maxRecDepth 100000
set_option maxHeartbeats 4000000
namespace Tt
open PySem L2
theorem turnAt_lenL (ns : List Int) (i : Nat) : (turnAt ns i).length = ns.length := by
  unfold turnAt
  rw [List.length_append, List.length_drop, List.length_take]
  omega
theorem turnAt_mem {ns : List Int} {i : Nat} (h : i < ns.length) : turnAt ns i ∈ turns ns := List.mem_map.mpr ⟨i, List.mem_range.mpr h, rfl⟩
theorem turnAt_add {ns : List Int} {i t : Nat} (h : i + t ≤ ns.length) : turnAt (turnAt ns i) t = turnAt ns (i + t) := by
  unfold turnAt
  have e1 : (ns.drop i ++ ns.take i).drop t = ns.drop (i + t) ++ ns.take i := by
    rw [List.drop_append_of_le_length (by rw [List.length_drop]; omega), List.drop_drop]
  have e2 : (ns.drop i ++ ns.take i).take t = (ns.drop i).take t := List.take_append_of_le_length (by rw [List.length_drop]; omega)
  rw [e1, e2, List.append_assoc, ← List.take_add]
theorem turnAt_wrap {ns : List Int} {i t : Nat} (hi : i ≤ ns.length) (ht : t ≤ ns.length) (h : ns.length ≤ i + t) : turnAt (turnAt ns i) t = turnAt ns (i + t - ns.length) := by
  unfold turnAt
  have l1 : (ns.drop i).length = ns.length - i := List.length_drop
  have e1 : (ns.drop i ++ ns.take i).drop t = (ns.take i).drop (i + t - ns.length) := by
    rw [List.drop_append, List.drop_eq_nil_of_le (by omega), List.nil_append, l1]
    congr 1
    omega
  have e2 : (ns.drop i ++ ns.take i).take t = ns.drop i ++ (ns.take i).take (i + t - ns.length) := by
    rw [List.take_append, List.take_of_length_le (by omega), l1]
    congr 2
    omega
  have e3 : (ns.take i).take (i + t - ns.length) = ns.take (i + t - ns.length) := by
    rw [List.take_take]
    congr 1
    omega
  have e4 : (ns.take i).drop (i + t - ns.length) ++ ns.drop i = ns.drop (i + t - ns.length) := by
    have h2 : ns.drop (i + t - ns.length) = (ns.take i ++ ns.drop i).drop (i + t - ns.length) := by rw [List.take_append_drop]
    rw [h2, List.drop_append_of_le_length (by rw [List.length_take]; omega)]
  rw [e1, e2, e3, ← List.append_assoc, e4]
theorem turnAt_turn_mem {ns : List Int} {i t : Nat} (hi : i < ns.length) (ht : t < ns.length) : turnAt (turnAt ns i) t ∈ turns ns := by
  by_cases h : i + t < ns.length
  · rw [turnAt_add (by omega)]
    exact turnAt_mem h
  · rw [turnAt_wrap (by omega) (by omega) (by omega)]
    exact turnAt_mem (by omega)
theorem turnAt_get {ns : List Int} {i k : Nat} (hi : i < ns.length) (hk : k < ns.length) : (turnAt ns i)[k]? = ns[(i + k) % ns.length]? := by
  unfold turnAt
  by_cases h : i + k < ns.length
  · rw [List.getElem?_append_left (by rw [List.length_drop]; omega), List.getElem?_drop, Nat.mod_eq_of_lt h]
  · rw [List.getElem?_append_right (by rw [List.length_drop]; omega), List.length_drop, List.getElem?_take, if_pos (by omega)]
    have e : (i + k) % ns.length = i + k - ns.length := by
      rw [Nat.mod_eq_sub_mod (by omega), Nat.mod_eq_of_lt (by omega)]
    rw [e]
    congr 1
    omega
theorem lt_ahead {x y : Int} (h : y < x) : ∀ (p a b : List Int), p ++ y :: b < p ++ x :: a
  | [], _, _ => List.cons_lt_cons_iff.mpr (.inl h)
  | c :: p, a, b => List.cons_lt_cons_iff.mpr (.inr ⟨rfl, lt_ahead h p a b⟩)
theorem cut_at {A : List Int} {k : Nat} {x : Int} (h : A[k]? = some x) : A = A.take k ++ x :: A.drop (k + 1) := by
  obtain ⟨hk, e⟩ := List.getElem?_eq_some_iff.mp h
  rw [← e, ← List.drop_eq_getElem_cons hk, List.take_append_drop]
theorem turn_lt {A B : List Int} {k t : Nat} {x y : Int} (ht : t ≤ k) (hp : A.take k = B.take k) (hx : A[k]? = some x) (hy : B[k]? = some y) (h : y < x) : turnAt B t < turnAt A t := by
  have ka := (List.getElem?_eq_some_iff.mp hx).1
  have kb := (List.getElem?_eq_some_iff.mp hy).1
  have eA := cut_at hx
  have eB := cut_at hy
  rw [← hp] at eB
  have lp : (A.take k).length = k := by rw [List.length_take]; omega
  generalize A.take k = p at eA eB lp
  generalize A.drop (k + 1) = a at eA
  generalize B.drop (k + 1) = b at eB
  subst eA
  subst eB
  unfold turnAt
  rw [List.drop_append_of_le_length (by omega), List.drop_append_of_le_length (by omega), List.take_append_of_le_length (by omega), List.take_append_of_le_length (by omega), List.append_assoc, List.append_assoc]
  exact lt_ahead h _ _ _
def NoL (ns : List Int) (p : Nat) : Prop := ∃ t ∈ turns ns, t < turnAt ns p
theorem noL_of {ns : List Int} {i j k t : Nat} {x y : Int} (hi : i + t < ns.length) (hj : j < ns.length) (hk : k < ns.length) (ht : t ≤ k) (hp : (turnAt ns i).take k = (turnAt ns j).take k)
    (hx : (turnAt ns i)[k]? = some x) (hy : (turnAt ns j)[k]? = some y) (h : y < x) : NoL ns (i + t) := by
  refine ⟨_, turnAt_turn_mem hj (t := t) (by omega), ?_⟩
  rw [← turnAt_add (by omega)]
  exact turn_lt ht hp hx hy h
def Beaten (ns : List Int) (i j : Nat) : Prop := i ≠ j ∧ ∀ p, p < ns.length → p < max i j → p ≠ min i j → NoL ns p
theorem Beaten.symm {ns : List Int} {i j : Nat} (h : Beaten ns i j) : Beaten ns j i := ⟨fun e => h.1 e.symm, fun p h1 h2 h3 => h.2 p h1 (by omega) (by omega)⟩
theorem Beaten.step {ns : List Int} {i j k : Nat} (h : Beaten ns i j) (n : ∀ t, t ≤ k → i + t < ns.length → NoL ns (i + t)) : (i + k + 1 ≠ j → Beaten ns (i + k + 1) j) ∧ (i + k + 1 = j → Beaten ns j (j + 1)) := by
  have own : ∀ p, p < ns.length → i ≤ p → p ≤ i + k → NoL ns p := fun p h1 h2 h3 => by
    have := n (p - i) (by omega) (by omega)
    have e : i + (p - i) = p := by omega
    rw [e] at this
    exact this
  have hh := h.1
  refine ⟨fun e => ⟨e, fun p h1 h2 h3 => ?_⟩, fun e => ⟨by omega, fun p h1 h2 h3 => ?_⟩⟩
  · by_cases c : i ≤ p ∧ p ≤ i + k
    · exact own p h1 c.1 c.2
    · exact h.2 p h1 (by omega) (by omega)
  · by_cases c : i ≤ p ∧ p ≤ i + k
    · exact own p h1 c.1 c.2
    · exact h.2 p h1 (by omega) (by omega)
theorem least_far {ns L : List Int} {i j : Nat} (b : Beaten ns i j) (hf : ns.length ≤ max i j) (hL : L ∈ turns ns) (hm : ∀ t ∈ turns ns, ¬ t < L) : turnAt ns (min i j) = L ∧ min i j < ns.length := by
  obtain ⟨p, hp, rfl⟩ := List.mem_map.mp hL
  have hp' := List.mem_range.mp hp
  have e : p = min i j := Classical.byContradiction fun z => by
    obtain ⟨t, h1, h2⟩ := b.2 p hp' (by omega) z
    exact hm t h1 h2
  exact ⟨by rw [e], by omega⟩
theorem least_like {ns L : List Int} {i j : Nat} (b : Beaten ns i j) (hi : i < ns.length) (hj : j < ns.length) (ha : turnAt ns i = turnAt ns j) (hL : L ∈ turns ns) (hm : ∀ t ∈ turns ns, ¬ t < L) : turnAt ns (min i j) = L := by
  have hh := b.1
  have main : ∀ p, p < ns.length → turnAt ns p = L → turnAt ns (min i j) = L := fun p => by
    induction p using Nat.strongRecOn with
    | ind p ih =>
      intro h1 h2
      by_cases c : p < max i j
      · have e : p = min i j := Classical.byContradiction fun z => by
          obtain ⟨t, q1, q2⟩ := b.2 p h1 c z
          rw [h2] at q2
          exact hm t q1 q2
        rw [← e]
        exact h2
      · have e1 : turnAt ns (max i j) = turnAt ns (min i j) := by
          by_cases c2 : i < j
          · rw [Nat.max_eq_right (by omega), Nat.min_eq_left (by omega), ha]
          · rw [Nat.max_eq_left (by omega), Nat.min_eq_right (by omega), ha]
        have e2 := turnAt_add (ns := ns) (i := max i j) (t := p - max i j) (by omega)
        have e3 : max i j + (p - max i j) = p := by omega
        rw [e3, e1, turnAt_add (by omega)] at e2
        exact ih (min i j + (p - max i j)) (by omega) (by omega) (e2.trans h2)
  obtain ⟨p, hp, e⟩ := List.mem_map.mp hL
  exact main p (List.mem_range.mp hp) e
theorem take_more {A B : List Int} {k : Nat} {x : Int} (hp : A.take k = B.take k) (hx : A[k]? = some x) (hy : B[k]? = some x) : A.take (k + 1) = B.take (k + 1) := by
  rw [List.take_add_one, List.take_add_one, hp, hx, hy]
theorem leastT_far {ns : List Int} {i j : Nat} (hne : ns ≠ []) (b : Beaten ns i j) (hf : ns.length ≤ max i j) : turnAt ns (min i j) = leastT ns ∧ min i j < ns.length :=
  least_far b hf (leastT_facts hne).1 (leastT_facts hne).2
theorem leastT_like {ns : List Int} {i j : Nat} (hne : ns ≠ []) (b : Beaten ns i j) (hi : i < ns.length) (hj : j < ns.length) (ha : (turnAt ns i).take ns.length = (turnAt ns j).take ns.length) : turnAt ns (min i j) = leastT ns := by
  rw [List.take_of_length_le (by rw [turnAt_lenL]; exact Nat.le_refl _), List.take_of_length_le (by rw [turnAt_lenL]; exact Nat.le_refl _)] at ha
  exact least_like b hi hj ha (leastT_facts hne).1 (leastT_facts hne).2
theorem turn_letter {ns : List Int} {i k : Nat} (hi : i < ns.length) (hk : k < ns.length) : ∃ x, ns[(i + k) % ns.length]? = some x ∧ (turnAt ns i)[k]? = some x := by
  have h : (i + k) % ns.length < ns.length := Nat.mod_lt _ (by omega)
  refine ⟨_, List.getElem?_eq_getElem h, ?_⟩
  rw [turnAt_get hi hk]
  exact List.getElem?_eq_getElem h
theorem beaten_zero (ns : List Int) : Beaten ns 0 1 := ⟨by omega, fun p _ h2 h3 => absurd h2 (by omega)⟩
end Tt
set_option maxRecDepth 100000
set_option maxHeartbeats 4000000
namespace Tt
open PySem L2
section
variable {P : Program} {w : World} {K : PySem.W.Frag} {mg : Str → Option Value} {base : Heap}
theorem slT_toB {xs : List V} {a : Addr} {H : Hp} {Q : VK} {n : Nat} (h : SqT K H a xs) (q : ∀ b H', Same H H' → SqT K H' b (xs.take n) → (H a = some (.tup xs) → H' b = some (.tup (xs.take n))) → Q (.ref b) H') : rSlA K (.ref a) none (some (n : Int)) H Q := by
  by_cases hn : n < xs.length
  · exact slT_to hn h fun p hp => q p _ (same_new hp) (SqT.of upd_same) fun _ => upd_same
  · have e : xs.take n = xs := List.take_of_length_le (by omega)
    rw [e] at q
    exact ⟨a, xs, rfl, h, fun _ => q a H (fun _ _ z => z) h (fun z => z), fun z => absurd ⟨rfl, by rw [HT.sIx_nat]; omega⟩ z⟩
theorem slT_fromB {xs : List V} {a : Addr} {H : Hp} {Q : VK} {n : Nat} (h : SqT K H a xs) (q : ∀ b H', Same H H' → SqT K H' b (xs.drop n) → (H a = some (.tup xs) → H' b = some (.tup (xs.drop n))) → Q (.ref b) H') : rSlA K (.ref a) (some (n : Int)) none H Q := by
  by_cases hx : 0 < xs.length
  · refine slT_from hx h (fun z => ?_) fun _ p hp => q p _ (same_new hp) (SqT.of upd_same) fun _ => upd_same
    subst z
    rw [List.drop_zero] at q
    exact q a H (fun _ _ z => z) h fun z => z
  · have e : xs = [] := List.length_eq_zero_iff.mp (by omega)
    subst e
    rw [List.drop_nil] at q
    exact ⟨a, [], rfl, h, fun _ => q a H (fun _ _ z => z) h (fun z => z), fun z => absurd ⟨by rw [HT.sIx_nat]; simp, rfl⟩ z⟩
theorem catA_B {xs ys : List V} {a b : Addr} {H : Hp} {Q : VK} (ha : SqT K H a xs) (hb : SqT K H b ys) (hz : xs.length + ys.length ≤ sizeLine) (q : ∀ c H', Same H H' → SqT K H' c (xs ++ ys) → (H a = some (.tup xs) → H b = some (.tup ys) → H' c = some (.tup (xs ++ ys))) → Q (.ref c) H') : rCatA K (.ref a) (.ref b) H Q := by
  refine ⟨a, b, xs, ys, rfl, rfl, ha, hb, hz, fun z => ?_, fun _ z => ?_, fun _ _ p hp => q p _ (same_new hp) (SqT.of upd_same) fun _ _ => upd_same⟩
  · subst z
    exact q b H (fun _ _ z => z) hb fun _ z => z
  · subst z
    rw [List.append_nil] at q
    exact q a H (fun _ _ z => z) ha fun z _ => z
theorem while_by3 {c : TT} {tb : TS} {D : Ends} {σ : L2.St} {H : Hp} (Pv : L2.St → Hp → Prop) (μ : L2.St → Hp → Nat) (h0 : Pv σ H)
    (hs : ∀ σ H, Pv σ H → c σ H fun b H1 => if b = true then ∃ N : L2.St → Hp → Prop, (∀ σ' H', N σ' H' → ∃ m', m' < μ σ H ∧ (m' = μ σ' H' ∧ Pv σ' H')) ∧ tb { D with nx := N, ct := N, bk := D.nx } σ H1 else D.nx σ H1) : tWhile c tb D σ H := by
  refine ⟨fun m σ H => m = μ σ H ∧ Pv σ H, ⟨_, rfl, h0⟩, ?_⟩
  rintro m σ H ⟨rfl, p⟩
  exact hs σ H p
theorem let_one {J C G : Prop} (main : (J → C) → G) (rest : J → C) : G := main rest
def readTo (n : Nat) : L2.St → Hp → Nat := fun σ _ => match σ[2]?, σ[3]?, σ[4]? with
  | some (some (V.int i)), some (some (V.int j)), some (some (V.int k)) => 3 * n - (i.toNat + j.toNat + k.toNat)
  | _, _, _ => 0
theorem ok_least_turn (T : Txt K mg) : FnOk P w K mg base CX0 2 T.least_turn.a T.least_turn.fd ["word"] (spLeast K) := by
  refine T.least_turn.F.ok sc_least_turn (fun vs H Q E h => ?_) (fun cdv A outer s H vs Q E hr h => ?_)
  · obtain ⟨p, ns, rfl, _⟩ := h
    rfl
  · obtain ⟨p, ns, rfl, hp, hne, hl, k⟩ := h
    have nd := sc_least_turn.nd
    refine ⟨_, (pss_cons (ps_set (i := 1) nd rfl (Or.inl rfl) (pe_callB call_len_seq (by rfl) T.zlen (by decide +kernel) (pa_cons (pv 0) pa_nil)))
    (pss_cons (ps_asg (pe_tup (pa_cons pe_int (pa_cons pe_int (pa_cons pe_int pa_nil)))) (pg_tup rfl (pgs_cons (pg_name (i := 2) nd rfl (Or.inl rfl)) (pgs_cons (pg_name (i := 3) nd rfl (Or.inl rfl)) (pgs_cons (pg_name (i := 4) nd rfl (Or.inl rfl)) pgs_nil)))))
    (pss_cons (ps_while PassesOwn.never (PW.pt (pw_and (pt_cmpR op_lt (pv 2) (pv 1) (nomark _)) (pw_and (pt_cmpR op_lt (pv 3) (pv 1) (nomark _)) (pw_and1 (pt_cmpR op_lt (pv 4) (pv 1) (nomark _))))))
      (pss_cons (ps_par (i := 5) (j := 6) rfl nd rfl rfl (by decide) rfl rfl (pa_cons (pe_ix ix_tup (pv 0) (pe_op op_mod (pe_op op_add (pv 2) (pv 4)) (pv 1)) (fun _ _ => rfl)) (pa_cons (pe_ix ix_tup (pv 0) (pe_op op_mod (pe_op op_add (pv 3) (pv 4)) (pv 1)) (fun _ _ => rfl)) pa_nil)) rfl)
      (pss_cons (ps_if (pt_cmpR op_eq (pv 5) (pv 6) (nomark _))
        (pss_cons (ps_aug (i := 4) nd rfl (Or.inl rfl) pe_int ip_add)
        (pss_one ps_continue))
        pss_nil)
      (pss_cons (ps_if (pt_cmpR op_gt (pv 5) (pv 6) (nomark _))
        (pss_one (ps_aug (i := 2) nd rfl (Or.inl rfl) (pe_op op_add (pv 4) pe_int) ip_add))
        (pss_one (ps_aug (i := 3) nd rfl (Or.inl rfl) (pe_op op_add (pv 4) pe_int) ip_add)))
      (pss_cons (ps_if (pt_cmpR op_eq (pv 2) (pv 3) (nomark _))
        (pss_one (ps_aug (i := 3) nd rfl (Or.inl rfl) pe_int ip_add))
        pss_nil)
      (pss_one (ps_set (i := 4) nd rfl (Or.inl rfl) pe_int)))))))
    (pss_cons (ps_set (i := 7) nd rfl (Or.inl rfl) (pe_callB (call_min2 rfl) (by rfl) T.zmin (by decide +kernel) (pa_cons (pv 2) (pa_cons (pv 3) pa_nil))))
    (pss_one (ps_ret (pe_op op_catA (pe_slice sl_tupA (pv 0) (po_some (pv 7)) po_none) (pe_slice sl_tupA (pv 0) po_none (po_some (pv 7)))))))))), ?_⟩
    have lm : (ns.map V.int).length = ns.length := List.length_map ..
    have l0 := List.length_pos_iff.mpr hne
    refine ⟨_, rfl, p, _, rfl, .inr hp, ?_⟩
    rw [lm]
    refine ⟨(by show 3 ≤ sizeLine; decide), fun a3 ha3 => ⟨a3, _, rfl, SqT.of upd_same, rfl, _, _, rfl, _, _, rfl, _, _, rfl, rfl, ?_⟩⟩
    have s0 : Same H (upd H a3 (.tup [.int 0, .int 1, .int 0])) := same_new ha3
    have hp0 := same_seqT s0 hp
    generalize upd H a3 (.tup [.int 0, .int 1, .int 0]) = H0 at s0 hp0
    refine while_by3 (fun σ H' => H' = H0 ∧ ∃ (i j c : Nat) (f g : Option V), σ = [some (.ref p), some (.int (ns.length : Int)), some (.int (i : Int)), some (.int (j : Int)), some (.int (c : Int)), f, g, none] ∧ Beaten ns i j ∧ c ≤ ns.length ∧ (0 < c → i < ns.length ∧ j < ns.length) ∧ (turnAt ns i).take c = (turnAt ns j).take c) (readTo ns.length)
      ⟨rfl, 0, 1, 0, none, none, rfl, beaten_zero ns, Nat.zero_le _, (fun z => absurd z (by omega)), rfl⟩ ?_
    rintro σ H' ⟨rfl, i, j, c, f, g, rfl, bt, hc, hij, ht⟩
    apply let_one (J := turnAt ns (min i j) = leastT ns ∧ min i j < ns.length)
    · intro out
      refine ⟨_, rfl, _, rfl, _, _, rfl, rfl, _, rfl, ite2 (fun c1 => ?_) (fun c1 => ?_)⟩
      · refine ⟨_, rfl, _, rfl, _, _, rfl, rfl, _, rfl, ite2 (fun c2 => ?_) (fun c2 => ?_)⟩
        · refine ⟨_, rfl, _, rfl, _, _, rfl, rfl, _, rfl, ite2 (fun c3 => ?_) (fun c3 => ?_)⟩
          · have g1 : i < ns.length := by simpa using c1
            have g2 : j < ns.length := by simpa using c2
            have g3 : c < ns.length := by simpa using c3
            obtain ⟨x, x1, x2⟩ := turn_letter g1 g3
            obtain ⟨y, y1, y2⟩ := turn_letter g2 g3
            have a1 : atI (ns.map V.int) (((i : Int) + (c : Int)) % (ns.length : Int)) = some (V.int x) := atI_nat (j := (i + c) % ns.length) (ints_get x1)
            have a2 : atI (ns.map V.int) (((j : Int) + (c : Int)) % (ns.length : Int)) = some (V.int y) := atI_nat (j := (j + c) % ns.length) (ints_get y1)
            refine ⟨fun σ' H'' => readTo ns.length σ' H'' < _ ∧ H'' = H' ∧ _, fun σ' H'' h => ⟨_, h.1, rfl, h.2⟩, ?_⟩
            have lt0 : ∀ (i' j' c' : Nat) (f' g' : Option V), i + j + c < i' + j' + c' → readTo ns.length [some (.ref p), some (.int (ns.length : Int)), some (.int (i' : Int)), some (.int (j' : Int)), some (.int (c' : Int)), f', g', none] H' < readTo ns.length [some (.ref p), some (.int (ns.length : Int)), some (.int (i : Int)), some (.int (j : Int)), some (.int (c : Int)), f, g, none] H' := fun i' j' c' f' g' h => by
              show 3 * ns.length - ((i' : Int).toNat + (j' : Int).toNat + (c' : Int).toNat) < 3 * ns.length - ((i : Int).toNat + (j : Int).toNat + (c : Int).toNat)
              omega
            have fin : ∀ (i' j' : Nat), i + j + c < i' + j' → Beaten ns i' j' → ∀ G : Prop, (readTo ns.length [some (.ref p), some (.int (ns.length : Int)), some (.int (i' : Int)), some (.int (j' : Int)), some (.int 0), some (V.int x), some (V.int y), none] H' < readTo ns.length [some (.ref p), some (.int (ns.length : Int)), some (.int (i : Int)), some (.int (j : Int)), some (.int (c : Int)), f, g, none] H' ∧ H' = H' ∧ (∃ (i c2 c : Nat) (f g : Option V), [some (.ref p), some (.int (ns.length : Int)), some (.int (i' : Int)), some (.int (j' : Int)), some (.int 0), some (V.int x), some (V.int y), none] = [some (.ref p), some (.int (ns.length : Int)), some (.int (i : Int)), some (.int (c2 : Int)), some (.int (c : Int)), f, g, none] ∧ Beaten ns i c2 ∧ c ≤ ns.length ∧ (0 < c → i < ns.length ∧ c2 < ns.length) ∧ (turnAt ns i).take c = (turnAt ns c2).take c) → G) → G := fun i' j' h b G k => k ⟨lt0 i' j' 0 _ _ (by omega), rfl, i', j', 0, _, _, rfl, b, Nat.zero_le _, (fun z => absurd z (by omega)), rfl⟩
            refine ⟨_, rfl, ?_⟩
            refine ⟨_, rfl, _, rfl, _, _, rfl, rfl, _, rfl, _, _, rfl, rfl, by omega, p, _, _, _, rfl, rfl, hp0, a1, ?_⟩
            refine ⟨_, rfl, _, rfl, _, rfl, _, _, rfl, rfl, _, rfl, _, _, rfl, rfl, by omega, p, _, _, _, rfl, rfl, hp0, a2, _, _, rfl, ?_⟩
            refine ⟨_, rfl, _, rfl, rfl, _, rfl, ite2 (fun c4 => ?_) (fun c4 => ?_)⟩
            · have g4 : x = y := by simpa using c4
              subst g4
              refine ⟨_, rfl, _, _, rfl, rfl, lt0 i j (c + 1) _ _ (by omega), rfl, i, j, c + 1, _, _, rfl, bt, g3, fun _ => ⟨g1, g2⟩, take_more ht x2 y2⟩
            · have g4 : ¬ x = y := by simpa using c4
              refine ⟨_, rfl, _, rfl, _, _, rfl, rfl, _, rfl, ite2 (fun c5 => ?_) (fun c5 => ?_)⟩
              · have g5 : y < x := by simpa using c5
                have bs := bt.step (k := c) fun t t1 t2 => noL_of t2 g2 g3 t1 ht x2 y2 g5
                refine ⟨_, rfl, _, rfl, _, _, rfl, rfl, _, _, rfl, rfl, ?_⟩
                refine ⟨_, rfl, _, rfl, rfl, _, rfl, ite2 (fun c6 => ?_) (fun c6 => ?_)⟩
                · have g6 : i + c + 1 = j := by
                    have : (i : Int) + ((c : Int) + 1) = (j : Int) := by simpa using c6
                    omega
                  have b2 := bs.2 g6
                  refine ⟨_, rfl, _, _, rfl, rfl, ?_⟩
                  refine fin (i + (c + 1)) (j + 1) (by omega) ?_ _ fun z => z
                  have e : i + (c + 1) = j := by omega
                  rw [e]
                  exact b2
                · have g6 : i + c + 1 ≠ j := fun z => c6 (by
                    have : (i : Int) + ((c : Int) + 1) = (j : Int) := by omega
                    simp [this])
                  exact fin (i + (c + 1)) j (by omega) (bs.1 g6) _ fun z => z
              · have g5 : x < y := by
                  have : ¬ y < x := by simpa using c5
                  omega
                have bs := bt.symm.step (k := c) fun t t1 t2 => noL_of t2 g1 g3 t1 ht.symm y2 x2 g5
                refine ⟨_, rfl, _, rfl, _, _, rfl, rfl, _, _, rfl, rfl, ?_⟩
                refine ⟨_, rfl, _, rfl, rfl, _, rfl, ite2 (fun c6 => ?_) (fun c6 => ?_)⟩
                · have g6 : j + c + 1 = i := by
                    have : (i : Int) = (j : Int) + ((c : Int) + 1) := by simpa using c6
                    omega
                  have b2 := bs.2 g6
                  refine ⟨_, rfl, _, _, rfl, rfl, ?_⟩
                  refine fin i (j + (c + 1) + 1) (by omega) ?_ _ fun z => z
                  have e : j + (c + 1) = i := by omega
                  rw [e]
                  exact b2
                · have g6 : j + c + 1 ≠ i := fun z => c6 (by
                    have : (i : Int) = (j : Int) + ((c : Int) + 1) := by omega
                    simp [this])
                  exact fin i (j + (c + 1)) (by omega) (bs.1 g6).symm _ fun z => z
          · have g1 : i < ns.length := by simpa using c1
            have g2 : j < ns.length := by simpa using c2
            have g3 : c = ns.length := by
              have : ¬ c < ns.length := by simpa using c3
              omega
            subst g3
            exact out ⟨leastT_like hne bt g1 g2 ht, by omega⟩
        · have g2 : ns.length ≤ j := by simpa using c2
          exact iteF (out (leastT_far hne bt (by omega)))
      · have g1 : ns.length ≤ i := by simpa using c1
        exact iteF (out (leastT_far hne bt (by omega)))
    rintro ⟨e1, e2⟩
    refine ⟨_, rfl, _, rfl, _, _, rfl, ?_⟩
    have em : (if (j : Int) < (i : Int) then (j : Int) else (i : Int)) = ((min i j : Nat) : Int) := by
      split <;> omega
    rw [em]
    have hp3 := hp0
    generalize min i j = m at e1 e2
    refine ⟨_, rfl, _, rfl, (m : Int), rfl, noPart_i ?_⟩
    refine slT_fromB (K := K) hp0 fun b1 H2 s3 hb1 t1 => ?_
    refine ⟨_, rfl, noPart_i ⟨_, rfl, (m : Int), rfl, ?_⟩⟩
    refine slT_toB (K := K) (same_seqT s3 hp0) fun b2 H3 s4 hb2 t2 => ?_
    refine catA_B (K := K) (same_seqT s4 hb1) hb2 ?_ fun q H4 s5 hq t3 => ?_
    · rw [List.length_drop, List.length_take, lm]
      exact Nat.le_of_lt (small1000 (by omega))
    have e : (turnAt ns m).map V.int = (ns.map V.int).drop m ++ (ns.map V.int).take m := by
      unfold turnAt
      rw [List.map_append, List.map_drop, List.map_take]
    refine k q H4 (((s0.trans s3).trans s4).trans s5) ?_ fun z => ?_
    · rw [← e1, e]
      exact hq
    · have z0 := s0 _ _ z
      rw [← e1, e]
      exact t3 (s4 _ _ (t1 z0)) (t2 (s3 _ _ z0))
end
end Tt
set_option maxRecDepth 100000
set_option maxHeartbeats 4000000
namespace Tt
open PySem L2
section
variable {P : Program} {w : World} {K : PySem.W.Frag} {mg : Str → Option Value} {base : Heap}
theorem slT_midT {xs : List V} {a : Addr} {H : Hp} {Q : VK} {c : Nat} (hc : 2 * c ≤ xs.length) (h : H a = some (.tup xs)) (q : ∀ b H', Same H H' → H' b = some (.tup ((xs.drop c).take (xs.length - 2 * c))) → Q (.ref b) H') : rSlA K (.ref a) (some (c : Int)) (some ((xs.length - c : Nat) : Int)) H Q := by
  have e1 : HT.sIx xs.length 0 (some (c : Int)) = c := by rw [HT.sIx_nat]; omega
  have e2 : HT.sIx xs.length xs.length (some ((xs.length - c : Nat) : Int)) = xs.length - c := by rw [HT.sIx_nat]; omega
  refine ⟨a, xs, rfl, SqT.of h, fun z => ?_, fun _ p hp => ?_⟩
  · rw [e1, e2] at z
    have z0 := z.1
    subst z0
    refine q a H (fun _ _ z => z) ?_
    rw [List.drop_zero, Nat.mul_zero, Nat.sub_zero, List.take_length]
    exact h
  · refine q p _ (same_new hp) ?_
    unfold cutV
    rw [e1, e2]
    have : xs.length - c - c = xs.length - 2 * c := by omega
    rw [this]
    exact upd_same
def spClosedL (K : PySem.W.Frag) : Sp := fun vs H Q _ => ∃ (p : Addr) (ns : List Int), vs = [.ref p] ∧ SqT K H p (ns.map V.int) ∧ ns.length ≤ 400 ∧ (∀ x ∈ ns, 0 ≤ x ∧ x < 12) ∧
  ∀ q H', Same H H' → H' q = some (.tup ((Wd.core ns).map V.int)) → (Wd.core ns).length ≤ 400 → Q (.ref q) H'
def spClosed (K : PySem.W.Frag) : Sp := fun vs H Q _ => ∃ (p : Addr) (ns : List Int), vs = [.ref p] ∧ SqT K H p (ns.map V.int) ∧ ns.length ≤ 400 ∧ (∀ x ∈ ns, 0 ≤ x ∧ x < 12) ∧
  ∀ q H', Same H H' → H' q = some (.tup ((closedT ns).map V.int)) → Q (.ref q) H'
theorem ok_closed_letters (T : Txt K mg) : FnOk P w K mg base CX0 3 T.closed_letters.a T.closed_letters.fd ["word"] (spClosedL K) := by
  refine T.closed_letters.F.ok sc_closed_letters (fun vs H Q E h => ?_) (fun cdv A outer s H vs Q E hr h => ?_)
  · obtain ⟨p, ns, rfl, _⟩ := h
    rfl
  · obtain ⟨p, ns, rfl, hp, hl, hb, k⟩ := h
    have nd := sc_closed_letters.nd
    refine ⟨_, (pss_cons (ps_set (i := 1) nd rfl (Or.inl rfl) (pe_call (ok_cut_free T) (hr.mono (by decide)) (by rfl) T.cut_free.g T.cut_free.k T.cut_free.b .nil pass0 (pa_cons (pv 0) pa_nil)))
    (pss_cons (ps_set (i := 2) nd rfl (Or.inl rfl) pe_int)
    (pss_cons (ps_while PassesOwn.never (PW.pt (pw_and (pt_cmpR op_ge (pe_op op_sub (pe_callB call_len_seq (by rfl) T.zlen (by decide +kernel) (pa_cons (pv 1) pa_nil)) (pe_op op_mul pe_int (pv 2))) pe_int (nomark _)) (pw_and1 (pt_cmpR op_eq (pe_ix ix_tup (pv 1) (pv 2) (fun _ _ => rfl)) (pe_op op_xor (pe_ix ix_tup (pv 1) (pe_op op_sub (pe_op op_sub (pe_callB call_len_seq (by rfl) T.zlen (by decide +kernel) (pa_cons (pv 1) pa_nil)) pe_int) (pv 2)) (fun _ _ => rfl)) pe_int) (nomark _)))))
      (pss_one (ps_aug (i := 2) nd rfl (Or.inl rfl) pe_int ip_add)))
    (pss_one (ps_ret (pe_slice sl_tupA (pv 1) (po_some (pv 2)) (po_some (pe_op op_sub (pe_callB call_len_seq (by rfl) T.zlen (by decide +kernel) (pa_cons (pv 1) pa_nil)) (pv 2))))))))), ?_⟩
    refine ⟨_, rfl, p, ns, rfl, hp, by omega, hb, fun f H1 s1 h1 => ?_⟩
    have lf : (Wd.freed ns).length ≤ 400 := Nat.le_trans (Wd.len_freed ns) hl
    have bf : ∀ x ∈ Wd.freed ns, 0 ≤ x ∧ x < 12 := fun x hx => hb x (Wd.mem_freed hx)
    have ec : Wd.strip (Wd.freed ns) = Wd.core ns := rfl
    generalize Wd.freed ns = fs at h1 lf bf ec
    refine while_by (fun σ H' => H' = H1 ∧ ∃ c : Nat, σ = [some (.ref p), some (.ref f), some (.int (c : Int))] ∧ 2 * c ≤ fs.length ∧ Wd.strip (Wd.mid fs c) = Wd.core ns)
      (fun σ _ => match σ[2]? with | some (some (V.int c)) => 1000 - c.toNat | _ => 0) ⟨rfl, 0, rfl, by omega, by rw [Wd.mid_zero]; exact ec⟩ ?_ ?_
    · rintro σ H' ⟨rfl, c, rfl, hc, em⟩
      have lm : (fs.map V.int).length = fs.length := List.length_map ..
      apply let_one (J := Wd.strip (Wd.mid fs c) = Wd.mid fs c)
      · intro out
        refine ⟨_, rfl, f, _, rfl, .inr (SqT.of h1), _, rfl, _, _, rfl, rfl, .inl ⟨by decide, by decide⟩, _, _, rfl, rfl, _, _, rfl, rfl, _, rfl, ?_⟩
        rw [lm]
        refine ite2 (fun g => ?_) (fun g => ?_)
        · have g' : 2 * c + 2 ≤ fs.length := by
            have : (2 : Int) ≤ (fs.length : Int) - 2 * (c : Int) := by simpa using g
            omega
          obtain ⟨a, ha⟩ : ∃ a, fs[c]? = some a := ⟨_, List.getElem?_eq_getElem (by omega)⟩
          obtain ⟨b, hb2⟩ : ∃ b, fs[fs.length - 1 - c]? = some b := ⟨_, List.getElem?_eq_getElem (by omega)⟩
          refine ⟨_, rfl, _, rfl, f, _, _, _, rfl, rfl, SqT.of h1, atI_nat (ints_get ha), ?_⟩
          refine ⟨_, rfl, _, rfl, f, _, rfl, .inr (SqT.of h1), _, _, rfl, rfl, _, rfl, _, _, rfl, rfl, f, _, _, V.int b, rfl, rfl, SqT.of h1, ?_, ?_⟩
          · have e : ((fs.map V.int).length : Int) - 1 - (c : Int) = ((fs.length - 1 - c : Nat) : Int) := by rw [lm]; omega
            rw [e]
            exact atI_nat (ints_get hb2)
          · refine ⟨_, _, rfl, rfl, rfl, _, rfl, ?_⟩
            have bb := bf b (List.mem_of_getElem? hb2)
            have ex : decide (V.int a = V.int (Builtin.bitXor b 1)) = decide (a = Wd.mate b) := by
              rw [xor_mate bb.1 bb.2]
              simp
            refine ite2 (fun z => ?_) (fun z => ?_)
            · have z' : a = Wd.mate b := of_decide_eq_true (ex.symm.trans z)
              refine ⟨_, rfl, _, _, rfl, rfl, ⟨rfl, c + 1, rfl, by omega, ?_⟩, ?_⟩
              · rw [← Wd.mid_yes g' ha hb2 z']
                exact em
              · show 1000 - ((c : Int) + 1).toNat < 1000 - ((c : Int)).toNat
                omega
            · exact out (Wd.mid_no g' ha hb2 fun z' => z (ex.trans (decide_eq_true z')))
        · refine iteF (out (Wd.mid_short ?_))
          have : ¬ (2 : Int) ≤ (fs.length : Int) - 2 * (c : Int) := by simpa using g
          omega
      intro hm
      have eM : Wd.mid fs c = Wd.core ns := hm.symm.trans em
      have lc : (Wd.core ns).length ≤ 400 := by
        rw [← eM]
        exact Nat.le_trans (Wd.mid_len fs c) lf
      refine ⟨_, rfl, _, rfl, (c : Int), rfl, _, rfl, f, _, rfl, .inr (SqT.of h1), _, rfl, _, _, rfl, rfl, ((fs.length - c : Nat) : Int), ?_, ?_⟩
      · rw [lm]
        exact congrArg V.int (by omega)
      · rw [← lm]
        refine slT_midT (K := K) (by rw [lm]; exact hc) h1 fun b H2 s2 hb2 => ?_
        have e3 : ((fs.map V.int).drop c).take ((fs.map V.int).length - 2 * c) = (Wd.core ns).map V.int := by
          rw [lm, ← eM]
          unfold Wd.mid
          rw [List.map_take, List.map_drop]
        rw [e3] at hb2
        exact k b H2 (s1.trans s2) hb2 lc
    · rintro σ H Q Q' hq ⟨v1, a1, p1, ys1, a2, a3, v2, a4, i1, j1, a5, a6, a7, i2, j2, a8, a9, i3, j3, a10, a11, b1, a12, a13⟩
      refine ⟨v1, a1, p1, ys1, a2, a3, v2, a4, i1, j1, a5, a6, a7, i2, j2, a8, a9, i3, j3, a10, a11, b1, a12, ?_⟩
      cases b1 with
      | false => exact iteF (hq _ _ (by simpa using a13))
      | true =>
        rw [if_pos rfl] at a13
        obtain ⟨c1, d1, c2, d2, q1, xs1, n1, u1, d3, d4, d5, d6, c3, d7, c4, d8, q2, ys2, d9, d10, m1, m2, d11, d12, c5, d13, m3, m4, d14, d15, q3, xs3, n3, u3, d16, d17, d18, d19, m5, m6, d20, d21, d22, b2, d23, d24⟩ := a13
        exact iteT ⟨c1, d1, c2, d2, q1, xs1, n1, u1, d3, d4, d5, d6, c3, d7, c4, d8, q2, ys2, d9, d10, m1, m2, d11, d12, c5, d13, m3, m4, d14, d15, q3, xs3, n3, u3, d16, d17, d18, d19, m5, m6, d20, d21, d22, b2, d23, hq _ _ d24⟩
theorem ok_closed_up (T : Txt K mg) : FnOk P w K mg base CX0 4 T.closed_up.a T.closed_up.fd ["word"] (spClosed K) := by
  refine T.closed_up.F.ok sc_closed_up (fun vs H Q E h => ?_) (fun cdv A outer s H vs Q E hr h => ?_)
  · obtain ⟨p, ns, rfl, _⟩ := h
    rfl
  · obtain ⟨p, ns, rfl, hp, hl, hb, k⟩ := h
    have nd := sc_closed_up.nd
    refine ⟨_, (pss_cons (ps_set (i := 1) nd rfl (Or.inl rfl) (pe_call (ok_closed_letters T) (hr.mono (by decide)) (by rfl) T.closed_letters.g T.closed_letters.k T.closed_letters.b .nil pass0 (pa_cons (pv 0) pa_nil)))
    (pss_one (ps_ret (pe_ifExp (pt_truth (pv 1) (fun _ => rfl)) (pe_call (ok_least_turn T) (hr.mono (by decide)) (by rfl) T.least_turn.g T.least_turn.k T.least_turn.b .nil pass0 (pa_cons (pv 1) pa_nil)) (pe_tup pa_nil))))), ?_⟩
    refine ⟨_, rfl, p, ns, rfl, hp, hl, hb, fun b H2 s2 hb2 lc => ?_⟩
    refine ⟨_, rfl, !((Wd.core ns).map V.int).isEmpty, .inr (.inl ⟨_, SqT.of hb2, rfl⟩), ?_⟩
    refine ite2 (fun z => ?_) (fun z => ?_)
    · have hne : Wd.core ns ≠ [] := by simpa using z
      exact ⟨_, rfl, b, Wd.core ns, rfl, SqT.of hb2, hne, lc, fun q H3 s3 _ hq => k q H3 (s2.trans s3) (hq hb2)⟩
    · have hnil : Wd.core ns = [] := by simpa using z
      refine ⟨(by show 0 ≤ sizeLine; decide), fun q hq => k q _ (s2.trans (same_new hq)) ?_⟩
      unfold closedT
      rw [hnil, leastT_nil]
      exact upd_same
end
end Tt
set_option maxRecDepth 100000
set_option maxHeartbeats 4000000
namespace Tt
open PySem L2
section
variable {P : Program} {w : World} {K : PySem.W.Frag} {mg : Str → Option Value} {base : Heap}
end
end Tt
set_option maxRecDepth 100000
set_option maxHeartbeats 4000000
namespace Tt
open PySem L2
section
variable {P : Program} {w : World} {K : PySem.W.Frag} {mg : Str → Option Value} {base : Heap}
def RdOr (row : List Int) (x : V) (H : Hp) (K : PySem.W.Frag) (b : Bool) : Prop := (WV K 40 row H x false ∧ b = false) ∨
  ∃ (t : Addr) (ns : List Int), x = .ref t ∧ SqT K H t (ns.map V.int) ∧ ns.length ≤ 40 ∧ Lt (row.length : Int) ns ∧ b = decide (ns ≠ [] ∧ closedT ns = ns)
theorem RdOr.same {row : List Int} {x : V} {H H' : Hp} {b : Bool} (h : RdOr row x H K b) (s : Same H H') : RdOr row x H' K b := by
  rcases h with ⟨h, e⟩ | ⟨t, ns, e, h, l, lt, eb⟩
  · exact .inl ⟨h.same s, e⟩
  · exact .inr ⟨t, ns, e, same_seqT s h, l, lt, eb⟩
def spFit (T : Txt K mg) : Sp := fun vs H Q _ => ∃ (p : Addr) (row : List Int) (x : V) (b : Bool), vs = [.ref p, x] ∧ SkAt T H p row ∧ (row.length ≤ 12 ∧ row.length % 2 = 0) ∧ RdOr row x H K b ∧ ∀ H', Same H H' → Q (.bl b) H'
theorem ok_is_fit_round (T : Txt K mg) : FnOk P w K mg base CX0 6 T.is_fit_round.a T.is_fit_round.fd ["skin", "thing"] (spFit T) := by
  refine T.is_fit_round.F.ok sc_is_fit_round (fun vs H Q E h => ?_) (fun cdv A outer s H vs Q E hr h => ?_)
  · obtain ⟨p, row, x, b, rfl, _⟩ := h
    rfl
  · obtain ⟨p, row, x, b, rfl, hs, ⟨hl, h2⟩, hx, k⟩ := h
    refine ⟨_, (pss_one (ps_ret (pe_and (pe_call (ok_has_letters T) (hr.mono (by decide)) (by rfl) T.has_letters.g T.has_letters.k T.has_letters.b .nil pass0 (pa_cons (pv 0) (pa_cons (pv 1) (pa_cons (pe_glob rfl T.c_MOST_IN_ROUND T.r_MOST_IN_ROUND) pa_nil)))) (pe_and (pe_cmpR op_gt (pe_callB call_len_seq (by rfl) T.zlen (by decide +kernel) (pa_cons (pv 1) pa_nil)) pe_int (nomark _)) (pe_one (pe_cmpR (op_eqD hr.units) (pe_call (ok_closed_up T) (hr.mono (by decide)) (by rfl) T.closed_up.g T.closed_up.k T.closed_up.b .nil pass0 (pa_cons (pv 1) pa_nil)) (pv 1) (nomark _))))))), ?_⟩
    rcases hx with ⟨hw, rfl⟩ | ⟨t, ns, rfl, ht, hn, hlt, rfl⟩
    · refine ⟨_, rfl, _, rfl, p, row, x, 40, false, rfl, hs, hl, hw, fun H1 s1 => ⟨_, rfl, iteF (k H1 s1)⟩⟩
    · refine ⟨_, rfl, _, rfl, p, row, _, 40, true, rfl, hs, hl, word_wv h2 ht (by omega) (by omega) hlt, fun H1 s1 => ⟨_, rfl, iteT ?_⟩⟩
      have ht1 := same_seqT s1 ht
      refine ⟨_, rfl, t, _, rfl, .inr ht1, _, _, rfl, rfl, _, rfl, ?_⟩
      rw [List.length_map]
      refine ite2 (fun g => ?_) (fun g => ?_)
      · have hne : ns ≠ [] := fun z => by
          subst z
          simp at g
        refine ⟨_, rfl, t, ns, rfl, ht1, by omega, (fun y hy => by have := hlt y hy; omega), fun q H2 s2 hq => ?_⟩
        have ht2 := same_seqT s2 ht1
        refine ⟨_, rfl, .tuple ((closedT ns).map PyData.int), .tuple (ns.map PyData.int), .tup (SqT.of hq) (dpAll_ints _ _), .tup ht2 (dpAll_ints _ _), shapedAll_ints _, shapedAll_ints _, ?_⟩
        have ev : PyData.eqv (.tuple ((closedT ns).map PyData.int)) (.tuple (ns.map PyData.int)) = decide (closedT ns = ns) := eqv_ints (closedT ns) ns
        rw [ev]
        have eb : decide (closedT ns = ns) = decide (ns ≠ [] ∧ closedT ns = ns) := by simp [hne]
        rw [eb]
        exact k H2 (s1.trans s2)
      · have hne : ns = [] := by
          have : ¬ (0 : Int) < (ns.length : Int) := by simpa using g
          exact List.length_eq_zero_iff.mp (by omega)
        have eb : decide (ns ≠ [] ∧ closedT ns = ns) = false := by simp [hne]
        rw [eb] at k
        have g' : decide (0 < (ns.length : Int)) = false := by simp [hne]
        exact k H1 s1
end
end Tt
set_option maxRecDepth 100000
set_option maxHeartbeats 4000000
namespace Tt
open PySem L2
section
theorem same_sqL {K : PySem.W.Frag} {H H' : Hp} {a : Addr} {xs : List V} (e : Same H H') (h : SqL K H a xs) : SqL K H' a xs := by
  rcases h with (h | ⟨o, h⟩) | h
  · exact .inl (.inl (e _ _ h))
  · exact .inl (.inr ⟨o, e _ _ h⟩)
  · exact .inr h
theorem same_sq {K : PySem.W.Frag} {H H' : Hp} {a : Addr} {xs : List V} (e : Same H H') (h : SqL K H a xs ∨ SqT K H a xs) : SqL K H' a xs ∨ SqT K H' a xs := h.imp (same_sqL e) (same_seqT e)
def iSeqN (K : PySem.W.Frag) (i : Nat) : TI := fun σ H R => ∃ a, σ[i]? = some (some (.ref a)) ∧ ((∃ xs, SqL K H a xs) ∧ R (Itl K a) H ∨ (∃ xs, SqT K H a xs) ∧ R (Itt K a) H)
theorem pi_sqN {X : Cx} {tg e : Expr} {i : Nat} (h : PE X e (tVar i)) : PI X tg e (iSeqN X.K i) := ⟨fun pins s σ H R I ⟨a, e, z⟩ =>
  z.elim (fun z => (pi_list h).run pins s σ H R I ⟨_, e, a, rfl, z⟩) (fun z => (pi_tup h).run pins s σ H R I ⟨_, e, a, rfl, z⟩)⟩
theorem pi_sqNK {X : Cx} {K : PySem.W.Frag} {tg e : Expr} {i : Nat} (hk : X.K = K) (h : PE X e (tVar i)) : PI X tg e (iSeqN K i) := by
  subst hk
  exact pi_sqN h
theorem pi_tupK {X : Cx} {K : PySem.W.Frag} {tg l : Expr} {tl : TE} (h : X.K = K) (hl : PE X l tl) : PI X tg l (iTup K tl) := by
  subst h
  exact pi_tup hl
@[reducible] def LcW (J : It) (g : TG) (tt : TT) (te : TE) (vs : List Nat) (σ : St) (H1 : Hp) (D : Addr) (Qd : Hp → Prop) : Prop :=
  ∃ W : Nat → Nat → Hp → Prop, (∃ m, W 0 m (upd H1 D (HO.lst []))) ∧
    ∀ (i m : Nat) (H : Hp), W i m H →
      J.stop i H ∧ Qd H ∨ J.go i H ∧ ∃ Nx : Hp → Prop, (∀ (H' : Hp), Nx H' → ∃ m', m' < m ∧ W (i + 1) m' H') ∧
        ∀ (x : V) (H' : Hp), J.yld i H x H' → g x (wipe σ vs) H' fun σ2 H2 => wipe σ2 vs = wipe σ vs ∧ tt σ2 H2 fun b H3 =>
          if b = true then te σ2 H3 fun y H4 => ∃ acc, H4 D = some (HO.lst acc) ∧ acc.length < sizeLine ∧ Nx (upd H4 D (HO.lst (acc ++ [y]))) else Nx H3
theorem lc_sq {K : PySem.W.Frag} {a : Addr} {xs : List V} {g : TG} {tt : TT} {te : TE} {vs : List Nat} {σ : St} {H1 : Hp} {Qd : Addr → Hp → Prop} (hs : SqL K H1 a xs ∨ SqT K H1 a xs)
    (Pv : Addr → Nat → Hp → Prop) (h0 : ∀ D, H1 D = none → Pv D 0 (upd H1 D (.lst []))) (hS : ∀ D i H, H1 D = none → i ≤ xs.length → Pv D i H → Same H1 H)
    (step : ∀ D i x H, H1 D = none → xs[i]? = some x → Pv D i H → g x (wipe σ vs) H fun σ2 H2 => wipe σ2 vs = wipe σ vs ∧ tt σ2 H2 fun b H3 =>
      if b = true then te σ2 H3 fun y H4 => ∃ acc, H4 D = some (HO.lst acc) ∧ acc.length < sizeLine ∧ Pv D (i + 1) (upd H4 D (HO.lst (acc ++ [y]))) else Pv D (i + 1) H3)
    (fin : ∀ D H, H1 D = none → Pv D xs.length H → Qd D H) :
    (∃ ys, SqL K H1 a ys) ∧ (∀ D, H1 D = none → LcW (Itl K a) g tt te vs σ H1 D (Qd D)) ∨ (∃ ys, SqT K H1 a ys) ∧ (∀ D, H1 D = none → LcW (Itt K a) g tt te vs σ H1 D (Qd D)) :=
  hs.elim (fun h => .inl ⟨⟨_, h⟩, fun D hD => lc_list (K := K) (a := a) (xs := xs) (Pv D) (h0 D hD) (fun i H hi p => same_sqL (hS D i H hD hi p) h) (fun i x H hi p => step D i x H hD hi p) (fun H p => fin D H hD p)⟩)
    (fun h => .inr ⟨⟨_, h⟩, fun D hD => lc_tup (K := K) (a := a) (xs := xs) (Pv D) (h0 D hD) (fun i H hi p => same_seqT (hS D i H hD hi p) h) (fun i x H hi p => step D i x H hD hi p) (fun H p => fin D H hD p)⟩)
end
end Tt
set_option maxRecDepth 100000
set_option maxHeartbeats 4000000
namespace Tt
open PySem L2
section
variable {J : It} {n : Nat} {G : Hp → Prop} {Y : Nat → Hp → V → Hp → Prop} {g : TG} {tt : TT} {te : TE} {vs : List Nat} {σ : L2.St} {H1 : Hp} {D : Addr} {Qd : Hp → Prop}
theorem lc_itP (w : Walk J n G Y) (I : Hp → Prop) (Pv : Nat → V → Hp → Prop) (hn : n ≤ 4000) (i0 : I (upd H1 D (.lst [])))
    (ip : ∀ H l l', I H → H D = some (.lst l) → I (upd H D (.lst l')))
    (pp : ∀ i y H l l', Pv i y H → H D = some (.lst l) → Pv i y (upd H D (.lst l')))
    (hG : ∀ H l, I H → H D = some (.lst l) → G H)
    (step : ∀ i x H H' l, i < n → I H → H D = some (.lst l) → Y i H x H' → ∀ (R : VK) (Rn : Hp → Prop), (∀ y H4, I H4 → H4 D = some (.lst l) → (∀ j z, Pv j z H → Pv j z H4) → Pv i y H4 → R y H4) →
      g x (wipe σ vs) H' fun σ2 H2 => wipe σ2 vs = wipe σ vs ∧ tt σ2 H2 fun b H3 => if b = true then te σ2 H3 R else Rn H3)
    (fin : ∀ ys H, I H → H D = some (.lst ys) → ys.length = n → (∀ i y, ys[i]? = some y → Pv i y H) → Qd H) : LcW J g tt te vs σ H1 D Qd := by
  refine lc_it w (fun i H => I H ∧ ∃ ys, H D = some (.lst ys) ∧ ys.length = i ∧ ∀ j y, ys[j]? = some y → Pv j y H) ⟨i0, [], upd_same, rfl, fun j y h => by simp at h⟩ (fun i H _ ⟨h, ys, e, _⟩ => hG H ys h e) ?_ (fun H ⟨h, ys, e, l, p⟩ => fin ys H h e l p)
  rintro i x H H' hi ⟨h, ys, e, l, p⟩ y
  refine step i x H H' ys hi h e y _ _ fun y H4 h4 e4 keep py => ⟨ys, e4, smallB (by omega), ip _ _ _ h4 e4, ys ++ [y], upd_same, by rw [List.length_append, l]; rfl, fun j z hz => ?_⟩
  refine pp _ _ _ _ _ ?_ e4
  rcases Nat.lt_or_ge j ys.length with c | c
  · rw [List.getElem?_append_left c] at hz
    exact keep _ _ (p _ _ hz)
  · rw [List.getElem?_append_right c] at hz
    have hj : j - ys.length = 0 := by
      have := (List.getElem?_eq_some_iff.mp hz).1
      simpa using this
    rw [hj] at hz
    cases hz
    have : j = i := by omega
    subst this
    exact py
theorem same_put {H1 H : Hp} {D : Addr} {o : HO} (hD : H1 D = none) (s : Same H1 H) : Same H1 (upd H D o) := fun b u hb => by
  rw [upd_ne (ne_of_none hb hD)]
  exact s b u hb
theorem lc_itS (w : Walk J n G Y) (hD : H1 D = none) (Pv : Nat → V → Hp → Prop) (hn : n ≤ 4000)
    (st : ∀ i y H H', Pv i y H → Same H H' → Pv i y H')
    (pp : ∀ i y H l l', Pv i y H → H D = some (.lst l) → Pv i y (upd H D (.lst l')))
    (hG : ∀ H, Same H1 H → G H)
    (step : ∀ i x H H', i < n → Same H1 H → Y i H x H' → ∀ (R : VK) (Rn : Hp → Prop), (∀ y H4, Same H H4 → Pv i y H4 → R y H4) →
      g x (wipe σ vs) H' fun σ2 H2 => wipe σ2 vs = wipe σ vs ∧ tt σ2 H2 fun b H3 => if b = true then te σ2 H3 R else Rn H3)
    (fin : ∀ ys H, Same H1 H → H D = some (.lst ys) → ys.length = n → (∀ i y, ys[i]? = some y → Pv i y H) → Qd H) : LcW J g tt te vs σ H1 D Qd :=
  lc_itP w (fun H => Same H1 H) Pv hn (same_new hD) (fun H l l' s _ => same_put hD s) pp (fun H _ s _ => hG H s)
    (fun i x H H' l hi s e y R Rn k => step i x H H' hi s y R Rn fun y H4 s4 p => k y H4 (s.trans s4) (s4 _ _ e) (fun j z q => st j z H H4 q s4) p) fin
theorem lc_itF (w : Walk J n G Y) (hD : H1 D = none) (f : Nat → V) (hn : n ≤ 4000)
    (hG : ∀ H, Same H1 H → G H)
    (step : ∀ i x H H', i < n → Same H1 H → Y i H x H' → ∀ (R : VK) (Rn : Hp → Prop), (∀ H4, Same H H4 → R (f i) H4) →
      g x (wipe σ vs) H' fun σ2 H2 => wipe σ2 vs = wipe σ vs ∧ tt σ2 H2 fun b H3 => if b = true then te σ2 H3 R else Rn H3)
    (fin : ∀ H, Same H1 H → H D = some (.lst ((List.range n).map f)) → Qd H) : LcW J g tt te vs σ H1 D Qd :=
  lc_itS w hD (fun i y _ => y = f i) hn (fun _ _ _ _ h _ => h) (fun _ _ _ _ _ h _ => h) hG (fun i x H H' hi s y R Rn k => step i x H H' hi s y R Rn fun H4 s4 => k _ H4 s4 rfl)
    (fun ys H s e l p => fin H s (by
      rw [e]
      refine congrArg (fun l => some (HO.lst l)) (List.ext_getElem? fun i => ?_)
      by_cases c : i < n
      · rw [List.getElem?_map, List.getElem?_range c]
        have hi : i < ys.length := by omega
        rw [List.getElem?_eq_getElem hi]
        exact congrArg some (p i _ (List.getElem?_eq_getElem hi))
      · rw [List.getElem?_eq_none (by omega), List.getElem?_eq_none (by rw [List.length_map, List.length_range]; omega)]))
theorem lc_itD {W : Dw} (w : Walk J n G Y) (dr : DrOk W H1) (hD : H1 D = none) (Pv : Nat → V → Hp → Prop) (hn : n ≤ 4000)
    (st : ∀ i y H H', Pv i y H → DrOk W H → Kp W H H' → Pv i y H')
    (pp : ∀ i y H l l', Pv i y H → H D = some (.lst l) → Pv i y (upd H D (.lst l')))
    (hG : ∀ H, DrOk W H → Kp W H1 H → G H)
    (step : ∀ i x H H', i < n → DrOk W H → Kp W H1 H → Y i H x H' → ∀ (R : VK) (Rn : Hp → Prop), (∀ y H4, DrOk W H4 → Kp W H H4 → Pv i y H4 → R y H4) →
      g x (wipe σ vs) H' fun σ2 H2 => wipe σ2 vs = wipe σ vs ∧ tt σ2 H2 fun b H3 => if b = true then te σ2 H3 R else Rn H3)
    (fin : ∀ ys H, DrOk W H → Kp W H1 H → H D = some (.lst ys) → ys.length = n → (∀ i y, ys[i]? = some y → Pv i y H) → Qd H) : LcW J g tt te vs σ H1 D Qd := by
  have od := dr.off hD
  exact lc_itP w (fun H => DrOk W H ∧ Kp W H1 H) Pv hn ⟨dr.new hD, Kp.new hD⟩ (fun H l l' s _ => ⟨s.1.put od, fun b o hb n1 n2 => by rw [upd_ne (ne_of_none hb hD)]; exact s.2 b o hb n1 n2⟩) pp (fun H _ s _ => hG H s.1 s.2)
    (fun i x H H' l hi s e y R Rn k => step i x H H' hi s.1 s.2 y R Rn fun y H4 d4 k4 p => k y H4 ⟨d4, s.2.trans k4⟩ (k4.at od e) (fun j z q => st j z H H4 q s.1 k4) p) (fun ys H s e l p => fin ys H s.1 s.2 e l p)
theorem lc_itDV {W : Dw} (w : Walk J n G Y) (dr : DrOk W H1) (hD : H1 D = none) (Pv : V → Prop) (hn : n ≤ 4000)
    (hG : ∀ H, DrOk W H → Kp W H1 H → G H)
    (step : ∀ i x H H', i < n → DrOk W H → Kp W H1 H → Y i H x H' → ∀ (R : VK) (Rn : Hp → Prop), (∀ y H4, DrOk W H4 → Kp W H H4 → Pv y → R y H4) →
      g x (wipe σ vs) H' fun σ2 H2 => wipe σ2 vs = wipe σ vs ∧ tt σ2 H2 fun b H3 => if b = true then te σ2 H3 R else Rn H3)
    (fin : ∀ ys H, DrOk W H → Kp W H1 H → H D = some (.lst ys) → ys.length = n → (∀ y ∈ ys, Pv y) → Qd H) : LcW J g tt te vs σ H1 D Qd :=
  lc_itD w dr hD (fun _ y _ => Pv y) hn (fun _ _ _ _ h _ _ => h) (fun _ _ _ _ _ h _ => h) hG step (fun ys H d k e l p => fin ys H d k e l fun y hy => by
    obtain ⟨i, hi⟩ := List.getElem?_of_mem hy
    exact p i y hi)
end
@[reducible] def ForW (J : It) (g : TG) (tb : TS) (D : Ends) (σ : L2.St) (H : Hp) : Prop :=
  ∃ W : Nat → Nat → L2.St → Hp → Prop, (∃ m, W 0 m σ H) ∧ ∀ (i m : Nat) (σ : L2.St) (H : Hp), W i m σ H →
      (J.stop i H ∧ D.nx σ H) ∨ (J.go i H ∧ ∃ N : L2.St → Hp → Prop, (∀ σ' H', N σ' H' → ∃ m', m' < m ∧ W (i + 1) m' σ' H') ∧ ∀ x H', J.yld i H x H' → g x σ H' fun σ2 H2 => tb { D with nx := N, ct := N, bk := D.nx } σ2 H2)
theorem for_sq {K : PySem.W.Frag} {a : Addr} {xs : List V} {g : TG} {tb : TS} {D : Ends} {σ : L2.St} {H0 H : Hp} (hs : SqL K H0 a xs ∨ SqT K H0 a xs)
    (Pv : Nat → L2.St → Hp → Prop) (h0 : Pv 0 σ H) (hS : ∀ i σ' H', Pv i σ' H' → Same H0 H')
    (step : ∀ i x σ H, xs[i]? = some x → Pv i σ H → g x σ H fun σ2 H2 => tb { D with nx := Pv (i + 1), ct := Pv (i + 1), bk := D.nx } σ2 H2) (fin : ∀ σ H, Pv xs.length σ H → D.nx σ H) :
    (∃ ys, SqL K H a ys) ∧ ForW (Itl K a) g tb D σ H ∨ (∃ ys, SqT K H a ys) ∧ ForW (Itt K a) g tb D σ H :=
  hs.elim (fun h => .inl ⟨⟨_, same_sqL (hS _ _ _ h0) h⟩, for_it (walk_list (K := K) (a := a) (xs := xs)) Pv h0 (fun i σ' H' _ p => same_sqL (hS i σ' H' p) h) (fun i x σ H H' _ p y => by
      obtain ⟨rfl, y⟩ := y
      exact step i x σ _ y p) fin⟩)
    (fun h => .inr ⟨⟨_, same_seqT (hS _ _ _ h0) h⟩, for_it (walk_tup (K := K) (a := a) (xs := xs)) Pv h0 (fun i σ' H' _ p => same_seqT (hS i σ' H' p) h) (fun i x σ H H' _ p y => by
      obtain ⟨rfl, y⟩ := y
      exact step i x σ _ y p) fin⟩)
theorem lc_sqS {K : PySem.W.Frag} {a : Addr} {xs : List V} {g : TG} {tt : TT} {te : TE} {vs : List Nat} {σ : L2.St} {H1 : Hp} {Qd : Addr → Hp → Prop} (hs : SqL K H1 a xs ∨ SqT K H1 a xs) (Pv : Nat → V → Hp → Prop) (hn : xs.length ≤ 4000)
    (st : ∀ i y H H', Pv i y H → Same H H' → Pv i y H')
    (pp : ∀ D i y H l l', Pv i y H → H D = some (.lst l) → Pv i y (upd H D (.lst l')))
    (step : ∀ i x H, xs[i]? = some x → Same H1 H → ∀ (R : VK) (Rn : Hp → Prop), (∀ y H4, Same H H4 → Pv i y H4 → R y H4) →
      g x (wipe σ vs) H fun σ2 H2 => wipe σ2 vs = wipe σ vs ∧ tt σ2 H2 fun b H3 => if b = true then te σ2 H3 R else Rn H3)
    (fin : ∀ D ys H, H1 D = none → Same H1 H → H D = some (.lst ys) → ys.length = xs.length → (∀ i y, ys[i]? = some y → Pv i y H) → Qd D H) :
    (∃ ys, SqL K H1 a ys) ∧ (∀ D, H1 D = none → LcW (Itl K a) g tt te vs σ H1 D (Qd D)) ∨ (∃ ys, SqT K H1 a ys) ∧ (∀ D, H1 D = none → LcW (Itt K a) g tt te vs σ H1 D (Qd D)) :=
  hs.elim (fun h => .inl ⟨⟨_, h⟩, fun D hD => lc_itS (walk_list (K := K) (a := a) (xs := xs)) hD Pv hn st (pp D) (fun H s => same_sqL s h) (fun i x H H' _ s y R Rn k => by
      obtain ⟨rfl, y⟩ := y
      exact step i x _ y s R Rn k) (fun ys H => fin D ys H hD)⟩)
    (fun h => .inr ⟨⟨_, h⟩, fun D hD => lc_itS (walk_tup (K := K) (a := a) (xs := xs)) hD Pv hn st (pp D) (fun H s => same_seqT s h) (fun i x H H' _ s y R Rn k => by
      obtain ⟨rfl, y⟩ := y
      exact step i x _ y s R Rn k) (fun ys H => fin D ys H hD)⟩)
theorem lc_sqF {K : PySem.W.Frag} {a : Addr} {xs : List V} {g : TG} {tt : TT} {te : TE} {vs : List Nat} {σ : L2.St} {H1 : Hp} {Qd : Addr → Hp → Prop} (hs : SqL K H1 a xs ∨ SqT K H1 a xs) (f : Nat → V) (hn : xs.length ≤ 4000)
    (step : ∀ i x H, xs[i]? = some x → Same H1 H → ∀ (R : VK) (Rn : Hp → Prop), (∀ H4, Same H H4 → R (f i) H4) →
      g x (wipe σ vs) H fun σ2 H2 => wipe σ2 vs = wipe σ vs ∧ tt σ2 H2 fun b H3 => if b = true then te σ2 H3 R else Rn H3)
    (fin : ∀ D H, H1 D = none → Same H1 H → H D = some (.lst ((List.range xs.length).map f)) → Qd D H) :
    (∃ ys, SqL K H1 a ys) ∧ (∀ D, H1 D = none → LcW (Itl K a) g tt te vs σ H1 D (Qd D)) ∨ (∃ ys, SqT K H1 a ys) ∧ (∀ D, H1 D = none → LcW (Itt K a) g tt te vs σ H1 D (Qd D)) :=
  hs.elim (fun h => .inl ⟨⟨_, h⟩, fun D hD => lc_itF (walk_list (K := K) (a := a) (xs := xs)) hD f hn (fun H s => same_sqL s h) (fun i x H H' _ s y R Rn k => by
      obtain ⟨rfl, y⟩ := y
      exact step i x _ y s R Rn k) (fun H => fin D H hD)⟩)
    (fun h => .inr ⟨⟨_, h⟩, fun D hD => lc_itF (walk_tup (K := K) (a := a) (xs := xs)) hD f hn (fun H s => same_seqT s h) (fun i x H H' _ s y R Rn k => by
      obtain ⟨rfl, y⟩ := y
      exact step i x _ y s R Rn k) (fun H => fin D H hD)⟩)
theorem refs_all : ∀ {ys : List V} {R : Nat → Addr → Prop}, (∀ i y, ys[i]? = some y → ∃ q, y = .ref q ∧ R i q) → ∃ ts : List Addr, ys = ts.map V.ref ∧ ts.length = ys.length ∧ ∀ i q, ts[i]? = some q → R i q
  | [], R, _ => ⟨[], rfl, rfl, fun i q h => by simp at h⟩
  | y :: ys, R, h => by
    obtain ⟨q, rfl, r⟩ := h 0 _ rfl
    obtain ⟨ts, rfl, l, p⟩ := refs_all (ys := ys) (R := fun i => R (i + 1)) fun i z hz => h (i + 1) z (by simpa using hz)
    refine ⟨q :: ts, rfl, congrArg (· + 1) l, fun i q' hq => ?_⟩
    cases i with
    | zero => cases hq; exact r
    | succ i => exact p i q' (by simpa using hq)
theorem paired_of {F : Addr → List Int → Prop} : ∀ {ts : List Addr} {rows : List (List Int)}, ts.length = rows.length → (∀ (i : Nat) (t : Addr) (r : List Int), ts[i]? = some t → rows[i]? = some r → F t r) → Paired F ts rows
  | [], [], _, _ => .nil
  | [], _ :: _, h, _ => by cases h
  | _ :: _, [], h, _ => by cases h
  | t :: ts, r :: rows, h, p => .cons (p 0 t r rfl rfl) (paired_of (by simpa using h) fun i t r a b => p (i + 1) t r (by simpa using a) (by simpa using b))
theorem ints_all {P : Int → Prop} : ∀ {ys : List V}, (∀ y ∈ ys, ∃ x, y = V.int x ∧ P x) → ∃ ns : List Int, ys = ns.map V.int ∧ ns.length = ys.length ∧ ∀ x ∈ ns, P x
  | [], _ => ⟨[], rfl, rfl, fun x h => by cases h⟩
  | y :: ys, h => by
    obtain ⟨x, rfl, p⟩ := h _ (List.mem_cons_self ..)
    obtain ⟨ns, rfl, l, q⟩ := ints_all (ys := ys) fun y hy => h y (List.mem_cons_of_mem _ hy)
    refine ⟨x :: ns, rfl, congrArg (· + 1) l, fun z hz => ?_⟩
    rcases List.mem_cons.mp hz with rfl | hz
    · exact p
    · exact q z hz
section
variable {K : PySem.W.Frag}
theorem slL_from {xs : List V} {a : Addr} {H : Hp} {Q : VK} {n : Nat} (h : SqL K H a xs) (q : ∀ p, H p = none → Q (.ref p) (upd H p (.lst (xs.drop n)))) : rSlL K (.ref a) (some (n : Int)) none H Q :=
  ⟨a, xs, rfl, h, fun p hp => by rw [cut_from]; exact q p hp⟩
theorem slL_to {xs : List V} {a : Addr} {H : Hp} {Q : VK} {n : Nat} (hn : n ≤ xs.length) (h : SqL K H a xs) (q : ∀ p, H p = none → Q (.ref p) (upd H p (.lst (xs.take n)))) : rSlL K (.ref a) none (some (n : Int)) H Q :=
  ⟨a, xs, rfl, h, fun p hp => by rw [cut_to _ hn]; exact q p hp⟩
theorem zadd (i : Nat) : V.int (0 + (i : Int)) = V.int (i : Int) := by rw [Int.zero_add]
end
def tCs : List V → TA
  | [] => tNil
  | v :: r => tCons (tC v) (tCs r)
def tTups : List (List V) → TA
  | [] => tNil
  | vs :: r => tCons (tTup (tCs vs)) (tTups r)
theorem tCs_run {σ : L2.St} {H : Hp} : ∀ (vs : List V) {Q : List V → Hp → Prop}, Q vs H → tCs vs σ H Q
  | [], _, h => h
  | v :: r, Q, h => tCs_run (σ := σ) r (Q := fun xs H2 => Q (v :: xs) H2) h
theorem tTups_run {σ : L2.St} : ∀ (rows : List (List V)) {H : Hp} {Q : List V → Hp → Prop}, (∀ r ∈ rows, r.length ≤ sizeLine) →
    (∀ (qs : List Addr) H', Same H H' → qs.length = rows.length → (∀ (i : Nat) (q : Addr) (r : List V), qs[i]? = some q → rows[i]? = some r → H' q = some (.tup r)) → Q (qs.map V.ref) H') → tTups rows σ H Q
  | [], H, Q, _, k => k [] H (fun _ _ z => z) rfl (fun i q r h => by simp at h)
  | vs :: rows, H, Q, hz, k => tCs_run vs ⟨hz _ (List.mem_cons_self ..), fun p hp => tTups_run rows (fun r hr => hz r (List.mem_cons_of_mem _ hr)) fun qs H' s l t => k (p :: qs) H' ((same_new hp).trans s) (congrArg (· + 1) l) fun i q r hq hr => by
      cases i with
      | zero => cases hq; cases hr; exact s _ _ upd_same
      | succ i => exact t i q r (by simpa using hq) (by simpa using hr)⟩
theorem lst_tups {σ : L2.St} (rows : List (List V)) {H : Hp} {Q : VK} (hz : ∀ r ∈ rows, r.length ≤ sizeLine) (hl : rows.length ≤ 4000)
    (k : ∀ (qs : List Addr) p H', Same H H' → qs.length = rows.length → (∀ (i : Nat) (q : Addr) (r : List V), qs[i]? = some q → rows[i]? = some r → H' q = some (.tup r)) → H p = none → H' p = some (.lst (qs.map V.ref)) → Q (.ref p) H') : tLst (tTups rows) σ H Q :=
  tTups_run rows hz fun qs H' s l t => ⟨Nat.le_of_lt (smallB (by rw [List.length_map]; omega)), fun p hp => by
    have n := same_new (o := .lst (qs.map V.ref)) hp
    have hp0 : H p = none := by
      cases e : H p with
      | none => rfl
      | some o => rw [s _ _ e] at hp; cases hp
    exact k qs p _ (s.trans n) l (fun i q r a b => n _ _ (t i q r a b)) hp0 upd_same⟩
end Tt
set_option maxRecDepth 100000
set_option maxHeartbeats 4000000
namespace L2
open PySem PySem.Spec PyProof.Rows
theorem extend_tup_meets (l : Addr) (items : Array Value) (n : Nat) (b : Addr) (ob : Obj) (items2 : Array Value) (n2 : Nat) (hc : ob.cls = .type "tuple") (hd : ob.data = .seq items2 n2) (hs0 : ¬(!items.isEmpty && Builtin.List.listTooLong (items.size + items2.size)) = true) (hs1 : items.size ≤ sizeLine) (hs2 : items.size + items2.size ≤ sizeLine + 1) :
    Meets (Builtin.«list.extend» ⟨[.ref l, .ref b], []⟩) (fun _ R s => s.heap.get? l = some { cls := .type "list", dict := none, data := .seq items n, slots := #[] } ∧ s.heap.get? b = some ob ∧ R (.ok (.ret Value.none)) { s with heap := s.heap.update l (Obj.mapSeq fun x => x ++ items2), toks := s.toks }) := by
  obtain ⟨c, d, dat, sl⟩ := ob
  cases hc
  cases hd
  exact .of_wp fun prog w A R s h => by
    obtain ⟨hp, g, d, tk, os⟩ := s; obtain ⟨hl, hb, h⟩ := h; have f1 := AutoSeq1.idx_int; have f2 := AutoSeq1.sub_tuple_tuple; have f3 := AutoSeq1.sub_list_list; have f4 := AutoSeq1.sub_tuple_list; have f5 := AutoSeq1.sub_list_tuple;
    have hz' : (items ++ items2).size ≤ sizeLine + 1 := by rw [Array.size_append]; exact hs2
    wp_walk using (wpAny_updateSeq hl rfl (hz := hs1) (_hz' := hz')), AutoSeq1.wpAny_loadPart' hl, AutoSeq1.wpAny_loadPart' hb; exact ⟨_, rfl, h⟩
section
variable {X : Cx}
def rExtendT (K : PySem.W.Frag) : V → List V → Hp → VK → Prop := fun x vs H Q => ∃ l b xs zs, x = .ref l ∧ vs = [.ref b] ∧ H l = some (.lst xs) ∧ SqT K H b zs ∧ xs.length + zs.length ≤ sizeLine ∧ Q .non (upd H l (.lst (xs ++ zs)))
theorem mt_extendT : MtM X "list.extend" (rExtendT X.K) := by
  intro pins s σ H x vs v us Q I rx rv h
  obtain ⟨l, b, xs, zs, rfl, rfl, hH, hB, hz, q⟩ := h
  cases rx
  obtain ⟨u, rfl, ru⟩ := rv.one
  cases ru
  obtain ⟨z, its, n, r, hl, e⟩ := I.lstM hH
  obtain ⟨its2, r2, ⟨ob, e2, hc, n2, hd⟩, z2⟩ := I.tuple hB
  have hl2 := r2.length
  have hsz : its.toArray.size + its2.toArray.size ≤ sizeLine := by rw [List.size_toArray, List.size_toArray]; omega
  have hlong : ¬ (!its.toArray.isEmpty && Builtin.List.listTooLong (its.toArray.size + its2.toArray.size)) = true := by
    rw [notLongL hsz, Bool.and_false]
    exact Bool.false_ne_true
  refine call_meets F.slot_list_extend ⟨_, e, rfl⟩ F.entry_list_extend (F.args_list_extend_2 _ _)
    (extend_tup_meets l its.toArray n b ob its2.toArray n2 hc hd hlong (by rw [List.size_toArray]; omega) (by omega)) ⟨e, e2, ?_⟩
  refine ⟨.non, _, I.lset (its' := its ++ its2) hH e (by simp) (r.append r2) ?_, rfl, q⟩
  rw [List.length_append]
  omega
def rCatP : R2 := fun x y H Q => ∃ l b xs zs, x = .ref l ∧ y = .ref b ∧ H l = some (.lst xs) ∧ H b = some (.lst zs) ∧ xs.length + zs.length ≤ sizeLine ∧ ∀ p, p ≠ sysModules → H p = none → Q (.ref p) (upd H p (.lst (xs ++ zs)))
theorem op_catP : OpR X (binaryOp .Add) rCatP := by
  intro pins s σ H x y v u Q I rx ry h
  obtain ⟨l, b, xs, zs, rfl, rfl, hH, hB, hz, q⟩ := h
  cases rx
  cases ry
  obtain ⟨z, its, n, r, hl, e⟩ := I.lstM hH
  obtain ⟨z2, its2, n2, r2, hl2, e2⟩ := I.lstM hB
  refine PySem.P.add_list e e2 ?_ (by rw [List.size_toArray, List.size_toArray]; omega)
  have ea : its.toArray ++ its2.toArray = (its ++ its2).toArray := by simp
  rw [ea]
  exact ⟨.ref _, _, I.lnew (t' := s.toks) (r.append r2) (by rw [List.length_append]; omega), rfl, q _ (Nat.ne_of_gt I.big) I.fresh⟩
end
structure Sz (k w : Nat) (d : PyData) : Prop where
  sh : d.showable = true
  dp : d.depth ≤ k
  lv : d.leavesShort 13 = true
  wt : d.weight ≤ w
theorem Sz.mono {k k' w w' : Nat} {d : PyData} (h : Sz k w d) (a : k ≤ k') (b : w ≤ w') : Sz k' w' d := ⟨h.sh, Nat.le_trans h.dp a, h.lv, Nat.le_trans h.wt b⟩
theorem Sz.fits {k w : Nat} {d : PyData} (h : Sz k w d) (hw : w ≤ 2 ^ 20) : d.shown.length ≤ sizeLine := PyData.shown_fits (B := 13) (by decide) (by decide) h.lv (Nat.le_trans h.wt hw)
theorem Sz.int {i : Int} (h : i.natAbs < 10 ^ 12) : Sz 0 40 (.int i) := by
  have h2 : i.natAbs < 2 ^ 40 := Nat.lt_of_lt_of_le h (by decide)
  have hl : i.natAbs ≠ 0 → i.natAbs.log2 < 40 := fun z => (Nat.log2_lt z).mpr h2
  have hl2 : i.natAbs.log2 < 40 := by
    by_cases z : i.natAbs = 0
    · rw [z]
      decide
    · exact hl z
  refine ⟨?_, Nat.zero_le _, ?_, ?_⟩
  · show decide (i.natAbs.log2 < 1920) = true
    exact decide_eq_true (by omega)
  · show decide ((PyData.shown (.int i)).length ≤ 13) = true
    exact decide_eq_true (PyData.shown_int_le h)
  · show (if i == 0 then 0 else i.natAbs.log2 + 1) ≤ 40
    split <;> omega
theorem Sz.bool (b : Bool) : Sz 0 0 (.bool b) := ⟨rfl, Nat.le_refl _, rfl, Nat.le_refl _⟩
theorem sz_all {k w : Nat} : ∀ ds : List PyData, (∀ d ∈ ds, Sz k w d) → PyData.showableAll ds = true ∧ PyData.depthAll ds ≤ k ∧ PyData.leavesShortAll 13 ds = true ∧ PyData.weightAll ds ≤ ds.length * (w + 1)
  | [], _ => ⟨rfl, Nat.zero_le _, rfl, Nat.zero_le _⟩
  | d :: ds, h => by
    obtain ⟨a1, a3, a4, a5⟩ := sz_all ds fun x hx => h x (List.mem_cons_of_mem _ hx)
    have b := h d List.mem_cons_self
    refine ⟨?_, ?_, ?_, ?_⟩
    · show (d.showable && PyData.showableAll ds) = true
      rw [b.sh, a1]
      rfl
    · show max d.depth (PyData.depthAll ds) ≤ k
      have := b.dp
      omega
    · show (d.leavesShort 13 && PyData.leavesShortAll 13 ds) = true
      rw [b.lv, a4]
      rfl
    · show d.weight + 1 + PyData.weightAll ds ≤ (ds.length + 1) * (w + 1)
      rw [Nat.add_mul, Nat.one_mul]
      have := b.wt
      omega
theorem Sz.list {k w : Nat} {ds : List PyData} (h : ∀ d ∈ ds, Sz k w d) : Sz (k + 1) (ds.length * (w + 1)) (.list ds) := by
  obtain ⟨a1, a3, a4, a5⟩ := sz_all ds h
  exact ⟨a1, Nat.succ_le_succ a3, a4, a5⟩
theorem Sz.tuple {k w : Nat} {ds : List PyData} (h : ∀ d ∈ ds, Sz k w d) : Sz (k + 1) (ds.length * (w + 1)) (.tuple ds) := by
  obtain ⟨a1, a3, a4, a5⟩ := sz_all ds h
  exact ⟨a1, Nat.succ_le_succ a3, a4, a5⟩
theorem sz_kv {k w : Nat} : ∀ ds : List (PyData × PyData), (∀ d ∈ ds, Sz k w d.1 ∧ Sz k w d.2) → PyData.showableKv ds = true ∧ PyData.depthKv ds ≤ k ∧ PyData.leavesShortKv 13 ds = true ∧ PyData.weightKv ds ≤ ds.length * (2 * w + 2)
  | [], _ => ⟨rfl, Nat.zero_le _, rfl, Nat.zero_le _⟩
  | (c, d) :: ds, h => by
    obtain ⟨a1, a3, a4, a5⟩ := sz_kv ds fun x hx => h x (List.mem_cons_of_mem _ hx)
    obtain ⟨b, e⟩ := h (c, d) List.mem_cons_self
    refine ⟨?_, ?_, ?_, ?_⟩
    · show (c.showable && d.showable && PyData.showableKv ds) = true
      rw [show c.showable = true from b.sh, show d.showable = true from e.sh, a1]
      rfl
    · show max (max c.depth d.depth) (PyData.depthKv ds) ≤ k
      have b1 : c.depth ≤ k := b.dp
      have b2 : d.depth ≤ k := e.dp
      omega
    · show (c.leavesShort 13 && d.leavesShort 13 && PyData.leavesShortKv 13 ds) = true
      rw [show c.leavesShort 13 = true from b.lv, show d.leavesShort 13 = true from e.lv, a4]
      rfl
    · show c.weight + d.weight + 2 + PyData.weightKv ds ≤ (ds.length + 1) * (2 * w + 2)
      rw [Nat.add_mul, Nat.one_mul]
      have b1 : c.weight ≤ w := b.wt
      have b2 : d.weight ≤ w := e.wt
      omega
theorem Sz.dict {k w : Nat} {ds : List (PyData × PyData)} (h : ∀ d ∈ ds, Sz k w d.1 ∧ Sz k w d.2) : Sz (k + 1) (ds.length * (2 * w + 2)) (.dict ds) := by
  obtain ⟨a1, a3, a4, a5⟩ := sz_kv ds h
  exact ⟨a1, Nat.succ_le_succ a3, a4, a5⟩
theorem Sz.row {ns : List Int} (h : ∀ x ∈ ns, x.natAbs < 10 ^ 12) : Sz 1 (ns.length * 41) (rowD ns) := by
  have := Sz.tuple (k := 0) (w := 40) (ds := ns.map PyData.int) fun d hd => by
    obtain ⟨x, hx, rfl⟩ := List.mem_map.mp hd
    exact Sz.int (h x hx)
  rwa [List.length_map] at this
end L2
set_option maxRecDepth 100000
set_option maxHeartbeats 4000000
namespace L2
open PySem PySem.Spec PyProof.Rows
theorem tuple_mulS (l : Addr) (items : Array Value) (n : Nat) (dd : Option Addr) (sl : Array (Option Value)) (x : Int) (u : Tok) (c0 : (decide (x < -(2 ^ 63)) || decide (x ≥ 2 ^ 63)) = false) (c1 : (items.isEmpty || x == 1) = true) :
    Meets (Builtin.«tuple.__mul__» ⟨[.ref l, .int x u], []⟩) (fun _ R s => s.heap.get? l = some { cls := .type "tuple", dict := dd, data := .seq items n, slots := sl } ∧ R (.ok (.ret (Value.ref l))) s) :=
  .of_wp fun prog w A R s h => by
    obtain ⟨hp, g, d, tk, os⟩ := s
    obtain ⟨hl, h⟩ := h
    have f1 := AutoSeq1.idx_int
    wp_walk using wpAny_loadPart' hl
    repeat (first
      | (refine wpAny_ite_false (decide_eq_false (by rw [c0]; exact Bool.false_ne_true)) ?_; wp_walk using wpAny_loadPart' hl)
      | (refine wpAny_ite_true (decide_eq_true (by rw [c1])) ?_; wp_walk using wpAny_loadPart' hl)
      | (refine wpAny_ite_true c1 ?_; wp_walk using wpAny_loadPart' hl))
    exact ⟨_, rfl, h⟩
def rRepA (K : PySem.W.Frag) : R2 := fun x y H Q => ∃ l k xs, x = .ref l ∧ y = .int k ∧ SqT K H l xs ∧ xs ≠ [] ∧ 1 ≤ k ∧ k ≤ 1000 ∧ xs.length ≤ 1000 ∧ (k = 1 → Q (.ref l) H) ∧ (2 ≤ k → ∀ p, H p = none → Q (.ref p) (upd H p (.tup (List.replicate k.toNat xs).flatten)))
section
variable {X : Cx} {K : PySem.W.Frag}
theorem op_repA : OpR X (binaryOp .Mult) (rRepA X.K) := by
  intro pins s σ H x y v u Q I rx ry h
  obtain ⟨l, k, xs, rfl, rfl, hT, hne, h1, h2, hz, q1, q2⟩ := h
  by_cases hk : k = 1
  · subst hk
    cases rx
    obtain ⟨t, rfl⟩ := ry
    obtain ⟨its, r, ⟨⟨cls, dd, data, sl⟩, ho, hc, n, hd⟩, hs⟩ := I.tuple hT
    simp only at hc hd
    subst hc hd
    refine wpAny_binaryOp_repeat_ref (T := "tuple") (U := "int") (by decide) ⟨_, ho, rfl⟩ (fun s' => typeIs_int s' 1 t) noFill_tuple_mul F.fills_int_mul F.slot_int_rmul repeat_tuple F.slot_int_index.lookup
      (call_meets F.slot_int_rmul (typeIs_int s 1 t) F.entry_int_rmul (F.args_int_rmul_2 _ _) (int_rmul_tuple 1 t l its.toArray n dd sl)
        ⟨ho, rfl, ⟨_, ho, rfl⟩, call_meets F.slot_tuple_mul ⟨_, ho, rfl⟩ F.entry_tuple_mul (F.args_tuple_mul_2 _ _) (tuple_mulS l its.toArray n dd sl 1 t (by decide) (by simp)) ⟨ho, ?_⟩⟩)
    exact ⟨.ref l, H, I, rfl, q1 rfl⟩
  · exact op_repT pins s σ H _ _ v u Q I rx ry ⟨l, k, xs, rfl, rfl, hT, hne, by omega, h2, hz, q2 (by omega)⟩
theorem op_repAK (h : X.K = K) : OpR X (binaryOp .Mult) (rRepA K) := by subst h; exact op_repA
def rShowS : List V → Hp → VK → Prop := fun xs H Q => ∃ x, xs = [.str x] ∧ (reprText x).length ≤ sizeLine ∧ Q (.str (reprText x)) H
theorem call_showS : CallR X (.builtin "repr") rShowS := by
  intro pins s σ H xs us Q I r h
  obtain ⟨x, rfl, hz, q⟩ := h
  obtain ⟨u, rfl, rx⟩ := vals1 r
  obtain ⟨t, rfl⟩ := rx
  exact PySem.P.repr_of_str ⟨.str (reprText x), H, I.tok _, ⟨_, rfl⟩, q⟩ hz
def rInDT (K : PySem.W.Frag) : R2 := fun x y H Q => ∃ d ds, Dp K H x d ∧ Dp K H y (.tuple ds) ∧ SeqAt.shaped d = true ∧ SeqAt.shaped (.list ds) = true ∧ Q (.bl (ds.any fun z => PyData.eqv z d)) H
theorem op_inDT (hu : X.A.units + 65 < cLine) : OpR X (compareOp .In) (rInDT X.K) := by
  intro pins s σ H x y v u Q I rx ry h
  obtain ⟨d, ds, hd, he, sd, se, q⟩ := h
  obtain ⟨as, r1⟩ := Dp.reads I d x v hd rx
  obtain ⟨bs, r2⟩ := Dp.reads I (.tuple ds) y u he ry
  exact SeqAt.in_tuple_reads r2 r1 (SeqAt.canLay_of_shaped se) (SeqAt.canLay_of_shaped sd) (room_in_shaped sd hu) ⟨.bl _, H, I, rfl, q⟩
theorem Room.units65 {k : Nat} {A : Around} (r : Room k A) : A.units + 65 < cLine := by
  have := r.un
  omega
end
end L2
set_option maxRecDepth 100000
set_option maxHeartbeats 4000000
namespace Wd
def pow (t : List Int) : Nat → List Int
  | 0 => []
  | n + 1 => t ++ pow t n
theorem pow_rep (t : List Int) : ∀ n, (List.replicate n t).flatten = pow t n
  | 0 => rfl
  | n + 1 => by rw [List.replicate_succ, List.flatten_cons, pow_rep t n]; rfl
theorem pow_one (t : List Int) : pow t 1 = t := List.append_nil t
theorem pow_add (t : List Int) : ∀ a b, pow t (a + b) = pow t a ++ pow t b
  | 0, b => by rw [Nat.zero_add]; rfl
  | a + 1, b => by
    rw [Nat.add_right_comm]
    show t ++ pow t (a + b) = t ++ pow t a ++ pow t b
    rw [pow_add t a b, List.append_assoc]
theorem pow_len (t : List Int) : ∀ n, (pow t n).length = n * t.length
  | 0 => (Nat.zero_mul _).symm
  | n + 1 => by
    show (t ++ pow t n).length = _
    rw [List.length_append, pow_len t n, Nat.succ_mul, Nat.add_comm]
theorem pow_pow (t : List Int) (a : Nat) : ∀ b, pow (pow t a) b = pow t (a * b)
  | 0 => rfl
  | b + 1 => by
    show pow t a ++ pow (pow t a) b = _
    rw [pow_pow t a b, ← pow_add, Nat.mul_succ, Nat.add_comm]
theorem pow_snoc (t : List Int) (n : Nat) : pow t (n + 1) = pow t n ++ t := by rw [pow_add, pow_one]
theorem pow_mem {t : List Int} {x : Int} : ∀ {n}, x ∈ pow t n → x ∈ t
  | 0, h => absurd h (by simp [pow])
  | n + 1, h => (List.mem_append.mp (show x ∈ t ++ pow t n from h)).elim id pow_mem
theorem pow_conj (u v : List Int) : ∀ n, v ++ pow (u ++ v) n ++ u = pow (v ++ u) (n + 1)
  | 0 => by rw [pow_one]; simp [pow]
  | n + 1 => by
    show v ++ (u ++ v ++ pow (u ++ v) n) ++ u = (v ++ u) ++ pow (v ++ u) (n + 1)
    rw [← pow_conj u v n]
    simp
theorem pow_split {t : List Int} : ∀ {k : Nat} {U W : List Int}, 1 ≤ k → pow t k = U ++ W → ∃ a b u v, t = u ++ v ∧ U = pow t a ++ u ∧ W = v ++ pow t b ∧ a + b + 1 = k
  | 0, _, _, h, _ => absurd h (by decide)
  | k + 1, U, W, _, h => by
    have h' : t ++ pow t k = U ++ W := h
    rcases app_split h' with ⟨m, e1, e2⟩ | ⟨m, e1, e2⟩
    ·
      by_cases hk : k = 0
      · subst hk
        have e3 : m = [] ∧ W = [] := by
          have : ([] : List Int) = m ++ W := e2
          have := congrArg List.length this
          rw [List.length_append, List.length_nil] at this
          exact ⟨List.length_eq_zero_iff.mp (by omega), List.length_eq_zero_iff.mp (by omega)⟩
        refine ⟨0, 0, t, [], by simp, ?_, ?_, rfl⟩
        · rw [e1, e3.1]
          simp [pow]
        · rw [e3.2]
          rfl
      · obtain ⟨a, b, u, v, h1, h2, h3, h4⟩ := pow_split (by omega) e2
        refine ⟨a + 1, b, u, v, h1, ?_, h3, by omega⟩
        rw [e1, h2]
        show _ = t ++ pow t a ++ u
        rw [List.append_assoc]
    · exact ⟨0, k, U, m, e1, rfl, e2, by omega⟩
theorem turn_pow {t y : List Int} {k : Nat} (hk : 1 ≤ k) (h : Turn (pow t k) y) : ∃ z, Turn t z ∧ y = pow z k := by
  obtain ⟨U, W, e1, rfl⟩ := h
  obtain ⟨a, b, u, v, rfl, rfl, rfl, e4⟩ := pow_split hk e1
  refine ⟨v ++ u, ⟨u, v, rfl, rfl⟩, ?_⟩
  rw [← e4, ← pow_conj, Nat.add_comm a b, pow_add]
  simp
theorem pow_turn {t z : List Int} (k : Nat) (h : Turn t z) : Turn (pow t k) (pow z k) := by
  obtain ⟨u, v, rfl, rfl⟩ := h
  cases k with
  | zero => exact Turn.refl _
  | succ k =>
    refine ⟨u, v ++ pow (u ++ v) k, ?_, (pow_conj u v k).symm⟩
    show u ++ v ++ pow (u ++ v) k = _
    rw [List.append_assoc]
theorem lt_app {x y : List Int} (hl : x.length = y.length) (h : x < y) (p q : List Int) : x ++ p < y ++ q := by
  induction x generalizing y with
  | nil =>
    cases y with
    | nil => exact absurd h (List.lt_irrefl _)
    | cons b y => cases hl
  | cons a x ih =>
    cases y with
    | nil => cases hl
    | cons b y =>
      rw [List.cons_append, List.cons_append, List.cons_lt_cons_iff]
      rw [List.cons_lt_cons_iff] at h
      rcases h with h | ⟨h1, h2⟩
      · exact .inl h
      · exact .inr ⟨h1, ih (by simpa using hl) h2⟩
theorem lt_pow {x y : List Int} (hl : x.length = y.length) {k : Nat} (hk : 1 ≤ k) (h : x < y) : pow x k < pow y k := by
  obtain ⟨k, rfl⟩ : ∃ j, k = j + 1 := ⟨k - 1, by omega⟩
  exact lt_app hl h _ _
theorem turn_len {a b : List Int} (h : Turn a b) : a.length = b.length := by
  obtain ⟨u, v, rfl, rfl⟩ := h
  rw [List.length_append, List.length_append, Nat.add_comm]
def CR (t : List Int) : Prop := Rd (t ++ t)
theorem rd_left {a b : List Int} (h : Rd (a ++ b)) : Rd a := rd_sub (u := []) (v := b) (by simpa using h)
theorem rd_right {a b : List Int} (h : Rd (a ++ b)) : Rd b := rd_sub (u := a) (v := []) (by simpa using h)
theorem CR.rd {t : List Int} (h : CR t) : Rd t := rd_left h
theorem rd_join {a b c : List Int} (hb : b ≠ []) (h1 : Rd (a ++ b)) (h2 : Rd (b ++ c)) : Rd (a ++ b ++ c) := by
  intro i x y hx hy
  by_cases hi : i + 1 < (a ++ b).length
  · rw [List.getElem?_append_left (by omega)] at hx
    rw [List.getElem?_append_left hi] at hy
    exact h1 i x y hx hy
  · have hl : 0 < b.length := List.length_pos_iff.mpr hb
    have hla : (a ++ b).length = a.length + b.length := List.length_append
    rw [List.append_assoc, List.getElem?_append_right (by omega)] at hx hy
    refine h2 (i - a.length) x y hx ?_
    rw [← hy]
    congr 1
    omega
theorem CR.pow {t : List Int} (ht : t ≠ []) (h : CR t) : ∀ n, Rd (Wd.pow t n)
  | 0 => rd_nil
  | 1 => by rw [pow_one]; exact h.rd
  | n + 2 => by
    show Rd (t ++ (t ++ Wd.pow t n))
    rw [← List.append_assoc]
    exact rd_join ht h (CR.pow ht h (n + 1))
theorem pow_ne {t : List Int} (ht : t ≠ []) {k : Nat} (hk : 1 ≤ k) : Wd.pow t k ≠ [] := fun z => by
  have := congrArg List.length z
  rw [pow_len, List.length_nil] at this
  have := List.length_pos_iff.mpr ht
  have : 0 < k * t.length := Nat.mul_pos (by omega) this
  omega
theorem cr_pow {t : List Int} (ht : t ≠ []) {k : Nat} (hk : 1 ≤ k) : CR (Wd.pow t k) ↔ CR t := by
  constructor
  · intro h
    unfold CR at h
    rw [← pow_add] at h
    obtain ⟨j, hj⟩ : ∃ j, k + k = 2 + j := ⟨k + k - 2, by omega⟩
    rw [hj, pow_add] at h
    have := rd_left h
    have e : Wd.pow t 2 = t ++ t := by
      show t ++ (t ++ []) = _
      rw [List.append_nil]
    rw [e] at this
    exact this
  · intro h
    unfold CR
    rw [← pow_add]
    exact h.pow ht _
theorem CR.turn {t z : List Int} (h : CR t) (k : Turn t z) : CR z := by
  by_cases ht : t = []
  · have := turn_len k
    rw [ht] at this
    have hz : z = [] := List.length_eq_zero_iff.mp this.symm
    rw [hz]
    exact rd_nil
  · obtain ⟨u, v, rfl, rfl⟩ := k
    have h3 := h.pow ht 3
    have e : Wd.pow (u ++ v) 3 = u ++ (v ++ u ++ (v ++ u)) ++ v := by
      show u ++ v ++ (u ++ v ++ (u ++ v ++ [])) = _
      simp
    rw [e] at h3
    exact rd_sub h3
theorem undo_app (a b : List Int) : undo (a ++ b) = undo b ++ undo a := by
  unfold undo
  rw [List.reverse_append, List.map_append]
theorem undo_pow (t : List Int) : ∀ k, undo (Wd.pow t k) = Wd.pow (undo t) k
  | 0 => rfl
  | k + 1 => by
    show undo (t ++ Wd.pow t k) = _
    rw [undo_app, undo_pow t k, pow_snoc]
theorem undo_turn {a b : List Int} (h : Turn a b) : Turn (undo a) (undo b) := by
  obtain ⟨u, v, rfl, rfl⟩ := h
  exact ⟨undo v, undo u, undo_app _ _, undo_app _ _⟩
theorem rd_undo {w : List Int} (h : Rd w) : Rd (undo w) := by
  intro i x y hx hy
  have li := (List.getElem?_eq_some_iff.mp hy).1
  rw [undo_len] at li
  unfold undo at hx hy
  rw [List.getElem?_map, List.getElem?_reverse (by omega)] at hx hy
  obtain ⟨a, ha, rfl⟩ := Option.map_eq_some_iff.mp hx
  obtain ⟨b, hb, rfl⟩ := Option.map_eq_some_iff.mp hy
  have hj : w.length - 1 - i = (w.length - 1 - (i + 1)) + 1 := by omega
  rw [hj] at ha
  have := h _ b a hb ha
  intro z
  rw [mate_mate] at z
  exact this z.symm
theorem CR.undo {t : List Int} (h : CR t) : CR (Wd.undo t) := by
  unfold CR
  rw [← undo_app]
  exact rd_undo h
theorem no_self : ∀ (n : Nat) (w : List Int), w.length ≤ n → Rd w → undo w = w → w = []
  | n, [], _, _, _ => rfl
  | n, [a], _, _, h => by
    have : mate a = a := by
      have h' : [mate a] = [a] := h
      exact (List.cons.inj h').1
    unfold mate at this
    split at this <;> omega
  | 0, a :: b :: r, h, _, _ => by simp at h
  | n + 1, a :: b :: r, h, hr, hu => by
    obtain ⟨m, c, e⟩ : ∃ m c, b :: r = m ++ [c] := ⟨(b :: r).dropLast, (b :: r).getLast (by simp), (List.dropLast_concat_getLast (by simp)).symm⟩
    rw [e] at hr hu h ⊢
    have e2 : undo (a :: (m ++ [c])) = mate c :: (undo m ++ [mate a]) := by
      have : a :: (m ++ [c]) = [a] ++ m ++ [c] := by simp
      rw [this, undo_app, undo_app]
      rfl
    rw [e2] at hu
    obtain ⟨h1, h2⟩ := List.cons.inj hu
    have h3 := List.append_inj' h2 rfl
    have hm : m = [] := by
      refine no_self n m ?_ ?_ h3.1
      · rw [List.length_cons, List.length_append] at h
        simp at h
        omega
      · exact rd_sub (u := [a]) (v := [c]) (by simpa using hr)
    subst hm
    exact absurd h1.symm (fun z => by
      have := hr 0 a c rfl rfl
      exact this (mate_eq.mpr (by rw [← h1]))) 
theorem not_undone {t : List Int} (ht : t ≠ []) (h : CR t) (k : Turn (undo t) t) : False := by
  obtain ⟨u, v, e1, e2⟩ := k
  have e3 : undo t = undo u ++ undo v := by rw [e2, undo_app]
  rw [e3] at e1
  have h4 := List.append_inj e1 (undo_len u)
  have hru : Rd u := by
    have := h.rd
    rw [e2] at this
    exact rd_right this
  have hrv : Rd v := by
    have := h.rd
    rw [e2] at this
    exact rd_left this
  have hu := no_self _ u (Nat.le_refl _) hru h4.1
  have hv := no_self _ v (Nat.le_refl _) hrv h4.2
  rw [hu, hv] at e2
  exact ht e2
end Wd
set_option maxRecDepth 100000
set_option maxHeartbeats 4000000
namespace Tt
open PySem L2
theorem strip_len : ∀ (n : Nat) (w : List Int), w.length ≤ n → (Wd.strip w).length ≤ w.length
  | 0, w, h => by
    unfold Wd.strip
    split
    · omega
    · exact Nat.le_refl _
  | n + 1, w, h => by
    unfold Wd.strip
    split
    · have hl : ((w.drop 1).dropLast).length = w.length - 1 - 1 := by simp
      refine Nat.le_trans (strip_len n _ (by omega)) ?_
      omega
    · exact Nat.le_refl _
theorem closedT_len (ns : List Int) : (closedT ns).length ≤ ns.length := by
  unfold closedT
  have h1 : (Wd.core ns).length ≤ ns.length := Nat.le_trans (strip_len _ _ (Nat.le_refl _)) (Wd.len_freed ns)
  by_cases hc : Wd.core ns = []
  · rw [hc, leastT_nil]
    exact Nat.zero_le _
  · obtain ⟨u, v, e1, e2⟩ := leastT_turn hc
    rw [e2, List.length_append]
    rw [e1, List.length_append] at h1
    omega
theorem freed_full (w : List Int) : (Wd.freed w).length = w.length → Wd.freed w = w := by
  refine Wd.snoc_ind (P := fun w => (Wd.freed w).length = w.length → Wd.freed w = w) (fun _ => rfl) (fun l a ih h => ?_) w
  rw [Wd.freed_snoc] at h ⊢
  rw [List.length_append, List.length_singleton] at h
  have h1 := Wd.len_freed l
  unfold Wd.push at h ⊢
  split at h
  · rw [List.length_dropLast] at h
    omega
  · rename_i hn
    rw [if_neg hn]
    rw [List.length_append, List.length_singleton] at h
    rw [ih (by omega)]
theorem strip_full {w : List Int} (h : (Wd.strip w).length = w.length) : Wd.strip w = w := by
  by_cases hc : 2 ≤ w.length ∧ w.head? = w.getLast?.map Wd.mate
  · unfold Wd.strip at h
    rw [dif_pos hc] at h
    have := strip_len _ ((w.drop 1).dropLast) (Nat.le_refl _)
    have hl : ((w.drop 1).dropLast).length = w.length - 1 - 1 := by simp
    omega
  · unfold Wd.strip
    rw [dif_neg hc]
theorem strip_facts : ∀ (n : Nat) (w : List Int), w.length ≤ n → Wd.Rd w → Wd.Rd (Wd.strip w) ∧ ¬ (2 ≤ (Wd.strip w).length ∧ (Wd.strip w).head? = (Wd.strip w).getLast?.map Wd.mate)
  | n, w, hn, hr => by
    by_cases hc : 2 ≤ w.length ∧ w.head? = w.getLast?.map Wd.mate
    · have e : Wd.strip w = Wd.strip (w.drop 1).dropLast := by
        rw [Wd.strip]
        exact dif_pos hc
      rw [e]
      have hl : ((w.drop 1).dropLast).length = w.length - 1 - 1 := by simp
      cases n with
      | zero => omega
      | succ n =>
        refine strip_facts n _ (by omega) ?_
        have h1 : Wd.Rd (w.drop 1) := Wd.rd_right (a := w.take 1) (by rw [List.take_append_drop]; exact hr)
        by_cases h2 : w.drop 1 = []
        · rw [h2]
          exact Wd.rd_nil
        · refine Wd.rd_left (b := [(w.drop 1).getLast h2]) ?_
          rw [List.dropLast_concat_getLast]
          exact h1
    · have e : Wd.strip w = w := by
        rw [Wd.strip]
        exact dif_neg hc
      rw [e]
      exact ⟨hr, hc⟩
theorem cr_of {w : List Int} (hr : Wd.Rd w) (hc : ¬ (2 ≤ w.length ∧ w.head? = w.getLast?.map Wd.mate)) : Wd.CR w := by
  intro i x y hx hy
  by_cases hi : i + 1 < w.length
  · rw [List.getElem?_append_left (by omega)] at hx
    rw [List.getElem?_append_left hi] at hy
    exact hr i x y hx hy
  · by_cases hj : i < w.length
    ·
      have e : i = w.length - 1 := by omega
      rw [List.getElem?_append_left hj] at hx
      rw [List.getElem?_append_right (by omega)] at hy
      have e0 : i + 1 - w.length = 0 := by omega
      rw [e0] at hy
      intro z
      by_cases h2 : 2 ≤ w.length
      · refine hc ⟨h2, ?_⟩
        rw [List.head?_eq_getElem?, hy, List.getLast?_eq_getElem?, ← e, hx, z]
        rfl
      · have : i = 0 := by omega
        rw [this] at hx
        rw [hx] at hy
        have := Option.some.inj hy
        rw [← this] at z
        unfold Wd.mate at z
        split at z <;> omega
    · rw [List.getElem?_append_right (by omega)] at hx hy
      refine hr (i - w.length) x y hx ?_
      rw [← hy]
      congr 1
      omega
theorem core_of_cr {w : List Int} (h : Wd.CR w) : Wd.core w = w := by
  unfold Wd.core
  rw [Wd.freed_of_rd w h.rd]
  by_cases h2 : 2 ≤ w.length
  · refine Wd.strip_no fun z => ?_
    obtain ⟨a, ha⟩ : ∃ a, w[w.length - 1]? = some a := ⟨_, List.getElem?_eq_getElem (by omega)⟩
    obtain ⟨b, hb⟩ : ∃ b, w[0]? = some b := ⟨_, List.getElem?_eq_getElem (by omega)⟩
    rw [List.head?_eq_getElem?, List.getLast?_eq_getElem?, ha, hb] at z
    have z' : b = Wd.mate a := Option.some.inj z
    refine h (w.length - 1) a b ?_ ?_ z'
    · rw [List.getElem?_append_left (by omega)]
      exact ha
    · rw [List.getElem?_append_right (by omega)]
      have : w.length - 1 + 1 - w.length = 0 := by omega
      rw [this]
      exact hb
  · exact Wd.strip_short (by omega)
theorem cr_core (w : List Int) : Wd.CR (Wd.core w) := by
  obtain ⟨h1, h2⟩ := strip_facts _ (Wd.freed w) (Nat.le_refl _) (Wd.rd_freed w)
  exact cr_of h1 h2
def Lst (ns : List Int) : Prop := ∀ y, Wd.Turn ns y → ¬ y < ns
theorem lst_least {ns : List Int} (hne : ns ≠ []) : Lst (leastT ns) := fun y hy => by
  obtain ⟨h1, h2⟩ := leastT_facts hne
  exact h2 y ((mem_turns hne).mpr ((leastT_turn hne).trans hy))
theorem least_lst {ns : List Int} (hne : ns ≠ []) (h : Lst ns) : leastT ns = ns := by
  obtain ⟨h1, h2⟩ := leastT_facts hne
  have a := h _ (leastT_turn hne)
  have b := h2 ns ((mem_turns hne).mpr (Wd.Turn.refl ns))
  exact (List.le_antisymm (as := leastT ns) (bs := ns) (by simpa using b) (by simpa using a))
def Rnd (ns : List Int) : Prop := ns ≠ [] ∧ closedT ns = ns
theorem rnd_iff {ns : List Int} (hne : ns ≠ []) : closedT ns = ns ↔ Wd.CR ns ∧ Lst ns := by
  constructor
  · intro h
    unfold closedT at h
    have hc : Wd.core ns ≠ [] := fun z => by
      rw [z, leastT_nil] at h
      exact hne h.symm
    have hl := Wd.turn_len (leastT_turn hc)
    rw [h] at hl
    have a1 : (Wd.core ns).length ≤ (Wd.freed ns).length := strip_len _ _ (Nat.le_refl _)
    have a2 := Wd.len_freed ns
    have e1 : Wd.freed ns = ns := freed_full ns (by omega)
    have e2 : Wd.core ns = ns := by
      unfold Wd.core
      rw [e1]
      refine strip_full ?_
      have : Wd.core ns = Wd.strip ns := by
        unfold Wd.core
        rw [e1]
      rw [← this]
      exact hl
    have cr := cr_core ns
    rw [e2] at cr h
    refine ⟨cr, ?_⟩
    rw [← h]
    exact lst_least hne
  · rintro ⟨cr, l⟩
    unfold closedT
    rw [core_of_cr cr]
    exact least_lst hne l
theorem Rnd.cr {ns : List Int} (h : Rnd ns) : Wd.CR ns := ((rnd_iff h.1).mp h.2).1
theorem Rnd.lst {ns : List Int} (h : Rnd ns) : Lst ns := ((rnd_iff h.1).mp h.2).2
theorem rnd_mk {ns : List Int} (hne : ns ≠ []) (c : Wd.CR ns) (l : Lst ns) : Rnd ns := ⟨hne, (rnd_iff hne).mpr ⟨c, l⟩⟩
theorem rnd_least {ns : List Int} (hne : ns ≠ []) (c : Wd.CR ns) : Rnd (leastT ns) :=
  rnd_mk (fun z => hne ((turn_nil (leastT_turn hne)).mpr z)) (c.turn (leastT_turn hne)) (lst_least hne)
theorem rnd_closed {x : List Int} (h : closedT x ≠ []) : Rnd (closedT x) := by
  unfold closedT at h ⊢
  have hc : Wd.core x ≠ [] := fun z => h (by rw [z, leastT_nil])
  exact rnd_least hc (cr_core x)
theorem closed_cr {ns : List Int} (c : Wd.CR ns) : closedT ns = leastT ns := by
  unfold closedT
  rw [core_of_cr c]
theorem undo_ne {ns : List Int} (h : ns ≠ []) : Wd.undo ns ≠ [] := fun z => h (List.length_eq_zero_iff.mp (by rw [← Wd.undo_len, z]; rfl))
def abt (ns : List Int) : List Int := leastT (Wd.undo ns)
theorem rnd_abt {ns : List Int} (h : Rnd ns) : Rnd (abt ns) := rnd_least (undo_ne h.1) h.cr.undo
theorem closed_abt {ns : List Int} (h : Rnd ns) : closedT (Wd.undo ns) = abt ns := closed_cr h.cr.undo
theorem abt_abt {ns : List Int} (h : Rnd ns) : abt (abt ns) = ns := by
  have t := Wd.undo_turn (leastT_turn (undo_ne h.1))
  rw [Wd.undo_undo] at t
  show leastT (Wd.undo (leastT (Wd.undo ns))) = ns
  rw [← leastT_eq t]
  exact least_lst h.1 h.lst
theorem abt_ne {ns : List Int} (h : Rnd ns) : abt ns ≠ ns := fun z => by
  have t := leastT_turn (undo_ne h.1)
  have e : leastT (Wd.undo ns) = ns := z
  rw [e] at t
  exact Wd.not_undone h.1 h.cr t
theorem abt_len (ns : List Int) : (abt ns).length = ns.length := by
  by_cases h : ns = []
  · subst h
    rfl
  · show (leastT (Wd.undo ns)).length = _
    rw [← Wd.turn_len (leastT_turn (undo_ne h)), Wd.undo_len]
theorem rnd_pow {t : List Int} (h : Rnd t) {k : Nat} (hk : 1 ≤ k) : Rnd (Wd.pow t k) := by
  refine rnd_mk (Wd.pow_ne h.1 hk) ((Wd.cr_pow h.1 hk).mpr h.cr) fun y hy g => ?_
  obtain ⟨z, hz, rfl⟩ := Wd.turn_pow hk hy
  have hl := Wd.turn_len hz
  rcases Classical.em (z < t) with q | q
  · exact h.lst z hz q
  · rcases Classical.em (t < z) with q2 | q2
    · exact List.lt_irrefl _ (List.lt_trans g (Wd.lt_pow hl hk q2))
    · have e : z = t := List.le_antisymm (as := z) (bs := t) (by simpa using q2) (by simpa using q)
      rw [e] at g
      exact List.lt_irrefl _ g
theorem rnd_of_pow {t : List Int} (ht : t ≠ []) {k : Nat} (hk : 1 ≤ k) (h : Rnd (Wd.pow t k)) : Rnd t :=
  rnd_mk ht ((Wd.cr_pow ht hk).mp h.cr) fun y hy g => h.lst _ (Wd.pow_turn k hy) (Wd.lt_pow (Wd.turn_len hy).symm hk g)
theorem abt_pow {t : List Int} (h : Rnd t) {k : Nat} (hk : 1 ≤ k) : abt (Wd.pow t k) = Wd.pow (abt t) k := by
  have r := rnd_pow (rnd_abt h) hk
  have t1 : Wd.Turn (Wd.undo (Wd.pow t k)) (Wd.pow (abt t) k) := by
    rw [Wd.undo_pow]
    exact Wd.pow_turn k (leastT_turn (undo_ne h.1))
  show leastT (Wd.undo (Wd.pow t k)) = _
  rw [leastT_eq t1]
  exact least_lst r.1 r.lst
def IsRoot (ns : List Int) (s : Nat) : Prop := 1 ≤ s ∧ s ≤ ns.length ∧ turnAt ns s = ns ∧ ∀ j, 1 ≤ j → j < s → turnAt ns j ≠ ns
theorem root_uniq {ns : List Int} {s s' : Nat} (h : IsRoot ns s) (h' : IsRoot ns s') : s = s' := by
  rcases Nat.lt_trichotomy s s' with g | g | g
  · exact absurd h.2.2.1 (h'.2.2.2 s h.1 g)
  · exact g
  · exact absurd h'.2.2.1 (h.2.2.2 s' h'.1 g)
theorem turnAt_len {ns : List Int} : turnAt ns ns.length = ns := by
  unfold turnAt
  simp
theorem root_ex {ns : List Int} (hne : ns ≠ []) : ∃ s, IsRoot ns s := by
  have key : ∀ n, ∀ m, 1 ≤ m → m ≤ ns.length → ns.length - m ≤ n → (∀ j, 1 ≤ j → j < m → turnAt ns j ≠ ns) → ∃ s, IsRoot ns s := by
    intro n
    induction n with
    | zero => exact fun m h1 h2 h3 h4 => ⟨m, h1, h2, by rw [show m = ns.length by omega]; exact turnAt_len, h4⟩
    | succ n ih =>
      intro m h1 h2 h3 h4
      by_cases hm : turnAt ns m = ns
      · exact ⟨m, h1, h2, hm, h4⟩
      · by_cases he : m = ns.length
        · exact absurd (by rw [he]; exact turnAt_len) hm
        · refine ih (m + 1) (by omega) (by omega) (by omega) fun j j1 j2 => ?_
          by_cases hj : j = m
          · rw [hj]
            exact hm
          · exact h4 j j1 (by omega)
  have := List.length_pos_iff.mpr hne
  exact key ns.length 1 (Nat.le_refl _) (by omega) (by omega) fun j j1 j2 => by omega
theorem comm_cut {u : List Int} (hu : u ≠ []) : ∀ (n : Nat) (v : List Int), v.length ≤ n → u ++ v = v ++ u → ∃ q w, v = Wd.pow u q ++ w ∧ w.length < u.length ∧ u ++ w = w ++ u
  | 0, v, hn, h => by
    have : v = [] := List.length_eq_zero_iff.mp (by omega)
    subst this
    exact ⟨0, [], rfl, List.length_pos_iff.mpr hu, by simp⟩
  | n + 1, v, hn, h => by
    by_cases hl : v.length < u.length
    · exact ⟨0, v, rfl, hl, h⟩
    · rcases Wd.app_split h with ⟨m, e1, e2⟩ | ⟨m, e1, e2⟩
      ·
        have hm : u ++ m = m ++ u := by
          rw [← e1, e2]
        have hlu := List.length_pos_iff.mpr hu
        obtain ⟨q, w, h1, h2, h3⟩ := comm_cut hu n m (by rw [e1, List.length_append] at hn; omega) hm
        refine ⟨q + 1, w, ?_, h2, h3⟩
        rw [e1, h1]
        show _ = u ++ Wd.pow u q ++ w
        rw [List.append_assoc]
      · have hm : m = [] := by
          have := congrArg List.length e1
          rw [List.length_append] at this
          exact List.length_eq_zero_iff.mp (by omega)
        subst hm
        rw [List.append_nil] at e1
        refine ⟨1, [], ?_, List.length_pos_iff.mpr hu, by simp⟩
        rw [Wd.pow_one, List.append_nil, e1]
theorem comm_pow {u w : List Int} (h : u ++ w = w ++ u) : ∀ n, Wd.pow u n ++ w = w ++ Wd.pow u n
  | 0 => by simp [Wd.pow]
  | n + 1 => by
    show u ++ Wd.pow u n ++ w = w ++ (u ++ Wd.pow u n)
    rw [List.append_assoc, comm_pow h n, ← List.append_assoc, h, List.append_assoc]
theorem take_ne {ns : List Int} {s : Nat} (h1 : 1 ≤ s) (h2 : s ≤ ns.length) : ns.take s ≠ [] := fun z => by
  have := congrArg List.length z
  rw [List.length_take, List.length_nil] at this
  omega
theorem root_pow {ns : List Int} {s : Nat} (h : IsRoot ns s) : ∃ k, 1 ≤ k ∧ ns = Wd.pow (ns.take s) k ∧ k * s = ns.length := by
  obtain ⟨h1, h2, h3, h4⟩ := h
  have hu := take_ne h1 h2
  have hlen : (ns.take s).length = s := by rw [List.length_take]; omega
  have hc : ns.take s ++ ns.drop s = ns.drop s ++ ns.take s := by
    rw [List.take_append_drop]
    exact h3.symm
  obtain ⟨q, w, e1, e2, e3⟩ := comm_cut hu _ (ns.drop s) (Nat.le_refl _) hc
  have en : ns = Wd.pow (ns.take s) (q + 1) ++ w := by
    show ns = ns.take s ++ Wd.pow (ns.take s) q ++ w
    rw [List.append_assoc, ← e1, List.take_append_drop]
  have hw : w = [] := Classical.byContradiction fun hw => by
    have hl := List.length_pos_iff.mpr hw
    refine h4 w.length hl (by omega) ?_
    have en2 := en
    rw [comm_pow e3] at en2
    have : turnAt (w ++ Wd.pow (ns.take s) (q + 1)) w.length = Wd.pow (ns.take s) (q + 1) ++ w := by
      unfold turnAt
      rw [List.drop_left, List.take_left]
    rw [← en2, ← en] at this
    exact this
  rw [hw, List.append_nil] at en
  refine ⟨q + 1, by omega, en, ?_⟩
  have := congrArg List.length en
  rw [Wd.pow_len, hlen] at this
  exact this.symm
theorem turnAt_pow {t : List Int} {k j : Nat} (hk : 1 ≤ k) (hj : j ≤ t.length) : turnAt (Wd.pow t k) j = Wd.pow (turnAt t j) k := by
  obtain ⟨k, rfl⟩ : ∃ i, k = i + 1 := ⟨k - 1, by omega⟩
  have e : t = t.take j ++ t.drop j := (List.take_append_drop j t).symm
  have hl : (t.take j).length = j := by rw [List.length_take]; omega
  have e1 : Wd.pow t (k + 1) = t.take j ++ (t.drop j ++ Wd.pow t k) := by
    show t ++ Wd.pow t k = _
    rw [← List.append_assoc, List.take_append_drop]
  unfold turnAt
  rw [e1, List.drop_left' hl, List.take_left' hl]
  have := Wd.pow_conj (t.take j) (t.drop j) k
  rw [List.take_append_drop] at this
  exact this
theorem pow_inj {x y : List Int} (hl : x.length = y.length) {k : Nat} (hk : 1 ≤ k) (h : Wd.pow x k = Wd.pow y k) : x = y := by
  obtain ⟨k, rfl⟩ : ∃ i, k = i + 1 := ⟨k - 1, by omega⟩
  exact (List.append_inj (show x ++ Wd.pow x k = y ++ Wd.pow y k from h) hl).1
def Prim (t : List Int) : Prop := IsRoot t t.length
theorem turnAt_length (t : List Int) (j : Nat) : (turnAt t j).length = t.length := (Wd.turn_len (turnAt_turn j)).symm
theorem root_of_pow {t : List Int} (h : Prim t) {k : Nat} (hk : 1 ≤ k) : IsRoot (Wd.pow t k) t.length := by
  obtain ⟨h1, h2, h3, h4⟩ := h
  refine ⟨h1, ?_, ?_, fun j j1 j2 z => ?_⟩
  · rw [Wd.pow_len]
    exact Nat.le_mul_of_pos_left _ (by omega)
  · rw [turnAt_pow hk (Nat.le_refl _), h3]
  · rw [turnAt_pow hk (by omega)] at z
    exact h4 j j1 j2 (pow_inj (turnAt_length t j) hk z)
theorem prim_root {ns : List Int} {s : Nat} (h : IsRoot ns s) : Prim (ns.take s) := by
  obtain ⟨k, k1, e, _⟩ := root_pow h
  obtain ⟨h1, h2, h3, h4⟩ := h
  have hlen : (ns.take s).length = s := by rw [List.length_take]; omega
  refine ⟨by omega, Nat.le_refl _, turnAt_len, fun j j1 j2 z => ?_⟩
  refine h4 j j1 (by omega) ?_
  have := turnAt_pow (t := ns.take s) (k := k) (j := j) k1 (by omega)
  rw [z, ← e] at this
  exact this
theorem prim_iff {t : List Int} (ht : t ≠ []) : Prim t ↔ ∀ y k, t = Wd.pow y k → k ≤ 1 := by
  constructor
  · intro h y k e
    refine Classical.byContradiction fun g => ?_
    have hy : y ≠ [] := fun z => ht (by
      rw [e, z]
      have : ∀ n, Wd.pow ([] : List Int) n = [] := fun n => by
        induction n with
        | zero => rfl
        | succ n ih => exact ih
      exact this k)
    have hl := List.length_pos_iff.mpr hy
    have hl2 : t.length = k * y.length := by rw [e, Wd.pow_len]
    have h3 : 2 * y.length ≤ k * y.length := Nat.mul_le_mul_right _ (by omega)
    refine h.2.2.2 y.length hl (by omega) ?_
    rw [e, turnAt_pow (by omega) (Nat.le_refl _), turnAt_len]
  · intro h
    obtain ⟨s, hs⟩ := root_ex ht
    obtain ⟨k, k1, e, el⟩ := root_pow hs
    have k2 := h _ _ e
    have : k = 1 := by omega
    rw [this, Nat.one_mul] at el
    unfold Prim
    rw [← el]
    exact hs
theorem prim_turn {t z : List Int} (ht : t ≠ []) (h : Prim t) (k : Wd.Turn t z) : Prim z := by
  have hz : z ≠ [] := fun q => ht ((turn_nil k).mpr q)
  refine (prim_iff hz).mpr fun y n e => ?_
  by_cases hn : n = 0
  · omega
  · have k' := k.symm
    rw [e] at k'
    obtain ⟨x, _, e2⟩ := Wd.turn_pow (by omega) k'
    exact (prim_iff ht).mp h x n e2
theorem prim_undo {t : List Int} (ht : t ≠ []) (h : Prim t) : Prim (Wd.undo t) := by
  refine (prim_iff (undo_ne ht)).mpr fun y n e => ?_
  refine (prim_iff ht).mp h (Wd.undo y) n ?_
  rw [← Wd.undo_pow, ← e, Wd.undo_undo]
theorem prim_abt {t : List Int} (ht : t ≠ []) (h : Prim t) : Prim (abt t) := prim_turn (undo_ne ht) (prim_undo ht h) (leastT_turn (undo_ne ht))
theorem root_abt {ns : List Int} {s s' : Nat} (r : Rnd ns) (h : IsRoot ns s) (h' : IsRoot (abt ns) s') : s' = s ∧ (abt ns).take s' = abt (ns.take s) := by
  obtain ⟨k, k1, e, el⟩ := root_pow h
  have hne := take_ne h.1 h.2.1
  have hlen : (ns.take s).length = s := by rw [List.length_take]; have := h.2.1; omega
  have rt : Rnd (ns.take s) := rnd_of_pow hne k1 (by rw [← e]; exact r)
  have ea : abt ns = Wd.pow (abt (ns.take s)) k := by
    conv => lhs; rw [e]
    exact abt_pow rt k1
  have hr := root_of_pow (prim_abt hne (prim_root h)) k1
  rw [← ea, abt_len, hlen] at hr
  have es := root_uniq h' hr
  refine ⟨es, ?_⟩
  rw [es, ea]
  obtain ⟨k, rfl⟩ : ∃ i, k = i + 1 := ⟨k - 1, by omega⟩
  show (abt (ns.take s) ++ Wd.pow (abt (ns.take s)) k).take s = _
  exact List.take_left' (by rw [abt_len, hlen])
theorem root_root {ns : List Int} {s s' : Nat} (h : IsRoot ns s) (h' : IsRoot (ns.take s) s') : s' = s := by
  have := root_uniq h' (prim_root h)
  rw [this, List.length_take]
  have := h.2.1
  omega
theorem rnd_root {ns : List Int} {s : Nat} (r : Rnd ns) (h : IsRoot ns s) : Rnd (ns.take s) := by
  obtain ⟨k, k1, e, el⟩ := root_pow h
  exact rnd_of_pow (take_ne h.1 h.2.1) k1 (by rw [← e]; exact r)
def IsPer (ns : List Int) (s : Nat) : Prop := ns.length % s = 0 ∧ Wd.pow (ns.take s) (ns.length / s) = ns
theorem per_turn {ns : List Int} {s : Nat} (h1 : 1 ≤ s) (h2 : s ≤ ns.length) (h : IsPer ns s) : turnAt ns s = ns := by
  have hk : 1 ≤ ns.length / s := Nat.div_pos h2 (by omega)
  have hlen : (ns.take s).length = s := by rw [List.length_take]; omega
  have := turnAt_pow (t := ns.take s) (k := ns.length / s) (j := s) hk (by omega)
  have e2 : turnAt (ns.take s) s = ns.take s := by
    have := turnAt_len (ns := ns.take s)
    rw [hlen] at this
    exact this
  rw [e2, h.2] at this
  exact this
theorem root_per {ns : List Int} {s : Nat} (h : IsRoot ns s) : IsPer ns s := by
  obtain ⟨k, k1, e, el⟩ := root_pow h
  have hs := h.1
  refine ⟨?_, ?_⟩
  · rw [← el]
    exact Nat.mul_mod_left _ _
  · have : ns.length / s = k := by rw [← el]; exact Nat.mul_div_cancel _ (by omega)
    rw [this]
    exact e.symm
theorem root_of_per {ns : List Int} {s : Nat} (h1 : 1 ≤ s) (h2 : s ≤ ns.length) (h : IsPer ns s) (no : ∀ j, 1 ≤ j → j < s → ¬ IsPer ns j) : IsRoot ns s := by
  have hne : ns ≠ [] := fun z => by
    rw [z] at h2
    simp at h2
    omega
  obtain ⟨r, hr⟩ := root_ex hne
  have t := per_turn h1 h2 h
  rcases Nat.lt_trichotomy r s with g | g | g
  · exact absurd (root_per hr) (no r hr.1 g)
  · rw [← g]
    exact hr
  · exact absurd t (hr.2.2.2 s h1 g)
end Tt
set_option maxRecDepth 100000
set_option maxHeartbeats 4000000
namespace Tt
open PySem L2
open LamX (Tabs TabS TabB ExtN CodeO tLam)
structure FnG (P : Program) (w : World) (K : PySem.W.Frag) (mg : Str → Option Value) (base : Heap) (CX : CXT) (k : Nat) (f : Addr) (fd : FuncData) (ps : List Str) (sp : Sp) : Prop where
  len : ∀ vs H Q E, sp vs H Q E → vs.length = ps.length
  run : ∀ (A : Around) (outer : List Env) (s : Shared) (H : Hp) (args : Args) (us : List Value) (vs : List V) (Q : VK) (E : XK), A.guards = some [] → Room k A → Env0 P w K mg base A outer s H → BindsTo s fd args (ps.zip us) → Vals vs us → sp vs H Q E →
    codeAny (model P w) A (.call (.ref f) args) (CR CX outer P w H s Q E) s
theorem FunC.okG {P : Program} {w : World} {K : PySem.W.Frag} {mg : Str → Option Value} {base : Heap} {x qual : Str} {st : Stmt} {f : Addr} {fd : FuncData} {cdv : Value} {N ps : List Str} {k : Nat} {sp : Sp} (F : FunC K x qual st f fd cdv) (S : FnScope N ps (defScope st)) (len : ∀ vs H Q E, sp vs H Q E → vs.length = ps.length)
    (body : ∀ (A : Around) (outer : List Env) (s : Shared) (H : Hp) (vs : List V) (Q : VK) (E : XK), A.guards = some [] → Room k (A.deeper (PyProof.Rows.envOfC qual (defScope st) s.heap.objs.size f cdv)) → sp vs H Q E →
      ∃ t, PSs (cxOf CX0 P w K mg base N qual (defScope st) f cdv A outer s H E).nox (defBody st) t ∧ t { nx := fun _ H' => Q .non H', rt := Q } (L2.start N vs) H) : FnG P w K mg base CX0 (k + 1) f fd ps sp := by
  refine ⟨len, fun A outer s H args us vs Q E hg hr e0 hb r hsp => ?_⟩
  obtain ⟨oc, od, kV, doc, pm, an, ct, osl, rfl, lk, hc⟩ := F.ex
  refine LamX.run_ofS (N := N) (ps := ps) (k := k) (us := us) (vs := vs) lk hc S hr e0 hb r (len _ _ _ _ hsp) fun hr' => ?_
  obtain ⟨t, h1, h2⟩ := body A outer s H vs Q E hg hr' hsp
  exact ⟨t, h1.nox, h2⟩
theorem FunG {P : Program} {w : World} {K : PySem.W.Frag} {mg : Str → Option Value} {base : Heap} {x qual : Str} {st : Stmt} {f : Addr} {fd : FuncData} {N ps : List Str} {k : Nat} {sp : Sp} (F : Fun K x qual st f fd) (S : FnScope N ps (defScope st)) (len : ∀ vs H Q E, sp vs H Q E → vs.length = ps.length)
    (body : ∀ (cdv : Value) (A : Around) (outer : List Env) (s : Shared) (H : Hp) (vs : List V) (Q : VK) (E : XK), A.guards = some [] → Room k (A.deeper (PyProof.Rows.envOfC qual (defScope st) s.heap.objs.size f cdv)) → sp vs H Q E →
      ∃ t, PSs (cxOf CX0 P w K mg base N qual (defScope st) f cdv A outer s H E).nox (defBody st) t ∧ t { nx := fun _ H' => Q .non H', rt := Q } (L2.start N vs) H) : FnG P w K mg base CX0 (k + 1) f fd ps sp := by
  refine ⟨len, fun A outer s H args us vs Q E hg hr e0 hb r hsp => ?_⟩
  obtain ⟨oc, od, kV, doc, pm, an, cdv, ct, osl, rfl, lk, hc⟩ := F.ex
  refine LamX.run_ofS (N := N) (ps := ps) (k := k) (us := us) (vs := vs) lk hc S hr e0 hb r (len _ _ _ _ hsp) fun hr' => ?_
  obtain ⟨t, h1, h2⟩ := body cdv A outer s H vs Q E hg hr' hsp
  exact ⟨t, h1.nox, h2⟩
section
variable {X : Cx} {CX : CXT} {k : Nat} {f : Addr} {fd : FuncData} {ps : List Str} {sp : Sp} {ds : List Value} {dvs : List V} {E : XK} {x : Str} {p pos : Pos} {e : Expr} {es : List Expr} {t : TA}
theorem pe_callG (F : FnG X.prog X.w X.K X.mg X.base CX k f fd ps sp) (hgd : X.A.guards = some []) (hr : Room k X.A) (hg : Gl X x) (hm : X.mg x = some (.ref f)) (hk : PySem.W.keepIn X.K (.ref f) = true) (hb : Binds X.K fd ps ds) (hd : Vals dvs ds) (hx : Passes CX X E)
    (ha : PA X (e :: es) t) (hdb : (x == ("__debug__" : Str)) = false := by decide) (he : starEach (e :: es) X.env = (false, eval e X.env) :: starEach es X.env := by rfl) (hpl : (backTo pos (starEach es X.env)).any (·.1) = false := by rfl) :
    PE X (.Call (.Name x p) (e :: es) [] pos) (tCall sp dvs E t) := by
  refine ⟨fun pins s σ H Q I h => ?_⟩
  refine wpAny_Call_Name_kw (ld_glob I hg hm ?_ hdb)
  refine PySem.W.callWith_K (h₀ := X.base) I.ok.mod.kin hk (thn (ha.run pos pins s σ H _ I h) fun us s1 ⟨vs, H1, I1, r, q⟩ => ⟨I1.kIn, ?_⟩) he hpl
  have r2 : Vals (vs ++ dvs) (us ++ ds) := r.append hd
  have hl : (us ++ ds).length = ps.length := by rw [← r2.length]; exact F.len _ _ _ _ q
  refine wpAny_call (codeAny_mono (F.run X.A X.stack s1 H1 ⟨us, []⟩ (us ++ ds) (vs ++ dvs) Q E hgd hr I1.env0 (hb s1 us I1.kIn hl) r2 q) fun r s' hq => ?_)
  cases r with
  | error e => exact hx pins σ H1 s1 e s' I1 hq
  | ok fl =>
    cases fl with
    | ret u => exact I1.after hq
    | next => exact False.elim hq
    | brk => exact False.elim hq
    | cont => exact False.elim hq
end
section
variable {X : Cx} {E : XK}
theorem pe_caught (T : Txt X.K X.mg) {Ts : List (Addr × Str)} {c P : Addr} {k : Nat} {ps : Arguments} {bd : Expr} {lsc : Scope} {t : XK → TE} {p lpos pos : Pos} (hg : Gl X "_law_caught") (TB : TabB X.base X.mg c P) (hcode : X.env.code = .ref c) (hmT : (P, X.env.qual ++ "<lambda>") ∈ Ts) (hu : ∀ p ∈ Ts, p.1 = P → p.2 = X.env.qual ++ "<lambda>")
    (hr : Room (k + 2) X.A) (L : LamX.LamS X.env.scope lsc) (hdef : defaultsOf ps X.env = ([], []))
    (noArgs : ∀ (q : Str) (cl : List (Str × Addr)) (pm cv ctv : Value), bindArgs (PySem.W.kla_fn "<lambda>" q ps bd lsc cl pm cv ctv) ⟨[], []⟩ = pure [])
    (body : ∀ (A : Around) (outer : List Env) (s : Shared) (H : Hp) (E : XK) (fl co : Addr), Room k (A.deeper (LamX.lamEnv X lsc s.heap.objs.size fl co)) → PE (LamX.lamCx X A outer s H E lsc fl co) bd (t E)) :
    PE X (.Call (.Name "_law_caught" p) [.Lambda ps bd lsc lpos] [] pos) (tLam Ts (TTc X.K T.RoundError.C) t) := by
  obtain ⟨oc, od, kV, doc, pm, an, cdv, ct, osl, e, lk, hc⟩ := T.l_caught.F.ex
  have hb := T.l_caught.b
  rw [e] at lk hb
  exact LamX.tt_lamcall hg T.l_caught.g T.l_caught.k lk hc hb sc_l_caught rfl (Or.inl rfl) (caught_gives T.RoundError.g) TB hcode hmT hu hr L hdef noArgs body
theorem lamP {A : Around} {outer : List Env} {s : Shared} {H : Hp} {lsc : Scope} {fl co : Addr} : Passes (L2.CX X.prog X.w) (LamX.lamCx X A outer s H E lsc fl co) E := passes_call (takes_of rfl rfl rfl rfl) fun _ _ _ _ h => h
end
section
variable {P : Program} {w : World} {K : PySem.W.Frag} {mg : Str → Option Value} {base : Heap}
theorem sqT_ext {H H' : Hp} {a : Addr} {xs : List V} (e : ExtN H H') (h : SqT K H a xs) : SqT K H' a xs := by
  rcases h with (h | ⟨o, h⟩) | h
  · exact .inl (.inl (e _ _ h fun _ z => nomatch z))
  · exact .inl (.inr ⟨o, e _ _ h fun _ z => nomatch z⟩)
  · exact .inr h
theorem sqL_ext {H H' : Hp} {a : Addr} {xs : List V} (e : ExtN H H') (h : SqL K H a xs) : SqL K H' a xs := by
  rcases h with (h | ⟨o, h⟩) | h
  · exact .inl (.inl (e _ _ h fun _ z => nomatch z))
  · exact .inl (.inr ⟨o, e _ _ h fun _ z => nomatch z⟩)
  · exact .inr h
theorem tyB_ext {H H' : Hp} {x : V} {S : String} (t : TyB K H x S) (e : ExtN H H') : TyB K H' x S := by
  cases t with
  | non => exact .non
  | bl b => exact .bl b
  | int i => exact .int i
  | str x => exact .str x
  | byt b => exact .byt b
  | @lst a xs h =>
    have h' : SqL K H' a xs := sqL_ext e h
    exact .lst h'
  | tup h => exact .tup (sqT_ext e h)
  | dK h => exact .dK (e _ _ h fun _ z => nomatch z)
theorem wv_ext {m : Int} {row : List Int} {H H' : Hp} {x : V} {b : Bool} (h : WV K m row H x b) (e : ExtN H H') : WV K m row H' x b := by
  cases h with
  | tup h n ty => exact .tup (sqT_ext e h) n fun y hy => (ty y hy).elim fun S t => ⟨S, tyB_ext t e⟩
  | non h n => exact .non (tyB_ext h e) n
theorem fzT_ext {H H' : Hp} {a : Addr} {xs : List V} (e : ExtN H H') (h : FzT H a xs) : FzT H' a xs := by
  obtain ⟨ob, h1, h2⟩ := h
  exact ⟨ob, e _ _ h1 (fun _ z => nomatch z), h2⟩
theorem skAt_ext {T : Txt K mg} {H H' : Hp} {p : Addr} {row : List Int} (h : SkAt T H p row) (e : ExtN H H') : SkAt T H' p row := by
  obtain ⟨dx, r, q, h1, h2, h3⟩ := h
  exact ⟨dx, r, q, e _ _ h1 (fun _ z => nomatch z), fzT_ext e h2, fzT_ext e h3⟩
theorem drOk_ext {D : Dw} {H H' : Hp} (h : DrOk D H) (e : ExtN H H') : DrOk D H' := by
  obtain ⟨ls, cs, r, t, d⟩ := h
  exact ⟨ls, cs, r, t, e _ _ d.hd (fun _ z => nomatch z), e _ _ d.hl (fun _ z => nomatch z), e _ _ d.hc (fun _ z => nomatch z), d.ne, d.nl, d.nc⟩
def KpN (D : Dw) (H H' : Hp) : Prop := ∀ b o, H b = some o → b ≠ D.d → b ≠ D.l → (∀ ps, o ≠ .tbl ps) → H' b = some o
theorem KpN.of {D : Dw} {H H' : Hp} (k : Kp D H H') : KpN D H H' := fun b o h n m _ => k b o h n m
theorem KpN.ext {D : Dw} {H H' : Hp} (k : ExtN H H') : KpN D H H' := fun b o h _ _ t => k b o h t
theorem KpN.trans {D : Dw} {H H1 H2 : Hp} (a : KpN D H H1) (b : KpN D H1 H2) : KpN D H H2 := fun c o h n m t => b c o (a c o h n m t) n m t
theorem tabs_kp {D : Dw} {Ts : List (Addr × Str)} {H H' : Hp} (t : Tabs Ts H) (dr : DrOk D H) (k : Kp D H H') : Tabs Ts H' := fun p hp => by
  obtain ⟨ps, h1, h2, h3⟩ := t p hp
  obtain ⟨ls, cs, r, tt, d⟩ := dr
  refine ⟨ps, k _ _ h1 (d.dne h1 fun _ z => nomatch z) (d.lne h1 fun _ z => nomatch z), h2, fun pos cv hc => ?_⟩
  obtain ⟨c, e1, e2⟩ := h3 pos cv hc
  exact ⟨c, e1, k _ _ e2 (d.dne e2 fun _ z => nomatch z) (d.lne e2 fun _ z => nomatch z)⟩
end
end Tt
set_option maxRecDepth 100000
set_option maxHeartbeats 4000000
namespace Tt
open PySem L2
theorem nil_i {σ : L2.St} {H : Hp} {Q : List V → Hp → Prop} (h : Q [] H) : tNil σ H Q := h
theorem tC_i {v : V} {σ : L2.St} {H : Hp} {Q : VK} (h : Q v H) : tC v σ H Q := h
theorem tcn {σ : L2.St} {H : Hp} {ta : TE} {tr : TA} {Q : List V → Hp → Prop} (h : ta σ H fun x H1 => tr σ H1 fun xs H2 => Q (x :: xs) H2) : tCons ta tr σ H Q := h
theorem tlst {σ : L2.St} {H : Hp} {t : TA} {Q : VK} (h : t σ H fun xs H1 => xs.length ≤ sizeLine ∧ ∀ p, H1 p = none → Q (.ref p) (upd H1 p (.lst xs))) : tLst t σ H Q := h
theorem ifn_i {σ : L2.St} {H : Hp} {r : List V → Hp → VK → Prop} {t : TA} {a b : TS} {D : Ends} (h : t σ H fun xs H1 => r xs H1 fun x H2 => ∃ c, x = .bl c ∧ if (!c) = true then a D σ H2 else b D σ H2) : tIfS (tNot (tB (tCB r t))) a b D σ H := h
theorem tcb_i {σ : L2.St} {H : Hp} {r : List V → Hp → VK → Prop} {t : TA} {D : Ends} (h : t σ H fun xs H1 => r xs H1 D.rt) : tRet (tCB r t) D σ H := h
theorem tcb_e {σ : L2.St} {H : Hp} {r : List V → Hp → VK → Prop} {t : TA} {Q : VK} (h : t σ H fun xs H1 => r xs H1 Q) : tCB r t σ H Q := h
theorem tpart_i {σ : L2.St} {H : Hp} {t : TE} {Q : Option Int → Hp → Prop} (h : t σ H fun x H1 => ∃ i, x = .int i ∧ Q (some i) H1) : tPart t σ H Q := h
theorem rI_div {i j v : Int} {H : Hp} {Q : VK} (hv : i / j = v) (c : CDiv i j) (h : Q (.int v) H) : rI CDiv (fun i j => V.int (i / j)) (.int i) (.int j) H Q := ⟨i, j, rfl, rfl, c, by subst hv; exact h⟩
theorem rI0_add {i j v : Int} {H : Hp} {Q : VK} (hv : i + j = v) (h : Q (.int v) H) : rI0 (fun i j => V.int (i + j)) (.int i) (.int j) H Q := ⟨i, j, rfl, rfl, by subst hv; exact h⟩
theorem rI0_sub {i j v : Int} {H : Hp} {Q : VK} (hv : i - j = v) (h : Q (.int v) H) : rI0 (fun i j => V.int (i - j)) (.int i) (.int j) H Q := ⟨i, j, rfl, rfl, by subst hv; exact h⟩
theorem rI_mulV {i j v : Int} {C : Int → Int → Prop} {H : Hp} {Q : VK} (e : i * j = v) (c : C i j) (q : Q (.int v) H) : rI C (fun i j => .int (i * j)) (.int i) (.int j) H Q := ⟨i, j, rfl, rfl, c, by subst e; exact q⟩
theorem cb_max {i j v : Int} {H : Hp} {Q : VK} (hv : (if j > i then j else i) = v) (h : Q (.int v) H) : ∃ i' j', [V.int i, V.int j] = [V.int i', V.int j'] ∧ Q (V.int (if j' > i' then j' else i')) H := ⟨i, j, rfl, by subst hv; exact h⟩
theorem cb_min {i j v : Int} {H : Hp} {Q : VK} (hv : (if j < i then j else i) = v) (h : Q (.int v) H) : ∃ i' j', [V.int i, V.int j] = [V.int i', V.int j'] ∧ Q (V.int (if j' < i' then j' else i')) H := ⟨i, j, rfl, by subst hv; exact h⟩
section
variable {K : PySem.W.Frag}
theorem slK_to {xs : List V} {a : Addr} {H : Hp} {Q : VK} {n : Nat} (h : H a = some (.tup xs)) (q : ∀ b H', Same H H' → H' b = some (.tup (xs.take n)) → Q (.ref b) H') : rSlA K (.ref a) none (some (n : Int)) H Q :=
  slT_toB (SqT.of h) fun b H' s _ t => q b H' s (t h)
theorem slK_from {xs : List V} {a : Addr} {H : Hp} {Q : VK} {n : Nat} (h : H a = some (.tup xs)) (q : ∀ b H', Same H H' → H' b = some (.tup (xs.drop n)) → Q (.ref b) H') : rSlA K (.ref a) (some (n : Int)) none H Q :=
  slT_fromB (SqT.of h) fun b H' s _ t => q b H' s (t h)
theorem catK {xs ys : List V} {a b : Addr} {H : Hp} {Q : VK} (ha : H a = some (.tup xs)) (hb : H b = some (.tup ys)) (hz : xs.length + ys.length ≤ sizeLine) (q : ∀ c H', Same H H' → H' c = some (.tup (xs ++ ys)) → Q (.ref c) H') : rCatA K (.ref a) (.ref b) H Q :=
  catA_B (SqT.of ha) (SqT.of hb) hz fun c H' s _ t => q c H' s (t ha hb)
theorem repK {xs : List V} {a : Addr} {k : Int} {H : Hp} {Q : VK} (h : H a = some (.tup xs)) (hne : xs ≠ []) (h1 : 1 ≤ k) (h2 : k ≤ 1000) (hz : xs.length ≤ 1000)
    (q : ∀ c H', Same H H' → H' c = some (.tup (List.replicate k.toNat xs).flatten) → Q (.ref c) H') : rRepA K (.ref a) (.int k) H Q :=
  ⟨a, k, xs, rfl, rfl, SqT.of h, hne, h1, h2, hz, fun e => q a H (fun _ _ z => z) (by subst e; simpa using h), fun _ p hp => q p _ (same_new hp) upd_same⟩
theorem repV (t : List Int) (n : Nat) : (List.replicate n (t.map V.int)).flatten = (Wd.pow t n).map V.int := by
  rw [← Wd.pow_rep, List.map_flatten, List.map_replicate]
theorem same_tup {H H' : Hp} {a : Addr} {o : HO} (s : Same H H') (h : H a = some o) : H' a = some o := s _ _ h
theorem ixN_n {n j : Nat} (h : j < n) : ixN n (j : Int) = some j := by
  unfold ixN
  rw [if_pos (by omega), if_pos (by omega)]
  rfl
theorem atI_n {xs : List V} {j : Nat} {v : V} (h : xs[j]? = some v) : atI xs (j : Int) = some v := by
  have hl := (List.getElem?_eq_some_iff.mp h).1
  unfold atI
  rw [ixN_n hl]
  exact h
theorem atI_lastN {st : List Int} (h : st ≠ []) : ∃ a, st.getLast? = some a ∧ atI (st.map V.int) (((st.map V.int).length : Int) - 1) = some (V.int a) := by
  have l0 : 0 < st.length := List.length_pos_iff.mpr h
  have hl : st.length - 1 < st.length := by omega
  refine ⟨st[st.length - 1], by rw [List.getLast?_eq_getElem?, List.getElem?_eq_getElem hl], ?_⟩
  rw [List.length_map, show (st.length : Int) - 1 = ((st.length - 1 : Nat) : Int) by omega]
  exact atI_n (ints_get (List.getElem?_eq_getElem hl))
theorem rgV_from {a b : Nat} (h : a ≤ b) : rgV (a : Int) (b : Int) = ((rgI b).drop a).map V.int := by
  unfold rgV rgI
  apply List.ext_getElem?
  intro i
  have e : ((b : Int) - (a : Int)).toNat = b - a := by omega
  rw [e, List.getElem?_map, List.getElem?_map, List.getElem?_drop, List.getElem?_map]
  by_cases c : i < b - a
  · rw [List.getElem?_range c, List.getElem?_range (by omega)]
    show some (V.int ((a : Int) + (i : Int))) = some (V.int ((a + i : Nat) : Int))
    rw [show (a : Int) + (i : Int) = ((a + i : Nat) : Int) by omega]
  · rw [List.getElem?_eq_none (by rw [List.length_range]; omega), List.getElem?_eq_none (by rw [List.length_range]; omega)]
    rfl
theorem rgI_cons {n : Nat} (h : 0 < n) : rgI n = 0 :: (rgI n).drop 1 := by
  obtain ⟨m, rfl⟩ := Nat.exists_eq_succ_of_ne_zero (by omega : n ≠ 0)
  unfold rgI
  rw [List.range_succ_eq_map]
  rfl
theorem eqX {a b : Int} (h0 : 0 ≤ b) (h1 : b < 12) : decide (V.int a = V.int (Builtin.bitXor b 1)) = true ↔ a = Wd.mate b := by
  rw [xor_mate h0 h1]
  simp
def Fb (bs : List Int) (i : Nat) : List Int := (rgI i).filter fun x => decide (x ∉ bs)
theorem rgI_snoc (i : Nat) : rgI (i + 1) = rgI i ++ [(i : Int)] := by
  unfold rgI
  rw [List.range_succ, List.map_append]
  rfl
theorem Fb_yes {bs : List Int} {i : Nat} (h : (i : Int) ∉ bs) : Fb bs (i + 1) = Fb bs i ++ [(i : Int)] := by
  unfold Fb
  rw [rgI_snoc, List.filter_append]
  simp [h]
theorem Fb_no {bs : List Int} {i : Nat} (h : (i : Int) ∈ bs) : Fb bs (i + 1) = Fb bs i := by
  unfold Fb
  rw [rgI_snoc, List.filter_append]
  simp [h]
theorem Fb_mem {bs : List Int} {x : Int} {i : Nat} : x ∈ Fb bs i ↔ (0 ≤ x ∧ x < i) ∧ x ∉ bs := by
  unfold Fb
  rw [List.mem_filter, perm_mem (List.Perm.refl (rgI i))]
  simp
theorem Fb_len (bs : List Int) (i : Nat) : (Fb bs i).length ≤ i := by
  unfold Fb
  exact Nat.le_trans (List.length_filter_le _ _) (Nat.le_of_eq (rgI_len i))
theorem rd_one (n : Int) : Wd.Rd [n] := fun i a b h1 h2 => by simp at h2
theorem rd_snoc {fs : List Int} {v la : Int} (c : Wd.Rd fs) (hl : fs.getLast? = some la) (hv : v ≠ Wd.mate la) : Wd.Rd (fs ++ [v]) := fun i a b h1 h2 => by
  have hla := Wd.last_get.mp hl
  have li := (List.getElem?_eq_some_iff.mp h2).1
  rw [List.length_append, List.length_singleton] at li
  by_cases hi : i + 1 < fs.length
  · rw [List.getElem?_append_left (by omega)] at h1
    rw [List.getElem?_append_left hi] at h2
    exact c i a b h1 h2
  · have hn : 0 < fs.length := List.length_pos_iff.mpr hla.1
    rw [List.getElem?_append_left (by omega)] at h1
    rw [List.getElem?_append_right (by omega)] at h2
    have e0 : i + 1 - fs.length = 0 := by omega
    have e1 : i = fs.length - 1 := by omega
    rw [e0] at h2
    rw [e1, hla.2] at h1
    have h2' : v = b := Option.some.inj h2
    have h1' : la = a := Option.some.inj h1
    rw [← h2', ← h1']
    exact hv
theorem flatI : ∀ bs : List Int, (bs.map V.int).all flatV = true
  | [] => rfl
  | _ :: l => flatI l
theorem inV_ints (z : Int) (ns : List Int) : inV (.int z) (ns.map V.int) = decide (z ∈ ns) := by
  unfold inV
  rw [List.any_map]
  induction ns with
  | nil => rfl
  | cons a ns ih =>
    rw [List.any_cons, ih]
    show ((a == z) || decide (z ∈ ns)) = _
    by_cases h : a = z
    · subst h
      simp
    · have h2 : (a == z) = false := by simpa using h
      rw [h2, Bool.false_or]
      have h3 : ¬ z = a := fun e => h e.symm
      simp [h3]
end
end Tt
set_option maxRecDepth 100000
set_option maxHeartbeats 4000000
namespace Tt
open PySem L2
section
variable {P : Program} {w : World} {K : PySem.W.Frag} {mg : Str → Option Value} {base : Heap}
def spRow0 : Sp := fun vs H Q _ => ∃ (D : Dw) (n : Nat), vs = [.ref D.d, .int (n : Int)] ∧ 1 ≤ n ∧ n ≤ 6 ∧ DrOk D H ∧
  ∀ (row : List Int) q H', row.Perm (rgI (2 * n)) → row[0]? = some 0 → DrOk D H' → Kp D H H' → FzT H' q (row.map V.int) → Q (.ref q) H'
theorem ok_l_row (T : Txt K mg) : FnOk P w K mg base CX0 4 T.l_row.a T.l_row.fd ["draw", "bands"] spRow0 := by
  refine T.l_row.F.ok sc_l_row (fun vs H Q E h => ?_) (fun cdv A outer s H vs Q E hr h => ?_)
  · obtain ⟨D, n, rfl, _⟩ := h
    rfl
  · obtain ⟨D, n, rfl, n1, n6, dr, k⟩ := h
    have nd := sc_l_row.nd
    refine ⟨_, (pss_one (ps_ret (pe_op op_catF (pe_tup (pa_cons pe_int pa_nil)) (pe_callTy call_tuple_ofF (by rfl) T.ztuple (by decide +kernel) (pa_cons (pe_call (ok_l_shuffled T) (hr.mono (by decide)) (by rfl) T.l_shuffled.g T.l_shuffled.k T.l_shuffled.b .nil pass0 (pa_cons (pv 0) (pa_cons (pe_listRg rfl (by rfl) T.zlist (prg_2 (by rfl) T.zrange pe_int (pe_op op_mul pe_int (pv 1)))) pa_nil))) pa_nil))))), ?_⟩
    refine ⟨(by show 1 ≤ sizeLine; decide), fun t0 ht0 => ?_⟩
    have d1 := dr.new (o := .tup [.int 0]) ht0
    have e0 : (upd H t0 (.tup [.int 0])) t0 = some (.tup [.int 0]) := upd_same
    have k1 : Kp D H (upd H t0 (.tup [.int 0])) := Kp.new ht0
    generalize upd H t0 (.tup [.int 0]) = H1 at d1 e0 k1
    refine ⟨_, rfl, _, rfl, _, _, rfl, rfl, .inl ⟨by decide, by decide⟩, _, _, rfl, rfl, RgOk.of_le (by omega) (by omega) (by omega) (by omega), fun l hl => ?_⟩
    have ev : rgV 1 (2 * (n : Int)) = ((rgI (2 * n)).drop 1).map V.int := by
      have := rgV_from (a := 1) (b := 2 * n) (by omega)
      rw [show ((2 * n : Nat) : Int) = 2 * (n : Int) by omega] at this
      exact this
    rw [ev]
    have d2 := d1.new (o := .lst (((rgI (2 * n)).drop 1).map V.int)) hl
    have e2 := upk (u := .lst (((rgI (2 * n)).drop 1).map V.int)) hl e0
    have k2 : Kp D H (upd H1 l (.lst (((rgI (2 * n)).drop 1).map V.int))) := k1.trans (Kp.new hl)
    refine ⟨D, l, ((rgI (2 * n)).drop 1).map V.int, rfl, .inl (SqL.of upd_same), by rw [List.length_map, List.length_drop, rgI_len]; omega, fun v hv => (by obtain ⟨i, _, rfl⟩ := List.mem_map.mp hv; exact .int i), d2, fun ys q H3 pmv d3 k3 hq h3 => ?_⟩
    obtain ⟨ns', pm, rfl⟩ := permV_ints pmv
    have e3 := d2.tup k3 e2
    refine ⟨q, _, rfl, .inl ⟨SqL.of h3, fun t ob ht hd => ?_⟩⟩
    have e4 := upk (u := .frz ob (.tup (ns'.map V.int))) ht e3
    have hlen := pm.length_eq
    rw [List.length_drop, rgI_len] at hlen
    refine ⟨t0, t, _, _, rfl, rfl, SqT.of e4, (FzT.new hd).sq, by simp, ?_, fun z => ?_, fun _ r ob2 hr2 hob => ?_⟩
    · rw [List.length_map]
      show 1 + _ ≤ sizeLine
      exact Nat.le_of_lt (small1000 (by omega))
    · exfalso
      have := congrArg List.length z
      rw [List.length_map, List.length_nil] at this
      omega
    · refine k (0 :: ns') r _ ?_ rfl ((d3.new ht).new hr2) (k2.trans (k3.trans ((Kp.new ht).trans (Kp.new hr2)))) (FzT.new hob)
      rw [rgI_cons (by omega)]
      exact pm.cons 0
theorem ok_l_freed (T : Txt K mg) : FnOk P w K mg base CX0 2 T.l_freed.a T.l_freed.fd ["word"] (spFreed K) := by
  refine T.l_freed.F.ok sc_l_freed (fun vs H Q E h => ?_) (fun cdv A outer s H vs Q E hr h => ?_)
  · obtain ⟨p, ns, rfl, _⟩ := h
    rfl
  · obtain ⟨p, ns, rfl, hs, hl, hb, k⟩ := h
    have nd := sc_l_freed.nd
    refine ⟨_, (pss_cons (ps_set (i := 1) nd rfl (Or.inl rfl) (pe_lst pa_nil))
    (pss_cons (ps_for PassesOwn.never rfl (pi_tup (pv 0)) (pg_name (i := 2) nd rfl (Or.inl rfl))
      (pss_one (ps_if (PW.pt (pw_and (pt_cmpR (op_neD hr.units) (pv 1) (pe_lst pa_nil) (nomark _)) (pw_and1 (pt_cmpR op_eq (pe_ix ix_list (pv 1) (pe_op op_sub (pe_callB call_len_seq (by rfl) T.zlen (by decide +kernel) (pa_cons (pv 1) pa_nil)) pe_int) (fun _ _ => rfl)) (pe_op op_xor (pv 2) pe_int) (nomark _)))))
        (pss_one (ps_expr (pe_bm0 PySem.F.plainAttrs_list PySem.F.slot_list_pop PySem.F.type_list_pop mt_pop (pv 1))))
        (pss_one (ps_expr (pe_bm PySem.F.plainAttrs_list PySem.F.slot_list_append PySem.F.type_list_append mt_append (pv 1) (pa_cons (pv 2) pa_nil)))))))
    (pss_one (ps_ret (pe_callTy call_tuple_of (by rfl) T.ztuple (by decide +kernel) (pa_cons (pv 1) pa_nil)))))), ?_⟩
    refine ⟨(by show 0 ≤ sizeLine; decide), fun f hf => ?_⟩
    have s1 : Same H (upd H f (.lst [])) := same_new hf
    refine ⟨_, rfl, p, rfl, ⟨_, same_seqT s1 hs⟩, ?_⟩
    refine for_tup (K := K) (a := p) (xs := ns.map V.int) (fun i σ H' => ∃ v2, σ = [some (.ref p), some (.ref f), v2] ∧ Same H H' ∧ H' f = some (.lst ((Wd.freed (ns.take i)).map V.int)))
      ⟨_, rfl, s1, upd_same⟩ (fun i σ H' _ ⟨_, _, s, _⟩ => same_seqT s hs) ?_ ?_
    · rintro i y σ H' hi ⟨v2, rfl, s2, h2⟩
      obtain ⟨x, rfl, hx⟩ := ints_at hi
      have hil : i < ns.length := (List.getElem?_eq_some_iff.mp hx).1
      have hxm : x ∈ ns := List.mem_of_getElem? hx
      have ht : ns.take (i + 1) = ns.take i ++ [x] := by rw [List.take_add_one, hx]; rfl
      have hsz : (Wd.freed (ns.take i)).length ≤ 4000 := Nat.le_trans (Wd.len_freed _) (by rw [List.length_take]; omega)
      refine ⟨_, rfl, (by show 0 ≤ sizeLine; decide), fun e he => ?_⟩
      have e1 : (upd H' e (.lst [])) f = some (.lst ((Wd.freed (ns.take i)).map V.int)) := by rw [upd_ne (ne_of_none h2 he)]; exact h2
      have s3 : Same H (upd H' e (.lst [])) := s2.trans (same_new he)
      refine ⟨_, _, .lst (SqL.of e1) (dpAll_ints _ _), .lst (SqL.of upd_same) .nil, shapedAll_ints _, rfl, _, rfl, ?_⟩
      rw [eqv_nil]
      have grow : ¬ (Wd.freed (ns.take i)).getLast? = some (Wd.mate x) → Same H (upd (upd H' e (.lst [])) f (.lst ((Wd.freed (ns.take i)).map V.int ++ [V.int x]))) ∧ (upd (upd H' e (.lst [])) f (.lst ((Wd.freed (ns.take i)).map V.int ++ [V.int x]))) f = some (.lst ((Wd.freed (ns.take (i + 1))).map V.int)) := fun hn => by
        refine ⟨fun b o hb => ?_, ?_⟩
        · rw [upd_ne (ne_of_none hb hf)]
          exact s3 b o hb
        · rw [upd_same, ht, Wd.freed_snoc]
          unfold Wd.push
          rw [if_neg hn, List.map_append]
          rfl
      refine ite2 (fun c => ?_) (fun c => ?_)
      · have hne : Wd.freed (ns.take i) ≠ [] := by simpa using c
        obtain ⟨a, ha, hat⟩ := atI_lastN hne
        refine ⟨_, rfl, _, rfl, f, _, rfl, .inl (SqL.of e1), _, _, rfl, rfl, f, _, _, _, rfl, rfl, SqL.of e1, hat, ?_⟩
        refine ⟨_, rfl, _, _, rfl, rfl, rfl, _, rfl, ?_⟩
        refine ite2 (fun c2 => ?_) (fun c2 => ?_)
        · have hax : a = Wd.mate x := (eqX (hb x hxm).1 (hb x hxm).2).mp c2
          refine ⟨_, rfl, .inl ⟨rfl, _, SqL.of e1⟩, f, _, V.int a, rfl, rfl, e1, ?_, ?_⟩
          · rw [List.length_map]
            exact ints_get (Wd.last_get.mp ha).2
          · refine ⟨_, rfl, fun b o hb => ?_, ?_⟩
            · rw [upd_ne (ne_of_none hb hf)]
              exact s3 b o hb
            · rw [upd_same, ht, Wd.freed_snoc]
              unfold Wd.push
              rw [if_pos (by rw [ha, hax]), List.map_dropLast]
        · have hax : ¬ a = Wd.mate x := fun z => c2 ((eqX (hb x hxm).1 (hb x hxm).2).mpr z)
          refine ⟨_, rfl, .inl ⟨rfl, _, SqL.of e1⟩, _, rfl, f, _, _, rfl, rfl, e1, by rw [List.length_map]; exact smallB (by omega), ?_⟩
          exact ⟨_, rfl, grow (by rw [ha]; intro z; exact hax (Option.some.inj z))⟩
      · have hne : Wd.freed (ns.take i) = [] := by simpa using c
        refine ite2 (fun z => absurd z Bool.false_ne_true) (fun _ => ?_)
        refine ⟨_, rfl, .inl ⟨rfl, _, SqL.of e1⟩, _, rfl, f, _, _, rfl, rfl, e1, by rw [List.length_map]; exact smallB (by omega), ?_⟩
        exact ⟨_, rfl, grow (by rw [hne]; intro z; cases z)⟩
    · rintro σ H' ⟨v2, rfl, s2, h2⟩
      rw [List.length_map, List.take_length] at h2
      refine ⟨_, rfl, f, _, rfl, .inl ⟨SqL.of h2, fun q hq => ?_⟩⟩
      exact k q _ (s2.trans (same_new hq)) upd_same
def spTurnE (K : PySem.W.Frag) : Sp := fun vs H Q _ => ∃ (p : Addr) (ns : List Int), vs = [.ref p] ∧ H p = some (.tup (ns.map V.int)) ∧ ns.length ≤ 400 ∧
  ∀ q H', Same H H' → H' q = some (.tup ((leastT ns).map V.int)) → Q (.ref q) H'
def turnsE (ns : List Int) : List (List Int) := if ns = [] then [[]] else turns ns
theorem turnsE_len (ns : List Int) : (turnsE ns).length = max 1 ns.length := by
  unfold turnsE
  by_cases h : ns = []
  · rw [if_pos h, h]
    rfl
  · rw [if_neg h, turns_len]
    have := List.length_pos_iff.mpr h
    omega
theorem turnsE_get {ns : List Int} {i : Nat} (h : i < max 1 ns.length) : (turnsE ns)[i]? = some (turnAt ns i) := by
  unfold turnsE
  by_cases c : ns = []
  · subst c
    have : i = 0 := by simp at h; exact h
    subst this
    rfl
  · rw [if_neg c]
    have := List.length_pos_iff.mpr c
    exact turns_get (by omega)
theorem turnsE_min {ns r0 : List Int} {rs : List (List Int)} (h : turnsE ns = r0 :: rs) : minR r0 rs = leastT ns := by
  unfold turnsE at h
  by_cases c : ns = []
  · rw [if_pos c] at h
    cases h
    rw [c]
    rfl
  · rw [if_neg c] at h
    unfold leastT
    rw [h]
theorem ok_l_turn (T : Txt K mg) : FnOk P w K mg base CX0 2 T.l_turn.a T.l_turn.fd ["word"] (spTurnE K) := by
  refine T.l_turn.F.ok sc_l_turn (fun vs H Q E h => ?_) (fun cdv A outer s H vs Q E hr h => ?_)
  · obtain ⟨p, ns, rfl, _⟩ := h
    rfl
  · obtain ⟨p, ns, rfl, hp, hl, k⟩ := h
    have nd := sc_l_turn.nd
    refine ⟨_, (pss_one (ps_ret (pe_callB (cr_minT rfl hr.units) (by rfl) T.zmin (by decide +kernel) (pa_cons (pe_lc (own := [("spot", 1)]) (g := gName 1) rfl nd (pi_range1 rfl T.zrange (pa_cons (pe_callB (call_max2 rfl) (by rfl) T.zmax (by decide +kernel) (pa_cons pe_int (pa_cons (pe_callB call_len_seq (by rfl) T.zlen (by decide +kernel) (pa_cons (pv 0) pa_nil)) pa_nil))) pa_nil)) (blkOk_by (own := [("spot", 1)]) (N := N_l_turn) (sc := defScope s_l_turn) (by decide +kernel)) (fun _ _ _ _ _ => pg_name (i := 1) nd rfl (Or.inl rfl)) (fun _ _ _ _ _ => pts_nil) (fun _ _ _ _ _ => (pe_op (op_catAK (K := K) rfl) (pe_slice (sl_tupAK (K := K) rfl) (pv 0) (po_some (pv 1)) po_none) (pe_slice (sl_tupAK (K := K) rfl) (pv 0) po_none (po_some (pv 1)))))) pa_nil)))), ?_⟩
    have em : (if (1 : Int) < (((ns.map V.int).length : Nat) : Int) then (((ns.map V.int).length : Nat) : Int) else 1) = ((max 1 ns.length : Nat) : Int) := by
      rw [List.length_map]
      split <;> omega
    refine ⟨_, rfl, p, _, rfl, .inr (SqT.of hp), _, _, rfl, ?_⟩
    rw [em]
    refine ⟨_, rfl, by omega, by omega, fun D1 hD1 => ?_⟩
    refine lc_range (lo := 0) (n := ((max 1 ns.length : Nat) : Int).toNat) (fun i H' => ∃ ps : List Addr, H' D1 = some (.lst (ps.map V.ref)) ∧ Paired (fun p m => H' p = some (.tup (m.map V.int))) ps ((turnsE ns).take i) ∧ Same H H')
      ⟨[], upd_same, .nil, same_new hD1⟩ ?_ ?_
    · rintro i H' hi ⟨ps, h1, h2, s2⟩
      have hi2 : i < max 1 ns.length := by omega
      have hpl : ps.length = i := by
        have := h2.length
        rw [List.length_take, turnsE_len] at this
        omega
      refine ⟨rfl, yes_t ?_⟩
      refine ⟨_, rfl, _, rfl, (i : Int), by rw [Int.zero_add], noPart_i ?_⟩
      refine slK_from (K := K) (s2 _ _ hp) fun b1 H2 s3 hb1 => ?_
      refine ⟨_, rfl, noPart_i ⟨_, rfl, (i : Int), by rw [Int.zero_add], ?_⟩⟩
      refine slK_to (K := K) (s3 _ _ (s2 _ _ hp)) fun b2 H3 s4 hb2 => ?_
      refine catK (K := K) (s4 _ _ hb1) hb2 ?_ fun c H4 s5 hc => ?_
      · rw [List.length_drop, List.length_take, List.length_map]
        exact Nat.le_of_lt (small1000 (by omega))
      have sA : Same H' H4 := (s3.trans s4).trans s5
      have h4 := sA _ _ h1
      have kt : ∀ (a : Addr) (m : List V), H4 a = some (.tup m) → upd H4 D1 (.lst (ps.map V.ref ++ [.ref c])) a = some (.tup m) := fun a m z => by
        rw [upd_ne (ne_of z h4 (fun q => nomatch q))]
        exact z
      refine ⟨_, h4, by rw [List.length_map]; exact small1000 (by omega), ps ++ [c], ?_, ?_, fun b o hb => ?_⟩
      · rw [upd_same, List.map_append]
        rfl
      · rw [List.take_add_one, turnsE_get hi2]
        refine pair_snoc (pair_mono (fun a m z => kt a _ (sA _ _ z)) h2) ?_
        refine kt c _ ?_
        have e : (turnAt ns i).map V.int = (ns.map V.int).drop i ++ (ns.map V.int).take i := by
          unfold turnAt
          rw [List.map_append, List.map_drop, List.map_take]
        rw [e]
        exact hc
      · rw [upd_ne (ne_of_none hb hD1)]
        exact sA _ _ (s2 _ _ hb)
    · rintro H' ⟨ps, h1, h2, s2⟩
      have e : (turnsE ns).take ((max 1 ns.length : Nat) : Int).toNat = turnsE ns := List.take_of_length_le (by rw [turnsE_len]; omega)
      rw [e] at h2
      have hl2 := turnsE_len ns
      cases ht : turnsE ns with
      | nil =>
        rw [ht] at hl2
        simp at hl2
        omega
      | cons r0 rs =>
        rw [ht] at h2
        refine ⟨D1, ps, r0, rs, rfl, SqL.of h1, pair_mono (fun a m z => SqT.of z) h2, fun i q hq hm => k q H' s2 ?_⟩
        have hi : i < (r0 :: rs).length := by
          rw [← h2.length]
          exact (List.getElem?_eq_some_iff.mp hq).1
        have em := hm _ (List.getElem?_eq_getElem hi)
        rw [minR_D] at em
        have e2 := rowD_inj em
        have e3 := pair_at h2 hq (List.getElem?_eq_getElem hi)
        rw [e2] at e3
        rw [← turnsE_min ht]
        exact e3
theorem ends_of {fs : List Int} (h : 1 < fs.length) : ∃ (a : Int) (m : List Int) (b : Int), fs = a :: (m ++ [b]) := by
  cases fs with
  | nil => simp at h
  | cons a r =>
    cases hr : r.getLast? with
    | none =>
      have := List.getLast?_eq_none_iff.mp hr
      subst this
      simp at h
    | some b => exact ⟨a, r.dropLast, b, by rw [Wd.last_snoc hr]⟩
def tupOf (i : Nat) : L2.St → Hp → Nat := fun σ H => match σ[i]? with
  | some (some (V.ref l)) => (match H l with | some (.tup xs) => xs.length | _ => 0)
  | _ => 0
theorem tupOf_of {i : Nat} {σ : L2.St} {H : Hp} {f : Addr} {xs : List V} (h : σ[i]? = some (some (V.ref f))) (e : H f = some (.tup xs)) : tupOf i σ H = xs.length := by
  unfold tupOf
  rw [h]
  show (match H f with | some (.tup xs) => xs.length | _ => 0) = _
  rw [e]
theorem ok_l_round (T : Txt K mg) : FnOk P w K mg base CX0 3 T.l_round.a T.l_round.fd ["word"] (spClosed K) := by
  refine T.l_round.F.ok sc_l_round (fun vs H Q E h => ?_) (fun cdv A outer s H vs Q E hr h => ?_)
  · obtain ⟨p, ns, rfl, _⟩ := h
    rfl
  · obtain ⟨p, ns, rfl, hp, hl, hb, k⟩ := h
    have nd := sc_l_round.nd
    refine ⟨_, (pss_cons (ps_set (i := 1) nd rfl (Or.inl rfl) (pe_call (ok_l_freed T) (hr.mono (by decide)) (by rfl) T.l_freed.g T.l_freed.k T.l_freed.b .nil pass0 (pa_cons (pv 0) pa_nil)))
    (pss_cons (ps_while PassesOwn.never (PW.pt (pw_and (pt_cmpR op_gt (pe_callB call_len_seq (by rfl) T.zlen (by decide +kernel) (pa_cons (pv 1) pa_nil)) pe_int (nomark _)) (pw_and1 (pt_cmpR op_eq (pe_ix ix_tup (pv 1) pe_int (fun _ _ => rfl)) (pe_op op_xor (pe_ix ix_tup (pv 1) (pe_op op_sub (pe_callB call_len_seq (by rfl) T.zlen (by decide +kernel) (pa_cons (pv 1) pa_nil)) pe_int) (fun _ _ => rfl)) pe_int) (nomark _)))))
      (pss_one (ps_set (i := 1) nd rfl (Or.inl rfl) (pe_slice sl_tupA (pv 1) (po_some pe_int) (po_some (pe_op op_sub (pe_callB call_len_seq (by rfl) T.zlen (by decide +kernel) (pa_cons (pv 1) pa_nil)) pe_int))))))
    (pss_one (ps_ret (pe_call (ok_l_turn T) (hr.mono (by decide)) (by rfl) T.l_turn.g T.l_turn.k T.l_turn.b .nil pass0 (pa_cons (pv 1) pa_nil)))))), ?_⟩
    refine ⟨_, rfl, p, ns, rfl, hp, by omega, hb, fun f H1 s1 h1 => ?_⟩
    have lf : (Wd.freed ns).length ≤ 400 := Nat.le_trans (Wd.len_freed ns) hl
    have bf : ∀ x ∈ Wd.freed ns, 0 ≤ x ∧ x < 12 := fun x hx => hb x (Wd.mem_freed hx)
    have ec : Wd.strip (Wd.freed ns) = Wd.core ns := rfl
    generalize Wd.freed ns = fs at h1 lf ec bf
    refine while_by3 (fun σ H' => ∃ (l : Addr) (fs : List Int), σ = [some (.ref p), some (.ref l)] ∧ H' l = some (.tup (fs.map V.int)) ∧ fs.length ≤ 400 ∧ (∀ x ∈ fs, 0 ≤ x ∧ x < 12) ∧ Wd.strip fs = Wd.core ns ∧ Same H H') (tupOf 1) ⟨f, fs, rfl, h1, lf, bf, ec, s1⟩ ?_
    · rintro σ H' ⟨l, fs, rfl, e2, lf, bf, ec, s2⟩
      apply let_one (J := Wd.strip fs = fs)
      · intro out
        refine ⟨_, rfl, l, _, rfl, .inr (SqT.of e2), _, _, rfl, rfl, _, rfl, ?_⟩
        rw [List.length_map]
        refine ite2 (fun g => ?_) (fun g => ?_)
        · have g' : 1 < fs.length := by
            have : (1 : Int) < (fs.length : Int) := by simpa using g
            omega
          obtain ⟨a, m, b, rfl⟩ := ends_of g'
          have l0 : atI ((a :: (m ++ [b])).map V.int) 0 = some (V.int a) := atI_nat (j := 0) rfl
          have l1 : atI ((a :: (m ++ [b])).map V.int) (((((a :: (m ++ [b])).map V.int).length : Nat) : Int) - 1) = some (V.int b) := by
            obtain ⟨c, c1, c2⟩ := atI_lastN (st := a :: (m ++ [b])) (by simp)
            have : c = b := by
              rw [show a :: (m ++ [b]) = (a :: m) ++ [b] from rfl, List.getLast?_append] at c1
              simpa using c1.symm
            rw [this] at c2
            exact c2
          have bb := bf b (by simp)
          refine ⟨_, rfl, l, _, 0, V.int a, rfl, rfl, SqT.of e2, l0, ?_⟩
          refine ⟨_, rfl, _, rfl, l, _, rfl, .inr (SqT.of e2), _, _, rfl, rfl, l, _, _, V.int b, rfl, rfl, SqT.of e2, l1, _, _, rfl, rfl, ?_⟩
          refine ⟨rfl, _, rfl, ite2 (fun z => ?_) (fun z => ?_)⟩
          · have z' : a = Wd.mate b := (eqX bb.1 bb.2).mp z
            refine ⟨fun σ' H'' => tupOf 1 σ' H'' < tupOf 1 [some (.ref p), some (.ref l)] H' ∧ _, fun σ' H'' h => ⟨_, h.1, rfl, h.2⟩, ?_⟩
            refine ⟨_, rfl, 1, rfl, _, rfl, l, _, rfl, .inr (SqT.of e2), _, _, rfl, rfl, ?_⟩
            have ln : ((((a :: (m ++ [b])).map V.int).length : Nat) : Int) - 1 = ((((a :: (m ++ [b])).map V.int).length - 1 : Nat) : Int) := by
              simp
            refine ⟨_, rfl, ?_⟩
            rw [ln]
            refine slT_midT (K := K) (c := 1) (by simp) e2 fun l' H3 s3 e3 => ?_
            have em : (((a :: (m ++ [b])).map V.int).drop 1).take (((a :: (m ++ [b])).map V.int).length - 2 * 1) = m.map V.int := by
              have e : (a :: (m ++ [b])).map V.int = V.int a :: (m.map V.int ++ [V.int b]) := by simp
              rw [e]
              simp
            rw [em] at e3
            refine ⟨?_, l', m, rfl, e3, ?_, fun x hx => bf x (by simp [hx]), ?_, s2.trans s3⟩
            · rw [tupOf_of (i := 1) (f := l') rfl e3, tupOf_of (i := 1) (f := l) rfl e2]
              simp
              omega
            · rw [List.length_cons, List.length_append] at lf
              omega
            · rw [← ec, z', Wd.strip_yes]
          · refine out (Wd.strip_no ?_)
            have z' : a ≠ Wd.mate b := fun q => z ((eqX bb.1 bb.2).mpr q)
            have : (a :: (m ++ [b])).getLast? = some b := by simp [List.getLast?_cons]
            rw [this]
            simpa using z'
        · refine iteF (out (Wd.strip_short ?_))
          have : ¬ (1 : Int) < (fs.length : Int) := by simpa using g
          omega
      intro hm
      have ef : fs = Wd.core ns := hm.symm.trans ec
      refine ⟨_, rfl, l, fs, rfl, e2, lf, fun q H4 s4 h4 => k q H4 (s2.trans s4) ?_⟩
      rw [ef] at h4
      exact h4
end
end Tt
set_option maxRecDepth 100000
set_option maxHeartbeats 4000000
namespace Tt
open PySem L2
structure Bar (m i : Nat) (fs bs : List Int) : Prop where
  len : bs.length ≤ 2
  la : ∀ a, fs.getLast? = some a → Wd.mate a ∈ bs
  f0 : ∀ a, fs.head? = some a → i + 1 = m → 0 < i → Wd.mate a ∈ bs
  of : ∀ x ∈ bs, ∃ y ∈ fs, x = Wd.mate y
theorem bar_left {m i b : Nat} {fs bs : List Int} (h : Bar m i fs bs) (b1 : 1 ≤ b) (one : b = 1 → ∀ x ∈ fs, ∀ y ∈ fs, x = y) : Fb bs (2 * b) ≠ [] := fun z => by
  have all : ∀ j : Nat, j < 2 * b → (j : Int) ∈ bs := fun j hj => Classical.byContradiction fun n => by
    have : (j : Int) ∈ Fb bs (2 * b) := Fb_mem.mpr ⟨⟨by omega, by omega⟩, n⟩
    rw [z] at this
    cases this
  have h0 := all 0 (by omega)
  have h1 := all 1 (by omega)
  by_cases c : b = 1
  · obtain ⟨y0, m0, e0⟩ := h.of _ h0
    obtain ⟨y1, m1, e1⟩ := h.of _ h1
    rw [one c y0 m0 y1 m1, ← e1] at e0
    exact absurd e0 (by decide)
  · have h2 := all 2 (by omega)
    have hl := h.len
    match bs, hl, h0, h1, h2 with
    | [], _, a, _, _ => cases a
    | [x], _, a, b, _ =>
      have a' := List.mem_singleton.mp a
      have b' := List.mem_singleton.mp b
      omega
    | [x, y], _, a, b, c =>
      simp only [List.mem_cons, List.not_mem_nil, or_false] at a b c
      omega
    | _ :: _ :: _ :: _, hl, _, _, _ => simp at hl
structure Grow (b m i : Nat) (fs : List Int) : Prop where
  len : fs.length = i
  lt : ∀ x ∈ fs, 0 ≤ x ∧ x < 2 * (b : Int)
  rd : Wd.Rd fs
  one : b = 1 → ∀ x ∈ fs, ∀ y ∈ fs, x = y
  cl : i = m → fs = [] ∨ Wd.CR fs
theorem grow_step {b m i : Nat} {fs bs : List Int} {v : Int} (h : Grow b m i fs) (im : i < m) (k : Bar m i fs bs) (hv : v ∈ Fb bs (2 * b)) : Grow b m (i + 1) (fs ++ [v]) := by
  have hvm := Fb_mem.mp hv
  have rd : Wd.Rd (fs ++ [v]) := by
    by_cases fe : fs = []
    · rw [fe]
      exact rd_one v
    · obtain ⟨la, hla⟩ : ∃ la, fs.getLast? = some la := by
        cases e : fs.getLast? with
        | none => exact absurd (List.getLast?_eq_none_iff.mp e) fe
        | some a => exact ⟨a, rfl⟩
      exact rd_snoc h.rd hla fun z => hvm.2 (by rw [z]; exact k.la la hla)
  refine ⟨by rw [List.length_append, h.len]; rfl, fun x hx => ?_, rd, fun b1 x hx y hy => ?_, fun e => .inr ?_⟩
  · rcases List.mem_append.mp hx with hx | hx
    · exact h.lt x hx
    · rw [List.mem_singleton.mp hx]
      have := hvm.1
      omega
  · have key : ∀ x ∈ fs, x = v := fun x hx => by
      obtain ⟨la, hla⟩ : ∃ la, fs.getLast? = some la := by
        cases e : fs.getLast? with
        | none => rw [List.getLast?_eq_none_iff.mp e] at hx; cases hx
        | some a => exact ⟨a, rfl⟩
      have ml : la ∈ fs := List.mem_of_getElem? (Wd.last_get.mp hla).2
      have e1 := h.one b1 x hx la ml
      have n1 := k.la la hla
      have hx1 := h.lt la ml
      have hv1 := hvm.1
      have : v ≠ Wd.mate la := fun z => hvm.2 (by rw [z]; exact n1)
      rw [e1]
      unfold Wd.mate at this
      subst b1
      split at this <;> omega
    have : ∀ x ∈ fs ++ [v], x = v := fun x hx => by
      rcases List.mem_append.mp hx with hx | hx
      · exact key x hx
      · exact List.mem_singleton.mp hx
    rw [this x hx, this y hy]
  · refine cr_of rd fun ⟨z1, z2⟩ => ?_
    rw [List.length_append, h.len, List.length_singleton] at z1
    have i0 : 0 < i := by omega
    cases hf : fs with
    | nil =>
      have := h.len
      rw [hf, List.length_nil] at this
      omega
    | cons f0 r =>
      rw [hf] at z2
      have e2 : (f0 :: r ++ [v]).getLast? = some v := by rw [List.getLast?_append]; rfl
      rw [e2] at z2
      have z3 : f0 = Wd.mate v := by simpa using z2
      exact hvm.2 (by rw [Wd.mate_eq.mp z3]; exact k.f0 f0 (by rw [hf]; rfl) e i0)
theorem turn_mem {a b : List Int} (h : Wd.Turn a b) {x : Int} (hx : x ∈ b) : x ∈ a := by
  obtain ⟨u, v, e1, e2⟩ := h
  rw [e2] at hx
  rw [e1]
  rcases List.mem_append.mp hx with z | z
  · exact List.mem_append_right _ z
  · exact List.mem_append_left _ z
theorem strip_mem : ∀ (n : Nat) {w : List Int} {x : Int}, w.length ≤ n → x ∈ Wd.strip w → x ∈ w
  | n, w, x, hn, hx => by
    unfold Wd.strip at hx
    split at hx
    · rename_i h
      cases n with
      | zero => omega
      | succ n =>
        have := strip_mem n (w := (w.drop 1).dropLast) (by rw [List.length_dropLast, List.length_drop]; omega) hx
        exact List.mem_of_mem_drop (List.dropLast_subset _ this)
    · exact hx
theorem closed_mem {w : List Int} {x : Int} (h : x ∈ closedT w) : x ∈ w := by
  unfold closedT at h
  by_cases c : Wd.core w = []
  · rw [c, leastT_nil] at h
    cases h
  · have h1 := turn_mem (leastT_turn c) h
    exact Wd.mem_freed (strip_mem _ (Nat.le_refl _) h1)
section
variable {P : Program} {w : World} {K : PySem.W.Frag} {mg : Str → Option Value} {base : Heap}
def spWordC (K : PySem.W.Frag) : Sp := fun vs H Q _ => ∃ (D : Dw) (b m : Nat), vs = [.ref D.d, .int (b : Int), .int (m : Int)] ∧ 1 ≤ b ∧ b ≤ 6 ∧ 1 ≤ m ∧ m ≤ 200 ∧ DrOk D H ∧
  ∀ (ns : List Int) q H', Wd.CR ns → ns.length = m → (∀ x ∈ ns, 0 ≤ x ∧ x < 2 * (b : Int)) → DrOk D H' → Kp D H H' → H' q = some (.tup (ns.map V.int)) → Q (.ref q) H'
theorem ok_l_word (T : Txt K mg) : FnOk P w K mg base CX0 4 T.l_word.a T.l_word.fd ["draw", "bands", "many"] (spWordC K) := by
  refine T.l_word.F.ok sc_l_word (fun vs H Q E h => ?_) (fun cdv A outer s H vs Q E hr h => ?_)
  · obtain ⟨D, b, m, rfl, _⟩ := h
    rfl
  · obtain ⟨D, b, m, rfl, b1, b6, m1, m2, dr, k⟩ := h
    have nd := sc_l_word.nd
    refine ⟨_, (pss_cons (ps_set (i := 3) nd rfl (Or.inl rfl) (pe_lst pa_nil))
    (pss_cons (ps_for PassesOwn.never rfl (pi_range1 rfl T.zrange (pa_cons (pv 2) pa_nil)) (pg_name (i := 4) nd rfl (Or.inl rfl))
      (pss_cons (ps_set (i := 5) nd rfl (Or.inr rfl) (pe_ifExp (pt_cmpR op_gt (pv 4) pe_int (nomark _)) (pe_lst (pa_cons (pe_op op_xor (pe_ix ix_list (pv 3) (pe_op op_sub (pv 4) pe_int) (fun _ _ => rfl)) pe_int) pa_nil)) (pe_lst pa_nil)))
      (pss_cons (ps_if (PW.pt (pw_and (pt_cmpR op_eq (pv 4) (pe_op op_sub (pv 2) pe_int) (nomark _)) (pw_and1 (pt_cmpR op_gt (pv 4) pe_int (nomark _)))))
        (pss_one (ps_set (i := 5) nd rfl (Or.inr rfl) (pe_op op_cat (pv 5) (pe_lst (pa_cons (pe_op op_xor (pe_ix ix_list (pv 3) pe_int (fun _ _ => rfl)) pe_int) pa_nil)))))
        pss_nil)
      (pss_cons (ps_setLc (i := 6) (own := [("letter", 7)]) (g := gName 7) rfl nd rfl rfl (sw_true rfl rfl rfl (by decide +kernel)) (pi_range1 rfl T.zrange (pa_cons (pe_op op_mul pe_int (pv 1)) pa_nil)) (blkOk_by (own := [("letter", 7)]) (N := N_l_word) (sc := defScope s_l_word) (by decide +kernel)) (fun _ _ _ _ _ => pg_name (i := 7) nd rfl (Or.inl rfl)) (fun _ _ _ _ _ => pts_one (pt_cmpR (op_notIn_seqK (K := K) rfl) (pv 7) (pv 5) rfl)) (fun _ _ _ _ _ => (pv 7)))
      (pss_cons (ps_if (pt_cmpR (op_eqD hr.units) (pv 6) (pe_lst pa_nil) (nomark _))
        (pss_one (ps_ret (pe_callTy call_tuple_of (by rfl) T.ztuple (by decide +kernel) (pa_cons (pv 3) pa_nil))))
        pss_nil)
      (pss_one (ps_expr (pe_bm PySem.F.plainAttrs_list PySem.F.slot_list_append PySem.F.type_list_append mt_append (pv 3) (pa_cons (pe_call (ok_l_pick T) (hr.mono (by decide)) (by rfl) T.l_pick.g T.l_pick.k T.l_pick.b .nil pass0 (pa_cons (pv 0) (pa_cons (pv 6) pa_nil))) pa_nil)))))))))
    (pss_one (ps_ret (pe_callTy call_tuple_of (by rfl) T.ztuple (by decide +kernel) (pa_cons (pv 3) pa_nil)))))), ?_⟩
    refine ⟨(by show 0 ≤ sizeLine; decide), fun f hf => ?_⟩
    have d1 := dr.new (o := .lst []) hf
    have k1 : Kp D H (upd H f (.lst [])) := Kp.new hf
    have of : Off D f := dr.off hf
    have h1 : (upd H f (.lst [])) f = some (.lst (([] : List Int).map V.int)) := upd_same
    have hfN : ∀ b o, H b = some o → b ≠ f := fun b o hb => ne_of_none hb hf
    have kf : ∀ H3 o, Kp D H H3 → Kp D H (upd H3 f o) := fun H3 o k3 b u hb q1 q2 => by
      rw [upd_ne (hfN b u hb)]
      exact k3 b u hb q1 q2
    generalize upd H f (.lst []) = H1 at d1 k1 h1
    refine ⟨_, rfl, _, rfl, by omega, by omega, ?_⟩
    refine for_range (lo := 0) (n := ((m : Int)).toNat) (fun i σ H' => ∃ (fs : List Int) (v4 v5 v6 v7 : Option V), σ = [some (.ref D.d), some (.int (b : Int)), some (.int (m : Int)), some (.ref f), v4, v5, v6, v7] ∧ H' f = some (.lst (fs.map V.int)) ∧ Grow b m i fs ∧ DrOk D H' ∧ Kp D H H')
      ⟨[], _, _, _, _, rfl, h1, ⟨rfl, (fun x hx => by cases hx), Wd.rd_nil, (fun _ x hx => by cases hx), fun _ => .inl rfl⟩, d1, k1⟩ ?_ ?_
    · rintro i σ H2 hi ⟨fs, v4, v5, v6, v7, rfl, h2, gr, d2, k2⟩
      rw [Int.zero_add]
      have im : i < m := by omega
      have lf := gr.len
      refine sq_r (fun σ H' => ∃ (bs : List Int) (p5 : Addr), σ = [some (.ref D.d), some (.int (b : Int)), some (.int (m : Int)), some (.ref f), some (.int (i : Int)), some (.ref p5), v6, v7] ∧ H' p5 = some (.lst (bs.map V.int)) ∧ bs.length ≤ 1 ∧ (∀ la, fs.getLast? = some la → Wd.mate la ∈ bs) ∧ (∀ x ∈ bs, ∃ y ∈ fs, x = Wd.mate y) ∧ Same H2 H') (fun rest => ?_) ?_
      · refine ⟨_, rfl, _, _, rfl, rfl, _, rfl, ite2 (fun c => ?_) (fun c => ?_)⟩
        · have i0 : 0 < i := by
            have : (0 : Int) < (i : Int) := by simpa using c
            omega
          have fne : fs ≠ [] := fun q => by rw [q] at lf; simp at lf; omega
          obtain ⟨la, hla⟩ : ∃ la, fs.getLast? = some la := by
            cases e : fs.getLast? with
            | none => exact absurd (List.getLast?_eq_none_iff.mp e) fne
            | some a => exact ⟨a, rfl⟩
          have hl := (Wd.last_get.mp hla).2
          have mla := List.mem_of_getElem? hl
          have lar := gr.lt la mla
          have hat : atI (fs.map V.int) ((i : Int) - 1) = some (V.int la) := by
            rw [show (i : Int) - 1 = ((i - 1 : Nat) : Int) by omega]
            exact atI_n (ints_get (by rw [← lf]; exact hl))
          refine ⟨_, rfl, _, rfl, _, _, rfl, rfl, f, _, _, _, rfl, rfl, SqL.of h2, hat, _, _, rfl, rfl, nil_i ⟨(by show 1 ≤ sizeLine; decide), fun p5 h5 => ?_⟩⟩
          refine rest _ _ ⟨[Wd.mate la], p5, rfl, ?_, Nat.le_refl _, fun la' h' => ?_, fun x hx => ⟨la, mla, List.mem_singleton.mp hx⟩, same_new h5⟩
          · rw [upd_same]
            show some (HO.lst [V.int (Builtin.bitXor la 1)]) = _
            rw [xor_mate lar.1 (by omega)]
            rfl
          · rw [hla] at h'
            rw [← Option.some.inj h']
            exact List.mem_singleton.mpr rfl
        · have i0 : i = 0 := by
            have : ¬ (0 : Int) < (i : Int) := by simpa using c
            omega
          refine ⟨(by show 0 ≤ sizeLine; decide), fun p5 h5 => rest _ _ ⟨[], p5, rfl, upd_same, Nat.zero_le _, fun la' h' => ?_, (fun x hx => by cases hx), same_new h5⟩⟩
          rw [i0] at lf
          rw [List.length_eq_zero_iff.mp lf] at h'
          cases h'
      rintro σ H3 ⟨bs, p5, rfl, h5, lb, ml, mo, s3⟩
      refine sq_r (fun σ H' => ∃ (bs : List Int) (p5 : Addr), σ = [some (.ref D.d), some (.int (b : Int)), some (.int (m : Int)), some (.ref f), some (.int (i : Int)), some (.ref p5), v6, v7] ∧ H' p5 = some (.lst (bs.map V.int)) ∧ Bar m i fs bs ∧ Same H2 H') (fun rest => ?_) ?_
      · refine ⟨_, rfl, _, rfl, _, _, rfl, rfl, rfl, ⟨_, rfl, ite2 (fun c => ?_) (fun c => rest _ _ ⟨bs, p5, rfl, h5, ⟨by omega, ml, fun a _ e _ => ?_, mo⟩, s3⟩)⟩⟩
        · refine ⟨_, rfl, _, _, rfl, rfl, ⟨_, rfl, ite2 (fun c => ?_) (fun c => rest _ _ ⟨bs, p5, rfl, h5, ⟨by omega, ml, fun a _ _ e => ?_, mo⟩, s3⟩)⟩⟩
          · have i0 : 0 < i := by
              have : (0 : Int) < (i : Int) := by simpa using c
              omega
            have h23 := s3 _ _ h2
            obtain ⟨f0, hf0⟩ : ∃ f0, fs[0]? = some f0 := ⟨_, List.getElem?_eq_getElem (by omega)⟩
            have at0 : atI (fs.map V.int) 0 = some (V.int f0) := atI_nat (j := 0) (ints_get hf0)
            have mf0 := List.mem_of_getElem? hf0
            have f0r := gr.lt f0 mf0
            refine ⟨_, rfl, _, rfl, f, _, 0, V.int f0, rfl, rfl, SqL.of h23, at0, _, _, rfl, rfl, nil_i ⟨(by show 1 ≤ sizeLine; decide), fun l1 hl1 => ?_⟩⟩
            have h5' := upk (u := .lst [.int (Builtin.bitXor f0 1)]) hl1 h5
            have e1 : (upd H3 l1 (.lst [.int (Builtin.bitXor f0 1)])) l1 = some (.lst ([Wd.mate f0].map V.int)) := by
              rw [upd_same]
              show some (HO.lst [V.int (Builtin.bitXor f0 1)]) = _
              rw [xor_mate f0r.1 (by omega)]
              rfl
            have s4 := s3.trans (same_new (o := .lst [.int (Builtin.bitXor f0 1)]) hl1)
            generalize upd H3 l1 (.lst [.int (Builtin.bitXor f0 1)]) = H4 at h5' e1 s4
            refine ⟨p5, l1, bs.map V.int, [Wd.mate f0].map V.int, rfl, rfl, h5', e1, ?_, fun p6 h6 => ?_⟩
            · rw [List.length_map, List.length_map]
              have : 1000 ≤ sizeLine := by decide
              show bs.length + 1 ≤ sizeLine
              omega
            · refine rest _ _ ⟨bs ++ [Wd.mate f0], p6, rfl, ?_, ⟨?_, fun la hla => List.mem_append_left _ (ml la hla), fun a ha _ _ => ?_, fun x hx => ?_⟩, s4.trans (same_new h6)⟩
              · rw [upd_same, List.map_append]
              · rw [List.length_append]
                show bs.length + 1 ≤ 2
                omega
              · rw [List.head?_eq_getElem?, hf0] at ha
                rw [← Option.some.inj ha]
                exact List.mem_append_right _ (List.mem_singleton.mpr rfl)
              · rcases List.mem_append.mp hx with hx | hx
                · exact mo x hx
                · exact ⟨f0, mf0, List.mem_singleton.mp hx⟩
          · exfalso
            exact c (by simpa using e)
        · exfalso
          refine c ?_
          have : (i : Int) = (m : Int) - 1 := by omega
          simp [this]
      clear h5 lb ml mo s3
      rintro σ H3 ⟨bs, p5, rfl, h5, br, s3⟩
      have d3 := d2.same s3
      have k3 : Kp D H H3 := k2.trans (Kp.of s3)
      have h23 := s3 _ _ h2
      clear h2 d2 k2 s3
      refine sqn ⟨_, rfl, _, _, rfl, rfl, .inl ⟨by decide, by decide⟩, _, rfl, by omega, by omega, fun D1 hD1 => ?_⟩
      refine lc_range (lo := 0) (n := (2 * (b : Int)).toNat) (fun j H4 => H4 D1 = some (.lst ((Fb bs j).map V.int)) ∧ Same H3 H4) ⟨upd_same, same_new hD1⟩ ?_ ?_
      · rintro j H4 hj ⟨h4, s4⟩
        refine ⟨rfl, ?_⟩
        refine ⟨_, rfl, _, rfl, p5, _, rfl, .inl (SqL.of (s4 _ _ h5)), ?_⟩
        refine ⟨rfl, flatI bs, _, rfl, ?_⟩
        rw [if_pos rfl, Int.zero_add, inV_ints]
        have fl := Fb_len bs j
        refine ite2 (fun c => ?_) (fun c => ?_)
        · have c' : (j : Int) ∉ bs := by simpa using c
          refine ⟨_, rfl, _, h4, by rw [List.length_map]; exact small1000 (by omega), ?_, fun q o hb => ?_⟩
          · rw [upd_same, Fb_yes c', List.map_append]
            rfl
          · rw [upd_ne (ne_of_none hb hD1)]
            exact s4 q o hb
        · have c' : (j : Int) ∈ bs := by simpa using c
          exact ⟨by rw [Fb_no c']; exact h4, s4⟩
      rintro H4 ⟨h4, s4⟩
      have d4 := d3.same s4
      have k4 : Kp D H H4 := k3.trans (Kp.of s4)
      have h24 := s4 _ _ h23
      have oD1 : Off D D1 := d3.off hD1
      clear h23 d3 k3 s4 h5 hD1
      refine sqn ⟨_, rfl, (by show 0 ≤ sizeLine; decide), fun l1 hl1 => ?_⟩
      have h4' := upk (u := .lst []) hl1 h4
      have d5 := d4.new (o := .lst []) hl1
      have k5 : Kp D H (upd H4 l1 (.lst [])) := k4.trans (Kp.new hl1)
      have h25 := upk (u := .lst []) hl1 h24
      refine ⟨_, _, .lst (SqL.of h4') (dpAll_ints _ _), .lst (SqL.of upd_same) .nil, shapedAll_ints _, rfl, _, rfl, ?_⟩
      rw [eqv_nil]
      generalize upd H4 l1 (.lst []) = H5 at h4' d5 k5 h25
      clear h4 h24 d4 k4 hl1
      have e2b : (2 * (b : Int)).toNat = 2 * b := by omega
      have ne : Fb bs (2 * (b : Int)).toNat ≠ [] := by
        rw [e2b]
        exact bar_left br b1 gr.one
      refine ite2 (fun c => absurd (by simpa using c) ne) (fun c => ?_)
      dsimp only [tNext]
      have fl := Fb_len bs (2 * (b : Int)).toNat
      refine ⟨_, rfl, .inl ⟨rfl, _, SqL.of h25⟩, _, rfl, _, rfl, D, D1, (Fb bs (2 * (b : Int)).toNat).map V.int, rfl, .inl (SqL.of h4'), oD1.2.1, (fun z => ne (List.map_eq_nil_iff.mp z)), (by rw [List.length_map]; omega), d5, fun jj y H6 hj d6 k6 => ?_⟩
      obtain ⟨v, rfl, hv⟩ := ints_at hj
      have hvm := List.mem_of_getElem? hv
      rw [e2b] at hvm
      have h6 := k6.at of h25
      refine nil_i ⟨f, _, _, rfl, rfl, h6, by rw [List.length_map]; exact small1000 (by omega), ?_⟩
      refine ⟨fs ++ [v], _, _, _, _, rfl, ?_, grow_step gr im br hvm, d6.put of, kf _ _ (k5.trans k6)⟩
      rw [upd_same, List.map_append]
      rfl
    · rintro σ H2 ⟨fs, v4, v5, v6, v7, rfl, h2, gr, d2, k2⟩
      have em : ((m : Int)).toNat = m := by omega
      rw [em] at gr
      have lf := gr.len
      refine ⟨_, rfl, f, _, rfl, .inl ⟨SqL.of h2, fun q hq => k fs q _ ?_ lf gr.lt (d2.new hq) (k2.trans (Kp.new hq)) upd_same⟩⟩
      rcases gr.cl rfl with z | z
      · rw [z] at lf
        simp at lf
        omega
      · exact z
def spAnyR (K : PySem.W.Frag) : Sp := fun vs H Q _ => ∃ (D : Dw) (b m : Nat), vs = [.ref D.d, .int (b : Int), .int (m : Int)] ∧ 1 ≤ b ∧ b ≤ 6 ∧ 1 ≤ m ∧ m ≤ 40 ∧ DrOk D H ∧
  ∀ (ns : List Int) q H', Rnd ns → ns.length ≤ 40 → (∀ x ∈ ns, 0 ≤ x ∧ x < 2 * (b : Int)) → DrOk D H' → Kp D H H' → H' q = some (.tup (ns.map V.int)) → Q (.ref q) H'
theorem ok_l_any_round (T : Txt K mg) : FnOk P w K mg base CX0 5 T.l_any_round.a T.l_any_round.fd ["draw", "bands", "most"] (spAnyR K) := by
  refine T.l_any_round.F.ok sc_l_any_round (fun vs H Q E h => ?_) (fun cdv A outer s H vs Q E hr h => ?_)
  · obtain ⟨D, b, m, rfl, _⟩ := h
    rfl
  · obtain ⟨D, b, m, rfl, b1, b6, m1, m2, dr, k⟩ := h
    have nd := sc_l_any_round.nd
    refine ⟨_, (pss_cons (ps_par (i := 3) (j := 4) rfl nd rfl rfl (by decide) rfl rfl (pa_cons (pe_call (ok_l_take T) (hr.mono (by decide)) (by rfl) T.l_take.g T.l_take.k T.l_take.b .nil pass0 (pa_cons (pv 0) (pa_cons pe_int pa_nil))) (pa_cons (pe_op op_add pe_int (pe_call (ok_l_take T) (hr.mono (by decide)) (by rfl) T.l_take.g T.l_take.k T.l_take.b .nil pass0 (pa_cons (pv 0) (pa_cons (pv 2) pa_nil)))) pa_nil)) rfl)
    (pss_cons (ps_if (PW.pt (pw_or (pt_cmpR op_lt (pv 3) pe_int (nomark _)) (pw_or1 (pt_cmpR op_eq (pv 1) pe_int (nomark _)))))
      (pss_one (ps_ret (pe_call (ok_l_turn T) (hr.mono (by decide)) (by rfl) T.l_turn.g T.l_turn.k T.l_turn.b .nil pass0 (pa_cons (pe_call (ok_l_word T) (hr.mono (by decide)) (by rfl) T.l_word.g T.l_word.k T.l_word.b .nil pass0 (pa_cons (pv 0) (pa_cons (pv 1) (pa_cons (pv 4) pa_nil)))) pa_nil))))
      pss_nil)
    (pss_cons (ps_if (pt_cmpR op_eq (pv 3) pe_int (nomark _))
      (pss_cons (ps_set (i := 5) nd rfl (Or.inl rfl) (pe_call (ok_l_word T) (hr.mono (by decide)) (by rfl) T.l_word.g T.l_word.k T.l_word.b .nil pass0 (pa_cons (pv 0) (pa_cons (pv 1) (pa_cons (pe_op op_add pe_int (pe_call (ok_l_take T) (hr.mono (by decide)) (by rfl) T.l_take.g T.l_take.k T.l_take.b .nil pass0 (pa_cons (pv 0) (pa_cons (pe_callB (call_min2 rfl) (by rfl) T.zmin (by decide +kernel) (pa_cons (pv 2) (pa_cons pe_int pa_nil))) pa_nil)))) pa_nil)))))
      (pss_one (ps_ret (pe_call (ok_l_turn T) (hr.mono (by decide)) (by rfl) T.l_turn.g T.l_turn.k T.l_turn.b .nil pass0 (pa_cons (pe_op op_repA (pv 5) (pe_callB (call_max2 rfl) (by rfl) T.zmax (by decide +kernel) (pa_cons pe_int (pa_cons (pe_op op_fdiv (pv 4) (pe_callB call_len_seq (by rfl) T.zlen (by decide +kernel) (pa_cons (pv 5) pa_nil))) pa_nil)))) pa_nil)))))
      pss_nil)
    (pss_cons (ps_set (i := 5) nd rfl (Or.inl rfl) (pe_call (ok_l_word T) (hr.mono (by decide)) (by rfl) T.l_word.g T.l_word.k T.l_word.b .nil pass0 (pa_cons (pv 0) (pa_cons (pv 1) (pa_cons (pe_op op_add pe_int (pe_call (ok_l_take T) (hr.mono (by decide)) (by rfl) T.l_take.g T.l_take.k T.l_take.b .nil pass0 (pa_cons (pv 0) (pa_cons pe_int pa_nil)))) pa_nil)))))
    (pss_cons (ps_set (i := 6) nd rfl (Or.inl rfl) (pe_call (ok_l_round T) (hr.mono (by decide)) (by rfl) T.l_round.g T.l_round.k T.l_round.b .nil pass0 (pa_cons (pe_op op_catA (pe_slice sl_tupA (pe_op op_repA (pv 5) (pv 4)) po_none (po_some (pe_callB (call_max2 rfl) (by rfl) T.zmax (by decide +kernel) (pa_cons pe_int (pa_cons (pe_op op_sub (pv 4) pe_int) pa_nil))))) (pe_call (ok_l_word T) (hr.mono (by decide)) (by rfl) T.l_word.g T.l_word.k T.l_word.b .nil pass0 (pa_cons (pv 0) (pa_cons (pv 1) (pa_cons pe_int pa_nil))))) pa_nil)))
    (pss_one (ps_ret (pe_ifExp (pt_chain op_lt op_le pe_int (pe_callB call_len_seq (by rfl) T.zlen (by decide +kernel) (pa_cons (pv 6) pa_nil)) (pv 2)) (pv 6) (pe_call (ok_l_turn T) (hr.mono (by decide)) (by rfl) T.l_turn.g T.l_turn.k T.l_turn.b .nil pass0 (pa_cons (pe_slice sl_tupA (pv 5) po_none (po_some pe_int)) pa_nil)))))))))), ?_⟩
    refine ⟨_, rfl, D, 6, rfl, by decide, by decide, dr, fun way H1 w0 w1 d1 k1 => ?_⟩
    refine tcn ⟨_, rfl, _, rfl, D, (m : Int), rfl, by omega, by omega, d1, fun t0 H2 h0 h1 d2 k2 => ?_⟩
    obtain ⟨t, rfl⟩ := Int.eq_ofNat_of_zero_le h0
    have hk2 := k1.trans k2
    refine rI0_add (v := ((1 + t : Nat) : Int)) (by omega) (nil_i ?_)
    generalize hM : 1 + t = M
    have M1 : 1 ≤ M := by omega
    have Mm : M ≤ m := by omega
    clear h0 h1 hM k1 k2
    have len4 : 4000 ≤ sizeLine := by decide
    have turnOf : ∀ (ns : List Int) (q2 : Addr) (H3 H4 : Hp), ns ≠ [] → Wd.CR ns → ns.length ≤ 40 → (∀ x ∈ ns, 0 ≤ x ∧ x < 2 * (b : Int)) → DrOk D H3 → Kp D H H3 → Same H3 H4 → H4 q2 = some (.tup ((leastT ns).map V.int)) → Q (.ref q2) H4 := fun ns q2 H3 H4 ne cr ln lt d3 k3 s4 h4 => by
      have tn := leastT_turn ne
      refine k (leastT ns) q2 H4 (rnd_least ne cr) (by rw [← Wd.turn_len tn]; exact ln) (fun x hx => ?_) (d3.same s4) (k3.trans (Kp.of s4)) h4
      obtain ⟨u, v, e1, e2⟩ := tn
      rw [e2] at hx
      refine lt x ?_
      rw [e1]
      rcases List.mem_append.mp hx with z | z
      · exact List.mem_append_right _ z
      · exact List.mem_append_left _ z
    have neOf : ∀ (ns : List Int) (n : Nat), 1 ≤ n → ns.length = n → ns ≠ [] := fun ns n h1 h2 z => by rw [z] at h2; simp at h2; omega
    have first : ∀ (σ : L2.St) , σ[0]? = some (some (.ref D.d)) → σ[1]? = some (some (.int (b : Int))) → σ[4]? = some (some (.int (M : Int))) →
        (tCall (spTurnE K) [] E0 (tCons (tCall (spWordC K) [] E0 (tCons (tVar 0) (tCons (tVar 1) (tCons (tVar 4) tNil)))) tNil)) σ H2 Q := fun σ e0 e1 e4 => by
      refine ⟨_, e0, _, e1, _, e4, D, b, M, rfl, b1, b6, M1, by omega, d2, fun ns q H3 cr ln lt d3 k3 hq => ?_⟩
      exact ⟨q, ns, rfl, hq, by omega, fun q2 H4 s4 hq2 => turnOf ns q2 H3 H4 (neOf ns M M1 ln) cr (by omega) lt d3 (hk2.trans k3) s4 hq2⟩
    refine ⟨_, _, rfl, ?_⟩
    refine sqn ⟨_, rfl, _, _, rfl, rfl, _, rfl, ite2 (fun c => ?_) (fun c => ?_)⟩
    · exact first _ rfl rfl rfl
    refine ⟨_, rfl, rfl, _, rfl, ite2 (fun c2 => ?_) (fun c2 => ?_)⟩
    · exact first _ rfl rfl rfl
    dsimp only [tNext]
    refine sqn ⟨_, rfl, rfl, _, rfl, ite2 (fun c3 => ?_) (fun c3 => ?_)⟩
    · refine sqn ⟨_, rfl, _, rfl, ?_⟩
      refine tcn ⟨_, rfl, _, rfl, ?_⟩
      refine tC_i (nil_i ⟨_, _, rfl, ?_⟩)
      refine ⟨D, _, rfl, by split <;> omega, by split <;> omega, d2, fun t0 H3 h0 h1 d3 k3 => ?_⟩
      have h2 : t0 < 5 ∧ t0 < m := by split at h1 <;> omega
      obtain ⟨t, rfl⟩ := Int.eq_ofNat_of_zero_le h0
      refine rI0_add (v := ((1 + t : Nat) : Int)) (by omega) (nil_i ?_)
      refine ⟨D, b, 1 + t, rfl, b1, b6, by omega, by omega, d3, fun ps q5 H5 cr lp ltp d5 k5 h5 => ?_⟩
      have pne := neOf ps _ (by omega) lp
      have k25 := (hk2.trans k3).trans k5
      have lpb : ps.length ≤ 5 ∧ ps.length ≤ m ∧ 1 ≤ ps.length := by omega
      clear k3 k5 d3
      refine ⟨_, rfl, ?_⟩
      refine tcn (tC_i ?_)
      refine ⟨_, rfl, _, rfl, q5, _, rfl, .inr (SqT.of h5), ?_⟩
      refine rI_div (v := ((M / ps.length : Nat) : Int)) ?_ ⟨by rw [List.length_map]; omega, by rw [List.length_map]; omega⟩ (nil_i ?_)
      · rw [List.length_map]
        rfl
      refine ⟨_, _, rfl, ?_⟩
      have em : (if ((M / ps.length : Nat) : Int) > 1 then ((M / ps.length : Nat) : Int) else 1) = ((max 1 (M / ps.length) : Nat) : Int) := by split <;> omega
      rw [em]
      have hdv : M / ps.length ≤ 40 := Nat.le_trans (Nat.div_le_self _ _) (by omega)
      refine repK (K := K) h5 (fun z => pne (List.map_eq_nil_iff.mp z)) (by omega) (by omega) (by rw [List.length_map]; omega) fun c H6 s6 h6 => nil_i ?_
      rw [repV] at h6
      have e1 : (((max 1 (M / ps.length) : Nat) : Int)).toNat = max 1 (M / ps.length) := by omega
      rw [e1] at h6
      have k1 : 1 ≤ max 1 (M / ps.length) := by omega
      have lw : (Wd.pow ps (max 1 (M / ps.length))).length ≤ 40 := by
        rw [Wd.pow_len]
        by_cases z : 1 ≤ M / ps.length
        · rw [Nat.max_eq_right z]
          have := Nat.div_mul_le_self M ps.length
          omega
        · rw [Nat.max_eq_left (by omega), Nat.one_mul]
          omega
      refine ⟨c, _, rfl, h6, by omega, fun q2 H7 s7 h7 => turnOf _ q2 H6 H7 (Wd.pow_ne pne k1) ((Wd.cr_pow pne k1).mpr cr) lw (fun x hx => ltp x (Wd.pow_mem hx)) (d5.same s6) (k25.trans (Kp.of s6)) s7 h7⟩
    · dsimp only [tNext]
      refine sqn ⟨_, rfl, _, rfl, ?_⟩
      refine tcn ⟨_, rfl, D, 3, rfl, by decide, by decide, d2, fun t0 H3 h0 h1 d3 k3 => ?_⟩
      obtain ⟨t, rfl⟩ := Int.eq_ofNat_of_zero_le h0
      refine rI0_add (v := ((1 + t : Nat) : Int)) (by omega) (nil_i ?_)
      refine ⟨D, b, 1 + t, rfl, b1, b6, by omega, by omega, d3, fun ps q5 H5 cr lp ltp d5 k5 h5 => ?_⟩
      have pne := neOf ps _ (by omega) lp
      have k25 := (hk2.trans k3).trans k5
      clear k3 k5 d3
      have hrep : ∀ n, n ≤ 40 → (Wd.pow ps n).length ≤ 120 := fun n hn => by
        rw [Wd.pow_len, lp]
        calc n * (1 + t) ≤ 40 * 3 := Nat.mul_le_mul hn (by omega)
          _ = 120 := rfl
      refine sqn ⟨_, rfl, _, rfl, ?_⟩
      refine repK (K := K) h5 (fun z => pne (List.map_eq_nil_iff.mp z)) (by omega) (by omega) (by rw [List.length_map]; omega) fun c H6 s6 h6 => ?_
      rw [repV] at h6
      have e1 : ((M : Int)).toNat = M := by omega
      rw [e1] at h6
      have d6 := d5.same s6
      have k26 := k25.trans (Kp.of s6)
      refine noPart_i ?_
      refine tpart_i (tcb_e (tcn (tC_i ?_)))
      refine ⟨_, rfl, tC_i ?_⟩
      refine rI0_sub (v := (M : Int) - 2) rfl (nil_i ?_)
      refine ⟨_, _, rfl, ?_⟩
      have em : (if (M : Int) - 2 > 1 then (M : Int) - 2 else 1) = ((max 1 (M - 2) : Nat) : Int) := by split <;> omega
      rw [em]
      refine ⟨_, rfl, ?_⟩
      refine slK_to (K := K) h6 fun c2 H7 s7 h7 => ?_
      have lh7 : (((Wd.pow ps M).take (max 1 (M - 2)))).length ≤ 120 := by
        rw [List.length_take]
        have := hrep M (by omega)
        omega
      have e7 : ((Wd.pow ps M).map V.int).take (max 1 (M - 2)) = ((Wd.pow ps M).take (max 1 (M - 2))).map V.int := by rw [List.map_take]
      rw [e7] at h7
      have lt7 : ∀ x ∈ (Wd.pow ps M).take (max 1 (M - 2)), 0 ≤ x ∧ x < 2 * (b : Int) := fun x hx => ltp x (Wd.pow_mem (List.mem_of_mem_take hx))
      generalize (Wd.pow ps M).take (max 1 (M - 2)) = us at h7 lh7 lt7
      have d7 := d6.same s7
      have h5' := s7 _ _ (s6 _ _ h5)
      have k7 := k26.trans (Kp.of s7)
      refine ⟨_, rfl, _, rfl, tC_i (nil_i ⟨D, b, 2, rfl, b1, b6, by omega, by omega, d7, fun ws q8 H8 crw lw ltw d8 k8 h8 => ?_⟩)⟩
      have h7' := d7.tup k8 h7
      have h5'' := d7.tup k8 h5'
      have kk8 := k7.trans k8
      refine catK (K := K) h7' h8 (by rw [List.length_map, List.length_map]; omega) fun c3 H9 s9 h9 => nil_i ?_
      rw [← List.map_append] at h9
      refine ⟨c3, _, rfl, SqT.of h9, by rw [List.length_append]; omega, fun x hx => ?_, fun q10 H10 s10 h10 => ?_⟩
      · have : 0 ≤ x ∧ x < 2 * (b : Int) := by
          rcases List.mem_append.mp hx with z | z
          · exact lt7 x z
          · exact ltw x z
        omega
      have d10 := (d8.same s9).same s10
      have kk10 := (kk8.trans (Kp.of s9)).trans (Kp.of s10)
      have h510 := s10 _ _ (s9 _ _ h5'')
      refine ⟨_, rfl, q10, _, rfl, .inr (SqT.of h10), _, _, rfl, rfl, _, rfl, ?_⟩
      rw [List.length_map]
      have alt : tCall (spTurnE K) [] E0 (tCons (tSl (rSlA K) (tVar 5) tNoPart (tPart (tC (.int 1)))) tNil) [some (.ref D.d), some (.int (b : Int)), some (.int (m : Int)), some (.int way), some (.int (M : Int)), some (.ref q5), some (.ref q10)] H10 Q := by
        refine ⟨_, rfl, ?_⟩
        refine noPart_i ⟨1, rfl, ?_⟩
        refine slK_to (K := K) (n := 1) h510 fun c4 H11 s11 h11 => nil_i ?_
        have e11 : (ps.map V.int).take 1 = (ps.take 1).map V.int := by rw [List.map_take]
        rw [e11] at h11
        obtain ⟨a, ea⟩ : ∃ a, ps.take 1 = [a] := by
          cases ps with
          | nil => exact absurd rfl pne
          | cons a r => exact ⟨a, rfl⟩
        rw [ea] at h11
        have la : a ∈ ps := List.mem_of_mem_take (by rw [ea]; exact List.mem_singleton.mpr rfl)
        refine ⟨c4, [a], rfl, h11, (by simp), fun q2 H12 s12 h12 => turnOf [a] q2 H11 H12 (by simp) ?_ (by simp) (fun x hx => by rw [List.mem_singleton.mp hx]; exact ltp a la) (d10.same s11) (kk10.trans (Kp.of s11)) s12 h12⟩
        refine cr_of (rd_one a) fun z => ?_
        have := z.1
        simp at this
      refine ite2 (fun c4 => ?_) (fun c4 => ?_)
      · refine ⟨_, rfl, _, _, rfl, rfl, ?_⟩
        refine ⟨_, rfl, ite2 (fun c5 => ?_) (fun c5 => ?_)⟩
        · have z4 : 0 < (closedT (us ++ ws)).length := by
            have : (0 : Int) < ((closedT (us ++ ws)).length : Int) := by simpa using c4
            omega
          have z5 : (closedT (us ++ ws)).length ≤ m := by
            have : ((closedT (us ++ ws)).length : Int) ≤ (m : Int) := by simpa using c5
            omega
          have ne : closedT (us ++ ws) ≠ [] := fun z => by rw [z] at z4; simp at z4
          refine ⟨_, rfl, k (closedT (us ++ ws)) q10 H10 (rnd_closed ne) (by omega) (fun x hx => ?_) d10 kk10 h10⟩
          have hx2 := closed_mem hx
          rcases List.mem_append.mp hx2 with z | z
          · exact lt7 x z
          · exact ltw x z
        · exact alt
      · exact ⟨_, rfl, iteF alt⟩
end
end Tt
set_option maxRecDepth 100000
set_option maxHeartbeats 4000000
namespace L2
open PySem PySem.Spec PyProof.Rows
structure NE where
  k : NestedKey
  u : Value
  v : Value
def NE.ent (w : World) (x : NE) : DictEntry := ⟨x.k.hash w, x.u, x.v⟩
def NOk (h : Heap) (xs : List NE) : Prop := (∀ x ∈ xs, NestedIs h x.k x.u ∧ x.k.depth ≤ 8) ∧ (xs.map NE.k).Nodup
theorem ent_at {w : World} {es : Array DictEntry} {xs : List NE} (he : es.toList = xs.map (NE.ent w)) (j : Nat) : es[j]? = xs[j]?.map (NE.ent w) := by
  have e : es.toList[j]? = (xs.map (NE.ent w))[j]? := by rw [he]
  rw [List.getElem?_map] at e
  rw [← e]
  exact (Array.getElem?_toList ..).symm
theorem ent_size {w : World} {es : Array DictEntry} {xs : List NE} (he : es.toList = xs.map (NE.ent w)) : es.size = xs.length := by
  have := congrArg List.length he
  rw [List.length_map] at this
  simpa using this
theorem nkey_uniq {h : Heap} {xs : List NE} (n : NOk h xs) {i j : Nat} {x y : NE} (hi : xs[i]? = some x) (hj : xs[j]? = some y) (e : x.k = y.k) : i = j := by
  have a1 : (xs.map NE.k)[i]? = some x.k := by rw [List.getElem?_map, hi]; rfl
  have a2 : (xs.map NE.k)[j]? = some x.k := by rw [List.getElem?_map, hj, e]; rfl
  have l := (List.getElem?_eq_some_iff.mp a1).1
  exact (List.getElem?_inj l n.2).mp (a1.trans a2.symm)
section
variable {prog : Program} {w : World} {A : Around} {E : Value → Shared → Prop} {s : Shared}
theorem may_quiet {key : Value} {stored : List Value} {Q : Bool → Shared → Prop} (hq : QuietAt prog w 8 s key) (hs : ∀ v ∈ stored, QuietAt prog w 8 s v) (h : Q false s) : wpAny (model prog w) A (tableMayTell key stored) Q E s := by
  unfold tableMayTell
  by_cases c : stored.isEmpty = true
  · rw [if_pos c]
    exact wpAny_pure h
  rw [if_neg c]
  refine wpAny_bind (hq _ _ _ ?_)
  rw [if_neg (by simp)]
  refine wpAny_bind (wpAny_forIn_list _ (fun rest r s' => (r = (none, ()) ∧ s' = s) ∧ ∀ v ∈ rest, QuietAt prog w 8 s v) _ ?_ ?_ _ _ ⟨⟨rfl, rfl⟩, hs⟩)
  · rintro v rest r s' ⟨⟨rfl, rfl⟩, all⟩
    refine wpAny_bind (all v (List.mem_cons_self ..) _ _ _ ?_)
    rw [if_neg (by simp)]
    exact wpAny_pure ⟨⟨rfl, rfl⟩, fun u hu => all u (List.mem_cons_of_mem _ hu)⟩
  · rintro r s' ⟨⟨rfl, rfl⟩, _⟩
    exact wpAny_pure h
def AtK (xs : List NE) (k : NestedKey) (i : Nat) : Prop := ∃ x, xs[i]? = some x ∧ x.k = k
theorem nfind {d a : Addr} {o : Obj} {es : Array DictEntry} {ep : Nat} {xs : List NE} {k : NestedKey} {Q : Option Nat → Shared → Prop} (hu : A.units + 8 < cLine) (hk : NestedIs s.heap k (.ref a)) (dep : k.depth ≤ 8)
    (ho : s.heap.get? d = some o) (hd : o.data = .dict es ep) (he : es.toList = xs.map (NE.ent w)) (nk : NOk s.heap xs)
    (no : (∀ i, ¬ AtK xs k i) → Q none s) (yes : ∀ i, AtK xs k i → Q (some i) s) : wpAny (model prog w) A (dictFind d (.ref a) (k.hash w)) Q E s := by
  have key_at : ∀ (i : Nat) (e : DictEntry), es[i]? = some e → ∃ x, xs[i]? = some x ∧ e = x.ent w := fun i e h => by
    rw [ent_at he] at h
    cases hx : xs[i]? with
    | none => rw [hx] at h; cases h
    | some x => rw [hx] at h; exact ⟨x, rfl, (Option.some.inj h).symm⟩
  unfold dictFind
  try with_reducible refine wpAny_holding ?_
  refine wpAny_bind (wpAny_dictEntries ho hd ?_)
  dsimp only
  generalize hL : placesWithHash es.size (fun i => es[i]?.map (·.hash)) (k.hash w) = L
  have inL : ∀ i, i ∈ L ↔ ∃ x, xs[i]? = some x ∧ x.k.hash w = k.hash w := fun i => by
    rw [← hL]
    unfold placesWithHash
    rw [List.mem_filter, List.mem_range, ent_size he]
    show i < xs.length ∧ ((es[i]?.map (·.hash)) == some (k.hash w)) = true ↔ _
    rw [ent_at he]
    constructor
    · rintro ⟨h1, h2⟩
      refine ⟨xs[i], List.getElem?_eq_getElem h1, ?_⟩
      rw [List.getElem?_eq_getElem h1] at h2
      simpa [NE.ent] using h2
    · rintro ⟨x, h1, h2⟩
      refine ⟨(List.getElem?_eq_some_iff.mp h1).1, ?_⟩
      rw [h1]
      simpa [NE.ent] using h2
  have ndL : L.Nodup := by
    rw [← hL]
    unfold placesWithHash
    exact List.Nodup.sublist (List.filter_sublist) List.nodup_range
  rw [if_neg (by simp [carriedByValue])]
  rw [if_neg (by
    rw [← Array.any_toList, List.any_eq_true]
    rintro ⟨e, hin, hc⟩
    rw [he] at hin
    obtain ⟨x, hx, rfl⟩ := List.mem_map.mp hin
    simp only [NE.ent, Bool.and_eq_true, beq_iff_eq, bne_iff_ne, ne_eq] at hc
    refine hc.2 ?_
    have h2 := (nk.1 x hx).1
    rw [hc.1] at h2
    rw [NestedIs.inj _ _ _ h2 hk])]
  have stq : ∀ v ∈ L.filterMap (fun i => es[i]?.map (·.key)), QuietAt prog w 8 s v := fun v hv => by
    obtain ⟨i, _, hi⟩ := List.mem_filterMap.mp hv
    rw [ent_at he] at hi
    cases hx : xs[i]? with
    | none => rw [hx] at hi; cases hi
    | some x =>
      rw [hx] at hi
      have e : x.u = v := by simpa [NE.ent] using hi
      have := nk.1 x (List.mem_of_getElem? hx)
      rw [← e]
      exact quiet_key _ _ 8 s this.1 this.2
  by_cases hone : ((L.filterMap fun i => es[i]?.map (·.key)) == [Value.ref a]) = true
  all_goals first | rw [if_pos hone] | rw [if_neg hone]
  all_goals first | refine wpAny_bind (wpAny_pure ?_) | refine wpAny_bind (may_quiet (quiet_key _ _ 8 s hk dep) stq ?_)
  all_goals
    rw [if_neg (by simp)]
    refine wpAny_bind (wpAny_forIn_list _ (fun rest b s' => s' = s ∧ b.1 = none ∧ ∃ pre, L = pre ++ rest ∧ ((b.2 = none ∧ ∀ i ∈ pre, ¬ AtK xs k i) ∨ ∃ j ∈ pre, b.2 = some j ∧ AtK xs k j)) _ ?_ ?_ _ _ ⟨rfl, rfl, [], rfl, .inl ⟨rfl, fun i hi => by cases hi⟩⟩)
    · rintro i rest ⟨b1, b2⟩ s' ⟨rfl, e1, pre, eL, hit⟩
      obtain rfl : b1 = none := e1
      have mi : i ∈ L := by rw [eL]; simp
      obtain ⟨x, hx, hh⟩ := (inL i).mp mi
      have hx2 := nk.1 x (List.mem_of_getElem? hx)
      have npre : i ∉ pre := fun z => by
        rw [eL] at ndL
        exact (List.nodup_append.mp ndL).2.2 i z i (List.mem_cons_self ..) rfl
      have eL2 : L = (pre ++ [i]) ++ rest := by rw [eL]; simp
      rw [ent_at he, hx]
      dsimp only [Option.map_some]
      rw [if_pos (by simp [NE.ent, hh])]
      refine wpAny_bind (wpAny_dictEpoch ho hd (wpAny_bind (eqAt_key x.k k A s' x.u (.ref a) hx2.1 hk (by omega) _ _ _ _ (wpAny_bind (wpAny_dictEpoch ho hd ?_)))))
      rw [if_neg (by simp)]
      by_cases c : x.k = k
      · have hb : NestedKey.beq x.k k = true := by rw [c]; exact NestedKey.beq_self k
        rw [hb, if_pos rfl]
        rcases hit with ⟨h2, _⟩ | ⟨j, hj, _, y, hy, ey⟩
        · have h2' : b2 = none := h2
          subst h2'
          rw [if_neg (by simp)]
          refine wpAny_bind (wpAny_rule ?_)
          split
          · exact wpAny_pure (wpAny_pure (yes i ⟨x, hx, c⟩))
          · exact wpAny_pure ⟨rfl, rfl, pre ++ [i], eL2, .inr ⟨i, by simp, rfl, x, hx, c⟩⟩
        · exact absurd (nkey_uniq nk hy hx (ey.trans c.symm) ▸ hj) npre
      · have hb : NestedKey.beq x.k k = false := by
          rw [← NestedKey.decide_eq]
          exact decide_eq_false c
        rw [hb, if_neg (by simp)]
        refine wpAny_bind (wpAny_rule ?_)
        rw [if_neg (by simp)]
        refine wpAny_pure ⟨rfl, rfl, pre ++ [i], eL2, ?_⟩
        rcases hit with ⟨h2, h3⟩ | ⟨j, hj, h2, h3⟩
        · refine .inl ⟨h2, fun j hj => ?_⟩
          rcases List.mem_append.mp hj with hj | hj
          · exact h3 j hj
          · rw [List.mem_singleton.mp hj]
            rintro ⟨y, hy, ey⟩
            rw [hx] at hy
            exact c (by rw [Option.some.inj hy]; exact ey)
        · exact .inr ⟨j, List.mem_append_left _ hj, h2, h3⟩
    · rintro ⟨b1, b2⟩ s' ⟨rfl, e1, pre, eL, hit⟩
      obtain rfl : b1 = none := e1
      rw [List.append_nil] at eL
      rcases hit with ⟨h2, h3⟩ | ⟨j, _, h2, h3⟩
      · have h2' : b2 = none := h2
        subst h2'
        refine wpAny_pure (no fun i ⟨x, hx, c⟩ => h3 i ?_ ⟨x, hx, c⟩)
        rw [← eL]
        exact (inL i).mpr ⟨x, hx, by rw [c]⟩
      · have h2' : b2 = some j := h2
        subst h2'
        exact wpAny_pure (yes j h3)
theorem nfind0 {d : Addr} {o : Obj} {ep : Nat} {k : NestedKey} {u : Value} {Q : Option Nat → Shared → Prop} (hk : NestedIs s.heap k u) (hv : carriedByValue u = true) (hb : ∀ b, u ≠ .bool b) (ho : s.heap.get? d = some o) (hd : o.data = .dict #[] ep) (no : Q none s) : wpAny (model prog w) A (dictFind d u (k.hash w)) Q E s := by
  cases hk with
  | tup => cases hv
  | bool => exact absurd rfl (hb _)
  | int i t => exact wpAny_dictFind_of (knd := mixKind prog w) (k := .inl i) (keyIs_int i t) ho hd (fun e he => by simp at he) (by simpa using no)
  | text x t => exact wpAny_dictFind_of (knd := mixKind prog w) (k := .inr x) (keyIs_str x t) ho hd (fun e he => by simp at he) (by simpa using no)
  | none =>
    unfold dictFind
    try with_reducible refine wpAny_holding ?_
    refine wpAny_bind (wpAny_dictEntries ho hd ?_)
    dsimp only
    rw [if_pos (by rfl)]
    unfold dictWalkPlain
    exact wpAny_bind (wpAny_pure (wpAny_pure no))
def nput (xs : List NE) (x : NE) : List NE := if xs.any (fun y => decide (y.k = x.k)) = true then xs.map (fun y => if y.k = x.k then { y with v := x.v } else y) else xs ++ [x]
theorem nput_keys (xs : List NE) (x : NE) : ∀ y ∈ nput xs x, (∃ z ∈ xs, y.k = z.k ∧ y.u = z.u) ∨ (y.k = x.k ∧ y.u = x.u) := fun y hy => by
  unfold nput at hy
  split at hy
  · obtain ⟨z, hz, rfl⟩ := List.mem_map.mp hy
    refine .inl ⟨z, hz, ?_⟩
    split <;> exact ⟨rfl, rfl⟩
  · rcases List.mem_append.mp hy with hy | hy
    · exact .inl ⟨y, hy, rfl, rfl⟩
    · rw [List.mem_singleton.mp hy]
      exact .inr ⟨rfl, rfl⟩
theorem nput_ok {h : Heap} {xs : List NE} {x : NE} (n : NOk h xs) (hx : NestedIs h x.k x.u) (dx : x.k.depth ≤ 8) : NOk h (nput xs x) := by
  refine ⟨fun y hy => ?_, ?_⟩
  · rcases nput_keys xs x y hy with ⟨z, hz, e1, e2⟩ | ⟨e1, e2⟩
    · rw [e1, e2]
      exact n.1 z hz
    · rw [e1, e2]
      exact ⟨hx, dx⟩
  · unfold nput
    split
    · rw [List.map_map]
      have : (NE.k ∘ fun y : NE => if y.k = x.k then { y with v := x.v } else y) = NE.k := funext fun y => by
        show (if y.k = x.k then ({ y with v := x.v } : NE) else y).k = y.k
        split <;> rfl
      rw [this]
      exact n.2
    · rename_i c
      rw [List.map_append, List.nodup_append]
      refine ⟨n.2, by simp, fun a ha b hb => ?_⟩
      obtain ⟨y, hy, rfl⟩ := List.mem_map.mp ha
      rw [List.map_cons, List.map_nil, List.mem_singleton] at hb
      rintro e
      exact c (List.any_eq_true.mpr ⟨y, hy, decide_eq_true (e.trans hb)⟩)
theorem nput_len (xs : List NE) (x : NE) : (nput xs x).length ≤ xs.length + 1 := by
  unfold nput
  split
  · rw [List.length_map]
    omega
  · rw [List.length_append]
    exact Nat.le_refl _
def NDict (w : World) (h : Heap) (d : Addr) (xs : List NE) : Prop := ∃ o es ep, h.get? d = some o ∧ o.ExactDict ∧ o.data = .dict es ep ∧ es.toList = xs.map (NE.ent w)
theorem nset {d : Addr} {xs : List NE} {x : NE} {Q : Unit → Shared → Prop} (hu : A.units + 8 < cLine) (hx : NestedIs s.heap x.k x.u) (dx : x.k.depth ≤ 8) (hv : (∃ a, x.u = .ref a) ∨ (xs = [] ∧ carriedByValue x.u = true ∧ ∀ b, x.u ≠ .bool b))
    (hm : NDict w s.heap d xs) (nk : NOk s.heap xs) (hz : xs.length ≤ sizeLine)
    (hQ : ∀ h' tk, NDict w h' d (nput xs x) → Heap.SameBut d s.heap h' → Q () { s with heap := h', toks := tk }) : wpAny (model prog w) A (dictSet d x.u x.v) Q E s := by
  obtain ⟨o, es, ep, ho, hc, hd, he⟩ := hm
  unfold dictSet
  try with_reducible refine wpAny_holding ?_
  refine wpAny_bind (pyHash_key x.k x.u A s _ hx (by omega) ?_)
  unfold dictSetHashed
  try with_reducible refine wpAny_holding ?_
  have esz : es.size ≤ sizeLine := by rw [ent_size he]; exact hz
  have new : (∀ y ∈ xs, ¬ y.k = x.k) → wpAny (model prog w) A (do rule "dict.set.new-key-at-the-end"; updateDictKeys d (·.push ⟨x.k.hash w, x.u, x.v⟩) (keyPart x.u)) Q E { s with toks := s.toks + x.k.draws } := fun no => by
    refine wpAny_bind (wpAny_rule ?_)
    refine wpAny_updateDictKeys (hz := esz) ho hd (hQ _ _ ⟨_, _, _, Heap.get?_update_self _ ho (Obj.isFreed_of_dict (Obj.data_mapDictKeys hd _)), hc.mapDictKeys _, Obj.data_mapDictKeys hd _, ?_⟩ (Heap.SameBut.update ..))
    unfold nput
    rw [if_neg (by
      rw [List.any_eq_true]
      rintro ⟨y, hy, c⟩
      exact no y hy (of_decide_eq_true c)), List.map_append, Array.toList_push, he]
    rfl
  refine wpAny_bind ?_
  rcases hv with ⟨a, ea⟩ | ⟨e0, hv, hb⟩
  · rw [ea] at hx new ⊢
    refine nfind (s := { s with toks := s.toks + x.k.draws }) hu hx dx ho hd he nk (fun no => ?_) fun i hi => ?_
    · refine new fun y hy c => ?_
      obtain ⟨i, hi⟩ := List.getElem?_of_mem hy
      exact no i ⟨y, hi, c⟩
    · obtain ⟨y, hy, ey⟩ := hi
      refine wpAny_bind (wpAny_rule (wpAny_bind (wpAny_updateDict (s := { s with toks := s.toks + x.k.draws }) ho hd (wpAny_point (hQ _ _ ⟨_, _, _, Heap.get?_update_self _ ho (Obj.isFreed_of_dict (Obj.data_mapDict hd _)), hc.mapDict _, Obj.data_mapDict hd _, ?_⟩ (Heap.SameBut.update ..))))))
      unfold nput
      rw [if_pos (List.any_eq_true.mpr ⟨y, List.mem_of_getElem? hy, decide_eq_true ey⟩), Array.toList_modify, he]
      refine List.ext_getElem? fun j => ?_
      rw [List.getElem?_modify, List.getElem?_map, List.getElem?_map, List.getElem?_map]
      cases hj : xs[j]? with
      | none => simp
      | some z =>
        by_cases c : i = j
        · subst c
          rw [hy] at hj
          cases hj
          simp [NE.ent, ey]
        · have : ¬ z.k = x.k := fun q => c (nkey_uniq nk hy hj (ey.trans q.symm))
          simp [c, this]
  · subst e0
    have ees : es = #[] := by
      have := he
      rw [List.map_nil] at this
      exact Array.toList_eq_nil_iff.mp this
    subst ees
    exact nfind0 (s := { s with toks := s.toks + x.k.draws }) hx hv hb ho hd (new fun y hy => by cases hy)
end
end L2
set_option maxRecDepth 100000
set_option maxHeartbeats 4000000
namespace L2
open PySem PySem.Spec PyProof.Rows
mutual
inductive NKV (H : Hp) : NestedKey → V → Prop
  | non : NKV H .none .non
  | bl (b : Bool) : NKV H (.num (if b = true then 1 else 0)) (.bl b)
  | int (i : Int) : NKV H (.num i) (.int i)
  | str (x : Str) : NKV H (.text x) (.str x)
  | tup {p : Addr} {xs : List V} {ks : List NestedKey} (h : H p = some (.tup xs)) (a : NKVs H ks xs) : NKV H (.tup ks) (.ref p)
inductive NKVs (H : Hp) : List NestedKey → List V → Prop
  | nil : NKVs H [] []
  | cons {k : NestedKey} {x : V} {ks : List NestedKey} {xs : List V} (a : NKV H k x) (b : NKVs H ks xs) : NKVs H (k :: ks) (x :: xs)
end
mutual
theorem NKV.keep {H H' : Hp} (s : ∀ b xs, H b = some (.tup xs) → H' b = some (.tup xs)) : ∀ {k : NestedKey} {x : V}, NKV H k x → NKV H' k x
  | _, _, .non => .non
  | _, _, .bl b => .bl b
  | _, _, .int i => .int i
  | _, _, .str x => .str x
  | _, _, .tup h a => .tup (s _ _ h) (NKVs.keep s a)
theorem NKVs.keep {H H' : Hp} (s : ∀ b xs, H b = some (.tup xs) → H' b = some (.tup xs)) : ∀ {ks : List NestedKey} {xs : List V}, NKVs H ks xs → NKVs H' ks xs
  | _, _, .nil => .nil
  | _, _, .cons a b => .cons (a.keep s) (NKVs.keep s b)
end
mutual
theorem NKV.is {P : Program} {w : World} {H : Hp} {h : Heap} (ok : HOk P w H h) : ∀ {k : NestedKey} {x : V} {u : Value}, NKV H k x → RelV x u → NestedIs h k u
  | _, _, _, .non, r => by
    obtain rfl := r
    exact .none
  | _, _, _, .bl b, r => by
    obtain rfl := r
    exact .bool rfl
  | _, _, _, .int i, r => by
    obtain ⟨t, rfl⟩ := r
    exact .int _ _
  | _, _, _, .str x, r => by
    obtain ⟨t, rfl⟩ := r
    exact .text _ _
  | _, _, _, .tup (p := p) h a, r => by
    obtain rfl := r
    obtain ⟨_, its, rv, o, e, hc, n, hd⟩ := ok p _ h
    refine .tup e hc hd ?_
    exact NKVs.is ok a rv
theorem NKVs.is {P : Program} {w : World} {H : Hp} {h : Heap} (ok : HOk P w H h) : ∀ {ks : List NestedKey} {xs : List V} {us : List Value}, NKVs H ks xs → Vals xs us → NestedAll h ks us
  | _, _, _, .nil, r => by
    cases r
    exact .nil
  | _, _, _, .cons a b, r => by
    cases r with
    | cons r1 r2 => exact .cons (NKV.is ok a r1) (NKVs.is ok b r2)
end
structure RE where
  h : Int
  k : V
  v : V
def rawD (rows : List RE) (d : Addr) (h : Heap) : Prop := (d == sysModules) = false ∧ rows.length ≤ sizeLine ∧ ∃ o es ep, h.get? d = some o ∧ o.ExactDict ∧ o.data = .dict es ep ∧ Paired (fun (r : RE) (e : DictEntry) => e.hash = r.h ∧ RelV r.k e.key ∧ RelV r.v e.val) rows es.toList
def RawAt (H : Hp) (d : Addr) (rows : List RE) : Prop := H d = some (.ext (rawD rows d))
theorem raw_ok {P : Program} {w : World} {H : Hp} {h : Heap} {d : Addr} {rows : List RE} (x : rawD rows d h) : ObjOk P w H h d (.ext (rawD rows d)) := by
  refine ⟨x, ?_, fun h1 h2 ⟨a, z, o, es, ep, e, c⟩ k => ⟨a, z, o, es, ep, k o e, c⟩⟩
  obtain ⟨_, _, o, _, _, e, _⟩ := x
  exact ⟨o, e⟩
section
variable {X : Cx} {pins : List (Addr × Obj)} {σ : St} {H : Hp} {s : Shared} {d : Addr} {o : Obj} {rows : List RE}
theorem Inv.raw (I : Inv X pins σ H s) (h : RawAt H d rows) : rawD rows d s.heap := (I.hok d _ h).1
theorem Inv.frzR (I : Inv X pins σ H s) (h : H d = some (.frz o (.ext (rawD rows d)))) : (d == sysModules) = false ∧ s.heap.get? d = some o ∧ o.ExactDict ∧ ∃ (es : Array DictEntry) (ep : Nat), o.data = .dict es ep ∧ es.size = rows.length ∧
    ∀ (i : Nat) (r : RE), rows[i]? = some r → ∃ en : DictEntry, es[i]? = some en ∧ RelV r.k en.key ∧ RelV r.v en.val := by
  obtain ⟨here, ⟨low, _, o', es, ep, e, ex, dat, pr⟩, _⟩ := I.hok d _ h
  obtain rfl : o' = o := Option.some.inj (e.symm.trans here)
  refine ⟨low, here, ex, es, ep, dat, by have := Paired.length pr; simpa using this.symm, fun i r hi => ?_⟩
  obtain ⟨en, hen, _, r1, r2⟩ := paired_get pr hi
  exact ⟨en, by rw [← Array.getElem?_toList]; exact hen, r1, r2⟩
end
def Itkr (d : Addr) (o : Obj) (rows : List RE) : It :=
  ⟨fun i H => i < rows.length ∧ H d = some (.frz o (.ext (rawD rows d))), fun i H x G => (∃ r, rows[i]? = some r ∧ x = r.k) ∧ G = H, fun i H => rows.length ≤ i ∧ H d = some (.frz o (.ext (rawD rows d)))⟩
section
variable {P : Program} {w : World} {K : PySem.W.Frag} {tg : Expr} {d : Addr} {o : Obj} {es : Array DictEntry} {ep : Nat} {rows : List RE}
theorem turn_keysR (it : Addr) (dat : o.data = .dict es ep) : Turn P w K tg (Itkr d o rows) [it] it (fun i h => h.IsKeyIter it d i rows.length ep) where
  mem := List.mem_singleton_self it
  obj := fun i h st b hb => by
    rw [List.mem_singleton.mp hb]
    obtain ⟨ob, e, c, dd⟩ := st
    exact ⟨ob, e, fun v z => by rw [dd] at z; cases z⟩
  keep := fun i h h' st k => st.at fun ob e => k it (List.mem_singleton_self it) ob e
  item := by
    intro X hP hw hK hc i pins s σ H E I hf st hg
    subst hP hw hK
    obtain ⟨lt, hd⟩ := hg
    obtain ⟨f0, f1, f2, f3, f4, f5⟩ := hf it (List.mem_singleton_self it)
    obtain ⟨low, here, ex, es', ep', dat', hsz, ent⟩ := I.frzR hd
    obtain ⟨rfl, rfl⟩ := dict_ep dat dat'
    obtain ⟨en, hen, rk, _⟩ := ent i rows[i] (List.getElem?_eq_getElem lt)
    refine next_key_item st here dat hsz hen fun h' st' sb => ?_
    have J : Inv X pins σ H { s with heap := h' } := I.turned (t' := s.toks) (fun b ob nb e => (sb.2 b nb).trans e) f0 f1 f3 f4 f5
    obtain ⟨oi, e1, e2, e3⟩ := id st'
    exact ⟨en.key, rfl, go_of (s := { s with heap := h' }) e1 e2 e3 (by decide) ⟨rows[i].k, H, J, rk, ⟨⟨_, List.getElem?_eq_getElem lt, rfl⟩, rfl⟩, st', fun b hb => (hf b hb).1⟩⟩
  done := by
    intro X hP hw hK hc i pins s σ H E I hf st hg
    subst hP hw hK
    obtain ⟨ge, hd⟩ := hg
    obtain ⟨f0, f1, f2, f3, f4, f5⟩ := hf it (List.mem_singleton_self it)
    obtain ⟨low, here, ex, es', ep', dat', hsz, ent⟩ := I.frzR hd
    obtain ⟨rfl, rfl⟩ := dict_ep dat dat'
    exact next_key_end (I.ok.hd hc) st here dat hsz ge fun h' eb => ⟨rfl, I.turned (t' := s.toks) (fun b ob nb e => eb b ob nb e) f0 f1 f3 f4 f5⟩
  self := fun A i s Q E st h => wpAny_pyIter_keyiter st h
theorem walk_keysR : Walk (Itkr d o rows) rows.length (fun H => H d = some (.frz o (.ext (rawD rows d)))) (fun i H x G => G = H ∧ ∃ r, rows[i]? = some r ∧ x = r.k) :=
  ⟨fun _ _ lt q => ⟨lt, q⟩, fun _ q => ⟨Nat.le_refl _, q⟩, fun _ _ _ _ _ _ y => ⟨y.2, y.1⟩⟩
end
def iKeysO (td : TE) : TI := fun σ H R => td σ H fun x G => (∃ d o kvs, x = .ref d ∧ G d = some (.frz o (.dT kvs)) ∧ R (Itkt d o kvs) G) ∨ ∃ d o rows, x = .ref d ∧ G d = some (.frz o (.ext (rawD rows d))) ∧ R (Itkr d o rows) G
section
variable {X : Cx} {tg e : Expr} {td : TE}
theorem pi_keysO (he : PE X e td) : PI X tg e (iKeysO td) := by
  refine ⟨fun pins s σ H R I h => ?_⟩
  refine thn (he.run pins s σ H _ I h) fun u s1 ⟨x, G, J, rx, q⟩ => ?_
  rcases q with ⟨d, o, kvs, ex, hd, q⟩ | ⟨d, o, rows, ex, hd, q⟩
  · subst ex
    obtain rfl : u = Value.ref d := rx
    obtain ⟨hs, hgd, hx, es, ep, hdt, hsz, ent⟩ := J.frzT hd
    refine iter_keys hs hgd hx hdt (pi_one (tk := s1.toks) J _ (turn_keysT _ hdt) ⟨_, Heap.get?_push_size _ rfl, rfl, ?_⟩ q)
    first | rfl | (rw [hsz]; rfl) | rw [hsz]
  · subst ex
    obtain rfl : u = Value.ref d := rx
    obtain ⟨low, here, ex, es, ep, dat, hsz, ent⟩ := J.frzR hd
    refine iter_keys low here ex dat (pi_one (tk := s1.toks) J _ (turn_keysR _ dat) ⟨_, Heap.get?_push_size _ rfl, rfl, ?_⟩ q)
    first | rfl | (rw [hsz]; rfl) | rw [hsz]
end
def rTypO (K : PySem.W.Frag) : List V → Hp → VK → Prop := fun xs H Q => rTypD K xs H Q ∨ ∃ (a : Addr) (rows : List RE), xs = [.ref a] ∧ RawAt H a rows ∧ Q (.ty "dict") H
def rLenO : List V → Hp → VK → Prop := fun xs H Q => rLenT xs H Q ∨ ∃ (a : Addr) (rows : List RE), xs = [.ref a] ∧ RawAt H a rows ∧ Q (.int ((rows.length : Nat) : Int)) H
section
variable {X : Cx}
theorem call_typeO : CallR X (.type "type") (rTypO X.K) := by
  intro pins s σ H xs us Q I r h
  rcases h with h | ⟨a, rows, rfl, hd, q⟩
  · exact call_typeD pins s σ H xs us Q I r h
  · obtain ⟨u, rfl, rx⟩ := vals1 r
    cases (show u = Value.ref a from rx)
    obtain ⟨_, _, o, es, ep, ho, ex, _⟩ := I.raw hd
    have ty : s.TypeIs (.ref a) "dict" := ⟨o, ho, ex.1⟩
    exact call_type_of ty (by decide +kernel) ⟨.ty "dict", H, I, rfl, q⟩
theorem call_lenO : CallR X (.builtin "len") rLenO := by
  intro pins s σ H xs us Q I r h
  rcases h with h | ⟨a, rows, rfl, hd, q⟩
  · exact call_len_dT pins s σ H xs us Q I r h
  · obtain ⟨u, rfl, rx⟩ := vals1 r
    cases (show u = Value.ref a from rx)
    obtain ⟨low, z, o, es, ep, ho, ex, dat, pr⟩ := I.raw hd
    have ty : s.TypeIs (.ref a) "dict" := ⟨o, ho, ex.1⟩
    have raw : s.heap.DictRaw a es ep := ⟨o, ho, ex, dat⟩
    have hsz : es.size = rows.length := by have := Paired.length pr; simpa using this.symm
    have fit : ((es.size : Nat) : Int) < 2 ^ 63 := by
      have h2 : rows.length ≤ 2 ^ 24 := Nat.le_trans z (by rw [sizeLine_eq]; decide)
      have h3 : ((2 ^ 24 : Nat) : Int) < 2 ^ 63 := by decide
      omega
    refine Calls.call_function_entry kind_len plain_len entry_len (args_len1 _) ?_
    unfold Builtin.«len»
    refine wpAny_bind (m := oneArg "len" _) (wpAny_pure ?_)
    refine wpAny_bind (m := callSpecial? (.ref a) (Str.ofString "__len__")) (wpAny_callSpecial?_slot (name := Str.ofString "__len__") ty F.slot_dict_len (call_len_raw low raw ?_))
    refine wpAny_bind (wpAny_holding (wpAny_pure ?_))
    refine wpAny_bind (wpAny_letGo ?_)
    show wpAny _ _ (if ((es.size : Nat) : Int) < 0 then _ else _) _ _ _
    rw [if_neg (by omega)]
    show wpAny _ _ (if ((es.size : Nat) : Int) ≥ 2 ^ 63 then _ else _) _ _ _
    rw [if_neg (by omega)]
    refine wpAny_bind (wpAny_mkInt (wpAny_pure ⟨_, rfl, .int ((rows.length : Nat) : Int), H, (I.tok _).tok _, ⟨_, by rw [hsz]⟩, q⟩))
end
end L2
set_option maxRecDepth 100000
set_option maxHeartbeats 4000000
namespace L2
open PySem PySem.Spec PyProof.Rows
structure PN where
  t : Addr
  k : NestedKey
  x : V
  v : V
def sput (xs : List PN) (e : PN) : List PN := if xs.any (fun y => decide (y.k = e.k)) = true then xs.map (fun y => if y.k = e.k then { y with v := e.v } else y) else xs ++ [e]
def smerge (xs : List PN) : List PN := xs.foldl sput []
def rowsOf (w : World) (xs : List PN) : List RE := xs.map fun e => ⟨e.k.hash w, e.x, e.v⟩
theorem smerge_snoc (xs : List PN) (e : PN) : smerge (xs ++ [e]) = sput (smerge xs) e := by
  unfold smerge
  rw [List.foldl_append]
  rfl
theorem sput_len (xs : List PN) (e : PN) : (sput xs e).length ≤ xs.length + 1 := by
  unfold sput
  split
  · rw [List.length_map]
    omega
  · rw [List.length_append]
    exact Nat.le_refl _
theorem foldl_len (xs : List PN) : ∀ acc : List PN, (xs.foldl sput acc).length ≤ acc.length + xs.length := by
  induction xs with
  | nil => exact fun _ => Nat.le_refl _
  | cons e xs ih =>
    intro acc
    have h1 := ih (sput acc e)
    have h2 := sput_len acc e
    rw [List.foldl_cons, List.length_cons]
    omega
theorem smerge_len (xs : List PN) : (smerge xs).length ≤ xs.length := by
  have := foldl_len xs []
  simpa [smerge] using this
def SN (a : PN) (b : NE) : Prop := b.k = a.k ∧ RelV a.x b.u ∧ RelV a.v b.v
theorem sn_any {xs : List PN} {ns : List NE} (p : Paired SN xs ns) (k : NestedKey) : ns.any (fun y => decide (y.k = k)) = xs.any (fun y => decide (y.k = k)) := by
  induction p with
  | nil => rfl
  | cons r t ih => rw [List.any_cons, List.any_cons, ih, r.1]
theorem sn_put {xs : List PN} {ns : List NE} {e : PN} {n : NE} (p : Paired SN xs ns) (r : SN e n) : Paired SN (sput xs e) (nput ns n) := by
  unfold sput nput
  rw [r.1, sn_any p]
  split
  · rename_i c
    clear c
    induction p with
    | nil => exact .nil
    | @cons a b la lb r1 t ih =>
      refine .cons ?_ ih
      show SN (if a.k = e.k then _ else _) (if b.k = e.k then _ else _)
      rw [r1.1]
      split
      · exact ⟨rfl, r1.2.1, r.2.2⟩
      · exact r1
  · rename_i c
    clear c
    induction p with
    | nil => exact .cons r .nil
    | cons r1 t ih => exact .cons r1 ih
theorem pair_take {α β : Type} {G : α → β → Prop} : ∀ {l : List α} {m : List β}, Paired G l m → ∀ i, Paired G (l.take i) (m.take i)
  | _, _, .nil, i => by
    rw [List.take_nil, List.take_nil]
    exact .nil
  | _, _, .cons r t, 0 => .nil
  | _, _, .cons r t, i + 1 => .cons r (pair_take t i)
def nmerge (xs : List NE) : List NE := xs.foldl nput []
theorem nmerge_snoc (xs : List NE) (e : NE) : nmerge (xs ++ [e]) = nput (nmerge xs) e := by
  unfold nmerge
  rw [List.foldl_append]
  rfl
theorem sn_merge : ∀ {xs : List PN} {ns : List NE}, Paired SN xs ns → ∀ {a : List PN} {b : List NE}, Paired SN a b → Paired SN (xs.foldl sput a) (ns.foldl nput b)
  | _, _, .nil, _, _, q => q
  | _, _, .cons r t, _, _, q => sn_merge t (sn_put q r)
theorem nok_merge {h : Heap} : ∀ {xs : List NE}, (∀ x ∈ xs, NestedIs h x.k x.u ∧ x.k.depth ≤ 8) → ∀ {acc : List NE}, NOk h acc → NOk h (xs.foldl nput acc)
  | [], _, _, n => n
  | x :: xs, al, _, n => nok_merge (fun y hy => al y (List.mem_cons_of_mem _ hy)) (nput_ok n (al x (List.mem_cons_self ..)).1 (al x (List.mem_cons_self ..)).2)
def rDictN (K : PySem.W.Frag) (w : World) : List V → Hp → VK → Prop := fun xs H Q => ∃ (a : Addr) (ts : List PN), xs = [.ref a] ∧ SqL K H a (ts.map fun p => V.ref p.t) ∧ (∀ p ∈ ts, SqT K H p.t [p.x, p.v] ∧ NKV H p.k p.x ∧ p.k.depth ≤ 8) ∧
  (∀ i p, ts[i + 1]? = some p → ∃ q, p.x = .ref q) ∧ (∀ p, ts[0]? = some p → ∀ b, p.x ≠ .bl b) ∧ ∀ d, H d = none → Q (.ref d) (upd H d (.ext (rawD (rowsOf w (smerge ts)) d)))
section
variable {X : Cx} {pins : List (Addr × Obj)} {σ : St} {H : Hp} {s : Shared}
theorem raw_pn (I : Inv X pins σ H s) : ∀ {ts : List PN}, (∀ p ∈ ts, SqT X.K H p.t [p.x, p.v] ∧ NKV H p.k p.x ∧ p.k.depth ≤ 8) → ∃ ns : List NE, Paired SN ts ns ∧ (∀ n ∈ ns, NestedIs s.heap n.k n.u ∧ n.k.depth ≤ 8) ∧ ∀ (i : Nat) p n, ts[i]? = some p → ns[i]? = some n → s.heap.IsTuple p.t #[n.u, n.v]
  | [], _ => ⟨[], .nil, (fun n hn => by cases hn), fun i p n h => by cases h⟩
  | p :: ts, all => by
    obtain ⟨ns, a1, a2, a3⟩ := raw_pn I (ts := ts) fun z hz => all z (List.mem_cons_of_mem _ hz)
    obtain ⟨h1, h2, h3⟩ := all p (List.mem_cons_self ..)
    obtain ⟨its, rv, pt, _⟩ := I.tuple h1
    cases rv with
    | cons r1 rv =>
      cases rv with
      | cons r2 rv =>
        cases rv
        rename_i u1 u2
        refine ⟨⟨p.k, u1, u2⟩ :: ns, .cons ⟨rfl, r1, r2⟩ a1, fun n hn => ?_, fun i q n hq hn => ?_⟩
        · rcases List.mem_cons.mp hn with rfl | hn
          · exact ⟨h2.is I.hok r1, h3⟩
          · exact a2 n hn
        · cases i with
          | zero =>
            cases hq
            cases hn
            exact pt
          | succ i => exact a3 i q n hq hn
theorem cr_dictN (calm : X.calm = true) (hu : X.A.units + 64 < cLine) : CallR X (.type "dict") (rDictN X.K X.w) := by
  intro pins s σ H xs us Q I r hyp
  obtain ⟨a, ts, rfl, hs, all, later, first, q⟩ := hyp
  rw [Vals.ref1 r]
  obtain ⟨its, rv, ⟨o, n, ho, hc, hd, hdat⟩, hz⟩ := I.list hs
  rw [List.length_map] at hz
  obtain ⟨ns, pr, nis, tup⟩ := raw_pn I all
  have lr : ts.length = ns.length := Paired.length pr
  have ei : its = ts.map fun p => Value.ref p.t := by
    clear pr lr all q hs hz hdat later first tup nis
    induction ts generalizing its with
    | nil => cases rv; rfl
    | cons p ts ih =>
      cases rv with
      | cons r1 rv =>
        obtain rfl := r1
        rw [ih _ rv]
        rfl
  let ps : List (Value × Value) := ns.map fun x => (x.u, x.v)
  let Ts : Nat → Addr := fun j => (ts[j]?.map (·.t)).getD 0
  have lp : ps.length = ns.length := List.length_map ..
  have at_ : ∀ {j : Nat} {k v : Value}, ps[j]? = some (k, v) → ∃ (p : PN) (x : NE), ts[j]? = some p ∧ ns[j]? = some x ∧ k = x.u ∧ v = x.v := fun {j k v} e => by
    rw [show ps[j]? = ns[j]?.map fun x => (x.u, x.v) from List.getElem?_map ..] at e
    cases er : ns[j]? with
    | none => rw [er] at e; cases e
    | some x =>
      rw [er] at e
      cases e
      have jt : j < ts.length := by
        have := (List.getElem?_eq_some_iff.mp er).1
        omega
      exact ⟨_, x, List.getElem?_eq_getElem jt, rfl, rfl, rfl⟩
  have fresh : H s.heap.objs.size = none := I.hok.fresh (Nat.le_refl _)
  have low := (beq_eq_false_iff_ne.mpr (Nat.ne_of_gt I.big) : (s.heap.objs.size == sysModules) = false)
  refine call_dict_arg (PairArg.list a its.toArray Ts ps) ⟨⟨o, n, ho, hc, hd, hdat⟩, ?_, ?_⟩ fun s1 hs1 hdf ok1 => ?_
  · rw [List.size_toArray, ei, List.length_map, lp]
    exact lr
  · intro j k v e
    obtain ⟨p, x, ht, hr, rfl, rfl⟩ := at_ e
    have eT : Ts j = p.t := by
      show (ts[j]?.map (·.t)).getD 0 = p.t
      rw [ht]
      rfl
    refine ⟨?_, .inl ?_⟩
    · rw [List.getElem?_toArray, ei, List.getElem?_map, ht, eT]
      rfl
    · rw [eT]
      exact tup j p x ht hr
  subst hs1
  refine updateFrom_arg (A := X.A.in1) (Tab := fun i h => NDict X.w h s.heap.objs.size (nmerge (ns.take i)) ∧ ∀ b ob, s.heap.get? b = some ob → h.get? b = some ob) (PairArg.list a its.toArray Ts ps) .none (I.ok.hd calm) ok1 hdf
    ⟨⟨_, #[], 0, Heap.get?_push_size _ rfl, ⟨rfl, rfl, rfl⟩, rfl, rfl⟩, fun b ob e => Heap.get?_push_of_some _ e⟩ (fun i h tb => ?_) (fun i h h' wr' hd' hw tb hk => ?_) ?_ ?_
  · obtain ⟨⟨o1, _, _, e1, _⟩, _⟩ := tb
    exact Heap.lt_size e1
  · obtain ⟨⟨o1, es1, ep1, e1, c1⟩, e2⟩ := tb
    refine ⟨⟨o1, es1, ep1, hk _ _ hd' e1, c1⟩, fun b ob e => hk b ob (fun z => ?_) (e2 b ob e)⟩
    rcases hw b z with y | y
    · cases y
    · have ne : b ≠ s.heap.objs.size := Nat.ne_of_lt (Heap.lt_size e)
      rw [Heap.get?_push_of_some _ e] at y
      cases y
  · intro i k v s' Q' E' hi hrel tb _ hQ
    obtain ⟨p, x, ht, hr, rfl, rfl⟩ := at_ hrel
    have hx := nis x (List.mem_of_getElem? hr)
    have up : ∀ {k : NestedKey} {u : Value}, NestedIs s.heap k u → NestedIs s'.heap k u := fun hn => NestedIs.at (fun b ob _ _ e _ => tb.2 b ob e) _ _ hn
    have nk : NOk s'.heap (nmerge (ns.take i)) := nok_merge (fun y hy => ⟨up (nis y (List.mem_of_mem_take hy)).1, (nis y (List.mem_of_mem_take hy)).2⟩) ⟨(fun y hy => by cases hy), List.nodup_nil⟩
    have ln : ∀ (zs : List NE) (acc : List NE), (zs.foldl nput acc).length ≤ acc.length + zs.length := fun zs => by
      induction zs with
      | nil => exact fun _ => Nat.le_refl _
      | cons e zs ih =>
        intro acc
        have h1 := ih (nput acc e)
        have h2 := nput_len acc e
        rw [List.foldl_cons, List.length_cons]
        omega
    have sm : (nmerge (ns.take i)).length ≤ sizeLine := by
      have := ln (ns.take i) []
      rw [List.length_take] at this
      have h3 : (nmerge (ns.take i)).length ≤ 0 + min i ns.length := this
      omega
    refine nset (x := x) (xs := nmerge (ns.take i)) (by show X.A.units + 1 + 1 + 8 < cLine; omega) (up hx.1) hx.2 ?_ tb.1 nk sm fun h' tk nd sb => hQ h' tk ⟨?_, fun b ob e => sb.extBut b ob (Nat.ne_of_lt (Heap.lt_size e)) (tb.2 b ob e)⟩ sb
    · obtain ⟨n2, hn2, sn⟩ := paired_get pr ht
      rw [hr] at hn2
      cases hn2
      cases i with
      | zero =>
        by_cases c : carriedByValue x.u = true
        · refine .inr ⟨rfl, c, fun b z => ?_⟩
          have := sn.2.1
          rw [z] at this
          have f := first p ht
          cases hx : p.x with
          | bl b' => exact f b' hx
          | _ =>
            rw [hx] at this
            first | (obtain ⟨_, q⟩ := this; cases q; done) | (cases this; done)
        · cases hu : x.u with
          | ref q => exact .inl ⟨q, rfl⟩
          | _ => rw [hu] at c; exact absurd rfl c
      | succ i =>
        obtain ⟨q, e⟩ := later i p ht
        have := sn.2.1
        rw [e] at this
        exact .inl ⟨q, this⟩
    · have : ns.take (i + 1) = ns.take i ++ [x] := by rw [List.take_add_one, hr]; rfl
      rw [this, nmerge_snoc]
      exact nd
  · intro h' tk tb hk
    have e : ns.take ps.length = ns := List.take_of_length_le (by omega)
    rw [e] at tb
    obtain ⟨⟨o1, es1, ep1, e1, ex1, dat1, he1⟩, e2⟩ := tb
    have pm : Paired SN (smerge ts) (nmerge ns) := sn_merge pr .nil
    have few : (rowsOf X.w (smerge ts)).length ≤ sizeLine := by
      unfold rowsOf
      rw [List.length_map]
      have := smerge_len ts
      omega
    refine ⟨rfl, .ref s.heap.objs.size, _, I.laid (t' := tk) (fun b ob e => e2 b ob e) (Nat.le_refl _) (raw_ok ⟨low, few, o1, es1, ep1, e1, ex1, dat1, ?_⟩), rfl, q _ fresh⟩
    rw [he1]
    unfold rowsOf
    clear few he1
    generalize smerge ts = l1 at pm
    generalize nmerge ns = l2 at pm
    induction pm with
    | nil => exact .nil
    | cons r t ih => exact .cons ⟨by show NestedKey.hash X.w _ = NestedKey.hash X.w _; rw [r.1], r.2.1, r.2.2⟩ ih
end
end L2
set_option maxRecDepth 100000
set_option maxHeartbeats 4000000
namespace L2
open PySem PySem.Spec PyProof.Rows
def layT : Hp → List Addr → List (List V) → Hp
  | G, a :: as, z :: zs => layT (upd G a (.tup z)) as zs
  | G, _, _ => G
theorem layT_off {b : Addr} : ∀ (as : List Addr) (zs : List (List V)) (G : Hp), b ∉ as → layT G as zs b = G b
  | [], _, _, _ => rfl
  | _ :: _, [], _, _ => rfl
  | a :: as, z :: zs, G, n => by
    have n2 : b ≠ a := fun e => n (e ▸ List.mem_cons_self ..)
    exact (layT_off as zs _ fun e => n (List.mem_cons_of_mem _ e)).trans (upd_ne n2)
theorem layT_at : ∀ (as : List Addr) (zs : List (List V)) (G : Hp), as.Nodup → ∀ (i : Nat) (a : Addr) (z : List V), as[i]? = some a → zs[i]? = some z → layT G as zs a = some (.tup z)
  | [], _, _, _, i, a, z, h, _ => by simp at h
  | _ :: _, [], _, _, i, a, z, _, h => by simp at h
  | b :: as, y :: zs, G, nd, 0, a, z, ha, hz => by
    obtain rfl : b = a := Option.some.inj ha
    obtain rfl : y = z := Option.some.inj hz
    exact (layT_off as zs _ (List.nodup_cons.mp nd).1).trans upd_same
  | b :: as, y :: zs, G, nd, i + 1, a, z, ha, hz => layT_at as zs _ (List.nodup_cons.mp nd).2 i a z ha hz
def rItemsT : V → Hp → VK → Prop := fun x H Q => ∃ (d : Addr) (kvs : List (List Key × V)), x = .ref d ∧ H d = some (.dT kvs) ∧
  ∀ (H' : Hp) (p : Addr) (ts : List Addr), (∀ b o, H b = some o → H' b = some o) → H p = none → (∀ t ∈ ts, H t = none) → p ∉ ts → H' p = some (.lst (ts.map V.ref)) → ts.length = kvs.length → ts.Nodup →
    (∀ (i : Nat) (t : Addr) k v, ts[i]? = some t → kvs[i]? = some (k, v) → ∃ q, H' t = some (.tup [.ref q, v]) ∧ H q = some (.tup (k.map kV))) → Q (.ref p) H'
def tListItemsT (te : TE) : TE := fun σ H Q => te σ H fun x G => rItemsT x G Q
section
variable {X : Cx} {e : Expr} {te : TE} {p apos cpos pos : Pos}
theorem pe_listItemsT (hc : X.calm = true) (he : PE X e te) (hg : Gl X "list") (hm : X.mg "list" = none) (hv : bootBuiltins "list" = some (.type "list")) (hbase : attributeBase e "items" X.env (eval e X.env) = eval e X.env := by rfl) (hline : (apos.endLine == cpos.line) = true := by rfl)
    (hs : starEach [.Call (.Attribute e "items" apos) [] [] cpos] X.env = (false, eval (.Call (.Attribute e "items" apos) [] [] cpos) X.env) :: starEach [] X.env := by rfl) :
    PE X (.Call (.Name "list" p) [.Call (.Attribute e "items" apos) [] [] cpos] [] pos) (tListItemsT te) := by
  refine ⟨fun pins s σ H Q I hq => ?_⟩
  refine wpAny_Call_Name_kw (ld_blt I hg hm hv (PyProof.Rows.callWith_type1 ?_ hs rfl))
  rw [hs]
  show wpAny _ _ (spliced ((false, eval (.Call (.Attribute e "items" apos) [] [] cpos) X.env) :: backTo pos (starEach [] X.env))) _ _ s
  refine Calls.spliced_cons (wpAny_Call_method (T := "dict") (id := "dict.items") hbase rfl hline F.plainAttrs_dict F.slot_dict_items F.type_dict_items (thn (he.run pins s σ H _ I hq) fun u s1 ⟨x, G, J, rx, d, kvs, ex, hd, q⟩ => ?_))
  subst ex
  obtain rfl : u = Value.ref d := rx
  obtain ⟨hz, low, xs, pr, o, es, ep, here, exact_, dat, ent, nd⟩ := J.hok d _ hd
  have l1 : es.size = xs.length := size_of_entries ent
  have l2 : kvs.length = xs.length := Paired.length pr
  have raw := raw_of here exact_ dat
  have J2 : Inv X pins σ G { s1 with heap := s1.heap.push (DSub.viewOb "dict_items" d) } := J.kept (t' := s1.toks) fun b ob q => Heap.get?_push_of_some _ q
  refine ⟨raw.typeIs, noDict_of here exact_, ?_⟩
  show wpAny _ _ (callWith cpos (.builtin "dict.items") [.ref d] [] []) _ X.xe s1
  refine method_meetsIn F.slot_dict_items F.entry_dict_items rfl (PySem.evalArgs_none ⟨rfl, raw.typeIs, F.args_dict_items_1 _, _, DT.meetsItems low, ⟨raw, ?_⟩⟩)
  refine Calls.spliced_nil ?_
  have raw2 : (s1.heap.push (DSub.viewOb "dict_items" d)).DictRaw d es ep := ⟨o, Heap.get?_push_of_some _ here, exact_, dat⟩
  refine PySem.W.dil_call (es := es) (ep := ep) (d := d) (r := s1.heap.objs.size) (s := { s1 with heap := s1.heap.push (DSub.viewOb "dict_items" d) }) (J.ok.hd hc) ⟨_, Heap.get?_push_size _ rfl, rfl, rfl⟩ raw2 (by omega) fun h' tk acc c as hk hS hl hG hacc => ?_
  generalize hP : (s1.heap.push (DSub.viewOb "dict_items" d)).objs.size = P at hS hG
  have ndA : as.Nodup := List.Pairwise.imp (fun {a b} (h : a < b) => Nat.ne_of_lt h) hG.rise
  have newA : ∀ t ∈ as, G t = none := fun t ht => J2.hok.fresh (by
    have := hG.above t ht
    rw [← hP] at this
    exact Nat.le_of_lt this)
  have newP : G P = none := J2.hok.fresh (by rw [← hP]; exact Nat.le_refl _)
  have nPA : P ∉ as := fun z => Nat.lt_irrefl _ (hG.above _ z)
  let zs : List (List V) := List.zipWith (fun (kv : List Key × V) (x : List Key × Addr × Value) => [V.ref x.2.1, kv.2]) kvs xs
  have zs_at : ∀ (i : Nat) (k : List Key) (v : V), kvs[i]? = some (k, v) → ∃ x : List Key × Addr × Value, xs[i]? = some x ∧ zs[i]? = some [V.ref x.2.1, v] ∧ G x.2.1 = some (.tup (k.map kV)) ∧ RelV v x.2.2 := fun i k v hi => by
    obtain ⟨x, hx, e1, e2, e3⟩ := paired_get pr hi
    refine ⟨x, hx, ?_, e2, e3⟩
    show (List.zipWith _ kvs xs)[i]? = _
    rw [List.getElem?_zipWith, hi, hx]
  let G2 := layT (upd G P (.lst (as.map V.ref))) as zs
  have offG : ∀ b, b ∉ as → b ≠ P → G2 b = G b := fun b n1 n2 => (layT_off as zs _ n1).trans (upd_ne n2)
  have kp : ∀ b u, G b = some u → G2 b = some u := fun b u e => by
    rw [offG b (fun z => by rw [newA b z] at e; cases e) (fun z => by rw [z, newP] at e; cases e)]
    exact e
  have eP : G2 P = some (.lst (as.map V.ref)) := (layT_off as zs _ nPA).trans upd_same
  have lz : zs.length = kvs.length := by
    show (List.zipWith _ kvs xs).length = _
    rw [List.length_zipWith]
    omega
  have atT : ∀ (i : Nat) (t : Addr) (k : List Key) (v : V), as[i]? = some t → kvs[i]? = some (k, v) → ∃ x : List Key × Addr × Value, xs[i]? = some x ∧ G2 t = some (.tup [.ref x.2.1, v]) ∧ G x.2.1 = some (.tup (k.map kV)) ∧ RelV v x.2.2 := fun i t k v h1 h2 => by
    obtain ⟨x, hx, hz2, e2, e3⟩ := zs_at i k v h2
    exact ⟨x, hx, layT_at as zs _ ndA i t _ h1 hz2, e2, e3⟩
  have low2 : ∀ b ob, (s1.heap.push (DSub.viewOb "dict_items" d)).get? b = some ob → b ∉ as ∧ b ≠ P := fun b ob e => by
    have hlt := Heap.lt_size e
    rw [hP] at hlt
    exact ⟨fun z => absurd hlt (Nat.not_lt.mpr (Nat.le_of_lt (hG.above b z))), Nat.ne_of_lt hlt⟩
  have fin : Inv X pins σ G2 { s1 with heap := h', toks := tk } := by
    refine J2.call' (ch := []) rfl ⟨fun b ob q _ _ _ => hk b ob q, fun b ob q _ _ _ => ⟨ob.slots, hk b ob q⟩, fun b ob q n _ => ?_, fun b ob q _ => ⟨ob, hk b ob q⟩, fun b xs q => kp b _ q, fun b ob u q => kp b _ q, fun b ps q => ⟨#[], by rw [kp b _ q]; simp⟩⟩ (fun b u q => ?_) J2.bare fun b z => by simp at z
    · obtain ⟨z1, z2⟩ := low2 b ob q
      rw [offG b z1 z2]
      exact n
    · by_cases hb : b ∈ as
      · obtain ⟨i, hi⟩ := List.getElem?_of_mem hb
        have hil : i < kvs.length := by
          have := (List.getElem?_eq_some_iff.mp hi).1
          omega
        obtain ⟨x, hx, e1, e2, e3⟩ := atT i b _ _ hi (List.getElem?_eq_getElem hil)
        rw [e1] at q
        cases q
        obtain ⟨hj, f⟩ := hG.pairs i b hi
        have en := entry_at ent i
        rw [Array.getElem?_eq_getElem hj, hx] at en
        have en2 : es[i] = entryOfKey _ x := Option.some.inj en
        refine ⟨by show 2 ≤ sizeLine; decide, [es[i].key, es[i].val], .cons ?_ (.cons ?_ .nil), ⟨_, f, rfl, _, rfl⟩⟩
        · rw [en2]
          rfl
        · rw [en2]
          exact e3
      · by_cases hb2 : b = P
        · rw [hb2] at q ⊢
          rw [eP] at q
          cases q
          refine ⟨by rw [List.length_map]; omega, acc.toList, c, by rw [hacc]; exact vals_refs as, ?_⟩
          rw [Array.toArray_toList]
          exact hS
        · rw [offG b hb hb2] at q
          exact (J2.hok b u q).stay (fun d v _ y => hk d v y) (fun d y => kp d _ y) fun d xs y => kp d _ y
  refine ⟨.ref P, G2, fin, by rw [← hP]; rfl, q G2 P as kp newP newA nPA eP (by omega) ndA fun i t k v h1 h2 => ?_⟩
  obtain ⟨x, _, e1, e2, _⟩ := atT i t k v h1 h2
  exact ⟨x.2.1, e1, e2⟩
end
end L2
set_option maxRecDepth 100000
set_option maxHeartbeats 4000000
namespace L2
open PySem PySem.Spec PyProof.Rows
section
variable {prog : Program} {w : World} {A : Around} {E : Value → Shared → Prop} {s : Shared} {T : String} {r d : Addr} {n : Nat} {P : Nat → Value → Prop} {OK : Heap → Prop}
theorem collect_src {Q : List Value → Shared → Prop} (K : PySem.W.KdlSrc prog w T r d n P OK) (hh : A.handled = none) (ok : OK s.heap) (hn : n ≤ sizeLine)
    (hQ : ∀ (h' : Heap) (tk : Nat) (acc : Array Value), (∀ b o, s.heap.get? b = some o → h'.get? b = some o) → ItemsOf P acc n → Q acc.toList { s with heap := h', toks := tk }) : wpAny (model prog w) A (collect (.ref r)) Q E s := by
  unfold collect
  refine wpAny_bind (wpAny_runValue (codeAny_builtin F.entry_proto_collect ?_))
  rw [Around.under_plainId F.plain_proto_collect _]
  show wpAny _ A.in1 (newList [] >>= fun l => again (.builtin "list.__iadd__" ⟨[l, .ref r], []⟩)) _ _ s
  refine wpAny_bind (wpAny_newObj_type (wpAny_pure ⟨plainId_quiet F.plain_list_iadd _, codeAny_builtin F.entry_list_iadd ?_⟩))
  rw [Around.under_plainId F.plain_list_iadd _]
  show wpAny _ A.in1 (Builtin.List.listExtendWith (.ref s.heap.objs.size) (.ref r) (.ref s.heap.objs.size)) _ _ _
  have hS : (s.heap.push { cls := .type "list", data := .seq ([] : List Value).toArray }).get? s.heap.objs.size = some { cls := .type "list", data := .seq #[] 0 } := Heap.get?_push_size _ rfl
  have lt := K.there _ ok
  refine wpAny_mono (PySem.W.kdl_extend (A := A) (s := { s with heap := s.heap.push { cls := .type "list", data := .seq ([] : List Value).toArray } }) K hh (K.keep _ _ ok fun b _ o e => Heap.get?_push_of_some _ e) s.heap.objs.size (Nat.ne_of_gt lt.1) (Nat.ne_of_gt lt.2) (.ref s.heap.objs.size) 0 hS
    (R := fun rr s' => rr = .ok (.ret (.ref s.heap.objs.size)) ∧ ∃ (h' : Heap) (tk : Nat) (acc : Array Value) (c' : Nat), s' = { s with heap := h', toks := tk } ∧ (∀ b o, s.heap.get? b = some o → h'.get? b = some o) ∧ h'.get? s.heap.objs.size = some { cls := .type "list", dict := none, data := .seq acc c', slots := #[] } ∧ ItemsOf P acc n)
    (fun h' tk acc c' hk e hi => ⟨rfl, h', tk, acc, c', rfl, fun b o q => hk b o (Nat.ne_of_lt (Heap.lt_size q)) (Heap.get?_push_of_some _ q), e, hi⟩) hn) (fun fin s' h => ?_) (fun e s' h => ?_)
  · cases fin with
    | done f =>
      obtain ⟨e, h', tk, acc, c', rfl, hk, hS', hi⟩ := h
      cases e
      show wpAny _ A (load s.heap.objs.size >>= _) _ _ _
      exact wpAny_bind (wpAny_load hS' (wpAny_pure (hQ h' tk acc hk hi)))
    | again c' =>
      refine ⟨h.1, codeAny_mono h.2 fun rr s'' hr' => ?_⟩
      obtain ⟨rfl, h', tk, acc, c', rfl, hk, hS', hi⟩ := hr'
      show wpAny _ A (load s.heap.objs.size >>= _) _ _ _
      exact wpAny_bind (wpAny_load hS' (wpAny_pure (hQ h' tk acc hk hi)))
  · exact absurd h.1 (by simp)
theorem code_tuple_src {Q₁ : Value → Shared → Prop} (K : PySem.W.KdlSrc prog w T r d n P OK) (hh : A.handled = none) (ok : OK s.heap) (hn : n ≤ sizeLine) (nt : (Value.type T == Value.type "tuple") = false)
    (h : ∀ (h' : Heap) (tk : Nat) (acc : Array Value), (∀ b o, s.heap.get? b = some o → h'.get? b = some o) → ItemsOf P acc n → Q₁ (.ref h'.objs.size) { s with heap := h'.push { cls := .type "tuple", data := .seq acc }, toks := tk }) :
    codeAny (model prog w) A (.call (.builtin "tuple.__new__") ⟨[.type "tuple", .ref r], []⟩) (wants Q₁ E) s := by
  refine codeAny_of_tree ?_
  show wpAny _ A.in1 (do checkBuiltinCall "tuple.__new__" ⟨[.type "tuple", .ref r], []⟩; again (.builtin "tuple.__new__" ⟨[.type "tuple", .ref r], []⟩)) _ _ s
  refine wpAny_bind (wpAny_of_eq (F.newCall_tuple_1 _) (wpAny_pure ⟨plainId_quiet F.plain_tuple_new _, codeAny_builtin F.entry_tuple_new ?_⟩))
  rw [Around.under_plainId F.plain_tuple_new _]
  have hsub := sub_tuple_self
  have hinit := init_tuple_lookup
  have hmh := madeHere_tuple
  have hTI := K.type s ok
  have hh1 : A.in1.handled = none := hh
  wp_walk using wpAny_typeOf hTI, collect_src (A := A.in1) K hh1 ok hn
  intro h' tk acc hk hi
  show wpAny _ _ (Builtin.Tuple.tupleExact acc.toList.toArray >>= fun v => ret v) _ _ _
  have ea : acc.toList.toArray = acc := Array.toArray_toList ..
  rw [ea]
  unfold Builtin.Tuple.tupleExact
  exact wpAny_bind (wpAny_newObj_type (wpAny_pure (h h' tk acc hk hi)) (by show acc.size ≤ sizeLine; rw [hi.1]; exact hn))
theorem call_tuple_src {Q : Value → Shared → Prop} (K : PySem.W.KdlSrc prog w T r d n P OK) (hh : A.handled = none) (ok : OK s.heap) (hn : n ≤ sizeLine) (nt : (Value.type T == Value.type "tuple") = false)
    (hQ : ∀ (h' : Heap) (tk : Nat) (acc : Array Value), (∀ b o, s.heap.get? b = some o → h'.get? b = some o) → ItemsOf P acc n → Q (.ref h'.objs.size) { s with heap := h'.push { cls := .type "tuple", data := .seq acc }, toks := tk }) :
    wpAny (model prog w) A (call (.type "tuple") [.ref r]) Q E s :=
  callType_codes (Q₁ := fun obj s₁ => s₁.TypeIs obj "tuple" ∧ Q obj s₁) F.called_tuple (F.typeCall_tuple_1 _) F.entry_object_init
    (code_tuple_src (A := A.in1) K hh ok hn nt fun h' tk acc hk hi => ⟨⟨_, Heap.get?_push_size _ rfl, rfl⟩, hQ h' tk acc hk hi⟩) fun obj s₁ h₁ =>
    ⟨h₁.1, F.args_object_init_2 obj _, object_init_meets F.called_tuple.init.lookup F.called_tuple.made (by decide) prog w A.in1 _ s₁ ⟨h₁.1, rfl, h₁.2⟩⟩
end
section
variable {X : Cx}
theorem cr_tupleDT (hc : X.calm = true) : CallR X (.type "tuple") (fun xs H Q => ∃ d kvs, xs = [V.ref d] ∧ Rd H d (.dT kvs) ∧ ∀ t bs, H t = none → IsKeys H kvs bs → Q (.ref t) (upd H t (.tup (bs.map V.ref)))) := by
  intro pins s σ H xs us Q I r h
  obtain ⟨d, kvs, rfl, hd, q⟩ := h
  obtain ⟨u, rfl, rx⟩ := r.one
  cases rx
  obtain ⟨z, low, ks, pr, o, es, ep, ho, ex, dat, ent, nd⟩ := (show ObjOk X.prog X.w H s.heap d (.dT kvs) from hd.ok I.hok)
  have l1 : es.size = ks.length := size_of_entries ent
  have l2 : kvs.length = ks.length := Paired.length pr
  refine call_tuple_src (kdl_raw low ex dat) (I.ok.hd hc) ho (by omega) (by decide) fun h' tk acc kp it => ?_
  have ea : acc.toList = (ks.map fun x => x.2.1).map Value.ref := by
    apply List.ext_getElem?
    intro j
    rw [List.getElem?_map, List.getElem?_map]
    cases hj : acc.toList[j]? with
    | none =>
      have h1 := List.getElem?_eq_none_iff.mp hj
      rw [Array.length_toList, it.1] at h1
      rw [List.getElem?_eq_none (by omega)]
      rfl
    | some v =>
      obtain ⟨en, hen, hv⟩ := it.2 j v (by rw [← Array.getElem?_toList]; exact hj)
      have qe := entry_at ent j
      rw [hen] at qe
      cases hb : ks[j]? with
      | none => rw [hb] at qe; cases qe
      | some b =>
        rw [hb] at qe
        have e2 : en = entryOfKey _ b := Option.some.inj qe
        rw [hv, e2]
        rfl
  have rv : Vals ((ks.map fun x => x.2.1).map V.ref) acc.toList := by
    rw [ea]
    exact vals_refs _
  have few : ((ks.map fun x => x.2.1).map V.ref).length ≤ sizeLine := by
    rw [List.length_map, List.length_map]
    omega
  have J : Inv X pins σ H { s with heap := h', toks := tk } := I.kept (t' := tk) kp
  have new : H h'.objs.size = none := J.hok.fresh (Nat.le_refl _)
  refine ⟨.ref h'.objs.size, _, J.laid (t' := tk) (o := .tup ((ks.map fun x => x.2.1).map V.ref)) (fun b ob e => Heap.get?_push_of_some _ e) (Nat.le_refl _) ⟨few, acc.toList, rv, ?_⟩, rfl, q _ _ new (isKeys_of pr)⟩
  rw [Array.toArray_toList]
  exact IsTup.new _ _
end
end L2
set_option maxRecDepth 100000
set_option maxHeartbeats 4000000
namespace Tt
open PySem L2
section
variable {P : Program} {w : World} {K : PySem.W.Frag} {mg : Str → Option Value} {base : Heap}
def spNumS (K : PySem.W.Frag) : Sp := fun vs H Q _ => ∃ (x : V) (S : String), vs = [x] ∧ TyB K H x S ∧ Q (.bl (inB (-1000000000) 1000000000 x)) H
theorem ok_is_number_of_sum (T : Txt K mg) : FnOk P w K mg base CX0 3 T.is_number_of_sum.a T.is_number_of_sum.fd ["thing"] (spNumS K) := by
  refine T.is_number_of_sum.F.ok sc_is_number_of_sum (fun vs H Q E h => ?_) (fun cdv A outer s H vs Q E hr h => ?_)
  · obtain ⟨x, S, rfl, _⟩ := h
    rfl
  · obtain ⟨x, S, rfl, t, k⟩ := h
    refine ⟨_, (pss_one (ps_ret (pe_call (ok_is_within T) (hr.mono (by decide)) (by rfl) T.is_within.g T.is_within.k T.is_within.b .nil pass0 (pa_cons (pv 0) (pa_cons (pe_un un_neg (pe_glob rfl T.c_MOST_NUMBER T.r_MOST_NUMBER)) (pa_cons (pe_glob rfl T.c_MOST_NUMBER T.r_MOST_NUMBER) pa_nil)))))), ?_⟩
    exact ⟨x, rfl, _, rfl, x, _, _, S, rfl, t, k⟩
def keyI : Key → Int
  | .inl i => i
  | .inr _ => 0
def okK (row : List Int) (k : List Key) : Bool := (decide ((k.length : Int) ≤ 40) && (k.map kV).all (inB 0 (hiE row))) && decide (k.map keyI ≠ [] ∧ closedT (k.map keyI) = k.map keyI)
def okN (v : V) : Bool := inB (-1000000000) 1000000000 v && !decide (v = V.int 0)
def okS (row : List Int) (kvs : List (List Key × V)) : Bool := decide (kvs.length ≤ 60) && (kvs.all (fun e => okK row e.1) && kvs.all (fun e => okN e.2))
theorem keys_int {row : List Int} : ∀ {k : List Key}, (k.map kV).all (inB 0 (hiE row)) = true → k.map kV = (k.map keyI).map V.int ∧ ∀ x ∈ k.map keyI, 0 ≤ x ∧ x ≤ hiE row
  | [], _ => ⟨rfl, fun x hx => by cases hx⟩
  | .inl i :: k, h => by
    rw [List.map_cons, List.all_cons, Bool.and_eq_true] at h
    obtain ⟨e, al⟩ := keys_int h.2
    refine ⟨by rw [List.map_cons, e]; rfl, fun x hx => ?_⟩
    have h1 : (decide (0 ≤ i) && decide (i ≤ hiE row)) = true := h.1
    rcases List.mem_cons.mp hx with hx | hx
    · have : x = i := hx
      subst this
      simpa using h1
    · exact al x hx
  | .inr z :: k, h => by
    rw [List.map_cons, List.all_cons, Bool.and_eq_true] at h
    exact absurd h.1 Bool.false_ne_true
theorem kV_ty {H : Hp} (k : Key) : ∃ S, TyB K H (kV k) S := by
  cases k with
  | inl i => exact ⟨_, .int i⟩
  | inr z => exact ⟨_, .str z⟩
theorem key_rd {row : List Int} {H : Hp} {q : Addr} {k : List Key} (h : H q = some (.tup (k.map kV))) (few : k.length < 1000) (even : row.length % 2 = 0) : RdOr row (.ref q) H K (okK row k) := by
  have ty : ∀ y ∈ k.map kV, ∃ S, TyB K H y S := fun y hy => by
    obtain ⟨z, _, rfl⟩ := List.mem_map.mp hy
    exact kV_ty z
  have wv : WV K 40 row H (.ref q) (decide (((k.map kV).length : Int) ≤ 40) && (k.map kV).all (inB 0 (hiE row))) := .tup (SqT.of h) (by rw [List.length_map]; exact few) ty
  rw [List.length_map] at wv
  cases g : (decide ((k.length : Int) ≤ 40) && (k.map kV).all (inB 0 (hiE row))) with
  | false =>
    rw [g] at wv
    refine .inl ⟨wv, ?_⟩
    unfold okK
    rw [g, Bool.false_and]
  | true =>
    obtain ⟨g1, g2⟩ := Bool.and_eq_true_iff.mp g
    obtain ⟨e, al⟩ := keys_int g2
    have hl : (k.length : Int) ≤ 40 := of_decide_eq_true g1
    rw [e] at h
    refine .inr ⟨q, k.map keyI, rfl, SqT.of h, by rw [List.length_map]; omega, fun x hx => ?_, ?_⟩
    · have := al x hx
      unfold hiE at this
      omega
    · unfold okK
      rw [g, Bool.true_and]
inductive SV (K : PySem.W.Frag) (row : List Int) (H : Hp) : V → Bool → Prop where
  | non {x : V} {S : String} (h : TyB K H x S) (n : decide (S = "dict") = false) : SV K row H x false
  | dict {a : Addr} {kvs : List (List Key × V)} (h : H a = some (.dT kvs)) (few : kvs.length ≤ 100) (ks : ∀ e ∈ kvs, e.1.length < 1000) (vs : ∀ e ∈ kvs, ∃ S, TyB K H e.2 S) : SV K row H (.ref a) (okS row kvs)
  | odd {a : Addr} {rows : List RE} {bs : List Bool} (h : RawAt H a rows) (few : rows.length ≤ 100) (ks : Paired (fun (r : RE) b => RdOr row r.k H K b) rows bs) (bad : false ∈ bs) : SV K row H (.ref a) false
theorem paired_map {α β : Type} {G G' : α → β → Prop} (f : ∀ a b, G a b → G' a b) : ∀ {l : List α} {m : List β}, Paired G l m → Paired G' l m
  | _, _, .nil => .nil
  | _, _, .cons r t => .cons (f _ _ r) (paired_map f t)
theorem SV.same {row : List Int} {H H' : Hp} {x : V} {b : Bool} (h : SV K row H x b) (s : Same H H') : SV K row H' x b := by
  cases h with
  | non h n => exact .non (TyB.same h s) n
  | dict h few ks vs => exact .dict (s _ _ h) few ks fun e he => (vs e he).elim fun S t => ⟨S, TyB.same t s⟩
  | odd h few ks bad => exact .odd (s _ _ h) few (paired_map (fun _ _ z => z.same s) ks) bad
theorem at_lock {H : Hp} {d b : Addr} {u o w : HO} (hd : H d = some u) (hb : H b = some o) (n : o ≠ u) : upd H d w b = some o := by
  rw [upd_ne (ne_of hb hd n)]
  exact hb
theorem sk_lock {T : Txt K mg} {H : Hp} {p d : Addr} {row : List Int} {u w : HO} (hs : SkAt T H p row) (hd : H d = some u) (n1 : ∀ c x f, u ≠ .ins c x f) (n2 : ∀ o v, u ≠ .frz o v) : SkAt T (upd H d w) p row := by
  obtain ⟨dx, r, q, h1, ⟨o1, h2, z2⟩, ⟨o2, h3, z3⟩⟩ := hs
  exact ⟨dx, r, q, at_lock hd h1 fun z => n1 _ _ _ z.symm, ⟨o1, at_lock hd h2 fun z => n2 _ _ z.symm, z2⟩, ⟨o2, at_lock hd h3 fun z => n2 _ _ z.symm, z3⟩⟩
theorem tup_lock {H : Hp} {a d : Addr} {xs : List V} {u w : HO} (h : SqT K H a xs) (hd : H d = some u) (n1 : ∀ x, u ≠ .tup x) (n2 : ∀ o v, u ≠ .frz o v) : SqT K (upd H d w) a xs := by
  rcases h with (h | ⟨o, h⟩) | h
  · exact .inl (.inl (at_lock hd h fun z => n1 _ z.symm))
  · exact .inl (.inr ⟨o, at_lock hd h fun z => n2 _ _ z.symm⟩)
  · exact .inr h
theorem lst_lock {H : Hp} {a d : Addr} {xs : List V} {u w : HO} (h : SqL K H a xs) (hd : H d = some u) (n1 : ∀ x, u ≠ .lst x) (n2 : ∀ o v, u ≠ .frz o v) : SqL K (upd H d w) a xs := by
  rcases h with (h | ⟨o, h⟩) | h
  · exact .inl (.inl (at_lock hd h fun z => n1 _ z.symm))
  · exact .inl (.inr ⟨o, at_lock hd h fun z => n2 _ _ z.symm⟩)
  · exact .inr h
structure Lk (u : HO) : Prop where
  l : ∀ x, u ≠ .lst x
  t : ∀ x, u ≠ .tup x
  f : ∀ o v, u ≠ .frz o v
  i : ∀ c x f, u ≠ .ins c x f
  k : ∀ x, u ≠ .dK x
theorem lkT (kvs : List (List Key × V)) : Lk (.dT kvs) := ⟨(fun _ z => by cases z), (fun _ z => by cases z), (fun _ _ z => by cases z), (fun _ _ _ z => by cases z), (fun _ z => by cases z)⟩
theorem lkE (φ : Heap → Prop) : Lk (.ext φ) := ⟨(fun _ z => by cases z), (fun _ z => by cases z), (fun _ _ z => by cases z), (fun _ _ _ z => by cases z), (fun _ z => by cases z)⟩
theorem ty_lock {H : Hp} {d : Addr} {x : V} {S : String} {u w : HO} (h : TyB K H x S) (hd : H d = some u) (n : Lk u) : TyB K (upd H d w) x S := by
  cases h with
  | non => exact .non
  | bl b => exact .bl b
  | int i => exact .int i
  | str x => exact .str x
  | byt b => exact .byt b
  | lst h => exact .lst (lst_lock h hd n.l n.f)
  | tup h => exact .tup (tup_lock h hd n.t n.f)
  | dK h => exact .dK (at_lock hd h fun z => n.k _ z.symm)
theorem rd_lock {row : List Int} {H : Hp} {d : Addr} {x : V} {b : Bool} {u w : HO} (h : RdOr row x H K b) (hd : H d = some u) (n : Lk u) : RdOr row x (upd H d w) K b := by
  rcases h with ⟨h, e⟩ | ⟨t, ns, e, h, l, lt, eb⟩
  · refine .inl ⟨?_, e⟩
    generalize hb : false = b0 at h
    cases h with
    | tup h m ty =>
      exact .tup (tup_lock h hd n.t n.f) m fun y hy => (ty y hy).elim fun S t => ⟨S, ty_lock t hd n⟩
    | non h m => exact .non (ty_lock h hd n) m
  · exact .inr ⟨t, ns, e, tup_lock h hd n.t n.f, l, lt, eb⟩
theorem same_lock {H H' : Hp} {d : Addr} {u : HO} {od : Obj} (hd : H d = some u) (s : Same (upd H d (.frz od u)) H') : Same H (upd H' d u) := fun b o hb => by
  by_cases c : b = d
  · subst c
    rw [hd] at hb
    cases hb
    exact upd_same
  · rw [upd_ne c]
    exact s b o (by rw [upd_ne c]; exact hb)
theorem mutT {kvs : List (List Key × V)} : Mut (some (HO.dT kvs)) := trivial
theorem mutE {φ : Heap → Prop} : Mut (some (HO.ext φ)) := trivial
theorem eqv_int (a b : Int) : PyData.eqv (.int a) (.int b) = decide (a = b) := by
  first | rfl | (unfold PyData.eqv; rfl) | (simp [PyData.eqv]) 
def spFitS (T : Txt K mg) : Sp := fun vs H Q _ => ∃ (p : Addr) (row : List Int) (x : V) (b : Bool), vs = [.ref p, x] ∧ SkAt T H p row ∧ (row.length ≤ 12 ∧ row.length % 2 = 0) ∧ SV K row H x b ∧ ∀ H', Same H H' → Q (.bl b) H'
theorem ok_is_fit_sum (T : Txt K mg) : FnOk P w K mg base CX0 7 T.is_fit_sum.a T.is_fit_sum.fd ["skin", "thing"] (spFitS T) := by
  refine T.is_fit_sum.F.ok sc_is_fit_sum (fun vs H Q E h => ?_) (fun cdv A outer s H vs Q E hr h => ?_)
  · obtain ⟨p, row, x, b, rfl, _⟩ := h
    rfl
  · obtain ⟨p, row, x, b, rfl, hs, hrow, hv, k⟩ := h
    have nd := sc_is_fit_sum.nd
    refine ⟨_, (pss_cons (ps_if (PW.pt (pw_or (pt_cmpR op_notTyB (pe_callTy call_typeO (by rfl) T.ztype (by decide +kernel) (pa_cons (pv 1) pa_nil)) (pe_bltn (v := .ty "dict") (by rfl) T.zdict (by decide +kernel) rfl) (nomark _)) (pw_or1 (pt_cmpR op_gt (pe_callB call_lenO (by rfl) T.zlen (by decide +kernel) (pa_cons (pv 1) pa_nil)) (pe_glob rfl T.c_MOST_IN_SUM T.r_MOST_IN_SUM) (nomark _)))))
      (pss_one (ps_ret pe_bl))
      pss_nil)
    (pss_cons (ps_if (pt_not (pt_val (pe_callB (cr_all rfl) (by rfl) T.zall (by decide +kernel) (pa_cons (pe_lock (pe_lc (own := [("loop", 2)]) (g := gName 2) rfl nd (pi_keysO (pv 1)) (blkOk_by (own := [("loop", 2)]) (N := N_is_fit_sum) (sc := defScope s_is_fit_sum) (by decide +kernel)) (fun _ _ _ _ _ => pg_name (i := 2) nd rfl (Or.inl rfl)) (fun _ _ _ _ _ => pts_nil) (fun _ _ _ _ _ => (pe_call (ok_is_fit_round T) (hr.mono (by decide)) (by rfl) T.is_fit_round.g T.is_fit_round.k T.is_fit_round.b .nil pass0 (pa_cons (pv 0) (pa_cons (pv 2) pa_nil)))))) pa_nil))))
      (pss_one (ps_ret pe_bl))
      pss_nil)
    (pss_one (ps_ret (pe_callB (cr_all rfl) (by rfl) T.zall (by decide +kernel) (pa_cons (pe_lock (pe_lc (own := [("number", 3)]) (g := gName 3) rfl nd (pi_valuesT (pv 1)) (blkOk_by (own := [("number", 3)]) (N := N_is_fit_sum) (sc := defScope s_is_fit_sum) (by decide +kernel)) (fun _ _ _ _ _ => pg_name (i := 3) nd rfl (Or.inl rfl)) (fun _ _ _ _ _ => pts_nil) (fun _ _ _ _ _ => (pe_and (pe_call (ok_is_number_of_sum T) (hr.mono (by decide)) (by rfl) T.is_number_of_sum.g T.is_number_of_sum.k T.is_number_of_sum.b .nil pass0 (pa_cons (pv 3) pa_nil)) (pe_one (pe_cmpR (op_neDK (K := K) rfl hr.units) (pv 3) pe_int (nomark _))))))) pa_nil)))))), ?_⟩
    cases hv with
    | @non x S h n =>
      refine ⟨x, rfl, .inl (.inl ⟨x, S, rfl, h, _, _, rfl, rfl, ?_⟩)⟩
      rw [n]
      exact ⟨_, rfl, iteT (k _ fun _ _ z => z)⟩
    | @odd a rows bs h few ks bad =>
      refine ⟨_, rfl, .inr ⟨a, rows, rfl, h, _, _, rfl, rfl, _, rfl, iteF ?_⟩⟩
      refine ⟨_, rfl, ?_⟩
      refine .inr ⟨a, rows, rfl, h, _, _, rfl, rfl, _, rfl, ite2 (fun c => k _ fun _ _ z => z) (fun _ => ?_)⟩
      have lk := Paired.length ks
      refine ⟨a, _, h, mutE, fun od => ⟨_, rfl, .inr ⟨a, od, rows, rfl, upd_same, fun D hD => lc_it walk_keysR (fun i H' => H' D = some (.lst ((bs.take i).map V.bl)) ∧ Same (upd H a (.frz od (.ext (rawD rows a)))) H')
        ⟨upd_same, same_new hD⟩ (fun i H' _ z => z.2 _ _ upd_same) ?_ ?_⟩⟩⟩
      · rintro i x H3 H4 hi ⟨e1, s2⟩ ⟨rfl, r, hr2, rfl⟩
        obtain ⟨b, hb, rd⟩ := paired_get ks hr2
        refine ⟨rfl, yes_t ?_⟩
        refine ⟨_, rfl, _, rfl, p, row, r.k, b, rfl, (sk_lock hs h (lkE _).i (lkE _).f).same s2, hrow, (rd_lock rd h (lkE _)).same s2, fun H5 s5 => ⟨_, s5 _ _ e1, ?_, ?_, fun b o hb => ?_⟩⟩
        · rw [List.length_map, List.length_take]
          exact smallB (by omega)
        · rw [upd_same, List.take_add_one, hb, List.map_append]
          rfl
        · rw [upd_ne (ne_of_none hb hD)]
          exact s5 b o (s2 b o hb)
      · rintro H3 ⟨e1, s2⟩
        rw [lk, List.take_length] at e1
        have nDa : D ≠ a := fun z => by
          subst z
          rw [upd_same] at hD
          cases hD
        have sb := same_lock h s2
        refine ⟨s2 _ _ upd_same, D, _, rfl, SqL.of (by rw [upd_ne nDa]; exact e1), _, rfl, ?_⟩
        have hall : bs.all id = false := by
          rw [List.all_eq_false]
          exact ⟨false, bad, by simp⟩
        rw [hall]
        exact iteT (k _ sb)
    | @dict a kvs h few ks vs =>
      refine ⟨_, rfl, .inl (.inr ⟨a, _, rfl, .inl h, _, _, rfl, rfl, _, rfl, iteF ?_⟩)⟩
      refine ⟨_, rfl, ?_⟩
      refine .inl ⟨a, _, rfl, h, _, _, rfl, rfl, _, rfl, ite2 (fun c => ?_) (fun c => ?_)⟩
      · have c' : ¬ kvs.length ≤ 60 := by
          have : (60 : Int) < (kvs.length : Int) := by simpa using c
          omega
        have kk := k _ (fun _ _ z => z : Same H H)
        rw [show okS row kvs = false by unfold okS; rw [decide_eq_false c', Bool.false_and]] at kk
        exact kk
      have c60 : kvs.length ≤ 60 := by
        have : ¬ (60 : Int) < (kvs.length : Int) := by simpa using c
        omega
      have e60 : okS row kvs = (kvs.all (fun e => okK row e.1) && kvs.all (fun e => okN e.2)) := by unfold okS; rw [decide_eq_true c60, Bool.true_and]
      rw [e60] at k
      refine ⟨a, _, h, mutT, fun od => ⟨_, rfl, .inl ⟨a, od, kvs, rfl, upd_same, fun D hD => lc_it walk_keysT (fun i H' => H' D = some (.lst (((kvs.take i).map fun e => okK row e.1).map V.bl)) ∧ Same (upd H a (.frz od (.dT kvs))) H')
        ⟨upd_same, same_new hD⟩ (fun i H' _ z => z.2 _ _ upd_same) ?_ ?_⟩⟩⟩
      · rintro i x H3 H4 hi ⟨e1, s2⟩ ⟨rfl, k', v, q, hk, rfl, hq⟩
        have hm := ks _ (List.mem_of_getElem? hk)
        refine ⟨rfl, yes_t ?_⟩
        refine ⟨_, rfl, _, rfl, p, row, .ref q, okK row k', rfl, (sk_lock hs h (lkT _).i (lkT _).f).same s2, hrow, key_rd hq hm hrow.2, fun H5 s5 => ⟨_, s5 _ _ e1, ?_, ?_, fun b o hb => ?_⟩⟩
        · rw [List.length_map, List.length_map, List.length_take]
          exact smallB (by omega)
        · rw [upd_same, List.take_add_one, hk, List.map_append, List.map_append]
          rfl
        · rw [upd_ne (ne_of_none hb hD)]
          exact s5 b o (s2 b o hb)
      · rintro H3 ⟨e1, s2⟩
        rw [List.take_length] at e1
        have nDa : D ≠ a := fun z => by
          subst z
          rw [upd_same] at hD
          cases hD
        have sb := same_lock h s2
        refine ⟨s2 _ _ upd_same, D, _, rfl, SqL.of (by rw [upd_ne nDa]; exact e1), _, rfl, ?_⟩
        have hall : (kvs.map fun e => okK row e.1).all id = kvs.all (fun e => okK row e.1) := by rw [List.all_map]; rfl
        rw [hall]
        refine ite2 (fun c => ?_) (fun c => ?_)
        · have c' : kvs.all (fun e => okK row e.1) = false := by simpa using c
          have kk := k _ sb
          rw [c', Bool.false_and] at kk
          exact kk
        have c' : kvs.all (fun e => okK row e.1) = true := by simpa using c
        rw [c', Bool.true_and] at k
        have ha2 := sb _ _ h
        generalize upd H3 a (.dT kvs) = H6 at sb ha2
        refine ⟨a, _, ha2, mutT, fun od2 => ⟨_, rfl, a, od2, _, rfl, upd_same, fun D2 hD2 => lc_it walk_valuesT (fun i H' => H' D2 = some (.lst (((kvs.take i).map fun e => okN e.2).map V.bl)) ∧ Same (upd H6 a (.frz od2 (.dT kvs))) H')
          ⟨upd_same, same_new hD2⟩ (fun i H' _ z => z.2 _ _ upd_same) ?_ ?_⟩⟩
        · rintro i x H7 H8 hi ⟨e7, s7⟩ ⟨rfl, k', hk⟩
          obtain ⟨S, ty⟩ := vs _ (List.mem_of_getElem? hk)
          have fin : ∀ b, b = okN x → ∃ acc, H8 D2 = some (HO.lst acc) ∧ acc.length < sizeLine ∧ upd H8 D2 (HO.lst (acc ++ [V.bl b])) D2 = some (.lst (((kvs.take (i + 1)).map fun e => okN e.2).map V.bl)) ∧ Same (upd H6 a (.frz od2 (.dT kvs))) (upd H8 D2 (HO.lst (acc ++ [V.bl b]))) := fun b hb => by
            subst hb
            refine ⟨_, e7, ?_, ?_, fun b o hb => ?_⟩
            · rw [List.length_map, List.length_map, List.length_take]
              exact smallB (by omega)
            · rw [upd_same, List.take_add_one, hk, List.map_append, List.map_append]
              rfl
            · rw [upd_ne (ne_of_none hb hD2)]
              exact s7 b o hb
          refine ⟨rfl, yes_t ?_⟩
          have ty2 : TyB K H8 x S := TyB.same (ty_lock (TyB.same ty sb) ha2 (lkT _)) s7
          refine ⟨_, rfl, x, S, rfl, ty2, _, rfl, ite2 (fun c => ?_) (fun c => fin false ?_)⟩
          · have c' : inB (-1000000000) 1000000000 x = true := c
            obtain ⟨n, rfl⟩ : ∃ n, x = .int n := by
              cases x with
              | int n => exact ⟨n, rfl⟩
              | _ => exact absurd c' Bool.false_ne_true
            refine ⟨_, rfl, .int n, .int 0, .int n, .int 0, rfl, rfl, fin _ ?_⟩
            have ev : PyData.eqv (.int n) (.int 0) = decide (n = 0) := eqv_int n 0
            show (!PyData.eqv (.int n) (.int 0)) = (inB (-1000000000) 1000000000 (V.int n) && !decide (V.int n = V.int 0))
            rw [c', ev, Bool.true_and]
            exact congrArg _ (decide_eq_decide.mpr ⟨fun z => by rw [z], fun z => by cases z; rfl⟩)
          · have c' : inB (-1000000000) 1000000000 x = false := by simpa using c
            unfold okN
            rw [c', Bool.false_and]
        · rintro H7 ⟨e7, s7⟩
          rw [List.take_length] at e7
          have nDa2 : D2 ≠ a := fun z => by
            subst z
            rw [upd_same] at hD2
            cases hD2
          refine ⟨s7 _ _ upd_same, D2, _, rfl, SqL.of (by rw [upd_ne nDa2]; exact e7), ?_⟩
          have hall2 : (kvs.map fun e => okN e.2).all id = kvs.all (fun e => okN e.2) := by rw [List.all_map]; rfl
          rw [hall2]
          exact k _ (sb.trans (same_lock ha2 s7))
end
end Tt
set_option maxRecDepth 100000
set_option maxHeartbeats 4000000
namespace Tt
open PySem L2
def enc (es : List (List Int × V)) : List (List Key × V) := es.map fun e => (e.1.map Sum.inl, e.2)
theorem enc_len (es : List (List Int × V)) : (enc es).length = es.length := List.length_map ..
theorem enc_at {es : List (List Int × V)} {i : Nat} {k : List Key} {v : V} (h : (enc es)[i]? = some (k, v)) : ∃ ns, es[i]? = some (ns, v) ∧ k.map kV = ns.map V.int := by
  unfold enc at h
  rw [List.getElem?_map] at h
  cases e : es[i]? with
  | none => rw [e] at h; cases h
  | some x =>
    obtain ⟨ns, v'⟩ := x
    rw [e] at h
    cases h
    refine ⟨ns, rfl, ?_⟩
    rw [List.map_map]
    rfl
section
variable {P : Program} {w : World} {K : PySem.W.Frag} {mg : Str → Option Value} {base : Heap}
def spCheckS (T : Txt K mg) : Sp := fun vs H Q E => ∃ (p : Addr) (row : List Int) (x : V) (b : Bool), vs = [.ref p, x] ∧ SkAt T H p row ∧ (row.length ≤ 12 ∧ row.length % 2 = 0) ∧ SV K row H x b ∧
  (b = true → ∀ H', Same H H' → Q .non H') ∧ (b = false → ∀ H', Same H H' → E (.ref T.BadSum.C) none H')
theorem ok_check_sum (T : Txt K mg) : FnOk P w K mg base (L2.CX P w) 8 T.check_sum.a T.check_sum.fd ["skin", "some"] (spCheckS T) := by
  refine T.check_sum.F.okX sc_check_sum (fun vs H Q E h => ?_) (fun cdv A outer s H vs Q E hr h => ?_)
  · obtain ⟨p, row, x, b, rfl, _⟩ := h
    rfl
  · obtain ⟨p, row, x, b, rfl, hs, hl, hw, k1, k2⟩ := h
    refine ⟨_, (pss_one (ps_if (pt_not (pt_val (pe_call (ok_is_fit_sum T) (hr.mono (by decide)) (by rfl) T.is_fit_sum.g T.is_fit_sum.k T.is_fit_sum.b .nil pass0 (pa_cons (pv 0) (pa_cons (pv 1) pa_nil)))))
      (pss_one (ps_raise rfl (takes_of rfl rfl rfl rfl) (pmk_own PySem.F.excBase_ValueError T.BadSum.q T.BadSum.g T.BadSum.k (raises_own T.BadSum.ec.hs T.BadSum.ty) rfl)))
      pss_nil)), ?_⟩
    refine ⟨_, rfl, _, rfl, p, row, x, b, rfl, hs, hl, hw, fun H1 s1 => ⟨_, rfl, ?_⟩⟩
    cases b with
    | true => exact iteF (k1 rfl H1 s1)
    | false => exact iteT (k2 rfl H1 s1)
def spIsSum (T : Txt K mg) : Sp := fun vs H Q E => ∃ (v x : V), vs = [v, x] ∧ ((SkV T H v false ∧ SkErr T H E) ∨ ∃ (p : Addr) (row : List Int) (b : Bool), v = .ref p ∧ SkAt T H p row ∧ (row.length ≤ 12 ∧ row.length % 2 = 0) ∧ SV K row H x b ∧ ∀ H', Same H H' → Q (.bl b) H')
theorem ok_is_sum (T : Txt K mg) : FnOk P w K mg base (L2.CX P w) 8 T.is_sum.a T.is_sum.fd ["skin", "thing"] (spIsSum T) := by
  refine T.is_sum.F.okX sc_is_sum (fun vs H Q E h => ?_) (fun cdv A outer s H vs Q E hr h => ?_)
  · obtain ⟨v, x, rfl, _⟩ := h
    rfl
  · obtain ⟨v, x, rfl, h⟩ := h
    have nd := sc_is_sum.nd
    refine ⟨_, (pss_cons (ps_expr (pe_callS (ok_check_skin T) (hr.mono (by decide)) (by rfl) T.check_skin.g T.check_skin.k T.check_skin.b (fun σ => passAt (takes_of rfl rfl rfl rfl) σ) (pa_cons (pv 0) pa_nil)))
    (pss_one (ps_ret (pe_call (ok_is_fit_sum T) (hr.mono (by decide)) (by rfl) T.is_fit_sum.g T.is_fit_sum.k T.is_fit_sum.b .nil pass0 (pa_cons (pv 0) (pa_cons (pv 1) pa_nil)))))), ?_⟩
    rcases h with ⟨hv, he⟩ | ⟨p, row, b, rfl, hs, hrow, sv, k⟩
    · exact ⟨v, rfl, v, false, rfl, hv, (fun z => by cases z), fun _ => he⟩
    refine ⟨_, rfl, _, true, rfl, hs.v, (fun _ => ?_), fun z => by cases z⟩
    exact ⟨_, rfl, x, rfl, p, row, x, b, rfl, hs, hrow, sv, k⟩
theorem inl_inj : ∀ {a b : List Int}, ((a.map Sum.inl : List Key) = b.map Sum.inl) ↔ a = b
  | [], [] => ⟨fun _ => rfl, fun _ => rfl⟩
  | [], _ :: _ => ⟨(fun h => by cases h), (fun h => by cases h)⟩
  | _ :: _, [] => ⟨(fun h => by cases h), (fun h => by cases h)⟩
  | x :: a, y :: b => by
    rw [List.map_cons, List.map_cons, List.cons.injEq, List.cons.injEq, inl_inj, Sum.inl.injEq]
theorem valV_enc (es : List (List Int × V)) (k : List Int) : valV (enc es) (k.map Sum.inl) = valV es k := by
  unfold valV enc
  induction es with
  | nil => rfl
  | cons e es ih =>
    rw [List.map_cons, List.find?_cons, List.find?_cons]
    by_cases c : e.1 = k
    · have c' : decide ((e.1.map Sum.inl : List Key) = k.map Sum.inl) = true := decide_eq_true (inl_inj.mpr c)
      show Option.map _ (match decide ((e.1.map Sum.inl : List Key) = k.map Sum.inl) with | true => some _ | false => _) = _
      rw [c', decide_eq_true c]
      rfl
    · have c' : decide ((e.1.map Sum.inl : List Key) = k.map Sum.inl) = false := decide_eq_false (fun z => c (inl_inj.mp z))
      show Option.map _ (match decide ((e.1.map Sum.inl : List Key) = k.map Sum.inl) with | true => some _ | false => _) = _
      rw [c', decide_eq_false c]
      exact ih
theorem putK_enc (es : List (List Int × V)) (k : List Int) (v : V) : putK (enc es) (k.map Sum.inl) v = enc (putK es k v) := by
  have ha : ((enc es).any fun kv => decide (kv.1 = k.map Sum.inl)) = (es.any fun kv => decide (kv.1 = k)) := by
    unfold enc
    rw [List.any_map]
    refine congrArg (fun f => es.any f) (funext fun e => ?_)
    exact decide_eq_decide.mpr inl_inj
  unfold putK
  rw [ha]
  split
  · unfold enc
    rw [List.map_map, List.map_map]
    refine List.map_congr_left fun e _ => ?_
    show (if (e.1.map Sum.inl : List Key) = k.map Sum.inl then _ else _) = _
    by_cases c : e.1 = k
    · rw [if_pos (inl_inj.mpr c)]
      show _ = ((if e.1 = k then (e.1, v) else e).1.map Sum.inl, (if e.1 = k then (e.1, v) else e).2)
      rw [if_pos c]
    · rw [if_neg (fun z => c (inl_inj.mp z))]
      show _ = ((if e.1 = k then (e.1, v) else e).1.map Sum.inl, (if e.1 = k then (e.1, v) else e).2)
      rw [if_neg c]
  · unfold enc
    rw [List.map_append]
    rfl
def numO : Option V → Int
  | some (.int i) => i
  | _ => 0
def addN (es : List (List Int × V)) (k : List Int) (n : Int) : List (List Int × V) := putK es k (.int (numO (valV es k) + n))
def sumUp (rows : List (List Int × Int)) : List (List Int × V) := rows.foldl (fun es e => addN es e.1 e.2) []
theorem sumUp_snoc (rows : List (List Int × Int)) (e : List Int × Int) : sumUp (rows ++ [e]) = addN (sumUp rows) e.1 e.2 := by
  unfold sumUp
  rw [List.foldl_append]
  rfl
def gath (es : List (List Int × V)) (ks : List (List Int)) : List (List Int × V) := ks.foldl (fun acc k => if numO (valV es k) = 0 then acc else putK acc k (.int (numO (valV es k)))) []
theorem gath_snoc (es : List (List Int × V)) (ks : List (List Int)) (k : List Int) : gath es (ks ++ [k]) = if numO (valV es k) = 0 then gath es ks else putK (gath es ks) k (.int (numO (valV es k))) := by
  unfold gath
  rw [List.foldl_append]
  rfl
theorem same_none {H H' : Hp} {D : Addr} (s : Same H H') (h : H' D = none) : H D = none := by
  cases e : H D with
  | none => rfl
  | some o => rw [s _ _ e] at h; cases h
def spPut (K : PySem.W.Frag) : Sp := fun vs H Q _ => ∃ (l : Addr) (ps : List (Addr × Addr)) (rows : List (List Int × Int)), vs = [.ref l] ∧ SqL K H l (ps.map fun p => V.ref p.1) ∧ ps.length = rows.length ∧ rows.length ≤ 1000 ∧
  (∀ (i : Nat) p e, ps[i]? = some p → rows[i]? = some e → SqT K H p.1 [.ref p.2, .int e.2] ∧ H p.2 = some (.tup (e.1.map V.int))) ∧ (∀ e ∈ rows, e.1 ≠ []) ∧
  ∀ D H' ks, H D = none → Same H H' → ks.Perm ((sumUp rows).map (·.1)) → ks.Pairwise (· ≤ ·) → H' D = some (.dT (enc (gath (sumUp rows) ks))) → Q (.ref D) H'
def IntV (es : List (List Int × V)) : Prop := ∀ e ∈ es, ∃ i, e.2 = V.int i
theorem IntV.put {es : List (List Int × V)} (h : IntV es) (k : List Int) (i : Int) : IntV (putK es k (.int i)) := fun e he => by
  unfold putK at he
  split at he
  · obtain ⟨x, hx, rfl⟩ := List.mem_map.mp he
    show ∃ j, (if x.1 = k then (x.1, V.int i) else x).2 = V.int j
    by_cases c : x.1 = k
    · rw [if_pos c]
      exact ⟨i, rfl⟩
    · rw [if_neg c]
      exact h x hx
  · rcases List.mem_append.mp he with c | c
    · exact h e c
    · rw [List.mem_singleton.mp c]
      exact ⟨i, rfl⟩
theorem IntV.val {es : List (List Int × V)} (h : IntV es) (k : List Int) : (valV es k).getD (.int 0) = .int (numO (valV es k)) := by
  unfold valV
  cases e : es.find? (fun kv => decide (kv.1 = k)) with
  | none => rfl
  | some x =>
    obtain ⟨i, hi⟩ := h x (List.mem_of_find?_eq_some e)
    show x.2 = .int (numO (some x.2))
    rw [hi]
    rfl
theorem sumUp_int (rows : List (List Int × Int)) : IntV (sumUp rows) := by
  have : ∀ (rows : List (List Int × Int)) (es : List (List Int × V)), IntV es → IntV (rows.foldl (fun es e => addN es e.1 e.2) es) := fun rows => by
    induction rows with
    | nil => exact fun es h => h
    | cons e rows ih => exact fun es h => ih _ (h.put e.1 _)
  exact this rows [] (fun e h => by cases h)
theorem putK_len (es : List (List Int × V)) (k : List Int) (v : V) : (putK es k v).length ≤ es.length + 1 := by
  unfold putK
  split
  · rw [List.length_map]
    omega
  · rw [List.length_append]
    exact Nat.le_refl _
theorem sumUp_len (rows : List (List Int × Int)) : (sumUp rows).length ≤ rows.length := by
  have : ∀ (rows : List (List Int × Int)) (es : List (List Int × V)), (rows.foldl (fun es e => addN es e.1 e.2) es).length ≤ es.length + rows.length := fun rows => by
    induction rows with
    | nil => exact fun es => Nat.le_refl _
    | cons e rows ih =>
      intro es
      have h1 := ih (addN es e.1 e.2)
      have h2 := putK_len es e.1 (.int (numO (valV es e.1) + e.2))
      show (List.foldl _ (addN es e.1 e.2) rows).length ≤ es.length + (rows.length + 1)
      have h3 : (addN es e.1 e.2).length ≤ es.length + 1 := h2
      omega
  have := this rows []
  simpa [sumUp] using this
theorem gath_len (es : List (List Int × V)) (ks : List (List Int)) : (gath es ks).length ≤ ks.length := by
  have : ∀ (ks : List (List Int)) (acc : List (List Int × V)), (ks.foldl (fun acc k => if numO (valV es k) = 0 then acc else putK acc k (.int (numO (valV es k)))) acc).length ≤ acc.length + ks.length := fun ks => by
    induction ks with
    | nil => exact fun es => Nat.le_refl _
    | cons k ks ih =>
      intro acc
      rw [List.foldl_cons]
      refine Nat.le_trans (ih _) ?_
      rw [List.length_cons]
      split
      · omega
      · have := putK_len acc k (.int (numO (valV es k)))
        omega
  have := this ks []
  simpa [gath] using this
theorem valV_mem {es : List (List Int × V)} (h : IntV es) {k : List Int} (hk : k ∈ es.map (·.1)) : valV es k = some (.int (numO (valV es k))) := by
  obtain ⟨e, he, rfl⟩ := List.mem_map.mp hk
  have h2 := h.val e.1
  cases ev : valV es e.1 with
  | none =>
    exfalso
    unfold valV at ev
    have := List.find?_eq_none.mp (Option.map_eq_none_iff.mp ev) e he
    simp at this
  | some v =>
    rw [ev] at h2
    have : v = V.int (numO (some v)) := h2
    exact congrArg some this
theorem putK_key {es : List (List Int × V)} {k : List Int} {v : V} {e : List Int × V} (h : e ∈ putK es k v) : e.1 = k ∨ ∃ e' ∈ es, e'.1 = e.1 := by
  unfold putK at h
  split at h
  · obtain ⟨x, hx, rfl⟩ := List.mem_map.mp h
    refine .inr ⟨x, hx, ?_⟩
    split <;> rfl
  · rcases List.mem_append.mp h with c | c
    · exact .inr ⟨e, c, rfl⟩
    · rw [List.mem_singleton.mp c]
      exact .inl rfl
theorem sumUp_key {rows : List (List Int × Int)} : ∀ e ∈ sumUp rows, ∃ r ∈ rows, r.1 = e.1 := by
  have : ∀ (rows : List (List Int × Int)) (es : List (List Int × V)), ∀ e ∈ rows.foldl (fun es e => addN es e.1 e.2) es, (∃ r ∈ rows, r.1 = e.1) ∨ ∃ e' ∈ es, e'.1 = e.1 := fun rows => by
    induction rows with
    | nil => exact fun es e h => .inr ⟨e, h, rfl⟩
    | cons r rows ih =>
      intro es e h
      rcases ih (addN es r.1 r.2) e h with ⟨r', hr, z⟩ | ⟨e', he, z⟩
      · exact .inl ⟨r', List.mem_cons_of_mem _ hr, z⟩
      · rcases putK_key he with c | ⟨e2, h2, z2⟩
        · exact .inl ⟨r, List.mem_cons_self .., c.symm.trans z⟩
        · exact .inr ⟨e2, h2, z2.trans z⟩
  intro e he
  rcases this rows [] e he with h | ⟨e', h, _⟩
  · exact h
  · cases h
theorem paired_keys {H : Hp} {es : List (List Int × V)} : ∀ {bs : List (Addr × List Int)}, KeysI H (enc es) bs → bs.map (·.2) = es.map (·.1) := by
  induction es with
  | nil =>
    intro bs h
    cases h
    rfl
  | cons e es ih =>
    intro bs h
    cases h with
    | cons g t =>
      rw [List.map_cons, List.map_cons, ih t, inl_inj.mp g.1]
theorem isD {H : Hp} {d : Addr} {kvs : List (List Key × V)} (h : H d = some (.dT kvs)) : IsD H d := by
  exact .inr ⟨_, .inl h⟩
theorem ok_put_together (T : Txt K mg) : FnOk P w K mg base CX0 1 T.put_together.a T.put_together.fd ["rows"] (spPut K) := by
  refine T.put_together.F.ok sc_put_together (fun vs H Q E h => ?_) (fun cdv A outer s H vs Q E hr h => ?_)
  · obtain ⟨l, ps, rows, rfl, _⟩ := h
    rfl
  · obtain ⟨l, ps, rows, rfl, h1, h2, h3, h4, hne, k⟩ := h
    have nd := sc_put_together.nd
    have hu := hu_of hr
    refine ⟨_, (pss_cons (ps_set (i := 1) nd rfl (Or.inr rfl) pe_dnewT)
    (pss_cons (ps_for PassesOwn.never rfl (pi_list (pv 0)) (pg_tup rfl (pgs_cons (pg_name (i := 2) nd rfl (Or.inl rfl)) (pgs_cons (pg_name (i := 3) nd rfl (Or.inl rfl)) pgs_nil)))
      (pss_one (ps_dput hu (pv 1) (pv 2) (pe_op op_add (pe_dget2 hu (pv 1) (pv 2) pe_int ⟨rfl, rfl, rfl, rfl⟩) (pv 3)) rfl)))
    (pss_one (ps_ret (pe_dcT (own := [("key", 2)]) (g := gName 2) rfl hu nd (pi_list (pe_callB (cr_sortedDT rfl hr.units) (by rfl) T.zsorted (by decide +kernel) (pa_cons (pv 1) pa_nil))) (blkOk_by (own := [("key", 2)]) (N := N_put_together) (sc := defScope s_put_together) (by decide +kernel)) (fun _ _ _ _ _ => pg_name (i := 2) nd rfl (Or.inl rfl)) (fun _ _ _ _ _ => pts_one (pt_cmpR op_ne (pe_dget hu (pv 1) (pv 2) (fun _ _ => rfl)) pe_int (nomark _))) (fun _ _ _ _ _ => (pv 2)) (fun _ _ _ _ _ => (pe_dget hu (pv 1) (pv 2) (fun _ _ => rfl)))))))), ?_⟩
    refine fun d hd => ?_
    have s1 : Same H (upd H d (.dT [])) := same_new hd
    refine ⟨_, rfl, l, rfl, ⟨_, same_sqL s1 h1⟩, ?_⟩
    refine for_list (K := K) (a := l) (xs := ps.map fun p => V.ref p.1) (fun i σ H' => ∃ v2 v3, σ = [some (.ref l), some (.ref d), v2, v3] ∧ Same H H' ∧ H' d = some (.dT (enc (sumUp (rows.take i)))))
      ⟨none, none, rfl, s1, upd_same⟩ (fun i σ H' _ ⟨_, _, _, z, _⟩ => same_sqL z h1) ?_ ?_
    · rintro i y σ H' hi ⟨v2, v3, rfl, s2, e2⟩
      rw [List.getElem?_map] at hi
      cases ep : ps[i]? with
      | none => rw [ep] at hi; cases hi
      | some p =>
        rw [ep] at hi
        cases hi
        have hil : i < rows.length := h2 ▸ (List.getElem?_eq_some_iff.mp ep).1
        have er : rows[i]? = some rows[i] := List.getElem?_eq_getElem hil
        obtain ⟨g1, g2⟩ := h4 i p _ ep er
        have ht : rows.take (i + 1) = rows.take i ++ [rows[i]] := by rw [List.take_add_one, er]; rfl
        have g3 : H' p.2 = some (.tup ((rows[i].1.map Sum.inl : List Key).map kV)) := by
          rw [List.map_map]
          exact s2 _ _ g2
        have hv : ((valV (enc (sumUp (rows.take i))) (rows[i].1.map Sum.inl)).getD (.int 0)) = V.int (numO (valV (sumUp (rows.take i)) rows[i].1)) := by
          rw [valV_enc]
          exact (sumUp_int _).val _
        have hlen : (enc (sumUp (rows.take i))).length < sizeLine := by
          rw [enc_len]
          have := sumUp_len (rows.take i)
          rw [List.length_take] at this
          exact smallB (by omega)
        refine ⟨p.1, _, rfl, same_seqT s2 g1, rfl, _, _, rfl, _, _, rfl, rfl, ?_⟩
        refine ⟨_, rfl, d, rfl, isD e2, _, rfl, _, DGet.t e2 g3, ?_⟩
        rw [hv]
        refine ⟨_, rfl, _, _, rfl, rfl, ?_⟩
        refine ⟨_, rfl, _, rfl, d, _, rfl, DPut.t e2 g3 hlen, _, _, rfl, fun b o hb => ?_, ?_⟩
        · rw [upd_ne (ne_of_none hb hd)]
          exact s2 b o hb
        · rw [upd_same, putK_enc, ht, sumUp_snoc]
          rfl
    · rintro σ H' ⟨v2, v3, rfl, s2, e2⟩
      rw [List.length_map, h2, List.take_length] at e2
      have hI := sumUp_int rows
      generalize hes : sumUp rows = es at e2 hI k
      have hk : ∀ p ∈ enc es, ∃ ns, ns ≠ [] ∧ p.1 = List.map Sum.inl ns := fun p hp => by
        obtain ⟨e, he, rfl⟩ := List.mem_map.mp hp
        refine ⟨e.1, ?_, rfl⟩
        rw [← hes] at he
        obtain ⟨r, hr, z⟩ := sumUp_key e he
        rw [← z]
        exact hne r hr
      refine ⟨_, rfl, d, _, rfl, .inl e2, hk, fun bs bs' q hK hP hS hq => ⟨q, rfl, ⟨_, SqL.of upd_same⟩, fun D hD => dcT_it (walk_list (K := K) (a := q) (xs := bs'.map fun b => V.ref b.1)) (fun i H3 => Same (upd H' q (.lst (bs'.map fun b => V.ref b.1))) H3 ∧ H3 D = some (.dT (enc (gath es ((bs'.take i).map (·.2))))))
        ⟨same_new hD, upd_same⟩ (fun i H3 _ z => SqL.of (z.1 _ _ upd_same)) ?_ ?_⟩⟩
      · rintro i x H3 H4 hi ⟨s3, e3⟩ ⟨rfl, hx⟩
        rw [List.getElem?_map] at hx
        cases eb : bs'[i]? with
        | none => rw [eb] at hx; cases hx
        | some b =>
          rw [eb] at hx
          cases hx
          have hbm : b ∈ bs := hP.mem_iff.mp (List.mem_of_getElem? eb)
          obtain ⟨p, hp, hp1, hp2⟩ := paired_mem hK hbm
          obtain ⟨e, he, rfl⟩ := List.mem_map.mp hp
          have hee : e.1 = b.2 := inl_inj.mp hp1
          have hke : b.2 ∈ es.map (·.1) := List.mem_map.mpr ⟨e, he, hee⟩
          have sq : Same H' H4 := (same_new hq).trans s3
          have g : H4 b.1 = some (.tup ((b.2.map Sum.inl : List Key).map kV)) := by
            rw [List.map_map]
            exact sq _ _ hp2
          have dg : DGet H4 d (.ref b.1) (some (.int (numO (valV es b.2)))) := by
            have := DGet.t (sq _ _ e2) g
            rwa [valV_enc, valV_mem hI hke] at this
          have ht : bs'.take (i + 1) = bs'.take i ++ [b] := by rw [List.take_add_one, eb]; rfl
          refine ⟨rfl, ?_⟩
          refine ⟨_, rfl, _, rfl, d, _, rfl, dg, rfl, _, rfl, ite2 (fun c => ?_) (fun c => ?_)⟩
          · have c' : ¬ numO (valV es b.2) = 0 := fun z => by
              have c2 : (!decide (V.int (numO (valV es b.2)) = V.int 0)) = true := c
              rw [z] at c2
              simp at c2
            refine ⟨_, rfl, _, rfl, _, rfl, d, _, rfl, dg, _, b.2.map Sum.inl, b.1, rfl, g, e3, ?_, ?_, ?_⟩
            · rw [enc_len]
              have z1 := gath_len es ((bs'.take i).map (·.2))
              have z2 := sumUp_len rows
              have z3 := congrArg List.length (paired_keys hK)
              have z4 := hP.length_eq
              rw [hes] at z2
              rw [List.length_map, List.length_take] at z1
              rw [List.length_map, List.length_map] at z3
              exact smallB (by omega)
            · exact fun b' o hb => by
                rw [upd_ne (ne_of_none hb hD)]
                exact s3 b' o hb
            · rw [upd_same, putK_enc, ht, List.map_append, List.map_cons, List.map_nil, gath_snoc, if_neg c']
          · have c' : numO (valV es b.2) = 0 := by
              have c2 : ¬ (!decide (V.int (numO (valV es b.2)) = V.int 0)) = true := c
              simpa using c2
            refine ⟨s3, ?_⟩
            rw [ht, List.map_append, List.map_cons, List.map_nil, gath_snoc, if_pos c']
            exact e3
      · rintro H3 ⟨s3, e3⟩
        rw [List.length_map, List.take_length] at e3
        refine k D H3 _ (same_none (s2.trans (same_new hq)) hD) ((s2.trans (same_new hq)).trans s3) ?_ ?_ e3
        · rw [← paired_keys hK]
          exact hP.map _
        · exact List.pairwise_map.mpr hS
def toV (es : List (List Int × Int)) : List (List Int × V) := es.map fun e => (e.1, V.int e.2)
theorem enc_toV {es : List (List Int × Int)} {i : Nat} {k : List Key} {v : V} (h : (enc (toV es))[i]? = some (k, v)) : ∃ e, es[i]? = some e ∧ v = .int e.2 ∧ k.map kV = e.1.map V.int := by
  obtain ⟨ns, h1, h2⟩ := enc_at h
  unfold toV at h1
  rw [List.getElem?_map] at h1
  cases ee : es[i]? with
  | none => rw [ee] at h1; cases h1
  | some e =>
    rw [ee] at h1
    cases h1
    exact ⟨e, rfl, rfl, h2⟩
def timesR (es : List (List Int × Int)) (t : Int) : List (List Int × Int) := es.map fun e => (e.1, t * e.2)
def RowsP (H : Hp) (l : Addr) (ps : List (Addr × Addr)) (rows : List (List Int × Int)) : Prop := H l = some (.lst (ps.map fun p => V.ref p.1)) ∧ ps.length = rows.length ∧
  ∀ (i : Nat) p e, ps[i]? = some p → rows[i]? = some e → H p.1 = some (.tup [.ref p.2, .int e.2]) ∧ H p.2 = some (.tup (e.1.map V.int))
def spTimesR : Sp := fun vs H Q _ => ∃ (a : Addr) (es : List (List Int × Int)) (t : Int), vs = [.ref a, .int t] ∧ H a = some (.dT (enc (toV es))) ∧ es.length ≤ 1000 ∧ -(2 ^ 64) < t ∧ t < 2 ^ 64 ∧
  ∀ l ps H', Same H H' → RowsP H' l ps (timesR es t) → Q (.ref l) H'
theorem gather_rows {H1 : Hp} {f : List Int × Int → Int} {es : List (List Int × Int)} : ∀ (ys : List V) (m : Nat), (∀ (i : Nat) (y : V), ys[i]? = some y → ∃ (e : List Int × Int) (q u : Addr), es[m + i]? = some e ∧ y = .ref u ∧ H1 u = some (.tup [.ref q, .int (f e)]) ∧ H1 q = some (.tup (e.1.map V.int))) →
    ∃ ps : List (Addr × Addr), ys = ps.map (fun p => V.ref p.1) ∧ ∀ (i : Nat) (p : Addr × Addr), ps[i]? = some p → ∃ e : List Int × Int, es[m + i]? = some e ∧ H1 p.1 = some (.tup [.ref p.2, .int (f e)]) ∧ H1 p.2 = some (.tup (e.1.map V.int))
  | [], _, _ => ⟨[], rfl, fun i p hp => by simp at hp⟩
  | y :: ys, m, al => by
    obtain ⟨e, q, u, h1, rfl, h3, h4⟩ := al 0 y rfl
    obtain ⟨ps, e2, al2⟩ := gather_rows ys (m + 1) fun i z hz => by
      have := al (i + 1) z hz
      rwa [show m + (i + 1) = m + 1 + i by omega] at this
    refine ⟨(u, q) :: ps, by rw [e2]; rfl, fun i p hp => ?_⟩
    cases i with
    | zero =>
      cases hp
      exact ⟨e, h1, h3, h4⟩
    | succ i =>
      have := al2 i p hp
      rwa [show m + 1 + i = m + (i + 1) by omega] at this
theorem ok_times_rows (T : Txt K mg) : FnOk P w K mg base CX0 1 T.times_rows.a T.times_rows.fd ["some", "times"] spTimesR := by
  refine T.times_rows.F.ok sc_times_rows (fun vs H Q E h => ?_) (fun cdv A outer s H vs Q E hr h => ?_)
  · obtain ⟨a, es, t, rfl, _⟩ := h
    rfl
  · obtain ⟨a, es, t, rfl, h, few, t0, t1, k⟩ := h
    have nd := sc_times_rows.nd
    refine ⟨_, (pss_one (ps_ret (pe_lock (pe_lc (own := [("key", 2), ("number", 3)]) (g := gTup K 2 (gCons (gName 2) (gCons (gName 3) gNil))) rfl nd (pi_itemsT (pv 0)) (blkOk_by (own := [("key", 2), ("number", 3)]) (N := N_times_rows) (sc := defScope s_times_rows) (by decide +kernel)) (fun _ _ _ _ _ => pg_tup rfl (pgs_cons (pg_name (i := 2) nd rfl (Or.inl rfl)) (pgs_cons (pg_name (i := 3) nd rfl (Or.inl rfl)) pgs_nil))) (fun _ _ _ _ _ => pts_nil) (fun _ _ _ _ _ => (pe_tup (pa_cons (pv 2) (pa_cons (pe_op op_mul (pv 1) (pv 3)) pa_nil)))))))), ?_⟩
    refine ⟨a, _, h, mutT, fun od => ⟨_, rfl, a, od, _, rfl, upd_same, fun D hD => ?_⟩⟩
    refine lc_itS walk_itemsT hD (fun i y H' => ∃ e q u, es[i]? = some e ∧ y = .ref u ∧ H' u = some (.tup [.ref q, .int (t * e.2)]) ∧ H' q = some (.tup (e.1.map V.int))) (by rw [enc_len]; unfold toV; rw [List.length_map]; omega)
      (fun i y H1 H2 ⟨e, q, u, h1, h2, h3, h4⟩ s => ⟨e, q, u, h1, h2, s _ _ h3, s _ _ h4⟩)
      (fun i y H1 l l' ⟨e, q, u, h1, h2, h3, h4⟩ hl => ⟨e, q, u, h1, h2, by rw [upd_ne (ne_of h3 hl fun z => by cases z)]; exact h3, by rw [upd_ne (ne_of h4 hl fun z => by cases z)]; exact h4⟩)
      (fun H1 s => s _ _ upd_same) ?_ ?_
    · rintro i x H1 H2 hi s1 ⟨tt, q, k', v, hk, hq, rfl, htt, rfl⟩ R Rn kR
      obtain ⟨e, he, rfl, hkn⟩ := enc_toV hk
      rw [hkn] at hq
      have s2 : Same H1 (upd H1 tt (.tup [.ref q, .int e.2])) := same_new htt
      refine ⟨tt, _, rfl, SqT.of upd_same, rfl, _, _, rfl, _, _, rfl, rfl, rfl, yes_t ?_⟩
      refine tcn ⟨_, rfl, tcn ⟨_, rfl, _, rfl, _, _, rfl, rfl, .inl ⟨t0, t1⟩, nil_i ⟨(by show 2 ≤ sizeLine; decide), fun u hu => ?_⟩⟩⟩
      exact kR _ _ (s2.trans (same_new hu)) ⟨e, q, u, he, rfl, upd_same, (s2.trans (same_new hu)) _ _ hq⟩
    · rintro ys H1 s1 e1 l1 py
      have le : es.length = (enc (toV es)).length := by rw [enc_len]; unfold toV; rw [List.length_map]
      have nDa : D ≠ a := fun z => by
        subst z
        rw [upd_same] at hD
        cases hD
      have sb := same_lock h s1
      refine ⟨s1 _ _ upd_same, ?_⟩
      obtain ⟨ps, hps, hp2⟩ := gather_rows (f := fun e => t * e.2) ys 0 fun i y hy => by
        rw [Nat.zero_add]
        exact py i y hy
      subst hps
      have lift : ∀ (u : Addr) (z : List V), H1 u = some (.tup z) → upd H1 a (.dT (enc (toV es))) u = some (.tup z) := fun u z hu => by
        rw [upd_ne]
        · exact hu
        · intro c
          subst c
          rw [s1 _ _ upd_same] at hu
          cases hu
      refine k D ps _ sb ⟨by rw [upd_ne nDa]; exact e1, ?_, fun i p e hp he => ?_⟩
      · unfold timesR
        rw [List.length_map] at l1 ⊢
        omega
      · obtain ⟨e', h1, h2, h3⟩ := hp2 i p hp
        rw [Nat.zero_add] at h1
        unfold timesR at he
        rw [List.getElem?_map, h1] at he
        cases he
        exact ⟨lift _ _ h2, lift _ _ h3⟩
end
end Tt
set_option maxRecDepth 100000
set_option maxHeartbeats 4000000
namespace Tt
open PySem L2
section
variable {P : Program} {w : World} {K : PySem.W.Frag} {mg : Str → Option Value} {base : Heap}
def spExN (T : Txt K mg) : Sp := fun vs H Q _ => ∃ (a : Addr) (v : V), vs = [.ref a, v] ∧ H a = some (exo a T.BadNumber.C none) ∧
  ∀ dx, H dx = none → dx ≠ a → Q .non (upd (upd H dx (exd dx [("part", v)])) a (exo a T.BadNumber.C (some dx)))
theorem ok_BadNumber_init (T : Txt K mg) : FnOk P w K mg base CX0 1 T.BadNumber.fI T.BadNumber.fd ["self", "part"] (spExN T) := by
  refine T.BadNumber.F.ok sc_BadNumber_init (fun vs H Q E h => ?_) (fun cdv A outer s H vs Q E hr h => ?_)
  · obtain ⟨a, v, rfl, _⟩ := h
    rfl
  · obtain ⟨a, v, rfl, ha, k⟩ := h
    refine ⟨_, (pss_one (ps_ost (pv 0) (pv 1))), ?_⟩
    exact ⟨v, rfl, _, rfl, a, T.BadNumber.C, rfl, T.BadNumber.o, T.BadNumber.n, .inl ⟨ha, fun dx n ne => k dx n ne⟩⟩
def NumErr (T : Txt K mg) (part : Str) (H : Hp) (E : XK) : Prop := ∀ d H', Same H H' → H' d = some (.xd [("part", .str part)]) → E (.ref T.BadNumber.C) (some d) H'
structure SumAt (row : List Int) (H : Hp) (a : Addr) (es : List (List Int × Int)) : Prop where
  h : H a = some (.dT (enc (toV es)))
  ok : okS row (enc (toV es)) = true
  ks : ∀ e ∈ es, e.1 ≠ [] ∧ e.1.length ≤ 40 ∧ Rnd e.1
  vs : ∀ e ∈ es, e.2 ≠ 0 ∧ -1000000000 ≤ e.2 ∧ e.2 ≤ 1000000000
  few : es.length ≤ 60
  nd : (es.map (·.1)).Nodup
theorem SumAt.sv {row : List Int} {H : Hp} {a : Addr} {es : List (List Int × Int)} (s : SumAt row H a es) : SV K row H (.ref a) true := by
  have := SV.dict (K := K) (row := row) s.h (by rw [enc_len]; unfold toV; rw [List.length_map]; have := s.few; omega) (fun e he => by
    unfold enc toV at he
    rw [List.map_map] at he
    obtain ⟨x, hx, rfl⟩ := List.mem_map.mp he
    show (x.1.map Sum.inl).length < 1000
    rw [List.length_map]
    have := (s.ks x hx).2.1
    omega) (fun e he => by
    unfold enc toV at he
    rw [List.map_map] at he
    obtain ⟨x, hx, rfl⟩ := List.mem_map.mp he
    exact ⟨_, .int x.2⟩)
  rw [s.ok] at this
  exact this
theorem SumAt.same {row : List Int} {H H' : Hp} {a : Addr} {es : List (List Int × Int)} (s : SumAt row H a es) (k : Same H H') : SumAt row H' a es := ⟨k _ _ s.h, s.ok, s.ks, s.vs, s.few, s.nd⟩
def spAdded (T : Txt K mg) : Sp := fun vs H Q E => ∃ (v x y z : V), vs = [v, x, y, z] ∧ ((SkV T H v false ∧ SkErr T H E) ∨ ∃ (p : Addr) (row : List Int), v = .ref p ∧ SkAt T H p row ∧ (row.length ≤ 12 ∧ row.length % 2 = 0) ∧
  ((∃ b1 b2, SV K row H x b1 ∧ SV K row H y b2 ∧ (b1 = false ∨ b2 = false) ∧ ∀ H', Same H H' → E (.ref T.BadSum.C) none H') ∨
  ∃ (a1 a2 : Addr) (es1 es2 : List (List Int × Int)) (S : String), x = .ref a1 ∧ y = .ref a2 ∧ SumAt row H a1 es1 ∧ SumAt row H a2 es2 ∧ TyB K H z S ∧
    ((inB (-1000000000) 1000000000 z = false ∧ ∀ H1, Same H H1 → NumErr T "times" H1 E) ∨
    ∃ t : Int, z = .int t ∧ -1000000000 ≤ t ∧ t ≤ 1000000000 ∧ ∀ D H' ks, H D = none → Same H H' → ks.Perm ((sumUp (timesR es1 1 ++ timesR es2 t)).map (·.1)) → ks.Pairwise (· ≤ ·) → H' D = some (.dT (enc (gath (sumUp (timesR es1 1 ++ timesR es2 t)) ks))) → Q (.ref D) H')))
theorem ok_added (T : Txt K mg) : FnOk P w K mg base (L2.CX P w) 9 T.added.a T.added.fd ["skin", "one", "other", "times"] (spAdded T) := by
  refine T.added.F.okX sc_added (fun vs H Q E h => ?_) (fun cdv A outer s H vs Q E hr h => ?_)
  · obtain ⟨v, x, y, z, rfl, _⟩ := h
    rfl
  · obtain ⟨v, x, y, z, rfl, h⟩ := h
    have nd := sc_added.nd
    refine ⟨_, (pss_cons (ps_expr (pe_callS (ok_check_skin T) (hr.mono (by decide)) (by rfl) T.check_skin.g T.check_skin.k T.check_skin.b (fun σ => passAt (takes_of rfl rfl rfl rfl) σ) (pa_cons (pv 0) pa_nil)))
    (pss_cons (ps_expr (pe_callS (ok_check_sum T) (hr.mono (by decide)) (by rfl) T.check_sum.g T.check_sum.k T.check_sum.b (fun σ => passAt (takes_of rfl rfl rfl rfl) σ) (pa_cons (pv 0) (pa_cons (pv 1) pa_nil))))
    (pss_cons (ps_expr (pe_callS (ok_check_sum T) (hr.mono (by decide)) (by rfl) T.check_sum.g T.check_sum.k T.check_sum.b (fun σ => passAt (takes_of rfl rfl rfl rfl) σ) (pa_cons (pv 0) (pa_cons (pv 2) pa_nil))))
    (pss_cons (ps_if (pt_not (pt_val (pe_call (ok_is_number_of_sum T) (hr.mono (by decide)) (by rfl) T.is_number_of_sum.g T.is_number_of_sum.k T.is_number_of_sum.b .nil pass0 (pa_cons (pv 3) pa_nil))))
      (pss_one (ps_raise rfl (takes_of rfl rfl rfl rfl) (pmk_oex T.BadNumber.o T.BadNumber.i T.BadNumber.t (ok_BadNumber_init T) (hr.mono (by decide)) T.BadNumber.b .nil pass0 (by rfl) T.BadNumber.g (pa_cons pe_str pa_nil))))
      pss_nil)
    (pss_one (ps_ret (pe_call (ok_put_together T) (hr.mono (by decide)) (by rfl) T.put_together.g T.put_together.k T.put_together.b .nil pass0 (pa_cons (pe_op op_cat (pe_call (ok_times_rows T) (hr.mono (by decide)) (by rfl) T.times_rows.g T.times_rows.k T.times_rows.b .nil pass0 (pa_cons (pv 1) (pa_cons pe_int pa_nil))) (pe_call (ok_times_rows T) (hr.mono (by decide)) (by rfl) T.times_rows.g T.times_rows.k T.times_rows.b .nil pass0 (pa_cons (pv 2) (pa_cons (pv 3) pa_nil)))) pa_nil)))))))), ?_⟩
    rcases h with ⟨hv, he⟩ | ⟨p, row, rfl, hs, hrow, h⟩
    · exact ⟨v, rfl, v, false, rfl, hv, (fun z => by cases z), fun _ => he⟩
    refine ⟨_, rfl, _, true, rfl, hs.v, (fun _ => ?_), fun z => by cases z⟩
    rcases h with ⟨b1, b2, v1, v2, bad, he⟩ | ⟨a1, a2, es1, es2, S, rfl, rfl, m1, m2, ty, h⟩
    · refine ⟨_, rfl, x, rfl, p, row, x, b1, rfl, hs, hrow, v1, fun e1 H1 s1 => ?_, fun e1 H1 s1 => he H1 s1⟩
      refine ⟨_, rfl, y, rfl, p, row, y, b2, rfl, hs.same s1, hrow, v2.same s1, fun e2 H2 s2 => ?_, fun e2 H2 s2 => he H2 (s1.trans s2)⟩
      rw [e1, e2] at bad
      simp at bad
    · refine ⟨_, rfl, _, rfl, p, row, _, true, rfl, hs, hrow, m1.sv, fun _ H1 s1 => ?_, fun z => by cases z⟩
      refine ⟨_, rfl, _, rfl, p, row, _, true, rfl, hs.same s1, hrow, (m2.same s1).sv, fun _ H2 s2 => ?_, fun z => by cases z⟩
      have s12 := s1.trans s2
      refine ⟨z, rfl, z, S, rfl, TyB.same ty s12, ?_⟩
      rcases h with ⟨hb, he⟩ | ⟨t, rfl, t0, t1, k⟩
      · refine ⟨_, rfl, ?_⟩
        rw [hb]
        refine iteT ⟨(by show 1 ≤ 1000; decide), fun a ha => ?_⟩
        refine ⟨a, .str "times", rfl, upd_same, fun dx ndx nn => ⟨rfl, dx, ([("part", V.str "times")] : List (Str × V)), upd_same, ?_, ?_, ?_⟩⟩
        · rw [upd_ne nn, upd_same]
        · rw [upd_ne nn] at ndx
          exact ndx
        · have ndx' : H2 dx = none := by rw [upd_ne nn] at ndx; exact ndx
          refine he H2 s12 dx _ (fun b o hb => ?_) upd_same
          have nb : b ≠ a := ne_of_none hb ha
          have nb2 : b ≠ dx := ne_of_none hb ndx'
          rw [upd_ne nb2, del_ne nb, upd_ne nb, upd_ne nb2, upd_ne nb]
          exact hb
      · have eb : inB (-1000000000) 1000000000 (.int t) = true := by
          show (decide _ && decide _) = true
          rw [decide_eq_true t0, decide_eq_true t1]
          rfl
        refine ⟨_, rfl, ?_⟩
        rw [eb]
        refine iteF ?_
        dsimp only [tNext]
        have p64 : (2 : Int) ^ 64 > 1000000000 := by decide
        have f1 := m1.few
        have f2 := m2.few
        refine ⟨_, rfl, tC_i (nil_i ⟨a1, es1, 1, rfl, s12 _ _ m1.h, by omega, by omega, by omega, fun l1 ps1 H3 s3 r1 => ?_⟩)⟩
        have s13 := s12.trans s3
        refine ⟨_, rfl, _, rfl, a2, es2, t, rfl, s13 _ _ m2.h, by omega, by omega, by omega, fun l2 ps2 H4 s4 r2 => ?_⟩
        have s14 := s13.trans s4
        have q1 : RowsP H4 l1 ps1 (timesR es1 1) := ⟨s4 _ _ r1.1, r1.2.1, fun i p e a b => ⟨s4 _ _ (r1.2.2 i p e a b).1, s4 _ _ (r1.2.2 i p e a b).2⟩⟩
        have le1 : (timesR es1 1).length = es1.length := List.length_map ..
        have le2 : (timesR es2 t).length = es2.length := List.length_map ..
        have lp1 := r1.2.1
        have lp2 := r2.2.1
        have big : 4000 ≤ sizeLine := by decide
        refine ⟨l1, l2, _, _, rfl, rfl, q1.1, r2.1, by rw [List.length_map, List.length_map]; omega, fun l3 h3 => nil_i ?_⟩
        have s5 := same_new (o := .lst (ps1.map (fun p => V.ref p.1) ++ ps2.map (fun p => V.ref p.1))) h3
        refine ⟨l3, ps1 ++ ps2, timesR es1 1 ++ timesR es2 t, rfl, ?_, by rw [List.length_append, List.length_append, lp1, lp2], by rw [List.length_append]; omega, fun i p e hp he => ?_, fun e he => ?_, fun D H6 ks hD s6 hperm hsort h6 => k D H6 ks (same_none (s14.trans s5) hD) ((s14.trans s5).trans s6) hperm hsort h6⟩
        · refine SqL.of ?_
          rw [upd_same, List.map_append]
        · rcases Nat.lt_or_ge i ps1.length with c | c
          · rw [List.getElem?_append_left c] at hp
            rw [List.getElem?_append_left (by omega)] at he
            exact ⟨SqT.of (s5 _ _ (q1.2.2 i p e hp he).1), s5 _ _ (q1.2.2 i p e hp he).2⟩
          · rw [List.getElem?_append_right c] at hp
            rw [List.getElem?_append_right (by omega), ← lp1] at he
            exact ⟨SqT.of (s5 _ _ (r2.2.2 _ p e hp he).1), s5 _ _ (r2.2.2 _ p e hp he).2⟩
        · rcases List.mem_append.mp he with c | c
          · obtain ⟨x, hx, rfl⟩ := List.mem_map.mp c
            exact (m1.ks x hx).1
          · obtain ⟨x, hx, rfl⟩ := List.mem_map.mp c
            exact (m2.ks x hx).1
def absV (n : Int) : Int := if n < 0 then -n else n
def weightOf (es : List (List Int × Int)) : Int := (es.map fun e => absV e.2).sum
def spWeight (T : Txt K mg) : Sp := fun vs H Q E => ∃ (v x : V), vs = [v, x] ∧ ((SkV T H v false ∧ SkErr T H E) ∨ ∃ (p : Addr) (row : List Int), v = .ref p ∧ SkAt T H p row ∧ (row.length ≤ 12 ∧ row.length % 2 = 0) ∧
  ((SV K row H x false ∧ ∀ H', Same H H' → E (.ref T.BadSum.C) none H') ∨ ∃ (a : Addr) (es : List (List Int × Int)), x = .ref a ∧ SumAt row H a es ∧ ∀ H', Same H H' → Q (.int (weightOf es)) H'))
theorem ok_weight (T : Txt K mg) : FnOk P w K mg base (L2.CX P w) 9 T.weight.a T.weight.fd ["skin", "some"] (spWeight T) := by
  refine T.weight.F.okX sc_weight (fun vs H Q E h => ?_) (fun cdv A outer s H vs Q E hr h => ?_)
  · obtain ⟨v, x, rfl, _⟩ := h
    rfl
  · obtain ⟨v, x, rfl, h⟩ := h
    have nd := sc_weight.nd
    refine ⟨_, (pss_cons (ps_expr (pe_callS (ok_check_skin T) (hr.mono (by decide)) (by rfl) T.check_skin.g T.check_skin.k T.check_skin.b (fun σ => passAt (takes_of rfl rfl rfl rfl) σ) (pa_cons (pv 0) pa_nil)))
    (pss_cons (ps_expr (pe_callS (ok_check_sum T) (hr.mono (by decide)) (by rfl) T.check_sum.g T.check_sum.k T.check_sum.b (fun σ => passAt (takes_of rfl rfl rfl rfl) σ) (pa_cons (pv 0) (pa_cons (pv 1) pa_nil))))
    (pss_one (ps_ret (pe_callB (cr_sum rfl) (by rfl) T.zsum (by decide +kernel) (pa_cons (pe_lock (pe_lc (own := [("number", 2)]) (g := gName 2) rfl nd (pi_valuesT (pv 1)) (blkOk_by (own := [("number", 2)]) (N := N_weight) (sc := defScope s_weight) (by decide +kernel)) (fun _ _ _ _ _ => pg_name (i := 2) nd rfl (Or.inl rfl)) (fun _ _ _ _ _ => pts_nil) (fun _ _ _ _ _ => (pe_callB call_abs (by rfl) T.zabs (by decide +kernel) (pa_cons (pv 2) pa_nil))))) pa_nil)))))), ?_⟩
    rcases h with ⟨hv, he⟩ | ⟨p, row, rfl, hs, hrow, h⟩
    · exact ⟨v, rfl, v, false, rfl, hv, (fun z => by cases z), fun _ => he⟩
    refine ⟨_, rfl, _, true, rfl, hs.v, (fun _ => ?_), fun z => by cases z⟩
    rcases h with ⟨sv, he⟩ | ⟨a, es, rfl, m, k⟩
    · exact ⟨_, rfl, x, rfl, p, row, x, false, rfl, hs, hrow, sv, (fun z => by cases z), fun _ H1 s1 => he H1 s1⟩
    refine ⟨_, rfl, _, rfl, p, row, _, true, rfl, hs, hrow, m.sv, fun _ H1 s1 => ?_, fun z => by cases z⟩
    have ha := s1 _ _ m.h
    have le : es.length = (enc (toV es)).length := by rw [enc_len]; unfold toV; rw [List.length_map]
    have few := m.few
    refine ⟨a, _, ha, mutT, fun od => ⟨_, rfl, a, od, _, rfl, upd_same, fun D hD => lc_itF walk_valuesT hD (fun i => .int (match es[i]? with | some e => absV e.2 | none => 0)) (by omega) (fun H2 s2 => s2 _ _ upd_same) ?_ ?_⟩⟩
    · rintro i x H2 H3 hi s2 ⟨rfl, k', hk⟩ R Rn kR
      obtain ⟨e, he, rfl, hkn⟩ := enc_toV hk
      refine ⟨rfl, yes_t ?_⟩
      rw [he] at kR
      refine ⟨_, rfl, nil_i ⟨_, rfl, kR _ fun _ _ z => z⟩⟩
    · rintro H2 s2 e2
      have nDa : D ≠ a := fun z => by
        subst z
        rw [upd_same] at hD
        cases hD
      have e3 : (List.range (enc (toV es)).length).map (fun i => V.int (match es[i]? with | some e => absV e.2 | none => 0)) = (es.map fun e => absV e.2).map V.int := by
        rw [← le]
        refine List.ext_getElem? fun i => ?_
        rw [List.getElem?_map, List.map_map, List.getElem?_map]
        by_cases c : i < es.length
        · rw [List.getElem?_range c, List.getElem?_eq_getElem c]
          simp [List.getElem?_eq_getElem c]
        · rw [List.getElem?_eq_none (by rw [List.length_range]; omega), List.getElem?_eq_none (by omega)]
          rfl
      rw [e3] at e2
      have sb := same_lock ha s2
      have e4 : upd H2 a (.dT (enc (toV es))) D = some (.lst ((es.map fun e => absV e.2).map V.int)) := by
        rw [upd_ne nDa]
        exact e2
      refine ⟨s2 _ _ upd_same, nil_i ⟨D, es.map fun e => absV e.2, rfl, SqL.of e4, ?_⟩⟩
      exact k _ (s1.trans sb)
end
end Tt
set_option maxRecDepth 100000
set_option maxHeartbeats 4000000
namespace L2
open PySem PySem.Spec PyProof.Rows
structure Sy (k w : Nat) (d : PyData) : Prop where
  sh : d.showable = true
  dp : d.depth ≤ k
  lv : d.leavesShort 22 = true
  wt : d.weight ≤ w
theorem Sy.mono {k k' w w' : Nat} {d : PyData} (h : Sy k w d) (a : k ≤ k') (b : w ≤ w') : Sy k' w' d := ⟨h.sh, Nat.le_trans h.dp a, h.lv, Nat.le_trans h.wt b⟩
theorem Sy.fits {k w : Nat} {d : PyData} (h : Sy k w d) (hw : w ≤ 690000) : d.shown.length ≤ sizeLine := by
  have h1 := PyData.shown_le 22 (by decide) d h.lv
  have h2 := Nat.le_trans h.wt hw
  rw [sizeLine_eq]
  omega
theorem Sy.int {i : Int} (h : i.natAbs < 10 ^ 20) : Sy 0 70 (.int i) := by
  have h2 : i.natAbs < 2 ^ 70 := Nat.lt_of_lt_of_le h (by decide)
  have hl : i.natAbs ≠ 0 → i.natAbs.log2 < 70 := fun z => (Nat.log2_lt z).mpr h2
  have hl2 : i.natAbs.log2 < 70 := by
    by_cases z : i.natAbs = 0
    · rw [z]
      decide
    · exact hl z
  refine ⟨?_, Nat.zero_le _, ?_, ?_⟩
  · show decide (i.natAbs.log2 < 1920) = true
    exact decide_eq_true (by omega)
  · have q := PySem.int_text_length_le10 (a := i) (k := 20) (by decide) h
    have e2 : (Str.ofString (toString i)).length = (toString i).length := PySem.ofString_length _
    show decide ((Str.ofString (toString i)).length ≤ 22) = true
    exact decide_eq_true (by omega)
  · show (if i == 0 then 0 else i.natAbs.log2 + 1) ≤ 70
    split <;> omega
theorem Sy.bool (b : Bool) : Sy 0 0 (.bool b) := ⟨rfl, Nat.le_refl _, rfl, Nat.le_refl _⟩
theorem sy_all {k w : Nat} : ∀ ds : List PyData, (∀ d ∈ ds, Sy k w d) → PyData.showableAll ds = true ∧ PyData.depthAll ds ≤ k ∧ PyData.leavesShortAll 22 ds = true ∧ PyData.weightAll ds ≤ ds.length * (w + 1)
  | [], _ => ⟨rfl, Nat.zero_le _, rfl, Nat.zero_le _⟩
  | d :: ds, h => by
    obtain ⟨a1, a3, a4, a5⟩ := sy_all ds fun x hx => h x (List.mem_cons_of_mem _ hx)
    have b := h d List.mem_cons_self
    refine ⟨?_, ?_, ?_, ?_⟩
    · show (d.showable && PyData.showableAll ds) = true
      rw [b.sh, a1]
      rfl
    · show max d.depth (PyData.depthAll ds) ≤ k
      have := b.dp
      omega
    · show (d.leavesShort 22 && PyData.leavesShortAll 22 ds) = true
      rw [b.lv, a4]
      rfl
    · show d.weight + 1 + PyData.weightAll ds ≤ (ds.length + 1) * (w + 1)
      rw [Nat.add_mul, Nat.one_mul]
      have := b.wt
      omega
theorem Sy.list {k w : Nat} {ds : List PyData} (h : ∀ d ∈ ds, Sy k w d) : Sy (k + 1) (ds.length * (w + 1)) (.list ds) := by
  obtain ⟨a1, a3, a4, a5⟩ := sy_all ds h
  exact ⟨a1, Nat.succ_le_succ a3, a4, a5⟩
theorem Sy.tuple {k w : Nat} {ds : List PyData} (h : ∀ d ∈ ds, Sy k w d) : Sy (k + 1) (ds.length * (w + 1)) (.tuple ds) := by
  obtain ⟨a1, a3, a4, a5⟩ := sy_all ds h
  exact ⟨a1, Nat.succ_le_succ a3, a4, a5⟩
theorem sy_kv {k w : Nat} : ∀ ds : List (PyData × PyData), (∀ d ∈ ds, Sy k w d.1 ∧ Sy k w d.2) → PyData.showableKv ds = true ∧ PyData.depthKv ds ≤ k ∧ PyData.leavesShortKv 22 ds = true ∧ PyData.weightKv ds ≤ ds.length * (2 * w + 2)
  | [], _ => ⟨rfl, Nat.zero_le _, rfl, Nat.zero_le _⟩
  | (c, d) :: ds, h => by
    obtain ⟨a1, a3, a4, a5⟩ := sy_kv ds fun x hx => h x (List.mem_cons_of_mem _ hx)
    obtain ⟨b, e⟩ := h (c, d) List.mem_cons_self
    refine ⟨?_, ?_, ?_, ?_⟩
    · show (c.showable && d.showable && PyData.showableKv ds) = true
      rw [show c.showable = true from b.sh, show d.showable = true from e.sh, a1]
      rfl
    · show max (max c.depth d.depth) (PyData.depthKv ds) ≤ k
      have b1 : c.depth ≤ k := b.dp
      have b2 : d.depth ≤ k := e.dp
      omega
    · show (c.leavesShort 22 && d.leavesShort 22 && PyData.leavesShortKv 22 ds) = true
      rw [show c.leavesShort 22 = true from b.lv, show d.leavesShort 22 = true from e.lv, a4]
      rfl
    · show c.weight + d.weight + 2 + PyData.weightKv ds ≤ (ds.length + 1) * (2 * w + 2)
      rw [Nat.add_mul, Nat.one_mul]
      have b1 : c.weight ≤ w := b.wt
      have b2 : d.weight ≤ w := e.wt
      omega
theorem Sy.dict {k w : Nat} {ds : List (PyData × PyData)} (h : ∀ d ∈ ds, Sy k w d.1 ∧ Sy k w d.2) : Sy (k + 1) (ds.length * (2 * w + 2)) (.dict ds) := by
  obtain ⟨a1, a3, a4, a5⟩ := sy_kv ds h
  exact ⟨a1, Nat.succ_le_succ a3, a4, a5⟩
theorem Sy.row {ns : List Int} (h : ∀ x ∈ ns, x.natAbs < 10 ^ 20) : Sy 1 (ns.length * 71) (rowD ns) := by
  have := Sy.tuple (k := 0) (w := 70) (ds := ns.map PyData.int) fun d hd => by
    obtain ⟨x, hx, rfl⟩ := List.mem_map.mp hd
    exact Sy.int (h x hx)
  rwa [List.length_map] at this
end L2
namespace Tt
open PySem L2
def putN (es : List (List Int × Int)) (k : List Int) (n : Int) : List (List Int × Int) :=
  if (es.any fun e => decide (e.1 = k)) = true then es.map fun e => if e.1 = k then (e.1, n) else e else es ++ [(k, n)]
theorem putK_toV (es : List (List Int × Int)) (k : List Int) (n : Int) : putK (toV es) k (.int n) = toV (putN es k n) := by
  have ha : ((toV es).any fun kv => decide (kv.1 = k)) = (es.any fun kv => decide (kv.1 = k)) := by
    unfold toV
    rw [List.any_map]
    rfl
  unfold putK putN
  rw [ha]
  split
  · unfold toV
    rw [List.map_map, List.map_map]
    refine List.map_congr_left fun e _ => ?_
    show (if e.1 = k then _ else _) = _
    by_cases c : e.1 = k
    · rw [if_pos c]
      show _ = ((if e.1 = k then (e.1, n) else e).1, V.int (if e.1 = k then (e.1, n) else e).2)
      rw [if_pos c]
    · rw [if_neg c]
      show _ = ((if e.1 = k then (e.1, n) else e).1, V.int (if e.1 = k then (e.1, n) else e).2)
      rw [if_neg c]
  · unfold toV
    rw [List.map_append]
    rfl
theorem putN_mem {es : List (List Int × Int)} {k : List Int} {v : Int} {e : List Int × Int} (h : e ∈ putN es k v) : e = (k, v) ∨ e ∈ es := by
  unfold putN at h
  split at h
  · obtain ⟨x, hx, rfl⟩ := List.mem_map.mp h
    by_cases c : x.1 = k
    · rw [if_pos c, c]
      exact .inl rfl
    · rw [if_neg c]
      exact .inr hx
  · rcases List.mem_append.mp h with c | c
    · exact .inr c
    · exact .inl (List.mem_singleton.mp c)
theorem putN_len (es : List (List Int × Int)) (k : List Int) (v : Int) : (putN es k v).length ≤ es.length + 1 := by
  unfold putN
  split
  · rw [List.length_map]
    omega
  · rw [List.length_append]
    exact Nat.le_refl _
theorem putN_nodup {es : List (List Int × Int)} {k : List Int} {v : Int} (h : (es.map (·.1)).Nodup) : ((putN es k v).map (·.1)).Nodup := by
  unfold putN
  split
  · have e : (es.map fun e => if e.1 = k then (e.1, v) else e).map (·.1) = es.map (·.1) := by
      rw [List.map_map]
      refine List.map_congr_left fun e _ => ?_
      show (if e.1 = k then (e.1, v) else e).1 = e.1
      split <;> rfl
    rw [e]
    exact h
  · rename_i hn
    rw [List.map_append, List.nodup_append]
    refine ⟨h, by simp, fun a ha b hb => ?_⟩
    rw [List.mem_singleton.mp hb]
    intro e
    subst e
    obtain ⟨x, hx, rfl⟩ := List.mem_map.mp ha
    exact hn (List.any_eq_true.mpr ⟨x, hx, decide_eq_true rfl⟩)
theorem valV_pos {es : List (List Int × V)} {p : List Int × V} {k : List Int} (h : p.1 = k) : valV (p :: es) k = some p.2 := by
  unfold valV
  rw [List.find?_cons, decide_eq_true h]
  rfl
theorem valV_neg {es : List (List Int × V)} {p : List Int × V} {k : List Int} (h : ¬ p.1 = k) : valV (p :: es) k = valV es k := by
  unfold valV
  rw [List.find?_cons, decide_eq_false h]
def Bnd (B : Nat) (es : List (List Int × V)) : Prop := ∀ e ∈ es, ∃ i, e.2 = V.int i ∧ i.natAbs ≤ B
theorem Bnd.num {B : Nat} {es : List (List Int × V)} (h : Bnd B es) (k : List Int) : (numO (valV es k)).natAbs ≤ B := by
  unfold valV
  cases e : es.find? (fun kv => decide (kv.1 = k)) with
  | none => exact Nat.zero_le _
  | some x =>
    obtain ⟨i, hi, hb⟩ := h x (List.mem_of_find?_eq_some e)
    show (numO (some x.2)).natAbs ≤ B
    rw [hi]
    exact hb
theorem Bnd.put {B : Nat} {es : List (List Int × V)} (h : Bnd B es) {k : List Int} {n : Int} (hn : n.natAbs ≤ B) : Bnd B (putK es k (.int n)) := fun e he => by
  unfold putK at he
  split at he
  · obtain ⟨x, hx, rfl⟩ := List.mem_map.mp he
    by_cases c : x.1 = k
    · rw [if_pos c]
      exact ⟨n, rfl, hn⟩
    · rw [if_neg c]
      exact h x hx
  · rcases List.mem_append.mp he with c | c
    · exact h e c
    · rw [List.mem_singleton.mp c]
      exact ⟨n, rfl, hn⟩
theorem Bnd.mono {B C : Nat} {es : List (List Int × V)} (h : Bnd B es) (l : B ≤ C) : Bnd C es := fun e he => by
  obtain ⟨i, a, b⟩ := h e he
  exact ⟨i, a, by omega⟩
theorem sumUp_bnd (M : Nat) (rows : List (List Int × Int)) (h : ∀ e ∈ rows, e.2.natAbs ≤ M) : Bnd (rows.length * M) (sumUp rows) := by
  have gen : ∀ (rows : List (List Int × Int)) (B : Nat) (es : List (List Int × V)), (∀ e ∈ rows, e.2.natAbs ≤ M) → Bnd B es → Bnd (B + rows.length * M) (rows.foldl (fun es e => addN es e.1 e.2) es) := fun rows => by
    induction rows with
    | nil => intro B es _ hb; exact hb.mono (by omega)
    | cons r rows ih =>
      intro B es hr hb
      have h1 := hr r List.mem_cons_self
      have h2 := hb.num r.1
      have := ih (B + M) (addN es r.1 r.2) (fun e he => hr e (List.mem_cons_of_mem _ he)) ((hb.mono (by omega)).put (by omega))
      refine this.mono ?_
      rw [List.length_cons, Nat.add_mul]
      omega
  have := gen rows 0 [] h (fun e he => by cases he)
  refine this.mono (by omega)
def gathN (es : List (List Int × V)) (ks : List (List Int)) : List (List Int × Int) := ks.foldl (fun acc k => if numO (valV es k) = 0 then acc else putN acc k (numO (valV es k))) []
theorem gathN_toV (es : List (List Int × V)) (ks : List (List Int)) : gath es ks = toV (gathN es ks) := by
  have gen : ∀ (ks : List (List Int)) (acc : List (List Int × Int)), ks.foldl (fun acc k => if numO (valV es k) = 0 then acc else putK acc k (.int (numO (valV es k)))) (toV acc) = toV (ks.foldl (fun acc k => if numO (valV es k) = 0 then acc else putN acc k (numO (valV es k))) acc) := fun ks => by
    induction ks with
    | nil => exact fun acc => rfl
    | cons k ks ih =>
      intro acc
      rw [List.foldl_cons, List.foldl_cons]
      by_cases c : numO (valV es k) = 0
      · rw [if_pos c, if_pos c]
        exact ih acc
      · rw [if_neg c, if_neg c, putK_toV]
        exact ih _
  exact gen ks []
theorem gathN_mem {es : List (List Int × V)} {ks : List (List Int)} : ∀ e ∈ gathN es ks, e.1 ∈ ks ∧ e.2 = numO (valV es e.1) := by
  have gen : ∀ (ks all : List (List Int)) (acc : List (List Int × Int)), (∀ k ∈ ks, k ∈ all) → (∀ e ∈ acc, e.1 ∈ all ∧ e.2 = numO (valV es e.1)) → ∀ e ∈ ks.foldl (fun acc k => if numO (valV es k) = 0 then acc else putN acc k (numO (valV es k))) acc, e.1 ∈ all ∧ e.2 = numO (valV es e.1) := fun ks => by
    induction ks with
    | nil => exact fun all acc _ h => h
    | cons k ks ih =>
      intro all acc hk h
      rw [List.foldl_cons]
      refine ih all _ (fun k' h' => hk k' (List.mem_cons_of_mem _ h')) fun e he => ?_
      by_cases c : numO (valV es k) = 0
      · rw [if_pos c] at he
        exact h e he
      · rw [if_neg c] at he
        rcases putN_mem he with rfl | he
        · exact ⟨hk _ List.mem_cons_self, rfl⟩
        · exact h e he
  exact gen ks ks [] (fun _ h => h) (fun e h => by cases h)
theorem dtK_enc (ps : List (List Int × Int)) : dtK ps = enc (toV ps) := by
  unfold dtK enc toV
  rw [List.map_map]
  rfl
theorem val_toV {es : List (List Int × Int)} (h : (es.map (·.1)).Nodup) {e : List Int × Int} (he : e ∈ es) : valV (toV es) e.1 = some (.int e.2) := by
  induction es with
  | nil => cases he
  | cons x es ih =>
    rw [List.map_cons, List.nodup_cons] at h
    rcases List.mem_cons.mp he with rfl | he'
    · exact valV_pos rfl
    · have hne : ¬ x.1 = e.1 := fun z => h.1 (z ▸ List.mem_map.mpr ⟨e, he', rfl⟩)
      exact (valV_neg (p := (x.1, V.int x.2)) hne).trans (ih h.2 he')
theorem ks_eq {a b c : List (List Int)} (p : a.Perm c) (q : b.Perm c) (s : a.Pairwise (· ≤ ·)) (t : b.Pairwise (· ≤ ·)) : a = b :=
  List.Perm.eq_of_pairwise (fun x y _ _ h1 h2 => List.le_antisymm h1 h2) s t (p.trans q.symm)
theorem sy_dt {ps : List (List Int × Int)} {m c : Nat} (hm : ps.length ≤ c) (h : ∀ e ∈ ps, e.1.length ≤ m ∧ (∀ x ∈ e.1, x.natAbs < 10 ^ 20) ∧ e.2.natAbs < 10 ^ 20) : Sy 2 (c * (2 * (m * 71 + 70) + 2)) (dtD ps) := by
  have := Sy.dict (k := 1) (w := m * 71 + 70) (ds := ps.map fun p => (rowD p.1, PyData.int p.2)) fun d hd => by
    obtain ⟨e, he, rfl⟩ := List.mem_map.mp hd
    obtain ⟨a, b, c⟩ := h e he
    refine ⟨(Sy.row b).mono (Nat.le_refl _) ?_, (Sy.int c).mono (Nat.zero_le _) (by omega)⟩
    have := Nat.mul_le_mul_right 41 a
    omega
  refine this.mono (Nat.le_refl _) (Nat.mul_le_mul_right _ ?_)
  rw [List.length_map]
  exact hm
end Tt
set_option maxRecDepth 100000
set_option maxHeartbeats 4000000
namespace Tt
open PySem L2
section
variable {P : Program} {w : World} {K : PySem.W.Frag} {mg : Str → Option Value} {base : Heap}
def spPutL : Sp := fun vs H Q _ => ∃ (d q : Addr) (es : List (List Int × V)) (ns : List Int) (n : Int), vs = [.ref d, .ref q, .int n] ∧ H d = some (.dT (enc es)) ∧ IntV es ∧ es.length ≤ 1000 ∧ H q = some (.tup (ns.map V.int)) ∧ Q .non (upd H d (.dT (enc (addN es ns n))))
theorem ok_l_put (T : Txt K mg) : FnOk P w K mg base CX0 1 T.l_put.a T.l_put.fd ["book", "key", "number"] spPutL := by
  refine T.l_put.F.ok sc_l_put (fun vs H Q E h => ?_) (fun cdv A outer s H vs Q E hr h => ?_)
  · obtain ⟨d, q, es, ns, n, rfl, _⟩ := h
    rfl
  · obtain ⟨d, q, es, ns, n, rfl, hd, hi, few, hq, k⟩ := h
    have nd := sc_l_put.nd
    have hu := hu_of hr
    refine ⟨_, (pss_one (ps_dput hu (pv 0) (pv 1) (pe_op op_add (pe_dget2 hu (pv 0) (pv 1) pe_int ⟨rfl, rfl, rfl, rfl⟩) (pv 2)) rfl)), ?_⟩
    have g : H q = some (.tup ((ns.map Sum.inl : List Key).map kV)) := by
      rw [List.map_map]
      exact hq
    refine ⟨_, rfl, d, rfl, isD hd, _, rfl, _, DGet.t hd g, ?_⟩
    rw [valV_enc, hi.val]
    refine ⟨_, rfl, _, _, rfl, rfl, ?_⟩
    refine ⟨_, rfl, _, rfl, d, _, rfl, DPut.t hd g (by rw [enc_len]; exact smallB (by omega)), ?_⟩
    rw [putK_enc]
    exact k
def spKept : Sp := fun vs H Q _ => ∃ (d : Addr) (es : List (List Int × V)), vs = [.ref d] ∧ H d = some (.dT (enc es)) ∧ IntV es ∧ (∀ e ∈ es, e.1 ≠ []) ∧ es.length ≤ 1000 ∧
  ∀ D H' ks, H D = none → Same H H' → ks.Perm (es.map (·.1)) → ks.Pairwise (· ≤ ·) → H' D = some (.dT (enc (gath es ks))) → Q (.ref D) H'
theorem ok_l_kept (T : Txt K mg) : FnOk P w K mg base CX0 1 T.l_kept.a T.l_kept.fd ["book"] spKept := by
  refine T.l_kept.F.ok sc_l_kept (fun vs H Q E h => ?_) (fun cdv A outer s H vs Q E hr h => ?_)
  · obtain ⟨d, es, rfl, _⟩ := h
    rfl
  · obtain ⟨d, es, rfl, eA, hI, hne, few, k⟩ := h
    have nd := sc_l_kept.nd
    have hu := hu_of hr
    refine ⟨_, (pss_one (ps_ret (pe_callTy (cr_dictPT rfl hr.units) (by rfl) T.zdict (by decide +kernel) (pa_cons (pe_lc (own := [("key", 1)]) (g := gName 1) rfl nd (pi_list (pe_callB (cr_sortedDT rfl hr.units) (by rfl) T.zsorted (by decide +kernel) (pa_cons (pv 0) pa_nil))) (blkOk_by (own := [("key", 1)]) (N := N_l_kept) (sc := defScope s_l_kept) (by decide +kernel)) (fun _ _ _ _ _ => pg_name (i := 1) nd rfl (Or.inl rfl)) (fun _ _ _ _ _ => pts_one (pt_cmpR op_ne (pe_dget hu (pv 0) (pv 1) (fun _ _ => rfl)) pe_int (nomark _))) (fun _ _ _ _ _ => (pe_tup (pa_cons (pv 1) (pa_cons (pe_dget hu (pv 0) (pv 1) (fun _ _ => rfl)) pa_nil))))) pa_nil)))), ?_⟩
    have hkey : ∀ p ∈ enc es, ∃ ns, ns ≠ [] ∧ p.1 = List.map Sum.inl ns := fun p hp => by
      obtain ⟨e, he, rfl⟩ := List.mem_map.mp hp
      exact ⟨e.1, hne e he, rfl⟩
    refine ⟨_, rfl, d, _, rfl, .inl eA, hkey, fun bs bs' q hK hP hS hq => ⟨q, rfl, ⟨_, SqL.of upd_same⟩, fun D hD => ?_⟩⟩
    have sQ : Same H (upd H q (.lst (bs'.map fun b => V.ref b.1))) := same_new hq
    have eq0 : (upd H q (.lst (bs'.map fun b => V.ref b.1))) q = some (.lst (bs'.map fun b => V.ref b.1)) := upd_same
    generalize upd H q (.lst (bs'.map fun b => V.ref b.1)) = HB at sQ eq0 hD
    have eB := sQ _ _ eA
    have bl : bs'.length = es.length := by
      rw [hP.length_eq]
      have := congrArg List.length (paired_keys hK)
      rwa [List.length_map, List.length_map] at this
    refine lc_list (K := K) (a := q) (tt := tTest (tOp rNe (tDGet (tVar 0) (tVar 1)) (tC (V.int 0)))) (xs := bs'.map fun b => V.ref b.1) (fun i H' => ∃ ts : List PrT, H' D = some (.lst (ts.map fun p => V.ref p.t)) ∧ ts.length ≤ i ∧ (∀ p ∈ ts, H' p.t = some (.tup [.ref p.q, p.v]) ∧ H' p.q = some (.tup (p.k.map kV))) ∧ mergeT [] ts = enc (gath es ((bs'.take i).map (·.2))) ∧ Same HB H')
      ⟨[], upd_same, Nat.le_refl _, (fun p h => by cases h), rfl, same_new hD⟩ (fun i H' _ ⟨_, _, _, _, _, z⟩ => SqL.of (z _ _ eq0)) ?_ ?_
    · rintro i x H5 hi ⟨ts, e5, l5, t5, m5, s5⟩
      rw [List.getElem?_map] at hi
      cases eb : bs'[i]? with
      | none => rw [eb] at hi; cases hi
      | some b =>
        rw [eb] at hi
        cases hi
        have hil := (List.getElem?_eq_some_iff.mp eb).1
        have hbm : b ∈ bs := hP.mem_iff.mp (List.mem_of_getElem? eb)
        obtain ⟨e, he0, hp1, hp2⟩ := paired_mem hK hbm
        obtain ⟨e, he, rfl⟩ := List.mem_map.mp he0
        have hee : e.1 = b.2 := inl_inj.mp hp1
        have hke : b.2 ∈ es.map (·.1) := List.mem_map.mpr ⟨e, he, hee⟩
        have s05 := sQ.trans s5
        have g : H5 b.1 = some (.tup ((b.2.map Sum.inl : List Key).map kV)) := by
          rw [List.map_map]
          exact s05 _ _ hp2
        have dg : DGet H5 d (.ref b.1) (some (.int (numO (valV es b.2)))) := by
          have := DGet.t (s5 _ _ eB) g
          rwa [valV_enc, valV_mem hI hke] at this
        have ht : bs'.take (i + 1) = bs'.take i ++ [b] := by rw [List.take_add_one, eb]; rfl
        have hm : (bs'.take (i + 1)).map (·.2) = (bs'.take i).map (·.2) ++ [b.2] := by rw [ht, List.map_append]; rfl
        rw [hm, gath_snoc]
        refine ⟨rfl, ?_⟩
        refine ⟨_, rfl, _, rfl, d, _, rfl, dg, rfl, _, rfl, ite2 (fun c => ?_) (fun c => ?_)⟩
        · have c' : ¬ numO (valV es b.2) = 0 := fun z => by
            have c2 : (!decide (V.int (numO (valV es b.2)) = V.int 0)) = true := c
            rw [z] at c2
            simp at c2
          rw [if_neg c']
          refine ⟨_, rfl, _, rfl, _, rfl, d, _, rfl, dg, (by show 2 ≤ sizeLine; decide), fun tt htt => ?_⟩
          have s7 := same_new (o := .tup [.ref b.1, .int (numO (valV es b.2))]) htt
          refine ⟨_, s7 _ _ e5, by rw [List.length_map]; exact smallB (by omega), ts ++ [⟨tt, b.1, b.2.map Sum.inl, .int (numO (valV es b.2))⟩], ?_, by rw [List.length_append]; exact Nat.succ_le_succ l5, fun p hp => ?_, ?_, fun b' o hb => ?_⟩
          · rw [upd_same, List.map_append]
            rfl
          · have back : ∀ (u : Addr) (o : List V), upd H5 tt (.tup [.ref b.1, .int (numO (valV es b.2))]) u = some (.tup o) → ∀ z, upd (upd H5 tt (.tup [.ref b.1, .int (numO (valV es b.2))])) D (.lst z) u = some (.tup o) := fun u o hu z => by
              have : u ≠ D := fun c => by
                subst c
                rw [s7 _ _ e5] at hu
                cases hu
              rw [upd_ne this]
              exact hu
            rcases List.mem_append.mp hp with hp | hp
            · obtain ⟨a1, a2⟩ := t5 p hp
              exact ⟨back _ _ (s7 _ _ a1) _, back _ _ (s7 _ _ a2) _⟩
            · rw [List.mem_singleton.mp hp]
              exact ⟨back _ _ upd_same _, back _ _ (s7 _ _ g) _⟩
          · have e : mergeT [] (ts ++ [⟨tt, b.1, b.2.map Sum.inl, .int (numO (valV es b.2))⟩]) = putK (mergeT [] ts) (b.2.map Sum.inl) (.int (numO (valV es b.2))) := by
              unfold mergeT
              rw [List.foldl_append]
              rfl
            rw [e, m5, putK_enc]
          · rw [upd_ne (ne_of_none hb hD)]
            exact s7 _ _ (s5 _ _ hb)
        · have c' : numO (valV es b.2) = 0 := by
            have c2 : ¬ (!decide (V.int (numO (valV es b.2)) = V.int 0)) = true := c
            simpa using c2
          rw [if_pos c']
          exact ⟨ts, e5, by omega, t5, m5, s5⟩
    · rintro H5 ⟨ts, e5, l5, t5, m5, s5⟩
      rw [List.length_map, List.take_length] at m5
      have pk : (bs'.map (·.2)).Perm (es.map (·.1)) := by
        rw [← paired_keys hK]
        exact hP.map _
      have sk' : (bs'.map (·.2)).Pairwise (· ≤ ·) := List.pairwise_map.mpr hS
      have s05 : Same H H5 := sQ.trans s5
      refine ⟨D, ts, rfl, SqL.of e5, fun p hp => ⟨SqT.of (t5 p hp).1, (t5 p hp).2⟩, fun dd hdd => ?_⟩
      refine k dd _ _ (same_none s05 hdd) (s05.trans (same_new hdd)) pk sk' ?_
      rw [upd_same, m5]
def spSameD : Sp := fun vs H Q _ => ∃ (a b : Addr) (G : List (List Int × Int)) (k : Nat), vs = [.ref a, .ref b] ∧ Rd H a (.dT (dtK G)) ∧ H a = some (.dT (dtK G)) ∧ Rd H b (.dT (dtK G)) ∧ Sy 2 k (dtD G) ∧ k ≤ 690000 ∧ Q (.bl true) H
theorem ok_l_same_dict (T : Txt K mg) : FnG P w K mg base CX0 1 T.l_same_dict.a T.l_same_dict.fd ["found", "due"] spSameD := by
  refine FunG T.l_same_dict.F sc_l_same_dict (fun vs H Q E h => ?_) (fun cdv A outer s H vs Q E hg hr h => ?_)
  · obtain ⟨a, b, G, k, rfl, _⟩ := h
    rfl
  · obtain ⟨a, b, G, m, rfl, ha, ha2, hb, sz, hm, k⟩ := h
    have nd := sc_l_same_dict.nd
    have hu := hu_of hr
    refine ⟨_, (pss_one (ps_ret (pe_and (pe_callB call_isA (by rfl) T.zisinstance (by decide +kernel) (pa_cons (pv 0) (pa_cons (pe_bltn (v := .ty "dict") (by rfl) T.zdict (by decide +kernel) rfl) pa_nil))) (pe_one (pe_cmpR op_eq (pe_callB (call_showQ hg hr.units) (by rfl) T.zrepr (by decide +kernel) (pa_cons (pv 0) pa_nil)) (pe_callB (call_showQ hg hr.units) (by rfl) T.zrepr (by decide +kernel) (pa_cons (pv 1) pa_nil)) (nomark _)))))), ?_⟩
    refine ⟨_, rfl, tC_i (nil_i (.inr ⟨_, _, _, _, true, rfl, .ty _, .base (.dT ha2), T.kDD, _, rfl, iteT ?_⟩))⟩
    refine ⟨_, rfl, a, _, rfl, RdQ.dT ha, sz.sh, Nat.le_trans sz.dp (by decide), sz.fits hm, ?_⟩
    refine ⟨_, rfl, b, _, rfl, RdQ.dT hb, sz.sh, Nat.le_trans sz.dp (by decide), sz.fits hm, ?_⟩
    refine ⟨rfl, ?_⟩
    have e : decide (V.str (dtD G).shown = V.str (dtD G).shown) = true := decide_eq_true rfl
    show Q (V.bl (decide (V.str (dtD G).shown = V.str (dtD G).shown))) H
    rw [e]
    exact k
def spWeightL : Sp := fun vs H Q _ => ∃ (d : Addr) (es : List (List Int × Int)), vs = [.ref d] ∧ H d = some (.dT (enc (toV es))) ∧ (es.map (·.1)).Nodup ∧ es.length ≤ 1000 ∧ ∀ H', Same H H' → Q (.int (weightOf es)) H'
theorem ok_l_weight (T : Txt K mg) : FnOk P w K mg base CX0 1 T.l_weight.a T.l_weight.fd ["book"] spWeightL := by
  refine T.l_weight.F.ok sc_l_weight (fun vs H Q E h => ?_) (fun cdv A outer s H vs Q E hr h => ?_)
  · obtain ⟨d, es, rfl, _⟩ := h
    rfl
  · obtain ⟨a, es, rfl, ha, ndp, few, k⟩ := h
    have nd := sc_l_weight.nd
    have hu := hu_of hr
    refine ⟨_, (pss_one (ps_ret (pe_callB (cr_sum rfl) (by rfl) T.zsum (by decide +kernel) (pa_cons (pe_lock (pe_lc (own := [("key", 1)]) (g := gName 1) rfl nd (pi_keys (pv 0)) (blkOk_by (own := [("key", 1)]) (N := N_l_weight) (sc := defScope s_l_weight) (by decide +kernel)) (fun _ _ _ _ _ => pg_name (i := 1) nd rfl (Or.inl rfl)) (fun _ _ _ _ _ => pts_nil) (fun _ _ _ _ _ => (pe_callB call_abs (by rfl) T.zabs (by decide +kernel) (pa_cons (pe_dget hu (pv 0) (pv 1) (fun _ _ => rfl)) pa_nil))))) pa_nil)))), ?_⟩
    have le : es.length = (enc (toV es)).length := by rw [enc_len]; unfold toV; rw [List.length_map]
    refine ⟨a, _, ha, mutT, fun od => ⟨_, rfl, a, od, rfl, .inr ⟨_, upd_same, fun D hD => lc_itF walk_keysT hD (fun i => .int (match es[i]? with | some e => absV e.2 | none => 0)) (by omega) (fun H2 s2 => s2 _ _ upd_same) ?_ ?_⟩⟩⟩
    · rintro i x H2 H3 hi s2 ⟨rfl, k', v, q, hk, rfl, hq⟩ R Rn kR
      obtain ⟨e, he, rfl, hkn⟩ := enc_toV hk
      refine ⟨rfl, yes_t ?_⟩
      rw [he] at kR
      have hv : valV (enc (toV es)) k' = some (.int e.2) := by
        have ek : k' = e.1.map Sum.inl := by
          obtain ⟨ns, h1, h2⟩ := enc_at hk
          unfold enc at hk
          rw [List.getElem?_map, h1] at hk
          have h3 : (ns.map Sum.inl : List Key) = k' := (congrArg Prod.fst (Option.some.inj hk))
          unfold toV at h1
          rw [List.getElem?_map, he] at h1
          have h4 : e.1 = ns := congrArg Prod.fst (Option.some.inj h1)
          rw [← h3, h4]
        rw [ek, valV_enc]
        exact val_toV ndp (List.mem_of_getElem? he)
      refine ⟨_, rfl, _, rfl, a, _, rfl, .inr ⟨_, _, q, .inr ⟨od, s2 _ _ upd_same⟩, rfl, hq, hv.symm⟩, nil_i ⟨_, rfl, kR _ fun _ _ z => z⟩⟩
    · rintro H2 s2 e2
      have nDa : D ≠ a := fun z => by
        subst z
        rw [upd_same] at hD
        cases hD
      have e3 : (List.range (enc (toV es)).length).map (fun i => V.int (match es[i]? with | some e => absV e.2 | none => 0)) = (es.map fun e => absV e.2).map V.int := by
        rw [← le]
        refine List.ext_getElem? fun i => ?_
        rw [List.getElem?_map, List.map_map, List.getElem?_map]
        by_cases c : i < es.length
        · rw [List.getElem?_range c, List.getElem?_eq_getElem c]
          simp [List.getElem?_eq_getElem c]
        · rw [List.getElem?_eq_none (by rw [List.length_range]; omega), List.getElem?_eq_none (by omega)]
          rfl
      rw [e3] at e2
      have sb := same_lock ha s2
      have e4 : upd H2 a (.dT (enc (toV es))) D = some (.lst ((es.map fun e => absV e.2).map V.int)) := by
        rw [upd_ne nDa]
        exact e2
      refine ⟨s2 _ _ upd_same, nil_i ⟨D, es.map fun e => absV e.2, rfl, SqL.of e4, ?_⟩⟩
      exact k _ sb
end
end Tt
set_option maxRecDepth 100000
set_option maxHeartbeats 4000000
namespace Tt
open PySem L2
theorem sub_len {α : Type} [DecidableEq α] : ∀ {l m : List α}, l.Nodup → (∀ x ∈ l, x ∈ m) → l.length ≤ m.length
  | [], _, _, _ => Nat.zero_le _
  | a :: l, m, nd, h => by
    have nd' := List.nodup_cons.mp nd
    have ha := h a (List.mem_cons_self ..)
    have := sub_len (l := l) (m := m.erase a) nd'.2 fun x hx => (List.mem_erase_of_ne (fun e => nd'.1 (by rw [← e]; exact hx))).mpr (h x (List.mem_cons_of_mem _ hx))
    rw [List.length_erase_of_mem ha] at this
    have l0 : 0 < m.length := List.length_pos_of_mem ha
    rw [List.length_cons]
    omega
def tW (ws : List (List Int)) : List (List Int × V) := ws.map fun w => (w, V.bl true)
def addW (ws : List (List Int)) (w : List Int) : List (List Int) := if w ∈ ws then ws else ws ++ [w]
theorem putK_tW (ws : List (List Int)) (w : List Int) : putK (enc (tW ws)) (w.map Sum.inl) (.bl true) = enc (tW (addW ws w)) := by
  rw [putK_enc]
  refine congrArg enc ?_
  have ha : ((tW ws).any fun kv => decide (kv.1 = w)) = decide (w ∈ ws) := by
    unfold tW
    rw [List.any_map]
    by_cases c : w ∈ ws
    · rw [decide_eq_true c]
      exact List.any_eq_true.mpr ⟨w, c, decide_eq_true rfl⟩
    · rw [decide_eq_false c]
      refine List.any_eq_false.mpr fun x hx z => c ?_
      have : x = w := of_decide_eq_true z
      rw [← this]
      exact hx
  unfold putK addW
  rw [ha]
  by_cases c : w ∈ ws
  · rw [decide_eq_true c, if_pos rfl, if_pos c]
    unfold tW
    rw [List.map_map]
    refine List.map_congr_left fun x _ => ?_
    show (if x = w then _ else _) = _
    split <;> rfl
  · rw [decide_eq_false c, if_neg (by simp), if_neg c]
    unfold tW
    rw [List.map_append]
    rfl
structure Rnds (b : Nat) (ws : List (List Int)) : Prop where
  nd : ws.Nodup
  rd : ∀ y ∈ ws, Rnd y ∧ y.length ≤ 40 ∧ ∀ x ∈ y, 0 ≤ x ∧ x < 2 * (b : Int)
theorem Rnds.add {b : Nat} {ws : List (List Int)} (h : Rnds b ws) {w : List Int} (r : Rnd w) (l : w.length ≤ 40) (lt : ∀ x ∈ w, 0 ≤ x ∧ x < 2 * (b : Int)) : Rnds b (addW ws w) := by
  unfold addW
  by_cases c : w ∈ ws
  · rw [if_pos c]
    exact h
  · rw [if_neg c]
    refine ⟨?_, fun y hy => ?_⟩
    · rw [List.nodup_append]
      refine ⟨h.nd, by simp, fun a ha z hz => ?_⟩
      rw [List.mem_singleton.mp hz]
      rintro rfl
      exact c ha
    · rcases List.mem_append.mp hy with hy | hy
      · exact h.rd y hy
      · rw [List.mem_singleton.mp hy]
        exact ⟨r, l, lt⟩
theorem addW_len (ws : List (List Int)) (w : List Int) : (addW ws w).length ≤ ws.length + 1 := by
  unfold addW
  split
  · omega
  · rw [List.length_append]
    exact Nat.le_refl _
theorem addW_mem (ws : List (List Int)) (w : List Int) : w ∈ addW ws w := by
  unfold addW
  split
  · assumption
  · exact List.mem_append_right _ (List.mem_singleton.mpr rfl)
theorem addW_sub (ws : List (List Int)) (w : List Int) : ∀ y ∈ ws, y ∈ addW ws w := fun y hy => by
  unfold addW
  split
  · exact hy
  · exact List.mem_append_left _ hy
theorem mate_ne (x : Int) : x ≠ Wd.mate x := by
  unfold Wd.mate
  split <;> omega
theorem rep_rnd {s : Nat} (j : Int) (h : 1 ≤ s) : Rnd (List.replicate s j) := by
  have rd : ∀ n, Wd.Rd (List.replicate n j) := fun n i a c ha hc => by
    have h1 := List.eq_of_mem_replicate (List.mem_of_getElem? ha)
    have h2 := List.eq_of_mem_replicate (List.mem_of_getElem? hc)
    rw [h1, h2]
    exact mate_ne j
  have ne : List.replicate s j ≠ [] := fun z => by
    have := congrArg List.length z
    rw [List.length_replicate, List.length_nil] at this
    omega
  refine rnd_mk ne ?_ fun y hy => ?_
  · unfold Wd.CR
    rw [List.replicate_append_replicate]
    exact rd _
  · have : y = List.replicate s j := by
      have hl := Wd.turn_len hy
      rw [List.length_replicate] at hl
      refine List.eq_replicate_iff.mpr ⟨hl.symm, fun x hx => ?_⟩
      exact List.eq_of_mem_replicate (turn_mem hy hx)
    rw [this]
    exact List.lt_irrefl _
section
variable {P : Program} {w : World} {K : PySem.W.Frag} {mg : Str → Option Value} {base : Heap}
def WsAt (H : Hp) (l : Addr) (ws : List (List Int)) : Prop := ∃ qs : List Addr, H l = some (.lst (qs.map V.ref)) ∧ qs.length = ws.length ∧ ∀ (i : Nat) (q : Addr) (y : List Int), qs[i]? = some q → ws[i]? = some y → H q = some (.tup (y.map V.int))
def spNumbered : Sp := fun vs H Q _ => ∃ (D : Dw) (l : Addr) (ws : List (List Int)), vs = [.ref D.d, .ref l] ∧ WsAt H l ws ∧ Off D l ∧ ws.Nodup ∧ ws.length ≤ 500 ∧ DrOk D H ∧
  ∀ (es : List (List Int × Int)) d H', DrOk D H' → Kp D H H' → H d = none → Off D d → H' d = some (.dT (enc (toV es))) → es.map (·.1) = ws → (∀ e ∈ es, e.2 ≠ 0 ∧ -1000000000 ≤ e.2 ∧ e.2 ≤ 1000000000) → Q (.ref d) H'
theorem putN_new {es : List (List Int × Int)} {k : List Int} (n : Int) (h : k ∉ es.map (·.1)) : putN es k n = es ++ [(k, n)] := by
  unfold putN
  rw [if_neg]
  intro z
  obtain ⟨x, hx, e⟩ := List.any_eq_true.mp z
  exact h (List.mem_map.mpr ⟨x, hx, of_decide_eq_true e⟩)
theorem ok_l_numbered (T : Txt K mg) : FnOk P w K mg base CX0 4 T.l_numbered.a T.l_numbered.fd ["draw", "loops"] spNumbered := by
  refine T.l_numbered.F.ok sc_l_numbered (fun vs H Q E h => ?_) (fun cdv A outer s H vs Q E hr h => ?_)
  · obtain ⟨D, l, ws, rfl, _⟩ := h
    rfl
  · obtain ⟨D, l, ws, rfl, ⟨qs, hl, lq, tq⟩, ol, ndw, few, dr, k⟩ := h
    have nd := sc_l_numbered.nd
    have hu := hu_of hr
    refine ⟨_, (pss_cons (ps_set (i := 2) nd rfl (Or.inl rfl) pe_dnewT)
    (pss_cons (ps_for PassesOwn.never rfl (pi_list (pv 1)) (pg_name (i := 3) nd rfl (Or.inl rfl))
      (pss_cons (ps_set (i := 4) nd rfl (Or.inl rfl) (pe_call (ok_l_pick T) (hr.mono (by decide)) (by rfl) T.l_pick.g T.l_pick.k T.l_pick.b .nil pass0 (pa_cons (pv 0) (pa_cons (pe_lst (pa_cons pe_int (pa_cons pe_int (pa_cons (pe_op op_pow pe_int pe_int) (pa_cons (pe_op op_add pe_int (pe_call (ok_l_take T) (hr.mono (by decide)) (by rfl) T.l_take.g T.l_take.k T.l_take.b .nil pass0 (pa_cons (pv 0) (pa_cons (pe_op op_pow pe_int pe_int) pa_nil)))) pa_nil))))) pa_nil))))
      (pss_one (ps_dput hu (pv 2) (pv 3) (pe_ifExp (pt_cmpR op_eq (pe_call (ok_l_take T) (hr.mono (by decide)) (by rfl) T.l_take.g T.l_take.k T.l_take.b .nil pass0 (pa_cons (pv 0) (pa_cons pe_int pa_nil))) pe_int (nomark _)) (pv 4) (pe_op op_sub pe_int (pv 4))) rfl))))
    (pss_one (ps_ret (pv 2))))), ?_⟩
    refine fun d hd => ?_
    have s1 := same_new (o := .dT []) hd
    have od := dr.off hd
    refine ⟨_, rfl, l, rfl, ⟨_, SqL.of (s1 _ _ hl)⟩, ?_⟩
    refine for_list (K := K) (a := l) (xs := qs.map V.ref) (fun i σ H' => ∃ (es : List (List Int × Int)) (v3 v4 : Option V), σ = [some (.ref D.d), some (.ref l), some (.ref d), v3, v4] ∧ DrOk D H' ∧ Kp D H H' ∧ H' d = some (.dT (enc (toV es))) ∧ es.map (·.1) = ws.take i ∧ (∀ e ∈ es, e.2 ≠ 0 ∧ -1000000000 ≤ e.2 ∧ e.2 ≤ 1000000000))
      ⟨[], _, _, rfl, dr.same s1, Kp.of s1, upd_same, rfl, fun e h => by cases h⟩ (fun i σ H' _ ⟨_, _, _, _, _, kp, _⟩ => SqL.of (kp.at ol hl)) ?_ ?_
    · rintro i x σ H2 hi ⟨es, v3, v4, rfl, d2, k2, e2, ek, nm⟩
      rw [List.getElem?_map] at hi
      cases eq : qs[i]? with
      | none => rw [eq] at hi; cases hi
      | some q =>
      rw [eq] at hi
      cases hi
      have hil := (List.getElem?_eq_some_iff.mp eq).1
      have hw : ws[i]? = some ws[i] := List.getElem?_eq_getElem (by omega)
      have hq := dr.tup k2 (tq i q _ eq hw)
      refine sqn ⟨_, rfl, ?_⟩
      refine tcn (tlst (tcn (tC_i (tcn (tC_i ?_)))))
      refine tcn ⟨_, _, rfl, rfl, ⟨by decide, by decide, by decide⟩, ?_⟩
      refine tcn (tC_i ⟨_, rfl, _, _, rfl, rfl, ⟨by decide, by decide, by decide⟩, nil_i ⟨D, 1000000000, rfl, by decide, by decide, d2, fun t H3 t0 t1 d3 k3 => ?_⟩⟩)
      refine rI0_add (v := 1 + t) rfl (nil_i ⟨(by show 4 ≤ sizeLine; decide), fun l4 hl4 => nil_i ?_⟩)
      have s4 := same_new (o := .lst [V.int 1, .int 2, .int (10 ^ (9 : Int).toNat), .int (1 + t)]) hl4
      have ol4 := d3.off hl4
      refine ⟨D, l4, _, rfl, .inl (SqL.of upd_same), ol4.2.1, by simp, (by show 4 < 1073741824; decide), d3.same s4, fun i5 x H5 hx d5 k5 => ?_⟩
      obtain ⟨n, rfl, n0, n1⟩ : ∃ n : Int, x = .int n ∧ 1 ≤ n ∧ n ≤ 1000000000 := by
        have := List.mem_of_getElem? hx
        simp only [List.mem_cons, List.not_mem_nil, or_false] at this
        rcases this with rfl | rfl | rfl | rfl
        · exact ⟨_, rfl, by decide, by decide⟩
        · exact ⟨_, rfl, by decide, by decide⟩
        · exact ⟨_, rfl, by decide, by decide⟩
        · exact ⟨_, rfl, by omega, by omega⟩
      have k25 : Kp D H2 H5 := (k3.trans (Kp.of s4)).trans k5
      have e5 := k25.at od e2
      have q5 := d2.tup k25 hq
      have k05 := k2.trans k25
      clear hx k5 k3 s4 ol4 hl4 d3 k25 t0 t1
      have fin : ∀ (m : Int) (H6 : Hp), m ≠ 0 → -1000000000 ≤ m → m ≤ 1000000000 → DrOk D H6 → Kp D H5 H6 → ∃ H7 : Hp, H7 = upd H6 d (.dT (putK (enc (toV es)) (ws[i].map Sum.inl) (.int m))) ∧ DrOk D H7 ∧ Kp D H H7 ∧ H7 d = some (.dT (enc (toV (es ++ [(ws[i], m)])))) ∧ (es ++ [(ws[i], m)]).map (·.1) = ws.take (i + 1) ∧ (∀ e ∈ es ++ [(ws[i], m)], e.2 ≠ 0 ∧ -1000000000 ≤ e.2 ∧ e.2 ≤ 1000000000) := fun m H6 m0 m1 m2 d6 k6 => by
        have nin : ws[i] ∉ es.map (·.1) := fun z => by
          rw [ek] at z
          obtain ⟨j, hj⟩ := List.getElem?_of_mem z
          rw [List.getElem?_take] at hj
          split at hj
          · rename_i c
            have := (List.getElem?_inj (by omega) ndw).mp (hj.trans hw.symm)
            omega
          · cases hj
        refine ⟨_, rfl, d6.put od, fun b o hb z1 z2 => ?_, ?_, ?_, fun e he => ?_⟩
        · rw [upd_ne (ne_of_none hb hd)]
          exact k6 b o (k05 b o hb z1 z2) z1 z2
        · rw [upd_same, putK_enc, putK_toV, putN_new m nin]
        · rw [List.map_append, ek, List.take_add_one, hw]
          rfl
        · rcases List.mem_append.mp he with he | he
          · exact nm e he
          · rw [List.mem_singleton.mp he]
            exact ⟨m0, m1, m2⟩
      have les : es.length ≤ 500 := by
        have := congrArg List.length ek
        rw [List.length_map, List.length_take] at this
        omega
      have lt : (enc (toV es)).length < sizeLine := by
        rw [enc_len]
        show (toV es).length < _
        unfold toV
        rw [List.length_map]
        exact smallB (by omega)
      have key : ∀ H6, Kp D H5 H6 → H6 q = some (.tup ((ws[i].map Sum.inl : List Key).map kV)) := fun H6 k6 => by
        rw [List.map_map]
        exact d5.tup k6 q5
      refine ⟨_, rfl, tC_i (nil_i ⟨D, 2, rfl, by decide, by decide, d5, fun t6 H6 _ _ d6 k6 => ?_⟩)⟩
      have e6 := k6.at od e5
      refine tC_i ⟨rfl, _, rfl, ite2 (fun c => ?_) (fun c => ?_)⟩
      · obtain ⟨H7, e7, a1, a2, a3, a4, a5⟩ := fin n H6 (by omega) (by omega) (by omega) d6 k6
        refine ⟨_, rfl, _, rfl, _, rfl, d, _, rfl, DPut.t e6 (key H6 k6) lt, ?_⟩
        rw [← e7]
        exact ⟨_, _, _, rfl, a1, a2, a3, a4, a5⟩
      · obtain ⟨H7, e7, a1, a2, a3, a4, a5⟩ := fin (0 - n) H6 (by omega) (by omega) (by omega) d6 k6
        refine tC_i ⟨_, rfl, rI0_sub (v := 0 - n) rfl ?_⟩
        refine ⟨_, rfl, _, rfl, d, _, rfl, DPut.t e6 (key H6 k6) lt, ?_⟩
        rw [← e7]
        exact ⟨_, _, _, rfl, a1, a2, a3, a4, a5⟩
    · rintro σ H2 ⟨es, v3, v4, rfl, d2, k2, e2, ek, nm⟩
      rw [List.length_map, lq, List.take_length] at ek
      exact ⟨_, rfl, k es d H2 d2 k2 hd od e2 ek nm⟩
theorem perm_mapV {α β : Type} {f : α → β} : ∀ {l : List α} {ys : List β}, ys.Perm (l.map f) → ∃ cs : List α, cs.Perm l ∧ ys = cs.map f
  | [], ys, h => ⟨[], .refl _, by rw [List.map_nil] at h; exact h.eq_nil⟩
  | a :: l, ys, h => by
    have hm : f a ∈ ys := h.mem_iff.mpr (List.mem_cons_self ..)
    obtain ⟨u, v, rfl⟩ := List.append_of_mem hm
    have h2 : (u ++ v).Perm (l.map f) := by
      have := (List.perm_middle (a := f a) (l₁ := u) (l₂ := v)).symm.trans h
      exact (List.perm_cons (f a)).mp this
    obtain ⟨cs, pc, e⟩ := perm_mapV h2
    obtain ⟨c1, c2, rfl, rfl, rfl⟩ := List.append_eq_map_iff.mp e
    exact ⟨c1 ++ a :: c2, (List.perm_middle).trans (pc.cons a), by rw [List.map_append, List.map_cons]⟩
theorem knone {D : Dw} {H H1 H2 : Hp} {r : Addr} (d1 : DrOk D H1) (k : Kp D H H1) (s : Same H1 H2) (h : H2 r = none) : H r = none := by
  have o := (d1.same s).off h
  cases e : H r with
  | none => rfl
  | some u =>
    have := s _ _ (k r u e o.1 o.2.1)
    rw [h] at this
    cases this
def spUnlike : Sp := fun vs H Q _ => ∃ (D : Dw) (b m : Nat), vs = [.ref D.d, .int (b : Int), .int (m : Int)] ∧ 1 ≤ b ∧ b ≤ 6 ∧ m ≤ 79 ∧ DrOk D H ∧
  ∀ (ws : List (List Int)) l H', DrOk D H' → Kp D H H' → H l = none → Off D l → WsAt H' l ws → ws.length = m → Rnds b ws → Q (.ref l) H'
def Tried (ws : List (List Int)) (i k : Nat) : Prop := (∀ j s : Nat, j < i → 1 ≤ s → s ≤ 40 → List.replicate s (j : Int) ∈ ws) ∧ ∀ s : Nat, 1 ≤ s → s ≤ k → List.replicate s (i : Int) ∈ ws
theorem tried_all {ws : List (List Int)} {b : Nat} (hb : 1 ≤ b) (h : Tried ws (2 * b) 0) : 80 ≤ ws.length := by
  let all : List (List Int) := ((List.range 40).map fun s => List.replicate (s + 1) (0 : Int)) ++ ((List.range 40).map fun s => List.replicate (s + 1) (1 : Int))
  have la : all.length = 80 := by
    show (((List.range 40).map fun s => List.replicate (s + 1) (0 : Int)) ++ ((List.range 40).map fun s => List.replicate (s + 1) (1 : Int))).length = 80
    rw [List.length_append, List.length_map, List.length_map, List.length_range]
  have nd : all.Nodup := by
    show (((List.range 40).map fun s => List.replicate (s + 1) (0 : Int)) ++ ((List.range 40).map fun s => List.replicate (s + 1) (1 : Int))).Nodup
    decide +kernel
  rw [← la]
  refine sub_len nd fun x hx => ?_
  rcases List.mem_append.mp hx with hx | hx
  · obtain ⟨s, hs, rfl⟩ := List.mem_map.mp hx
    have := List.mem_range.mp hs
    exact h.1 0 (s + 1) (by omega) (by omega) (by omega)
  · obtain ⟨s, hs, rfl⟩ := List.mem_map.mp hx
    have := List.mem_range.mp hs
    exact h.1 1 (s + 1) (by omega) (by omega) (by omega)
theorem ok_l_unlike_rounds (T : Txt K mg) : FnOk P w K mg base CX0 6 T.l_unlike_rounds.a T.l_unlike_rounds.fd ["draw", "bands", "many"] spUnlike := by
  refine T.l_unlike_rounds.F.ok sc_l_unlike_rounds (fun vs H Q E h => ?_) (fun cdv A outer s H vs Q E hr h => ?_)
  · obtain ⟨D, b, m, rfl, _⟩ := h
    rfl
  · obtain ⟨D, b, m, rfl, b1, b6, m79, dr, k⟩ := h
    have nd := sc_l_unlike_rounds.nd
    have hu := hu_of hr
    refine ⟨_, (pss_cons (ps_set (i := 3) nd rfl (Or.inl rfl) pe_dnewT)
    (pss_cons (ps_for PassesOwn.never rfl (pi_range1 rfl T.zrange (pa_cons pe_int pa_nil)) (pg_name (i := 4) nd rfl (Or.inl rfl))
      (pss_one (ps_if (pt_cmpR op_lt (pe_callB call_len_dT (by rfl) T.zlen (by decide +kernel) (pa_cons (pv 3) pa_nil)) (pv 2) (nomark _))
        (pss_one (ps_dput hu (pv 3) (pe_call (ok_l_any_round T) (hr.mono (by decide)) (by rfl) T.l_any_round.g T.l_any_round.k T.l_any_round.b .nil pass0 (pa_cons (pv 0) (pa_cons (pv 1) (pa_cons (pe_call (ok_l_pick T) (hr.mono (by decide)) (by rfl) T.l_pick.g T.l_pick.k T.l_pick.b .nil pass0 (pa_cons (pv 0) (pa_cons (pe_lst (pa_cons pe_int (pa_cons pe_int (pa_cons pe_int pa_nil)))) pa_nil))) pa_nil)))) pe_bl rfl))
        pss_nil)))
    (pss_cons (ps_for PassesOwn.never rfl (pi_range1 rfl T.zrange (pa_cons (pe_op op_mul pe_int (pv 1)) pa_nil)) (pg_name (i := 5) nd rfl (Or.inl rfl))
      (pss_one (ps_for PassesOwn.never rfl (pi_range2 rfl T.zrange (pa_cons pe_int (pa_cons pe_int pa_nil))) (pg_name (i := 6) nd rfl (Or.inl rfl))
        (pss_one (ps_if (pt_cmpR op_lt (pe_callB call_len_dT (by rfl) T.zlen (by decide +kernel) (pa_cons (pv 3) pa_nil)) (pv 2) (nomark _))
          (pss_one (ps_dput hu (pv 3) (pe_op op_repA (pe_tup (pa_cons (pv 5) pa_nil)) (pv 6)) pe_bl rfl))
          pss_nil)))))
    (pss_one (ps_ret (pe_call (ok_l_shuffled T) (hr.mono (by decide)) (by rfl) T.l_shuffled.g T.l_shuffled.k T.l_shuffled.b .nil pass0 (pa_cons (pv 0) (pa_cons (pe_callB (cr_sortedDT rfl hr.units) (by rfl) T.zsorted (by decide +kernel) (pa_cons (pv 3) pa_nil)) pa_nil)))))))), ?_⟩
    refine fun d hd => ?_
    have s1 := same_new (o := .dT []) hd
    have od := dr.off hd
    have put : ∀ H6, Kp D H H6 → ∀ o, Kp D H (upd H6 d o) := fun H6 k6 o b' u hb z1 z2 => by
      rw [upd_ne (ne_of_none hb hd)]
      exact k6 b' u hb z1 z2
    have lenW : ∀ ws : List (List Int), (enc (tW ws)).length = ws.length := fun ws => by rw [enc_len]; exact List.length_map ..
    refine sqn ⟨400, rfl, by decide, by decide, ?_⟩
    refine for_range (n := 400) (fun i σ H' => ∃ (ws : List (List Int)) (v4 v5 v6 : Option V), σ = [some (.ref D.d), some (.int (b : Int)), some (.int (m : Int)), some (.ref d), v4, v5, v6] ∧ DrOk D H' ∧ Kp D H H' ∧ H' d = some (.dT (enc (tW ws))) ∧ Rnds b ws ∧ ws.length ≤ m)
      ⟨[], _, _, _, rfl, dr.same s1, Kp.of s1, upd_same, ⟨List.nodup_nil, fun y hy => by cases hy⟩, Nat.zero_le _⟩ ?_ ?_
    · rintro i σ H2 hi ⟨ws, v4, v5, v6, rfl, d2, k2, e2, rw2, lm⟩
      refine ⟨_, rfl, d, _, rfl, e2, _, rfl, _, _, rfl, rfl, _, rfl, ?_⟩
      rw [lenW]
      refine ite2 (fun c => ?_) (fun c => ⟨ws, _, _, _, rfl, d2, k2, e2, rw2, lm⟩)
      have c' : ws.length < m := by
        have : (ws.length : Int) < (m : Int) := by simpa using c
        omega
      refine tC_i ⟨_, rfl, ?_⟩
      refine tcn ⟨_, rfl, tcn ⟨_, rfl, tcn ⟨_, rfl, (by show 3 ≤ sizeLine; decide), fun l3 hl3 => nil_i ?_⟩⟩⟩
      have s3 := same_new (o := .lst [V.int 3, .int 8, .int 40]) hl3
      have ol3 := d2.off hl3
      refine ⟨D, l3, _, rfl, .inl (SqL.of upd_same), ol3.2.1, by simp, (by show 3 < 1073741824; decide), d2.same s3, fun i4 x H4 hx d4 k4 => nil_i ?_⟩
      obtain ⟨most, rfl, m1, m40⟩ : ∃ most : Nat, x = .int (most : Int) ∧ 1 ≤ most ∧ most ≤ 40 := by
        have := List.mem_of_getElem? hx
        simp only [List.mem_cons, List.not_mem_nil, or_false] at this
        rcases this with rfl | rfl | rfl
        · exact ⟨3, rfl, by omega, by omega⟩
        · exact ⟨8, rfl, by omega, by omega⟩
        · exact ⟨40, rfl, by omega, by omega⟩
      refine ⟨D, b, most, rfl, b1, b6, m1, m40, d4, fun ns q H5 rnd l40 lt d5 k5 hq => ?_⟩
      have k25 : Kp D H2 H5 := ((Kp.of s3).trans k4).trans k5
      have e5 := k25.at od e2
      have hq' : H5 q = some (.tup ((ns.map Sum.inl : List Key).map kV)) := by
        rw [List.map_map]
        exact hq
      refine ⟨d, _, rfl, DPut.t e5 hq' (by rw [lenW]; exact smallB (by omega)), addW ws ns, _, _, _, rfl, d5.put od, put _ (k2.trans k25) _, by rw [upd_same, putK_tW], rw2.add rnd l40 lt, ?_⟩
      have := addW_len ws ns
      omega
    · rintro σ H2 ⟨ws, v4, v5, v6, rfl, d2, k2, e2, rw2, lm⟩
      refine sqn ⟨_, rfl, _, _, rfl, rfl, .inl ⟨by decide, by decide⟩, nil_i ⟨_, rfl, by omega, by omega, ?_⟩⟩
      refine for_range (lo := 0) (n := (2 * (b : Int)).toNat) (fun i σ H' => ∃ (ws : List (List Int)) (v4 v5 v6 : Option V), σ = [some (.ref D.d), some (.int (b : Int)), some (.int (m : Int)), some (.ref d), v4, v5, v6] ∧ DrOk D H' ∧ Kp D H H' ∧ H' d = some (.dT (enc (tW ws))) ∧ Rnds b ws ∧ ws.length ≤ m ∧ (ws.length = m ∨ Tried ws i 0))
        ⟨ws, _, _, _, rfl, d2, k2, e2, rw2, lm, .inr ⟨(fun j s hj => by omega), fun s h1 h2 => by omega⟩⟩ ?_ ?_
      · rintro i σ H3 hi ⟨ws, v4, v5, v6, rfl, d3, k3, e3, rw3, lm, tr⟩
        rw [Int.zero_add]
        have il : i < 2 * b := by omega
        refine ⟨1, 41, rfl, ⟨by decide, by decide, by decide, by decide⟩, ?_⟩
        refine for_range (lo := 1) (n := ((41 : Int) - 1).toNat) (fun k σ H' => ∃ (ws : List (List Int)) (v6 : Option V), σ = [some (.ref D.d), some (.int (b : Int)), some (.int (m : Int)), some (.ref d), v4, some (.int (i : Int)), v6] ∧ DrOk D H' ∧ Kp D H H' ∧ H' d = some (.dT (enc (tW ws))) ∧ Rnds b ws ∧ ws.length ≤ m ∧ (ws.length = m ∨ Tried ws i k))
          ⟨ws, _, rfl, d3, k3, e3, rw3, lm, tr⟩ ?_ ?_
        · clear e3 rw3 lm tr d3 k3 v6 ws
          rintro n σ H3 hn ⟨ws, v6, rfl, d3, k3, e3, rw3, lm, tr⟩
          have n40 : n < 40 := hn
          refine ⟨_, rfl, d, _, rfl, e3, _, rfl, _, _, rfl, rfl, _, rfl, ?_⟩
          rw [lenW]
          refine ite2 (fun c => ?_) (fun c => ⟨ws, _, rfl, d3, k3, e3, rw3, lm, .inl ?_⟩)
          · have c' : ws.length < m := by
              have : (ws.length : Int) < (m : Int) := by simpa using c
              omega
            have tr' : Tried ws i n := by
              rcases tr with z | z
              · omega
              · exact z
            refine tC_i ⟨_, rfl, ?_⟩
            refine ⟨_, rfl, (by show 1 ≤ sizeLine; decide), fun u hu1 => ⟨_, rfl, ?_⟩⟩
            have s4 := same_new (o := .tup [V.int (i : Int)]) hu1
            refine repK (K := K) (xs := [V.int (i : Int)]) upd_same (by simp) (by omega) (by omega) (by simp) fun q H5 s5 hq => ?_
            have en : (1 + (n : Int)).toNat = n + 1 := by omega
            have er : (List.replicate (1 + (n : Int)).toNat [V.int (i : Int)]).flatten = ((List.replicate (n + 1) (i : Int)).map V.int) := by
              rw [en, List.map_replicate]
              have : ∀ m : Nat, (List.replicate m [V.int (i : Int)]).flatten = List.replicate m (V.int (i : Int)) := fun m => by
                induction m with
                | zero => rfl
                | succ m ih => rw [List.replicate_succ, List.flatten_cons, ih]; rfl
              exact this _
            rw [er] at hq
            have s35 := s4.trans s5
            have e5 := s35 _ _ e3
            have hq' : H5 q = some (.tup (((List.replicate (n + 1) (i : Int)).map Sum.inl : List Key).map kV)) := by
              rw [List.map_map]
              exact hq
            refine ⟨d, _, rfl, DPut.t e5 hq' (by rw [lenW]; exact smallB (by omega)), addW ws (List.replicate (n + 1) (i : Int)), _, rfl, (d3.same s35).put od, put _ (k3.trans (Kp.of s35)) _, by rw [upd_same, putK_tW], rw3.add (rep_rnd _ (by omega)) (by rw [List.length_replicate]; omega) (fun x hx => by rw [List.eq_of_mem_replicate hx]; omega), ?_, .inr ⟨fun j s hj h1 h2 => addW_sub _ _ _ (tr'.1 j s hj h1 h2), fun s h1 h2 => ?_⟩⟩
            · have := addW_len ws (List.replicate (n + 1) (i : Int))
              omega
            · by_cases z : s ≤ n
              · exact addW_sub _ _ _ (tr'.2 s h1 z)
              · have : s = n + 1 := by omega
                rw [this]
                exact addW_mem _ _
          · have : ¬ (ws.length : Int) < (m : Int) := by simpa using c
            omega
        · rintro σ H4 ⟨ws, v6, rfl, d4, k4, e4, rw4, lm, tr⟩
          refine ⟨ws, _, _, _, rfl, d4, k4, e4, rw4, lm, tr.imp id fun z => ⟨fun j s hj h1 h2 => ?_, fun s h1 h2 => by omega⟩⟩
          by_cases c : j < i
          · exact z.1 j s c h1 h2
          · have : j = i := by omega
            rw [this]
            exact z.2 s h1 h2
      · rintro σ H3 ⟨ws, v4, v5, v6, rfl, d3, k3, e3, rw3, lm, tr⟩
        have eb : (2 * (b : Int)).toNat = 2 * b := by omega
        rw [eb] at tr
        have full : ws.length = m := by
          rcases tr with z | z
          · exact z
          · have := tried_all b1 z
            omega
        have hkey : ∀ p ∈ enc (tW ws), ∃ ns, ns ≠ [] ∧ p.1 = List.map Sum.inl ns := fun p hp => by
          obtain ⟨e, he, rfl⟩ := List.mem_map.mp hp
          obtain ⟨y, hy, rfl⟩ := List.mem_map.mp he
          exact ⟨y, (rw3.rd y hy).1.1, rfl⟩
        refine ⟨_, rfl, _, rfl, d, _, rfl, .inl e3, hkey, fun bs bs' q hK hP hS hq => nil_i ?_⟩
        have s4 := same_new (o := .lst (bs'.map fun b => V.ref b.1)) hq
        have lb : bs'.length = ws.length := by
          rw [hP.length_eq]
          have := congrArg List.length (paired_keys hK)
          rw [List.length_map, List.length_map] at this
          rw [this]
          exact List.length_map ..
        have keyT : ∀ b ∈ bs', (upd H3 q (.lst (bs'.map fun b => V.ref b.1))) b.1 = some (.tup (b.2.map V.int)) := fun b hb => by
          have hbm : b ∈ bs := hP.mem_iff.mp hb
          obtain ⟨p, hp, hp1, hp2⟩ := paired_mem hK hbm
          exact s4 _ _ hp2
        refine ⟨D, q, bs'.map fun b => V.ref b.1, rfl, .inl (SqL.of upd_same), by rw [List.length_map]; omega, fun v hv => ?_, d3.same s4, fun ys r H5 pm d5 k5 hr5 h5 => ?_⟩
        · obtain ⟨b', hb', rfl⟩ := List.mem_map.mp hv
          refine .tup (SqT.of (keyT b' hb')) ?_
          obtain ⟨p, hp, hp1, hp2⟩ := paired_mem hK (hP.mem_iff.mp hb')
          obtain ⟨e, he, rfl⟩ := List.mem_map.mp hp
          obtain ⟨y, hy, rfl⟩ := List.mem_map.mp he
          rw [← inl_inj.mp hp1]
          have := (rw3.rd y hy).2.1
          show y.length ≤ 1000
          omega
        · obtain ⟨cs, pc, rfl⟩ := perm_mapV pm
          have pw : (cs.map (·.2)).Perm ws := by
            have h1 := (pc.trans hP).map (·.2)
            rw [paired_keys hK] at h1
            have h2 : (tW ws).map (·.1) = ws := by
              unfold tW
              rw [List.map_map]
              exact List.map_id ws
            rwa [h2] at h1
          refine k (cs.map (·.2)) r H5 d5 ((k3.trans (Kp.of s4)).trans k5) (knone d3 k3 s4 hr5) ?_ ⟨cs.map (·.1), ?_, by rw [List.length_map, List.length_map], fun i q' y h1 h2 => ?_⟩ (by rw [pw.length_eq, full]) ⟨?_, fun y hy => rw3.rd y (pw.mem_iff.mp hy)⟩
          · exact (d3.same s4).off hr5
          · rw [h5, List.map_map]
            rfl
          · rw [List.getElem?_map] at h1 h2
            cases ec : cs[i]? with
            | none => rw [ec] at h1; cases h1
            | some c =>
              rw [ec] at h1 h2
              cases h1
              cases h2
              exact (d3.same s4).tup k5 (keyT c (pc.mem_iff.mp (List.mem_of_getElem? ec)))
          · exact pw.nodup_iff.mpr rw3.nd
end
end Tt
set_option maxRecDepth 100000
set_option maxHeartbeats 4000000
namespace Tt
open PySem L2
open LamX (Tabs TabS TabB ExtN CodeO)
theorem KpN.at {D : Dw} {H H' : Hp} {b : Addr} {o : HO} (k : KpN D H H') (dr : DrOk D H) (h : H b = some o) (n1 : ∀ kvs, o ≠ .dK kvs) (n2 : ∀ xs, o ≠ .lst xs) (n3 : ∀ ps, o ≠ .tbl ps) : H' b = some o := by
  obtain ⟨ls, cs, r, t, d⟩ := dr
  exact k _ _ h (d.dne h n1) (d.lne h n2) n3
theorem KpN.tup {D : Dw} {H H' : Hp} {b : Addr} {xs : List V} (k : KpN D H H') (dr : DrOk D H) (h : H b = some (.tup xs)) : H' b = some (.tup xs) := k.at dr h (fun _ z => nomatch z) (fun _ z => nomatch z) (fun _ z => nomatch z)
theorem KpN.off {D : Dw} {H H' : Hp} {b : Addr} {xs : List V} (k : KpN D H H') (o : Off D b) (h : H b = some (.lst xs)) : H' b = some (.lst xs) := k b _ h o.1 o.2.1 fun _ z => nomatch z
def Ever (D : Dw) (G : Hp) (Z : Hp → Prop) : Prop := ∀ H, KpN D G H → Z H
theorem Ever.go {D : Dw} {G G' : Hp} {Z : Hp → Prop} (h : Ever D G Z) (k : KpN D G G') : Ever D G' Z := fun H k2 => h H (k.trans k2)
theorem mk_prT {H : Hp} : ∀ {as : List Addr} {kvs : List (List Key × V)}, as.length = kvs.length → (∀ (i : Nat) (t : Addr) (k : List Key) (v : V), as[i]? = some t → kvs[i]? = some (k, v) → ∃ q, H t = some (.tup [.ref q, v]) ∧ H q = some (.tup (k.map kV))) →
    ∃ ts : List PrT, ts.map (·.t) = as ∧ ts.map (fun p => (p.k, p.v)) = kvs ∧ ∀ p ∈ ts, H p.t = some (.tup [.ref p.q, p.v]) ∧ H p.q = some (.tup (p.k.map kV))
  | [], [], _, _ => ⟨[], rfl, rfl, fun p h => by cases h⟩
  | [], _ :: _, h, _ => by cases h
  | _ :: _, [], h, _ => by cases h
  | a :: as, (k, v) :: kvs, h, al => by
    obtain ⟨q, h1, h2⟩ := al 0 a k v rfl rfl
    obtain ⟨ts, e1, e2, al2⟩ := mk_prT (as := as) (kvs := kvs) (by simpa using h) fun i t k v ha hk => al (i + 1) t k v (by simpa using ha) (by simpa using hk)
    refine ⟨⟨a, q, k, v⟩ :: ts, by rw [List.map_cons, e1], by rw [List.map_cons, e2], fun p hp => ?_⟩
    rcases List.mem_cons.mp hp with rfl | hp
    · exact ⟨h1, h2⟩
    · exact al2 p hp
theorem merge_nodup : ∀ (ts : List PrT) (acc : List (List Key × V)), (acc.map (·.1) ++ ts.map (·.k)).Nodup → mergeT acc ts = acc ++ ts.map fun p => (p.k, p.v)
  | [], acc, _ => by
    show acc = acc ++ []
    rw [List.append_nil]
  | p :: ts, acc, nd => by
    have nin : p.k ∉ acc.map (·.1) := fun z => (List.nodup_append.mp nd).2.2 _ z _ (List.mem_cons_self ..) rfl
    have e : putK acc p.k p.v = acc ++ [(p.k, p.v)] := by
      unfold putK
      rw [if_neg]
      intro z
      obtain ⟨x, hx, q⟩ := List.any_eq_true.mp z
      exact nin (List.mem_map.mpr ⟨x, hx, of_decide_eq_true q⟩)
    have nd2 : ((acc ++ [(p.k, p.v)]).map (·.1) ++ ts.map (·.k)).Nodup := by
      rw [List.map_append, List.append_assoc]
      exact nd
    have ih := merge_nodup ts (acc ++ [(p.k, p.v)]) nd2
    show mergeT (putK acc p.k p.v) ts = _
    rw [e, ih, List.append_assoc]
    rfl
theorem enc_nodup {es : List (List Int × V)} (h : (es.map (·.1)).Nodup) : ((enc es).map (·.1)).Nodup := by
  have e : (enc es).map (·.1) = (es.map (·.1)).map fun n => (n.map Sum.inl : List Key) := by
    unfold enc
    rw [List.map_map, List.map_map]
    rfl
  rw [e]
  refine List.pairwise_map.mpr (List.Pairwise.imp (fun {a b} hab z => hab (inl_inj.mp z)) h)
theorem toV_keys (es : List (List Int × Int)) : (toV es).map (·.1) = es.map (·.1) := by
  unfold toV
  rw [List.map_map]
  rfl
section
variable {P : Program} {w : World} {K : PySem.W.Frag} {mg : Str → Option Value} {base : Heap}
theorem copy_of {H : Hp} {l : Addr} {as : List Addr} {es : List (List Int × Int)} {Q : VK} (hl : H l = some (.lst (as.map V.ref))) (ln : as.length = (enc (toV es)).length) (ndp : (es.map (·.1)).Nodup)
    (al : ∀ (i : Nat) (t : Addr) (k : List Key) (v : V), as[i]? = some t → (enc (toV es))[i]? = some (k, v) → ∃ q, H t = some (.tup [.ref q, v]) ∧ H q = some (.tup (k.map kV)))
    (q : ∀ d, H d = none → Q (.ref d) (upd H d (.dT (enc (toV es))))) : rDictPT K [.ref l] H Q := by
  obtain ⟨ts, e1, e2, al2⟩ := mk_prT ln al
  refine ⟨l, ts, rfl, SqL.of ?_, fun p hp => ⟨SqT.of (al2 p hp).1, (al2 p hp).2⟩, fun d hd => ?_⟩
  · rw [hl, ← e1, List.map_map]
    rfl
  · have : mergeT [] ts = enc (toV es) := by
      rw [merge_nodup ts [] ?_, List.nil_append, e2]
      rw [List.map_nil, List.nil_append]
      have e3 : ts.map (·.k) = (enc (toV es)).map (·.1) := by
        rw [← e2, List.map_map]
        rfl
      rw [e3]
      exact enc_nodup (by rw [toV_keys]; exact ndp)
    rw [this]
    exact q d hd
structure Bk (K : PySem.W.Frag) (row : List Int) (G : Hp) (v : V) : Prop where
  ky : ∃ nk : NestedKey, NKV G nk v ∧ nk.depth ≤ 8
  nb : ∀ b, v ≠ .bl b
  rd : ∀ H', (∀ b xs, G b = some (.tup xs) → H' b = some (.tup xs)) → RdOr row v H' K false
theorem Bk.keep {row : List Int} {G G' : Hp} {v : V} (h : Bk K row G v) (s : ∀ b xs, G b = some (.tup xs) → G' b = some (.tup xs)) : Bk K row G' v :=
  ⟨h.ky.elim fun nk z => ⟨nk, z.1.keep s, z.2⟩, h.nb, fun H' k => h.rd H' fun b xs e => k b xs (s b xs e)⟩
theorem bk_val {row : List Int} {G : Hp} {v : V} {S : String} {nk : NestedKey} (k : NKV G nk v) (d : nk.depth ≤ 8) (nb : ∀ b, v ≠ .bl b) (t : ∀ H', TyB K H' v S) (n : decide (S = "tuple") = false) : Bk K row G v :=
  ⟨⟨nk, k, d⟩, nb, fun H' _ => .inl ⟨.non (t H') n, rfl⟩⟩
theorem bk_tup {row : List Int} {G : Hp} {p : Addr} {xs : List V} {ks : List NestedKey} (h : G p = some (.tup xs)) (k : NKVs G ks xs) (d : (NestedKey.tup ks).depth ≤ 8) (n : xs.length < 1000) (ty : ∀ H', (∀ b xs, G b = some (.tup xs) → H' b = some (.tup xs)) → ∀ y ∈ xs, ∃ S, TyB K H' y S)
    (bad : (decide ((xs.length : Int) ≤ 40) && xs.all (inB 0 (hiE row))) = false) : Bk K row G (.ref p) := by
  refine ⟨⟨_, .tup h k, d⟩, (fun b z => by cases z), fun H' s => .inl ⟨?_, rfl⟩⟩
  have := WV.tup (K := K) (m := 40) (row := row) (SqT.of (s _ _ h)) n (ty H' s)
  rw [bad] at this
  exact this
theorem nkvs_ints {G : Hp} : ∀ ns : List Int, NKVs G (ns.map NestedKey.num) (ns.map V.int)
  | [] => .nil
  | n :: ns => .cons (.int n) (nkvs_ints ns)
theorem depth_nums : ∀ ns : List Int, NestedKey.depthAll (ns.map NestedKey.num) = 0
  | [] => rfl
  | n :: ns => by
    show max (NestedKey.depth (.num n)) (NestedKey.depthAll (ns.map NestedKey.num)) = 0
    rw [depth_nums ns]
    rfl
theorem ty_ints {H : Hp} (ns : List Int) : ∀ y ∈ ns.map V.int, ∃ S, TyB K H y S := fun y hy => by
  obtain ⟨n, _, rfl⟩ := List.mem_map.mp hy
  exact ⟨_, .int n⟩
theorem bk_ints {row : List Int} {G : Hp} {p : Addr} (ns : List Int) (h : G p = some (.tup (ns.map V.int))) (n : ns.length < 1000) (bad : ns.length > 40 ∨ ∃ x ∈ ns, ¬ (0 ≤ x ∧ x ≤ hiE row)) : Bk K row G (.ref p) := by
  refine bk_tup h (nkvs_ints ns) (by show NestedKey.depthAll (ns.map NestedKey.num) + 1 ≤ 8; rw [depth_nums]; omega) (by rw [List.length_map]; exact n) (fun H' _ => ty_ints ns) ?_
  rw [List.length_map]
  rcases bad with z | ⟨x, hx, z⟩
  · rw [decide_eq_false (by omega), Bool.false_and]
  · have : (ns.map V.int).all (inB 0 (hiE row)) = false := by
      rw [List.all_eq_false]
      refine ⟨V.int x, List.mem_map.mpr ⟨x, hx, rfl⟩, ?_⟩
      show ¬ (decide (0 ≤ x) && decide (x ≤ hiE row)) = true
      simpa using z
    rw [this, Bool.and_false]
theorem bk_word {row : List Int} {G : Hp} {p : Addr} (ns : List Int) (h : G p = some (.tup (ns.map V.int))) (n : ns.length ≤ 40) (lt : Lt (row.length : Int) ns) (bad : ¬ Rnd ns) : Bk K row G (.ref p) := by
  refine ⟨⟨_, .tup h (nkvs_ints ns), by show NestedKey.depthAll (ns.map NestedKey.num) + 1 ≤ 8; rw [depth_nums]; omega⟩, (fun b z => by cases z), fun H' s => .inr ⟨p, ns, rfl, SqT.of (s _ _ h), n, lt, ?_⟩⟩
  have e : decide (ns ≠ [] ∧ closedT ns = ns) = false := decide_eq_false fun z => bad z
  exact e.symm
theorem no_rnd {ns : List Int} {i : Nat} {a b : Int} (h1 : ns[i]? = some a) (h2 : ns[i + 1]? = some b) (e : b = Wd.mate a) : ¬ Rnd ns := fun r => r.cr.rd i a b h1 h2 e
theorem no_20 : ¬ Rnd [2, 0] := fun r => r.lst [0, 2] ⟨[2], [0], rfl, rfl⟩ (by decide)
def nkOf : Key → NestedKey
  | .inl i => .num i
  | .inr x => .text x
theorem nkvs_keys {G : Hp} : ∀ k : List Key, NKVs G (k.map nkOf) (k.map kV)
  | [] => .nil
  | .inl i :: k => .cons (.int i) (nkvs_keys k)
  | .inr x :: k => .cons (.str x) (nkvs_keys k)
theorem depth_keys : ∀ k : List Key, NestedKey.depthAll (k.map nkOf) = 0
  | [] => rfl
  | x :: k => by
    show max (NestedKey.depth (nkOf x)) (NestedKey.depthAll (k.map nkOf)) = 0
    rw [depth_keys k]
    cases x <;> rfl
theorem mk_pn {H : Hp} : ∀ {as : List Addr} {kvs : List (List Key × V)}, as.length = kvs.length → (∀ (i : Nat) (t : Addr) (k : List Key) (v : V), as[i]? = some t → kvs[i]? = some (k, v) → ∃ q, H t = some (.tup [.ref q, v]) ∧ H q = some (.tup (k.map kV))) →
    ∃ ts : List PN, ts.map (·.t) = as ∧ ∀ p ∈ ts, H p.t = some (.tup [p.x, p.v]) ∧ ∃ q k, p.x = .ref q ∧ p.k = .tup (k.map nkOf) ∧ (k, p.v) ∈ kvs ∧ H q = some (.tup (k.map kV))
  | [], [], _, _ => ⟨[], rfl, fun p h => by cases h⟩
  | [], _ :: _, h, _ => by cases h
  | _ :: _, [], h, _ => by cases h
  | a :: as, (k, v) :: kvs, h, al => by
    obtain ⟨q, h1, h2⟩ := al 0 a k v rfl rfl
    obtain ⟨ts, e1, al2⟩ := mk_pn (as := as) (kvs := kvs) (by simpa using h) fun i t k v ha hk => al (i + 1) t k v (by simpa using ha) (by simpa using hk)
    refine ⟨⟨a, .tup (k.map nkOf), .ref q, v⟩ :: ts, by rw [List.map_cons, e1], fun p hp => ?_⟩
    rcases List.mem_cons.mp hp with rfl | hp
    · exact ⟨h1, q, k, rfl, rfl, List.mem_cons_self .., h2⟩
    · obtain ⟨b1, q', k', b2, b3, b4, b5⟩ := al2 p hp
      exact ⟨b1, q', k', b2, b3, List.mem_cons_of_mem _ b4, b5⟩
theorem sput_from {xs : List PN} {p e : PN} (h : e ∈ sput xs p) : (∃ y ∈ xs, y.x = e.x) ∨ e.x = p.x := by
  unfold sput at h
  split at h
  · obtain ⟨y, hy, rfl⟩ := List.mem_map.mp h
    refine .inl ⟨y, hy, ?_⟩
    split <;> rfl
  · rcases List.mem_append.mp h with h | h
    · exact .inl ⟨e, h, rfl⟩
    · rw [List.mem_singleton.mp h]
      exact .inr rfl
theorem sput_keep {xs : List PN} {p y : PN} (h : y ∈ xs) : ∃ e ∈ sput xs p, e.x = y.x := by
  unfold sput
  split
  · refine ⟨_, List.mem_map.mpr ⟨y, h, rfl⟩, ?_⟩
    split <;> rfl
  · exact ⟨y, List.mem_append_left _ h, rfl⟩
theorem fold_from : ∀ (ts acc : List PN) {e : PN}, e ∈ ts.foldl sput acc → (∃ y ∈ acc, y.x = e.x) ∨ ∃ y ∈ ts, y.x = e.x
  | [], acc, e, h => .inl ⟨e, h, rfl⟩
  | p :: ts, acc, e, h => by
    rcases fold_from ts (sput acc p) h with ⟨y, hy, ey⟩ | ⟨y, hy, ey⟩
    · rcases sput_from hy with ⟨z, hz, ez⟩ | z
      · exact .inl ⟨z, hz, ez.trans ey⟩
      · exact .inr ⟨p, List.mem_cons_self .., z.symm.trans ey⟩
    · exact .inr ⟨y, List.mem_cons_of_mem _ hy, ey⟩
theorem fold_keep : ∀ (ts acc : List PN) {y : PN}, y ∈ acc → ∃ e ∈ ts.foldl sput acc, e.x = y.x
  | [], acc, y, h => ⟨y, h, rfl⟩
  | p :: ts, acc, y, h => by
    obtain ⟨e, he, ee⟩ := sput_keep (p := p) h
    obtain ⟨e2, he2, ee2⟩ := fold_keep ts (sput acc p) he
    exact ⟨e2, he2, ee2.trans ee⟩
theorem judged {row : List Int} {G : Hp} : ∀ {xs : List RE}, (∀ r ∈ xs, ∃ b, RdOr row r.k G K b) → (∃ r ∈ xs, RdOr row r.k G K false) → ∃ bs, Paired (fun (r : RE) b => RdOr row r.k G K b) xs bs ∧ false ∈ bs
  | [], _, ⟨r, hr, _⟩ => by cases hr
  | r :: xs, al, ⟨x, hx, bx⟩ => by
    have all : ∀ {ys : List RE}, (∀ r ∈ ys, ∃ b, RdOr row r.k G K b) → ∃ bs, Paired (fun (r : RE) b => RdOr row r.k G K b) ys bs := fun {ys} => by
      induction ys with
      | nil => exact fun _ => ⟨[], .nil⟩
      | cons y ys ih =>
        intro h
        obtain ⟨b, hb⟩ := h y (List.mem_cons_self ..)
        obtain ⟨bs, hbs⟩ := ih fun r hr => h r (List.mem_cons_of_mem _ hr)
        exact ⟨b :: bs, .cons hb hbs⟩
    rcases List.mem_cons.mp hx with rfl | hx
    · obtain ⟨bs, hbs⟩ := all fun r hr => al r (List.mem_cons_of_mem _ hr)
      exact ⟨false :: bs, .cons bx hbs, List.mem_cons_self ..⟩
    · obtain ⟨bs, hbs, hf⟩ := judged (xs := xs) (fun r hr => al r (List.mem_cons_of_mem _ hr)) ⟨x, hx, bx⟩
      obtain ⟨b, hb⟩ := al r (List.mem_cons_self ..)
      exact ⟨b :: bs, .cons hb hbs, List.mem_cons_of_mem _ hf⟩
theorem putK_mem {kvs : List (List Key × V)} {k : List Key} {v : V} {e : List Key × V} (h : e ∈ putK kvs k v) : e ∈ kvs ∨ e = (k, v) := by
  unfold putK at h
  split at h
  · obtain ⟨x, hx, rfl⟩ := List.mem_map.mp h
    by_cases c : x.1 = k
    · rw [if_pos c, c]
      exact .inr rfl
    · rw [if_neg c]
      exact .inl hx
  · rcases List.mem_append.mp h with c | c
    · exact .inl c
    · exact .inr (List.mem_singleton.mp c)
theorem putK_has (kvs : List (List Key × V)) (k : List Key) (v : V) : (k, v) ∈ putK kvs k v := by
  unfold putK
  split
  · rename_i h
    obtain ⟨x, hx, q⟩ := List.any_eq_true.mp h
    have : x.1 = k := of_decide_eq_true q
    refine List.mem_map.mpr ⟨x, hx, ?_⟩
    rw [if_pos this, this]
  · exact List.mem_append_right _ (List.mem_singleton.mpr rfl)
theorem okS_key {row : List Int} {kvs : List (List Key × V)} {e : List Key × V} (h : e ∈ kvs) (b : okK row e.1 = false) : okS row kvs = false := by
  have : kvs.all (fun e => okK row e.1) = false := by
    rw [List.all_eq_false]
    exact ⟨e, h, by rw [b]; simp⟩
  unfold okS
  rw [this, Bool.false_and, Bool.and_false]
theorem okS_val {row : List Int} {kvs : List (List Key × V)} {e : List Key × V} (h : e ∈ kvs) (b : okN e.2 = false) : okS row kvs = false := by
  have : kvs.all (fun e => okN e.2) = false := by
    rw [List.all_eq_false]
    exact ⟨e, h, by rw [b]; simp⟩
  unfold okS
  rw [this, Bool.and_false, Bool.and_false]
theorem keyI_inl (ns : List Int) : (ns.map Sum.inl : List Key).map keyI = ns := by
  rw [List.map_map]
  exact List.map_id ns
theorem okK_word {row ns : List Int} (h : ¬ Rnd ns) : okK row (ns.map Sum.inl) = false := by
  unfold okK
  rw [keyI_inl]
  have e : decide (ns ≠ [] ∧ closedT ns = ns) = false := decide_eq_false fun z => h z
  rw [e, Bool.and_false]
theorem DrOk.nT {D : Dw} {H : Hp} {a : Addr} {kvs : List (List Key × V)} (d : DrOk D H) (h : H a = some (.dT kvs)) : a ≠ D.d ∧ a ≠ D.l := by
  obtain ⟨ls, cs, r, t, d⟩ := d
  exact ⟨d.dne h (fun _ z => by cases z), d.lne h (fun _ z => by cases z)⟩
def spBent (K : PySem.W.Frag) : Sp := fun vs H Q _ => ∃ (D : Dw) (b : Nat) (a : Addr) (row : List Int) (es : List (List Int × Int)), vs = [.ref D.d, .int (b : Int), .ref a] ∧ 1 ≤ b ∧ b ≤ 6 ∧ row.length = 2 * b ∧ SumAt row H a es ∧ DrOk D H ∧
  ∀ v H', DrOk D H' → Kp D H H' → Ever D H' (fun G => SV K row G v false) → Q v H'
theorem ok_l_bent (T : Txt K mg) : FnOk P w K mg base CX0 4 T.l_bent.a T.l_bent.fd ["draw", "bands", "some"] (spBent K) := by
  refine T.l_bent.F.ok sc_l_bent (fun vs H Q E h => ?_) (fun cdv A outer s H vs Q E hr h => ?_)
  · obtain ⟨D, b, a, row, es, rfl, _⟩ := h
    rfl
  · obtain ⟨D, b, a, row, es, rfl, b1, b6, rl, sm, dr, k⟩ := h
    have nd := sc_l_bent.nd
    have hu := hu_of hr
    refine ⟨_, (pss_cons (ps_set (i := 3) nd rfl (Or.inl rfl) (pe_call (ok_l_pick T) (hr.mono (by decide)) (by rfl) T.l_pick.g T.l_pick.k T.l_pick.b .nil pass0 (pa_cons (pv 0) (pa_cons (pe_lst (pa_cons (pe_tup pa_nil) (pa_cons (pe_tup (pa_cons pe_int (pa_cons pe_int pa_nil))) (pa_cons (pe_tup (pa_cons pe_int (pa_cons pe_int (pa_cons pe_int pa_nil)))) (pa_cons (pe_op op_repA (pe_tup (pa_cons pe_int pa_nil)) pe_int) (pa_cons (pe_tup (pa_cons (pe_op op_mul pe_int (pv 1)) pa_nil)) (pa_cons (pe_tup (pa_cons (pe_un un_neg pe_int) pa_nil)) (pa_cons (pe_tup (pa_cons pe_bl pa_nil)) (pa_cons pe_str (pa_cons pe_int (pa_cons pe_non (pa_cons (pe_tup (pa_cons pe_int (pa_cons pe_str pa_nil))) (pa_cons (pe_tup (pa_cons (pe_tup (pa_cons pe_int pa_nil)) pa_nil)) pa_nil))))))))))))) pa_nil))))
    (pss_cons (ps_set (i := 4) nd rfl (Or.inl rfl) (pe_ifExp (pt_cmpR op_eq (pv 1) pe_int (nomark _)) (pe_tup (pa_cons pe_int (pa_cons pe_int (pa_cons pe_int pa_nil)))) (pe_tup (pa_cons pe_int (pa_cons pe_int pa_nil)))))
    (pss_cons (ps_set (i := 5) nd rfl (Or.inl rfl) (pe_callTy (cr_dictPT rfl hr.units) (by rfl) T.zdict (by decide +kernel) (pa_cons (pe_listItemsT rfl (pv 2) (by rfl) T.zlist (by decide +kernel)) pa_nil)))
    (pss_cons (ps_set (i := 6) nd rfl (Or.inl rfl) (pe_call (ok_l_take T) (hr.mono (by decide)) (by rfl) T.l_take.g T.l_take.k T.l_take.b .nil pass0 (pa_cons (pv 0) (pa_cons pe_int pa_nil))))
    (pss_cons (ps_if (pt_cmpR op_eq (pv 6) pe_int (nomark _))
      (pss_one (ps_set (i := 5) nd rfl (Or.inl rfl) (pe_callTy (cr_dictN rfl hr.units) (by rfl) T.zdict (by decide +kernel) (pa_cons (pe_op op_cat (pe_lst (pa_cons (pe_tup (pa_cons (pv 3) (pa_cons pe_int pa_nil))) pa_nil)) (pe_listItemsT rfl (pv 2) (by rfl) T.zlist (by decide +kernel))) pa_nil))))
      (pss_one (ps_if (pt_cmpR op_eq (pv 6) pe_int (nomark _))
        (pss_one (ps_dput hu (pv 5) (pv 4) pe_int rfl))
        (pss_one (ps_if (pt_cmpR op_eq (pv 6) pe_int (nomark _))
          (pss_one (ps_dput hu (pv 5) (pe_tup (pa_cons pe_int pa_nil)) (pe_call (ok_l_pick T) (hr.mono (by decide)) (by rfl) T.l_pick.g T.l_pick.k T.l_pick.b .nil pass0 (pa_cons (pv 0) (pa_cons (pe_lst (pa_cons pe_int (pa_cons pe_bl (pa_cons pe_bl (pa_cons pe_non (pa_cons pe_str (pa_cons (pe_op op_add (pe_op op_pow pe_int pe_int) pe_int) (pa_cons (pe_op op_sub (pe_op op_sub pe_int (pe_op op_pow pe_int pe_int)) pe_int) (pa_cons (pe_tup (pa_cons pe_int pa_nil)) (pa_cons (pe_lst (pa_cons pe_int pa_nil)) pa_nil)))))))))) pa_nil))) rfl))
          (pss_one (ps_ret (pe_call (ok_l_pick T) (hr.mono (by decide)) (by rfl) T.l_pick.g T.l_pick.k T.l_pick.b .nil pass0 (pa_cons (pv 0) (pa_cons (pe_lst (pa_cons pe_non (pa_cons pe_int (pa_cons pe_str (pa_cons (pe_lst pa_nil) (pa_cons (pe_tup pa_nil) (pa_cons (pe_listItemsT rfl (pv 2) (by rfl) T.zlist (by decide +kernel)) (pa_cons (pe_callTy (cr_tupleDT rfl) (by rfl) T.ztuple (by decide +kernel) (pa_cons (pv 2) pa_nil)) (pa_cons (pe_tup (pa_cons pe_int pa_nil)) (pa_cons pe_bl pa_nil)))))))))) pa_nil))))))))))
    (pss_one (ps_ret (pv 5)))))))), ?_⟩
    have S : Same H H := fun _ _ z => z
    refine sqn ⟨_, rfl, ?_⟩
    refine tcn (tlst ?_)
    refine tcn ⟨(by show 0 ≤ sizeLine; decide), fun u1 h_u1 => ?_⟩
    have e_u1 : (upd H u1 (.tup [])) u1 = some (.tup []) := upd_same
    have s_u1 : Same H (upd H u1 (.tup [])) := same_new h_u1
    generalize upd H u1 (.tup []) = G_u1 at e_u1 s_u1
    replace S := S.trans s_u1
    refine tcn ⟨(by show 2 ≤ sizeLine; decide), fun u2 h_u2 => ?_⟩
    have e_u2 : (upd G_u1 u2 (.tup [.int 0, .int 1])) u2 = some (.tup [.int 0, .int 1]) := upd_same
    have s_u2 : Same G_u1 (upd G_u1 u2 (.tup [.int 0, .int 1])) := same_new h_u2
    generalize upd G_u1 u2 (.tup [.int 0, .int 1]) = G_u2 at e_u2 s_u2
    replace e_u1 := s_u2 _ _ e_u1
    replace S := S.trans s_u2
    refine tcn ⟨(by show 3 ≤ sizeLine; decide), fun u3 h_u3 => ?_⟩
    have e_u3 : (upd G_u2 u3 (.tup [.int 0, .int 0, .int 1])) u3 = some (.tup [.int 0, .int 0, .int 1]) := upd_same
    have s_u3 : Same G_u2 (upd G_u2 u3 (.tup [.int 0, .int 0, .int 1])) := same_new h_u3
    generalize upd G_u2 u3 (.tup [.int 0, .int 0, .int 1]) = G_u3 at e_u3 s_u3
    replace e_u1 := s_u3 _ _ e_u1
    replace e_u2 := s_u3 _ _ e_u2
    replace S := S.trans s_u3
    refine tcn ⟨(by show 1 ≤ sizeLine; decide), fun u4 h_u4 => ?_⟩
    have e_u4 : (upd G_u3 u4 (.tup [.int 1])) u4 = some (.tup [.int 1]) := upd_same
    have s_u4 : Same G_u3 (upd G_u3 u4 (.tup [.int 1])) := same_new h_u4
    generalize upd G_u3 u4 (.tup [.int 1]) = G_u4 at e_u4 s_u4
    replace e_u1 := s_u4 _ _ e_u1
    replace e_u2 := s_u4 _ _ e_u2
    replace e_u3 := s_u4 _ _ e_u3
    replace S := S.trans s_u4
    refine tC_i (repK (K := K) e_u4 (by simp) (by decide) (by decide) (by decide) fun u5 G_u5 s_u5 e_u5 => ?_)
    have er : (List.replicate ((41 : Int)).toNat [V.int 1]).flatten = (List.replicate 41 (1 : Int)).map V.int := by decide +kernel
    rw [er] at e_u5
    replace e_u1 := s_u5 _ _ e_u1
    replace e_u2 := s_u5 _ _ e_u2
    replace e_u3 := s_u5 _ _ e_u3
    replace e_u4 := s_u5 _ _ e_u4
    replace S := S.trans s_u5
    refine tcn ⟨_, rfl, _, _, rfl, rfl, .inl ⟨by decide, by decide⟩, nil_i ⟨(by show 1 ≤ sizeLine; decide), fun u6 h_u6 => ?_⟩⟩
    have e_u6 : (upd G_u5 u6 (.tup [.int (2 * (b : Int))])) u6 = some (.tup [.int (2 * (b : Int))]) := upd_same
    have s_u6 : Same G_u5 (upd G_u5 u6 (.tup [.int (2 * (b : Int))])) := same_new h_u6
    generalize upd G_u5 u6 (.tup [.int (2 * (b : Int))]) = G_u6 at e_u6 s_u6
    replace e_u1 := s_u6 _ _ e_u1
    replace e_u2 := s_u6 _ _ e_u2
    replace e_u3 := s_u6 _ _ e_u3
    replace e_u4 := s_u6 _ _ e_u4
    replace e_u5 := s_u6 _ _ e_u5
    replace S := S.trans s_u6
    refine tcn ⟨1, rfl, nil_i ⟨(by show 1 ≤ sizeLine; decide), fun u7 h_u7 => ?_⟩⟩
    have e_u7 : (upd G_u6 u7 (.tup [.int (-1)])) u7 = some (.tup [.int (-1)]) := upd_same
    have s_u7 : Same G_u6 (upd G_u6 u7 (.tup [.int (-1)])) := same_new h_u7
    generalize upd G_u6 u7 (.tup [.int (-1)]) = G_u7 at e_u7 s_u7
    replace e_u1 := s_u7 _ _ e_u1
    replace e_u2 := s_u7 _ _ e_u2
    replace e_u3 := s_u7 _ _ e_u3
    replace e_u4 := s_u7 _ _ e_u4
    replace e_u5 := s_u7 _ _ e_u5
    replace e_u6 := s_u7 _ _ e_u6
    replace S := S.trans s_u7
    refine tcn ⟨(by show 1 ≤ sizeLine; decide), fun u8 h_u8 => ?_⟩
    have e_u8 : (upd G_u7 u8 (.tup [.bl true])) u8 = some (.tup [.bl true]) := upd_same
    have s_u8 : Same G_u7 (upd G_u7 u8 (.tup [.bl true])) := same_new h_u8
    generalize upd G_u7 u8 (.tup [.bl true]) = G_u8 at e_u8 s_u8
    replace e_u1 := s_u8 _ _ e_u1
    replace e_u2 := s_u8 _ _ e_u2
    replace e_u3 := s_u8 _ _ e_u3
    replace e_u4 := s_u8 _ _ e_u4
    replace e_u5 := s_u8 _ _ e_u5
    replace e_u6 := s_u8 _ _ e_u6
    replace e_u7 := s_u8 _ _ e_u7
    replace S := S.trans s_u8
    refine tcn (tC_i (tcn (tC_i (tcn (tC_i ?_)))))
    refine tcn ⟨(by show 2 ≤ sizeLine; decide), fun u9 h_u9 => ?_⟩
    have e_u9 : (upd G_u8 u9 (.tup [.int 0, .str "a"])) u9 = some (.tup [.int 0, .str "a"]) := upd_same
    have s_u9 : Same G_u8 (upd G_u8 u9 (.tup [.int 0, .str "a"])) := same_new h_u9
    generalize upd G_u8 u9 (.tup [.int 0, .str "a"]) = G_u9 at e_u9 s_u9
    replace e_u1 := s_u9 _ _ e_u1
    replace e_u2 := s_u9 _ _ e_u2
    replace e_u3 := s_u9 _ _ e_u3
    replace e_u4 := s_u9 _ _ e_u4
    replace e_u5 := s_u9 _ _ e_u5
    replace e_u6 := s_u9 _ _ e_u6
    replace e_u7 := s_u9 _ _ e_u7
    replace e_u8 := s_u9 _ _ e_u8
    replace S := S.trans s_u9
    refine tcn ⟨(by show 1 ≤ sizeLine; decide), fun u10 h_u10 => ?_⟩
    have e_u10 : (upd G_u9 u10 (.tup [.int 0])) u10 = some (.tup [.int 0]) := upd_same
    have s_u10 : Same G_u9 (upd G_u9 u10 (.tup [.int 0])) := same_new h_u10
    generalize upd G_u9 u10 (.tup [.int 0]) = G_u10 at e_u10 s_u10
    replace e_u1 := s_u10 _ _ e_u1
    replace e_u2 := s_u10 _ _ e_u2
    replace e_u3 := s_u10 _ _ e_u3
    replace e_u4 := s_u10 _ _ e_u4
    replace e_u5 := s_u10 _ _ e_u5
    replace e_u6 := s_u10 _ _ e_u6
    replace e_u7 := s_u10 _ _ e_u7
    replace e_u8 := s_u10 _ _ e_u8
    replace e_u9 := s_u10 _ _ e_u9
    replace S := S.trans s_u10
    refine nil_i ⟨(by show 1 ≤ sizeLine; decide), fun u11 h_u11 => nil_i ?_⟩
    have e_u11 : (upd G_u10 u11 (.tup [.ref u10])) u11 = some (.tup [.ref u10]) := upd_same
    have s_u11 : Same G_u10 (upd G_u10 u11 (.tup [.ref u10])) := same_new h_u11
    generalize upd G_u10 u11 (.tup [.ref u10]) = G at e_u11 s_u11
    replace e_u1 := s_u11 _ _ e_u1
    replace e_u2 := s_u11 _ _ e_u2
    replace e_u3 := s_u11 _ _ e_u3
    replace e_u4 := s_u11 _ _ e_u4
    replace e_u5 := s_u11 _ _ e_u5
    replace e_u6 := s_u11 _ _ e_u6
    replace e_u7 := s_u11 _ _ e_u7
    replace e_u8 := s_u11 _ _ e_u8
    replace e_u9 := s_u11 _ _ e_u9
    replace e_u10 := s_u11 _ _ e_u10
    replace S := S.trans s_u11
    have dG := dr.same S
    refine ⟨(by show 12 ≤ sizeLine; decide), fun l1 hl1 => nil_i ?_⟩
    have hE : hiE row = 2 * (b : Int) - 1 := by
      unfold hiE
      omega
    refine ⟨D, l1, _, rfl, .inl (SqL.of upd_same), (dG.off hl1).2.1, by simp, (by show 12 < 1073741824; decide), dG.new hl1, fun i0 bad H1 hx d1 k1 => ?_⟩
    have kG1 : Kp D G H1 := (Kp.new hl1).trans k1
    have bk : Bk K row G bad := by
      have hx := List.mem_of_getElem? hx
      simp only [List.mem_cons, List.not_mem_nil, or_false] at hx
      rcases hx with rfl | rfl | rfl | rfl | rfl | rfl | rfl | rfl | rfl | rfl | rfl | rfl
      · exact bk_word [] e_u1 (by simp) (fun x hx => by cases hx) fun r => r.1 rfl
      · exact bk_word [0, 1] e_u2 (by simp) (fun x hx => by simp at hx; omega) (no_rnd (i := 0) rfl rfl (by decide))
      · exact bk_word [0, 0, 1] e_u3 (by simp) (fun x hx => by simp at hx; omega) (no_rnd (i := 1) rfl rfl (by decide))
      · exact bk_ints (List.replicate 41 1) e_u5 (by rw [List.length_replicate]; decide) (.inl (by rw [List.length_replicate]; decide))
      · exact bk_ints [2 * (b : Int)] e_u6 (by simp) (.inr ⟨2 * (b : Int), by simp, by omega⟩)
      · exact bk_ints [-1] e_u7 (by simp) (.inr ⟨-1, by simp, by omega⟩)
      · exact bk_tup e_u8 (.cons (.bl true) .nil) (by decide) (by simp) (fun H' _ y hy => by rw [List.mem_singleton.mp hy]; exact ⟨_, .bl true⟩) (by simp [inB])
      · exact bk_val (.str "a") (by decide) (fun b z => by cases z) (fun _ => .str "a") (by decide)
      · exact bk_val (.int 0) (by decide) (fun b z => by cases z) (fun _ => .int 0) (by decide)
      · exact bk_val .non (by decide) (fun b z => by cases z) (fun _ => .non) (by decide)
      · refine bk_tup e_u9 (.cons (.int 0) (.cons (.str "a") .nil)) (by decide) (by simp) (fun H' _ y hy => ?_) (by simp [inB])
        simp only [List.mem_cons, List.not_mem_nil, or_false] at hy
        rcases hy with rfl | rfl
        · exact ⟨_, .int 0⟩
        · exact ⟨_, .str "a"⟩
      · refine bk_tup e_u11 (.cons (.tup e_u10 (.cons (.int 0) .nil)) .nil) (by decide) (by simp) (fun H' k y hy => ?_) (by simp [inB])
        rw [List.mem_singleton.mp hy]
        exact ⟨_, .tup (SqT.of (k _ _ e_u10))⟩
    replace bk := bk.keep (G' := H1) fun b xs h => dG.tup kG1 h
    have k01 : Kp D H H1 := (Kp.of S).trans kG1
    clear hx k1 kG1 dG hl1 S er e_u1 h_u1 s_u1 e_u2 h_u2 s_u2 e_u3 h_u3 s_u3 e_u4 h_u4 s_u4 e_u5 s_u5 e_u6 h_u6 s_u6 e_u7 h_u7 s_u7 e_u8 h_u8 s_u8 e_u9 h_u9 s_u9 e_u10 h_u10 s_u10 e_u11 h_u11 s_u11
    have sm1 : SumAt row H1 a es := ⟨k01 _ _ sm.h (DrOk.nT dr sm.h).1 (DrOk.nT dr sm.h).2, sm.ok, sm.ks, sm.vs, sm.few, sm.nd⟩
    dsimp only
    refine sq_r (fun σ H' => ∃ (u : Addr) (un : List Int), σ = [some (.ref D.d), some (.int (b : Int)), some (.ref a), some bad, some (.ref u), none, none] ∧ H' u = some (.tup (un.map V.int)) ∧ un.length ≤ 40 ∧ Lt (row.length : Int) un ∧ ¬ Rnd un ∧ Same H1 H') (fun rest => ?_) ?_
    · refine ⟨_, rfl, rfl, _, rfl, ite2 (fun c => ?_) (fun c => ?_)⟩
      · exact ⟨(by show 3 ≤ sizeLine; decide), fun u h_u => rest _ _ ⟨u, [1, 0, 0], rfl, upd_same, by decide, (fun x hx => by simp at hx; omega), no_rnd (i := 0) rfl rfl (by decide), same_new h_u⟩⟩
      · have c' : b ≠ 1 := fun z => c (by rw [z]; rfl)
        exact ⟨(by show 2 ≤ sizeLine; decide), fun u h_u => rest _ _ ⟨u, [2, 0], rfl, upd_same, by decide, (fun x hx => by simp at hx; omega), no_20, same_new h_u⟩⟩
    rintro σ H2 ⟨u, un, rfl, eu, ul, ult, unr, s2⟩
    have d2 := d1.same s2
    have k02 := k01.trans (Kp.of s2)
    replace bk := bk.keep (G' := H2) fun b xs h => s2 _ _ h
    have sm2 := sm1.same s2
    clear k01 d1 sm1 s2
    refine sqn ⟨_, rfl, a, _, rfl, sm2.h, fun G l as sG hlG hasG nlas elG lnG ndG alG => nil_i (copy_of elG lnG sm2.nd (fun i t k v h1 h2 => (alG i t k v h1 h2).elim fun q z => ⟨q, z.1, sG _ _ z.2⟩) fun d hd => ?_)⟩
    have s3 : Same H2 (upd G d (.dT (enc (toV es)))) := fun b o h => same_new hd _ _ (sG b o h)
    have ed : (upd G d (.dT (enc (toV es)))) d = some (.dT (enc (toV es))) := upd_same
    generalize upd G d (.dT (enc (toV es))) = H3 at s3 ed
    have d3 := d2.same s3
    have od : Off D d := by
      have := d2.same (fun b o h => sG b o h : Same H2 G)
      exact this.off hd
    have hdn : H2 d = none := by
      cases e : H2 d with
      | none => rfl
      | some o => rw [sG _ _ e] at hd; cases hd
    have hdH : H d = none := by
      cases e : H d with
      | none => rfl
      | some o => rw [k02 _ _ e od.1 od.2.1] at hdn; cases hdn
    replace bk := bk.keep (G' := H3) fun b xs h => s3 _ _ h
    have sm3 := sm2.same s3
    have eu3 := s3 _ _ eu
    have k03 := k02.trans (Kp.of s3)
    clear hd sG hlG hasG nlas elG lnG ndG alG s3 sm2 eu k02 d2 hdn
    dsimp only
    refine sqn ⟨_, rfl, tC_i (nil_i ⟨D, 4, rfl, by decide, by decide, d3, fun way H4 w0 w1 d4 k4 => ?_⟩)⟩
    replace bk := bk.keep (G' := H4) fun b xs h => d3.tup k4 h
    have ed4 := k4.at od ed
    have eu4 := d3.tup k4 eu3
    have k04 := k03.trans k4
    have nTa := DrOk.nT d3 sm3.h
    have ea4 : H4 a = some (.dT (enc (toV es))) := k4 _ _ sm3.h nTa.1 nTa.2
    have kput : ∀ H6, Kp D H4 H6 → ∀ o, Kp D H (upd H6 d o) := fun H6 k6 o b' u' hb z1 z2 => by
      rw [upd_ne (ne_of_none hb hdH)]
      exact k6 b' u' (k04 b' u' hb z1 z2) z1 z2
    have lev : (enc (toV es)).length = es.length := by rw [enc_len]; exact List.length_map ..
    have few := sm3.few
    have kyL : ∀ e ∈ enc (toV es), e.1.length < 1000 := fun e he => by
      obtain ⟨x, hx, rfl⟩ := List.mem_map.mp he
      obtain ⟨y, hy, rfl⟩ := List.mem_map.mp hx
      show (y.1.map Sum.inl).length < 1000
      rw [List.length_map]
      have := (sm3.ks y hy).2.1
      omega
    have vlT : ∀ e ∈ enc (toV es), ∃ i, e.2 = V.int i := fun e he => by
      obtain ⟨x, hx, rfl⟩ := List.mem_map.mp he
      obtain ⟨y, hy, rfl⟩ := List.mem_map.mp hx
      exact ⟨y.2, rfl⟩
    dsimp only
    refine sqn ⟨_, rfl, rfl, _, rfl, ite2 (fun c => ?_) (fun c => ?_)⟩
    · refine asn (tcb_e (tcn ?_))
      refine ⟨_, rfl, (by show 2 ≤ sizeLine; decide), fun t0 ht0 => nil_i ⟨(by show 1 ≤ sizeLine; decide), fun l0 hl0 => ?_⟩⟩
      have e0 : (upd (upd H4 t0 (.tup [bad, .int 1])) l0 (.lst [.ref t0])) t0 = some (.tup [bad, .int 1]) := upk hl0 upd_same
      have el0 : (upd (upd H4 t0 (.tup [bad, .int 1])) l0 (.lst [.ref t0])) l0 = some (.lst [.ref t0]) := upd_same
      have s5 : Same H4 (upd (upd H4 t0 (.tup [bad, .int 1])) l0 (.lst [.ref t0])) := (same_new ht0).trans (same_new hl0)
      generalize upd (upd H4 t0 (.tup [bad, .int 1])) l0 (.lst [.ref t0]) = H5 at e0 el0 s5
      refine ⟨_, rfl, a, _, rfl, s5 _ _ ea4, fun G l as sG hlG hasG nlas elG lnG ndG alG => ?_⟩
      have big : 4000 ≤ sizeLine := by decide
      refine ⟨l0, l, _, _, rfl, rfl, sG _ _ el0, elG, by rw [List.length_map, lnG, lev]; show 1 + es.length ≤ sizeLine; omega, fun lc hlc => nil_i ?_⟩
      have s6 : Same H5 (upd G lc (.lst ([.ref t0] ++ as.map V.ref))) := fun b o h => same_new hlc _ _ (sG b o h)
      have sg6 : Same G (upd G lc (.lst ([.ref t0] ++ as.map V.ref))) := same_new hlc
      have elc : (upd G lc (.lst ([.ref t0] ++ as.map V.ref))) lc = some (.lst ([.ref t0] ++ as.map V.ref)) := upd_same
      generalize upd G lc (.lst ([.ref t0] ++ as.map V.ref)) = H6 at s6 sg6 elc
      have bk6 := bk.keep (G' := H6) fun b xs h => s6 _ _ (s5 _ _ h)
      obtain ⟨nk, hnk, dnk⟩ := bk6.ky
      obtain ⟨ts, et, al2⟩ := mk_pn (H := H6) lnG fun i t k v h1 h2 => (alG i t k v h1 h2).elim fun q z => ⟨q, sg6 _ _ z.1, s6 _ _ z.2⟩
      have lts : ts.length = es.length := by
        have := congrArg List.length et
        rw [List.length_map] at this
        omega
      refine ⟨lc, ⟨t0, nk, bad, .int 1⟩ :: ts, rfl, SqL.of ?_, fun p hp => ?_, fun i p hp => ?_, fun p hp b => ?_, fun dd hdd => ?_⟩
      · rw [elc, List.map_cons, ← et, List.map_map]
        rfl
      · rcases List.mem_cons.mp hp with rfl | hp
        · exact ⟨SqT.of (s6 _ _ e0), hnk, dnk⟩
        · obtain ⟨b1, q, ky, b2, b3, b4, b5⟩ := al2 p hp
          refine ⟨SqT.of b1, ?_, ?_⟩
          · rw [b2, b3]
            exact .tup b5 (nkvs_keys ky)
          · rw [b3]
            show NestedKey.depthAll (ky.map nkOf) + 1 ≤ 8
            rw [depth_keys]
            omega
      · obtain ⟨b1, q, ky, b2, _⟩ := al2 p (List.mem_of_getElem? hp)
        exact ⟨q, b2⟩
      · have : p = ⟨t0, nk, bad, .int 1⟩ := (Option.some.inj hp).symm
        rw [this]
        exact bk6.nb b
      · obtain ⟨R, hR⟩ : ∃ R, rowsOf w (smerge (⟨t0, nk, bad, .int 1⟩ :: ts)) = R := ⟨_, rfl⟩
        show ∃ x, _ = _ ∧ _
        rw [show rowsOf (cxOf CX0 P w K mg base N_l_bent (Str.ofString "_law_bent") (defScope s_l_bent) T.l_bent.a cdv A outer s H E).w (smerge (⟨t0, nk, bad, .int 1⟩ :: ts)) = R from hR]
        have s46 : Same H4 H6 := s5.trans s6
        have d6 := d4.same s46
        have odd := d6.off hdd
        have d7 := d6.new (o := .ext (rawD R dd)) hdd
        have s7 : Same H6 (upd H6 dd (.ext (rawD R dd))) := same_new hdd
        have e7 : RawAt (upd H6 dd (.ext (rawD R dd))) dd R := upd_same
        have hRm : ∀ r ∈ R, ∃ p ∈ (⟨t0, nk, bad, .int 1⟩ :: ts : List PN), p.x = r.k := fun r hr => by
          rw [← hR] at hr
          obtain ⟨e, he, rfl⟩ := List.mem_map.mp hr
          rcases fold_from _ _ he with ⟨y, hy, _⟩ | z
          · cases hy
          · exact z
        have hR0 : ∃ r ∈ R, r.k = bad := by
          obtain ⟨e, he, ee⟩ := fold_keep ts (sput [] ⟨t0, nk, bad, .int 1⟩) (y := ⟨t0, nk, bad, .int 1⟩) (by unfold sput; simp)
          rw [← hR]
          exact ⟨_, List.mem_map.mpr ⟨e, he, rfl⟩, ee⟩
        have lR : R.length ≤ 100 := by
          rw [← hR]
          unfold rowsOf
          rw [List.length_map]
          have := smerge_len (⟨t0, nk, bad, .int 1⟩ :: ts)
          rw [List.length_cons] at this
          omega
        generalize upd H6 dd (.ext (rawD R dd)) = H7 at d7 s7 e7
        refine ⟨_, rfl, k (.ref dd) H7 d7 (k04.trans (Kp.of (s46.trans s7))) fun G2 kn => ?_⟩
        have tupk : ∀ b xs, H6 b = some (.tup xs) → G2 b = some (.tup xs) := fun b xs h => kn.tup d7 (s7 _ _ h)
        obtain ⟨bs, hbs, hf⟩ := judged (K := K) (row := row) (G := G2) (xs := R) (fun r hr => by
          obtain ⟨p, hp, ep⟩ := hRm r hr
          rw [← ep]
          rcases List.mem_cons.mp hp with rfl | hp
          · exact ⟨false, bk6.rd G2 tupk⟩
          · obtain ⟨b1, q, ky, b2, b3, b4, b5⟩ := al2 p hp
            rw [b2]
            exact ⟨_, key_rd (tupk _ _ b5) (kyL _ b4) (by omega)⟩) (by
          obtain ⟨r, hr, er⟩ := hR0
          exact ⟨r, hr, by rw [er]; exact bk6.rd G2 tupk⟩)
        exact .odd (kn _ _ e7 odd.1 odd.2.1 fun _ z => by cases z) lR hbs hf
    refine ⟨_, rfl, rfl, _, rfl, ite2 (fun c1 => ?_) (fun c1 => ?_)⟩
    · have hk : H4 u = some (.tup ((un.map Sum.inl : List Key).map kV)) := by
        rw [List.map_map]
        exact eu4
      refine tC_i ⟨_, rfl, _, rfl, d, _, rfl, DPut.t ed4 hk (by rw [lev]; exact smallB (by omega)), ?_⟩
      have d5 := d4.put (o := .dT (putK (enc (toV es)) (un.map Sum.inl) (.int 1))) od
      have e5 : (upd H4 d (.dT (putK (enc (toV es)) (un.map Sum.inl) (.int 1)))) d = some (.dT (putK (enc (toV es)) (un.map Sum.inl) (.int 1))) := upd_same
      have k05 := kput H4 (fun _ _ z _ _ => z) (.dT (putK (enc (toV es)) (un.map Sum.inl) (.int 1)))
      generalize upd H4 d (.dT (putK (enc (toV es)) (un.map Sum.inl) (.int 1))) = H5 at d5 e5 k05
      refine ⟨_, rfl, k (.ref d) H5 d5 k05 fun G kn => ?_⟩
      have sv := SV.dict (K := K) (row := row) (kn _ _ e5 od.1 od.2.1 fun _ z => by cases z) (by have := length_putK (enc (toV es)) (un.map Sum.inl) (V.int 1); rw [lev] at this; omega) (fun e he => ?_) (fun e he => ?_)
      · rw [okS_key (putK_has _ _ _) (okK_word unr)] at sv
        exact sv
      · rcases putK_mem he with he | rfl
        · exact kyL e he
        · show (un.map Sum.inl).length < 1000
          rw [List.length_map]
          omega
      · rcases putK_mem he with he | rfl
        · obtain ⟨i, hi⟩ := vlT e he
          rw [hi]
          exact ⟨_, .int i⟩
        · exact ⟨_, .int 1⟩
    refine ⟨_, rfl, rfl, _, rfl, ite2 (fun c2 => ?_) (fun c2 => ?_)⟩
    · have S : Same H4 H4 := fun _ _ z => z
      refine ⟨_, rfl, ?_⟩
      refine tcn (tlst ?_)
      refine tcn (tC_i (tcn (tC_i (tcn (tC_i (tcn (tC_i (tcn (tC_i ?_)))))))))
      refine tcn ⟨10, 9, rfl, rfl, ⟨by decide, by decide, by decide⟩, tC_i (rI0_add (i := 1000000000) (j := 1) (v := 1000000001) (by decide) ?_)⟩
      refine tcn ⟨10, 9, rfl, rfl, ⟨by decide, by decide, by decide⟩, rI0_sub (i := 0) (j := 1000000000) (v := -1000000000) (by decide) (tC_i (rI0_sub (i := -1000000000) (j := 1) (v := -1000000001) (by decide) ?_))⟩
      refine tcn ⟨(by show 1 ≤ sizeLine; decide), fun p1 h_p1 => ?_⟩
      have e_p1 : (upd H4 p1 (.tup [.int 1])) p1 = some (.tup [.int 1]) := upd_same
      have s_p1 : Same H4 (upd H4 p1 (.tup [.int 1])) := same_new h_p1
      generalize upd H4 p1 (.tup [.int 1]) = G_p1 at e_p1 s_p1
      replace S := S.trans s_p1
      have dG1 := d4.same S
      refine tcn ⟨(by show 1 ≤ sizeLine; decide), fun p2 h_p2 => ?_⟩
      have op2 := dG1.off h_p2
      have e_p2 : (upd G_p1 p2 (.lst [.int 1])) p2 = some (.lst [.int 1]) := upd_same
      have s_p2 : Same G_p1 (upd G_p1 p2 (.lst [.int 1])) := same_new h_p2
      generalize upd G_p1 p2 (.lst [.int 1]) = G at e_p2 s_p2
      replace e_p1 := s_p2 _ _ e_p1
      replace S := S.trans s_p2
      refine nil_i ⟨(by show 9 ≤ sizeLine; decide), fun l2 hl2 => nil_i ?_⟩
      have dG := d4.same S
      refine ⟨D, l2, _, rfl, .inl (SqL.of upd_same), (dG.off hl2).2.1, by simp, (by show 9 < 1073741824; decide), dG.new hl2, fun i5 v H5 hx d5 k5 => ?_⟩
      have kG5 : Kp D G H5 := (Kp.new hl2).trans k5
      have e1 := dG.tup kG5 e_p1
      have e2 := kG5.at op2 e_p2
      have ed5 := kG5.at od (S _ _ ed4)
      have k45 : Kp D H4 H5 := (Kp.of S).trans kG5
      clear k5 kG5 hl2 dG S e_p1 s_p1 s_p2 e_p2 dG1 h_p1
      refine ⟨_, rfl, ?_⟩
      refine ⟨(by show 1 ≤ sizeLine; decide), fun t ht => ?_⟩
      have et : (upd H5 t (.tup [.int 0])) t = some (.tup (([Sum.inl 0] : List Key).map kV)) := upd_same
      have s6 : Same H5 (upd H5 t (.tup [.int 0])) := same_new ht
      generalize upd H5 t (.tup [.int 0]) = H6 at et s6
      have ed6 := s6 _ _ ed5
      have d6 := d5.same s6
      refine ⟨d, _, rfl, DPut.t ed6 et (by rw [lev]; exact smallB (by omega)), ?_⟩
      have d7 := d6.put (o := .dT (putK (enc (toV es)) [Sum.inl 0] v)) od
      have e7 : (upd H6 d (.dT (putK (enc (toV es)) [Sum.inl 0] v))) d = some (.dT (putK (enc (toV es)) [Sum.inl 0] v)) := upd_same
      have k07 := kput H6 (k45.trans (Kp.of s6)) (.dT (putK (enc (toV es)) [Sum.inl 0] v))
      have e17 : (upd H6 d (.dT (putK (enc (toV es)) [Sum.inl 0] v))) p1 = some (.tup [.int 1]) := by rw [upd_ne (ne_of (s6 _ _ e1) ed6 (fun z => by cases z))]; exact s6 _ _ e1
      have e27 : (upd H6 d (.dT (putK (enc (toV es)) [Sum.inl 0] v))) p2 = some (.lst [.int 1]) := by rw [upd_ne (ne_of (s6 _ _ e2) ed6 (fun z => by cases z))]; exact s6 _ _ e2
      generalize upd H6 d (.dT (putK (enc (toV es)) [Sum.inl 0] v)) = H7 at d7 e7 k07 e17 e27
      refine ⟨_, rfl, k (.ref d) H7 d7 k07 fun G kn => ?_⟩
      have pv : okN v = false ∧ ∃ S, TyB K G v S := by
        have hx := List.mem_of_getElem? hx
        simp only [List.mem_cons, List.not_mem_nil, or_false] at hx
        rcases hx with rfl | rfl | rfl | rfl | rfl | rfl | rfl | rfl | rfl
        · exact ⟨by simp [okN, inB], _, .int 0⟩
        · exact ⟨by simp [okN, inB], _, .bl true⟩
        · exact ⟨by simp [okN, inB], _, .bl false⟩
        · exact ⟨by simp [okN, inB], _, .non⟩
        · exact ⟨by simp [okN, inB], _, .str _⟩
        · exact ⟨by simp [okN, inB], _, .int _⟩
        · exact ⟨by simp [okN, inB], _, .int _⟩
        · exact ⟨by simp [okN, inB], _, .tup (SqT.of (kn.tup d7 e17))⟩
        · exact ⟨by simp [okN, inB], _, .lst (SqL.of (kn.off op2 e27))⟩
      have sv := SV.dict (K := K) (row := row) (kn _ _ e7 od.1 od.2.1 fun _ z => by cases z) (by have := length_putK (enc (toV es)) [Sum.inl 0] v; rw [lev] at this; omega) (fun e he => ?_) (fun e he => ?_)
      · rw [okS_val (putK_has _ _ _) pv.1] at sv
        exact sv
      · rcases putK_mem he with he | rfl
        · exact kyL e he
        · show 1 < 1000
          decide
      · rcases putK_mem he with he | rfl
        · obtain ⟨i, hi⟩ := vlT e he
          rw [hi]
          exact ⟨_, .int i⟩
        · exact pv.2
    · have S : Same H4 H4 := fun _ _ z => z
      refine ⟨_, rfl, ?_⟩
      refine tcn (tlst ?_)
      refine tcn (tC_i (tcn (tC_i (tcn (tC_i ?_)))))
      refine tcn ⟨(by show 0 ≤ sizeLine; decide), fun p1 h_p1 => ?_⟩
      have op1 := (d4.same S).off h_p1
      have e_p1 : (upd H4 p1 (.lst [])) p1 = some (.lst []) := upd_same
      have s_p1 : Same H4 (upd H4 p1 (.lst [])) := same_new h_p1
      generalize upd H4 p1 (.lst []) = G_p1 at e_p1 s_p1
      replace S := S.trans s_p1
      refine tcn ⟨(by show 0 ≤ sizeLine; decide), fun p2 h_p2 => ?_⟩
      have e_p2 : (upd G_p1 p2 (.tup [])) p2 = some (.tup []) := upd_same
      have s_p2 : Same G_p1 (upd G_p1 p2 (.tup [])) := same_new h_p2
      generalize upd G_p1 p2 (.tup []) = G_p2 at e_p2 s_p2
      replace e_p1 := s_p2 _ _ e_p1
      replace S := S.trans s_p2
      refine tcn ⟨_, rfl, a, _, rfl, S _ _ ea4, fun G l as sG hlG hasG nlas elG lnG ndG alG => ?_⟩
      have op3 : Off D l := (d4.same S).off hlG
      replace e_p1 := sG _ _ e_p1
      replace e_p2 := sG _ _ e_p2
      replace S := S.trans sG
      refine tcn ⟨_, rfl, a, _, rfl, .inl (S _ _ ea4), fun p4 bs h_p4 kb => ?_⟩
      have e_p4 : (upd G p4 (.tup (bs.map V.ref))) p4 = some (.tup (bs.map V.ref)) := upd_same
      have s_p4 : Same G (upd G p4 (.tup (bs.map V.ref))) := same_new h_p4
      generalize upd G p4 (.tup (bs.map V.ref)) = G_p4 at e_p4 s_p4
      replace e_p1 := s_p4 _ _ e_p1
      replace e_p2 := s_p4 _ _ e_p2
      replace elG := s_p4 _ _ elG
      replace S := S.trans s_p4
      refine tcn ⟨(by show 1 ≤ sizeLine; decide), fun p5 h_p5 => ?_⟩
      have e_p5 : (upd G_p4 p5 (.tup [.int 0])) p5 = some (.tup [.int 0]) := upd_same
      have s_p5 : Same G_p4 (upd G_p4 p5 (.tup [.int 0])) := same_new h_p5
      generalize upd G_p4 p5 (.tup [.int 0]) = G_p5 at e_p5 s_p5
      replace e_p1 := s_p5 _ _ e_p1
      replace e_p2 := s_p5 _ _ e_p2
      replace elG := s_p5 _ _ elG
      replace e_p4 := s_p5 _ _ e_p4
      replace S := S.trans s_p5
      refine tcn (tC_i ?_)
      refine nil_i ⟨(by show 9 ≤ sizeLine; decide), fun l2 hl2 => nil_i ?_⟩
      have dG := d4.same S
      refine ⟨D, l2, _, rfl, .inl (SqL.of upd_same), (dG.off hl2).2.1, by simp, (by show 9 < 1073741824; decide), dG.new hl2, fun i5 v H5 hx d5 k5 => ?_⟩
      have kG5 := (Kp.new (D := D) hl2).trans k5
      have e1 := kG5.at op1 e_p1
      have e2 := dG.tup kG5 e_p2
      have e3 := kG5.at op3 elG
      have e4 := dG.tup kG5 e_p4
      have e5 := dG.tup kG5 e_p5
      refine k v H5 d5 (k04.trans ((Kp.of S).trans kG5)) fun G kn => ?_
      have hx := List.mem_of_getElem? hx
      simp only [List.mem_cons, List.not_mem_nil, or_false] at hx
      rcases hx with rfl | rfl | rfl | rfl | rfl | rfl | rfl | rfl | rfl
      · exact .non (.non) (by decide)
      · exact .non (.int 5) (by decide)
      · exact .non (.str _) (by decide)
      · exact .non (.lst (SqL.of (kn.off op1 e1))) (by decide)
      · exact .non (.tup (SqT.of (kn.tup d5 e2))) (by decide)
      · exact .non (.lst (SqL.of (kn.off op3 e3))) (by decide)
      · exact .non (.tup (SqT.of (kn.tup d5 e4))) (by decide)
      · exact .non (.tup (SqT.of (kn.tup d5 e5))) (by decide)
      · exact .non (.bl true) (by decide)
end
end Tt
set_option maxRecDepth 100000
set_option maxHeartbeats 4000000
namespace L2
open PySem PySem.Spec PyProof.Rows
inductive ShwB (K : PySem.W.Frag) (H : Hp) : V → Str → Prop where
  | non : ShwB K H .non "None"
  | bl (b : Bool) : ShwB K H (.bl b) (if b then "True" else "False")
  | str {x : Str} (h : (reprText x).length ≤ sizeLine) : ShwB K H (.str x) (reprText x)
  | ref {a : Addr} {d : PyData} (h : Dp K H (.ref a) d) (h1 : d.showable = true) (h2 : d.hasDict = false) (h3 : d.depth ≤ 60) (h4 : d.shown.length ≤ sizeLine) : ShwB K H (.ref a) d.shown
def rShowB (K : PySem.W.Frag) : List V → Hp → VK → Prop := fun xs H Q => ∃ x t, xs = [x] ∧ ShwB K H x t ∧ Q (.str t) H
section
variable {X : Cx}
theorem call_showB (hg : X.A.guards = some []) (hu : X.A.units + 64 < cLine) : CallR X (.builtin "repr") (rShowB X.K) := by
  intro pins s σ H xs us Q I r h
  obtain ⟨x, t, rfl, hs, q⟩ := h
  obtain ⟨u, rfl, rx⟩ := vals1 r
  cases hs with
  | non =>
    cases (show u = Value.none from rx)
    exact PySem.P.repr_of_none ⟨.str "None", H, I.tok _, ⟨_, rfl⟩, q⟩
  | bl b =>
    cases (show u = Value.bool b from rx)
    exact PySem.P.repr_of_bool ⟨.str (if b then "True" else "False"), H, I.tok _, ⟨_, rfl⟩, q⟩
  | @str x h =>
    obtain ⟨t, e⟩ := (show ∃ t, u = Value.str x t from rx)
    subst e
    exact PySem.P.repr_of_str ⟨.str (reprText x), H, I.tok _, ⟨_, rfl⟩, q⟩ h
  | @ref a d h h1 h2 h3 h4 =>
    cases (show u = Value.ref a from rx)
    obtain ⟨as, rd⟩ := Dp.reads I d (.ref a) (.ref a) h rfl
    exact repr_of_reads' rd h1 (fun z => absurd (h2.symm.trans z) (by decide)) hg (by omega) (fun b o e => e) (fun h' u tk k => ⟨.str d.shown, H, I.kept (t' := tk) k, ⟨u, rfl⟩, q⟩) h4
end
end L2
set_option maxRecDepth 100000
set_option maxHeartbeats 4000000
namespace Tt
open PySem L2
open LamX (Tabs TabS TabB ExtN CodeO)
section
variable {P : Program} {w : World} {K : PySem.W.Frag} {mg : Str → Option Value} {base : Heap}
theorem sw_is_sum (T : Txt K mg) : Swaps T.is_sum.fd "skin" "thing" := T.is_sum.F.swaps fun _ _ _ _ _ _ _ _ => rfl
theorem SumAt.kp {D : Dw} {row : List Int} {H H' : Hp} {a : Addr} {es : List (List Int × Int)} (s : SumAt row H a es) (dr : DrOk D H) (k : Kp D H H') : SumAt row H' a es :=
  ⟨k _ _ s.h (dr.nT s.h).1 (dr.nT s.h).2, s.ok, s.ks, s.vs, s.few, s.nd⟩
theorem okK_rnd {row ns : List Int} {b : Nat} (rl : row.length = 2 * b) (r : Rnd ns) (l : ns.length ≤ 40) (lt : ∀ x ∈ ns, 0 ≤ x ∧ x < 2 * (b : Int)) : okK row (ns.map Sum.inl) = true := by
  unfold okK
  rw [keyI_inl, decide_eq_true (show ns ≠ [] ∧ closedT ns = ns from r), Bool.and_true, Bool.and_eq_true]
  refine ⟨decide_eq_true (by rw [List.length_map]; omega), ?_⟩
  rw [List.map_map, List.all_eq_true]
  intro y hy
  obtain ⟨x, hx, rfl⟩ := List.mem_map.mp hy
  have := lt x hx
  show (decide (0 ≤ x) && decide (x ≤ hiE row)) = true
  unfold hiE
  rw [decide_eq_true this.1, decide_eq_true (by omega)]
  rfl
theorem okN_int {n : Int} (h0 : n ≠ 0) (h1 : -1000000000 ≤ n) (h2 : n ≤ 1000000000) : okN (V.int n) = true := by
  show (decide (-1000000000 ≤ n) && decide (n ≤ 1000000000) && !decide (V.int n = V.int 0)) = true
  rw [decide_eq_true h1, decide_eq_true h2, decide_eq_false (fun z => h0 (by injection z))]
  rfl
theorem sumAt_mk {row : List Int} {H : Hp} {a : Addr} {b : Nat} {ws : List (List Int)} {es : List (List Int × Int)} (h : H a = some (.dT (enc (toV es)))) (rl : row.length = 2 * b) (r : Rnds b ws) (ek : es.map (·.1) = ws) (ev : ∀ e ∈ es, e.2 ≠ 0 ∧ -1000000000 ≤ e.2 ∧ e.2 ≤ 1000000000) (few : es.length ≤ 60) : SumAt row H a es := by
  have kin : ∀ e ∈ es, e.1 ∈ ws := fun e he => by rw [← ek]; exact List.mem_map.mpr ⟨e, he, rfl⟩
  refine ⟨h, ?_, fun e he => ⟨(r.rd _ (kin e he)).1.1, (r.rd _ (kin e he)).2.1, (r.rd _ (kin e he)).1⟩, ev, few, by rw [ek]; exact r.nd⟩
  unfold okS
  rw [Bool.and_eq_true, Bool.and_eq_true, List.all_eq_true, List.all_eq_true]
  refine ⟨decide_eq_true (by rw [enc_len]; unfold toV; rw [List.length_map]; exact few), fun e he => ?_, fun e he => ?_⟩
  · obtain ⟨x, hx, rfl⟩ := List.mem_map.mp he
    obtain ⟨y, hy, rfl⟩ := List.mem_map.mp hx
    obtain ⟨q1, q2, q3⟩ := r.rd _ (kin y hy)
    exact okK_rnd rl q1 q2 q3
  · obtain ⟨x, hx, rfl⟩ := List.mem_map.mp he
    obtain ⟨y, hy, rfl⟩ := List.mem_map.mp hx
    obtain ⟨q1, q2, q3⟩ := ev y hy
    exact okN_int q1 q2 q3
theorem wide_sv {row : List Int} {H : Hp} {a : Addr} {es : List (List Int × Int)} (h : H a = some (.dT (enc (toV es)))) (n1 : 60 < es.length) (n2 : es.length ≤ 100) (ks : ∀ e ∈ es, e.1.length ≤ 40) : SV K row H (.ref a) false := by
  have := SV.dict (K := K) (row := row) h (by rw [enc_len]; unfold toV; rw [List.length_map]; exact n2) (fun e he => by
    obtain ⟨x, hx, rfl⟩ := List.mem_map.mp he
    obtain ⟨y, hy, rfl⟩ := List.mem_map.mp hx
    show (y.1.map Sum.inl).length < 1000
    rw [List.length_map]
    have := ks y hy
    omega) fun e he => by
    obtain ⟨x, hx, rfl⟩ := List.mem_map.mp he
    obtain ⟨y, hy, rfl⟩ := List.mem_map.mp hx
    exact ⟨_, .int y.2⟩
  rw [show okS row (enc (toV es)) = false by
    unfold okS
    rw [decide_eq_false (by rw [enc_len]; unfold toV; rw [List.length_map]; omega), Bool.false_and]] at this
  exact this
def blsD (bs : List Bool) : PyData := .list (bs.map .bool)
theorem dpAll_bls {H : Hp} : ∀ bs : List Bool, DpAll K H (bs.map V.bl) (bs.map PyData.bool)
  | [] => .nil
  | b :: bs => .cons (.bl b) (dpAll_bls bs)
theorem bls_shw {H : Hp} {a : Addr} {bs : List Bool} {t : Str} (h : H a = some (.lst (bs.map V.bl))) (e : (blsD bs).shown = t) (h1 : (blsD bs).showable = true) (h2 : (blsD bs).hasDict = false) (h3 : (blsD bs).depth ≤ 60) (h4 : (blsD bs).shown.length ≤ sizeLine) : ShwB K H (.ref a) t := by
  rw [← e]
  exact .ref (.lst (SqL.of h) (dpAll_bls bs)) h1 h2 h3 h4
theorem ttt : (blsD [true, true, true]).shown = "[True, True, True]" := by rfl
theorem ft : (blsD [false, true]).shown = "[False, True]" := by rfl
def spJudged (T : Txt K mg) : Sp := fun vs H Q _ => ∃ (D : Dw) (p a : Addr) (b : Nat) (row : List Int) (es : List (List Int × Int)), vs = [.ref D.d, .ref p, .int (b : Int), .ref a] ∧ 1 ≤ b ∧ b ≤ 6 ∧ row.length = 2 * b ∧ SkAt T H p row ∧ SumAt row H a es ∧ DrOk D H ∧
  ∀ H', DrOk D H' → Kp D H H' → Q (.bl true) H'
theorem ok_l_judged (T : Txt K mg) : FnG P w K mg base CX0 9 T.l_judged.a T.l_judged.fd ["draw", "skin", "bands", "one"] (spJudged T) := by
  refine FunG T.l_judged.F sc_l_judged (fun vs H Q E h => ?_) (fun cdv A outer s H vs Q E hg hr h => ?_)
  · obtain ⟨D, p, a, b, row, es, rfl, _⟩ := h
    rfl
  · obtain ⟨D, p, a, b, row, es, rfl, b1, b6, rl, sk, sm, dr, k⟩ := h
    have nd := sc_l_judged.nd
    have hu := hu_of hr
    refine ⟨_, (pss_cons (ps_if (pt_cmpR op_ne (pe_callB (call_showB hg hr.units) (by rfl) T.zrepr (by decide +kernel) (pa_cons (pe_lst (pa_cons (pe_call (ok_is_sum T) (hr.mono (by decide)) (by rfl) T.is_sum.g T.is_sum.k T.is_sum.b .nil passF (pa_cons (pv 1) (pa_cons (pv 3) pa_nil))) (pa_cons (pe_callSw (ok_is_sum T) (hr.mono (by decide)) (by rfl) T.is_sum.g T.is_sum.k (sw_is_sum T) passF (pv 3) (pv 1)) (pa_cons (pe_call (ok_is_sum T) (hr.mono (by decide)) (by rfl) T.is_sum.g T.is_sum.k T.is_sum.b .nil passF (pa_cons (pv 1) (pa_cons pe_dnewT pa_nil))) pa_nil)))) pa_nil)) pe_str (nomark _))
      (pss_one (ps_ret pe_bl))
      pss_nil)
    (pss_cons (ps_for PassesOwn.never rfl (pi_range1 rfl T.zrange (pa_cons pe_int pa_nil)) (pg_name (i := 4) nd rfl (Or.inl rfl))
      (pss_one (ps_if (pt_cmpR op_ne (pe_callB (call_showB hg hr.units) (by rfl) T.zrepr (by decide +kernel) (pa_cons (pe_call (ok_is_sum T) (hr.mono (by decide)) (by rfl) T.is_sum.g T.is_sum.k T.is_sum.b .nil passF (pa_cons (pv 1) (pa_cons (pe_call (ok_l_bent T) (hr.mono (by decide)) (by rfl) T.l_bent.g T.l_bent.k T.l_bent.b .nil pass0 (pa_cons (pv 0) (pa_cons (pv 2) (pa_cons (pv 3) pa_nil)))) pa_nil))) pa_nil)) pe_str (nomark _))
        (pss_one (ps_ret pe_bl))
        pss_nil)))
    (pss_cons (ps_set (i := 5) nd rfl (Or.inl rfl) (pe_call (ok_l_numbered T) (hr.mono (by decide)) (by rfl) T.l_numbered.g T.l_numbered.k T.l_numbered.b .nil pass0 (pa_cons (pv 0) (pa_cons (pe_call (ok_l_unlike_rounds T) (hr.mono (by decide)) (by rfl) T.l_unlike_rounds.g T.l_unlike_rounds.k T.l_unlike_rounds.b .nil pass0 (pa_cons (pv 0) (pa_cons (pv 2) (pa_cons pe_int pa_nil)))) pa_nil))))
    (pss_cons (ps_set (i := 6) nd rfl (Or.inl rfl) (pe_callTy (cr_dictPT rfl hr.units) (by rfl) T.zdict (by decide +kernel) (pa_cons (pe_slice sl_list (pe_listItemsT rfl (pv 5) (by rfl) T.zlist (by decide +kernel)) (po_some pe_int) po_none) pa_nil)))
    (pss_one (ps_ret (pe_cmpR op_eq (pe_callB (call_showB hg hr.units) (by rfl) T.zrepr (by decide +kernel) (pa_cons (pe_lst (pa_cons (pe_call (ok_is_sum T) (hr.mono (by decide)) (by rfl) T.is_sum.g T.is_sum.k T.is_sum.b .nil passF (pa_cons (pv 1) (pa_cons (pv 5) pa_nil))) (pa_cons (pe_call (ok_is_sum T) (hr.mono (by decide)) (by rfl) T.is_sum.g T.is_sum.k T.is_sum.b .nil passF (pa_cons (pv 1) (pa_cons (pv 6) pa_nil))) pa_nil))) pa_nil)) pe_str (nomark _)))))))), ?_⟩
    have h12 : row.length ≤ 12 ∧ row.length % 2 = 0 := ⟨by omega, by omega⟩
    have isS : ∀ {H' : Hp} {x : V} {b : Bool} {Q : VK} {E : XK}, SkAt T H' p row → SV K row H' x b → (∀ H2, Same H' H2 → Q (.bl b) H2) → spIsSum T [.ref p, x] H' Q E := fun sk sv k => ⟨_, _, rfl, .inr ⟨p, row, _, rfl, sk, h12, sv, k⟩⟩
    refine sqn ⟨_, rfl, _, rfl, nil_i (isS sk sm.sv fun H1 s1 => ?_)⟩
    refine tcn ⟨_, rfl, _, rfl, nil_i (isS (sk.same s1) (sm.same s1).sv fun H2 s2 => ?_)⟩
    have s02 := s1.trans s2
    refine tcn ⟨_, rfl, fun d hd => nil_i (isS (sk.same (s02.trans (same_new hd))) (show SV K row _ (.ref d) true from .dict (kvs := []) upd_same (by simp) (fun e he => by cases he) (fun e he => by cases he)) fun H3 s3 => ?_)⟩
    have s03 := (s02.trans (same_new (o := .dT []) hd)).trans s3
    clear s1 s2 s02 s3 hd
    refine nil_i ⟨(by show 3 ≤ sizeLine; decide), fun l1 hl1 => nil_i ⟨_, _, rfl, bls_shw (bs := [true, true, true]) upd_same ttt rfl rfl (by decide) (by decide), rfl, _, rfl, ite2 (fun c => absurd c (by simp)) (fun _ => ?_)⟩⟩
    have s04 : Same H (upd H3 l1 (.lst [.bl true, .bl true, .bl true])) := s03.trans (same_new hl1)
    generalize upd H3 l1 (.lst [.bl true, .bl true, .bl true]) = H4 at s04
    have d4 := dr.same s04
    have sk4 := sk.same s04
    have sm4 := sm.same s04
    have k04 := Kp.of (D := D) s04
    clear s03 s04 hl1
    dsimp only [tNext]
    refine sqn ⟨4, rfl, by decide, by decide, ?_⟩
    refine for_range (n := 4) (fun i σ H' => (∃ v4 v5 v6 : Option V, σ = [some (.ref D.d), some (.ref p), some (.int (b : Int)), some (.ref a), v4, v5, v6]) ∧ DrOk D H' ∧ Kp D H H')
      ⟨⟨_, _, _, rfl⟩, d4, k04⟩ ?_ ?_
    · rintro i σ H5 hi ⟨⟨v4, v5, v6, rfl⟩, d5, k5⟩
      refine ⟨_, rfl, _, rfl, _, rfl, _, rfl, D, b, a, row, es, rfl, b1, b6, rl, sm.kp dr k5, d5, fun v H6 d6 k6 ev => ?_⟩
      refine nil_i (isS ((sk.kp dr k5).kp d5 k6) (ev H6 fun _ _ z _ _ _ => z) fun H7 s7 => nil_i ?_)
      exact ⟨_, _, rfl, .bl false, rfl, _, rfl, ite2 (fun c => absurd c (by simp)) (fun _ => ⟨⟨_, _, _, rfl⟩, d6.same s7, (k5.trans k6).trans (Kp.of s7)⟩)⟩
    rintro σ H5 ⟨⟨v4, v5, v6, rfl⟩, d5, k5⟩
    have sk5 := sk.kp dr k5
    clear d4 sk4 sm4 k04
    dsimp only
    refine sqn ⟨_, rfl, _, rfl, _, rfl, D, b, 61, rfl, b1, b6, by decide, d5, fun ws l H6 d6 k6 hl ol wa lw rw6 => ?_⟩
    refine ⟨D, l, ws, rfl, wa, ol, rw6.nd, by omega, d6, fun ew wd H7 d7 k7 hwd owd e7 ek ev => ?_⟩
    have lew : ew.length = 61 := by rw [← lw, ← ek, List.length_map]
    have k57 := k6.trans k7
    have sk7 := sk5.kp d5 k57
    have k07 := k5.trans k57
    have kew : ∀ e ∈ ew, e.1.length ≤ 40 := fun e he => (rw6.rd e.1 (by rw [← ek]; exact List.mem_map.mpr ⟨e, he, rfl⟩)).2.1
    dsimp only
    refine sqn ⟨_, rfl, wd, _, rfl, e7, fun G l2 as sG hlG hasG nlas elG lnG ndG alG => ?_⟩
    refine tpart_i (tC_i ⟨1, rfl, l2, _, rfl, SqL.of elG, fun l3 hl3 => ?_⟩)
    rw [show cutV (as.map V.ref) (some 1) none = (as.tail).map V.ref by rw [show (1 : Int) = ((1 : Nat) : Int) from rfl, cut_from, ← List.map_drop, List.drop_one]]
    obtain ⟨e0, ew', rfl⟩ : ∃ e0 ew', ew = e0 :: ew' := by
      cases ew with
      | nil => cases lew
      | cons x y => exact ⟨x, y, rfl⟩
    obtain ⟨a0, as', rfl⟩ : ∃ a0 as', as = a0 :: as' := by
      cases as with
      | nil => rw [enc_len] at lnG; cases lnG
      | cons x y => exact ⟨x, y, rfl⟩
    have s3 : Same G (upd G l3 (.lst (as'.map V.ref))) := same_new hl3
    have e3 : (upd G l3 (.lst (as'.map V.ref))) l3 = some (.lst (as'.map V.ref)) := upd_same
    have nd' : (ew'.map (·.1)).Nodup := by
      have := rw6.nd
      rw [← ek, List.map_cons] at this
      exact (List.nodup_cons.mp this).2
    refine nil_i (copy_of (H := upd G l3 (.lst (as'.map V.ref))) (es := ew') e3 (by simpa [enc, toV] using lnG) nd' (fun i t k v h1 h2 => ?_) fun d hd => ?_)
    · obtain ⟨q, z1, z2⟩ := alG (i + 1) t k v (by simpa using h1) (by simpa [enc, toV] using h2)
      exact ⟨q, s3 _ _ z1, s3 _ _ (sG _ _ z2)⟩
    have s78 : Same H7 (upd (upd G l3 (.lst (as'.map V.ref))) d (.dT (enc (toV ew')))) := fun b o h => same_new hd _ _ (s3 _ _ (sG b o h))
    have e8 : (upd (upd G l3 (.lst (as'.map V.ref))) d (.dT (enc (toV ew')))) d = some (.dT (enc (toV ew'))) := upd_same
    generalize upd (upd G l3 (.lst (as'.map V.ref))) d (.dT (enc (toV ew'))) = H8 at s78 e8
    have sk8 := sk7.same s78
    have lew' : ew'.length = 60 := by
      have : ew'.length + 1 = 61 := lew
      omega
    have rw8 : Rnds b (ew'.map (·.1)) := ⟨nd', fun y hy => rw6.rd y (by rw [← ek, List.map_cons]; exact List.mem_cons_of_mem _ hy)⟩
    have sm8 : SumAt row H8 d ew' := sumAt_mk e8 rl rw8 rfl (fun e he => ev e (List.mem_cons_of_mem _ he)) (by omega)
    dsimp only
    refine ⟨_, rfl, _, rfl, nil_i (isS sk8 (wide_sv (s78 _ _ e7) (by omega) (by omega) kew) fun H9 s9 => ?_)⟩
    refine tcn ⟨_, rfl, _, rfl, nil_i (isS (sk8.same s9) (sm8.same s9).sv fun H10 s10 => ?_)⟩
    refine nil_i ⟨(by show 2 ≤ sizeLine; decide), fun l4 hl4 => nil_i ⟨_, _, rfl, bls_shw (bs := [false, true]) upd_same ft rfl rfl (by decide) (by decide), rfl, ?_⟩⟩
    have s8b := (s78.trans (s9.trans s10)).trans (same_new (o := .lst [.bl false, .bl true]) hl4)
    have := k _ (d7.same s8b) (k07.trans (Kp.of s8b))
    rw [show decide (V.str "[False, True]" = V.str (Str.ofString "[False, True]")) = true by simp]
    exact this
end
end Tt
set_option maxRecDepth 100000
set_option maxHeartbeats 4000000
namespace L2
open PySem PySem.Spec PyProof.Rows
def Swaps4 (fd : FuncData) (a b c d : Str) : Prop := ∀ (s : Shared) (v u z y : Value), BindsTo s fd ⟨[], [(d, v), (c, u), (b, z), (a, y)]⟩ [(a, y), (b, z), (c, u), (d, v)]
theorem Fun.swaps4 {K : PySem.W.Frag} {x qual : Str} {st : Stmt} {f : Addr} {fd : FuncData} {a b c d : Str} (F : Fun K x qual st f fd)
    (h : ∀ (kV doc pm : Value) (an : Option Addr) (cdv ct v u z y : Value), bindArgs (PySem.W.fnOf x qual (defArgs st) (defBody st) (defScope st) .none kV doc pm an cdv ct) ⟨[], [(d, v), (c, u), (b, z), (a, y)]⟩ = pure [(a, y), (b, z), (c, u), (d, v)]) : Swaps4 fd a b c d := by
  obtain ⟨oc, od, kV, doc, pm, an, cdv, ct, osl, rfl, lk, hcd⟩ := F.ex
  exact fun s v u z y => BindsTo.of_eq (h kV doc pm an cdv ct v u z y)
def tSw4 (sp : Sp) (E : XK) (t1 t2 t3 t4 : TE) : TE := fun σ H Q => tCons t1 (tCons t2 (tCons t3 (tCons t4 tNil))) σ H fun zs H2 => sp zs.reverse H2 Q E
section
variable {X : Cx} {CX : CXT} {k : Nat} {f : Addr} {fd : FuncData} {a b c d : Str} {sp : Sp} {E : XK} {x : Str} {p p1 p2 p3 p4 pos : Pos} {e1 e2 e3 e4 : Expr} {t1 t2 t3 t4 : TE}
theorem run_sw4 {pins : List (Addr × Obj)} {σ : St} {H : Hp} {s : Shared} {Q : VK} {v u z y : V} {v' u' z' y' : Value} (F : FnOk X.prog X.w X.K X.mg X.base CX k f fd [a, b, c, d] sp) (hr : Room k X.A) (hb : Swaps4 fd a b c d) (hx : Passes CX X E)
    (I : Inv X pins σ H s) (r1 : RelV v v') (r2 : RelV u u') (r3 : RelV z z') (r4 : RelV y y') (h : sp [y, z, u, v] H Q E) : wpAny (model X.prog X.w) X.A (call (.ref f) [] [(d, v'), (c, u'), (b, z'), (a, y')]) (EP X pins σ Q) X.xe s := by
  refine wpAny_call (codeAny_mono (F.run X.A X.stack s H ⟨[], [(d, v'), (c, u'), (b, z'), (a, y')]⟩ [y', z', u', v'] [y, z, u, v] Q E hr I.env0 (hb s v' u' z' y') (.cons r4 (.cons r3 (.cons r2 (.cons r1 .nil)))) h) fun r s' hq => ?_)
  cases r with
  | error e => exact hx pins σ H s e s' I hq
  | ok fl =>
    cases fl with
    | ret u => exact I.after hq
    | next => exact False.elim hq
    | brk => exact False.elim hq
    | cont => exact False.elim hq
theorem pe_callSw4 (F : FnOk X.prog X.w X.K X.mg X.base CX k f fd [a, b, c, d] sp) (hr : Room k X.A) (hg : Gl X x) (hm : X.mg x = some (.ref f)) (hk : PySem.W.keepIn X.K (.ref f) = true) (hb : Swaps4 fd a b c d) (hx : Passes CX X E)
    (h1 : PE X e1 t1) (h2 : PE X e2 t2) (h3 : PE X e3 t3) (h4 : PE X e4 t4) (hdb : (x == ("__debug__" : Str)) = false := by decide)
    (hall : (backToKw pos (keywordEach [⟨some d, e1, p1⟩, ⟨some c, e2, p2⟩, ⟨some b, e3, p3⟩, ⟨some a, e4, p4⟩] X.env)).all (·.1.isSome) = true := by rfl) (hks : (backToKw pos (keywordEach [⟨some d, e1, p1⟩, ⟨some c, e2, p2⟩, ⟨some b, e3, p3⟩, ⟨some a, e4, p4⟩] X.env)).filterMap (·.1) = [d, c, b, a] := by rfl)
    (hpl : ((backTo pos (starEach [] X.env)).any (·.1) || (backToKw pos (keywordEach [⟨some d, e1, p1⟩, ⟨some c, e2, p2⟩, ⟨some b, e3, p3⟩, ⟨some a, e4, p4⟩] X.env)).any (·.1.isNone)) = false := by rfl) :
    PE X (.Call (.Name x p) [] [⟨some d, e1, p1⟩, ⟨some c, e2, p2⟩, ⟨some b, e3, p3⟩, ⟨some a, e4, p4⟩] pos) (tSw4 sp E t1 t2 t3 t4) := by
  refine ⟨fun pins s σ H Q I h => ?_⟩
  refine wpAny_Call_Name_kw (ld_glob I hg hm ?_ hdb)
  refine PySem.W.callWith_KW0 (h₀ := X.base) I.ok.mod.kin hk hall ?_ hpl
  refine thn ((pk_cons h1 (pk_cons h2 (pk_cons h3 (pk_cons h4 pk_nil)))).run pos pins s σ H _ I h) fun ws s2 ⟨zs, H2, J, rz, q⟩ => ⟨J.kIn, ?_⟩
  rw [hks]
  have hl := F.len _ _ _ _ q
  rw [List.length_reverse] at hl
  cases rz with
  | nil => exact absurd hl (by simp)
  | cons r1 rz =>
    cases rz with
    | nil => exact absurd hl (by simp)
    | cons r2 rz =>
      cases rz with
      | nil => exact absurd hl (by simp)
      | cons r3 rz =>
        cases rz with
        | nil => exact absurd hl (by simp)
        | cons r4 rz =>
          cases rz with
          | nil => exact run_sw4 F hr hb hx J r1 r2 r3 r4 q
          | cons r5 rz => exact absurd hl (by simp)
end
end L2
set_option maxRecDepth 100000
set_option maxHeartbeats 4000000
namespace L2
open PySem PySem.Spec PyProof.Rows
theorem Sy.small {i : Int} (h : i.natAbs < 16) : Sy 0 4 (.int i) := by
  have h1 := Sy.int (i := i) (Nat.lt_of_lt_of_le h (by decide))
  refine ⟨h1.sh, h1.dp, h1.lv, ?_⟩
  show (if i == 0 then 0 else i.natAbs.log2 + 1) ≤ 4
  split
  · omega
  · rename_i z
    have z' : i.natAbs ≠ 0 := fun e => z (by rw [Int.natAbs_eq_zero.mp e]; rfl)
    have := (Nat.log2_lt z').mpr (show i.natAbs < 2 ^ 4 from h)
    omega
theorem Sy.rowS {ns : List Int} (h : ∀ x ∈ ns, x.natAbs < 16) : Sy 1 (ns.length * 5) (rowD ns) := by
  have := Sy.tuple (k := 0) (w := 4) (ds := ns.map PyData.int) fun d hd => by
    obtain ⟨x, hx, rfl⟩ := List.mem_map.mp hd
    exact Sy.small (h x hx)
  rwa [List.length_map] at this
end L2
namespace Tt
open PySem L2
theorem sy_dtS {ps : List (List Int × Int)} {c : Nat} (hm : ps.length ≤ c) (h : ∀ e ∈ ps, e.1.length ≤ 40 ∧ (∀ x ∈ e.1, x.natAbs < 16) ∧ e.2.natAbs < 10 ^ 20) : Sy 2 (c * 402) (dtD ps) := by
  have := Sy.dict (k := 1) (w := 200) (ds := ps.map fun p => (rowD p.1, PyData.int p.2)) fun d hd => by
    obtain ⟨e, he, rfl⟩ := List.mem_map.mp hd
    obtain ⟨a, b, c⟩ := h e he
    exact ⟨(Sy.rowS b).mono (Nat.le_refl _) (by omega), (Sy.int c).mono (Nat.zero_le _) (by omega)⟩
  refine this.mono (Nat.le_refl _) (Nat.mul_le_mul_right _ ?_)
  rw [List.length_map]
  exact hm
def sumOn (es : List (List Int × V)) (rows : List (List Int × Int)) : List (List Int × V) := rows.foldl (fun es e => addN es e.1 e.2) es
theorem sumOn_snoc (es : List (List Int × V)) (rows : List (List Int × Int)) (e : List Int × Int) : sumOn es (rows ++ [e]) = addN (sumOn es rows) e.1 e.2 := by
  unfold sumOn
  rw [List.foldl_append]
  rfl
theorem sumUp_app (a b : List (List Int × Int)) : sumUp (a ++ b) = sumOn (sumUp a) b := by
  unfold sumUp sumOn
  rw [List.foldl_append]
theorem valV_none {es : List (List Int × V)} {k : List Int} (h : k ∉ es.map (·.1)) : valV es k = none := by
  induction es with
  | nil => rfl
  | cons x es ih =>
    rw [List.map_cons] at h
    have h1 : ¬ x.1 = k := fun z => h (z ▸ List.mem_cons_self ..)
    exact (valV_neg (p := x) h1).trans (ih fun z => h (List.mem_cons_of_mem _ z))
theorem addN_new {es : List (List Int × V)} {k : List Int} (n : Int) (h : k ∉ es.map (·.1)) : addN es k n = es ++ [(k, .int n)] := by
  unfold addN
  rw [valV_none h]
  unfold putK
  rw [if_neg]
  · rw [show numO (none : Option V) + n = n from Int.zero_add n]
  · intro z
    obtain ⟨x, hx, q⟩ := List.any_eq_true.mp z
    exact h (List.mem_map.mpr ⟨x, hx, of_decide_eq_true q⟩)
theorem sumUp_self {rows : List (List Int × Int)} (h : (rows.map (·.1)).Nodup) : sumUp rows = toV rows := by
  have gen : ∀ (rows : List (List Int × Int)) (es : List (List Int × V)), (es.map (·.1) ++ rows.map (·.1)).Nodup → rows.foldl (fun es e => addN es e.1 e.2) es = es ++ toV rows := fun rows => by
    induction rows with
    | nil =>
      intro es _
      show es = es ++ []
      rw [List.append_nil]
    | cons r rows ih =>
      intro es nd
      have nin : r.1 ∉ es.map (·.1) := fun z => (List.nodup_append.mp nd).2.2 _ z _ (List.mem_cons_self ..) rfl
      rw [List.foldl_cons, addN_new _ nin, ih _ (by rw [List.map_append, List.append_assoc]; exact nd), List.append_assoc]
      rfl
  have := gen rows [] (by simpa using h)
  simpa [sumUp] using this
theorem times_one (es : List (List Int × Int)) : timesR es 1 = es := by
  unfold timesR
  rw [List.map_congr_left (g := id) fun e _ => by simp, List.map_id]
theorem times_keys (es : List (List Int × Int)) (t : Int) : (timesR es t).map (·.1) = es.map (·.1) := by
  unfold timesR
  rw [List.map_map]
  rfl
theorem sum_ones {es1 es2 : List (List Int × Int)} {t : Int} (h : (es1.map (·.1)).Nodup) : sumUp (timesR es1 1 ++ timesR es2 t) = sumOn (toV es1) (timesR es2 t) := by
  rw [times_one, sumUp_app, sumUp_self h]
theorem valV_put (es : List (List Int × V)) (k k' : List Int) (v : V) : valV (putK es k v) k' = if k = k' then some v else valV es k' := by
  unfold putK
  split
  · rename_i h
    induction es with
    | nil => cases h
    | cons x es ih =>
      rw [List.map_cons]
      by_cases c : x.1 = k
      · rw [if_pos c]
        by_cases d : k = k'
        · rw [if_pos d]
          exact valV_pos (p := (x.1, v)) (c.trans d)
        · rw [if_neg d]
          have n1 : ¬ (x.1, v).1 = k' := fun z => d (c.symm.trans z)
          have n2 : ¬ x.1 = k' := fun z => d (c.symm.trans z)
          refine (valV_neg (p := (x.1, v)) n1).trans (Eq.trans ?_ (valV_neg (p := x) n2).symm)
          by_cases e : (es.any fun kv => decide (kv.1 = k)) = true
          · rw [ih e, if_neg d]
          · have : (es.map fun kv => if kv.1 = k then (kv.1, v) else kv) = es := by
              rw [List.map_congr_left (g := id) fun y hy => ?_, List.map_id]
              have : ¬ y.1 = k := fun z => e (List.any_eq_true.mpr ⟨y, hy, decide_eq_true z⟩)
              show (if y.1 = k then _ else _) = y
              rw [if_neg this]
            rw [this]
      · rw [if_neg c]
        have h' : (es.any fun kv => decide (kv.1 = k)) = true := by
          rw [List.any_cons, decide_eq_false c, Bool.false_or] at h
          exact h
        by_cases d : x.1 = k'
        · have kk : ¬ k = k' := fun z => c (d.trans z.symm)
          rw [if_neg kk]
          exact (valV_pos (p := x) d).trans (valV_pos (p := x) d).symm
        · exact (valV_neg (p := x) d).trans ((ih h').trans (by
            by_cases e : k = k'
            · rw [if_pos e, if_pos e]
            · rw [if_neg e, if_neg e]
              exact (valV_neg (p := x) d).symm))
  · rename_i h
    have hn : k ∉ es.map (·.1) := fun z => by
      obtain ⟨x, hx, e⟩ := List.mem_map.mp z
      exact h (List.any_eq_true.mpr ⟨x, hx, decide_eq_true e⟩)
    clear h
    induction es with
    | nil =>
      by_cases d : k = k'
      · rw [if_pos d]
        exact valV_pos (p := (k, v)) d
      · rw [if_neg d]
        exact valV_neg (p := (k, v)) d
    | cons x es ih =>
      rw [List.map_cons] at hn
      have hn' := fun z => hn (List.mem_cons_of_mem _ z)
      have nx : ¬ x.1 = k := fun z => hn (z ▸ List.mem_cons_self ..)
      rw [List.cons_append]
      by_cases d : x.1 = k'
      · have kk : ¬ k = k' := fun z => nx (d.trans z.symm)
        rw [if_neg kk]
        exact (valV_pos (p := x) d).trans (valV_pos (p := x) d).symm
      · refine (valV_neg (p := x) d).trans ((ih hn').trans ?_)
        by_cases e : k = k'
        · rw [if_pos e, if_pos e]
        · rw [if_neg e, if_neg e]
          exact (valV_neg (p := x) d).symm
def tot (rows : List (List Int × Int)) (k : List Int) : Int := (rows.map fun r => if r.1 = k then r.2 else 0).sum
theorem valV_sumOn : ∀ (rows : List (List Int × Int)) (es : List (List Int × V)) (k : List Int), numO (valV (sumOn es rows) k) = numO (valV es k) + tot rows k
  | [], es, k => (Int.add_zero _).symm
  | r :: rows, es, k => by
    have ih := valV_sumOn rows (addN es r.1 r.2) k
    show numO (valV (sumOn (addN es r.1 r.2) rows) k) = _
    rw [ih]
    unfold addN tot
    rw [valV_put, List.map_cons, List.sum_cons]
    by_cases c : r.1 = k
    · rw [if_pos c, if_pos c, c]
      show (numO (valV es k) + r.2) + _ = _
      omega
    · rw [if_neg c, if_neg c]
      omega
theorem tot_app (a b : List (List Int × Int)) (k : List Int) : tot (a ++ b) k = tot a k + tot b k := by
  unfold tot
  rw [List.map_append, List.sum_append]
theorem tot_neg : ∀ (es : List (List Int × Int)) (k : List Int), tot (timesR es (-1)) k = - tot es k
  | [], _ => rfl
  | e :: es, k => by
    have ih := tot_neg es k
    unfold tot timesR at ih ⊢
    rw [List.map_cons, List.map_cons, List.map_cons, List.sum_cons, List.sum_cons, ih]
    by_cases c : e.1 = k
    · rw [if_pos c, if_pos c]
      omega
    · rw [if_neg c, if_neg c]
      omega
theorem gath_zero {es : List (List Int × V)} (h : ∀ k, numO (valV es k) = 0) : ∀ ks, gath es ks = [] := fun ks => by
  have gen : ∀ (ks : List (List Int)) (acc : List (List Int × V)), ks.foldl (fun acc k => if numO (valV es k) = 0 then acc else putK acc k (.int (numO (valV es k)))) acc = acc := fun ks => by
    induction ks with
    | nil => exact fun acc => rfl
    | cons k ks ih =>
      intro acc
      rw [List.foldl_cons, if_pos (h k)]
      exact ih acc
  exact gen ks []
theorem sum_away (es : List (List Int × Int)) (ks : List (List Int)) : gath (sumUp (timesR es 1 ++ timesR es (-1))) ks = [] := by
  refine gath_zero (fun k => ?_) ks
  show numO (valV (sumOn [] (timesR es 1 ++ timesR es (-1))) k) = 0
  rw [valV_sumOn, times_one, tot_app, tot_neg]
  show 0 + (tot es k + -tot es k) = 0
  omega
theorem sumOn_bnd (M : Nat) : ∀ (rows : List (List Int × Int)) (B : Nat) (es : List (List Int × V)), (∀ e ∈ rows, e.2.natAbs ≤ M) → Bnd B es → Bnd (B + rows.length * M) (sumOn es rows)
  | [], B, es, _, hb => hb.mono (by omega)
  | r :: rows, B, es, hr, hb => by
    have h1 := hr r List.mem_cons_self
    have h2 := hb.num r.1
    have := sumOn_bnd M rows (B + M) (addN es r.1 r.2) (fun e he => hr e (List.mem_cons_of_mem _ he)) ((hb.mono (by omega)).put (by omega))
    refine this.mono ?_
    rw [List.length_cons, Nat.add_mul]
    omega
theorem sumOn_int (es : List (List Int × V)) (rows : List (List Int × Int)) (h : IntV es) : IntV (sumOn es rows) := by
  induction rows generalizing es with
  | nil => exact h
  | cons r rows ih => exact ih _ (h.put _ _)
theorem toV_int (es : List (List Int × Int)) : IntV (toV es) := fun e he => by
  obtain ⟨x, _, rfl⟩ := List.mem_map.mp he
  exact ⟨x.2, rfl⟩
theorem putK_len2 (es : List (List Int × V)) (k : List Int) (v : V) : (putK es k v).length ≤ es.length + 1 := length_putK es k v
theorem sumOn_len : ∀ (rows : List (List Int × Int)) (es : List (List Int × V)), (sumOn es rows).length ≤ es.length + rows.length
  | [], es => Nat.le_refl _
  | r :: rows, es => by
    have h1 := sumOn_len rows (addN es r.1 r.2)
    have h2 := putK_len2 es r.1 (.int (numO (valV es r.1) + r.2))
    show (sumOn (addN es r.1 r.2) rows).length ≤ _
    unfold addN at h1 ⊢
    rw [List.length_cons]
    omega
theorem sumOn_key : ∀ (rows : List (List Int × Int)) (es : List (List Int × V)), ∀ e ∈ sumOn es rows, e.1 ∈ es.map (·.1) ∨ e.1 ∈ rows.map (·.1)
  | [], es, e, he => .inl (List.mem_map.mpr ⟨e, he, rfl⟩)
  | r :: rows, es, e, he => by
    rcases sumOn_key rows (addN es r.1 r.2) e he with h | h
    · obtain ⟨x, hx, ex⟩ := List.mem_map.mp h
      unfold addN putK at hx
      split at hx
      · obtain ⟨y, hy, z⟩ := List.mem_map.mp hx
        refine .inl (List.mem_map.mpr ⟨y, hy, ?_⟩)
        rw [← ex, ← z]
        split <;> rfl
      · rcases List.mem_append.mp hx with hx | hx
        · exact .inl (List.mem_map.mpr ⟨x, hx, ex⟩)
        · rw [List.mem_singleton.mp hx] at ex
          exact .inr (by rw [List.map_cons, ← ex]; exact List.mem_cons_self ..)
    · exact .inr (List.mem_cons_of_mem _ h)
theorem gathN_len (es : List (List Int × V)) (ks : List (List Int)) : (gathN es ks).length ≤ ks.length := by
  have gen : ∀ (ks : List (List Int)) (acc : List (List Int × Int)), (ks.foldl (fun acc k => if numO (valV es k) = 0 then acc else putN acc k (numO (valV es k))) acc).length ≤ acc.length + ks.length := fun ks => by
    induction ks with
    | nil => exact fun acc => Nat.le_refl _
    | cons k ks ih =>
      intro acc
      rw [List.foldl_cons, List.length_cons]
      have h1 := ih (if numO (valV es k) = 0 then acc else putN acc k (numO (valV es k)))
      have h2 : (if numO (valV es k) = 0 then acc else putN acc k (numO (valV es k))).length ≤ acc.length + 1 := by
        split
        · omega
        · exact putN_len ..
      omega
  have := gen ks []
  simpa [gathN] using this
theorem SumAt.lt {row : List Int} {H : Hp} {a : Addr} {es : List (List Int × Int)} (s : SumAt row H a es) (rl : row.length ≤ 12) : ∀ e ∈ es, ∀ x ∈ e.1, 0 ≤ x ∧ x < 12 := fun e he => by
  have ok := s.ok
  unfold okS at ok
  rw [Bool.and_eq_true, Bool.and_eq_true, List.all_eq_true] at ok
  have h := ok.2.1 (e.1.map Sum.inl, .int e.2) (List.mem_map.mpr ⟨(e.1, .int e.2), List.mem_map.mpr ⟨e, he, rfl⟩, rfl⟩)
  unfold okK at h
  rw [Bool.and_eq_true, Bool.and_eq_true] at h
  obtain ⟨_, z⟩ := keys_int h.1.2
  rw [keyI_inl] at z
  intro x hx
  have := z x hx
  unfold hiE at this
  omega
end Tt
set_option maxRecDepth 100000
set_option maxHeartbeats 4000000
namespace Tt
open PySem L2
open LamX (Tabs TabS TabB ExtN CodeO)
section
variable {P : Program} {w : World} {K : PySem.W.Frag} {mg : Str → Option Value} {base : Heap}
theorem sw_added (T : Txt K mg) : Swaps4 T.added.fd "skin" "one" "other" "times" := T.added.F.swaps4 fun _ _ _ _ _ _ _ _ _ _ => rfl
theorem sw_weight (T : Txt K mg) : Swaps T.weight.fd "skin" "some" := T.weight.F.swaps fun _ _ _ _ _ _ _ _ => rfl
theorem tlstB {σ : L2.St} {H : Hp} {t : TA} {Q : VK} (h : t σ H fun xs H1 => xs.length ≤ sizeLine ∧ ∀ p, p ≠ sysModules → H1 p = none → Q (.ref p) (upd H1 p (.lst xs))) : tLstB t σ H Q := h
theorem added_ok {T : Txt K mg} {H : Hp} {Q : VK} {E : XK} {p a1 a2 : Addr} {row : List Int} {es1 es2 : List (List Int × Int)} {t : Int} (sk : SkAt T H p row) (rl : row.length ≤ 12 ∧ row.length % 2 = 0) (m1 : SumAt row H a1 es1) (m2 : SumAt row H a2 es2) (t0 : -1000000000 ≤ t) (t1 : t ≤ 1000000000)
    (k : ∀ D H' ks, H D = none → Same H H' → ks.Perm ((sumUp (timesR es1 1 ++ timesR es2 t)).map (·.1)) → ks.Pairwise (· ≤ ·) → H' D = some (.dT (enc (gath (sumUp (timesR es1 1 ++ timesR es2 t)) ks))) → Q (.ref D) H') : spAdded T [.ref p, .ref a1, .ref a2, .int t] H Q E :=
  ⟨_, _, _, _, rfl, .inr ⟨p, row, rfl, sk, rl, .inr ⟨a1, a2, es1, es2, _, rfl, rfl, m1, m2, .int t, .inr ⟨t, rfl, t0, t1, k⟩⟩⟩⟩
theorem weight_ok {T : Txt K mg} {H : Hp} {Q : VK} {E : XK} {p a : Addr} {row : List Int} {es : List (List Int × Int)} (sk : SkAt T H p row) (rl : row.length ≤ 12 ∧ row.length % 2 = 0) (m : SumAt row H a es) (k : ∀ H', Same H H' → Q (.int (weightOf es)) H') : spWeight T [.ref p, .ref a] H Q E :=
  ⟨_, _, rfl, .inr ⟨p, row, rfl, sk, rl, .inr ⟨a, es, rfl, m, k⟩⟩⟩
theorem weightOf_le {M : Nat} : ∀ {es : List (List Int × Int)}, (∀ e ∈ es, e.2.natAbs ≤ M) → 0 ≤ weightOf es ∧ weightOf es ≤ ((es.length * M : Nat) : Int)
  | [], _ => ⟨Int.le_refl _, by simp [weightOf]⟩
  | e :: es, h => by
    obtain ⟨h1, h2⟩ := weightOf_le fun x hx => h x (List.mem_cons_of_mem _ hx)
    have h3 := h e (List.mem_cons_self ..)
    have e1 : weightOf (e :: es) = absV e.2 + weightOf es := by
      unfold weightOf
      rw [List.map_cons, List.sum_cons]
    have e2 : 0 ≤ absV e.2 ∧ absV e.2 ≤ (M : Int) := by
      unfold absV
      split <;> omega
    rw [e1, List.length_cons, Nat.add_mul]
    omega
def spAddR (T : Txt K mg) : Sp := fun vs H Q _ => ∃ (D : Dw) (p a1 a2 : Addr) (row : List Int) (es1 es2 : List (List Int × Int)), vs = [.ref D.d, .ref p, .ref a1, .ref a2] ∧ (row.length ≤ 12 ∧ row.length % 2 = 0) ∧ SkAt T H p row ∧ SumAt row H a1 es1 ∧ SumAt row H a2 es2 ∧ DrOk D H ∧
  ∀ H', DrOk D H' → Kp D H H' → Q (.bl true) H'
theorem ok_l_added_right (T : Txt K mg) : FnG P w K mg base CX0 10 T.l_added_right.a T.l_added_right.fd ["draw", "skin", "one", "other"] (spAddR T) := by
  refine FunG T.l_added_right.F sc_l_added_right (fun vs H Q E h => ?_) (fun cdv A outer s H vs Q E hg hr h => ?_)
  · obtain ⟨D, p, a1, a2, row, es1, es2, rfl, _⟩ := h
    rfl
  · obtain ⟨D, p, a1, a2, row, es1, es2, rfl, rl, sk, m1, m2, dr, k⟩ := h
    have nd := sc_l_added_right.nd
    have hu := hu_of hr
    refine ⟨_, (pss_cons (ps_par (i := 4) (j := 5) rfl nd rfl rfl (by decide) rfl rfl (pa_cons (pe_call (ok_l_pick T) (hr.mono (by decide)) (by rfl) T.l_pick.g T.l_pick.k T.l_pick.b .nil pass0 (pa_cons (pv 0) (pa_cons (pe_lstB (pa_cons pe_int (pa_cons pe_int (pa_cons (pe_un un_neg pe_int) (pa_cons pe_int (pa_cons (pe_op op_pow pe_int pe_int) (pa_cons (pe_op op_sub pe_int (pe_op op_pow pe_int pe_int)) (pa_cons (pe_call (ok_l_take T) (hr.mono (by decide)) (by rfl) T.l_take.g T.l_take.k T.l_take.b .nil pass0 (pa_cons (pv 0) (pa_cons (pe_op op_pow pe_int pe_int) pa_nil))) pa_nil)))))))) pa_nil))) (pa_cons (pe_callTy (cr_dictPT rfl hr.units) (by rfl) T.zdict (by decide +kernel) (pa_cons (pe_listItemsT rfl (pv 2) (by rfl) T.zlist (by decide +kernel)) pa_nil)) pa_nil)) rfl)
    (pss_cons (ps_lock (ps_for PassesOwn.never rfl (pi_keys (pv 3)) (pg_name (i := 6) nd rfl (Or.inl rfl))
      (pss_one (ps_expr (pe_call (ok_l_put T) (hr.mono (by decide)) (by rfl) T.l_put.g T.l_put.k T.l_put.b .nil pass0 (pa_cons (pv 5) (pa_cons (pv 6) (pa_cons (pe_op op_mul (pv 4) (pe_dget hu (pv 3) (pv 6) (fun _ _ => rfl))) pa_nil))))))))
    (pss_cons (ps_par (i := 7) (j := 5) rfl nd rfl rfl (by decide) rfl rfl (pa_cons (pe_callB (call_showQ hg hr.units) (by rfl) T.zrepr (by decide +kernel) (pa_cons (pe_lstB (pa_cons (pv 2) (pa_cons (pv 3) pa_nil))) pa_nil)) (pa_cons (pe_call (ok_l_kept T) (hr.mono (by decide)) (by rfl) T.l_kept.g T.l_kept.k T.l_kept.b .nil pass0 (pa_cons (pv 5) pa_nil)) pa_nil)) rfl)
    (pss_cons (ps_set (i := 8) nd rfl (Or.inl rfl) (pe_call (ok_added T) (hr.mono (by decide)) (by rfl) T.added.g T.added.k T.added.b .nil passF (pa_cons (pv 1) (pa_cons (pv 2) (pa_cons (pv 3) (pa_cons (pv 4) pa_nil))))))
    (pss_cons (ps_if (pt_not (pt_val (pe_callG (ok_l_same_dict T) hg (hr.mono (by decide)) (by rfl) T.l_same_dict.g T.l_same_dict.k T.l_same_dict.b .nil pass0 (pa_cons (pv 8) (pa_cons (pv 5) pa_nil)))))
      (pss_one (ps_ret pe_bl))
      pss_nil)
    (pss_cons (ps_dput hu (pv 8) (pe_tup (pa_cons pe_int pa_nil)) pe_int rfl)
    (pss_cons (ps_if (PW.pt (pw_or (pt_not (pt_val (pe_callG (ok_l_same_dict T) hg (hr.mono (by decide)) (by rfl) T.l_same_dict.g T.l_same_dict.k T.l_same_dict.b .nil pass0 (pa_cons (pe_callSw4 (ok_added T) (hr.mono (by decide)) (by rfl) T.added.g T.added.k (sw_added T) passF (pv 4) (pv 3) (pv 2) (pv 1)) (pa_cons (pv 5) pa_nil))))) (pw_or1 (pt_cmpR op_ne (pe_callB (call_showQ hg hr.units) (by rfl) T.zrepr (by decide +kernel) (pa_cons (pe_lstB (pa_cons (pv 2) (pa_cons (pv 3) pa_nil))) pa_nil)) (pv 7) (nomark _)))))
      (pss_one (ps_ret pe_bl))
      pss_nil)
    (pss_cons (ps_set (i := 9) nd rfl (Or.inl rfl) (pe_call (ok_added T) (hr.mono (by decide)) (by rfl) T.added.g T.added.k T.added.b .nil passF (pa_cons (pv 1) (pa_cons (pv 2) (pa_cons (pv 2) (pa_cons (pe_un un_neg pe_int) pa_nil))))))
    (pss_one (ps_ret (pe_and (pe_callG (ok_l_same_dict T) hg (hr.mono (by decide)) (by rfl) T.l_same_dict.g T.l_same_dict.k T.l_same_dict.b .nil pass0 (pa_cons (pv 9) (pa_cons pe_dnewT pa_nil))) (pe_one (pe_cmpR op_eq (pe_callB (call_showQ hg hr.units) (by rfl) T.zrepr (by decide +kernel) (pa_cons (pe_lstB (pa_cons (pe_call (ok_weight T) (hr.mono (by decide)) (by rfl) T.weight.g T.weight.k T.weight.b .nil passF (pa_cons (pv 1) (pa_cons (pv 2) pa_nil))) (pa_cons (pe_callSw (ok_weight T) (hr.mono (by decide)) (by rfl) T.weight.g T.weight.k (sw_weight T) passF (pv 3) (pv 1)) pa_nil))) pa_nil)) (pe_callB (call_showQ hg hr.units) (by rfl) T.zrepr (by decide +kernel) (pa_cons (pe_lstB (pa_cons (pe_call (ok_l_weight T) (hr.mono (by decide)) (by rfl) T.l_weight.g T.l_weight.k T.l_weight.b .nil pass0 (pa_cons (pv 2) pa_nil)) (pa_cons (pe_call (ok_l_weight T) (hr.mono (by decide)) (by rfl) T.l_weight.g T.l_weight.k T.l_weight.b .nil pass0 (pa_cons (pv 3) pa_nil)) pa_nil))) pa_nil)) (nomark _)))))))))))))), ?_⟩
    have lt1 := m1.lt rl.1
    have lt2 := m2.lt rl.1
    have sz1 : Sy 2 (60 * 402) (dtD es1) := sy_dtS m1.few fun e he => ⟨(m1.ks e he).2.1, fun x hx => (by have := lt1 e he x hx; omega), by have := (m1.vs e he).2; omega⟩
    have sz2 : Sy 2 (60 * 402) (dtD es2) := sy_dtS m2.few fun e he => ⟨(m2.ks e he).2.1, fun x hx => (by have := lt2 e he x hx; omega), by have := (m2.vs e he).2; omega⟩
    have szK : Sy 3 (2 * (60 * 402 + 1)) (.list [dtD es1, dtD es2]) := Sy.list (k := 2) (w := 60 * 402) (ds := [dtD es1, dtD es2]) fun d hd => by
      simp only [List.mem_cons, List.not_mem_nil, or_false] at hd
      rcases hd with rfl | rfl
      · exact sz1
      · exact sz2
    have rdK : ∀ {G : Hp} {l : Addr}, G a1 = some (.dT (enc (toV es1))) → G a2 = some (.dT (enc (toV es2))) → G l = some (.lst [.ref a1, .ref a2]) → l ≠ sysModules → RdQ K G (.ref l) (.list [dtD es1, dtD es2]) := fun {G l} e1 e2 e n =>
      RdQ.lst e n (.cons (RdQ.dT (.inl (by rw [dtK_enc]; exact e1))) (.cons (RdQ.dT (.inl (by rw [dtK_enc]; exact e2))) .nil))
    refine sqn (tcn ⟨_, rfl, tcn (tlstB ?_)⟩)
    refine tcn (tC_i (tcn (tC_i (tcn ⟨1, rfl, tcn (tC_i ?_)⟩))))
    refine tcn ⟨10, 9, rfl, rfl, ⟨by decide, by decide, by decide⟩, ?_⟩
    refine tcn ⟨10, 9, rfl, rfl, ⟨by decide, by decide, by decide⟩, rI0_sub (i := 0) (j := 1000000000) (v := -1000000000) (by decide) ?_⟩
    refine tcn ⟨_, rfl, 10, 6, rfl, rfl, ⟨by decide, by decide, by decide⟩, nil_i ⟨D, 1000000, rfl, by decide, by decide, dr, fun tk H1 tk0 tk1 d1 k1 => ?_⟩⟩
    refine nil_i ⟨(by show 7 ≤ sizeLine; decide), fun l nl hl => nil_i ?_⟩
    refine ⟨D, l, _, rfl, .inl (SqL.of upd_same), (d1.off hl).2.1, by simp, (by show 7 < 1073741824; decide), d1.new hl, fun i5 v H5 hx d5 k5 => ?_⟩
    obtain ⟨t, rfl, t0, t1⟩ : ∃ t : Int, v = .int t ∧ -1000000000 ≤ t ∧ t ≤ 1000000000 := by
      have hx := List.mem_of_getElem? hx
      simp only [List.mem_cons, List.not_mem_nil, or_false] at hx
      rcases hx with rfl | rfl | rfl | rfl | rfl | rfl | rfl
      · exact ⟨0, rfl, by decide, by decide⟩
      · exact ⟨1, rfl, by decide, by decide⟩
      · exact ⟨-1, rfl, by decide, by decide⟩
      · exact ⟨3, rfl, by decide, by decide⟩
      · exact ⟨1000000000, rfl, by decide, by decide⟩
      · exact ⟨-1000000000, rfl, by decide, by decide⟩
      · exact ⟨tk, rfl, by omega, by omega⟩
    have k05 : Kp D H H5 := (k1.trans (Kp.new hl)).trans k5
    have sk5 := sk.kp dr k05
    have m15 := m1.kp dr k05
    have m25 := m2.kp dr k05
    clear k5 hx hl k1 d1 sk m1 m2 dr
    refine tcn ⟨_, rfl, a1, _, rfl, m15.h, fun G l2 as sG hlG hasG nlas elG lnG ndG alG => nil_i (copy_of elG lnG m15.nd (fun i t k v h1 h2 => (alG i t k v h1 h2).elim fun q z => ⟨q, z.1, sG _ _ z.2⟩) fun d hd => nil_i ⟨_, _, rfl, ?_⟩)⟩
    have s6 : Same H5 (upd G d (.dT (enc (toV es1)))) := fun b o h => same_new hd _ _ (sG b o h)
    have ed : (upd G d (.dT (enc (toV es1)))) d = some (.dT (enc (toV es1))) := upd_same
    have hd5 : H5 d = none := by
      cases e : H5 d with
      | none => rfl
      | some o => rw [sG _ _ e] at hd; cases hd
    have od := d5.off hd5
    generalize upd G d (.dT (enc (toV es1))) = H6 at s6 ed
    clear hd sG hlG hasG nlas elG lnG ndG alG
    dsimp only
    have h25 := m25.h
    have nda : d ≠ a2 := (ne_of_none h25 hd5).symm
    refine sqn ⟨a2, _, s6 _ _ h25, mutT, fun o2 => ⟨_, rfl, a2, o2, rfl, .inr ⟨_, upd_same, ?_⟩⟩⟩
    have hdL : upd H5 a2 (.frz o2 (.dT (enc (toV es2)))) d = none := by rw [upd_ne nda.symm.symm]; exact hd5
    refine for_it walk_keysT (fun i σ H' => ∃ v6, σ = [some (.ref D.d), some (.ref p), some (.ref a1), some (.ref a2), some (.int t), some (.ref d), v6, none, none, none] ∧ Same (upd H5 a2 (.frz o2 (.dT (enc (toV es2))))) H' ∧ H' d = some (.dT (enc (sumOn (toV es1) (timesR (es2.take i) t)))))
      ⟨none, rfl, ?_, ?_⟩ (fun i σ H' _ ⟨_, _, z, _⟩ => z _ _ upd_same) ?_ ?_
    · intro b o hb
      by_cases c : b = a2
      · subst c
        rw [upd_same] at hb ⊢
        exact hb
      · rw [upd_ne c] at hb ⊢
        exact s6 _ _ hb
    · rw [upd_ne nda]
      exact ed
    · rintro i x σ H7 H8 hi' ⟨v6, rfl, s7, e7⟩ ⟨rfl, k', v, q, hk, rfl, hq⟩
      obtain ⟨ns, hes, hkn⟩ := enc_at hk
      rw [hkn] at hq
      obtain ⟨e, hee, he2⟩ : ∃ e, es2[i]? = some e ∧ (e.1, V.int e.2) = (ns, v) := by
        unfold toV at hes
        rw [List.getElem?_map] at hes
        cases ee : es2[i]? with
        | none => rw [ee] at hes; cases hes
        | some e => rw [ee] at hes; exact ⟨e, rfl, Option.some.inj hes⟩
      cases he2
      have hem := List.mem_of_getElem? hee
      have lock := s7 _ _ upd_same
      have gq : H8 q = some (.tup ((e.1.map Sum.inl : List Key).map kV)) := by
        rw [List.map_map]
        exact hq
      have ht : es2.take (i + 1) = es2.take i ++ [e] := by rw [List.take_add_one, hee]; rfl
      have hT : timesR (es2.take (i + 1)) t = timesR (es2.take i) t ++ [(e.1, t * e.2)] := by
        rw [ht]
        unfold timesR
        rw [List.map_append]
        rfl
      have ln : (sumOn (toV es1) (timesR (es2.take i) t)).length ≤ 120 := by
        have h1 := sumOn_len (timesR (es2.take i) t) (toV es1)
        have h2 : (timesR (es2.take i) t).length = (es2.take i).length := List.length_map ..
        have h3 : (toV es1).length = es1.length := List.length_map ..
        rw [List.length_take] at h2
        have := m15.few
        have := m25.few
        omega
      have p64 : (2 : Int) ^ 64 > 1000000000 := by decide
      refine ⟨_, rfl, _, rfl, _, rfl, _, rfl, _, rfl, a2, _, rfl, .inr ⟨_, _, q, .inr ⟨o2, lock⟩, rfl, gq, (by rw [valV_enc]; exact (val_toV m25.nd hem).symm)⟩, rI_mulV rfl (.inl ⟨by omega, by omega⟩) (nil_i ⟨d, q, _, e.1, t * e.2, rfl, e7, sumOn_int _ _ (toV_int es1), by omega, hq, ?_⟩)⟩
      refine ⟨_, rfl, same_put hdL s7, ?_⟩
      rw [upd_same, hT, sumOn_snoc]
    rintro σ H7 ⟨v6, rfl, s7, e7⟩
    rw [enc_len, show (toV es2).length = es2.length from List.length_map .., List.take_length] at e7
    refine ⟨s7 _ _ upd_same, ?_⟩
    have s8 := same_lock h25 s7
    have e8 : upd H7 a2 (.dT (enc (toV es2))) d = some (.dT (enc (sumOn (toV es1) (timesR es2 t)))) := by rw [upd_ne nda]; exact e7
    generalize upd H7 a2 (.dT (enc (toV es2))) = H8 at s8 e8
    clear s7 e7 hdL ed s6 H6
    have ZI := sumOn_int (toV es1) (timesR es2 t) (toV_int es1)
    have Zl : (sumOn (toV es1) (timesR es2 t)).length ≤ 120 := by
      have h1 := sumOn_len (timesR es2 t) (toV es1)
      have h2 : (timesR es2 t).length = es2.length := List.length_map ..
      have h3 : (toV es1).length = es1.length := List.length_map ..
      have := m15.few
      have := m25.few
      omega
    have Zk : ∀ e ∈ sumOn (toV es1) (timesR es2 t), e.1 ≠ [] ∧ e.1.length ≤ 40 ∧ ∀ x ∈ e.1, x.natAbs < 16 := fun e he => by
      rcases sumOn_key _ _ e he with h | h
      · rw [toV_keys] at h
        obtain ⟨y, hy, ey⟩ := List.mem_map.mp h
        rw [← ey]
        exact ⟨(m15.ks y hy).1, (m15.ks y hy).2.1, fun x hx => by have := lt1 y hy x hx; omega⟩
      · rw [times_keys] at h
        obtain ⟨y, hy, ey⟩ := List.mem_map.mp h
        rw [← ey]
        exact ⟨(m25.ks y hy).1, (m25.ks y hy).2.1, fun x hx => by have := lt2 y hy x hx; omega⟩
    have ZB : Bnd (1000000000 + 60 * 1000000000000000000) (sumOn (toV es1) (timesR es2 t)) := by
      have h1 : Bnd 1000000000 (toV es1) := fun e he => by
        obtain ⟨y, hy, rfl⟩ := List.mem_map.mp he
        have := (m15.vs y hy).2
        exact ⟨y.2, rfl, by omega⟩
      have := sumOn_bnd 1000000000000000000 (timesR es2 t) 1000000000 (toV es1) (fun e he => by
        obtain ⟨y, hy, rfl⟩ := List.mem_map.mp he
        show (t * y.2).natAbs ≤ _
        rw [Int.natAbs_mul]
        have h3 : t.natAbs ≤ 1000000000 := by omega
        have h4 : y.2.natAbs ≤ 1000000000 := by have := (m25.vs y hy).2; omega
        exact Nat.le_trans (Nat.mul_le_mul h3 h4) (by decide)) h1
      refine this.mono ?_
      have h2 : (timesR es2 t).length = es2.length := List.length_map ..
      have := m25.few
      have := Nat.mul_le_mul_right 1000000000000000000 this
      omega
    have ones := sum_ones (es1 := es1) (es2 := es2) (t := t) m15.nd
    generalize hZ : sumOn (toV es1) (timesR es2 t) = Z at e8 ZI Zl Zk ZB ones
    have m18 := m15.same s8
    have m28 := m25.same s8
    dsimp only
    refine sqn (tcn ⟨_, rfl, _, rfl, (by show 2 ≤ sizeLine; decide), fun l nl hl => ?_⟩)
    have s9 := same_new (o := .lst [.ref a1, .ref a2]) hl
    refine ⟨l, _, rfl, rdK (s9 _ _ m18.h) (s9 _ _ m28.h) upd_same nl, szK.sh, Nat.le_trans szK.dp (by decide), szK.fits (by decide), ?_⟩
    refine tcn ⟨_, rfl, nil_i ⟨d, Z, rfl, s9 _ _ e8, ZI, fun e he => (Zk e he).1, by omega, fun DD H9 ks fr s10 pm so eD => nil_i ⟨_, _, rfl, ?_⟩⟩⟩
    have s8D : Same H8 H9 := s9.trans s10
    have m19 := m18.same s8D
    have m29 := m28.same s8D
    have k09 := k05.trans (Kp.of (D := D) (s8.trans s8D))
    have d9 := d5.same (s8.trans s8D)
    have sk9 := sk5.same (s8.trans s8D)
    have fr8 : H8 DD = none := same_none s9 fr
    clear s9 s10 s8D fr e8 sk5 m18 m28 m15 m25 d5 nda hd5 od h25 hZ
    rw [gathN_toV] at eD
    have Gl := gathN_len Z ks
    have kl : ks.length = Z.length := by rw [pm.length_eq, List.length_map]
    have szG : Sy 2 (120 * 402) (dtD (gathN Z ks)) := sy_dtS (by omega) fun e he => by
      obtain ⟨a, b⟩ := gathN_mem e he
      obtain ⟨x, hx, hx1⟩ := List.mem_map.mp (pm.mem_iff.mp a)
      obtain ⟨z1, z2, z3⟩ := Zk x hx
      rw [← hx1]
      refine ⟨z2, z3, ?_⟩
      rw [b]
      have := ZB.num e.1
      omega
    have Gl' : (gathN Z ks).length ≤ 120 := by omega
    have again : ∀ ks', ks'.Perm ((sumUp (timesR es1 1 ++ timesR es2 t)).map (·.1)) → ks'.Pairwise (· ≤ ·) → enc (gath (sumUp (timesR es1 1 ++ timesR es2 t)) ks') = dtK (gathN Z ks) := fun ks' p' q' => by
      rw [ones] at p' ⊢
      rw [ks_eq p' pm q' so, gathN_toV, dtK_enc]
    rw [← dtK_enc] at eD
    generalize gathN Z ks = R at eD szG Gl' again
    clear Gl kl Zk ZB ZI Zl pm so ones
    generalize hkt : (PyData.list [dtD es1, dtD es2]).shown = kt
    dsimp only
    refine sqn ⟨_, rfl, _, rfl, _, rfl, _, rfl, nil_i (added_ok sk9 rl m19 m29 t0 t1 fun D2 H10 ks2 fr2 s10 pm2 so2 e2 => ?_)⟩
    rw [again ks2 pm2 so2] at e2
    have eD10 := s10 _ _ eD
    refine sqn ⟨_, rfl, _, rfl, D2, DD, R, _, rfl, .inl e2, e2, .inl eD10, szG, by decide, _, rfl, iteF ?_⟩
    dsimp only [tNext]
    refine sqn (tC_i ⟨_, rfl, (by show 1 ≤ sizeLine; decide), fun ta hta => ?_⟩)
    have n8 := same_new (o := .tup [.int 0]) hta
    have glen : (dtK R).length < sizeLine := by
      unfold dtK
      rw [List.length_map]
      exact smallB (by omega)
    refine ⟨D2, _, rfl, DPut.t (k := [Sum.inl 0]) (n8 _ _ e2) upd_same glen, ?_⟩
    have s11 : Same H9 (upd (upd H10 ta (.tup [.int 0])) D2 (.dT (putK (dtK R) [Sum.inl 0] (.int 7)))) := same_put fr2 (s10.trans n8)
    generalize upd (upd H10 ta (.tup [.int 0])) D2 (.dT (putK (dtK R) [Sum.inl 0] (.int 7))) = H11 at s11
    clear n8 hta e2 eD10 s10
    have m111 := m19.same s11
    have m211 := m29.same s11
    refine sqn ⟨_, rfl, _, rfl, _, rfl, _, rfl, nil_i (added_ok (sk9.same s11) rl m111 m211 t0 t1 fun D3 H12 ks3 fr3 s12 pm3 so3 e3 => ?_)⟩
    rw [again ks3 pm3 so3] at e3
    have s912 := s11.trans s12
    refine tcn ⟨_, rfl, nil_i ⟨D3, DD, R, _, rfl, .inl e3, e3, .inl (s912 _ _ eD), szG, by decide, _, rfl, iteF ?_⟩⟩
    refine ⟨_, rfl, _, rfl, (by show 2 ≤ sizeLine; decide), fun l3 nl3 hl3 => ?_⟩
    have s13 := same_new (o := .lst [.ref a1, .ref a2]) hl3
    have s913 := s912.trans s13
    refine ⟨l3, _, rfl, rdK (s913 _ _ m19.h) (s913 _ _ m29.h) upd_same nl3, szK.sh, Nat.le_trans szK.dp (by decide), szK.fits (by decide), _, rfl, rfl, _, rfl, ?_⟩
    rw [hkt]
    refine ite2 (fun c => absurd c (by simp)) (fun _ => ?_)
    dsimp only [tNext]
    generalize upd H12 l3 (.lst [.ref a1, .ref a2]) = H13 at s913
    clear s13 s912 s12 e3 fr3 s11 m111 m211
    have m113 := m19.same s913
    have m213 := m29.same s913
    have sk13 := sk9.same s913
    refine sqn ⟨_, rfl, _, rfl, _, rfl, 1, rfl, nil_i (added_ok sk13 rl m113 m113 (by decide) (by decide) fun D4 H14 ks4 fr4 s14 pm4 so4 e4 => ?_)⟩
    rw [sum_away] at e4
    have s914 := s913.trans s14
    dsimp only
    refine ⟨_, rfl, fun z hz => nil_i ⟨D4, z, [], 0, rfl, .inl (same_new hz _ _ e4), same_new hz _ _ e4, .inl upd_same, (sy_dtS (c := 0) (Nat.le_refl _) fun e he => by cases he), by decide, _, rfl, iteT ?_⟩⟩
    have s15 : Same H9 (upd H14 z (.dT [])) := s914.trans (same_new hz)
    have d15 := d9.same s15
    have k15 := k09.trans (Kp.of (D := D) s15)
    generalize upd H14 z (.dT []) = H15 at s15 d15 k15
    have w1 := weightOf_le (M := 1000000000) (es := es1) fun e he => by have := (m19.vs e he).2; omega
    have w2 := weightOf_le (M := 1000000000) (es := es2) fun e he => by have := (m29.vs e he).2; omega
    have f1 := Nat.mul_le_mul_right 1000000000 m19.few
    have f2 := Nat.mul_le_mul_right 1000000000 m29.few
    have szW : Sy 1 (2 * (70 + 1)) (.list [.int (weightOf es1), .int (weightOf es2)]) := Sy.list (k := 0) (w := 70) (ds := [.int (weightOf es1), .int (weightOf es2)]) fun d hd => by
      simp only [List.mem_cons, List.not_mem_nil, or_false] at hd
      rcases hd with rfl | rfl
      · exact Sy.int (by omega)
      · exact Sy.int (by omega)
    have rdW : ∀ {G : Hp} {l : Addr}, G l = some (.lst [.int (weightOf es1), .int (weightOf es2)]) → l ≠ sysModules → RdQ K G (.ref l) (.list [.int (weightOf es1), .int (weightOf es2)]) := fun {G l} e n =>
      RdQ.lst e n (.cons (.int _) (.cons (.int _) .nil))
    refine ⟨_, rfl, _, rfl, nil_i (weight_ok (sk9.same s15) rl (m19.same s15) fun H16 s16 => ?_)⟩
    have s916 := s15.trans s16
    refine tcn ⟨_, rfl, _, rfl, nil_i (weight_ok (sk9.same s916) rl (m29.same s916) fun H17 s17 => ?_)⟩
    refine nil_i ⟨(by show 2 ≤ sizeLine; decide), fun l4 nl4 hl4 => nil_i ⟨l4, _, rfl, rdW upd_same nl4, szW.sh, Nat.le_trans szW.dp (by decide), szW.fits (by decide), ?_⟩⟩
    have s18 : Same H15 (upd H17 l4 (.lst [.int (weightOf es1), .int (weightOf es2)])) := (s16.trans s17).trans (same_new hl4)
    generalize upd H17 l4 (.lst [.int (weightOf es1), .int (weightOf es2)]) = H18 at s18
    have m118 := m19.same (s15.trans s18)
    have m218 := m29.same (s15.trans s18)
    refine ⟨_, rfl, a1, es1, rfl, m118.h, m118.nd, Nat.le_trans m118.few (by decide), fun H19 s19 => ?_⟩
    refine tcn ⟨_, rfl, nil_i ⟨a2, es2, rfl, s19 _ _ m218.h, m218.nd, Nat.le_trans m218.few (by decide), fun H20 s20 => ?_⟩⟩
    refine nil_i ⟨(by show 2 ≤ sizeLine; decide), fun l5 nl5 hl5 => nil_i ⟨l5, _, rfl, rdW upd_same nl5, szW.sh, Nat.le_trans szW.dp (by decide), szW.fits (by decide), rfl, ?_⟩⟩
    have s21 : Same H15 (upd H20 l5 (.lst [.int (weightOf es1), .int (weightOf es2)])) := (s18.trans (s19.trans s20)).trans (same_new hl5)
    rw [show decide (V.str (PyData.list [.int (weightOf es1), .int (weightOf es2)]).shown = V.str (PyData.list [.int (weightOf es1), .int (weightOf es2)]).shown) = true by simp]
    exact k _ (d15.same s21) (k15.trans (Kp.of s21))
end
end Tt
set_option maxRecDepth 100000
set_option maxHeartbeats 4000000
namespace Tt
open PySem L2
open LamX (Tabs TabS TabB ExtN CodeO tLam GivesToV tCallLam pe_callLam IsLam tLamV pe_lamV tCallLamI pe_callLamI)
theorem caught_givesV {X : Cx} {cdg : Value} {g RE : Addr} (hme : X.mg "RoundError" = some (.ref RE)) :
    GivesToV X N_l_caught "_law_caught" (defScope s_l_caught) g cdg (defBody s_l_caught) "work" (TTc X.K RE) := by
  intro f s H Q tl keep act hc h
  have nd := sc_l_caught.nd
  refine ⟨_, pss_cons (ps_set (i := 1) nd rfl (Or.inl rfl) pe_non)
    (pss_cons (ps_try_keep (X := (cxOf C8.CX0 X.prog X.w X.K X.mg X.base N_l_caught "_law_caught" (defScope s_l_caught) g cdg X.A X.stack s H C8.E0).nox) (c := .ref RE) (i := 2)
      (tb := fun W D σ H => ∃ Ew : L2.St → XK, (∀ τ cls d H', Ew τ cls d H' → W cls d τ H') ∧ σ[0]? = some (some (.ref f)) ∧ keep H ∧ tl (Ew σ) H (fun _ H' => D.nx σ H'))
      rfl rfl rfl nd rfl rfl ⟨rfl, by decide, .inl hme⟩ LamX.takes0 (fun W pn xe tk _ => ?_) (fun a oe cls d pn _ _ => pss_one (ps_set (i := 1) nd rfl (Or.inl rfl) (pv 2))))
    (pss_one (ps_ret (pv 1)))), ?_⟩
  · refine ⟨fun pins s' σ H' D I h' => ?_⟩
    obtain ⟨Ew, hW, h1, h2, h3⟩ := h'
    exact (pss_one (ps_expr (act W pn xe Ew _ _ tk hW))).run pins s' σ H' D I ⟨h1, h2, h3⟩
  · refine ⟨fun τ cls d H' => τ = [some (.ref f), some .non, none] ∧ PySem.W.exmOne X.K cls (.ref RE) = some true ∧ ∀ a, H' a = none → Q (.ref a) (upd H' a (exh cls d a)), ?_, rfl, hc, ?_⟩
    · rintro τ cls d H' ⟨rfl, h1, h2⟩
      refine ⟨true, h1, fun _ a ha => ?_, fun z => nomatch z⟩
      exact ⟨_, rfl, ha, _, rfl, h2 a ha⟩
    · have e1 : (fun (cls : Value) (d : Option Addr) (H' : Hp) => ([some (.ref f), some .non, none] : L2.St) = [some (.ref f), some .non, none] ∧ PySem.W.exmOne X.K cls (.ref RE) = some true ∧ ∀ a, H' a = none → Q (.ref a) (upd H' a (exh cls d a))) =
          fun cls d H' => PySem.W.exmOne X.K cls (.ref RE) = some true ∧ ∀ a, H' a = none → Q (.ref a) (upd H' a (exh cls d a)) :=
        funext fun cls => funext fun d => funext fun H' => propext ⟨fun z => z.2, fun z => ⟨rfl, z⟩⟩
      have e2 : (fun (_ : V) (H' : Hp) => ∃ v, ([some (.ref f), some .non, none] : L2.St)[1]? = some (some v) ∧ Q v H') = fun _ H' => Q .non H' :=
        funext fun _ => funext fun H' => propext ⟨fun ⟨v, h1, h2⟩ => by cases h1; exact h2, fun z => ⟨_, rfl, z⟩⟩
      have h' : tl (fun (cls : Value) (d : Option Addr) (H' : Hp) => ([some (.ref f), some .non, none] : L2.St) = [some (.ref f), some .non, none] ∧ PySem.W.exmOne X.K cls (.ref RE) = some true ∧ ∀ a, H' a = none → Q (.ref a) (upd H' a (exh cls d a))) H
          (fun (_ : V) (H' : Hp) => ∃ v, ([some (.ref f), some .non, none] : L2.St)[1]? = some (some v) ∧ Q v H') := by
        rw [e1, e2]
        exact h
      exact h'
theorem pe_callK {X : Cx} (T : Txt X.K X.mg) {q : Str} {k : Nat} {e : Expr} {te : TE} {p pos : Pos} (he : PE X e te) (eq : X.env.qual ++ "<lambda>" = q) (hg : Gl X "_law_caught") (hr : Room (k + 2) X.A)
    (hs : starEach [e] X.env = [(false, eval e X.env)] := by rfl) (hpl : (backTo pos (starEach ([] : List Expr) X.env)).any (·.1) = false := by rfl) :
    PE X (.Call (.Name "_law_caught" p) [e] [] pos) (tCallLam X k q (TTc X.K T.RoundError.C) te) := by
  obtain ⟨oc, od, kV, doc, pm, an, cdv, ct, osl, ee, lk, hc⟩ := T.l_caught.F.ex
  have hb := T.l_caught.b
  rw [ee] at lk hb
  exact pe_callLam he hg T.l_caught.g T.l_caught.k lk hc hb sc_l_caught rfl (Or.inl rfl) (caught_givesV T.RoundError.g) eq hr hs rfl rfl rfl hpl
theorem pe_callKI {X : Cx} {s0 : Shared} {H0 : Hp} {scope : Scope} {ce : Env} {fp : List Addr} {ps0 : List (Addr × Obj)} {σ0 : L2.St} (T : Txt X.K X.mg) (bk : Back X s0 H0 scope ce fp ps0 σ0) {q : Str} {k : Nat} {e : Expr} {te : TE} {p pos : Pos} (he : PE (X.blk s0 H0 scope ce fp) e te) (eq : X.env.qual ++ "<lambda>" = q) (hg : Gl (X.blk s0 H0 scope ce fp) "_law_caught") (hr : Room (k + 2) X.A)
    (hs : starEach [e] ce = [(false, eval e ce)] := by rfl) (hpl : (backTo pos (starEach ([] : List Expr) ce)).any (·.1) = false := by rfl) :
    PE (X.blk s0 H0 scope ce fp) (.Call (.Name "_law_caught" p) [e] [] pos) (tCallLamI X σ0 k q (TTc X.K T.RoundError.C) te) := by
  obtain ⟨oc, od, kV, doc, pm, an, cdv, ct, osl, ee, lk, hc⟩ := T.l_caught.F.ex
  have hb := T.l_caught.b
  rw [ee] at lk hb
  exact pe_callLamI bk he hg T.l_caught.g T.l_caught.k lk hc hb sc_l_caught rfl (Or.inl rfl) (caught_givesV T.RoundError.g) eq hr hs rfl rfl rfl hpl
section
variable {X : Cx} {A : Around} {outer : List Env} {s : Shared} {H : Hp} {E : XK} {lsc : Scope} {fl co : Addr} {p p1 p2 p3 p4 pos : Pos}
theorem lb_1 (T : Txt X.K X.mg) (hr : Room 9 (A.deeper (LamX.lamEnv X lsc s.heap.objs.size fl co))) (n5 : X.N[5]? = some ("no" : Str)) (n4 : X.N[4]? = some ("bad" : Str)) (n6 : X.N[6]? = some ("odd" : Str)) (v5 : Vis lsc "no") (v4 : Vis lsc "bad") (v6 : Vis lsc "odd") (hg : Gl (LamX.lamCx X A outer s H E lsc fl co) "added") :
    PE (LamX.lamCx X A outer s H E lsc fl co) (.Call (.Name "added" p) [.Name "no" p1, .Name "bad" p2, .Name "bad" p3, .Name "odd" p4] [] pos) (tCall (spAdded T) [] E (tCons (tVar 5) (tCons (tVar 4) (tCons (tVar 4) (tCons (tVar 6) tNil))))) :=
  pe_call (CX := L2.CX X.prog X.w) (ok_added T) (hr.mono (by decide)) hg T.added.g T.added.k T.added.b .nil lamP (pa_cons (pv (X := LamX.lamCx X A outer s H E lsc fl co) 5 n5 v5) (pa_cons (pv (X := LamX.lamCx X A outer s H E lsc fl co) 4 n4 v4) (pa_cons (pv (X := LamX.lamCx X A outer s H E lsc fl co) 4 n4 v4) (pa_cons (pv (X := LamX.lamCx X A outer s H E lsc fl co) 6 n6 v6) pa_nil))))
theorem lb_2 (T : Txt X.K X.mg) (hr : Room 9 (A.deeper (LamX.lamEnv X lsc s.heap.objs.size fl co))) (n5 : X.N[5]? = some ("no" : Str)) (n4 : X.N[4]? = some ("bad" : Str)) (v5 : Vis lsc "no") (v4 : Vis lsc "bad") (hg : Gl (LamX.lamCx X A outer s H E lsc fl co) "weight") :
    PE (LamX.lamCx X A outer s H E lsc fl co) (.Call (.Name "weight" p) [.Name "no" p1, .Name "bad" p2] [] pos) (tCall (spWeight T) [] E (tCons (tVar 5) (tCons (tVar 4) tNil))) :=
  pe_call (CX := L2.CX X.prog X.w) (ok_weight T) (hr.mono (by decide)) hg T.weight.g T.weight.k T.weight.b .nil lamP (pa_cons (pv (X := LamX.lamCx X A outer s H E lsc fl co) 5 n5 v5) (pa_cons (pv (X := LamX.lamCx X A outer s H E lsc fl co) 4 n4 v4) pa_nil))
theorem lb_3 (T : Txt X.K X.mg) (hr : Room 9 (A.deeper (LamX.lamEnv X lsc s.heap.objs.size fl co))) (n5 : X.N[5]? = some ("no" : Str)) (n3 : X.N[3]? = some ("one" : Str)) (v5 : Vis lsc "no") (v3 : Vis lsc "one") (hg : Gl (LamX.lamCx X A outer s H E lsc fl co) "is_sum") :
    PE (LamX.lamCx X A outer s H E lsc fl co) (.Call (.Name "is_sum" p) [.Name "no" p1, .Name "one" p2] [] pos) (tCall (spIsSum T) [] E (tCons (tVar 5) (tCons (tVar 3) tNil))) :=
  pe_call (CX := L2.CX X.prog X.w) (ok_is_sum T) (hr.mono (by decide)) hg T.is_sum.g T.is_sum.k T.is_sum.b .nil lamP (pa_cons (pv (X := LamX.lamCx X A outer s H E lsc fl co) 5 n5 v5) (pa_cons (pv (X := LamX.lamCx X A outer s H E lsc fl co) 3 n3 v3) pa_nil))
theorem lb_4 (T : Txt X.K X.mg) (hr : Room 9 (A.deeper (LamX.lamEnv X lsc s.heap.objs.size fl co))) (n1 : X.N[1]? = some ("skin" : Str)) (n4 : X.N[4]? = some ("bad" : Str)) (n3 : X.N[3]? = some ("one" : Str)) (n6 : X.N[6]? = some ("odd" : Str)) (v1 : Vis lsc "skin") (v4 : Vis lsc "bad") (v3 : Vis lsc "one") (v6 : Vis lsc "odd") (hg : Gl (LamX.lamCx X A outer s H E lsc fl co) "added") :
    PE (LamX.lamCx X A outer s H E lsc fl co) (.Call (.Name "added" p) [.Name "skin" p1, .Name "bad" p2, .Name "one" p3, .Name "odd" p4] [] pos) (tCall (spAdded T) [] E (tCons (tVar 1) (tCons (tVar 4) (tCons (tVar 3) (tCons (tVar 6) tNil))))) :=
  pe_call (CX := L2.CX X.prog X.w) (ok_added T) (hr.mono (by decide)) hg T.added.g T.added.k T.added.b .nil lamP (pa_cons (pv (X := LamX.lamCx X A outer s H E lsc fl co) 1 n1 v1) (pa_cons (pv (X := LamX.lamCx X A outer s H E lsc fl co) 4 n4 v4) (pa_cons (pv (X := LamX.lamCx X A outer s H E lsc fl co) 3 n3 v3) (pa_cons (pv (X := LamX.lamCx X A outer s H E lsc fl co) 6 n6 v6) pa_nil))))
theorem lb_5 (T : Txt X.K X.mg) (hr : Room 9 (A.deeper (LamX.lamEnv X lsc s.heap.objs.size fl co))) (n1 : X.N[1]? = some ("skin" : Str)) (n3 : X.N[3]? = some ("one" : Str)) (n4 : X.N[4]? = some ("bad" : Str)) (n6 : X.N[6]? = some ("odd" : Str)) (v1 : Vis lsc "skin") (v3 : Vis lsc "one") (v4 : Vis lsc "bad") (v6 : Vis lsc "odd") (hg : Gl (LamX.lamCx X A outer s H E lsc fl co) "added") :
    PE (LamX.lamCx X A outer s H E lsc fl co) (.Call (.Name "added" p) [.Name "skin" p1, .Name "one" p2, .Name "bad" p3, .Name "odd" p4] [] pos) (tCall (spAdded T) [] E (tCons (tVar 1) (tCons (tVar 3) (tCons (tVar 4) (tCons (tVar 6) tNil))))) :=
  pe_call (CX := L2.CX X.prog X.w) (ok_added T) (hr.mono (by decide)) hg T.added.g T.added.k T.added.b .nil lamP (pa_cons (pv (X := LamX.lamCx X A outer s H E lsc fl co) 1 n1 v1) (pa_cons (pv (X := LamX.lamCx X A outer s H E lsc fl co) 3 n3 v3) (pa_cons (pv (X := LamX.lamCx X A outer s H E lsc fl co) 4 n4 v4) (pa_cons (pv (X := LamX.lamCx X A outer s H E lsc fl co) 6 n6 v6) pa_nil))))
theorem lb_6 (T : Txt X.K X.mg) (hr : Room 9 (A.deeper (LamX.lamEnv X lsc s.heap.objs.size fl co))) (n1 : X.N[1]? = some ("skin" : Str)) (n4 : X.N[4]? = some ("bad" : Str)) (v1 : Vis lsc "skin") (v4 : Vis lsc "bad") (hg : Gl (LamX.lamCx X A outer s H E lsc fl co) "weight") :
    PE (LamX.lamCx X A outer s H E lsc fl co) (.Call (.Name "weight" p) [.Name "skin" p1, .Name "bad" p2] [] pos) (tCall (spWeight T) [] E (tCons (tVar 1) (tCons (tVar 4) tNil))) :=
  pe_call (CX := L2.CX X.prog X.w) (ok_weight T) (hr.mono (by decide)) hg T.weight.g T.weight.k T.weight.b .nil lamP (pa_cons (pv (X := LamX.lamCx X A outer s H E lsc fl co) 1 n1 v1) (pa_cons (pv (X := LamX.lamCx X A outer s H E lsc fl co) 4 n4 v4) pa_nil))
theorem lb_7 (T : Txt X.K X.mg) (hr : Room 9 (A.deeper (LamX.lamEnv X lsc s.heap.objs.size fl co))) (n1 : X.N[1]? = some ("skin" : Str)) (n3 : X.N[3]? = some ("one" : Str)) (n6 : X.N[6]? = some ("odd" : Str)) (v1 : Vis lsc "skin") (v3 : Vis lsc "one") (v6 : Vis lsc "odd") (hg : Gl (LamX.lamCx X A outer s H E lsc fl co) "added") :
    PE (LamX.lamCx X A outer s H E lsc fl co) (.Call (.Name "added" p) [.Name "skin" p1, .Name "one" p2, .Name "one" p3, .Name "odd" p4] [] pos) (tCall (spAdded T) [] E (tCons (tVar 1) (tCons (tVar 3) (tCons (tVar 3) (tCons (tVar 6) tNil))))) :=
  pe_call (CX := L2.CX X.prog X.w) (ok_added T) (hr.mono (by decide)) hg T.added.g T.added.k T.added.b .nil lamP (pa_cons (pv (X := LamX.lamCx X A outer s H E lsc fl co) 1 n1 v1) (pa_cons (pv (X := LamX.lamCx X A outer s H E lsc fl co) 3 n3 v3) (pa_cons (pv (X := LamX.lamCx X A outer s H E lsc fl co) 3 n3 v3) (pa_cons (pv (X := LamX.lamCx X A outer s H E lsc fl co) 6 n6 v6) pa_nil))))
end
def jQ : Str := (("_law_refused" : Str) ++ ".<locals>.") ++ "<lambda>"
section
variable {P : Program} {w : World} {K : PySem.W.Frag} {mg : Str → Option Value} {base : Heap}
abbrev jTs (T : Txt K mg) : List (Addr × Str) := [(T.jP, jQ)]
section
variable {H : Hp} {l : Addr} {xs ys : List V}
theorem put_keep {b : Addr} {o : HO} (e : H l = some (.lst xs)) (h : H b = some o) (n : ∀ zs, o ≠ .lst zs) : upd H l (.lst ys) b = some o := by
  rw [upd_ne]
  · exact h
  · intro z
    subst z
    exact n xs (Option.some.inj (h.symm.trans e))
theorem codeO_nl {c : Addr} {q : Str} (zs : List V) : CodeO c q ≠ .lst zs := fun z => by
  unfold CodeO at z
  cases z
theorem lamO_nl {fl co : Addr} {q : Str} {ps : Arguments} {bd : Expr} {lsc : Scope} {clo : List (Str × Addr)} (zs : List V) : LamX.LamO fl co q ps bd lsc clo ≠ .lst zs := fun z => by
  unfold LamX.LamO at z
  cases z
theorem isLam_put {X : Cx} {k : Nat} {q : Str} {t : XK → TE} {v : V} (h : IsLam X k q t H v) (e : H l = some (.lst xs)) : IsLam X k q t (upd H l (.lst ys)) v := by
  obtain ⟨fl, co, o, ev, h1, h2, h3⟩ := h
  obtain ⟨ps, bd, lsc, rfl, _⟩ := h2.ex
  exact ⟨fl, co, _, ev, put_keep e h1 lamO_nl, h2, put_keep e h3 codeO_nl⟩
end
theorem tabs_put {Ts : List (Addr × Str)} {H : Hp} {f : Addr} {xs : List V} {o : HO} (t : Tabs Ts H) (hf : H f = some (.lst xs)) : Tabs Ts (upd H f o) := fun p hp => by
  obtain ⟨ps, h1, h2, h3⟩ := t p hp
  refine ⟨ps, ?_, h2, fun pos cv hc => ?_⟩
  · rw [upd_ne]
    · exact h1
    · intro z
      rw [z, hf] at h1
      cases h1
  · obtain ⟨c, e1, e2⟩ := h3 pos cv hc
    refine ⟨c, e1, ?_⟩
    rw [upd_ne]
    · exact e2
    · intro z
      rw [z, hf] at e2
      cases e2
theorem extN_putF {H H' : Hp} {f : Addr} {o : HO} (e : ExtN H H') (n : ∀ u, H f = some u → ∃ ps, u = .tbl ps) : ExtN H (upd H' f o) := fun b u h t => by
  rw [upd_ne]
  · exact e b u h t
  · intro z
    rw [z] at h
    obtain ⟨ps, e2⟩ := n u h
    exact t ps e2
theorem extN_fresh {H H' : Hp} {f : Addr} (e : ExtN H H') (n : H' f = none) : ∀ u, H f = some u → ∃ ps, u = .tbl ps := fun u h => Classical.byContradiction fun z => by
  have := e f u h fun ps q => z ⟨ps, q⟩
  rw [n] at this
  cases this
def Lm (Ts : List (Addr × Str)) (H H' : Hp) : Prop := ∃ H1, ExtN H H1 ∧ Tabs Ts H1 ∧ Same H1 H'
theorem exm_S (T : Txt K mg) : PySem.W.exmOne K (.ref T.BadSkin.C) (.ref T.RoundError.C) = some true := PySem.W.exm_ref T.RoundError.ec.hs T.RoundError.ec.hd T.RoundError.ty T.sSR
theorem exm_N (T : Txt K mg) : PySem.W.exmOne K (.ref T.BadNumber.C) (.ref T.RoundError.C) = some true := PySem.W.exm_ref T.RoundError.ec.hs T.RoundError.ec.hd T.RoundError.ty T.sNR
theorem exm_U (T : Txt K mg) : PySem.W.exmOne K (.ref T.BadSum.C) (.ref T.RoundError.C) = some true := PySem.W.exm_ref T.RoundError.ec.hs T.RoundError.ec.hd T.RoundError.ty T.sUR
theorem SqT.kpn {D : Dw} {H H' : Hp} {a : Addr} {xs : List V} (h : SqT K H a xs) (dr : DrOk D H) (k : KpN D H H') : SqT K H' a xs := by
  rcases h with (h | ⟨o, h⟩) | h
  · exact .inl (.inl (k.at dr h (fun _ z => nomatch z) (fun _ z => nomatch z) (fun _ z => nomatch z)))
  · exact .inl (.inr ⟨o, k.at dr h (fun _ z => nomatch z) (fun _ z => nomatch z) (fun _ z => nomatch z)⟩)
  · exact .inr h
theorem SkAt.kpn {T : Txt K mg} {D : Dw} {H H' : Hp} {p : Addr} {row : List Int} (h : SkAt T H p row) (dr : DrOk D H) (k : KpN D H H') : SkAt T H' p row := by
  obtain ⟨dx, r, q, h1, ⟨o2, a2, b2⟩, ⟨o3, a3, b3⟩⟩ := h
  exact ⟨dx, r, q, k.at dr h1 (fun _ z => nomatch z) (fun _ z => nomatch z) (fun _ z => nomatch z), ⟨o2, k.at dr a2 (fun _ z => nomatch z) (fun _ z => nomatch z) (fun _ z => nomatch z), b2⟩, ⟨o3, k.at dr a3 (fun _ z => nomatch z) (fun _ z => nomatch z) (fun _ z => nomatch z), b3⟩⟩
theorem SumAt.kpn {D : Dw} {row : List Int} {H H' : Hp} {a : Addr} {es : List (List Int × Int)} (s : SumAt row H a es) (dr : DrOk D H) (k : KpN D H H') : SumAt row H' a es :=
  ⟨k.at dr s.h (fun _ z => nomatch z) (fun _ z => nomatch z) (fun _ z => nomatch z), s.ok, s.ks, s.vs, s.few, s.nd⟩
structure Hnd (T : Txt K mg) (row : List Int) (D : Dw) (G : Hp) (p a : Addr) (es : List (List Int × Int)) (bad no odd : V) : Prop where
  rl : row.length ≤ 12 ∧ row.length % 2 = 0
  sk : Ever D G fun H => SkAt T H p row
  sm : Ever D G fun H => SumAt row H a es
  bd : Ever D G fun H => SV K row H bad false
  no : Ever D G fun H => SkV T H no false
  od : Ever D G fun H => ∃ S, TyB K H odd S ∧ inB (-1000000000) 1000000000 odd = false
def Slt (σ : L2.St) (p a : Addr) (bad no odd : V) : Prop := σ[1]? = some (some (.ref p)) ∧ σ[3]? = some (some (.ref a)) ∧ σ[4]? = some (some bad) ∧ σ[5]? = some (some no) ∧ σ[6]? = some (some odd)
section
variable {T : Txt K mg} {row : List Int} {D : Dw} {G H : Hp} {p a : Addr} {es : List (List Int × Int)} {bad no odd : V} {σ : L2.St} {E : XK} {Q : VK}
theorem rn1 (h : Hnd T row D G p a es bad no odd) (s : Slt σ p a bad no odd) (k : KpN D G H) (e : SkErr T H E) : tCall (spAdded T) [] E (tCons (tVar 5) (tCons (tVar 4) (tCons (tVar 4) (tCons (tVar 6) tNil)))) σ H Q :=
  ⟨_, s.2.2.2.1, _, s.2.2.1, _, s.2.2.1, _, s.2.2.2.2, nil_i ⟨_, _, _, _, rfl, .inl ⟨h.no H k, e⟩⟩⟩
theorem rn2 (h : Hnd T row D G p a es bad no odd) (s : Slt σ p a bad no odd) (k : KpN D G H) (e : SkErr T H E) : tCall (spWeight T) [] E (tCons (tVar 5) (tCons (tVar 4) tNil)) σ H Q :=
  ⟨_, s.2.2.2.1, _, s.2.2.1, nil_i ⟨_, _, rfl, .inl ⟨h.no H k, e⟩⟩⟩
theorem rn3 (h : Hnd T row D G p a es bad no odd) (s : Slt σ p a bad no odd) (k : KpN D G H) (e : SkErr T H E) : tCall (spIsSum T) [] E (tCons (tVar 5) (tCons (tVar 3) tNil)) σ H Q :=
  ⟨_, s.2.2.2.1, _, s.2.1, nil_i ⟨_, _, rfl, .inl ⟨h.no H k, e⟩⟩⟩
theorem rn4 (h : Hnd T row D G p a es bad no odd) (s : Slt σ p a bad no odd) (k : KpN D G H) (e : ∀ H', Same H H' → E (.ref T.BadSum.C) none H') : tCall (spAdded T) [] E (tCons (tVar 1) (tCons (tVar 4) (tCons (tVar 3) (tCons (tVar 6) tNil)))) σ H Q :=
  ⟨_, s.1, _, s.2.2.1, _, s.2.1, _, s.2.2.2.2, nil_i ⟨_, _, _, _, rfl, .inr ⟨p, row, rfl, h.sk H k, h.rl, .inl ⟨false, true, h.bd H k, (h.sm H k).sv, .inl rfl, e⟩⟩⟩⟩
theorem rn5 (h : Hnd T row D G p a es bad no odd) (s : Slt σ p a bad no odd) (k : KpN D G H) (e : ∀ H', Same H H' → E (.ref T.BadSum.C) none H') : tCall (spAdded T) [] E (tCons (tVar 1) (tCons (tVar 3) (tCons (tVar 4) (tCons (tVar 6) tNil)))) σ H Q :=
  ⟨_, s.1, _, s.2.1, _, s.2.2.1, _, s.2.2.2.2, nil_i ⟨_, _, _, _, rfl, .inr ⟨p, row, rfl, h.sk H k, h.rl, .inl ⟨true, false, (h.sm H k).sv, h.bd H k, .inr rfl, e⟩⟩⟩⟩
theorem rn6 (h : Hnd T row D G p a es bad no odd) (s : Slt σ p a bad no odd) (k : KpN D G H) (e : ∀ H', Same H H' → E (.ref T.BadSum.C) none H') : tCall (spWeight T) [] E (tCons (tVar 1) (tCons (tVar 4) tNil)) σ H Q :=
  ⟨_, s.1, _, s.2.2.1, nil_i ⟨_, _, rfl, .inr ⟨p, row, rfl, h.sk H k, h.rl, .inl ⟨h.bd H k, e⟩⟩⟩⟩
theorem rn7 (h : Hnd T row D G p a es bad no odd) (s : Slt σ p a bad no odd) (k : KpN D G H) (e : ∀ H1, Same H H1 → NumErr T "times" H1 E) : tCall (spAdded T) [] E (tCons (tVar 1) (tCons (tVar 3) (tCons (tVar 3) (tCons (tVar 6) tNil)))) σ H Q := by
  obtain ⟨S, t, b⟩ := h.od H k
  exact ⟨_, s.1, _, s.2.1, _, s.2.1, _, s.2.2.2.2, nil_i ⟨_, _, _, _, rfl, .inr ⟨p, row, rfl, h.sk H k, h.rl, .inr ⟨a, a, es, es, S, rfl, rfl, h.sm H k, h.sm H k, t, .inl ⟨b, e⟩⟩⟩⟩⟩
end
def Rz1 (T : Txt K mg) (D : Dw) (G : Hp) (p a : Addr) (bad no odd : V) (t : XK → TE) : Prop := ∀ (E : XK) (σ : L2.St) (H : Hp) (Q : VK), Slt σ p a bad no odd → KpN D G H → SkErr T H E → t E σ H Q
def Rz2 (T : Txt K mg) (D : Dw) (G : Hp) (p a : Addr) (bad no odd : V) (t : XK → TE) : Prop := ∀ (E : XK) (σ : L2.St) (H : Hp) (Q : VK), Slt σ p a bad no odd → KpN D G H → (∀ H', Same H H' → E (.ref T.BadSum.C) none H') → t E σ H Q
end
end Tt
set_option maxRecDepth 100000
set_option maxHeartbeats 4000000
namespace Tt
open PySem L2
open LamX (Tabs TabS TabB ExtN CodeO tLam GivesToV tCallLam pe_callLam IsLam tLamV pe_lamV tCallLamI pe_callLamI)
section
variable {P : Program} {w : World} {K : PySem.W.Frag} {mg : Str → Option Value} {base : Heap}
def spRefused (T : Txt K mg) : Sp := fun vs H Q _ => ∃ (D : Dw) (p a : Addr) (b : Nat) (row : List Int) (es : List (List Int × Int)), vs = [.ref D.d, .ref p, .int (b : Int), .ref a] ∧ 1 ≤ b ∧ b ≤ 6 ∧ row.length = 2 * b ∧ SkAt T H p row ∧ SumAt row H a es ∧ DrOk D H ∧ Tabs (jTs T) H ∧
  ∀ H', DrOk D H' → Tabs (jTs T) H' → Q (.bl true) H'
theorem ok_l_refused (T : Txt K mg) (TB : TabB base mg T.jc T.jP) : FnG P w K mg base CX0 12 T.l_refused.a T.l_refused.fd ["draw", "skin", "bands", "one"] (spRefused T) := by
  have hmT : (T.jP, jQ) ∈ jTs T := List.mem_cons_self
  have hu : ∀ p ∈ jTs T, p.1 = T.jP → p.2 = jQ := fun p hp hq => by
    have e := List.mem_singleton.mp hp
    subst e
    exact Eq.refl jQ
  refine T.jF.okG sc_l_refused (fun vs H Q E h => ?_) (fun A outer s H vs Q E hA hr h => ?_)
  · obtain ⟨D, p, a, b, row, es, rfl, _⟩ := h
    rfl
  · obtain ⟨D, p, a, b, row, es, rfl, b1, b6, rl, sk, sm, dr, tb, k⟩ := h
    have nd := sc_l_refused.nd
    have hg := hA
    have hu2 := hu_of hr
    refine ⟨_, (pss_cons (ps_asg (pe_tup (pa_cons (pe_call (ok_l_bent T) (hr.mono (by decide)) (by rfl) T.l_bent.g T.l_bent.k T.l_bent.b .nil pass0 (pa_cons (pv 0) (pa_cons (pv 2) (pa_cons (pv 3) pa_nil)))) (pa_cons (pe_call (ok_l_pick T) (hr.mono (by decide)) (by rfl) T.l_pick.g T.l_pick.k T.l_pick.b .nil pass0 (pa_cons (pv 0) (pa_cons (pe_lst (pa_cons pe_non (pa_cons pe_int (pa_cons (pe_tup (pa_cons pe_int (pa_cons pe_int pa_nil))) (pa_cons pe_str pa_nil))))) pa_nil))) pa_nil))) (pg_tup rfl (pgs_cons (pg_name (i := 4) nd rfl (Or.inr rfl)) (pgs_cons (pg_name (i := 5) nd rfl (Or.inr rfl)) pgs_nil))))
    (pss_cons (ps_set (i := 6) nd rfl (Or.inr rfl) (pe_call (ok_l_pick T) (hr.mono (by decide)) (by rfl) T.l_pick.g T.l_pick.k T.l_pick.b .nil pass0 (pa_cons (pv 0) (pa_cons (pe_lst (pa_cons (pe_op op_add (pe_op op_pow pe_int pe_int) pe_int) (pa_cons (pe_op op_sub (pe_op op_sub pe_int (pe_op op_pow pe_int pe_int)) pe_int) (pa_cons pe_non (pa_cons pe_bl (pa_cons pe_str pa_nil)))))) pa_nil))))
    (pss_cons (ps_set (i := 7) nd rfl (Or.inl rfl) (pe_lst (pa_cons (pe_lamV (q := jQ) (k := 9) TB rfl rfl hmT hu (LamX.lamS_by (sc := defScope s_l_refused) (by decide +kernel)) rfl (fun _ _ _ _ _ => rfl) (fun _ _ _ _ _ _ _ hr => (lb_1 T hr rfl rfl rfl (Or.inr (Or.inr rfl)) (Or.inr (Or.inr rfl)) (Or.inr (Or.inr rfl)) (by rfl)))) pa_nil)))
    (pss_cons (ps_expr (pe_bm PySem.F.plainAttrs_list PySem.F.slot_list_append PySem.F.type_list_append mt_append (pv 7) (pa_cons (pe_lamV (q := jQ) (k := 9) TB rfl rfl hmT hu (LamX.lamS_by (sc := defScope s_l_refused) (by decide +kernel)) rfl (fun _ _ _ _ _ => rfl) (fun _ _ _ _ _ _ _ hr => (lb_2 T hr rfl rfl (Or.inr (Or.inr rfl)) (Or.inr (Or.inr rfl)) (by rfl)))) pa_nil)))
    (pss_cons (ps_expr (pe_bm PySem.F.plainAttrs_list PySem.F.slot_list_append PySem.F.type_list_append mt_append (pv 7) (pa_cons (pe_lamV (q := jQ) (k := 9) TB rfl rfl hmT hu (LamX.lamS_by (sc := defScope s_l_refused) (by decide +kernel)) rfl (fun _ _ _ _ _ => rfl) (fun _ _ _ _ _ _ _ hr => (lb_3 T hr rfl rfl (Or.inr (Or.inr rfl)) (Or.inr (Or.inr rfl)) (by rfl)))) pa_nil)))
    (pss_cons (ps_for PassesOwn.never rfl (pi_list (pv 7)) (pg_name (i := 8) nd rfl (Or.inl rfl))
      (pss_cons (ps_set (i := 9) nd rfl (Or.inl rfl) (pe_callK T (q := jQ) (k := 9) (pv 8) rfl (by rfl) (hr.mono (by decide))))
      (pss_one (ps_if (PW.pt (pw_or (pt_not (pt_val (pe_callB call_isA (by rfl) T.zisinstance (by decide +kernel) (pa_cons (pv 9) (pa_cons (pe_glob (v := .ref T.BadSkin.C) rfl T.BadSkin.g rfl) pa_nil))))) (pw_or1 (pt_cmpR op_notN (pe_xfH (pv 9)) pe_non (nomark _)))))
        (pss_one (ps_ret pe_bl))
        pss_nil))))
    (pss_cons (ps_set (i := 7) nd rfl (Or.inl rfl) (pe_lst (pa_cons (pe_lamV (q := jQ) (k := 9) TB rfl rfl hmT hu (LamX.lamS_by (sc := defScope s_l_refused) (by decide +kernel)) rfl (fun _ _ _ _ _ => rfl) (fun _ _ _ _ _ _ _ hr => (lb_4 T hr rfl rfl rfl rfl (Or.inr (Or.inr rfl)) (Or.inr (Or.inr rfl)) (Or.inr (Or.inr rfl)) (Or.inr (Or.inr rfl)) (by rfl)))) pa_nil)))
    (pss_cons (ps_expr (pe_bm PySem.F.plainAttrs_list PySem.F.slot_list_append PySem.F.type_list_append mt_append (pv 7) (pa_cons (pe_lamV (q := jQ) (k := 9) TB rfl rfl hmT hu (LamX.lamS_by (sc := defScope s_l_refused) (by decide +kernel)) rfl (fun _ _ _ _ _ => rfl) (fun _ _ _ _ _ _ _ hr => (lb_5 T hr rfl rfl rfl rfl (Or.inr (Or.inr rfl)) (Or.inr (Or.inr rfl)) (Or.inr (Or.inr rfl)) (Or.inr (Or.inr rfl)) (by rfl)))) pa_nil)))
    (pss_cons (ps_expr (pe_bm PySem.F.plainAttrs_list PySem.F.slot_list_append PySem.F.type_list_append mt_append (pv 7) (pa_cons (pe_lamV (q := jQ) (k := 9) TB rfl rfl hmT hu (LamX.lamS_by (sc := defScope s_l_refused) (by decide +kernel)) rfl (fun _ _ _ _ _ => rfl) (fun _ _ _ _ _ _ _ hr => (lb_6 T hr rfl rfl (Or.inr (Or.inr rfl)) (Or.inr (Or.inr rfl)) (by rfl)))) pa_nil)))
    (pss_cons (ps_if (pt_cmpR (op_neD hr.units) (pe_lcI (own := [("work", 8)]) (g := gName 8) rfl nd (pi_list (pv 7)) (blkOk_by (own := [("work", 8)]) (N := N_l_refused) (sc := defScope s_l_refused) (by decide +kernel)) (fun _ _ _ _ _ => pg_name (i := 8) nd rfl (Or.inl rfl)) (fun _ _ _ _ _ _ _ bk => pts_one (pt_not (pt_val (pe_callB (call_isAK (K := K) rfl) (by rfl) T.zisinstance (by decide +kernel) (pa_cons (pe_callKI T bk (q := jQ) (k := 9) (pv 8) rfl (by rfl) (hr.mono (by decide))) (pa_cons (pe_glob (v := .ref T.BadSum.C) rfl T.BadSum.g rfl) pa_nil)))))) (fun _ _ _ _ _ => pe_int)) (pe_lst pa_nil) (nomark _))
      (pss_one (ps_ret pe_bl))
      pss_nil)
    (pss_cons (ps_set (i := 9) nd rfl (Or.inl rfl) (pe_caught (k := 9) T (by rfl) TB rfl hmT hu (hr.mono (by decide)) (LamX.lamS_by (sc := defScope s_l_refused) (by decide +kernel)) rfl (fun _ _ _ _ _ => rfl) (fun _ _ _ _ _ _ _ hr => (lb_7 T hr rfl rfl rfl (Or.inr (Or.inr rfl)) (Or.inr (Or.inr rfl)) (Or.inr (Or.inr rfl)) (by rfl)))))
    (pss_one (ps_ret (pe_and (pe_callB call_isA (by rfl) T.zisinstance (by decide +kernel) (pa_cons (pv 9) (pa_cons (pe_glob (v := .ref T.BadNumber.C) rfl T.BadNumber.g rfl) pa_nil))) (pe_one (pe_cmpR (op_eqD hr.units) (pe_xfH (pv 9)) pe_str (nomark _))))))))))))))))), ?_⟩
    refine sqn ⟨_, rfl, _, rfl, _, rfl, D, b, a, row, es, rfl, b1, b6, rl, sm, dr, fun bad H1 d1 k1 ev => ?_⟩
    refine tcn ⟨_, rfl, tcn (tlst (tcn (tC_i (tcn (tC_i (tcn ⟨(by show 2 ≤ sizeLine; decide), fun t0 ht0 => ?_⟩))))))⟩
    have et0 : (upd H1 t0 (.tup [.int 0, .int 1])) t0 = some (.tup [.int 0, .int 1]) := upd_same
    have s2 : Same H1 (upd H1 t0 (.tup [.int 0, .int 1])) := same_new ht0
    generalize upd H1 t0 (.tup [.int 0, .int 1]) = H2 at et0 s2
    have d2 := d1.same s2
    refine tcn (tC_i (nil_i ⟨(by show 4 ≤ sizeLine; decide), fun l0 hl0 => nil_i ?_⟩))
    refine ⟨D, l0, _, rfl, .inl (SqL.of upd_same), (d2.off hl0).2.1, by simp, (by show 4 < 1073741824; decide), d2.new hl0, fun i no H3 hn d3 k3 => ?_⟩
    have k23 : Kp D H2 H3 := (Kp.new hl0).trans k3
    have k13 : Kp D H1 H3 := (Kp.of s2).trans k23
    have et3 := d2.tup k23 et0
    have fno : Ever D H3 fun H => SkV T H no false := fun H kk => by
      have hx := List.mem_of_getElem? hn
      simp only [List.mem_cons, List.not_mem_nil, or_false] at hx
      rcases hx with rfl | rfl | rfl | rfl
      · exact .ty .non T.kSN
      · exact .ty (.int 5) T.kSI
      · exact .ty (.tup (SqT.of (kk.tup d3 et3))) T.kST
      · exact .ty (.str _) T.kSY
    clear hn k3 hl0 d2 s2 ht0 et0 k23 et3
    refine nil_i ⟨(by show 2 ≤ sizeLine; decide), fun tp htp => ⟨tp, _, rfl, SqT.of upd_same, rfl, _, _, rfl, _, _, rfl, rfl, ?_⟩⟩
    have k34 : Kp D H3 (upd H3 tp (.tup [bad, no])) := Kp.new htp
    have d4 := d3.new (o := .tup [bad, no]) htp
    generalize upd H3 tp (.tup [bad, no]) = H4 at k34 d4
    dsimp only
    refine sqn ⟨_, rfl, tcn (tlst ?_)⟩
    refine tcn ⟨10, 9, rfl, rfl, ⟨by decide, by decide, by decide⟩, tC_i (rI0_add (i := 1000000000) (j := 1) (v := 1000000001) (by decide) ?_)⟩
    refine tcn ⟨10, 9, rfl, rfl, ⟨by decide, by decide, by decide⟩, rI0_sub (i := 0) (j := 1000000000) (v := -1000000000) (by decide) (tC_i (rI0_sub (i := -1000000000) (j := 1) (v := -1000000001) (by decide) ?_))⟩
    refine tcn (tC_i (tcn (tC_i (tcn (tC_i (nil_i ⟨(by show 5 ≤ sizeLine; decide), fun l1 hl1 => nil_i ?_⟩))))))
    refine ⟨D, l1, _, rfl, .inl (SqL.of upd_same), (d4.off hl1).2.1, by simp, (by show 5 < 1073741824; decide), d4.new hl1, fun i odd G hn dG kG => ?_⟩
    have k4G : Kp D H4 G := (Kp.new hl1).trans kG
    have fod : ∀ H', ∃ S, TyB K H' odd S ∧ inB (-1000000000) 1000000000 odd = false := fun H' => by
      have hx := List.mem_of_getElem? hn
      simp only [List.mem_cons, List.not_mem_nil, or_false] at hx
      rcases hx with rfl | rfl | rfl | rfl | rfl
      · exact ⟨_, .int _, by decide⟩
      · exact ⟨_, .int _, by decide⟩
      · exact ⟨_, .non, rfl⟩
      · exact ⟨_, .bl true, rfl⟩
      · exact ⟨_, .str _, rfl⟩
    have k3G : Kp D H3 G := k34.trans k4G
    have k1G : Kp D H1 G := k13.trans k3G
    have kHG : Kp D H G := k1.trans k1G
    have tG := tabs_kp tb dr kHG
    have skG := sk.kp dr kHG
    have smG := sm.kp dr kHG
    have hh : Hnd T row D G p a es bad no odd := ⟨⟨by omega, by omega⟩, fun H' kk => skG.kpn dG kk, fun H' kk => smG.kpn dG kk, ev.go (.of k1G), fno.go (.of k3G), fun H' _ => fod H'⟩
    clear hn kG k4G k34 d4 k3G k1G kHG fno ev fod skG smG sk sm tb hl1 htp k13 d3 k1 d1
    dsimp only
    have sl : ∀ (v7 v8 v9 : Option V), Slt [some (.ref D.d), some (.ref p), some (.int (b : Int)), some (.ref a), some bad, some no, some odd, v7, v8, v9] p a bad no odd := fun _ _ _ => ⟨rfl, rfl, rfl, rfl, rfl⟩
    obtain ⟨WL, hWL⟩ : ∃ WL : (XK → TE) → Hp → V → Prop, WL = IsLam (cxOf CX0 P w K mg base N_l_refused "_law_refused" (defScope s_l_refused) T.l_refused.a (.ref T.jc) A outer s H E).nox 9 jQ := ⟨_, rfl⟩
    have R1 : Rz1 T D G p a bad no odd (fun x => tCall (spAdded T) [] x (tCons (tVar 5) (tCons (tVar 4) (tCons (tVar 4) (tCons (tVar 6) tNil))))) := fun E σ H Q s k e => rn1 hh s k e
    have R2 : Rz1 T D G p a bad no odd (fun x => tCall (spWeight T) [] x (tCons (tVar 5) (tCons (tVar 4) tNil))) := fun E σ H Q s k e => rn2 hh s k e
    have R3 : Rz1 T D G p a bad no odd (fun x => tCall (spIsSum T) [] x (tCons (tVar 5) (tCons (tVar 3) tNil))) := fun E σ H Q s k e => rn3 hh s k e
    have R4 : Rz2 T D G p a bad no odd (fun x => tCall (spAdded T) [] x (tCons (tVar 1) (tCons (tVar 4) (tCons (tVar 3) (tCons (tVar 6) tNil))))) := fun E σ H Q s k e => rn4 hh s k e
    have R5 : Rz2 T D G p a bad no odd (fun x => tCall (spAdded T) [] x (tCons (tVar 1) (tCons (tVar 3) (tCons (tVar 4) (tCons (tVar 6) tNil))))) := fun E σ H Q s k e => rn5 hh s k e
    have R6 : Rz2 T D G p a bad no odd (fun x => tCall (spWeight T) [] x (tCons (tVar 1) (tCons (tVar 4) tNil))) := fun E σ H Q s k e => rn6 hh s k e
    refine sqn ⟨tG, fun f1 G1 x1 u1 i1 _ => ⟨(by show 1 ≤ sizeLine; decide), fun wl hwl => ?_⟩⟩
    have k12' : ExtN G G1 := x1
    have fwl := extN_fresh k12' hwl
    have nn := same_new (o := .lst [f1]) hwl
    have k12 := k12'.trans (.of nn)
    have t12 := u1.ext nn
    have e12 : (upd G1 wl (.lst [f1])) wl = some (.lst [f1]) := upd_same
    have w12 : ∀ x ∈ [f1], ∃ t, WL t (upd G1 wl (.lst [f1])) x ∧ Rz1 T D G p a bad no odd t := fun x hx => by
      rw [hWL, List.mem_singleton.mp hx]
      exact ⟨_, i1.ext (.of nn), R1⟩
    generalize upd G1 wl (.lst [f1]) = K12 at k12 t12 e12 w12
    clear nn hwl x1 u1 i1 k12'
    dsimp only
    refine sqn ⟨_, rfl, .inl ⟨rfl, _, SqL.of e12⟩, t12, fun f2 G2 x2 u2 i2 _ => ?_⟩
    have e13 := x2 _ _ e12 (fun _ z => nomatch z)
    have k13 := k12.trans x2
    refine ⟨wl, _, _, rfl, rfl, e13, (by show 1 < sizeLine; decide), ?_⟩
    have k14 : ExtN G (upd G2 wl (.lst ([f1] ++ [f2]))) := extN_putF k13 fwl
    have t14 : Tabs (jTs T) (upd G2 wl (.lst ([f1] ++ [f2]))) := tabs_put u2 e13
    have e14 : (upd G2 wl (.lst ([f1] ++ [f2]))) wl = some (.lst ([f1] ++ [f2])) := upd_same
    have w14 : ∀ x ∈ [f1] ++ [f2], ∃ t, WL t (upd G2 wl (.lst ([f1] ++ [f2]))) x ∧ Rz1 T D G p a bad no odd t := fun x hx => by
      rcases List.mem_append.mp hx with hx | hx
      · obtain ⟨t, h1, h2⟩ := w12 x hx
        rw [hWL] at h1 ⊢
        exact ⟨t, isLam_put (h1.ext x2) e13, h2⟩
      · rw [hWL, List.mem_singleton.mp hx]
        exact ⟨_, isLam_put i2 e13, R2⟩
    generalize upd G2 wl (.lst ([f1] ++ [f2])) = K14 at k14 t14 e14 w14
    clear e13 k13 x2 u2 i2 k12 t12 e12 w12
    dsimp only
    refine sqn ⟨_, rfl, .inl ⟨rfl, _, SqL.of e14⟩, t14, fun f3 G3 x3 u3 i3 _ => ?_⟩
    have e15 := x3 _ _ e14 (fun _ z => nomatch z)
    have k15 := k14.trans x3
    refine ⟨wl, _, _, rfl, rfl, e15, (by show 2 < sizeLine; decide), ?_⟩
    have k16 : ExtN G (upd G3 wl (.lst ([f1] ++ [f2] ++ [f3]))) := extN_putF k15 fwl
    have t16 : Tabs (jTs T) (upd G3 wl (.lst ([f1] ++ [f2] ++ [f3]))) := tabs_put u3 e15
    have e16 : (upd G3 wl (.lst ([f1] ++ [f2] ++ [f3]))) wl = some (.lst ([f1] ++ [f2] ++ [f3])) := upd_same
    have w16 : ∀ x ∈ [f1] ++ [f2] ++ [f3], ∃ t, WL t (upd G3 wl (.lst ([f1] ++ [f2] ++ [f3]))) x ∧ Rz1 T D G p a bad no odd t := fun x hx => by
      rcases List.mem_append.mp hx with hx | hx
      · obtain ⟨t, h1, h2⟩ := w14 x hx
        rw [hWL] at h1 ⊢
        exact ⟨t, isLam_put (h1.ext x3) e15, h2⟩
      · rw [hWL, List.mem_singleton.mp hx]
        exact ⟨_, isLam_put i3 e15, R3⟩
    generalize upd G3 wl (.lst ([f1] ++ [f2] ++ [f3])) = K16 at k16 t16 e16 w16
    generalize [f1] ++ [f2] ++ [f3] = wx at e16 w16
    clear e15 k15 x3 u3 i3 k14 t14 e14 w14 R1 R2 R3
    dsimp only
    refine sqn ⟨_, rfl, wl, rfl, ⟨_, SqL.of e16⟩, ?_⟩
    refine for_list (K := K) (a := wl) (xs := wx) (fun i σ H' => (∃ v8 v9 : Option V, σ = [some (.ref D.d), some (.ref p), some (.int (b : Int)), some (.ref a), some bad, some no, some odd, some (.ref wl), v8, v9]) ∧ Same K16 H')
      ⟨⟨_, _, rfl⟩, fun _ _ z => z⟩ (fun i σ H' _ z => SqL.of (z.2 _ _ e16)) ?_ ?_
    · rintro j x σ H18 hx ⟨⟨v8, v9, rfl⟩, s18⟩
      obtain ⟨t, h1, h2⟩ := w16 x (List.mem_of_getElem? hx)
      rw [hWL] at h1
      refine sqn ⟨_, rfl, t, h1.ext (.of s18), h2 _ _ _ _ (sl _ _ _) (.ext (k16.trans (.of s18))) fun d H19 s19 ed => ⟨exm_S T, fun ae ha => ?_⟩⟩
      have ea : (upd H19 ae (exh (.ref T.BadSkin.C) (some d) ae)) ae = some (exh (.ref T.BadSkin.C) (some d) ae) := upd_same
      have s20 := s19.trans (same_new (o := exh (.ref T.BadSkin.C) (some d) ae) ha)
      have ed' := same_new (o := exh (.ref T.BadSkin.C) (some d) ae) ha _ _ ed
      generalize upd H19 ae (exh (.ref T.BadSkin.C) (some d) ae) = H20 at ea s20 ed'
      refine ⟨_, rfl, .inl ⟨ae, T.BadSkin.C, some d, _, _, true, rfl, ea, .inr ⟨d, _, rfl, ed'⟩, T.BadSkin.ec, .own T.BadSkin.C, T.kSkSk, _, rfl, iteF ?_⟩⟩
      refine ⟨_, rfl, ae, T.BadSkin.C, d, _, .non, rfl, ea, ed', T.BadSkin.xf, T.BadSkin.n, rfl, rfl, _, rfl, ite2 (fun c => absurd c (by decide)) (fun _ => ?_)⟩
      exact ⟨⟨_, _, rfl⟩, s18.trans s20⟩
    rintro σ H17 ⟨⟨v8, v9, rfl⟩, s17⟩
    have t17 := t16.ext s17
    have k17 : ExtN G H17 := k16.trans (.of s17)
    clear s17 w16 e16 t16 k16 fwl
    refine sqn ⟨t17, fun f1 G1 x1 u1 i1 _ => ⟨(by show 1 ≤ sizeLine; decide), fun wl hwl => ?_⟩⟩
    have k12' : ExtN G G1 := k17.trans x1
    have fwl := extN_fresh k12' hwl
    have nn := same_new (o := .lst [f1]) hwl
    have k12 := k12'.trans (.of nn)
    have t12 := u1.ext nn
    have e12 : (upd G1 wl (.lst [f1])) wl = some (.lst [f1]) := upd_same
    have w12 : ∀ x ∈ [f1], ∃ t, WL t (upd G1 wl (.lst [f1])) x ∧ Rz2 T D G p a bad no odd t := fun x hx => by
      rw [hWL, List.mem_singleton.mp hx]
      exact ⟨_, i1.ext (.of nn), R4⟩
    generalize upd G1 wl (.lst [f1]) = K12 at k12 t12 e12 w12
    clear nn hwl x1 u1 i1 k12'
    dsimp only
    refine sqn ⟨_, rfl, .inl ⟨rfl, _, SqL.of e12⟩, t12, fun f2 G2 x2 u2 i2 _ => ?_⟩
    have e13 := x2 _ _ e12 (fun _ z => nomatch z)
    have k13 := k12.trans x2
    refine ⟨wl, _, _, rfl, rfl, e13, (by show 1 < sizeLine; decide), ?_⟩
    have k14 : ExtN G (upd G2 wl (.lst ([f1] ++ [f2]))) := extN_putF k13 fwl
    have t14 : Tabs (jTs T) (upd G2 wl (.lst ([f1] ++ [f2]))) := tabs_put u2 e13
    have e14 : (upd G2 wl (.lst ([f1] ++ [f2]))) wl = some (.lst ([f1] ++ [f2])) := upd_same
    have w14 : ∀ x ∈ [f1] ++ [f2], ∃ t, WL t (upd G2 wl (.lst ([f1] ++ [f2]))) x ∧ Rz2 T D G p a bad no odd t := fun x hx => by
      rcases List.mem_append.mp hx with hx | hx
      · obtain ⟨t, h1, h2⟩ := w12 x hx
        rw [hWL] at h1 ⊢
        exact ⟨t, isLam_put (h1.ext x2) e13, h2⟩
      · rw [hWL, List.mem_singleton.mp hx]
        exact ⟨_, isLam_put i2 e13, R5⟩
    generalize upd G2 wl (.lst ([f1] ++ [f2])) = K14 at k14 t14 e14 w14
    clear e13 k13 x2 u2 i2 k12 t12 e12 w12
    dsimp only
    refine sqn ⟨_, rfl, .inl ⟨rfl, _, SqL.of e14⟩, t14, fun f3 G3 x3 u3 i3 _ => ?_⟩
    have e15 := x3 _ _ e14 (fun _ z => nomatch z)
    have k15 := k14.trans x3
    refine ⟨wl, _, _, rfl, rfl, e15, (by show 2 < sizeLine; decide), ?_⟩
    have k16 : ExtN G (upd G3 wl (.lst ([f1] ++ [f2] ++ [f3]))) := extN_putF k15 fwl
    have t16 : Tabs (jTs T) (upd G3 wl (.lst ([f1] ++ [f2] ++ [f3]))) := tabs_put u3 e15
    have e16 : (upd G3 wl (.lst ([f1] ++ [f2] ++ [f3]))) wl = some (.lst ([f1] ++ [f2] ++ [f3])) := upd_same
    have w16 : ∀ x ∈ [f1] ++ [f2] ++ [f3], ∃ t, WL t (upd G3 wl (.lst ([f1] ++ [f2] ++ [f3]))) x ∧ Rz2 T D G p a bad no odd t := fun x hx => by
      rcases List.mem_append.mp hx with hx | hx
      · obtain ⟨t, h1, h2⟩ := w14 x hx
        rw [hWL] at h1 ⊢
        exact ⟨t, isLam_put (h1.ext x3) e15, h2⟩
      · rw [hWL, List.mem_singleton.mp hx]
        exact ⟨_, isLam_put i3 e15, R6⟩
    generalize upd G3 wl (.lst ([f1] ++ [f2] ++ [f3])) = K16 at k16 t16 e16 w16
    have wlen : ([f1] ++ [f2] ++ [f3]).length ≤ 4000 := by simp
    generalize [f1] ++ [f2] ++ [f3] = wx at e16 w16 wlen
    clear e15 k15 x3 u3 i3 k14 t14 e14 w14 R4 R5 R6
    dsimp only
    refine sqn ⟨_, rfl, wl, rfl, ⟨_, SqL.of e16⟩, fun D1 hD1 => ?_⟩
    refine lc_list (K := K) (a := wl) (xs := wx) (fun i H' => H' D1 = some (.lst []) ∧ Same K16 H') ⟨upd_same, same_new hD1⟩ (fun i H' _ z => SqL.of (z.2 _ _ e16)) ?_ ?_
    · rintro i x H17 hx ⟨e17, s17⟩
      obtain ⟨t, h1, h2⟩ := w16 x (List.mem_of_getElem? hx)
      rw [hWL] at h1
      refine ⟨rfl, ?_⟩
      refine ⟨_, rfl, t, h1.ext (.of s17), h2 _ _ _ _ (sl _ _ _) (.ext (k16.trans (.of s17))) fun H18 s18 => ⟨exm_U T, fun ae ha => ?_⟩⟩
      refine .inl ⟨ae, T.BadSum.C, none, _, _, true, rfl, upd_same, .inl rfl, T.BadSum.ec, .own T.BadSum.C, T.kUU, _, rfl, iteF ?_⟩
      have s19 := s18.trans (same_new (o := exh (.ref T.BadSum.C) none ae) ha)
      exact ⟨s19 _ _ e17, s17.trans s19⟩
    rintro H17 ⟨e17, s17⟩
    refine ⟨(by show 0 ≤ sizeLine; decide), fun e he => ?_⟩
    have s18 := same_new (o := .lst []) he
    refine ⟨.list [], .list [], .lst (SqL.of (s18 _ _ e17)) .nil, .lst (SqL.of upd_same) .nil, rfl, rfl, _, rfl, ite2 (fun c => absurd c (by decide)) (fun _ => ?_)⟩
    dsimp only [tNext]
    have k18 := (k16.trans (.of s17)).trans (.of s18)
    have t18 := (t16.ext s17).ext s18
    generalize upd H17 e (.lst []) = H18 at k18 t18
    refine sqn ⟨t18, fun H19 x19 t19 => rn7 hh (sl _ _ _) (.ext (k18.trans x19)) fun H20 s20 d H21 s21 ed => ⟨exm_N T, fun ae ha => ?_⟩⟩
    have ea : (upd H21 ae (exh (.ref T.BadNumber.C) (some d) ae)) ae = some (exh (.ref T.BadNumber.C) (some d) ae) := upd_same
    have s22 := (s20.trans s21).trans (same_new (o := exh (.ref T.BadNumber.C) (some d) ae) ha)
    have ed' := same_new (o := exh (.ref T.BadNumber.C) (some d) ae) ha _ _ ed
    generalize upd H21 ae (exh (.ref T.BadNumber.C) (some d) ae) = H22 at ea s22 ed'
    have k22 := (k18.trans x19).trans (.of s22)
    have t22 := t19.ext s22
    refine ⟨_, rfl, .inl ⟨ae, T.BadNumber.C, some d, _, _, true, rfl, ea, .inr ⟨d, _, rfl, ed'⟩, T.BadNumber.ec, .own T.BadNumber.C, T.kNN, _, rfl, iteT ?_⟩⟩
    refine ⟨_, rfl, ae, T.BadNumber.C, d, _, .str "times", rfl, ea, ed', T.BadNumber.xf, T.BadNumber.n, rfl, ?_⟩
    refine tC_i ⟨.str "times", .str "times", .str _, .str _, by decide +kernel, by decide +kernel, ?_⟩
    exact k _ (drOk_ext dG k22) t22
end
end Tt
set_option maxRecDepth 100000
set_option maxHeartbeats 4000000
namespace Tt
open PySem L2
open LamX (Tabs TabS TabB ExtN CodeO tLam)
section
variable {P : Program} {w : World} {K : PySem.W.Frag} {mg : Str → Option Value} {base : Heap}
theorem WsAt.kp {D : Dw} {H H' : Hp} {l : Addr} {ws : List (List Int)} (h : WsAt H l ws) (o : Off D l) (dr : DrOk D H) (k : Kp D H H') : WsAt H' l ws := by
  obtain ⟨qs, h1, h2, h3⟩ := h
  exact ⟨qs, k.at o h1, h2, fun i q y a b => dr.tup k (h3 i q y a b)⟩
theorem WsAt.same {H H' : Hp} {l : Addr} {ws : List (List Int)} (h : WsAt H l ws) (k : Same H H') : WsAt H' l ws := by
  obtain ⟨qs, h1, h2, h3⟩ := h
  exact ⟨qs, k _ _ h1, h2, fun i q y a b => k _ _ (h3 i q y a b)⟩
theorem Rnds.sub {b : Nat} {ws us : List (List Int)} (h : Rnds b ws) (s : us.Sublist ws) : Rnds b us := ⟨s.nodup h.nd, fun y hy => h.rd y (s.subset hy)⟩
theorem law_body (T : Txt K mg) (TBj : TabB base mg T.jc T.jP) {cdv : Value} {A : Around} {outer : List Env} {s : Shared} {H : Hp} {E : XK} {Q : VK} {a : Addr} {zs : List Int} (hA : A.guards = some []) (hr : Room 14 (A.deeper (PyProof.Rows.envOfC "law" (defScope s_law) s.heap.objs.size T.law.a cdv)))
    (hs : SqL K H a (zs.map V.int)) (hl : zs.length ≤ 63) (tb : Tabs (jTs T) H) (k : ∀ H', Q (.bl true) H') :
    ∃ t, PSs (cxOf CX0 P w K mg base N_law "law" (defScope s_law) T.law.a cdv A outer s H E).nox (defBody s_law) t ∧ t { nx := fun _ H' => Q .non H', rt := Q } (L2.start N_law [.ref a]) H := by
  have nd := sc_law.nd
  have hg : (cxOf CX0 P w K mg base N_law "law" (defScope s_law) T.law.a cdv A outer s H E).nox.A.guards = some [] := hA
  refine ⟨_, (pss_cons (ps_set (i := 1) nd rfl (Or.inl rfl) (pe_call (ok_l_begun T) (hr.mono (by decide)) (by rfl) T.l_begun.g T.l_begun.k T.l_begun.b .nil pass0 (pa_cons (pv 0) pa_nil)))
    (pss_cons (ps_for PassesOwn.never rfl (pi_range1 rfl T.zrange (pa_cons (pe_op op_add pe_int (pe_callB (call_min2 rfl) (by rfl) T.zmin (by decide +kernel) (pa_cons (pe_callB call_len_seq (by rfl) T.zlen (by decide +kernel) (pa_cons (pv 0) pa_nil)) (pa_cons pe_int pa_nil)))) pa_nil)) (pg_name (i := 2) nd rfl (Or.inl rfl))
      (pss_cons (ps_set (i := 3) nd rfl (Or.inl rfl) (pe_op op_add pe_int (pe_call (ok_l_take T) (hr.mono (by decide)) (by rfl) T.l_take.g T.l_take.k T.l_take.b .nil pass0 (pa_cons (pv 1) (pa_cons pe_int pa_nil)))))
      (pss_cons (ps_par (i := 4) (j := 5) rfl nd rfl rfl (by decide) rfl rfl (pa_cons (pe_make T.Skin.kk (ok_Skin_init T) (hr.mono (by decide)) (by rfl) T.Skin.g T.Skin.b .nil passF (pa_cons (pe_call (ok_l_row T) (hr.mono (by decide)) (by rfl) T.l_row.g T.l_row.k T.l_row.b .nil pass0 (pa_cons (pv 1) (pa_cons (pv 3) pa_nil))) pa_nil)) (pa_cons (pe_call (ok_l_pick T) (hr.mono (by decide)) (by rfl) T.l_pick.g T.l_pick.k T.l_pick.b .nil pass0 (pa_cons (pv 1) (pa_cons (pe_lst (pa_cons pe_int (pa_cons pe_int (pa_cons pe_int (pa_cons pe_int (pa_cons pe_int pa_nil)))))) pa_nil))) pa_nil)) rfl)
      (pss_cons (ps_set (i := 6) nd rfl (Or.inl rfl) (pe_call (ok_l_unlike_rounds T) (hr.mono (by decide)) (by rfl) T.l_unlike_rounds.g T.l_unlike_rounds.k T.l_unlike_rounds.b .nil pass0 (pa_cons (pv 1) (pa_cons (pv 3) (pa_cons (pe_op op_add (pv 5) (pe_call (ok_l_pick T) (hr.mono (by decide)) (by rfl) T.l_pick.g T.l_pick.k T.l_pick.b .nil pass0 (pa_cons (pv 1) (pa_cons (pe_lst (pa_cons pe_int (pa_cons pe_int (pa_cons pe_int pa_nil)))) pa_nil)))) pa_nil)))))
      (pss_cons (ps_par (i := 7) (j := 8) rfl nd rfl rfl (by decide) rfl rfl (pa_cons (pe_call (ok_l_numbered T) (hr.mono (by decide)) (by rfl) T.l_numbered.g T.l_numbered.k T.l_numbered.b .nil pass0 (pa_cons (pv 1) (pa_cons (pe_slice sl_list (pv 6) po_none (po_some (pv 5))) pa_nil))) (pa_cons (pe_call (ok_l_numbered T) (hr.mono (by decide)) (by rfl) T.l_numbered.g T.l_numbered.k T.l_numbered.b .nil pass0 (pa_cons (pv 1) (pa_cons (pe_slice sl_list (pv 6) (po_some (pe_op op_sub (pe_callB call_len_seq (by rfl) T.zlen (by decide +kernel) (pa_cons (pv 6) pa_nil)) (pv 5))) po_none) pa_nil))) pa_nil)) rfl)
      (pss_cons (ps_if (PW.pt (pw_or (pt_not (pt_val (pe_callG (ok_l_judged T) hg (hr.mono (by decide)) (by rfl) T.l_judged.g T.l_judged.k T.l_judged.b .nil pass0 (pa_cons (pv 1) (pa_cons (pv 4) (pa_cons (pv 3) (pa_cons (pv 7) pa_nil))))))) (pw_or1 (pt_not (pt_val (pe_callG (ok_l_added_right T) hg (hr.mono (by decide)) (by rfl) T.l_added_right.g T.l_added_right.k T.l_added_right.b .nil pass0 (pa_cons (pv 1) (pa_cons (pv 4) (pa_cons (pv 7) (pa_cons (pv 8) pa_nil))))))))))
        (pss_one (ps_ret pe_bl))
        pss_nil)
      (pss_one (ps_if (pt_not (pt_val (pe_callG (ok_l_refused T TBj) hg (hr.mono (by decide)) (by rfl) T.l_refused.g T.l_refused.k T.l_refused.b .nil pass0 (pa_cons (pv 1) (pa_cons (pv 4) (pa_cons (pv 3) (pa_cons (pv 7) pa_nil)))))))
        (pss_one (ps_ret pe_bl))
        pss_nil))))))))
    (pss_one (ps_ret pe_bl)))), ?_⟩
  refine ⟨_, rfl, a, zs, rfl, hs, hl, fun D H1 d1 s1 => ?_⟩
  have tb1 := tb.ext s1
  have hs1 : SqL K H1 a (zs.map V.int) := Same.seq s1 hs
  refine sqn ⟨_, rfl, a, _, rfl, .inl hs1, _, _, rfl, _, _, rfl, rfl, _, rfl, ?_, ?_, ?_⟩
  · split <;> omega
  · split <;> omega
  refine for_range (lo := 0) (fun i σ H' => ∃ v2 v3 v4 v5 v6 v7 v8 : Option V, σ = [some (.ref a), some (.ref D.d), v2, v3, v4, v5, v6, v7, v8] ∧ DrOk D H' ∧ Tabs (jTs T) H') ⟨none, none, none, none, none, none, none, rfl, d1, tb1⟩ ?_ ?_
  · rintro i0' σ H2 hi ⟨v2, v3, v4, v5, v6, v7, v8, rfl, d2, t2⟩
    refine sqn ⟨_, rfl, D, 6, rfl, by omega, by omega, d2, fun b H3 b0 b5 d3 k3 => ?_⟩
    obtain ⟨m, rfl⟩ := Int.eq_ofNat_of_zero_le b0
    have e2 : (1 : Int) + (m : Int) = ((1 + m : Nat) : Int) := by omega
    refine ⟨_, _, rfl, rfl, ?_⟩
    dsimp only
    rw [e2]
    have t3 := tabs_kp t2 d2 k3
    have n1 : 1 ≤ 1 + m := by omega
    have n6 : 1 + m ≤ 6 := by omega
    generalize 1 + m = n at n1 n6
    clear k3 d2 t2 b0 b5
    refine sqn (tcn ⟨_, rfl, _, rfl, D, n, rfl, n1, n6, d3, fun row t H4 pm h0 d4 k4 fz => nil_i ?_⟩)
    have t4 := tabs_kp t3 d3 k4
    intro x dx hx hdx ne
    have sA : Same H4 (upd (upd H4 dx (.own x)) x (.ins T.Skin.C dx [])) := (same_new hdx).trans (same_new (by rw [upd_ne ne.symm]; exact hx))
    refine ⟨x, t, dx, n, row, rfl, upd_same, FzT.same fz sA, n1, n6, pm, fun st H5 i0 sk kp => ⟨rfl, ?_⟩⟩
    have s5 : Same H4 H5 := fun b o hb => kp b o (sA b o hb) (ne_of_none hb hx)
    have rl : (row.drop st ++ row.take st).length = 2 * n := perm_len ((turn_perm row st).trans pm)
    generalize row.drop st ++ row.take st = row2 at sk rl
    have d5 := d4.same s5
    have t5 := t4.ext s5
    clear sA kp hx hdx ne i0 s5 t4 d4 k4 fz h0 pm t3 d3
    refine tcn ⟨_, rfl, tcn (tlst (tcn (tC_i (tcn (tC_i (tcn (tC_i (tcn (tC_i (tcn (tC_i (nil_i ⟨(by show 5 ≤ sizeLine; decide), fun l0 hl0 => nil_i ?_⟩))))))))))))⟩
    refine ⟨D, l0, _, rfl, .inl (SqL.of upd_same), (d5.off hl0).2.1, by simp, (by show 5 < 1073741824; decide), d5.new hl0, fun i mv H6 hm d6 k6 => nil_i ⟨_, _, rfl, ?_⟩⟩
    obtain ⟨m, rfl, m60⟩ : ∃ m : Nat, mv = .int (m : Int) ∧ m ≤ 60 := by
      have := List.mem_of_getElem? hm
      simp only [List.mem_cons, List.not_mem_nil, or_false] at this
      rcases this with rfl | rfl | rfl | rfl | rfl
      · exact ⟨0, rfl, by omega⟩
      · exact ⟨1, rfl, by omega⟩
      · exact ⟨3, rfl, by omega⟩
      · exact ⟨20, rfl, by omega⟩
      · exact ⟨60, rfl, by omega⟩
    have k56 : Kp D H5 H6 := (Kp.new hl0).trans k6
    have sk6 := sk.kp d5 k56
    have t6 := tabs_kp t5 d5 k56
    clear hm k6 hl0 k56 sk t5 d5
    dsimp only
    refine sqn ⟨_, rfl, _, rfl, _, rfl, _, rfl, tcn (tlst (tcn (tC_i (tcn (tC_i (tcn (tC_i (nil_i ⟨(by show 3 ≤ sizeLine; decide), fun l0 hl0 => nil_i ?_⟩))))))))⟩
    refine ⟨D, l0, _, rfl, .inl (SqL.of upd_same), (d6.off hl0).2.1, by simp, (by show 3 < 1073741824; decide), d6.new hl0, fun i mv H7 hm d7 k7 => ?_⟩
    obtain ⟨e, rfl, e5⟩ : ∃ e : Nat, mv = .int (e : Int) ∧ e ≤ 5 := by
      have := List.mem_of_getElem? hm
      simp only [List.mem_cons, List.not_mem_nil, or_false] at this
      rcases this with rfl | rfl | rfl
      · exact ⟨0, rfl, by omega⟩
      · exact ⟨0, rfl, by omega⟩
      · exact ⟨5, rfl, by omega⟩
    have k67 : Kp D H6 H7 := (Kp.new hl0).trans k7
    have sk7 := sk6.kp d6 k67
    have t7 := tabs_kp t6 d6 k67
    clear hm k7 hl0 k67 sk6 t6 d6
    refine rI0_add (v := ((m + e : Nat) : Int)) (by omega) (nil_i ⟨D, n, m + e, rfl, n1, n6, by omega, d7, fun ws l H8 d8 k8 hl ol wa lw rw8 => ?_⟩)
    have sk8 := sk7.kp d7 k8
    have t8 := tabs_kp t7 d7 k8
    clear hl k8 sk7 t7 d7
    dsimp only
    obtain ⟨qs, hq, lq, aq⟩ := id wa
    refine sqn (tcn ⟨_, rfl, _, rfl, _, rfl, _, rfl, l, _, rfl, SqL.of hq, fun l1 hl1 => ?_⟩)
    rw [cut_to _ (by rw [List.length_map]; omega), ← List.map_take]
    have s9 : Same H8 (upd H8 l1 (.lst ((qs.take m).map V.ref))) := same_new hl1
    have e1 : (upd H8 l1 (.lst ((qs.take m).map V.ref))) l1 = some (.lst ((qs.take m).map V.ref)) := upd_same
    have o1 := d8.off hl1
    generalize upd H8 l1 (.lst ((qs.take m).map V.ref)) = H9 at s9 e1
    have w1 : WsAt H9 l1 (ws.take m) := ⟨qs.take m, e1, by rw [List.length_take, List.length_take, lq], fun i q y a b => by
      rw [List.getElem?_take] at a b
      split at a
      · rw [if_pos (by assumption)] at b
        exact s9 _ _ (aq i q y a b)
      · cases a⟩
    have r1 := rw8.sub (List.take_sublist m ws)
    have d9 := d8.same s9
    have lt1 : (ws.take m).length ≤ 60 := by rw [List.length_take]; omega
    refine nil_i ⟨D, l1, ws.take m, rfl, w1, o1, r1.nd, by omega, d9, fun es1 a1 H10 d10 k10 ha1 oa1 ea1 ek1 ev1 => ?_⟩
    have le1 : es1.length ≤ 60 := by rw [← ek1, List.length_map] at lt1; exact lt1
    have m1 : SumAt row2 H10 a1 es1 := sumAt_mk ea1 rl r1 ek1 ev1 le1
    have k810 : Kp D H8 H10 := (Kp.of s9).trans k10
    have sk10 := sk8.kp d8 k810
    have t10 := tabs_kp t8 d8 k810
    have wa10 := wa.kp ol d8 k810
    clear wa w1 o1 r1 lt1 s9 e1 hl1 d9 k10 ha1 oa1 ea1 ek1 ev1 hq aq lq k810 sk8 t8 d8 qs
    obtain ⟨qs, hq, lq, aq⟩ := id wa10
    refine tcn ⟨_, rfl, _, rfl, _, rfl, l, _, rfl, .inl (SqL.of hq), _, rfl, ?_⟩
    refine rI0_sub (v := ((qs.length - m : Nat) : Int)) (by rw [List.length_map]; omega) ⟨_, rfl, ?_⟩
    refine ⟨l, _, rfl, SqL.of hq, fun l2 hl2 => ?_⟩
    rw [cut_from, ← List.map_drop]
    generalize hj : qs.length - m = j
    have s11 : Same H10 (upd H10 l2 (.lst ((qs.drop j).map V.ref))) := same_new hl2
    have e2' : (upd H10 l2 (.lst ((qs.drop j).map V.ref))) l2 = some (.lst ((qs.drop j).map V.ref)) := upd_same
    have o2 := d10.off hl2
    generalize upd H10 l2 (.lst ((qs.drop j).map V.ref)) = H11 at s11 e2'
    have w2 : WsAt H11 l2 (ws.drop j) := ⟨qs.drop j, e2', by rw [List.length_drop, List.length_drop, lq], fun i q y a b => by
      rw [List.getElem?_drop] at a b
      exact s11 _ _ (aq _ q y a b)⟩
    have r2 := rw8.sub (List.drop_sublist j ws)
    have d11 := d10.same s11
    have lt2 : (ws.drop j).length ≤ 60 := by rw [List.length_drop]; omega
    refine nil_i ⟨D, l2, ws.drop j, rfl, w2, o2, r2.nd, by omega, d11, fun es2 a2 H12 d12 k12 ha2 oa2 ea2 ek2 ev2 => nil_i ⟨_, _, rfl, ?_⟩⟩
    have le2 : es2.length ≤ 60 := by rw [← ek2, List.length_map] at lt2; exact lt2
    have m2 : SumAt row2 H12 a2 es2 := sumAt_mk ea2 rl r2 ek2 ev2 le2
    have k1012 : Kp D H10 H12 := (Kp.of s11).trans k12
    have sk12 := sk10.kp d10 k1012
    have t12 := tabs_kp t10 d10 k1012
    have m12 := m1.kp d10 k1012
    clear w2 o2 r2 lt2 s11 e2' hl2 d11 k12 ha2 oa2 ea2 ek2 ev2 hq aq lq k1012 sk10 t10 d10 wa10 m1
    dsimp only
    refine sqn ⟨_, rfl, _, rfl, _, rfl, _, rfl, nil_i ⟨D, x, a1, n, row2, es1, rfl, n1, n6, rl, sk12, m12, d12, fun H13 d13 k13 => ⟨_, rfl, iteF ?_⟩⟩⟩
    have sk13 := sk12.kp d12 k13
    have t13 := tabs_kp t12 d12 k13
    have m13 := m12.kp d12 k13
    have m23 := m2.kp d12 k13
    refine ⟨_, rfl, _, rfl, _, rfl, _, rfl, nil_i ⟨D, x, a1, a2, row2, es1, es2, rfl, ⟨by omega, by omega⟩, sk13, m13, m23, d13, fun H14 d14 k14 => ⟨_, rfl, iteF ?_⟩⟩⟩
    dsimp only [tNext]
    refine ⟨_, rfl, _, rfl, _, rfl, _, rfl, nil_i ⟨D, x, a1, n, row2, es1, rfl, n1, n6, rl, sk13.kp d13 k14, m13.kp d13 k14, d14, tabs_kp t13 d13 k14, fun H15 d15 t15 => ⟨_, rfl, iteF ?_⟩⟩⟩
    exact ⟨_, _, _, _, _, _, _, rfl, d15, t15⟩
  · rintro σ H2 ⟨v2, v3, v4, v5, v6, v7, v8, rfl, d2, t2⟩
    exact k H2
end
end Tt
set_option maxRecDepth 100000
set_option maxHeartbeats 4000000
namespace Tt
open PySem PySem.Spec PyProof.Rows L2
open LamX (TabB)
def firstH (a : Addr) (ts : List (Addr × Addr)) (u : Option HO) : Hp := fun b => if b = a then u else if b ∈ ts.map (·.2) then some (.tbl #[]) else none
theorem firstH_a {a : Addr} {ts : List (Addr × Addr)} {u : Option HO} : firstH a ts u a = u := if_pos rfl
theorem firstH_t {a t : Addr} {ts : List (Addr × Addr)} {u : Option HO} (n : t ≠ a) (h : t ∈ ts.map (·.2)) : firstH a ts u t = some (.tbl #[]) := (if_neg n).trans (if_pos h)
theorem firstH_o {a b : Addr} {ts : List (Addr × Addr)} {u : Option HO} (n : b ≠ a) (m : b ∉ ts.map (·.2)) : firstH a ts u b = none := (if_neg n).trans (if_neg m)
theorem law_run {P : Program} {w : World} {K : PySem.W.Frag} {mg mb : Str → Option Value} {fa a : Addr} {ts : List (Addr × Addr)} {s₁ : Shared} {vs : List Value} {ns : List Int}
    (KX : K.In s₁.heap) (hg : s₁.heap.Ns mainGlobals mg) (hb : s₁.heap.Ns builtinsNs mb) (hbb : ∀ x : Str, x ≠ "__name__" → mb x = bootBuiltins x) (lim : s₁.heap.NoLimit) (gens : s₁.gens = #[])
    (hts : ∀ p ∈ ts, s₁.heap.get? p.2 = some { cls := .none, data := .fields #[] } ∧ K.lookup p.2 = none ∧ PySem.W.CodeHd s₁.heap p.1 p.2)
    (bmain : ∃ (bm : Addr) (ob : Obj), mg "__builtins__" = some (.ref bm) ∧ bm ≠ builtinsNs ∧ s₁.heap.get? bm = some ob ∧ ob.cls = .type "module" ∧ ob.dict = some builtinsNs ∧ ob.data = .plain)
    (ha : s₁.heap.get? a = some { cls := .type "list", data := .seq vs.toArray }) (hi : IntsAre vs ns) (hl : ns.length ≤ sizeLine)
    (run : ∀ (base : Heap) (H : Hp), (∀ p ∈ ts, TabB base mg p.1 p.2) → Env0 P w K mg base callerA [] s₁ H → (∀ p ∈ ts, H p.2 = some (.tbl #[])) → SqL K H a (ns.map V.int) → codeAny (model P w) callerA (.call (.ref fa) ⟨[.ref a], []⟩) (CR CX0 [] P w H s₁ (fun v _ => v = .bl true) E0) s₁) :
    codeAny (model P w) callerA (.call (.ref fa) ⟨[.ref a], []⟩) (fun r s' => r = .ok (.ret (.bool true)) ∧ OldK s₁.heap s'.heap ∧ s'.os = s₁.os ∧ AllBare s'.gens) s₁ := by
  have rv := vals_ints hi
  have mem : ∀ {t : Addr}, t ∈ ts.map (·.2) → ∃ c, (c, t) ∈ ts := fun {t} h => by
    obtain ⟨⟨c, t'⟩, h1, rfl⟩ := List.mem_map.mp h
    exact ⟨c, h1⟩
  have nta : ∀ t ∈ ts.map (·.2), t ≠ a := fun t ht z => by
    obtain ⟨c, hc⟩ := mem ht
    have h1 := (hts _ hc).1
    rw [z, ha] at h1
    have z' : Data.seq vs.toArray _ = Data.fields #[] := congrArg Obj.data (Option.some.inj h1)
    cases z'
  obtain ⟨u, hu, hS, hK⟩ : ∃ u : Option HO, (u = none ∨ u = some (.frz { cls := .type "list", data := .seq vs.toArray } (.lst (ns.map V.int)))) ∧ SqL K (firstH a ts u) a (ns.map V.int) ∧ (u ≠ none → K.lookup a = none) := by
    cases hk : K.lookup a with
    | none => exact ⟨_, .inr rfl, .inl (.inr ⟨_, firstH_a⟩), fun _ => rfl⟩
    | some o =>
      have e := KX a o hk
      rw [ha] at e
      cases e
      exact ⟨none, .inl rfl, .inr ⟨_, vs.toArray, _, hk, rfl, rfl, rfl, by rw [List.size_toArray, hi.length]; exact hl, by simpa using rv⟩, fun z => absurd rfl z⟩
  have hT : ∀ t ∈ ts.map (·.2), firstH a ts u t = some (.tbl #[]) := fun t ht => firstH_t (nta t ht) ht
  have look : ∀ b x, firstH a ts u b = some x → (b = a ∧ u = some x) ∨ (b ∈ ts.map (·.2) ∧ x = .tbl #[]) := fun b x e => by
    by_cases h1 : b = a
    · subst h1
      exact .inl ⟨rfl, firstH_a.symm.trans e⟩
    · by_cases h2 : b ∈ ts.map (·.2)
      · rw [hT b h2] at e
        exact .inr ⟨h2, (Option.some.inj e).symm⟩
      · rw [firstH_o h1 h2] at e
        cases e
  generalize hH : firstH a ts u = H at hS hT look
  have free : ∀ {b : Addr} {o : Obj}, s₁.heap.get? b = some o → (∀ vs n, o.data ≠ .seq vs n) → o.data ≠ .fields #[] → H b = none := fun {b o} e h1 h2 => by
    cases q : H b with
    | none => rfl
    | some x =>
      rcases look b x q with ⟨rfl, _⟩ | ⟨hb, _⟩
      · rw [ha] at e
        cases e
        exact (h1 _ _ rfl).elim
      · obtain ⟨c, hc⟩ := mem hb
        rw [(hts _ hc).1] at e
        cases e
        exact (h2 rfl).elim
  have dict : ∀ {b : Addr} {m : Str → Option Value}, s₁.heap.Ns b m → (hidT s₁.heap H).Ns b m := fun {b m} ⟨o, es, ep, e, d, r⟩ =>
    ⟨o, es, ep, hidT_get e (free e (fun _ _ z => by rw [d] at z; cases z) (fun z => by rw [d] at z; cases z)), d, r⟩
  have kin : K.In (hidT s₁.heap H) := fun b o e => hidT_get (KX b o e) (by
    cases q : H b with
    | none => rfl
    | some x =>
      rcases look b x q with ⟨rfl, hx⟩ | ⟨hb, _⟩
      · rw [hK (by rw [hx]; simp)] at e
        cases e
      · obtain ⟨c, hc⟩ := mem hb
        rw [(hts _ hc).2.1] at e
        cases e)
  have mod : L2.Mod K mg (hidT s₁.heap H) := ⟨kin, dict hg, ⟨mb, dict hb, hbb⟩, let ⟨mc, h1, h2⟩ := lim; ⟨mc, dict h1, h2⟩⟩
  have TB : ∀ p ∈ ts, TabB (hidT s₁.heap H) mg p.1 p.2 := fun p hp => by
    obtain ⟨ht, nt, C⟩ := hts p hp
    refine ⟨?_, ?_, fun z => ?_⟩
    · obtain ⟨o, us, file, tf, flags, tg, inF, text, tt, e1, r1, r2, r3, rest⟩ := C
      refine ⟨o, us, file, tf, flags, tg, inF, text, tt, hidT_get e1 (free e1 (fun _ _ z => by rw [r2] at z; cases z) fun z => ?_), r1, r2, r3, rest⟩
      rw [r2] at z
      cases z
      simp at r3
    · obtain ⟨bm, ob, b1, b2, b3, b4, b5, b6⟩ := bmain
      refine ⟨bm, ob, b1, b2, fun q => ?_, fun q => ?_, hidT_get b3 (free b3 (fun _ _ z => by rw [b6] at z; cases z) (fun z => by rw [b6] at z; cases z)), b4, b5, b6⟩
      · obtain ⟨o, es, ep, e, hd, _⟩ := hg
        rw [q, e] at b3
        cases b3
        rw [hd] at b6
        cases b6
      · rw [q, ht] at b3
        cases b3
        cases b6
    · obtain ⟨o, es, ep, e, hd, _⟩ := hg
      rw [z, ht] at e
      cases e
      cases hd
  have hok : HOk P w H s₁.heap := fun b x e => by
    rcases look b x e with ⟨rfl, hx⟩ | ⟨hb, rfl⟩
    · rcases hu with rfl | rfl
      · cases hx
      · cases hx
        exact ⟨ha, by rw [List.length_map]; exact hl, vs, _, rv, ha⟩
    · obtain ⟨c, hc⟩ := mem hb
      exact (hts _ hc).1
  have e0 : Env0 P w K mg (hidT s₁.heap H) callerA [] s₁ H := ⟨rfl, mod, fun b o e => of_hidT e, Nat.le_of_eq (hidT_size _ _), trivial, fun b hb => absurd (show b ∈ ([] : List Addr) from hb) (by simp), hok, .of_eq gens⟩
  refine codeAny_mono (run _ H TB e0 (fun p hp => hT _ (List.mem_map_of_mem hp)) hS) fun r s' h => ?_
  match r, h with
  | .error e, h => exact (show False from h).elim
  | .ok .next, h => exact (show False from h).elim
  | .ok .brk, h => exact (show False from h).elim
  | .ok .cont, h => exact (show False from h).elim
  | .ok (.ret v'), h =>
    obtain ⟨v, H', os, bare, un, hok', rr, rfl⟩ := h
    obtain rfl : v' = Value.bool true := rr
    have ends : ∀ t ∈ ts.map (·.2), ∃ more : Array Value, s'.heap.get? t = some { cls := .none, data := .fields more } := fun t ht => by
      obtain ⟨more, e3⟩ := un.tbls t #[] (hT t ht)
      have e4 : s'.heap.get? t = some { cls := .none, data := .fields (#[] ++ more) } := hok' t _ e3
      rw [Array.empty_append] at e4
      exact ⟨more, e4⟩
    have stay : ∀ b o, b ∉ ts.map (·.2) → s₁.heap.get? b = some o → s'.heap.get? b = some o := fun b o nb e => by
      cases q : H b with
      | none => exact un.keep b o e q (fun z => absurd (show b ∈ ([] : List Addr) from z) (by simp)) (by simp)
      | some x =>
        rcases look b x q with ⟨rfl, hx⟩ | ⟨hb, _⟩
        · rcases hu with rfl | rfl
          · cases hx
          · cases hx
            obtain ⟨e1, _⟩ := hok b _ q
            obtain ⟨e2, _⟩ := hok' b _ (un.frzs b _ _ q)
            rw [e] at e1
            cases e1
            exact e2
        · exact absurd hb nb
    refine ⟨rfl, ⟨fun b o e => ?_, fun b o e => ?_⟩, os, bare⟩
    · by_cases nb : b ∈ ts.map (·.2)
      · obtain ⟨c, hc⟩ := mem nb
        obtain ⟨ht, nt, C⟩ := hts _ hc
        obtain ⟨more, e4⟩ := ends b nb
        have ht' : s₁.heap.get? b = some { cls := .none, data := .fields #[] } := ht
        rw [ht'] at e
        cases e
        exact .inr (.inl ⟨(C.tab ht).isCodeTable, rfl, #[], more, rfl, by rw [Array.empty_append]; exact e4⟩)
      · exact .inl (stay b o nb e)
    · by_cases nb : b ∈ ts.map (·.2)
      · obtain ⟨more, e4⟩ := ends b nb
        exact ⟨_, e4⟩
      · exact ⟨o, stay b o nb e⟩
end Tt
set_option maxRecDepth 100000
set_option maxHeartbeats 4000000
namespace Tt
open PySem PySem.Spec PyProof.Rows L2
open LamX (TabB)
theorem all_mk {K : PySem.W.Frag} {h : Heap} {mg : Str → Option Value} {fa jc jP : Addr} (X : K.In h) (G : h.Ns mainGlobals mg) (hfa : mg "law" = some (.ref fa))
    {C_RoundError : Addr}
    {C_BadNumber : Addr}
    {od_BadNumber an_BadNumber : Option Addr} {sl_BadNumber : Array (Option Value)} {oc_BadNumber kV_BadNumber dc_BadNumber pm_BadNumber cd_BadNumber ct_BadNumber : Value} {f_BadNumber : Addr}
    {nm_BadNumber qn_BadNumber : Str} {N_BadNumber : Addr} {bs_BadNumber bm_BadNumber : List Value} {sn_BadNumber : List Str} {sb_BadNumber : List Value} {ab_BadNumber : Bool} {co_BadNumber : Option Bool} {dd_BadNumber : Option Addr} {m0_BadNumber m1_BadNumber m2_BadNumber m3_BadNumber m5_BadNumber : Option Value}
    {C_BadSkin : Addr}
    {od_BadSkin an_BadSkin : Option Addr} {sl_BadSkin : Array (Option Value)} {oc_BadSkin kV_BadSkin dc_BadSkin pm_BadSkin cd_BadSkin ct_BadSkin : Value} {f_BadSkin : Addr}
    {nm_BadSkin qn_BadSkin : Str} {N_BadSkin : Addr} {bs_BadSkin bm_BadSkin : List Value} {sn_BadSkin : List Str} {sb_BadSkin : List Value} {ab_BadSkin : Bool} {co_BadSkin : Option Bool} {dd_BadSkin : Option Addr} {m0_BadSkin m1_BadSkin m2_BadSkin m3_BadSkin m5_BadSkin : Option Value}
    {C_BadSum : Addr}
    {od_is_number an_is_number : Option Addr} {sl_is_number : Array (Option Value)} {oc_is_number kV_is_number dc_is_number pm_is_number cd_is_number ct_is_number : Value} {f_is_number : Addr}
    {od_is_within an_is_within : Option Addr} {sl_is_within : Array (Option Value)} {oc_is_within kV_is_within dc_is_within pm_is_within cd_is_within ct_is_within : Value} {f_is_within : Addr}
    {od_is_tuple an_is_tuple : Option Addr} {sl_is_tuple : Array (Option Value)} {oc_is_tuple kV_is_tuple dc_is_tuple pm_is_tuple cd_is_tuple ct_is_tuple : Value} {f_is_tuple : Addr}
    {od_is_list an_is_list : Option Addr} {sl_is_list : Array (Option Value)} {oc_is_list kV_is_list dc_is_list pm_is_list cd_is_list ct_is_list : Value} {f_is_list : Addr}
    {od_is_row an_is_row : Option Addr} {sl_is_row : Array (Option Value)} {oc_is_row kV_is_row dc_is_row pm_is_row cd_is_row ct_is_row : Value} {f_is_row : Addr}
    {C_Skin : Addr}
    {od_Skin an_Skin : Option Addr} {sl_Skin : Array (Option Value)} {oc_Skin kV_Skin dc_Skin pm_Skin cd_Skin ct_Skin : Value} {f_Skin : Addr}
    {od_check_skin an_check_skin : Option Addr} {sl_check_skin : Array (Option Value)} {oc_check_skin kV_check_skin dc_check_skin pm_check_skin cd_check_skin ct_check_skin : Value} {f_check_skin : Addr}
    {od_is_end an_is_end : Option Addr} {sl_is_end : Array (Option Value)} {oc_is_end kV_is_end dc_is_end pm_is_end cd_is_end ct_is_end : Value} {f_is_end : Addr}
    {od_least_turn an_least_turn : Option Addr} {sl_least_turn : Array (Option Value)} {oc_least_turn kV_least_turn dc_least_turn pm_least_turn cd_least_turn ct_least_turn : Value} {f_least_turn : Addr}
    {od_is_any_word an_is_any_word : Option Addr} {sl_is_any_word : Array (Option Value)} {oc_is_any_word kV_is_any_word dc_is_any_word pm_is_any_word cd_is_any_word ct_is_any_word : Value} {f_is_any_word : Addr}
    {od_has_letters an_has_letters : Option Addr} {sl_has_letters : Array (Option Value)} {oc_has_letters kV_has_letters dc_has_letters pm_has_letters cd_has_letters ct_has_letters : Value} {f_has_letters : Addr}
    {od_cut_free an_cut_free : Option Addr} {sl_cut_free : Array (Option Value)} {oc_cut_free kV_cut_free dc_cut_free pm_cut_free cd_cut_free ct_cut_free : Value} {f_cut_free : Addr}
    {od_closed_letters an_closed_letters : Option Addr} {sl_closed_letters : Array (Option Value)} {oc_closed_letters kV_closed_letters dc_closed_letters pm_closed_letters cd_closed_letters ct_closed_letters : Value} {f_closed_letters : Addr}
    {od_closed_up an_closed_up : Option Addr} {sl_closed_up : Array (Option Value)} {oc_closed_up kV_closed_up dc_closed_up pm_closed_up cd_closed_up ct_closed_up : Value} {f_closed_up : Addr}
    {od_is_fit_round an_is_fit_round : Option Addr} {sl_is_fit_round : Array (Option Value)} {oc_is_fit_round kV_is_fit_round dc_is_fit_round pm_is_fit_round cd_is_fit_round ct_is_fit_round : Value} {f_is_fit_round : Addr}
    {od_is_number_of_sum an_is_number_of_sum : Option Addr} {sl_is_number_of_sum : Array (Option Value)} {oc_is_number_of_sum kV_is_number_of_sum dc_is_number_of_sum pm_is_number_of_sum cd_is_number_of_sum ct_is_number_of_sum : Value} {f_is_number_of_sum : Addr}
    {od_is_fit_sum an_is_fit_sum : Option Addr} {sl_is_fit_sum : Array (Option Value)} {oc_is_fit_sum kV_is_fit_sum dc_is_fit_sum pm_is_fit_sum cd_is_fit_sum ct_is_fit_sum : Value} {f_is_fit_sum : Addr}
    {od_is_sum an_is_sum : Option Addr} {sl_is_sum : Array (Option Value)} {oc_is_sum kV_is_sum dc_is_sum pm_is_sum cd_is_sum ct_is_sum : Value} {f_is_sum : Addr}
    {od_check_sum an_check_sum : Option Addr} {sl_check_sum : Array (Option Value)} {oc_check_sum kV_check_sum dc_check_sum pm_check_sum cd_check_sum ct_check_sum : Value} {f_check_sum : Addr}
    {od_put_together an_put_together : Option Addr} {sl_put_together : Array (Option Value)} {oc_put_together kV_put_together dc_put_together pm_put_together cd_put_together ct_put_together : Value} {f_put_together : Addr}
    {od_times_rows an_times_rows : Option Addr} {sl_times_rows : Array (Option Value)} {oc_times_rows kV_times_rows dc_times_rows pm_times_rows cd_times_rows ct_times_rows : Value} {f_times_rows : Addr}
    {od_added an_added : Option Addr} {sl_added : Array (Option Value)} {oc_added kV_added dc_added pm_added cd_added ct_added : Value} {f_added : Addr}
    {od_weight an_weight : Option Addr} {sl_weight : Array (Option Value)} {oc_weight kV_weight dc_weight pm_weight cd_weight ct_weight : Value} {f_weight : Addr}
    {od_l_begun an_l_begun : Option Addr} {sl_l_begun : Array (Option Value)} {oc_l_begun kV_l_begun dc_l_begun pm_l_begun cd_l_begun ct_l_begun : Value} {f_l_begun : Addr}
    {od_l_mixed an_l_mixed : Option Addr} {sl_l_mixed : Array (Option Value)} {oc_l_mixed kV_l_mixed dc_l_mixed pm_l_mixed cd_l_mixed ct_l_mixed : Value} {f_l_mixed : Addr}
    {od_l_take an_l_take : Option Addr} {sl_l_take : Array (Option Value)} {oc_l_take kV_l_take dc_l_take pm_l_take cd_l_take ct_l_take : Value} {f_l_take : Addr}
    {od_l_pick an_l_pick : Option Addr} {sl_l_pick : Array (Option Value)} {oc_l_pick kV_l_pick dc_l_pick pm_l_pick cd_l_pick ct_l_pick : Value} {f_l_pick : Addr}
    {od_l_shuffled an_l_shuffled : Option Addr} {sl_l_shuffled : Array (Option Value)} {oc_l_shuffled kV_l_shuffled dc_l_shuffled pm_l_shuffled cd_l_shuffled ct_l_shuffled : Value} {f_l_shuffled : Addr}
    {od_l_caught an_l_caught : Option Addr} {sl_l_caught : Array (Option Value)} {oc_l_caught kV_l_caught dc_l_caught pm_l_caught cd_l_caught ct_l_caught : Value} {f_l_caught : Addr}
    {od_l_row an_l_row : Option Addr} {sl_l_row : Array (Option Value)} {oc_l_row kV_l_row dc_l_row pm_l_row cd_l_row ct_l_row : Value} {f_l_row : Addr}
    {od_l_freed an_l_freed : Option Addr} {sl_l_freed : Array (Option Value)} {oc_l_freed kV_l_freed dc_l_freed pm_l_freed cd_l_freed ct_l_freed : Value} {f_l_freed : Addr}
    {od_l_turn an_l_turn : Option Addr} {sl_l_turn : Array (Option Value)} {oc_l_turn kV_l_turn dc_l_turn pm_l_turn cd_l_turn ct_l_turn : Value} {f_l_turn : Addr}
    {od_l_round an_l_round : Option Addr} {sl_l_round : Array (Option Value)} {oc_l_round kV_l_round dc_l_round pm_l_round cd_l_round ct_l_round : Value} {f_l_round : Addr}
    {od_l_word an_l_word : Option Addr} {sl_l_word : Array (Option Value)} {oc_l_word kV_l_word dc_l_word pm_l_word cd_l_word ct_l_word : Value} {f_l_word : Addr}
    {od_l_any_round an_l_any_round : Option Addr} {sl_l_any_round : Array (Option Value)} {oc_l_any_round kV_l_any_round dc_l_any_round pm_l_any_round cd_l_any_round ct_l_any_round : Value} {f_l_any_round : Addr}
    {od_l_put an_l_put : Option Addr} {sl_l_put : Array (Option Value)} {oc_l_put kV_l_put dc_l_put pm_l_put cd_l_put ct_l_put : Value} {f_l_put : Addr}
    {od_l_kept an_l_kept : Option Addr} {sl_l_kept : Array (Option Value)} {oc_l_kept kV_l_kept dc_l_kept pm_l_kept cd_l_kept ct_l_kept : Value} {f_l_kept : Addr}
    {od_l_same_dict an_l_same_dict : Option Addr} {sl_l_same_dict : Array (Option Value)} {oc_l_same_dict kV_l_same_dict dc_l_same_dict pm_l_same_dict cd_l_same_dict ct_l_same_dict : Value} {f_l_same_dict : Addr}
    {od_l_weight an_l_weight : Option Addr} {sl_l_weight : Array (Option Value)} {oc_l_weight kV_l_weight dc_l_weight pm_l_weight cd_l_weight ct_l_weight : Value} {f_l_weight : Addr}
    {od_l_unlike_rounds an_l_unlike_rounds : Option Addr} {sl_l_unlike_rounds : Array (Option Value)} {oc_l_unlike_rounds kV_l_unlike_rounds dc_l_unlike_rounds pm_l_unlike_rounds cd_l_unlike_rounds ct_l_unlike_rounds : Value} {f_l_unlike_rounds : Addr}
    {od_l_numbered an_l_numbered : Option Addr} {sl_l_numbered : Array (Option Value)} {oc_l_numbered kV_l_numbered dc_l_numbered pm_l_numbered cd_l_numbered ct_l_numbered : Value} {f_l_numbered : Addr}
    {od_l_bent an_l_bent : Option Addr} {sl_l_bent : Array (Option Value)} {oc_l_bent kV_l_bent dc_l_bent pm_l_bent cd_l_bent ct_l_bent : Value} {f_l_bent : Addr}
    {od_l_judged an_l_judged : Option Addr} {sl_l_judged : Array (Option Value)} {oc_l_judged kV_l_judged dc_l_judged pm_l_judged cd_l_judged ct_l_judged : Value} {f_l_judged : Addr}
    {od_l_added_right an_l_added_right : Option Addr} {sl_l_added_right : Array (Option Value)} {oc_l_added_right kV_l_added_right dc_l_added_right pm_l_added_right cd_l_added_right ct_l_added_right : Value} {f_l_added_right : Addr}
    {od_l_refused an_l_refused : Option Addr} {sl_l_refused : Array (Option Value)} {oc_l_refused kV_l_refused dc_l_refused pm_l_refused ct_l_refused : Value} {f_l_refused : Addr}
    {od_law an_law : Option Addr} {sl_law : Array (Option Value)} {oc_law kV_law dc_law pm_law cd_law ct_law : Value} {f_law : Addr}
    {tkMOST_IN_ROUND : Tok}
    {tkMOST_IN_SUM : Tok}
    {tkMOST_NUMBER : Tok}
    (hn0 : PySem.W.specialIn K (.builtin "object.__class__") "__get__" = some (some (.builtin "getset_descriptor.__get__")))
    (ht0 : PySem.W.takesIn K (.builtin "object.__class__") = some true)
    (a_RoundError : PySem.W.nsIn K mainGlobals "RoundError" = some (some (.ref C_RoundError)))
    (k_RoundError : PySem.W.keepIn K (.ref C_RoundError) = true)
    (q_RoundError : PySem.W.excIn K C_RoundError [.type "ValueError", .type "Exception", .type "BaseException", .type "object"] "ValueError.__new__" = true)
    (ty_RoundError : PySem.W.typeIn K (.ref C_RoundError) = some (.type "type"))
    (ga_RoundError : PySem.W.findIn K (.ref C_RoundError) "__getattribute__" = some (some (.builtin "BaseException.__getattribute__")))
    (gg_RoundError : PySem.W.findIn K (.ref C_RoundError) "__getattr__" = some none)
    (ex_RoundError : PySem.W.subIn K (.ref C_RoundError) (.type "BaseException") = some true)
    (hd_RoundError : PySem.W.hasDictIn K C_RoundError = true)
    (ca_RoundError : PySem.W.findIn K (.ref C_RoundError) "__class__" = some (some (.builtin "object.__class__")))
    (mo_RoundError : PySem.W.mroIn K C_RoundError (.type "object") = some true)
    (a_BadNumber : PySem.W.nsIn K mainGlobals "BadNumber" = some (some (.ref C_BadNumber)))
    (x_BadNumber : K.lookup C_BadNumber = some (excClassObj nm_BadNumber qn_BadNumber C_BadNumber N_BadNumber bs_BadNumber bm_BadNumber true sn_BadNumber sb_BadNumber ab_BadNumber co_BadNumber dd_BadNumber m0_BadNumber m1_BadNumber m2_BadNumber m3_BadNumber m5_BadNumber "ValueError.__new__"))
    (rv_BadNumber : PySem.HandSPX.refsVE bm_BadNumber = true)
    (sa_BadNumber : PySem.W.findIn K (.ref C_BadNumber) "__setattr__" = some (some (.builtin "object.__setattr__")))
    (ty_BadNumber : PySem.W.typeIn K (.ref C_BadNumber) = some (.type "type"))
    (kc_BadNumber : PySem.W.keepIn K (.ref C_BadNumber) = true)
    (i_BadNumber : PySem.W.findIn K (.ref C_BadNumber) "__init__" = some (some (.ref f_BadNumber)))
    (t_BadNumber : PySem.W.typeIn K (.ref f_BadNumber) = some (.type "function"))
    (l_BadNumber : K.lookup f_BadNumber = some ⟨oc_BadNumber, od_BadNumber, .func (PySem.W.fnOf "__init__" "BadNumber.__init__" (defArgs s_BadNumber_init) (defBody s_BadNumber_init) (defScope s_BadNumber_init) .none kV_BadNumber dc_BadNumber pm_BadNumber an_BadNumber cd_BadNumber ct_BadNumber), sl_BadNumber⟩)
    (c_BadNumber : PySem.W.codeIn K cd_BadNumber "BadNumber.__init__" = true)
    (k_BadNumber : PySem.W.keepIn K (.ref f_BadNumber) = true)
    (nf_BadNumber : PySem.W.findIn K (.ref C_BadNumber) "part" = some none)
    (ga_BadNumber : PySem.W.findIn K (.ref C_BadNumber) "__getattribute__" = some (some (.builtin "BaseException.__getattribute__")))
    (gg_BadNumber : PySem.W.findIn K (.ref C_BadNumber) "__getattr__" = some none)
    (ex_BadNumber : PySem.W.subIn K (.ref C_BadNumber) (.type "BaseException") = some true)
    (hd_BadNumber : PySem.W.hasDictIn K C_BadNumber = true)
    (ca_BadNumber : PySem.W.findIn K (.ref C_BadNumber) "__class__" = some (some (.builtin "object.__class__")))
    (mo_BadNumber : PySem.W.mroIn K C_BadNumber (.type "object") = some true)
    (a_BadSkin : PySem.W.nsIn K mainGlobals "BadSkin" = some (some (.ref C_BadSkin)))
    (x_BadSkin : K.lookup C_BadSkin = some (excClassObj nm_BadSkin qn_BadSkin C_BadSkin N_BadSkin bs_BadSkin bm_BadSkin true sn_BadSkin sb_BadSkin ab_BadSkin co_BadSkin dd_BadSkin m0_BadSkin m1_BadSkin m2_BadSkin m3_BadSkin m5_BadSkin "ValueError.__new__"))
    (rv_BadSkin : PySem.HandSPX.refsVE bm_BadSkin = true)
    (sa_BadSkin : PySem.W.findIn K (.ref C_BadSkin) "__setattr__" = some (some (.builtin "object.__setattr__")))
    (ty_BadSkin : PySem.W.typeIn K (.ref C_BadSkin) = some (.type "type"))
    (kc_BadSkin : PySem.W.keepIn K (.ref C_BadSkin) = true)
    (i_BadSkin : PySem.W.findIn K (.ref C_BadSkin) "__init__" = some (some (.ref f_BadSkin)))
    (t_BadSkin : PySem.W.typeIn K (.ref f_BadSkin) = some (.type "function"))
    (l_BadSkin : K.lookup f_BadSkin = some ⟨oc_BadSkin, od_BadSkin, .func (PySem.W.fnOf "__init__" "BadSkin.__init__" (defArgs s_BadSkin_init) (defBody s_BadSkin_init) (defScope s_BadSkin_init) .none kV_BadSkin dc_BadSkin pm_BadSkin an_BadSkin cd_BadSkin ct_BadSkin), sl_BadSkin⟩)
    (c_BadSkin : PySem.W.codeIn K cd_BadSkin "BadSkin.__init__" = true)
    (k_BadSkin : PySem.W.keepIn K (.ref f_BadSkin) = true)
    (nf_BadSkin : PySem.W.findIn K (.ref C_BadSkin) "part" = some none)
    (ga_BadSkin : PySem.W.findIn K (.ref C_BadSkin) "__getattribute__" = some (some (.builtin "BaseException.__getattribute__")))
    (gg_BadSkin : PySem.W.findIn K (.ref C_BadSkin) "__getattr__" = some none)
    (ex_BadSkin : PySem.W.subIn K (.ref C_BadSkin) (.type "BaseException") = some true)
    (hd_BadSkin : PySem.W.hasDictIn K C_BadSkin = true)
    (ca_BadSkin : PySem.W.findIn K (.ref C_BadSkin) "__class__" = some (some (.builtin "object.__class__")))
    (mo_BadSkin : PySem.W.mroIn K C_BadSkin (.type "object") = some true)
    (a_BadSum : PySem.W.nsIn K mainGlobals "BadSum" = some (some (.ref C_BadSum)))
    (k_BadSum : PySem.W.keepIn K (.ref C_BadSum) = true)
    (q_BadSum : PySem.W.excIn K C_BadSum [.type "ValueError", .type "Exception", .type "BaseException", .type "object"] "ValueError.__new__" = true)
    (ty_BadSum : PySem.W.typeIn K (.ref C_BadSum) = some (.type "type"))
    (ga_BadSum : PySem.W.findIn K (.ref C_BadSum) "__getattribute__" = some (some (.builtin "BaseException.__getattribute__")))
    (gg_BadSum : PySem.W.findIn K (.ref C_BadSum) "__getattr__" = some none)
    (ex_BadSum : PySem.W.subIn K (.ref C_BadSum) (.type "BaseException") = some true)
    (hd_BadSum : PySem.W.hasDictIn K C_BadSum = true)
    (ca_BadSum : PySem.W.findIn K (.ref C_BadSum) "__class__" = some (some (.builtin "object.__class__")))
    (mo_BadSum : PySem.W.mroIn K C_BadSum (.type "object") = some true)
    (a_is_number : PySem.W.nsIn K mainGlobals "is_number" = some (some (.ref f_is_number)))
    (l_is_number : K.lookup f_is_number = some ⟨oc_is_number, od_is_number, .func (PySem.W.fnOf "is_number" "is_number" (defArgs s_is_number) (defBody s_is_number) (defScope s_is_number) .none kV_is_number dc_is_number pm_is_number an_is_number cd_is_number ct_is_number), sl_is_number⟩)
    (c_is_number : PySem.W.codeIn K cd_is_number "is_number" = true)
    (k_is_number : PySem.W.keepIn K (.ref f_is_number) = true)
    (a_is_within : PySem.W.nsIn K mainGlobals "is_within" = some (some (.ref f_is_within)))
    (l_is_within : K.lookup f_is_within = some ⟨oc_is_within, od_is_within, .func (PySem.W.fnOf "is_within" "is_within" (defArgs s_is_within) (defBody s_is_within) (defScope s_is_within) .none kV_is_within dc_is_within pm_is_within an_is_within cd_is_within ct_is_within), sl_is_within⟩)
    (c_is_within : PySem.W.codeIn K cd_is_within "is_within" = true)
    (k_is_within : PySem.W.keepIn K (.ref f_is_within) = true)
    (a_is_tuple : PySem.W.nsIn K mainGlobals "is_tuple" = some (some (.ref f_is_tuple)))
    (l_is_tuple : K.lookup f_is_tuple = some ⟨oc_is_tuple, od_is_tuple, .func (PySem.W.fnOf "is_tuple" "is_tuple" (defArgs s_is_tuple) (defBody s_is_tuple) (defScope s_is_tuple) .none kV_is_tuple dc_is_tuple pm_is_tuple an_is_tuple cd_is_tuple ct_is_tuple), sl_is_tuple⟩)
    (c_is_tuple : PySem.W.codeIn K cd_is_tuple "is_tuple" = true)
    (k_is_tuple : PySem.W.keepIn K (.ref f_is_tuple) = true)
    (a_is_list : PySem.W.nsIn K mainGlobals "is_list" = some (some (.ref f_is_list)))
    (l_is_list : K.lookup f_is_list = some ⟨oc_is_list, od_is_list, .func (PySem.W.fnOf "is_list" "is_list" (defArgs s_is_list) (defBody s_is_list) (defScope s_is_list) .none kV_is_list dc_is_list pm_is_list an_is_list cd_is_list ct_is_list), sl_is_list⟩)
    (c_is_list : PySem.W.codeIn K cd_is_list "is_list" = true)
    (k_is_list : PySem.W.keepIn K (.ref f_is_list) = true)
    (a_is_row : PySem.W.nsIn K mainGlobals "is_row" = some (some (.ref f_is_row)))
    (l_is_row : K.lookup f_is_row = some ⟨oc_is_row, od_is_row, .func (PySem.W.fnOf "is_row" "is_row" (defArgs s_is_row) (defBody s_is_row) (defScope s_is_row) .none kV_is_row dc_is_row pm_is_row an_is_row cd_is_row ct_is_row), sl_is_row⟩)
    (c_is_row : PySem.W.codeIn K cd_is_row "is_row" = true)
    (k_is_row : PySem.W.keepIn K (.ref f_is_row) = true)
    (a_Skin : PySem.W.nsIn K mainGlobals "Skin" = some (some (.ref C_Skin)))
    (i_Skin : PySem.W.findIn K (.ref C_Skin) "__init__" = some (some (.ref f_Skin)))
    (fn_Skin : PySem.W.isFn K (.ref f_Skin) = true)
    (l_Skin : K.lookup f_Skin = some ⟨oc_Skin, od_Skin, .func (PySem.W.fnOf "__init__" "Skin.__init__" (defArgs s_Skin_init) (defBody s_Skin_init) (defScope s_Skin_init) .none kV_Skin dc_Skin pm_Skin an_Skin cd_Skin ct_Skin), sl_Skin⟩)
    (c_Skin : PySem.W.codeIn K cd_Skin "Skin.__init__" = true)
    (k_Skin : PySem.W.keepIn K (.ref f_Skin) = true)
    (pg_Skin : PySem.W.plainGet K C_Skin Str.empty = true)
    (hd_Skin : PySem.W.hasDictIn K C_Skin = true)
    (po_Skin : PySem.W.plainOver K C_Skin = true)
    (sa_Skin : PySem.W.findIn K (.ref C_Skin) "__setattr__" = some (some (.builtin "object.__setattr__")))
    (mk_Skin : PySem.W.makesIn K C_Skin = true)
    (kc_Skin : PySem.W.keepIn K (.ref C_Skin) = true)
    (ca_Skin : PySem.W.findIn K (.ref C_Skin) "__class__" = some (some (.builtin "object.__class__")))
    (mo_Skin : PySem.W.mroIn K C_Skin (.type "object") = some true)
    (n_Skin_row : PySem.W.findIn K (.ref C_Skin) "row" = some none)
    (n_Skin_bands : PySem.W.findIn K (.ref C_Skin) "bands" = some none)
    (n_Skin_places : PySem.W.findIn K (.ref C_Skin) "places" = some none)
    (a_check_skin : PySem.W.nsIn K mainGlobals "check_skin" = some (some (.ref f_check_skin)))
    (l_check_skin : K.lookup f_check_skin = some ⟨oc_check_skin, od_check_skin, .func (PySem.W.fnOf "check_skin" "check_skin" (defArgs s_check_skin) (defBody s_check_skin) (defScope s_check_skin) .none kV_check_skin dc_check_skin pm_check_skin an_check_skin cd_check_skin ct_check_skin), sl_check_skin⟩)
    (c_check_skin : PySem.W.codeIn K cd_check_skin "check_skin" = true)
    (k_check_skin : PySem.W.keepIn K (.ref f_check_skin) = true)
    (a_is_end : PySem.W.nsIn K mainGlobals "is_end" = some (some (.ref f_is_end)))
    (l_is_end : K.lookup f_is_end = some ⟨oc_is_end, od_is_end, .func (PySem.W.fnOf "is_end" "is_end" (defArgs s_is_end) (defBody s_is_end) (defScope s_is_end) .none kV_is_end dc_is_end pm_is_end an_is_end cd_is_end ct_is_end), sl_is_end⟩)
    (c_is_end : PySem.W.codeIn K cd_is_end "is_end" = true)
    (k_is_end : PySem.W.keepIn K (.ref f_is_end) = true)
    (a_least_turn : PySem.W.nsIn K mainGlobals "least_turn" = some (some (.ref f_least_turn)))
    (l_least_turn : K.lookup f_least_turn = some ⟨oc_least_turn, od_least_turn, .func (PySem.W.fnOf "least_turn" "least_turn" (defArgs s_least_turn) (defBody s_least_turn) (defScope s_least_turn) .none kV_least_turn dc_least_turn pm_least_turn an_least_turn cd_least_turn ct_least_turn), sl_least_turn⟩)
    (c_least_turn : PySem.W.codeIn K cd_least_turn "least_turn" = true)
    (k_least_turn : PySem.W.keepIn K (.ref f_least_turn) = true)
    (a_is_any_word : PySem.W.nsIn K mainGlobals "is_any_word" = some (some (.ref f_is_any_word)))
    (l_is_any_word : K.lookup f_is_any_word = some ⟨oc_is_any_word, od_is_any_word, .func (PySem.W.fnOf "is_any_word" "is_any_word" (defArgs s_is_any_word) (defBody s_is_any_word) (defScope s_is_any_word) .none kV_is_any_word dc_is_any_word pm_is_any_word an_is_any_word cd_is_any_word ct_is_any_word), sl_is_any_word⟩)
    (c_is_any_word : PySem.W.codeIn K cd_is_any_word "is_any_word" = true)
    (k_is_any_word : PySem.W.keepIn K (.ref f_is_any_word) = true)
    (a_has_letters : PySem.W.nsIn K mainGlobals "has_letters" = some (some (.ref f_has_letters)))
    (l_has_letters : K.lookup f_has_letters = some ⟨oc_has_letters, od_has_letters, .func (PySem.W.fnOf "has_letters" "has_letters" (defArgs s_has_letters) (defBody s_has_letters) (defScope s_has_letters) .none kV_has_letters dc_has_letters pm_has_letters an_has_letters cd_has_letters ct_has_letters), sl_has_letters⟩)
    (c_has_letters : PySem.W.codeIn K cd_has_letters "has_letters" = true)
    (k_has_letters : PySem.W.keepIn K (.ref f_has_letters) = true)
    (a_cut_free : PySem.W.nsIn K mainGlobals "cut_free" = some (some (.ref f_cut_free)))
    (l_cut_free : K.lookup f_cut_free = some ⟨oc_cut_free, od_cut_free, .func (PySem.W.fnOf "cut_free" "cut_free" (defArgs s_cut_free) (defBody s_cut_free) (defScope s_cut_free) .none kV_cut_free dc_cut_free pm_cut_free an_cut_free cd_cut_free ct_cut_free), sl_cut_free⟩)
    (c_cut_free : PySem.W.codeIn K cd_cut_free "cut_free" = true)
    (k_cut_free : PySem.W.keepIn K (.ref f_cut_free) = true)
    (a_closed_letters : PySem.W.nsIn K mainGlobals "closed_letters" = some (some (.ref f_closed_letters)))
    (l_closed_letters : K.lookup f_closed_letters = some ⟨oc_closed_letters, od_closed_letters, .func (PySem.W.fnOf "closed_letters" "closed_letters" (defArgs s_closed_letters) (defBody s_closed_letters) (defScope s_closed_letters) .none kV_closed_letters dc_closed_letters pm_closed_letters an_closed_letters cd_closed_letters ct_closed_letters), sl_closed_letters⟩)
    (c_closed_letters : PySem.W.codeIn K cd_closed_letters "closed_letters" = true)
    (k_closed_letters : PySem.W.keepIn K (.ref f_closed_letters) = true)
    (a_closed_up : PySem.W.nsIn K mainGlobals "closed_up" = some (some (.ref f_closed_up)))
    (l_closed_up : K.lookup f_closed_up = some ⟨oc_closed_up, od_closed_up, .func (PySem.W.fnOf "closed_up" "closed_up" (defArgs s_closed_up) (defBody s_closed_up) (defScope s_closed_up) .none kV_closed_up dc_closed_up pm_closed_up an_closed_up cd_closed_up ct_closed_up), sl_closed_up⟩)
    (c_closed_up : PySem.W.codeIn K cd_closed_up "closed_up" = true)
    (k_closed_up : PySem.W.keepIn K (.ref f_closed_up) = true)
    (a_is_fit_round : PySem.W.nsIn K mainGlobals "is_fit_round" = some (some (.ref f_is_fit_round)))
    (l_is_fit_round : K.lookup f_is_fit_round = some ⟨oc_is_fit_round, od_is_fit_round, .func (PySem.W.fnOf "is_fit_round" "is_fit_round" (defArgs s_is_fit_round) (defBody s_is_fit_round) (defScope s_is_fit_round) .none kV_is_fit_round dc_is_fit_round pm_is_fit_round an_is_fit_round cd_is_fit_round ct_is_fit_round), sl_is_fit_round⟩)
    (c_is_fit_round : PySem.W.codeIn K cd_is_fit_round "is_fit_round" = true)
    (k_is_fit_round : PySem.W.keepIn K (.ref f_is_fit_round) = true)
    (a_is_number_of_sum : PySem.W.nsIn K mainGlobals "is_number_of_sum" = some (some (.ref f_is_number_of_sum)))
    (l_is_number_of_sum : K.lookup f_is_number_of_sum = some ⟨oc_is_number_of_sum, od_is_number_of_sum, .func (PySem.W.fnOf "is_number_of_sum" "is_number_of_sum" (defArgs s_is_number_of_sum) (defBody s_is_number_of_sum) (defScope s_is_number_of_sum) .none kV_is_number_of_sum dc_is_number_of_sum pm_is_number_of_sum an_is_number_of_sum cd_is_number_of_sum ct_is_number_of_sum), sl_is_number_of_sum⟩)
    (c_is_number_of_sum : PySem.W.codeIn K cd_is_number_of_sum "is_number_of_sum" = true)
    (k_is_number_of_sum : PySem.W.keepIn K (.ref f_is_number_of_sum) = true)
    (a_is_fit_sum : PySem.W.nsIn K mainGlobals "_is_fit_sum" = some (some (.ref f_is_fit_sum)))
    (l_is_fit_sum : K.lookup f_is_fit_sum = some ⟨oc_is_fit_sum, od_is_fit_sum, .func (PySem.W.fnOf "_is_fit_sum" "_is_fit_sum" (defArgs s_is_fit_sum) (defBody s_is_fit_sum) (defScope s_is_fit_sum) .none kV_is_fit_sum dc_is_fit_sum pm_is_fit_sum an_is_fit_sum cd_is_fit_sum ct_is_fit_sum), sl_is_fit_sum⟩)
    (c_is_fit_sum : PySem.W.codeIn K cd_is_fit_sum "_is_fit_sum" = true)
    (k_is_fit_sum : PySem.W.keepIn K (.ref f_is_fit_sum) = true)
    (a_is_sum : PySem.W.nsIn K mainGlobals "is_sum" = some (some (.ref f_is_sum)))
    (l_is_sum : K.lookup f_is_sum = some ⟨oc_is_sum, od_is_sum, .func (PySem.W.fnOf "is_sum" "is_sum" (defArgs s_is_sum) (defBody s_is_sum) (defScope s_is_sum) .none kV_is_sum dc_is_sum pm_is_sum an_is_sum cd_is_sum ct_is_sum), sl_is_sum⟩)
    (c_is_sum : PySem.W.codeIn K cd_is_sum "is_sum" = true)
    (k_is_sum : PySem.W.keepIn K (.ref f_is_sum) = true)
    (a_check_sum : PySem.W.nsIn K mainGlobals "check_sum" = some (some (.ref f_check_sum)))
    (l_check_sum : K.lookup f_check_sum = some ⟨oc_check_sum, od_check_sum, .func (PySem.W.fnOf "check_sum" "check_sum" (defArgs s_check_sum) (defBody s_check_sum) (defScope s_check_sum) .none kV_check_sum dc_check_sum pm_check_sum an_check_sum cd_check_sum ct_check_sum), sl_check_sum⟩)
    (c_check_sum : PySem.W.codeIn K cd_check_sum "check_sum" = true)
    (k_check_sum : PySem.W.keepIn K (.ref f_check_sum) = true)
    (a_put_together : PySem.W.nsIn K mainGlobals "put_together" = some (some (.ref f_put_together)))
    (l_put_together : K.lookup f_put_together = some ⟨oc_put_together, od_put_together, .func (PySem.W.fnOf "put_together" "put_together" (defArgs s_put_together) (defBody s_put_together) (defScope s_put_together) .none kV_put_together dc_put_together pm_put_together an_put_together cd_put_together ct_put_together), sl_put_together⟩)
    (c_put_together : PySem.W.codeIn K cd_put_together "put_together" = true)
    (k_put_together : PySem.W.keepIn K (.ref f_put_together) = true)
    (a_times_rows : PySem.W.nsIn K mainGlobals "times_rows" = some (some (.ref f_times_rows)))
    (l_times_rows : K.lookup f_times_rows = some ⟨oc_times_rows, od_times_rows, .func (PySem.W.fnOf "times_rows" "times_rows" (defArgs s_times_rows) (defBody s_times_rows) (defScope s_times_rows) .none kV_times_rows dc_times_rows pm_times_rows an_times_rows cd_times_rows ct_times_rows), sl_times_rows⟩)
    (c_times_rows : PySem.W.codeIn K cd_times_rows "times_rows" = true)
    (k_times_rows : PySem.W.keepIn K (.ref f_times_rows) = true)
    (a_added : PySem.W.nsIn K mainGlobals "added" = some (some (.ref f_added)))
    (l_added : K.lookup f_added = some ⟨oc_added, od_added, .func (PySem.W.fnOf "added" "added" (defArgs s_added) (defBody s_added) (defScope s_added) .none kV_added dc_added pm_added an_added cd_added ct_added), sl_added⟩)
    (c_added : PySem.W.codeIn K cd_added "added" = true)
    (k_added : PySem.W.keepIn K (.ref f_added) = true)
    (a_weight : PySem.W.nsIn K mainGlobals "weight" = some (some (.ref f_weight)))
    (l_weight : K.lookup f_weight = some ⟨oc_weight, od_weight, .func (PySem.W.fnOf "weight" "weight" (defArgs s_weight) (defBody s_weight) (defScope s_weight) .none kV_weight dc_weight pm_weight an_weight cd_weight ct_weight), sl_weight⟩)
    (c_weight : PySem.W.codeIn K cd_weight "weight" = true)
    (k_weight : PySem.W.keepIn K (.ref f_weight) = true)
    (a_l_begun : PySem.W.nsIn K mainGlobals "_law_begun" = some (some (.ref f_l_begun)))
    (l_l_begun : K.lookup f_l_begun = some ⟨oc_l_begun, od_l_begun, .func (PySem.W.fnOf "_law_begun" "_law_begun" (defArgs s_l_begun) (defBody s_l_begun) (defScope s_l_begun) .none kV_l_begun dc_l_begun pm_l_begun an_l_begun cd_l_begun ct_l_begun), sl_l_begun⟩)
    (c_l_begun : PySem.W.codeIn K cd_l_begun "_law_begun" = true)
    (k_l_begun : PySem.W.keepIn K (.ref f_l_begun) = true)
    (a_l_mixed : PySem.W.nsIn K mainGlobals "_law_mixed" = some (some (.ref f_l_mixed)))
    (l_l_mixed : K.lookup f_l_mixed = some ⟨oc_l_mixed, od_l_mixed, .func (PySem.W.fnOf "_law_mixed" "_law_mixed" (defArgs s_l_mixed) (defBody s_l_mixed) (defScope s_l_mixed) .none kV_l_mixed dc_l_mixed pm_l_mixed an_l_mixed cd_l_mixed ct_l_mixed), sl_l_mixed⟩)
    (c_l_mixed : PySem.W.codeIn K cd_l_mixed "_law_mixed" = true)
    (k_l_mixed : PySem.W.keepIn K (.ref f_l_mixed) = true)
    (a_l_take : PySem.W.nsIn K mainGlobals "_law_take" = some (some (.ref f_l_take)))
    (l_l_take : K.lookup f_l_take = some ⟨oc_l_take, od_l_take, .func (PySem.W.fnOf "_law_take" "_law_take" (defArgs s_l_take) (defBody s_l_take) (defScope s_l_take) .none kV_l_take dc_l_take pm_l_take an_l_take cd_l_take ct_l_take), sl_l_take⟩)
    (c_l_take : PySem.W.codeIn K cd_l_take "_law_take" = true)
    (k_l_take : PySem.W.keepIn K (.ref f_l_take) = true)
    (a_l_pick : PySem.W.nsIn K mainGlobals "_law_pick" = some (some (.ref f_l_pick)))
    (l_l_pick : K.lookup f_l_pick = some ⟨oc_l_pick, od_l_pick, .func (PySem.W.fnOf "_law_pick" "_law_pick" (defArgs s_l_pick) (defBody s_l_pick) (defScope s_l_pick) .none kV_l_pick dc_l_pick pm_l_pick an_l_pick cd_l_pick ct_l_pick), sl_l_pick⟩)
    (c_l_pick : PySem.W.codeIn K cd_l_pick "_law_pick" = true)
    (k_l_pick : PySem.W.keepIn K (.ref f_l_pick) = true)
    (a_l_shuffled : PySem.W.nsIn K mainGlobals "_law_shuffled" = some (some (.ref f_l_shuffled)))
    (l_l_shuffled : K.lookup f_l_shuffled = some ⟨oc_l_shuffled, od_l_shuffled, .func (PySem.W.fnOf "_law_shuffled" "_law_shuffled" (defArgs s_l_shuffled) (defBody s_l_shuffled) (defScope s_l_shuffled) .none kV_l_shuffled dc_l_shuffled pm_l_shuffled an_l_shuffled cd_l_shuffled ct_l_shuffled), sl_l_shuffled⟩)
    (c_l_shuffled : PySem.W.codeIn K cd_l_shuffled "_law_shuffled" = true)
    (k_l_shuffled : PySem.W.keepIn K (.ref f_l_shuffled) = true)
    (a_l_caught : PySem.W.nsIn K mainGlobals "_law_caught" = some (some (.ref f_l_caught)))
    (l_l_caught : K.lookup f_l_caught = some ⟨oc_l_caught, od_l_caught, .func (PySem.W.fnOf "_law_caught" "_law_caught" (defArgs s_l_caught) (defBody s_l_caught) (defScope s_l_caught) .none kV_l_caught dc_l_caught pm_l_caught an_l_caught cd_l_caught ct_l_caught), sl_l_caught⟩)
    (c_l_caught : PySem.W.codeIn K cd_l_caught "_law_caught" = true)
    (k_l_caught : PySem.W.keepIn K (.ref f_l_caught) = true)
    (a_l_row : PySem.W.nsIn K mainGlobals "_law_row" = some (some (.ref f_l_row)))
    (l_l_row : K.lookup f_l_row = some ⟨oc_l_row, od_l_row, .func (PySem.W.fnOf "_law_row" "_law_row" (defArgs s_l_row) (defBody s_l_row) (defScope s_l_row) .none kV_l_row dc_l_row pm_l_row an_l_row cd_l_row ct_l_row), sl_l_row⟩)
    (c_l_row : PySem.W.codeIn K cd_l_row "_law_row" = true)
    (k_l_row : PySem.W.keepIn K (.ref f_l_row) = true)
    (a_l_freed : PySem.W.nsIn K mainGlobals "_law_freed" = some (some (.ref f_l_freed)))
    (l_l_freed : K.lookup f_l_freed = some ⟨oc_l_freed, od_l_freed, .func (PySem.W.fnOf "_law_freed" "_law_freed" (defArgs s_l_freed) (defBody s_l_freed) (defScope s_l_freed) .none kV_l_freed dc_l_freed pm_l_freed an_l_freed cd_l_freed ct_l_freed), sl_l_freed⟩)
    (c_l_freed : PySem.W.codeIn K cd_l_freed "_law_freed" = true)
    (k_l_freed : PySem.W.keepIn K (.ref f_l_freed) = true)
    (a_l_turn : PySem.W.nsIn K mainGlobals "_law_turn" = some (some (.ref f_l_turn)))
    (l_l_turn : K.lookup f_l_turn = some ⟨oc_l_turn, od_l_turn, .func (PySem.W.fnOf "_law_turn" "_law_turn" (defArgs s_l_turn) (defBody s_l_turn) (defScope s_l_turn) .none kV_l_turn dc_l_turn pm_l_turn an_l_turn cd_l_turn ct_l_turn), sl_l_turn⟩)
    (c_l_turn : PySem.W.codeIn K cd_l_turn "_law_turn" = true)
    (k_l_turn : PySem.W.keepIn K (.ref f_l_turn) = true)
    (a_l_round : PySem.W.nsIn K mainGlobals "_law_round" = some (some (.ref f_l_round)))
    (l_l_round : K.lookup f_l_round = some ⟨oc_l_round, od_l_round, .func (PySem.W.fnOf "_law_round" "_law_round" (defArgs s_l_round) (defBody s_l_round) (defScope s_l_round) .none kV_l_round dc_l_round pm_l_round an_l_round cd_l_round ct_l_round), sl_l_round⟩)
    (c_l_round : PySem.W.codeIn K cd_l_round "_law_round" = true)
    (k_l_round : PySem.W.keepIn K (.ref f_l_round) = true)
    (a_l_word : PySem.W.nsIn K mainGlobals "_law_word" = some (some (.ref f_l_word)))
    (l_l_word : K.lookup f_l_word = some ⟨oc_l_word, od_l_word, .func (PySem.W.fnOf "_law_word" "_law_word" (defArgs s_l_word) (defBody s_l_word) (defScope s_l_word) .none kV_l_word dc_l_word pm_l_word an_l_word cd_l_word ct_l_word), sl_l_word⟩)
    (c_l_word : PySem.W.codeIn K cd_l_word "_law_word" = true)
    (k_l_word : PySem.W.keepIn K (.ref f_l_word) = true)
    (a_l_any_round : PySem.W.nsIn K mainGlobals "_law_any_round" = some (some (.ref f_l_any_round)))
    (l_l_any_round : K.lookup f_l_any_round = some ⟨oc_l_any_round, od_l_any_round, .func (PySem.W.fnOf "_law_any_round" "_law_any_round" (defArgs s_l_any_round) (defBody s_l_any_round) (defScope s_l_any_round) .none kV_l_any_round dc_l_any_round pm_l_any_round an_l_any_round cd_l_any_round ct_l_any_round), sl_l_any_round⟩)
    (c_l_any_round : PySem.W.codeIn K cd_l_any_round "_law_any_round" = true)
    (k_l_any_round : PySem.W.keepIn K (.ref f_l_any_round) = true)
    (a_l_put : PySem.W.nsIn K mainGlobals "_law_put" = some (some (.ref f_l_put)))
    (l_l_put : K.lookup f_l_put = some ⟨oc_l_put, od_l_put, .func (PySem.W.fnOf "_law_put" "_law_put" (defArgs s_l_put) (defBody s_l_put) (defScope s_l_put) .none kV_l_put dc_l_put pm_l_put an_l_put cd_l_put ct_l_put), sl_l_put⟩)
    (c_l_put : PySem.W.codeIn K cd_l_put "_law_put" = true)
    (k_l_put : PySem.W.keepIn K (.ref f_l_put) = true)
    (a_l_kept : PySem.W.nsIn K mainGlobals "_law_kept" = some (some (.ref f_l_kept)))
    (l_l_kept : K.lookup f_l_kept = some ⟨oc_l_kept, od_l_kept, .func (PySem.W.fnOf "_law_kept" "_law_kept" (defArgs s_l_kept) (defBody s_l_kept) (defScope s_l_kept) .none kV_l_kept dc_l_kept pm_l_kept an_l_kept cd_l_kept ct_l_kept), sl_l_kept⟩)
    (c_l_kept : PySem.W.codeIn K cd_l_kept "_law_kept" = true)
    (k_l_kept : PySem.W.keepIn K (.ref f_l_kept) = true)
    (a_l_same_dict : PySem.W.nsIn K mainGlobals "_law_same_dict" = some (some (.ref f_l_same_dict)))
    (l_l_same_dict : K.lookup f_l_same_dict = some ⟨oc_l_same_dict, od_l_same_dict, .func (PySem.W.fnOf "_law_same_dict" "_law_same_dict" (defArgs s_l_same_dict) (defBody s_l_same_dict) (defScope s_l_same_dict) .none kV_l_same_dict dc_l_same_dict pm_l_same_dict an_l_same_dict cd_l_same_dict ct_l_same_dict), sl_l_same_dict⟩)
    (c_l_same_dict : PySem.W.codeIn K cd_l_same_dict "_law_same_dict" = true)
    (k_l_same_dict : PySem.W.keepIn K (.ref f_l_same_dict) = true)
    (a_l_weight : PySem.W.nsIn K mainGlobals "_law_weight" = some (some (.ref f_l_weight)))
    (l_l_weight : K.lookup f_l_weight = some ⟨oc_l_weight, od_l_weight, .func (PySem.W.fnOf "_law_weight" "_law_weight" (defArgs s_l_weight) (defBody s_l_weight) (defScope s_l_weight) .none kV_l_weight dc_l_weight pm_l_weight an_l_weight cd_l_weight ct_l_weight), sl_l_weight⟩)
    (c_l_weight : PySem.W.codeIn K cd_l_weight "_law_weight" = true)
    (k_l_weight : PySem.W.keepIn K (.ref f_l_weight) = true)
    (a_l_unlike_rounds : PySem.W.nsIn K mainGlobals "_law_unlike_rounds" = some (some (.ref f_l_unlike_rounds)))
    (l_l_unlike_rounds : K.lookup f_l_unlike_rounds = some ⟨oc_l_unlike_rounds, od_l_unlike_rounds, .func (PySem.W.fnOf "_law_unlike_rounds" "_law_unlike_rounds" (defArgs s_l_unlike_rounds) (defBody s_l_unlike_rounds) (defScope s_l_unlike_rounds) .none kV_l_unlike_rounds dc_l_unlike_rounds pm_l_unlike_rounds an_l_unlike_rounds cd_l_unlike_rounds ct_l_unlike_rounds), sl_l_unlike_rounds⟩)
    (c_l_unlike_rounds : PySem.W.codeIn K cd_l_unlike_rounds "_law_unlike_rounds" = true)
    (k_l_unlike_rounds : PySem.W.keepIn K (.ref f_l_unlike_rounds) = true)
    (a_l_numbered : PySem.W.nsIn K mainGlobals "_law_numbered" = some (some (.ref f_l_numbered)))
    (l_l_numbered : K.lookup f_l_numbered = some ⟨oc_l_numbered, od_l_numbered, .func (PySem.W.fnOf "_law_numbered" "_law_numbered" (defArgs s_l_numbered) (defBody s_l_numbered) (defScope s_l_numbered) .none kV_l_numbered dc_l_numbered pm_l_numbered an_l_numbered cd_l_numbered ct_l_numbered), sl_l_numbered⟩)
    (c_l_numbered : PySem.W.codeIn K cd_l_numbered "_law_numbered" = true)
    (k_l_numbered : PySem.W.keepIn K (.ref f_l_numbered) = true)
    (a_l_bent : PySem.W.nsIn K mainGlobals "_law_bent" = some (some (.ref f_l_bent)))
    (l_l_bent : K.lookup f_l_bent = some ⟨oc_l_bent, od_l_bent, .func (PySem.W.fnOf "_law_bent" "_law_bent" (defArgs s_l_bent) (defBody s_l_bent) (defScope s_l_bent) .none kV_l_bent dc_l_bent pm_l_bent an_l_bent cd_l_bent ct_l_bent), sl_l_bent⟩)
    (c_l_bent : PySem.W.codeIn K cd_l_bent "_law_bent" = true)
    (k_l_bent : PySem.W.keepIn K (.ref f_l_bent) = true)
    (a_l_judged : PySem.W.nsIn K mainGlobals "_law_judged" = some (some (.ref f_l_judged)))
    (l_l_judged : K.lookup f_l_judged = some ⟨oc_l_judged, od_l_judged, .func (PySem.W.fnOf "_law_judged" "_law_judged" (defArgs s_l_judged) (defBody s_l_judged) (defScope s_l_judged) .none kV_l_judged dc_l_judged pm_l_judged an_l_judged cd_l_judged ct_l_judged), sl_l_judged⟩)
    (c_l_judged : PySem.W.codeIn K cd_l_judged "_law_judged" = true)
    (k_l_judged : PySem.W.keepIn K (.ref f_l_judged) = true)
    (a_l_added_right : PySem.W.nsIn K mainGlobals "_law_added_right" = some (some (.ref f_l_added_right)))
    (l_l_added_right : K.lookup f_l_added_right = some ⟨oc_l_added_right, od_l_added_right, .func (PySem.W.fnOf "_law_added_right" "_law_added_right" (defArgs s_l_added_right) (defBody s_l_added_right) (defScope s_l_added_right) .none kV_l_added_right dc_l_added_right pm_l_added_right an_l_added_right cd_l_added_right ct_l_added_right), sl_l_added_right⟩)
    (c_l_added_right : PySem.W.codeIn K cd_l_added_right "_law_added_right" = true)
    (k_l_added_right : PySem.W.keepIn K (.ref f_l_added_right) = true)
    (a_l_refused : PySem.W.nsIn K mainGlobals "_law_refused" = some (some (.ref f_l_refused)))
    (l_l_refused : K.lookup f_l_refused = some ⟨oc_l_refused, od_l_refused, .func (PySem.W.fnOf "_law_refused" "_law_refused" (defArgs s_l_refused) (defBody s_l_refused) (defScope s_l_refused) .none kV_l_refused dc_l_refused pm_l_refused an_l_refused (.ref jc) ct_l_refused), sl_l_refused⟩)
    (c_l_refused : PySem.W.codeIn K (.ref jc) "_law_refused" = true)
    (k_l_refused : PySem.W.keepIn K (.ref f_l_refused) = true)
    (a_law : PySem.W.nsIn K mainGlobals "law" = some (some (.ref f_law)))
    (l_law : K.lookup f_law = some ⟨oc_law, od_law, .func (PySem.W.fnOf "law" "law" (defArgs s_law) (defBody s_law) (defScope s_law) .none kV_law dc_law pm_law an_law cd_law ct_law), sl_law⟩)
    (c_law : PySem.W.codeIn K cd_law "law" = true)
    (k_law : PySem.W.keepIn K (.ref f_law) = true)
    (zabs : PySem.W.nsIn K mainGlobals "abs" = some none)
    (zall : PySem.W.nsIn K mainGlobals "all" = some none)
    (zdict : PySem.W.nsIn K mainGlobals "dict" = some none)
    (zint : PySem.W.nsIn K mainGlobals "int" = some none)
    (zisinstance : PySem.W.nsIn K mainGlobals "isinstance" = some none)
    (zlen : PySem.W.nsIn K mainGlobals "len" = some none)
    (zlist : PySem.W.nsIn K mainGlobals "list" = some none)
    (zmax : PySem.W.nsIn K mainGlobals "max" = some none)
    (zmin : PySem.W.nsIn K mainGlobals "min" = some none)
    (zrange : PySem.W.nsIn K mainGlobals "range" = some none)
    (zrepr : PySem.W.nsIn K mainGlobals "repr" = some none)
    (zsorted : PySem.W.nsIn K mainGlobals "sorted" = some none)
    (zsum : PySem.W.nsIn K mainGlobals "sum" = some none)
    (ztuple : PySem.W.nsIn K mainGlobals "tuple" = some none)
    (ztype : PySem.W.nsIn K mainGlobals "type" = some none)
    (c_MOST_IN_ROUND : PySem.W.nsIn K mainGlobals "MOST_IN_ROUND" = some (some (.int 40 tkMOST_IN_ROUND)))
    (c_MOST_IN_SUM : PySem.W.nsIn K mainGlobals "MOST_IN_SUM" = some (some (.int 60 tkMOST_IN_SUM)))
    (c_MOST_NUMBER : PySem.W.nsIn K mainGlobals "MOST_NUMBER" = some (some (.int 1000000000 tkMOST_NUMBER)))
    (kSS : PySem.W.kitOne K (.ref C_Skin) (.ref C_Skin) = some true)
    (kST : PySem.W.kitOne K (.type "tuple") (.ref C_Skin) = some false)
    (kSN : PySem.W.kitOne K (.type "NoneType") (.ref C_Skin) = some false)
    (kSI : PySem.W.kitOne K (.type "int") (.ref C_Skin) = some false)
    (kSY : PySem.W.kitOne K (.type "str") (.ref C_Skin) = some false)
    (kSkSk : PySem.W.kitOne K (.ref C_BadSkin) (.ref C_BadSkin) = some true)
    (sSR : PySem.W.subIn K (.ref C_BadSkin) (.ref C_RoundError) = some true)
    (kUU : PySem.W.kitOne K (.ref C_BadSum) (.ref C_BadSum) = some true)
    (sUR : PySem.W.subIn K (.ref C_BadSum) (.ref C_RoundError) = some true)
    (kNN : PySem.W.kitOne K (.ref C_BadNumber) (.ref C_BadNumber) = some true)
    (sNR : PySem.W.subIn K (.ref C_BadNumber) (.ref C_RoundError) = some true)
    (kDD : PySem.W.kitOne K (.type "dict") (.type "dict") = some true)
    (tgj : h.get? jP = some { cls := .none, data := .fields #[] }) (tcj : PySem.W.CodeHd h jc jP) (njj : K.lookup jP = none) :
    ∃ T : Txt K mg, fa = T.law.a ∧ (h.get? T.jP = some { cls := .none, data := .fields #[] } ∧ K.lookup T.jP = none ∧ PySem.W.CodeHd h T.jc T.jP) := by
  have no_Skin : ∀ f ∈ (["row", "bands", "places"] : List Str), NoAttr K C_Skin f := fun f hf => by
      simp only [List.mem_cons, List.not_mem_nil, or_false] at hf
      rcases hf with rfl | rfl | rfl
      · exact n_Skin_row
      · exact n_Skin_bands
      · exact n_Skin_places
  have e := hfa.symm.trans (PySem.W.mg_of X G a_law)
  cases e
  refine ⟨{
    RoundError := ⟨C_RoundError, PySem.W.mg_of X G a_RoundError, k_RoundError, q_RoundError, ty_RoundError, ⟨ga_RoundError, gg_RoundError, ex_RoundError, hd_RoundError, ca_RoundError, hn0, ht0, mo_RoundError⟩⟩,
    BadNumber := ⟨C_BadNumber, f_BadNumber, _, PySem.W.mg_of X G a_BadNumber, ⟨⟨_, _, _, _, _, _, _, _, _, _, _, _, _, _, _, x_BadNumber, rv_BadNumber⟩, sa_BadNumber, ex_BadNumber, ty_BadNumber, kc_BadNumber⟩, i_BadNumber, t_BadNumber, fun_mk (st := s_BadNumber_init) l_BadNumber c_BadNumber k_BadNumber, (fun_mk (st := s_BadNumber_init) l_BadNumber c_BadNumber k_BadNumber).binds (ps := ["self", "part"]) (fun _ _ _ _ _ _ us hl => match us, hl with | [_, _], _ => rfl), nf_BadNumber, ⟨ga_BadNumber, gg_BadNumber, ex_BadNumber, hd_BadNumber⟩, ⟨ga_BadNumber, gg_BadNumber, ex_BadNumber, hd_BadNumber, ca_BadNumber, hn0, ht0, mo_BadNumber⟩⟩,
    BadSkin := ⟨C_BadSkin, f_BadSkin, _, PySem.W.mg_of X G a_BadSkin, ⟨⟨_, _, _, _, _, _, _, _, _, _, _, _, _, _, _, x_BadSkin, rv_BadSkin⟩, sa_BadSkin, ex_BadSkin, ty_BadSkin, kc_BadSkin⟩, i_BadSkin, t_BadSkin, fun_mk (st := s_BadSkin_init) l_BadSkin c_BadSkin k_BadSkin, (fun_mk (st := s_BadSkin_init) l_BadSkin c_BadSkin k_BadSkin).binds (ps := ["self", "part"]) (fun _ _ _ _ _ _ us hl => match us, hl with | [_, _], _ => rfl), nf_BadSkin, ⟨ga_BadSkin, gg_BadSkin, ex_BadSkin, hd_BadSkin⟩, ⟨ga_BadSkin, gg_BadSkin, ex_BadSkin, hd_BadSkin, ca_BadSkin, hn0, ht0, mo_BadSkin⟩⟩,
    BadSum := ⟨C_BadSum, PySem.W.mg_of X G a_BadSum, k_BadSum, q_BadSum, ty_BadSum, ⟨ga_BadSum, gg_BadSum, ex_BadSum, hd_BadSum, ca_BadSum, hn0, ht0, mo_BadSum⟩⟩,
    is_number := ⟨f_is_number, _, fun_mk (st := s_is_number) l_is_number c_is_number k_is_number, PySem.W.mg_of X G a_is_number, (fun_mk (st := s_is_number) l_is_number c_is_number k_is_number).binds (ps := ["thing"]) (fun _ _ _ _ _ _ us hl => match us, hl with | [_], _ => rfl)⟩,
    is_within := ⟨f_is_within, _, fun_mk (st := s_is_within) l_is_within c_is_within k_is_within, PySem.W.mg_of X G a_is_within, (fun_mk (st := s_is_within) l_is_within c_is_within k_is_within).binds (ps := ["thing", "low", "high"]) (fun _ _ _ _ _ _ us hl => match us, hl with | [_, _, _], _ => rfl)⟩,
    is_tuple := ⟨f_is_tuple, _, fun_mk (st := s_is_tuple) l_is_tuple c_is_tuple k_is_tuple, PySem.W.mg_of X G a_is_tuple, (fun_mk (st := s_is_tuple) l_is_tuple c_is_tuple k_is_tuple).binds (ps := ["thing"]) (fun _ _ _ _ _ _ us hl => match us, hl with | [_], _ => rfl)⟩,
    is_list := ⟨f_is_list, _, fun_mk (st := s_is_list) l_is_list c_is_list k_is_list, PySem.W.mg_of X G a_is_list, (fun_mk (st := s_is_list) l_is_list c_is_list k_is_list).binds (ps := ["thing"]) (fun _ _ _ _ _ _ us hl => match us, hl with | [_], _ => rfl)⟩,
    is_row := ⟨f_is_row, _, fun_mk (st := s_is_row) l_is_row c_is_row k_is_row, PySem.W.mg_of X G a_is_row, (fun_mk (st := s_is_row) l_is_row c_is_row k_is_row).binds (ps := ["row"]) (fun _ _ _ _ _ _ us hl => match us, hl with | [_], _ => rfl)⟩,
    Skin := ⟨C_Skin, f_Skin, _, PySem.W.mg_of X G a_Skin, ⟨pg_Skin, hd_Skin, po_Skin, sa_Skin⟩, no_Skin, ⟨mk_Skin, i_Skin, fn_Skin, kc_Skin⟩, fun_mk (st := s_Skin_init) l_Skin c_Skin k_Skin, (fun_mk (st := s_Skin_init) l_Skin c_Skin k_Skin).binds (ps := ["self", "row"]) (fun _ _ _ _ _ _ us hl => match us, hl with | [_, _], _ => rfl), ca_Skin, hn0, ht0, mo_Skin⟩,
    check_skin := ⟨f_check_skin, _, fun_mk (st := s_check_skin) l_check_skin c_check_skin k_check_skin, PySem.W.mg_of X G a_check_skin, (fun_mk (st := s_check_skin) l_check_skin c_check_skin k_check_skin).binds (ps := ["skin"]) (fun _ _ _ _ _ _ us hl => match us, hl with | [_], _ => rfl)⟩,
    is_end := ⟨f_is_end, _, fun_mk (st := s_is_end) l_is_end c_is_end k_is_end, PySem.W.mg_of X G a_is_end, (fun_mk (st := s_is_end) l_is_end c_is_end k_is_end).binds (ps := ["skin", "thing"]) (fun _ _ _ _ _ _ us hl => match us, hl with | [_, _], _ => rfl)⟩,
    least_turn := ⟨f_least_turn, _, fun_mk (st := s_least_turn) l_least_turn c_least_turn k_least_turn, PySem.W.mg_of X G a_least_turn, (fun_mk (st := s_least_turn) l_least_turn c_least_turn k_least_turn).binds (ps := ["word"]) (fun _ _ _ _ _ _ us hl => match us, hl with | [_], _ => rfl)⟩,
    is_any_word := ⟨f_is_any_word, _, fun_mk (st := s_is_any_word) l_is_any_word c_is_any_word k_is_any_word, PySem.W.mg_of X G a_is_any_word, (fun_mk (st := s_is_any_word) l_is_any_word c_is_any_word k_is_any_word).binds (ps := ["skin", "thing"]) (fun _ _ _ _ _ _ us hl => match us, hl with | [_, _], _ => rfl)⟩,
    has_letters := ⟨f_has_letters, _, fun_mk (st := s_has_letters) l_has_letters c_has_letters k_has_letters, PySem.W.mg_of X G a_has_letters, (fun_mk (st := s_has_letters) l_has_letters c_has_letters k_has_letters).binds (ps := ["skin", "thing", "most"]) (fun _ _ _ _ _ _ us hl => match us, hl with | [_, _, _], _ => rfl)⟩,
    cut_free := ⟨f_cut_free, _, fun_mk (st := s_cut_free) l_cut_free c_cut_free k_cut_free, PySem.W.mg_of X G a_cut_free, (fun_mk (st := s_cut_free) l_cut_free c_cut_free k_cut_free).binds (ps := ["word"]) (fun _ _ _ _ _ _ us hl => match us, hl with | [_], _ => rfl)⟩,
    closed_letters := ⟨f_closed_letters, _, fun_mk (st := s_closed_letters) l_closed_letters c_closed_letters k_closed_letters, PySem.W.mg_of X G a_closed_letters, (fun_mk (st := s_closed_letters) l_closed_letters c_closed_letters k_closed_letters).binds (ps := ["word"]) (fun _ _ _ _ _ _ us hl => match us, hl with | [_], _ => rfl)⟩,
    closed_up := ⟨f_closed_up, _, fun_mk (st := s_closed_up) l_closed_up c_closed_up k_closed_up, PySem.W.mg_of X G a_closed_up, (fun_mk (st := s_closed_up) l_closed_up c_closed_up k_closed_up).binds (ps := ["word"]) (fun _ _ _ _ _ _ us hl => match us, hl with | [_], _ => rfl)⟩,
    is_fit_round := ⟨f_is_fit_round, _, fun_mk (st := s_is_fit_round) l_is_fit_round c_is_fit_round k_is_fit_round, PySem.W.mg_of X G a_is_fit_round, (fun_mk (st := s_is_fit_round) l_is_fit_round c_is_fit_round k_is_fit_round).binds (ps := ["skin", "thing"]) (fun _ _ _ _ _ _ us hl => match us, hl with | [_, _], _ => rfl)⟩,
    is_number_of_sum := ⟨f_is_number_of_sum, _, fun_mk (st := s_is_number_of_sum) l_is_number_of_sum c_is_number_of_sum k_is_number_of_sum, PySem.W.mg_of X G a_is_number_of_sum, (fun_mk (st := s_is_number_of_sum) l_is_number_of_sum c_is_number_of_sum k_is_number_of_sum).binds (ps := ["thing"]) (fun _ _ _ _ _ _ us hl => match us, hl with | [_], _ => rfl)⟩,
    is_fit_sum := ⟨f_is_fit_sum, _, fun_mk (st := s_is_fit_sum) l_is_fit_sum c_is_fit_sum k_is_fit_sum, PySem.W.mg_of X G a_is_fit_sum, (fun_mk (st := s_is_fit_sum) l_is_fit_sum c_is_fit_sum k_is_fit_sum).binds (ps := ["skin", "thing"]) (fun _ _ _ _ _ _ us hl => match us, hl with | [_, _], _ => rfl)⟩,
    is_sum := ⟨f_is_sum, _, fun_mk (st := s_is_sum) l_is_sum c_is_sum k_is_sum, PySem.W.mg_of X G a_is_sum, (fun_mk (st := s_is_sum) l_is_sum c_is_sum k_is_sum).binds (ps := ["skin", "thing"]) (fun _ _ _ _ _ _ us hl => match us, hl with | [_, _], _ => rfl)⟩,
    check_sum := ⟨f_check_sum, _, fun_mk (st := s_check_sum) l_check_sum c_check_sum k_check_sum, PySem.W.mg_of X G a_check_sum, (fun_mk (st := s_check_sum) l_check_sum c_check_sum k_check_sum).binds (ps := ["skin", "some"]) (fun _ _ _ _ _ _ us hl => match us, hl with | [_, _], _ => rfl)⟩,
    put_together := ⟨f_put_together, _, fun_mk (st := s_put_together) l_put_together c_put_together k_put_together, PySem.W.mg_of X G a_put_together, (fun_mk (st := s_put_together) l_put_together c_put_together k_put_together).binds (ps := ["rows"]) (fun _ _ _ _ _ _ us hl => match us, hl with | [_], _ => rfl)⟩,
    times_rows := ⟨f_times_rows, _, fun_mk (st := s_times_rows) l_times_rows c_times_rows k_times_rows, PySem.W.mg_of X G a_times_rows, (fun_mk (st := s_times_rows) l_times_rows c_times_rows k_times_rows).binds (ps := ["some", "times"]) (fun _ _ _ _ _ _ us hl => match us, hl with | [_, _], _ => rfl)⟩,
    added := ⟨f_added, _, fun_mk (st := s_added) l_added c_added k_added, PySem.W.mg_of X G a_added, (fun_mk (st := s_added) l_added c_added k_added).binds (ps := ["skin", "one", "other", "times"]) (fun _ _ _ _ _ _ us hl => match us, hl with | [_, _, _, _], _ => rfl)⟩,
    weight := ⟨f_weight, _, fun_mk (st := s_weight) l_weight c_weight k_weight, PySem.W.mg_of X G a_weight, (fun_mk (st := s_weight) l_weight c_weight k_weight).binds (ps := ["skin", "some"]) (fun _ _ _ _ _ _ us hl => match us, hl with | [_, _], _ => rfl)⟩,
    l_begun := ⟨f_l_begun, _, fun_mk (st := s_l_begun) l_l_begun c_l_begun k_l_begun, PySem.W.mg_of X G a_l_begun, (fun_mk (st := s_l_begun) l_l_begun c_l_begun k_l_begun).binds (ps := ["script"]) (fun _ _ _ _ _ _ us hl => match us, hl with | [_], _ => rfl)⟩,
    l_mixed := ⟨f_l_mixed, _, fun_mk (st := s_l_mixed) l_l_mixed c_l_mixed k_l_mixed, PySem.W.mg_of X G a_l_mixed, (fun_mk (st := s_l_mixed) l_l_mixed c_l_mixed k_l_mixed).binds (ps := ["draw"]) (fun _ _ _ _ _ _ us hl => match us, hl with | [_], _ => rfl)⟩,
    l_take := ⟨f_l_take, _, fun_mk (st := s_l_take) l_l_take c_l_take k_l_take, PySem.W.mg_of X G a_l_take, (fun_mk (st := s_l_take) l_l_take c_l_take k_l_take).binds (ps := ["draw", "amount"]) (fun _ _ _ _ _ _ us hl => match us, hl with | [_, _], _ => rfl)⟩,
    l_pick := ⟨f_l_pick, _, fun_mk (st := s_l_pick) l_l_pick c_l_pick k_l_pick, PySem.W.mg_of X G a_l_pick, (fun_mk (st := s_l_pick) l_l_pick c_l_pick k_l_pick).binds (ps := ["draw", "some"]) (fun _ _ _ _ _ _ us hl => match us, hl with | [_, _], _ => rfl)⟩,
    l_shuffled := ⟨f_l_shuffled, _, fun_mk (st := s_l_shuffled) l_l_shuffled c_l_shuffled k_l_shuffled, PySem.W.mg_of X G a_l_shuffled, (fun_mk (st := s_l_shuffled) l_l_shuffled c_l_shuffled k_l_shuffled).binds (ps := ["draw", "some"]) (fun _ _ _ _ _ _ us hl => match us, hl with | [_, _], _ => rfl)⟩,
    l_caught := ⟨f_l_caught, _, fun_mk (st := s_l_caught) l_l_caught c_l_caught k_l_caught, PySem.W.mg_of X G a_l_caught, (fun_mk (st := s_l_caught) l_l_caught c_l_caught k_l_caught).binds (ps := ["work"]) (fun _ _ _ _ _ _ us hl => match us, hl with | [_], _ => rfl)⟩,
    l_row := ⟨f_l_row, _, fun_mk (st := s_l_row) l_l_row c_l_row k_l_row, PySem.W.mg_of X G a_l_row, (fun_mk (st := s_l_row) l_l_row c_l_row k_l_row).binds (ps := ["draw", "bands"]) (fun _ _ _ _ _ _ us hl => match us, hl with | [_, _], _ => rfl)⟩,
    l_freed := ⟨f_l_freed, _, fun_mk (st := s_l_freed) l_l_freed c_l_freed k_l_freed, PySem.W.mg_of X G a_l_freed, (fun_mk (st := s_l_freed) l_l_freed c_l_freed k_l_freed).binds (ps := ["word"]) (fun _ _ _ _ _ _ us hl => match us, hl with | [_], _ => rfl)⟩,
    l_turn := ⟨f_l_turn, _, fun_mk (st := s_l_turn) l_l_turn c_l_turn k_l_turn, PySem.W.mg_of X G a_l_turn, (fun_mk (st := s_l_turn) l_l_turn c_l_turn k_l_turn).binds (ps := ["word"]) (fun _ _ _ _ _ _ us hl => match us, hl with | [_], _ => rfl)⟩,
    l_round := ⟨f_l_round, _, fun_mk (st := s_l_round) l_l_round c_l_round k_l_round, PySem.W.mg_of X G a_l_round, (fun_mk (st := s_l_round) l_l_round c_l_round k_l_round).binds (ps := ["word"]) (fun _ _ _ _ _ _ us hl => match us, hl with | [_], _ => rfl)⟩,
    l_word := ⟨f_l_word, _, fun_mk (st := s_l_word) l_l_word c_l_word k_l_word, PySem.W.mg_of X G a_l_word, (fun_mk (st := s_l_word) l_l_word c_l_word k_l_word).binds (ps := ["draw", "bands", "many"]) (fun _ _ _ _ _ _ us hl => match us, hl with | [_, _, _], _ => rfl)⟩,
    l_any_round := ⟨f_l_any_round, _, fun_mk (st := s_l_any_round) l_l_any_round c_l_any_round k_l_any_round, PySem.W.mg_of X G a_l_any_round, (fun_mk (st := s_l_any_round) l_l_any_round c_l_any_round k_l_any_round).binds (ps := ["draw", "bands", "most"]) (fun _ _ _ _ _ _ us hl => match us, hl with | [_, _, _], _ => rfl)⟩,
    l_put := ⟨f_l_put, _, fun_mk (st := s_l_put) l_l_put c_l_put k_l_put, PySem.W.mg_of X G a_l_put, (fun_mk (st := s_l_put) l_l_put c_l_put k_l_put).binds (ps := ["book", "key", "number"]) (fun _ _ _ _ _ _ us hl => match us, hl with | [_, _, _], _ => rfl)⟩,
    l_kept := ⟨f_l_kept, _, fun_mk (st := s_l_kept) l_l_kept c_l_kept k_l_kept, PySem.W.mg_of X G a_l_kept, (fun_mk (st := s_l_kept) l_l_kept c_l_kept k_l_kept).binds (ps := ["book"]) (fun _ _ _ _ _ _ us hl => match us, hl with | [_], _ => rfl)⟩,
    l_same_dict := ⟨f_l_same_dict, _, fun_mk (st := s_l_same_dict) l_l_same_dict c_l_same_dict k_l_same_dict, PySem.W.mg_of X G a_l_same_dict, (fun_mk (st := s_l_same_dict) l_l_same_dict c_l_same_dict k_l_same_dict).binds (ps := ["found", "due"]) (fun _ _ _ _ _ _ us hl => match us, hl with | [_, _], _ => rfl)⟩,
    l_weight := ⟨f_l_weight, _, fun_mk (st := s_l_weight) l_l_weight c_l_weight k_l_weight, PySem.W.mg_of X G a_l_weight, (fun_mk (st := s_l_weight) l_l_weight c_l_weight k_l_weight).binds (ps := ["book"]) (fun _ _ _ _ _ _ us hl => match us, hl with | [_], _ => rfl)⟩,
    l_unlike_rounds := ⟨f_l_unlike_rounds, _, fun_mk (st := s_l_unlike_rounds) l_l_unlike_rounds c_l_unlike_rounds k_l_unlike_rounds, PySem.W.mg_of X G a_l_unlike_rounds, (fun_mk (st := s_l_unlike_rounds) l_l_unlike_rounds c_l_unlike_rounds k_l_unlike_rounds).binds (ps := ["draw", "bands", "many"]) (fun _ _ _ _ _ _ us hl => match us, hl with | [_, _, _], _ => rfl)⟩,
    l_numbered := ⟨f_l_numbered, _, fun_mk (st := s_l_numbered) l_l_numbered c_l_numbered k_l_numbered, PySem.W.mg_of X G a_l_numbered, (fun_mk (st := s_l_numbered) l_l_numbered c_l_numbered k_l_numbered).binds (ps := ["draw", "loops"]) (fun _ _ _ _ _ _ us hl => match us, hl with | [_, _], _ => rfl)⟩,
    l_bent := ⟨f_l_bent, _, fun_mk (st := s_l_bent) l_l_bent c_l_bent k_l_bent, PySem.W.mg_of X G a_l_bent, (fun_mk (st := s_l_bent) l_l_bent c_l_bent k_l_bent).binds (ps := ["draw", "bands", "some"]) (fun _ _ _ _ _ _ us hl => match us, hl with | [_, _, _], _ => rfl)⟩,
    l_judged := ⟨f_l_judged, _, fun_mk (st := s_l_judged) l_l_judged c_l_judged k_l_judged, PySem.W.mg_of X G a_l_judged, (fun_mk (st := s_l_judged) l_l_judged c_l_judged k_l_judged).binds (ps := ["draw", "skin", "bands", "one"]) (fun _ _ _ _ _ _ us hl => match us, hl with | [_, _, _, _], _ => rfl)⟩,
    l_added_right := ⟨f_l_added_right, _, fun_mk (st := s_l_added_right) l_l_added_right c_l_added_right k_l_added_right, PySem.W.mg_of X G a_l_added_right, (fun_mk (st := s_l_added_right) l_l_added_right c_l_added_right k_l_added_right).binds (ps := ["draw", "skin", "one", "other"]) (fun _ _ _ _ _ _ us hl => match us, hl with | [_, _, _, _], _ => rfl)⟩,
    l_refused := ⟨f_l_refused, _, fun_mk (st := s_l_refused) l_l_refused c_l_refused k_l_refused, PySem.W.mg_of X G a_l_refused, (fun_mk (st := s_l_refused) l_l_refused c_l_refused k_l_refused).binds (ps := ["draw", "skin", "bands", "one"]) (fun _ _ _ _ _ _ us hl => match us, hl with | [_, _, _, _], _ => rfl)⟩,
    law := ⟨fa, _, fun_mk (st := s_law) l_law c_law k_law, PySem.W.mg_of X G a_law, (fun_mk (st := s_law) l_law c_law k_law).binds (ps := ["script"]) (fun _ _ _ _ _ _ us hl => match us, hl with | [_], _ => rfl)⟩,
    zabs := PySem.W.mg_none_of X G zabs,
    zall := PySem.W.mg_none_of X G zall,
    zdict := PySem.W.mg_none_of X G zdict,
    zint := PySem.W.mg_none_of X G zint,
    zisinstance := PySem.W.mg_none_of X G zisinstance,
    zlen := PySem.W.mg_none_of X G zlen,
    zlist := PySem.W.mg_none_of X G zlist,
    zmax := PySem.W.mg_none_of X G zmax,
    zmin := PySem.W.mg_none_of X G zmin,
    zrange := PySem.W.mg_none_of X G zrange,
    zrepr := PySem.W.mg_none_of X G zrepr,
    zsorted := PySem.W.mg_none_of X G zsorted,
    zsum := PySem.W.mg_none_of X G zsum,
    ztuple := PySem.W.mg_none_of X G ztuple,
    ztype := PySem.W.mg_none_of X G ztype,
    v_MOST_IN_ROUND := .int 40 tkMOST_IN_ROUND,
    c_MOST_IN_ROUND := PySem.W.mg_of X G c_MOST_IN_ROUND,
    r_MOST_IN_ROUND := ⟨_, rfl⟩,
    v_MOST_IN_SUM := .int 60 tkMOST_IN_SUM,
    c_MOST_IN_SUM := PySem.W.mg_of X G c_MOST_IN_SUM,
    r_MOST_IN_SUM := ⟨_, rfl⟩,
    v_MOST_NUMBER := .int 1000000000 tkMOST_NUMBER,
    c_MOST_NUMBER := PySem.W.mg_of X G c_MOST_NUMBER,
    r_MOST_NUMBER := ⟨_, rfl⟩,
    kSS := kSS,
    kST := kST,
    kSN := kSN,
    kSI := kSI,
    kSY := kSY,
    kSkSk := kSkSk,
    sSR := sSR,
    kUU := kUU,
    sUR := sUR,
    kNN := kNN,
    sNR := sNR,
    kDD := kDD,
    jc := jc,
    jP := jP,
    jF := ⟨_, _, _, _, _, _, _, _, rfl, l_l_refused, c_l_refused⟩ }, rfl, ⟨tgj, njj, tcj⟩⟩
theorem walk_law {l : PySem.W.OpenLaw} {q : Program} {loose : List Str} {XP : (Str → Option Value) → Heap → Prop} {YP : World → Heap → Prop} {d : DefRec} {K : Params → PySem.W.Frag} (hn : l.most = some 63) (hdf : d.params.defaults = [])
    (hY : ∀ (w : World) (h : Heap), YP w h → (K w.params).In h)
    (F : ∀ (w : World) (mg : Str → Option Value) (fa : Addr) (h : Heap), YP w h → (K w.params).In h → h.Ns mainGlobals mg → mg d.name = some (.ref fa) →
      ∃ T : Txt (K w.params) mg, fa = T.law.a ∧ (h.get? T.jP = some { cls := .none, data := .fields #[] } ∧ (K w.params).lookup T.jP = none ∧ PySem.W.CodeHd h T.jc T.jP)) :
    PySem.W.WalkO q loose XP YP l.row.toRowW d [] (fun f vs => PySem.call f vs) := by
  refine Att.attach_callB hn hdf fun w s₀ s₁ mg mb fa o pm cd doc a vs ns G Y ho hd hcd hmg hobj hints hlen hbits hg => ?_
  have KX := hY w _ Y
  obtain ⟨T, rfl, h_j⟩ := F w mg fa _ Y KX G.T.g hmg
  refine law_run (ts := [(T.jc, T.jP)]) KX G.T.g G.T.b G.T.builtins G.T.nolimit hg (fun p hp => ?_) G.T.bmain hobj hints (Nat.le_trans hlen (by decide)) fun base H TB e0 hT hS => ?_
  · simp only [List.mem_cons, List.not_mem_nil, or_false] at hp
    rcases hp with rfl
    · exact h_j
  have htb : LamX.Tabs (jTs T) H := fun p hp => by
    simp only [List.mem_cons, List.not_mem_nil, or_false] at hp
    rcases hp with rfl
    · exact LamX.TabS.nil (hT (T.jc, T.jP) (List.mem_cons_self))
  obtain ⟨oc, od, kV, doc', pm', an, cdv, ct, osl, e, lk, hc⟩ := T.law.F.ex
  have hb := T.law.b s₁ [.ref a] KX rfl
  rw [e] at lk hb
  refine LamX.run_ofS (N := N_law) (ps := ["script"]) (k := 14) (us := [.ref a]) (vs := [.ref a]) lk hc sc_law ⟨rfl, by decide, by decide⟩ e0 hb (.cons rfl .nil) rfl fun hr' => ?_
  obtain ⟨t, h1, h2⟩ := law_body (w := w) (base := base) (E := E0) (outer := []) (Q := fun v _ => v = .bl true) T (TB (T.jc, T.jP) (List.mem_cons_self)) (cdv := cdv) (A := callerA) (s := s₁) rfl hr' hS hlen htb (fun _ => rfl)
  exact ⟨t, h1.nox, h2⟩
end Tt
open PySem PySem.W PyProof.Rows in
set_option maxRecDepth 100000 in
set_option maxHeartbeats 0 in
theorem PySem.Challenge.cw_tautrounds_k26_sums_judged_and_added_holds : PySem.Challenge.rw_tautrounds_k26_sums_judged_and_added.Holds := by
  w_on; o_law; k_head; (case hw => w_witness2)
  k_fill
  refine' Tt.walk_law (l := PySem.Challenge.rw_tautrounds_k26_sums_judged_and_added) rfl rfl (fun w h Y => PySem.W.km_in_of Y) ?F
  case F =>
    intro w mg fa h Y KX G hmg
    refine' Tt.all_mk KX G hmg ?hn0 ?ht0 ?a_RoundError ?k_RoundError ?q_RoundError ?ty_RoundError ?ga_RoundError ?gg_RoundError ?ex_RoundError ?hd_RoundError ?ca_RoundError ?mo_RoundError ?a_BadNumber ?x_BadNumber ?rv_BadNumber ?sa_BadNumber ?ty_BadNumber ?kc_BadNumber ?i_BadNumber ?t_BadNumber ?l_BadNumber ?c_BadNumber ?k_BadNumber ?nf_BadNumber ?ga_BadNumber ?gg_BadNumber ?ex_BadNumber ?hd_BadNumber ?ca_BadNumber ?mo_BadNumber ?a_BadSkin ?x_BadSkin ?rv_BadSkin ?sa_BadSkin ?ty_BadSkin ?kc_BadSkin ?i_BadSkin ?t_BadSkin ?l_BadSkin ?c_BadSkin ?k_BadSkin ?nf_BadSkin ?ga_BadSkin ?gg_BadSkin ?ex_BadSkin ?hd_BadSkin ?ca_BadSkin ?mo_BadSkin ?a_BadSum ?k_BadSum ?q_BadSum ?ty_BadSum ?ga_BadSum ?gg_BadSum ?ex_BadSum ?hd_BadSum ?ca_BadSum ?mo_BadSum ?a_is_number ?l_is_number ?c_is_number ?k_is_number ?a_is_within ?l_is_within ?c_is_within ?k_is_within ?a_is_tuple ?l_is_tuple ?c_is_tuple ?k_is_tuple ?a_is_list ?l_is_list ?c_is_list ?k_is_list ?a_is_row ?l_is_row ?c_is_row ?k_is_row ?a_Skin ?i_Skin ?fn_Skin ?l_Skin ?c_Skin ?k_Skin ?pg_Skin ?hd_Skin ?po_Skin ?sa_Skin ?mk_Skin ?kc_Skin ?ca_Skin ?mo_Skin ?n_Skin_row ?n_Skin_bands ?n_Skin_places ?a_check_skin ?l_check_skin ?c_check_skin ?k_check_skin ?a_is_end ?l_is_end ?c_is_end ?k_is_end ?a_least_turn ?l_least_turn ?c_least_turn ?k_least_turn ?a_is_any_word ?l_is_any_word ?c_is_any_word ?k_is_any_word ?a_has_letters ?l_has_letters ?c_has_letters ?k_has_letters ?a_cut_free ?l_cut_free ?c_cut_free ?k_cut_free ?a_closed_letters ?l_closed_letters ?c_closed_letters ?k_closed_letters ?a_closed_up ?l_closed_up ?c_closed_up ?k_closed_up ?a_is_fit_round ?l_is_fit_round ?c_is_fit_round ?k_is_fit_round ?a_is_number_of_sum ?l_is_number_of_sum ?c_is_number_of_sum ?k_is_number_of_sum ?a_is_fit_sum ?l_is_fit_sum ?c_is_fit_sum ?k_is_fit_sum ?a_is_sum ?l_is_sum ?c_is_sum ?k_is_sum ?a_check_sum ?l_check_sum ?c_check_sum ?k_check_sum ?a_put_together ?l_put_together ?c_put_together ?k_put_together ?a_times_rows ?l_times_rows ?c_times_rows ?k_times_rows ?a_added ?l_added ?c_added ?k_added ?a_weight ?l_weight ?c_weight ?k_weight ?a_l_begun ?l_l_begun ?c_l_begun ?k_l_begun ?a_l_mixed ?l_l_mixed ?c_l_mixed ?k_l_mixed ?a_l_take ?l_l_take ?c_l_take ?k_l_take ?a_l_pick ?l_l_pick ?c_l_pick ?k_l_pick ?a_l_shuffled ?l_l_shuffled ?c_l_shuffled ?k_l_shuffled ?a_l_caught ?l_l_caught ?c_l_caught ?k_l_caught ?a_l_row ?l_l_row ?c_l_row ?k_l_row ?a_l_freed ?l_l_freed ?c_l_freed ?k_l_freed ?a_l_turn ?l_l_turn ?c_l_turn ?k_l_turn ?a_l_round ?l_l_round ?c_l_round ?k_l_round ?a_l_word ?l_l_word ?c_l_word ?k_l_word ?a_l_any_round ?l_l_any_round ?c_l_any_round ?k_l_any_round ?a_l_put ?l_l_put ?c_l_put ?k_l_put ?a_l_kept ?l_l_kept ?c_l_kept ?k_l_kept ?a_l_same_dict ?l_l_same_dict ?c_l_same_dict ?k_l_same_dict ?a_l_weight ?l_l_weight ?c_l_weight ?k_l_weight ?a_l_unlike_rounds ?l_l_unlike_rounds ?c_l_unlike_rounds ?k_l_unlike_rounds ?a_l_numbered ?l_l_numbered ?c_l_numbered ?k_l_numbered ?a_l_bent ?l_l_bent ?c_l_bent ?k_l_bent ?a_l_judged ?l_l_judged ?c_l_judged ?k_l_judged ?a_l_added_right ?l_l_added_right ?c_l_added_right ?k_l_added_right ?a_l_refused ?l_l_refused ?c_l_refused ?k_l_refused ?a_law ?l_law ?c_law ?k_law ?zabs ?zall ?zdict ?zint ?zisinstance ?zlen ?zlist ?zmax ?zmin ?zrange ?zrepr ?zsorted ?zsum ?ztuple ?ztype ?c_MOST_IN_ROUND ?c_MOST_IN_SUM ?c_MOST_NUMBER ?kSS ?kST ?kSN ?kSI ?kSY ?kSkSk ?sSR ?kUU ?sUR ?kNN ?sNR ?kDD ?tgj ?tcj ?njj
    (case hn0 => k_is)
    (case ht0 => k_is)
    (case a_RoundError => k_is)
    (case k_RoundError => k_is)
    (case q_RoundError => k_exc)
    (case ty_RoundError => k_is)
    (case ga_RoundError => k_is)
    (case gg_RoundError => k_is)
    (case ex_RoundError => k_is)
    (case hd_RoundError => k_is)
    (case ca_RoundError => k_is)
    (case mo_RoundError => k_is)
    (case a_BadNumber => k_is)
    (case x_BadNumber => k_is)
    (case rv_BadNumber => decide +kernel)
    (case sa_BadNumber => k_is)
    (case ty_BadNumber => k_is)
    (case kc_BadNumber => k_is)
    (case i_BadNumber => k_is)
    (case t_BadNumber => k_is)
    (case l_BadNumber => k_is)
    (case c_BadNumber => k_is)
    (case k_BadNumber => k_is)
    (case nf_BadNumber => k_is)
    (case ga_BadNumber => k_is)
    (case gg_BadNumber => k_is)
    (case ex_BadNumber => k_is)
    (case hd_BadNumber => k_is)
    (case ca_BadNumber => k_is)
    (case mo_BadNumber => k_is)
    (case a_BadSkin => k_is)
    (case x_BadSkin => k_is)
    (case rv_BadSkin => decide +kernel)
    (case sa_BadSkin => k_is)
    (case ty_BadSkin => k_is)
    (case kc_BadSkin => k_is)
    (case i_BadSkin => k_is)
    (case t_BadSkin => k_is)
    (case l_BadSkin => k_is)
    (case c_BadSkin => k_is)
    (case k_BadSkin => k_is)
    (case nf_BadSkin => k_is)
    (case ga_BadSkin => k_is)
    (case gg_BadSkin => k_is)
    (case ex_BadSkin => k_is)
    (case hd_BadSkin => k_is)
    (case ca_BadSkin => k_is)
    (case mo_BadSkin => k_is)
    (case a_BadSum => k_is)
    (case k_BadSum => k_is)
    (case q_BadSum => k_exc)
    (case ty_BadSum => k_is)
    (case ga_BadSum => k_is)
    (case gg_BadSum => k_is)
    (case ex_BadSum => k_is)
    (case hd_BadSum => k_is)
    (case ca_BadSum => k_is)
    (case mo_BadSum => k_is)
    (case a_is_number => k_is)
    (case l_is_number => k_is)
    (case c_is_number => k_is)
    (case k_is_number => k_is)
    (case a_is_within => k_is)
    (case l_is_within => k_is)
    (case c_is_within => k_is)
    (case k_is_within => k_is)
    (case a_is_tuple => k_is)
    (case l_is_tuple => k_is)
    (case c_is_tuple => k_is)
    (case k_is_tuple => k_is)
    (case a_is_list => k_is)
    (case l_is_list => k_is)
    (case c_is_list => k_is)
    (case k_is_list => k_is)
    (case a_is_row => k_is)
    (case l_is_row => k_is)
    (case c_is_row => k_is)
    (case k_is_row => k_is)
    (case a_Skin => k_is)
    (case i_Skin => k_is)
    (case fn_Skin => k_is)
    (case l_Skin => k_is)
    (case c_Skin => k_is)
    (case k_Skin => k_is)
    (case pg_Skin => k_is)
    (case hd_Skin => k_is)
    (case po_Skin => k_is)
    (case sa_Skin => k_is)
    (case mk_Skin => k_is)
    (case kc_Skin => k_is)
    (case ca_Skin => k_is)
    (case mo_Skin => k_is)
    (case n_Skin_row => k_is)
    (case n_Skin_bands => k_is)
    (case n_Skin_places => k_is)
    (case a_check_skin => k_is)
    (case l_check_skin => k_is)
    (case c_check_skin => k_is)
    (case k_check_skin => k_is)
    (case a_is_end => k_is)
    (case l_is_end => k_is)
    (case c_is_end => k_is)
    (case k_is_end => k_is)
    (case a_least_turn => k_is)
    (case l_least_turn => k_is)
    (case c_least_turn => k_is)
    (case k_least_turn => k_is)
    (case a_is_any_word => k_is)
    (case l_is_any_word => k_is)
    (case c_is_any_word => k_is)
    (case k_is_any_word => k_is)
    (case a_has_letters => k_is)
    (case l_has_letters => k_is)
    (case c_has_letters => k_is)
    (case k_has_letters => k_is)
    (case a_cut_free => k_is)
    (case l_cut_free => k_is)
    (case c_cut_free => k_is)
    (case k_cut_free => k_is)
    (case a_closed_letters => k_is)
    (case l_closed_letters => k_is)
    (case c_closed_letters => k_is)
    (case k_closed_letters => k_is)
    (case a_closed_up => k_is)
    (case l_closed_up => k_is)
    (case c_closed_up => k_is)
    (case k_closed_up => k_is)
    (case a_is_fit_round => k_is)
    (case l_is_fit_round => k_is)
    (case c_is_fit_round => k_is)
    (case k_is_fit_round => k_is)
    (case a_is_number_of_sum => k_is)
    (case l_is_number_of_sum => k_is)
    (case c_is_number_of_sum => k_is)
    (case k_is_number_of_sum => k_is)
    (case a_is_fit_sum => k_is)
    (case l_is_fit_sum => k_is)
    (case c_is_fit_sum => k_is)
    (case k_is_fit_sum => k_is)
    (case a_is_sum => k_is)
    (case l_is_sum => k_is)
    (case c_is_sum => k_is)
    (case k_is_sum => k_is)
    (case a_check_sum => k_is)
    (case l_check_sum => k_is)
    (case c_check_sum => k_is)
    (case k_check_sum => k_is)
    (case a_put_together => k_is)
    (case l_put_together => k_is)
    (case c_put_together => k_is)
    (case k_put_together => k_is)
    (case a_times_rows => k_is)
    (case l_times_rows => k_is)
    (case c_times_rows => k_is)
    (case k_times_rows => k_is)
    (case a_added => k_is)
    (case l_added => k_is)
    (case c_added => k_is)
    (case k_added => k_is)
    (case a_weight => k_is)
    (case l_weight => k_is)
    (case c_weight => k_is)
    (case k_weight => k_is)
    (case a_l_begun => k_is)
    (case l_l_begun => k_is)
    (case c_l_begun => k_is)
    (case k_l_begun => k_is)
    (case a_l_mixed => k_is)
    (case l_l_mixed => k_is)
    (case c_l_mixed => k_is)
    (case k_l_mixed => k_is)
    (case a_l_take => k_is)
    (case l_l_take => k_is)
    (case c_l_take => k_is)
    (case k_l_take => k_is)
    (case a_l_pick => k_is)
    (case l_l_pick => k_is)
    (case c_l_pick => k_is)
    (case k_l_pick => k_is)
    (case a_l_shuffled => k_is)
    (case l_l_shuffled => k_is)
    (case c_l_shuffled => k_is)
    (case k_l_shuffled => k_is)
    (case a_l_caught => k_is)
    (case l_l_caught => k_is)
    (case c_l_caught => k_is)
    (case k_l_caught => k_is)
    (case a_l_row => k_is)
    (case l_l_row => k_is)
    (case c_l_row => k_is)
    (case k_l_row => k_is)
    (case a_l_freed => k_is)
    (case l_l_freed => k_is)
    (case c_l_freed => k_is)
    (case k_l_freed => k_is)
    (case a_l_turn => k_is)
    (case l_l_turn => k_is)
    (case c_l_turn => k_is)
    (case k_l_turn => k_is)
    (case a_l_round => k_is)
    (case l_l_round => k_is)
    (case c_l_round => k_is)
    (case k_l_round => k_is)
    (case a_l_word => k_is)
    (case l_l_word => k_is)
    (case c_l_word => k_is)
    (case k_l_word => k_is)
    (case a_l_any_round => k_is)
    (case l_l_any_round => k_is)
    (case c_l_any_round => k_is)
    (case k_l_any_round => k_is)
    (case a_l_put => k_is)
    (case l_l_put => k_is)
    (case c_l_put => k_is)
    (case k_l_put => k_is)
    (case a_l_kept => k_is)
    (case l_l_kept => k_is)
    (case c_l_kept => k_is)
    (case k_l_kept => k_is)
    (case a_l_same_dict => k_is)
    (case l_l_same_dict => k_is)
    (case c_l_same_dict => k_is)
    (case k_l_same_dict => k_is)
    (case a_l_weight => k_is)
    (case l_l_weight => k_is)
    (case c_l_weight => k_is)
    (case k_l_weight => k_is)
    (case a_l_unlike_rounds => k_is)
    (case l_l_unlike_rounds => k_is)
    (case c_l_unlike_rounds => k_is)
    (case k_l_unlike_rounds => k_is)
    (case a_l_numbered => k_is)
    (case l_l_numbered => k_is)
    (case c_l_numbered => k_is)
    (case k_l_numbered => k_is)
    (case a_l_bent => k_is)
    (case l_l_bent => k_is)
    (case c_l_bent => k_is)
    (case k_l_bent => k_is)
    (case a_l_judged => k_is)
    (case l_l_judged => k_is)
    (case c_l_judged => k_is)
    (case k_l_judged => k_is)
    (case a_l_added_right => k_is)
    (case l_l_added_right => k_is)
    (case c_l_added_right => k_is)
    (case k_l_added_right => k_is)
    (case a_l_refused => k_is)
    (case l_l_refused => k_is)
    (case c_l_refused => k_is)
    (case k_l_refused => k_is)
    (case a_law => k_is)
    (case l_law => k_is)
    (case c_law => k_is)
    (case k_law => k_is)
    (case zabs => k_is)
    (case zall => k_is)
    (case zdict => k_is)
    (case zint => k_is)
    (case zisinstance => k_is)
    (case zlen => k_is)
    (case zlist => k_is)
    (case zmax => k_is)
    (case zmin => k_is)
    (case zrange => k_is)
    (case zrepr => k_is)
    (case zsorted => k_is)
    (case zsum => k_is)
    (case ztuple => k_is)
    (case ztype => k_is)
    (case c_MOST_IN_ROUND => k_is)
    (case c_MOST_IN_SUM => k_is)
    (case c_MOST_NUMBER => k_is)
    (case kSS => kit_is)
    (case kST => kit_is)
    (case kSN => kit_is)
    (case kSI => kit_is)
    (case kSY => kit_is)
    (case kSkSk => kit_is)
    (case sSR => k_is)
    (case kUU => kit_is)
    (case sUR => k_is)
    (case kNN => kit_is)
    (case sNR => k_is)
    (case kDD => kit_is)
    (case tgj => exact PySem.W.km_tabs_of Y _ (List.mem_cons_self))
    (case tcj => exact PySem.W.codeHd_of_K KX (by kernel_rfl))
    (case njj => first | kernel_rfl | rfl)
