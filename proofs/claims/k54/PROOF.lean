import PyProof.Rows.All
import Wide.All
import OpenK.AllK
import Wide.FinOn
import HandS.ForMost
import HandS.ForExc
import HandS.More
import HandS.TupAny
import HandS.Conv
import HandS.Style
import HandS.Strs
import HandS.SortInts
import HandS.Sort
import HandS.DeepEq
import HandS.RaiseMore
import HandS.Lambda
import HandS.EndTab
import HandS.IsInst
import HandS.ExcIs
import HandS.ExcField
import HandS.ExcInit
import HandS.ExcValue
import HandS.CallLocal
import HandS.CallSlots
import HandS.Nested
import PyProof.ReprRoads
import PyProof.ReprLen
import HandS.SlotsOwn
import HandS.Defaults
import HandS.WordsExc
import KE.DataMinMax
import KE.SortData
import PyProof.SumAny
import KE.GoesMore
import HandS.Iter
import HandS.Walk
import KE.KTupSum
import HandS.DictTup
import HandS.DictSubView
import KE.KDictSum
import HandS.DictComp
import KE.KDictPairs
import PyProof.CallFns
import HandS.TupLen
import PyProof.Rows.TupDisplay
import PySem.Challenge.RW_tautrounds_k54_texts_of_words_and_skins
import HandS.Text
import PyProof.ListStr
import PyProof.StrOps2
import HandS.TupMul
import HandS.Deep
import HandS.EndBits
import KE.KNest
import KE.KNestM
import KE.RegKIsAll
set_option Elab.async false
set_option linter.all false
set_option maxRecDepth 100000
set_option maxHeartbeats 4000000
namespace SrtO
open PySem PyProof.Rows Srt
section
variable {prog : Program} {w : World} {A : Around} {E : Value → Shared → Prop} {s : Shared}
theorem tt_collect_tup {l : Addr} {vs : List Value} {Q : List Value → Shared → Prop} (hl : IsTup s.heap l vs.toArray)
    (h : Q vs { s with heap := (s.heap.push (seqObj "list" #[] 0)).update s.heap.objs.size (Obj.mapSeq (· ++ vs.toArray)) }) (hsz : vs.length ≤ sizeLine) :
    wpAny (model prog w) A (collect (.ref l)) Q E s := by
  obtain ⟨o, ho, hc, n, hd⟩ := id hl
  unfold collect
  refine wpAny_bind (wpAny_runValue (codeAny_builtin entry_proto_collect' ?_))
  show wpAny _ _ (do again (.builtin "list.__iadd__" ⟨[← newList [], .ref l], []⟩)) _ _ s
  refine wpAny_bind (wpAny_newList (wpAny_pure ⟨Code.quiet_builtin _ (by decide +kernel), codeAny_builtin entry_list_iadd' ?_⟩))
  show wpAny _ _ (Builtin.List.listExtendWith (.ref s.heap.objs.size) (.ref l) (.ref s.heap.objs.size)) _ _ { s with heap := s.heap.push (seqObj "list" #[] 0) }
  unfold Builtin.List.listExtendWith
  have ho' : (s.heap.push (seqObj "list" #[] 0)).get? l = some o := Heap.get?_push_of_some _ ho
  refine wpAny_bind (wpAny_typeOf (T := "tuple") ⟨o, ho', hc⟩ ?_)
  have ht : (Value.type "tuple" == Value.type "tuple") = true := by rfl
  rw [if_pos (by rw [ht]; simp)]
  refine wpAny_bind (listItems_at ho' hd ?_)
  refine wpAny_bind (listItems_at (xs := #[]) (n := 0) (Heap.get?_push_size _ rfl) rfl ?_)
  rw [if_neg (by simp)]
  refine wpAny_bind (listUpdate_at (xs := #[]) (n := 0) (Heap.get?_push_size _ rfl) rfl ?_ (Nat.zero_le _) (by show (#[] ++ vs.toArray).size ≤ sizeLine + 1; simp only [Array.size_append, List.size_toArray, List.length_nil]; omega))
  refine wpAny_pure ?_
  show wpAny (model prog w) A (do
      let o ← load s.heap.objs.size
      match o.data with
      | .seq xs _ => pure xs.toList
      | _ => unsupported "internal:collect") Q E { s with heap := (s.heap.push (seqObj "list" #[] 0)).update s.heap.objs.size (Obj.mapSeq (· ++ vs.toArray)) }
  refine wpAny_bind (wpAny_load (get?_update_seq (Heap.get?_push_size _ rfl) _) ?_)
  show wpAny _ _ (pure ((#[] : Array Value) ++ vs.toArray).toList) Q E _
  rw [show ((#[] : Array Value) ++ vs.toArray).toList = vs by simp]
  exact wpAny_pure h
theorem tt_sorted_tup {l : Addr} {vs : List Value} {ltv : Value → Value → Bool} {Q : Value → Shared → Prop} (O : Swo ltv) (hl : IsTup s.heap l vs.toArray) (hz : vs.length ≤ sizeLine)
    (hS : 2 ≤ vs.length → ∀ (h₁ : Heap) (a : Addr), h₁.get? a = some (seqObj "list" vs.toArray 0) → (∀ b o, s.heap.get? b = some o → b ≠ a ∧ h₁.get? b = some o) → SortableO prog w A.in1.in1 { s with heap := h₁ } a vs ltv)
    (h : ∀ out : List Value, Srtd ltv out → Stb ltv out vs → Q (.ref (s.heap.objs.size + 1)) { s with heap := sortedAll s.heap vs out.toArray }) :
    wpAny (model prog w) A (call (.builtin "sorted") [.ref l]) Q E s := by
  refine Calls.call_function_entry kind_sorted plain_sorted entry_sorted (args_sorted1 _) ?_
  unfold Builtin.«sorted»
  refine wpAny_bind (m := checkCount "sorted" 1 1 _) (wpAny_pure ?_)
  refine wpAny_bind (tt_collect_tup hl ?_ hz)
  refine wpAny_bind (wpAny_newList ?_ hz)
  have hsz : ((s.heap.push (seqObj "list" #[] 0)).update s.heap.objs.size (Obj.mapSeq (· ++ vs.toArray))).objs.size = s.heap.objs.size + 1 := by
    rw [Heap.size_update, size_push']
  have hoL : (((s.heap.push (seqObj "list" #[] 0)).update s.heap.objs.size (Obj.mapSeq (· ++ vs.toArray))).push (seqObj "list" vs.toArray 0)).get? (s.heap.objs.size + 1) = some (seqObj "list" vs.toArray 0) := by
    rw [← hsz]; exact Heap.get?_push_size _ rfl
  have keep : ∀ b o, s.heap.get? b = some o → b ≠ s.heap.objs.size + 1 ∧ (((s.heap.push (seqObj "list" #[] 0)).update s.heap.objs.size (Obj.mapSeq (· ++ vs.toArray))).push (seqObj "list" vs.toArray 0)).get? b = some o := fun b o q => by
    have hlt : b < s.heap.objs.size := Heap.lt_size q
    refine ⟨Nat.ne_of_lt (Nat.lt_succ_of_lt hlt), Heap.get?_push_of_some _ ?_⟩
    rw [Heap.get?_update_ne _ _ _ _ (Nat.ne_of_lt hlt)]
    exact Heap.get?_push_of_some _ q
  show wpAny _ _ _ _ _ { s with heap := ((s.heap.push (seqObj "list" #[] 0)).update s.heap.objs.size (Obj.mapSeq (· ++ vs.toArray))).push (seqObj "list" vs.toArray 0) }
  rw [hsz]
  refine wpAny_bind (wpAny_holding (wpAny_call_entry slot_list_sort ⟨_, hoL, rfl⟩ entry_list_sort (list_sort_ord O hoL hz (fun h2 => hS h2 _ _ hoL keep) fun out hs hb => ⟨_, rfl, ?_⟩) (args_list_sort _)))
  exact wpAny_pure ⟨_, rfl, h out hs hb⟩
end
end SrtO
namespace L2
open PySem PySem.Spec PyProof.Rows
section
variable {X : Cx}
def rSortedIT (K : PySem.W.Frag) : List V → Hp → VK → Prop := fun vs H Q => ∃ (a : Addr) (ns : List Int), vs = [V.ref a] ∧ SqT K H a (ns.map V.int) ∧
  ∀ (ns' : List Int) (p : Addr), ns'.Perm ns → ns'.Pairwise (· ≤ ·) → H p = none → Q (.ref p) (upd H p (.lst (ns'.map V.int)))
theorem cr_sortedIT : CallR X (.builtin "sorted") (rSortedIT X.K) := by
  intro pins s σ H vs us Q I r h
  obtain ⟨a, ns, rfl, hs, q⟩ := h
  obtain ⟨its, rv, hl, hz⟩ := I.tuple hs
  rw [Vals.ref1 r]
  have hi := rv.ints
  refine SrtO.tt_sorted_tup SrtO.swo_int hl (by rw [← rv.length]; exact hz) (fun h2 h₁ a' _ _ => SrtO.ints_sortable hi h2) fun out h1 h2 => ?_
  obtain ⟨k1, k2, k3⟩ := SrtO.ints_out hi h1 h2
  obtain ⟨ep, he'⟩ := PyProof.Rows.sortedAll_at s.heap its out.toArray
  have hlen : ((out.map SrtO.iv).map V.int).length ≤ sizeLine := by
    rw [List.length_map, k2.length_eq]
    rw [List.length_map] at hz
    exact hz
  exact ⟨.ref _, upd H (s.heap.objs.size + 1) (.lst ((out.map SrtO.iv).map V.int)), I.laid (t' := s.toks) (fun _ _ => PyProof.Rows.sortedAll_old) (Nat.le_succ _) ⟨hlen, out, ep, vals_of_ints k1, he'⟩, rfl, q _ _ k2 k3 (I.hok.fresh (Nat.le_succ _))⟩
def rSortedS2 (K : PySem.W.Frag) : List V → Hp → VK → Prop := fun vs H Q => rSortedI K vs H Q ∨ rSortedIT K vs H Q
theorem cr_sortedS2 : CallR X (.builtin "sorted") (rSortedS2 X.K) := by
  intro pins s σ H vs us Q I r h
  rcases h with h | h
  · exact cr_sortedI pins s σ H vs us Q I r h
  · exact cr_sortedIT pins s σ H vs us Q I r h
theorem mt_tup_indexI : MtR X "tuple.index" (fun x xs H Q => ∃ p, ∃ ys : List Int, ∃ z j, x = .ref p ∧ xs = [.int z] ∧ SqT X.K H p (ys.map V.int) ∧ ys[j]? = some z ∧ (∀ m, m < j → ys[m]? ≠ some z) ∧ Q (.int (j : Nat)) H) := by
  intro pins s σ H x xs v us Q I rx rs h
  obtain ⟨p, ys, z, j, rfl, rfl, hq, hy, hno, q⟩ := h
  cases rx
  obtain ⟨u, rfl, t, rfl⟩ := vals1 rs
  obtain ⟨its, r, pl, hz⟩ := I.tuple hq
  obtain ⟨⟨cls, dd, dt, sl⟩, ho, hc, n, hd⟩ := pl
  simp only at hc hd
  subst hc
  subst hd
  have hl : its.toArray.size = ys.length := by rw [List.size_toArray, ← r.length, List.length_map]
  have hj : j < its.toArray.size := by rw [hl]; exact (List.getElem?_eq_some_iff.mp hy).1
  have at' : ∀ (m : Nat) (hm : m < its.toArray.size), ∃ y t', ys[m]? = some y ∧ its.toArray[m] = Value.int y t' := fun m hm => by
    have hm' : m < ys.length := by rw [← hl]; exact hm
    obtain ⟨w, hw, t', hw'⟩ := r.get (i := m) (x := .int ys[m]) (by simp [hm'])
    refine ⟨ys[m], t', List.getElem?_eq_getElem hm', ?_⟩
    have e := (List.getElem?_eq_some_iff.mp hw).2
    rw [← hw', ← e]
    simp
  have flat : ∀ ys : List Int, (ys.map V.int).all flatV = true := fun ys => by
    induction ys with
    | nil => rfl
    | cons a b ih => rw [List.map_cons, List.all_cons, ih]; rfl
  refine call_meets PySem.F.slot_tuple_index ⟨_, ho, rfl⟩ PySem.F.entry_tuple_index (PySem.F.args_tuple_index_2 _ _) (TI.tuple_indexAt p its.toArray n dd sl (.int z t) (eqU (.int z)) j hj ?_ ?_)
    ⟨ho, fun w hw => mem_eqAt (x := .int z) ⟨t, rfl⟩ rfl r (flat ys) w (by simpa using hw), ⟨.int (j : Nat), H, I.tok _, ⟨_, rfl⟩, q⟩⟩
  · obtain ⟨y, t', h1, h2⟩ := at' j hj
    rw [hy] at h1
    cases h1
    rw [h2]
    show (z == z) = true
    exact beq_self_eq_true z
  · intro m hm hmj
    obtain ⟨y, t', h1, h2⟩ := at' m hm
    rw [h2]
    show (y == z) = false
    exact beq_eq_false_iff_ne.mpr fun e => hno m hmj (by rw [h1, e])
end
end L2
set_option maxRecDepth 100000
set_option maxHeartbeats 4000000
namespace HT
open PySem PySem.Spec PyProof.Rows
section
variable {prog : Program} {w : World} {A : Around} {E : Value → Shared → Prop} {s : Shared}
theorem tt_adjust_rev (n : Nat) : Builtin.Slice.sliceAdjust none none (-1) (n : Int) = ((n : Int) - 1, -1) := by
  unfold Builtin.Slice.sliceAdjust
  simp only [show (-1 : Int) < 0 by decide, if_true]
theorem tt_places_rev (n : Nat) : Builtin.Slice.slicePlaces ((n : Int) - 1) (-1) (-1) = n := by
  unfold Builtin.Slice.slicePlaces
  simp only [show ¬ ((-1 : Int) > 0) by decide, if_false, Int.neg_neg, Int.ediv_one]
  split <;> omega
theorem tt_applied_rev {sl : Addr} {vs : Value} {n : Nat} {Q : Int × Int × Nat → Shared → Prop} (hs : s.heap.IsSliceOf sl .none .none vs) (ps : IsPart vs (some (-1)))
    (h : Q ((n : Int) - 1, -1, n) s) : wpAny (model prog w) A (Builtin.Slice.sliceApplied (.ref sl) (pure (n : Int))) Q E s := by
  obtain ⟨os, hos, hcs, hds⟩ := id hs
  unfold Builtin.Slice.sliceApplied Builtin.Slice.sliceFields
  refine wpAny_bind (wpAny_bind (wpAny_field hos hds (x := .none) rfl (wpAny_bind (wpAny_field hos hds (x := .none) rfl (wpAny_bind (wpAny_field hos hds (x := vs) rfl (wpAny_pure ?_)))))))
  refine wpAny_bind (slicePart_ ps ?_)
  show wpAny _ _ (if ((-1 : Int) == 0) = true then _ else _) _ _ s
  rw [if_neg (by decide)]
  refine wpAny_bind (slicePart_ .none (wpAny_bind (slicePart_ .none (wpAny_bind (wpAny_pure ?_)))))
  show wpAny _ _ (match Builtin.Slice.sliceAdjust none none (-1) (n : Int) with | (lo, hi) => pure (lo, (-1 : Int), Builtin.Slice.slicePlaces lo hi (-1))) _ _ s
  rw [tt_adjust_rev n]
  show wpAny _ _ (pure ((n : Int) - 1, (-1 : Int), Builtin.Slice.slicePlaces ((n : Int) - 1) (-1) (-1))) _ _ s
  rw [tt_places_rev n]
  exact wpAny_pure h
theorem tt_fm {α β : Type} {f g : α → Option β} : ∀ {l : List α}, (∀ x ∈ l, f x = g x) → l.filterMap f = l.filterMap g
  | [], _ => rfl
  | a :: l, h => by
    rw [List.filterMap_cons, List.filterMap_cons, h a List.mem_cons_self, tt_fm fun x hx => h x (List.mem_cons_of_mem _ hx)]
theorem tt_pick_rev (xs : Array Value) : ((List.range xs.size).filterMap fun (m : Nat) => xs[(((xs.size : Int) - 1) + (m : Int) * (-1)).toNat]?).toArray = xs.toList.reverse.toArray := by
  have e : (List.range xs.size).filterMap (fun (m : Nat) => xs[(((xs.size : Int) - 1) + (m : Int) * (-1)).toNat]?) = xs.toList.reverse := by
    have h1 : ∀ m ∈ List.range xs.size, xs[(((xs.size : Int) - 1) + (m : Int) * (-1)).toNat]? = some (xs.toList.reverse.getD m .none) := fun m hm => by
      have hm := List.mem_range.mp hm
      have e1 : (((xs.size : Int) - 1) + (m : Int) * (-1)).toNat = xs.size - 1 - m := by omega
      rw [e1, List.getD_eq_getElem?_getD, List.getElem?_reverse (by simpa using hm)]
      have e2 : xs.size - 1 - m < xs.size := by omega
      simp [e2]
    have h2 : (List.range xs.size).filterMap (fun (m : Nat) => xs[(((xs.size : Int) - 1) + (m : Int) * (-1)).toNat]?) = (List.range xs.size).map fun m => xs.toList.reverse.getD m .none := by
      rw [← List.filterMap_eq_map]
      exact tt_fm h1
    rw [h2]
    refine List.ext_getElem? fun i => ?_
    rw [List.getElem?_map]
    by_cases hi : i < xs.size
    · rw [List.getElem?_range hi]
      have : i < xs.toList.reverse.length := by simpa using hi
      rw [List.getElem?_eq_getElem this]
      simp [List.getD_eq_getElem?_getD, List.getElem?_eq_getElem this]
    · rw [List.getElem?_eq_none (by simpa using hi), List.getElem?_eq_none (by simpa using hi)]
      rfl
  rw [e]
theorem tt_getItem_tuple_rev {t sl : Addr} {items : Array Value} {vs : Value} {Q : Value → Shared → Prop} (ht : IsTup s.heap t items) (hs : s.heap.IsSliceOf sl .none .none vs) (ps : IsPart vs (some (-1)))
    (h : Q (.ref s.heap.objs.size) { s with heap := s.heap.push { cls := .type "tuple", data := .seq items.toList.reverse.toArray } })
    (hsz : items.size ≤ sizeLine) : wpAny (model prog w) A (getItem (.ref t) (.ref sl)) Q E s := by
  have htake : sizeOk (.seq items.toList.reverse.toArray) := by
    show items.toList.reverse.toArray.size ≤ sizeLine
    rw [List.size_toArray, List.length_reverse, Array.length_toList]
    exact hsz
  obtain ⟨os, hos, hcs, hds⟩ := id hs
  have hTs : s.TypeIs (.ref sl) "slice" := ⟨os, hos, hcs⟩
  unfold getItem
  try with_reducible refine wpAny_holding ?_
  first | refine wpAny_bind (wpAny_pure ?_) | skip
  refine wpAny_bind (wpAny_sequenceKey ht.typeIs (by decide) ?_)
  refine wpAny_bind (wpAny_callSpecial?_slot (name := Str.ofString "__getitem__") ht.typeIs PyProof.Rows.slot_tuple_getitem
    (wpAny_call_entry PyProof.Rows.slot_tuple_getitem ht.typeIs entry_tuple_getitem ?_ (args_tuple_getitem _ _)))
  show wpAny _ _ (Builtin.Tuple.tupleItemsOf (.ref t) >>= _) _ _ s
  refine wpAny_bind (tupleItemsOf_ ht ?_)
  refine wpAny_bind (wpAny_typeOf hTs ?_)
  rw [if_pos (by decide)]
  refine wpAny_bind (tt_applied_rev hs ps ?_)
  have hno : ¬ (((items.size : Int) - 1 == 0 && (-1 : Int) == 1 && items.size == items.size) = true) := by
    intro q
    rw [Bool.and_eq_true, Bool.and_eq_true] at q
    exact absurd q.1.2 (by decide)
  show wpAny _ _ (if ((items.size : Int) - 1 == 0 && (-1 : Int) == 1 && items.size == items.size) = true then _ else _) _ _ s
  rw [if_neg hno, tt_pick_rev]
  first
    | exact wpAny_bind (m := Builtin.Tuple.tupleExact _) (wpAny_newObj_type (wpAny_pure ⟨_, rfl, wpAny_pure h⟩) htake)
    | exact wpAny_bind (m := Builtin.Tuple.tupleExact _) (wpAny_newObj_type (wpAny_bind (wpAny_pure (wpAny_pure ⟨_, rfl, wpAny_pure h⟩))) htake)
    | exact wpAny_bind (wpAny_bind (m := Builtin.Tuple.tupleExact _) (wpAny_newObj_type (wpAny_pure (wpAny_pure ⟨_, rfl, wpAny_pure h⟩)) htake))
    | exact wpAny_bind (wpAny_bind (m := Builtin.Tuple.tupleExact _) (wpAny_newObj_type (wpAny_pure ⟨_, rfl, wpAny_pure h⟩) htake))
end
end HT
namespace L2
open PySem PySem.Spec PyProof.Rows
section
variable {X : Cx}
def tRevT (K : PySem.W.Frag) (te : TE) : TE := fun σ H Q => te σ H fun x H1 => ∃ a xs, x = .ref a ∧ SqT K H1 a xs ∧ ∀ p, H1 p = none → Q (.ref p) (upd H1 p (.tup xs.reverse))
theorem pe_revT {e : Expr} {te : TE} {k : Nat} {p1 p2 p3 pos : Pos} (he : PE X e te) : PE X (.Subscript e (.Slice none none (some (.UnaryOp .USub (.Constant (.int 1) k p1) p2)) p3) pos) (tRevT X.K te) := by
  refine ⟨fun pins s σ H Q I h => ?_⟩
  refine Subscript_ (thn (he.run pins s σ H _ I h) fun v s1 ⟨x, H1, I1, r1, q1⟩ => ?_)
  obtain ⟨a, xs, ex, hx, q⟩ := q1
  subst ex
  cases r1
  have hst : PO X (some (.UnaryOp .USub (.Constant (.int 1) k p1) p2)) (tPart (tUn (rU fun i => .int (-i)) (tC (.int 1)))) := po_some (pe_un un_neg pe_int)
  refine wpAny_Slice (wpAny_pure ?_)
  refine wpAny_pure ?_
  refine thn (hst.run pins s1 σ H1 (fun o H4 => o = some (-1) ∧ H4 = H1) I1 ⟨1, rfl, -1, rfl, rfl, rfl⟩) fun vs s4 ⟨o, H4, I4, ps, eo, e4⟩ => ?_
  subst eo e4
  have I5 : Inv X pins σ H4 { s4 with heap := s4.heap.push { cls := .type "slice", data := .fields #[.none, .none, vs] } } := I4.kept (t' := s4.toks) fun b ob q => Heap.get?_push_of_some _ q
  obtain ⟨its, r, ht, hz⟩ := I5.tuple hx
  have hlen := r.length
  show wpAny (model X.prog X.w) X.A (subscriptTail e (.Slice none none (some (.UnaryOp .USub (.Constant (.int 1) k p1) p2)) p3) (.ref a) (.ref s4.heap.objs.size)) (EP X pins σ Q) X.xe { s4 with heap := s4.heap.push { cls := .type "slice", data := .fields #[.none, .none, vs] } }
  refine tail_any (ops := [.ref a, .ref s4.heap.objs.size]) ht.typeIs (PyProof.Rows.slot_tuple_getitem.lookup) ?_ (by with_unfolding_all rfl)
  refine HT.tt_getItem_tuple_rev ht (Heap.IsSliceOf.new _ .none .none vs) ps ?_ (by rw [List.size_toArray]; omega)
  refine ⟨.ref _, _, I5.laid (t' := s4.toks) (o := .tup xs.reverse) (fun b ob q => Heap.get?_push_of_some _ q) (Nat.le_refl _) ?_, rfl, q _ (I5.hok.fresh (Nat.le_refl _))⟩
  exact ⟨by rw [List.length_reverse]; exact hz, _, r.reverse, IsTup.new _ _⟩
end
section
variable {X : Cx} {K : PySem.W.Frag}
theorem ix_listK (h : X.K = K) : IxR X (rIxL K) := by subst h; exact ix_list
theorem ix_tupK (h : X.K = K) : IxR X (rIxT K) := by subst h; exact ix_tup
theorem call_len_seqK (h : X.K = K) : CallR X (.builtin "len") (fun xs H Q => ∃ p ys, xs = [.ref p] ∧ (SqL K H p ys ∨ SqT K H p ys) ∧ Q (.int ys.length) H) := by subst h; exact call_len_seq
theorem op_in_seqK (h : X.K = K) : OpR X (compareOp .In) (rIn K false) := by subst h; exact op_in_seq
theorem op_notIn_seqK (h : X.K = K) : OpR X (compareOp .NotIn) (rIn K true) := by subst h; exact op_notIn_seq
theorem op_eqDK (h : X.K = K) (hu : X.A.units + 64 < cLine) : OpR X (compareOp .Eq) (rEqD K) := by subst h; exact op_eqD hu
theorem op_neDK (h : X.K = K) (hu : X.A.units + 64 < cLine) : OpR X (compareOp .NotEq) (rNeD K) := by subst h; exact op_neD hu
theorem op_catAK (h : X.K = K) : OpR X (binaryOp .Add) (rCatA K) := by subst h; exact op_catA
theorem sl_listK (h : X.K = K) : SlR X (rSlL K) := by subst h; exact sl_list
theorem sl_tupAK (h : X.K = K) : SlR X (rSlA K) := by subst h; exact sl_tupA
theorem call_tuple_ofK (h : X.K = K) : CallR X (.type "tuple") (fun xs H Q => ∃ p ys, xs = [.ref p] ∧ ((SqL K H p ys ∧ ∀ l, H l = none → Q (.ref l) (upd H l (.tup ys))) ∨ (SqT K H p ys ∧ Q (.ref p) H))) := by subst h; exact call_tuple_of
theorem call_list_ofK (h : X.K = K) : CallR X (.type "list") (fun xs H Q => ∃ p ys, xs = [.ref p] ∧ (SqL K H p ys ∨ SqT K H p ys) ∧ ∀ l, H l = none → Q (.ref l) (upd H l (.lst ys))) := by subst h; exact call_list_of
theorem call_type1K (h : X.K = K) : CallR X (.type "type") (rTyp K) := by subst h; exact call_type1
theorem pe_fldK {e : Expr} {ta : TE} {f : Str} {pos : Pos} (h : X.K = K) (he : PE X e ta) (hb : attributeBase e f X.env (eval e X.env) = eval e X.env) : PE X (.Attribute e f pos) (tFld K ta f) := by subst h; exact pe_fld he hb
theorem mt_tup_indexIK (h : X.K = K) : MtR X "tuple.index" (fun x xs H Q => ∃ p, ∃ ys : List Int, ∃ z j, x = .ref p ∧ xs = [.int z] ∧ SqT K H p (ys.map V.int) ∧ ys[j]? = some z ∧ (∀ m, m < j → ys[m]? ≠ some z) ∧ Q (.int (j : Nat)) H) := by subst h; exact mt_tup_indexI
theorem pe_bmK {T name id : String} {r : V → List V → Hp → VK → Prop} {o e : Expr} {es : List Expr} {to : TE} {t : TA} {apos cpos : Pos} (hk : X.K = K) (pa : PlainAttrs T) (slot : Slot T name id) (hty : typeOf (.builtin id) = pure (.type "method_descriptor")) (hm : MtR X id r) (ho : PE X o to) (ha : PA X (e :: es) t)
    (hbase : attributeBase o name X.env (eval o X.env) = eval o X.env := by rfl)
    (hfew : ((backTo cpos (starEach (e :: es) X.env)).all (fun x => !x.1) && (backToKw cpos (keywordEach [] X.env)).all (fun x => x.1.isSome)
      && decide ((e :: es).length + ([] : List Keyword).length + (if ([] : List Keyword).isEmpty then 0 else 1) < 30)) = true := by rfl)
    (hline : (apos.endLine == cpos.line) = true := by rfl) (hpl : (backTo cpos (starEach es X.env)).any (·.1) = false := by rfl) (hs : starEach (e :: es) X.env = (false, eval e X.env) :: starEach es X.env := by rfl) :
    PE X (.Call (.Attribute o name apos) (e :: es) [] cpos) (tBM K T r to t) := by
  subst hk
  first
    | exact pe_bm pa slot hty hm ho ha hbase hfew hline hpl hs
    | exact pe_bm pa slot hty hm ho ha hbase hfew hline hs hpl
    | exact pe_bm pa slot hty hm ho ha hbase hfew hline
    | exact pe_bm pa slot hty hm ho ha
end
end L2
set_option maxRecDepth 100000
set_option maxHeartbeats 4000000
namespace PySem.W
open PySem PySem.Spec PySem.Calls PyProof.Rows
section
variable {prog : Program} {w : World} {A : Around} {E : Value → Shared → Prop} {s : Shared} {K : Frag} {x D : Addr} {ox : Obj}
theorem tt_findObj_data {C : Addr} {od : Option Obj} {name : Str} {a g : Value} (hc : (clsIn K C).isSome = true) (ha : findIn K (.ref C) name = some (some a)) (hg : specialIn K a "__get__" = some (some g)) (ht : takesIn K a = some true) : findObj K C od name = some (.bind g a) := by
  obtain ⟨cd, hc⟩ := Option.isSome_iff_exists.mp hc
  unfold findObj
  rw [hc, Option.bind_some, ha, Option.bind_some]
  simp [hg, ht]
theorem tt_kin_classE {od : Option Obj} {Q : Option Value → Shared → Prop} (hga : findIn K (.ref D) "__getattribute__" = some (some (.builtin "BaseException.__getattribute__"))) (hgt : findIn K (.ref D) "__getattr__" = some none) (hsub : subIn K (.ref D) (.type "BaseException") = some true)
    (hdct : hasDictIn K D = true) (ha : findIn K (.ref D) "__class__" = some (some (.builtin "object.__class__")))
    (hn : specialIn K (.builtin "object.__class__") "__get__" = some (some (.builtin "getset_descriptor.__get__"))) (htk : takesIn K (.builtin "object.__class__") = some true) (hm : mroIn K D (.type "object") = some true)
    (X : K.In s.heap) (I : InstAt s.heap x ox D od) (h : Q (some (.ref D)) { s with toks := s.toks + 1 }) : wpAny (model prog w) A (getAttr? (.ref x) "__class__") Q E s := by
  have hf : findObj K D od "__class__" = some (.bind (.builtin "getset_descriptor.__get__") (.builtin "object.__class__")) := tt_findObj_data (by obtain ⟨cd, hc, _⟩ := any_some hdct; rw [hc]; rfl) ha hn htk
  obtain ⟨hp, g, d, t, os⟩ := s
  have L0 := I.type (M := model prog w)
  have L1 := looks_findIn (M := model prog w) X hga
  have L2 := looks_findIn (M := model prog w) X hgt
  have L3 := looks_find (M := model prog w) X I hf
  have sub : Looks (model prog w) hp (isInstance (.ref x) (.type "BaseException")) true := L0.andThen (looks_subIn X hsub)
  have hx0 : (false && onTheHeap (Value.builtin "BaseException.__getattribute__")) = false := rfl
  have hx2 : (Value.builtin "BaseException.__getattribute__" == Value.builtin "object.__getattribute__") = false := by decide +kernel
  have hx1 : (onTheHeap (Value.ref D) && Value.builtin "BaseException.__getattribute__" == Value.builtin "object.__getattribute__") = false := by rw [hx2]; rfl
  unfold getAttr? getAttrBy? getAttrBy
  refine wpAny_bind (wpAny_mkText (wpAny_bind (wpAny_attempt (wpAny_holding (wpAny_bind (L0.at (wpAny_bind (L1.at ?_))))))))
  show wpAny _ _ (if (onTheHeap (Value.ref D) && Value.builtin "BaseException.__getattribute__" == Value.builtin "object.__getattribute__") = true then _ else _) _ _ _
  rw [hx1, if_neg Bool.false_ne_true]
  unfold getAttrByItsOwn hookBefore
  refine wpAny_bind ?_
  rw [if_pos (show onTheHeap (Value.ref D) = true from rfl)]
  refine L2.at ?_
  refine wpAny_bind (wpAny_attempt (wpAny_holding ?_))
  unfold callGetattribute
  rw [hx0, if_neg Bool.false_ne_true]
  unfold boundAndCalled
  rw [PySem.F.excAttr_ValueError.ga.bind (.ref x)]
  refine wpAny_bind (wpAny_pure ?_)
  show wpAny _ _ (call (.builtin "BaseException.__getattribute__") [.ref x, .str "__class__" t]) _ _ _
  refine wpAny_call (codeAny_call_builtin PySem.F.excAttr_ValueError.ga.plain PySem.F.entry_bexc_ga ?_)
  refine @check_slot (model prog w) _ _ ⟨hp, g, d, t + 1, os⟩ "BaseException.__getattribute__" "BaseException" "__getattribute__" (.ref x) [.str "__class__" t] [] _ (by decide +kernel) (by decide +kernel) sub (PySem.F.args_bexc_ga (.ref x) (.str "__class__" t)) ?_
  unfold Builtin.«object.__getattribute__»
  refine wpAny_bind (wpAny_of_eq (a := ((Value.ref x : Value), [Value.str "__class__" t])) (by first | rfl | (simp only [slotArgs]; rfl)) ?_)
  refine wpAny_bind (wpAny_pure (wpAny_bind (L0.at (wpAny_bind (L3.at ?_)))))
  show wpAny _ _ (holding [Value.builtin "object.__class__"] (call (.builtin "getset_descriptor.__get__") [.builtin "object.__class__", .ref x, .ref D]) >>= ret) _ _ _
  refine wpAny_bind (wpAny_holding (wpAny_call (class_get (s := ⟨hp, g, d, t + 1, os⟩) (ox := ox) (od := od) X I hm ?_)))
  refine wpAny_pure ?_
  show wpAny _ _ (handedOut (.ref D)) _ _ _
  rw [handedOut_of (v := .ref D) rfl]
  first
    | exact wpAny_pure (wpAny_pure h)
    | exact wpAny_pure h
    | exact wpAny_pure (wpAny_bind (wpAny_pure (wpAny_pure h)))
theorem tt_kitx_exc {od : Option Obj} (hga : findIn K (.ref D) "__getattribute__" = some (some (.builtin "BaseException.__getattribute__"))) (hgt : findIn K (.ref D) "__getattr__" = some none) (hsub : subIn K (.ref D) (.type "BaseException") = some true) (hdct : hasDictIn K D = true) (ha : findIn K (.ref D) "__class__" = some (some (.builtin "object.__class__")))
    (hn : specialIn K (.builtin "object.__class__") "__get__" = some (some (.builtin "getset_descriptor.__get__"))) (htk : takesIn K (.builtin "object.__class__") = some true) (hm : mroIn K D (.type "object") = some true) :
    KitX K (.ref x) (.ref D) (fun h => InstAt h x ox D od) where
  ty := fun _ _ _ I => I.type
  it := fun _ _ X _ => by
    obtain ⟨cdD, hcD, _⟩ := any_some hdct
    unfold clsIn at hcD
    split at hcD
    · rename_i c' d' cd' sl' ho
      intro A' Q' E' s' k q
      unfold isType loadHead
      exact wpAny_bind (wpAny_loadPart (k _ _ (X _ _ ho)) (wpAny_pure q))
    · cases hcD
  ne := fun h tp dd its n sl X htp => by
    obtain ⟨cdD, hcD, _⟩ := any_some hdct
    refine Bool.eq_false_iff.mpr fun q => ?_
    have e : D = tp := Value.ref.inj (beq_iff_eq.mp q)
    subst e
    unfold clsIn at hcD
    split at hcD
    · rename_i c' d' cd' sl' ho
      have z := (X _ _ ho).symm.trans htp
      cases z
    · cases hcD
  ca := fun X I k => tt_kin_classE hga hgt hsub hdct ha hn htk hm X I k
end
end PySem.W
namespace L2
open PySem PySem.Spec PyProof.Rows
def exh (cls : Value) (d : Option Addr) (a : Addr) : HO := .ext fun h => ∃ (oe : Obj) (vs : Array Value), h.get? a = some oe ∧ Zc cls d oe ∧ oe.data = .fields vs
theorem exh_ok {P : Program} {w : World} {H : Hp} {h : Heap} {a : Addr} {cls : Value} {d : Option Addr} {oe : Obj} {vs : Array Value} (e : h.get? a = some oe) (z : Zc cls d oe) (hd : oe.data = .fields vs) : ObjOk P w H h a (exh cls d a) :=
  ⟨⟨oe, vs, e, z, hd⟩, ⟨oe, e⟩, fun _ _ ⟨o, v, q, r⟩ k => ⟨o, v, k o q, r⟩⟩
theorem exh_at {P : Program} {w : World} {H : Hp} {h : Heap} {a : Addr} {cls : Value} {d : Option Addr} (hok : HOk P w H h) (e : H a = some (exh cls d a)) : ∃ (oe : Obj) (vs : Array Value), h.get? a = some oe ∧ Zc cls d oe ∧ oe.data = .fields vs := by
  have x : ObjOk P w H h a (.ext fun h => ∃ (oe : Obj) (vs : Array Value), h.get? a = some oe ∧ Zc cls d oe ∧ oe.data = .fields vs) := hok a _ e
  exact x.1
def XdOk (H : Hp) (d : Option Addr) : Prop := d = none ∨ ∃ (dd : Addr) (fs : List (Str × V)), d = some dd ∧ H dd = some (.xd fs)
section
variable {X : Cx} {pins : List (Addr × Obj)} {σ : St} {H : Hp} {s : Shared}
theorem exh_inst {a D : Addr} {d : Option Addr} (I : Inv X pins σ H s) (e : H a = some (exh (.ref D) d a)) (hd : XdOk H d) : ∃ (oe : Obj) (od : Option Obj), PySem.W.InstAt s.heap a oe D od := by
  obtain ⟨⟨oc, odc, oda, osl⟩, vs, h1, ⟨h2, h3⟩, h4⟩ := exh_at I.hok e
  dsimp only at h2 h3 h4
  subst h2 h3 h4
  rcases hd with rfl | ⟨dd, fs, rfl, ed⟩
  · exact ⟨_, none, ⟨h1, rfl, rfl, trivial⟩⟩
  · have hx : ObjOk X.prog X.w H s.heap dd (.xd fs) := I.hok dd _ ed
    obtain ⟨mA, ⟨o, _, _, ho, _⟩, _⟩ := hx
    exact ⟨_, some o, ⟨h1, rfl, rfl, ho⟩⟩
def rIsH (K : PySem.W.Frag) : List V → Hp → VK → Prop := fun xs H Q => ∃ (a D : Addr) (d : Option Addr) (c : V) (cv : Value) (b : Bool), xs = [.ref a, c] ∧ H a = some (exh (.ref D) d a) ∧ XdOk H d ∧ ExcC K D ∧ ClsV c cv ∧ PySem.W.kitOne K (.ref D) cv = some b ∧ Q (.bl b) H
theorem call_isH : CallR X (.builtin "isinstance") (rIsH X.K) := by
  intro pins s σ H xs us Q I r h
  obtain ⟨a, D, d, c, cv, b, rfl, ea, hd, C, hc, e, q⟩ := h
  cases r with
  | cons rx rr =>
    cases rr with
    | cons rt rr =>
      cases rr
      cases rx
      have ec := hc.eq rt
      subst ec
      obtain ⟨oe, od, J⟩ := exh_inst I ea hd
      exact PySem.W.kia_one (PySem.W.tt_kitx_exc C.hg C.hk C.hs C.hd C.ha C.hn C.ht C.hm) I.kIn J e (fun z => nomatch z) fun tk => ⟨.bl b, H, I.kept (t' := tk) fun _ _ z => z, rfl, q⟩
def rIsA (K : PySem.W.Frag) : List V → Hp → VK → Prop := fun xs H Q => rIsH K xs H Q ∨ rIsi K xs H Q
theorem call_isA : CallR X (.builtin "isinstance") (rIsA X.K) := by
  intro pins s σ H xs us Q I r h
  rcases h with h | h
  · exact call_isH pins s σ H xs us Q I r h
  · exact call_isi pins s σ H xs us Q I r h
def tXfH (K : PySem.W.Frag) (n : Str) (te : TE) : TE := fun σ H Q => te σ H fun x H1 => ∃ (a C dd : Addr) (fs : List (Str × V)) (v : V), x = .ref a ∧ H1 a = some (exh (.ref C) (some dd) a) ∧ H1 dd = some (.xd fs) ∧ XfC K C ∧ PySem.W.findIn K (.ref C) n = some none ∧ fs.lookup n = some v ∧ Q v H1
theorem pe_xfH {e : Expr} {te : TE} {pos : Pos} {n : Str} (he : PE X e te) (hb : attributeBase e n X.env (eval e X.env) = eval e X.env := by rfl) :
    PE X (.Attribute e n pos) (tXfH X.K n te) := by
  refine ⟨fun pins s σ H Q I h => ?_⟩
  refine attr_of hb (thn (he.run pins s σ H _ I h) fun u s1 hh => ?_)
  obtain ⟨x, H1, I1, rx, a, C, dd, fs, v, ex, ea, ed, T, hno, l, q⟩ := hh
  subst ex
  obtain rfl : u = Value.ref a := rx
  obtain ⟨oe, vs, ha, hz, hd⟩ := exh_at I1.hok ea
  have hx : ObjOk X.prog X.w H1 s1.heap dd (.xd fs) := I1.hok dd _ ed
  obtain ⟨mA, hns, hr⟩ := hx
  obtain ⟨od, ho, hl⟩ := lookIn_ns hns
  obtain ⟨u, hu, ru⟩ := RelO.some_of (v := v) (o := mA n) (by rw [← l]; exact hr n)
  have J : PySem.W.InstAt s1.heap a oe C (some od) := ⟨ha, hz.1, by unfold PySem.W.notCls; rw [hd] <;> rfl, by rw [hz.2]; exact ho⟩
  exact HandSPX.exc_get I1.kIn J T.ga T.gg T.exC (PySem.W.findObj_own T.hdC hno rfl (by rw [hl, hu])) (handed_of ru) ⟨v, H1, I1.tok _, ru, q⟩
theorem Inv.adopt {a : Addr} {o : Obj} {φ : Heap → Prop} (I : Inv X pins σ H s) (he : s.heap.get? a = some o) (na : H a = none) (n0 : X.s_0.heap.get? a = none) (nL : a ≠ X.env.locals) (np : ∀ p ∈ X.pn ++ pins, p.1 ≠ a)
    (nc : ∀ x c, X.env.cells.lookup x = some c → c ≠ a) (ok : ObjOk X.prog X.w (upd H a (.ext φ)) s.heap a (.ext φ)) : Inv X pins σ (upd H a (.ext φ)) s := by
  refine ⟨I.ok, I.os, I.bare, ⟨I.base.keep, I.base.slot, fun b u q n hx => ?_, I.base.there, fun b xs q => ?_, fun b u v q => ?_, fun b ps q => ?_⟩, I.loc, I.cell, ?_, fun x c e => ?_, fun p hp => ?_, fun b u e => ?_, I.len⟩
  · rw [upd_ne (fun z => by rw [z, n0] at q; cases q)]
    exact I.base.free b u q n hx
  · have z := I.base.tups b xs q
    rw [upd_ne (ne_of_none z na)]
    exact z
  · have z := I.base.frzs b u v q
    rw [upd_ne (ne_of_none z na)]
    exact z
  · obtain ⟨m, z⟩ := I.base.tbls b ps q
    exact ⟨m, by rw [upd_ne (ne_of_none z na)]; exact z⟩
  · rw [upd_ne nL.symm]
    exact I.free
  · rw [upd_ne (nc x c e)]
    exact I.freeC x c e
  · obtain ⟨e1, e2, e3⟩ := I.pin p hp
    exact ⟨e1, by rw [upd_ne (np p hp)]; exact e2, e3⟩
  · by_cases hb : b = a
    · subst hb
      rw [upd_same] at e
      cases e
      exact ok
    · rw [upd_ne hb] at e
      exact (I.hok b u e).stay (fun c v _ q => q) (fun c q => by rw [upd_ne (ne_of_none q na)]; exact q) fun c xs q => by rw [upd_ne (ne_of_none q na)]; exact q
end
end L2
set_option maxRecDepth 100000
set_option maxHeartbeats 4000000
namespace L2
open PySem PySem.Spec PyProof.Rows
def wKeep (K : PySem.W.Frag) (c : Value) (i : Nat) (ts : Addr → Value → Option Addr → TS) (Wout : WX) (D : Ends) : WX := fun cls d σ H =>
  ∃ b, PySem.W.exmOne K cls c = some b ∧ (b = true → ∀ a, H a = none → ts a cls d { nx := fun σ' H' => H' a = none ∧ D.nx (σ'.set i none) (upd H' a (exh cls d a)), rt := fun _ _ => False, bk := fun _ _ => False, ct := fun _ _ => False } (σ.set i (some (.ref a))) H) ∧
    (b = false → Wout cls d σ H)
section
variable {X : Cx} {x n : Str} {c : Value} {i : Nat} {body suite : List Stmt} {b₀ : Stmt} {np pos pos' : Pos} {tb : WX → TS} {ts : Addr → Value → Option Addr → TS} {Wout : WX}
theorem ps_try_keep (hs : X.stack = X.env :: X.outer) (hf : X.env.frame = some X.env.locals) (hex : X.ex = []) (hN : X.N.Nodup) (hi : X.N[i]? = some n) (hln : X.env.kindOf n = some .local) (hc : Names X x c) (tk : Takes X Wout)
    (hb : ∀ (W : WX) (pn : List (Addr × Obj)) (xe : Value → Shared → Prop), Takes (X.tr pn xe) W → PassesOwn (model X.prog X.w) X.A X.env xe → PSs (X.tr pn xe) body (tb W))
    (hsu : ∀ (a : Addr) (oe : Obj) (cls : Value) (d : Option Addr) (pn : List (Addr × Obj)), Zc cls d oe → (∃ vs, oe.data = .fields vs) → PSs (X.suite a ((a, oe) :: pn)) (b₀ :: suite) (ts a cls d)) :
    PS X (.Try body [.ExceptHandler (some (.Name x np)) (some n) (b₀ :: suite) pos'] [] [] pos) (fun D σ H => tb (wKeep X.K c i ts Wout D) D σ H) := by
  refine ⟨fun pins s σ H D I h => ?_⟩
  have ok := I.ok
  have hfr : X.A.frames = some (X.env :: X.outer) := by rw [ok.frames, hs]
  have hloc : Loc X.env.scope n := .inl hln
  refine wpAny_Try_except ?_
  refine wpAny_mono ((hb (wKeep X.K c i ts Wout D) (X.pn ++ pins) (fun e s₁ => wpAny (model X.prog X.w) X.A (noteFrame e X.env) (fun _ s₂ => wpAny (model X.prog X.w) X.A (setFlight e none) (fun _ s₃ =>
    wpAny (model X.prog X.w) X.A (handleBy e X.env [.ExceptHandler (some (.Name x np)) (some n) (b₀ :: suite) pos']) (SP X pins D) X.xe s₃) X.xe s₂) X.xe s₁) (fun u s' xx => ?_) PassesOwn.looking).run [] s σ H D (I.toTry _) h) (fun f s1 hsp => ?_) (fun e s1 he => he)
  ·
    obtain ⟨a, B, sI, pins', σ', H', cls, d, rfl, J', nb, up, sky, na, os, ag, b, hb1, hyes, hno⟩ := xx
    have J : Inv X pins σ' H' sI := J'.ofTry ok
    have sky' : Sky B (X.env :: X.outer) a (Zc cls d) X.env.locals s'.heap := by rw [← hs]; exact sky
    show wpAny (model X.prog X.w) X.A (noteFrame (.ref a) X.env) _ _ _
    refine Sky.land Zc.steady hfr hf sky' fun h3 fl3 up3 => ?_
    have J3 : Inv X pins σ' H' { s' with heap := h3 } := J.landed nb fl3.1 (up.trans up3) os ag
    obtain ⟨oe3, vs3, he3, hz3, hd3⟩ := fl3.there
    have notFr : ∀ {h : Heap} {o : Obj} {vs : Array Value}, h.FunFrames B (X.env :: X.outer) → h.get? a = some o → o.data = .fields vs → a ∉ frs (X.env :: X.outer) := fun {h o vs} ff e dd hm => by
      obtain ⟨_, o', e', hnf⟩ := ff.mem hm
      rw [e] at e'; cases e'
      exact hnf _ dd
    have nfr := notFr fl3.2.2.1 he3 hd3
    have nL : a ≠ X.env.locals := fun z => nfr (List.mem_filterMap.mpr ⟨X.env, List.mem_cons_self, by rw [hf, z]⟩)
    have nF : a ∉ X.fs := fun hm => by
      obtain ⟨e, he, q⟩ := List.mem_filterMap.mp hm
      exact nfr (List.mem_filterMap.mpr ⟨e, List.mem_cons_of_mem _ he, q⟩)
    have nB : B.get? a = none := fl3.2.1
    have nfr' : a ∉ frs X.stack := by rw [hs]; exact nfr
    have nI : sI.heap.get? a = none := by
      cases q : sI.heap.get? a with
      | none => rfl
      | some o =>
        have z := nb a o q nfr'
        rw [nB] at z
        cases z
    have n0 : X.s_0.heap.get? a = none := by
      cases q : X.s_0.heap.get? a with
      | none => rfl
      | some o =>
        obtain ⟨o', q'⟩ := J.base.there a o q (by rw [hex]; exact fun z => nomatch z)
        rw [nI] at q'
        cases q'
    have npin : ∀ p ∈ X.pn ++ pins, p.1 ≠ a := fun p hp z => by
      obtain ⟨e, _⟩ := J.pin p hp
      rw [z, nI] at e
      cases e
    have S3 := J3.suite he3 hd3 na nL nF
    refine wpAny_handleBy_cons (codeAny_handlers_test ?_) (by intro q; cases q)
    have LT : PySem.W.Looks (model X.prog X.w) h3 (typeOf (.ref a)) cls := fun A Q E s k q => wpAny_typeOf_ref (k _ _ he3) (by rw [hz3.1]; exact q)
    have LM := PySem.W.exm_one (M := model X.prog X.w) (J3.kIn) LT hb1
    have test : ∀ {Q : Value → Shared → Prop} {E : Value → Shared → Prop}, Q c { s' with heap := h3 } → wpAny (model X.prog X.w) (X.A.mark (some (.ref a))) (eval (.Name x np) X.env) Q E { s' with heap := h3 } := fun {Q E} q => by
      obtain ⟨hg, hdbg, hm | ⟨hm, hv, hnn⟩⟩ := hc
      · exact ld_glob (X := X.suite a ((a, oe3) :: (X.pn ++ pins))) S3 hg hm q hdbg
      · exact ld_blt (X := X.suite a ((a, oe3) :: (X.pn ++ pins))) S3 hg hm hv q hnn hdbg
    refine test (LM.here ?_)
    cases b with
    | true =>
      refine codeAny_handlers_suite_as ?_
      refine HandSPX.lands_againZ fl3 fun h4 fl4 up4 => ?_
      have J4 : Inv X pins σ' H' { s' with heap := h4 } := J.landed nb fl4.1 ((up.trans up3).trans up4) os ag
      obtain ⟨oe4, vs4, he4, hz4, hd4⟩ := fl4.there
      have S4 := J4.suite he4 hd4 na nL nF
      refine store_ok (X := X.suite a ((a, oe4) :: (X.pn ++ pins))) (v := .ref a) S4 hN hi hloc rfl (fun s5 S5 => ?_) (.inr hln)
      refine wpAny_mono ((hsu a oe4 cls d (X.pn ++ pins) hz4 ⟨_, hd4⟩).run [] s5 _ H' _ S5 (hyes rfl a na)) (fun f s6 hsp => ?_) (fun _ _ z => False.elim z)
      cases f with
      | next =>
        obtain ⟨σ6, H6, S6, n6, q6⟩ := hsp
        obtain ⟨he6, _⟩ := S6.pin (a, oe4) (List.mem_append.mpr (.inl List.mem_cons_self))
        have J6 : Inv X pins σ6 H6 s6 := S6.unsuite ok
        have nc : ∀ y c, X.env.cells.lookup y = some c → c ≠ a := fun y c e z => by
          obtain ⟨v, o, ho, hv⟩ := J6.cell y c e
          rw [z, he6] at ho
          cases ho
          rw [hd4] at hv
          cases hv
        have J7 : Inv X pins σ6 (upd H6 a (exh cls d a)) s6 := J6.adopt he6 n6 n0 nL npin nc (exh_ok he6 hz4 hd4)
        exact gone_ok J7 hN hi hln fun s7 J8 => ⟨_, _, J8, q6⟩
      | brk =>
        obtain ⟨σ6, H6, S6, q6⟩ := hsp
        exact False.elim q6
      | cont =>
        obtain ⟨σ6, H6, S6, q6⟩ := hsp
        exact False.elim q6
      | ret u =>
        obtain ⟨v6, σ6, H6, S6, r6, q6⟩ := hsp
        exact False.elim q6
    | false =>
      show wpAny _ X.A (handleBy (.ref a) X.env []) _ _ _
      refine wpAny_handleBy_nil ?_
      obtain ⟨k1, k2, k3, oe, vs, T, oT, ts', he, hz, hd, h1, hr⟩ := id fl3
      unfold PySem.passOn
      refine wpAny_bind (wpAny_field he hd h1 ?_)
      rw [if_neg (show ¬ ((Value.ref T == Value.none) = true) from by simp)]
      have fin : wpAny (model X.prog X.w) X.A (setFlight (.ref a) X.env.frame) (fun _ s4 => wpAny (model X.prog X.w) X.A (throw (.ref a) : Sem Flow) (SP X pins D) X.xe s4) X.xe { s' with heap := h3 } := by
        rw [hf]
        refine HandSPX.setFlight_upZ fl3 fun h4 hh4 up4 => wpAny_throw (tk _ _ ?_)
        exact ⟨a, B, sI, pins, σ', H', cls, d, rfl, J, nb, (up.trans up3).trans up4, .inr (.inr (by rw [hs]; exact hh4)), na, os, ag, hno rfl⟩
      first
        | exact wpAny_bind (wpAny_pure (wpAny_bind fin))
        | exact wpAny_bind fin
  · cases f with
    | next =>
      obtain ⟨σ', H', J', q⟩ := hsp
      exact wpAny_execs_nil ⟨σ', H', J'.ofTry ok, q⟩
    | brk =>
      obtain ⟨σ', H', J', q⟩ := hsp
      exact ⟨σ', H', J'.ofTry ok, q⟩
    | cont =>
      obtain ⟨σ', H', J', q⟩ := hsp
      exact ⟨σ', H', J'.ofTry ok, q⟩
    | ret u =>
      obtain ⟨v, σ', H', J', r, q⟩ := hsp
      exact ⟨v, σ', H', J'.ofTry ok, r, q⟩
end
end L2
set_option maxRecDepth 100000
set_option maxHeartbeats 4000000
namespace LamX
open PySem PySem.Spec PyProof.Rows L2
section
variable {X : Cx} {pins : List (Addr × Obj)} {σ : L2.St} {H : Hp} {s : Shared}
theorem tt_act {CXg : CXT} {Eg : XK} {names : List Str} {qg : Str} {sg : Scope} {g fl co : Addr} {cdg pm ctv : Value} {ps : Arguments} {bd : Expr} {lsc : Scope} {k i : Nat} {a : Str} {pn : List (Addr × Obj)} {xe : Value → Shared → Prop} {W : WX} {Ew : L2.St → XK} {rd : XK → TE} {p1 p2 : Pos}
    (I : Inv X pins σ H s) (L : LamS X.env.scope lsc) (h1 : s.heap.get? fl = some (PySem.W.kla_obj "<lambda>" (X.env.qual ++ "<lambda>") ps bd lsc (cloFrom X.env.cells lsc.names []) pm co ctv)) (h2 : H fl = none) (h3 : fl ∉ frs X.stack)
    (noArgs : bindArgs (PySem.W.kla_fn "<lambda>" (X.env.qual ++ "<lambda>") ps bd lsc (cloFrom X.env.cells lsc.names []) pm (.ref co) ctv) ⟨[], []⟩ = pure [])
    (tk : Takes ((cxOf CXg X.prog X.w X.K X.mg X.base names qg sg g cdg X.A X.stack s H Eg).tr pn xe) W) (wish : ∀ τ cls d H', Ew τ cls d H' → W cls d τ H') (room : Room (k + 1) (X.A.deeper (envOfC qg sg s.heap.objs.size g cdg)))
    (body : ∀ (E : XK) (A : Around) (outer : List Env) (s : Shared) (H : Hp), Room k (A.deeper (lamEnv X lsc s.heap.objs.size fl co)) → PE (lamCx X A outer s H E lsc fl co) bd (rd E))
    (at_ : names[i]? = some a) (vis : Vis sg a) (n1 : (a == ("__debug__" : Str)) = false) (n2 : (a == ("__classdict__" : Str)) = false) :
    PE ((cxOf CXg X.prog X.w X.K X.mg X.base names qg sg g cdg X.A X.stack s H Eg).tr pn xe) (.Call (.Name a p1) [] [] p2)
      (fun τ G Q => τ[i]? = some (some (.ref fl)) ∧ G co = some (CodeO co (X.env.qual ++ "<lambda>")) ∧ rd (Ew τ) σ G Q) := by
  refine ⟨fun pz sz τ G Q J hyp => ?_⟩
  obtain ⟨slot, code, want⟩ := hyp
  have load := (pe_var (pos := p1) (i := i) at_ vis n1 n2).run pz sz τ G (fun v G' => v = .ref fl ∧ G' = G) J ⟨.ref fl, slot, rfl, rfl⟩
  refine wpAny_Call_Name_kw (thn load fun u s1 ⟨v, G', J1, ru, ev, eG⟩ => ?_)
  subst ev eG
  obtain rfl : u = Value.ref fl := ru
  have here : s1.heap.get? fl = some (PySem.W.kla_obj "<lambda>" (X.env.qual ++ "<lambda>") ps bd lsc (cloFrom X.env.cells lsc.names []) pm co ctv) := J1.base.keep fl _ h1 h2 h3 (fun z => nomatch (show fl ∈ ([] : List Addr) from z))
  refine PySem.W.callWith_F0 ⟨_, _, _, _, here⟩ ?_
  have since : Un (frs X.stack) [] H G' s.heap s1.heap := J1.base
  obtain ⟨⟨oc, fields, tok, ho, hf, hq⟩, _, _⟩ := J1.hok co _ code
  have run : codeAny (model X.prog X.w) (X.A.deeper (envOfC qg sg s.heap.objs.size g cdg)) (.call (.ref fl) ⟨[], []⟩) (CR (L2.CX X.prog X.w) (envOfC qg sg s.heap.objs.size g cdg :: X.stack) X.prog X.w G' s1 Q (Ew τ)) s1 := by
    refine PySem.W.kla_callFunE room.depth here rfl L.co L.gen rfl ⟨co, oc, fields, tok, rfl, ho, hf, hq⟩ ?_
    rw [noArgs]
    refine wpAny_pure (wpAny_newFunctionEnv (fun y hy => (L.own y hy).2) (fun y hy => absurd hy (by simp)) (fun h' ns but => ⟨J1.nolimit.fresh _ but, ?_⟩) L.kind)
    have stays : ∀ b o, s1.heap.get? b = some o → h'.get? b = some o := fun b o e => but.extBut b o (Nat.ne_of_lt (Heap.lt_size e)) (Heap.get?_push_of_some _ e)
    have start : Inv (lamCx X (X.A.deeper (envOfC qg sg s.heap.objs.size g cdg)) (envOfC qg sg s.heap.objs.size g cdg :: X.stack) s1 G' (Ew τ) lsc fl co) [] σ G' { s1 with heap := h', toks := s1.toks + ([] : List (Str × Value)).length } :=
      lam_start2 I L J1.env0 room.hd since ns stays
    show codeAny _ _ (.expr bd (lamEnv X lsc s1.heap.objs.size fl co)) _ _
    refine PySem.W.kla_codeExpr (wpAny_mono ((body (Ew τ) _ _ s1 G' (room.deeper _)).run [] _ _ G' Q start want) (fun v s' ⟨x, G2, J2, rx, q⟩ => ?_) fun e s' q => q)
    exact ⟨x, G2, J2.os, J2.bare, J2.base, J2.hok, rx, q⟩
  refine wpAny_call (codeAny_mono run fun r s' q => ?_)
  match r with
  | .error e => exact tk e s' (XE.of_call J1 (fun cls d G2 z => wish τ cls d G2 z) q)
  | .ok (.ret u) => exact J1.after q
  | .ok .next => exact False.elim q
  | .ok .brk => exact False.elim q
  | .ok .cont => exact False.elim q
end
def GivesToS (X : Cx) (names : List Str) (x : Str) (sg : Scope) (g : Addr) (cdg : Value) (bg : List Stmt) (a : Str) (q : Str) (TT : (XK → Hp → VK → Prop) → Hp → VK → Prop) : Prop :=
  ∀ (fl co : Addr) (s : Shared) (H : Hp) (Q : VK) (tl : XK → Hp → VK → Prop),
    (∀ (W : WX) (pn : List (Addr × Obj)) (xe : Value → Shared → Prop) (Ew : L2.St → XK) (p1 p2 : Pos), Takes ((cxOf C8.CX0 X.prog X.w X.K X.mg X.base names x sg g cdg X.A X.stack s H C8.E0).tr pn xe) W → (∀ τ cls d H', Ew τ cls d H' → W cls d τ H') →
      PE ((cxOf C8.CX0 X.prog X.w X.K X.mg X.base names x sg g cdg X.A X.stack s H C8.E0).tr pn xe) (.Call (.Name a p1) [] [] p2) (fun τ G Q => τ[0]? = some (some (.ref fl)) ∧ G co = some (CodeO co q) ∧ tl (Ew τ) G Q)) →
    H co = some (CodeO co q) → TT tl H Q →
    ∃ t, PSs (cxOf C8.CX0 X.prog X.w X.K X.mg X.base names x sg g cdg X.A X.stack s H C8.E0).nox bg t ∧ t { nx := fun _ H' => Q .non H', rt := Q } (L2.start names [.ref fl]) H
section
variable {X : Cx}
theorem tt_lamcall {T : List (Addr × Str)} {TT : (XK → Hp → VK → Prop) → Hp → VK → Prop} {x a : Str} {g c P : Addr} {k : Nat} {pg : Arguments} {bg : List Stmt} {sg : Scope} {dV kV doc pm cdv ct oc : Value} {an od : Option Addr} {osl : Array (Option Value)} {names : List Str}
    {ps : Arguments} {bd : Expr} {lsc : Scope} {t : XK → TE} {p lpos pos : Pos} (hg : Gl X x) (hm : X.mg x = some (.ref g)) (hk : PySem.W.keepIn X.K (.ref g) = true)
    (lk : X.K.lookup g = some ⟨oc, od, .func (PySem.W.fnOf x x pg bg sg dV kV doc pm an cdv ct), osl⟩) (hcg : PySem.W.codeIn X.K cdv x = true) (hb : L2.Binds X.K (PySem.W.fnOf x x pg bg sg dV kV doc pm an cdv ct) [a] []) (Sg : FnScope names [a] sg) (at_ : names[0]? = some a) (vis : Vis sg a)
    (hG : GivesToS X names x sg g cdv bg a (X.env.qual ++ "<lambda>") TT)
    (TB : TabB X.base X.mg c P) (hcode : X.env.code = .ref c) (hmT : (P, X.env.qual ++ "<lambda>") ∈ T) (hu : ∀ p ∈ T, p.1 = P → p.2 = X.env.qual ++ "<lambda>") (hr : Room (k + 2) X.A) (L : LamS X.env.scope lsc) (hdef : defaultsOf ps X.env = ([], []))
    (noArgs : ∀ (q : Str) (cl : List (Str × Addr)) (pm cv ctv : Value), bindArgs (PySem.W.kla_fn "<lambda>" q ps bd lsc cl pm cv ctv) ⟨[], []⟩ = pure [])
    (body : ∀ (A : Around) (outer : List Env) (s : Shared) (H : Hp) (E : XK) (fl co : Addr), Room k (A.deeper (lamEnv X lsc s.heap.objs.size fl co)) → PE (lamCx X A outer s H E lsc fl co) bd (t E))
    (n0 : (x == ("__debug__" : Str)) = false := by decide) (n1 : (a == ("__debug__" : Str)) = false := by decide) (n2 : (a == ("__classdict__" : Str)) = false := by decide) :
    PE X (.Call (.Name x p) [.Lambda ps bd lsc lpos] [] pos) (tLam T TT t) := by
  refine ⟨fun pins s σ H Q I hyp => ?_⟩
  obtain ⟨tabs, want⟩ := hyp
  refine wpAny_Call_Name_kw (ld_glob I hg hm ?_ n0)
  refine PySem.W.callWith_K (h₀ := X.base) I.ok.mod.kin hk ?_ (by rfl) (by rfl)
  show wpAny _ _ (spliced ((false, eval (.Lambda ps bd lsc lpos) X.env) :: backTo pos (starEach [] X.env))) _ _ s
  refine Calls.spliced_cons (lam_make2 I TB hcode hmT hu tabs hdef (L.has I.ok) fun fl co pm' ctv G s' J eN tabs' f1 f2 f3 fc => ?_)
  refine Calls.spliced_nil ⟨J.kIn, ?_⟩
  have run : codeAny (model X.prog X.w) X.A (.call (.ref g) ⟨[.ref fl], []⟩) (CR C8.CX0 X.stack X.prog X.w G s' Q C8.E0) s' := by
    refine run_ofS (N := names) (ps := [a]) (us := [.ref fl]) (vs := [.ref fl]) lk hcg Sg hr J.env0 (hb s' [.ref fl] J.kIn rfl) (.cons rfl .nil) rfl fun hr' => ?_
    obtain ⟨t', ht', hq'⟩ := hG fl co s' G Q (fun E G' Q' => t E σ G' Q') (fun W pn xe Ew p1 p2 tk wish => tt_act (i := 0) J L f1 f2 f3 (noArgs _ _ _ _ _) tk wish hr' (fun E A outer s H room => body A outer s H E fl co room) at_ vis n1 n2) fc (want G eN tabs')
    exact ⟨t', ht'.nox, hq'⟩
  refine wpAny_call (codeAny_mono run fun r s2 q => ?_)
  match r with
  | .error e => exact (show False from q).elim
  | .ok (.ret u) => exact J.after q
  | .ok .next => exact False.elim q
  | .ok .brk => exact False.elim q
  | .ok .cont => exact False.elim q
end
end LamX
set_option maxRecDepth 100000
set_option maxHeartbeats 4000000
namespace L2
open PySem PySem.Spec PyProof.Rows HT
section
variable {X : Cx} {K : PySem.W.Frag}
def FzT (H : Hp) (a : Addr) (xs : List V) : Prop := ∃ ob : Obj, H a = some (.frz ob (.tup xs)) ∧ ob.dict = none
theorem FzT.sq {H : Hp} {a : Addr} {xs : List V} (h : FzT H a xs) : SqT K H a xs := by
  obtain ⟨ob, h, _⟩ := h
  exact .inl (.inr ⟨ob, h⟩)
theorem FzT.new {H : Hp} {p : Addr} {ob : Obj} {xs : List V} (h : ob.dict = none) : FzT (upd H p (.frz ob (.tup xs))) p xs := ⟨ob, upd_same, h⟩
def NwT (H : Hp) (xs : List V) (Q : VK) : Prop := ∀ (p : Addr) (ob : Obj), H p = none → ob.dict = none → Q (.ref p) (upd H p (.frz ob (.tup xs)))
def rTupF (K : PySem.W.Frag) : List V → Hp → VK → Prop := fun xs H Q => ∃ p ys, xs = [.ref p] ∧ ((SqL K H p ys ∧ NwT H ys Q) ∨ (SqT K H p ys ∧ Q (.ref p) H))
theorem call_tuple_ofF : CallR X (.type "tuple") (rTupF X.K) := by
  intro pins s σ H xs us Q I r h
  obtain ⟨p, ys, rfl, h⟩ := h
  obtain ⟨u, rfl, rx⟩ := vals1 r
  cases rx
  rcases h with ⟨hq, q⟩ | ⟨hq, q⟩
  · obtain ⟨its, rv, pl, hz⟩ := I.list hq
    have hn := rv.length
    refine call_tuple_list pl.isList (fun h' kp => ?_) (by simp only [List.size_toArray] <;> omega)
    have J : Inv X pins σ H { s with heap := h' } := I.kept (t' := s.toks) kp
    have J2 : Inv X pins σ (upd H h'.objs.size (.frz { cls := .type "tuple", data := .seq its.toArray } (.tup ys))) { s with heap := h'.push { cls := .type "tuple", data := .seq its.toArray } } :=
      J.laid (t' := s.toks) (fun b o e => Heap.get?_push_of_some _ e) (Nat.le_refl _) ⟨Heap.get?_push_size _ rfl, hz, its, rv, IsTup.new _ _⟩
    exact ⟨.ref h'.objs.size, _, J2, rfl, q _ _ (J.hok.fresh (Nat.le_refl _)) rfl⟩
  · obtain ⟨its, rv, pl, hz⟩ := I.tuple hq
    exact call_tuple_same pl ⟨.ref p, H, I, rfl, q⟩
def rCatF (K : PySem.W.Frag) : R2 := fun x y H Q => ∃ a b xs ys, x = .ref a ∧ y = .ref b ∧ SqT K H a xs ∧ SqT K H b ys ∧ xs ≠ [] ∧ xs.length + ys.length ≤ sizeLine ∧
  (ys = [] → Q (.ref a) H) ∧ (ys ≠ [] → NwT H (xs ++ ys) Q)
theorem op_catF : OpR X (binaryOp .Add) (rCatF X.K) := by
  intro pins s σ H x y v u Q I rx ry h
  obtain ⟨a, b, xs, ys, rfl, rfl, ha, hb, hx, hz, q1, q2⟩ := h
  cases rx
  cases ry
  obtain ⟨its, r1, p1, _⟩ := I.tuple ha
  obtain ⟨its2, r2, p2, _⟩ := I.tuple hb
  refine HT.cat_tup p1 p2 (fun z => hx (r1.nil_iff.mp z)) (fun z => ⟨.ref a, H, I, rfl, q1 (r2.nil_iff.mp z)⟩) (fun z => ?_) (by rw [← r1.length, ← r2.length]; exact hz)
  refine ⟨.ref s.heap.objs.size, _, I.laid (t' := s.toks) (fun b ob q => Heap.get?_push_of_some _ q) (Nat.le_refl _) ?_, rfl, q2 (fun w => z (r2.nil_iff.mpr w)) _ { cls := .type "tuple", data := .seq (its ++ its2).toArray } (I.hok.fresh (Nat.le_refl _)) rfl⟩
  exact ⟨Heap.get?_push_size _ rfl, by rw [List.length_append]; exact hz, _, r1.append r2, IsTup.new _ _⟩
def tyF (K : PySem.W.Frag) (T : String) (x : V) (H : Hp) : Prop := tyV K T x H ∨ (T = "tuple" ∧ ∃ p xs, x = .ref p ∧ FzT H p xs)
theorem tyF_is {pins : List (Addr × Obj)} {σ : St} {H : Hp} {s : Shared} {T : String} {x : V} {v : Value} (I : Inv X pins σ H s) (r : RelV x v) (ty : tyF X.K T x H) :
    s.TypeIs v T ∧ ∀ a, v = .ref a → ∃ ob, s.heap.get? a = some ob ∧ ob.dict = none := by
  rcases ty with ty | ⟨rfl, p, xs, rfl, ob, h, hd⟩
  · exact tyV_is I r ty
  · cases r
    obtain ⟨e, _, its, _, o, e2, hc, _⟩ := (show ObjOk X.prog X.w H s.heap p (.frz ob (.tup xs)) from I.hok p _ h)
    rw [e] at e2
    cases e2
    refine ⟨⟨ob, e, hc⟩, fun a z => ?_⟩
    cases z
    exact ⟨ob, e, hd⟩
def tBMF (K : PySem.W.Frag) (T : String) (r : V → List V → Hp → VK → Prop) (to : TE) (t : TA) : TE := fun σ H Q => to σ H fun x H1 => tyF K T x H1 ∧ t σ H1 fun xs H2 => r x xs H2 Q
variable {o e : Expr} {es : List Expr} {to : TE} {t : TA} {name : Str} {apos cpos : Pos} {T id : String} {r : V → List V → Hp → VK → Prop}
theorem pe_bmF (pa : PlainAttrs T) (slot : Slot T name id) (hty : typeOf (.builtin id) = pure (.type "method_descriptor")) (hm : MtR X id r) (ho : PE X o to) (ha : PA X (e :: es) t)
    (hbase : attributeBase o name X.env (eval o X.env) = eval o X.env := by rfl)
    (hfew : ((backTo cpos (starEach (e :: es) X.env)).all (fun x => !x.1) && (backToKw cpos (keywordEach [] X.env)).all (fun x => x.1.isSome)
      && decide ((e :: es).length + ([] : List Keyword).length + (if ([] : List Keyword).isEmpty then 0 else 1) < 30)) = true := by rfl)
    (hline : (apos.endLine == cpos.line) = true := by rfl) (hs : starEach (e :: es) X.env = (false, eval e X.env) :: starEach es X.env := by rfl) (hplain : (backTo cpos (starEach es X.env)).any (·.1) = false := by rfl) :
    PE X (.Call (.Attribute o name apos) (e :: es) [] cpos) (tBMF X.K T r to t) := by
  refine ⟨fun pins s σ H Q I h => ?_⟩
  refine wpAny_Call_method_late hbase hfew hline rfl (thn (ho.run pins s σ H _ I h) fun v s1 ⟨x, H1, I1, r1, ty, q1⟩ => ?_)
  obtain ⟨h1, h2⟩ := tyF_is I1 r1 ty
  refine ⟨T, id, pa, slot, hty, h1, h2, ?_⟩
  have hA := ha.run cpos pins s1 σ H1 _ I1 q1
  rw [hs] at hA ⊢
  refine Calls.callWith_builtin (by show (false || (backTo cpos (starEach es X.env)).any (·.1)) = false; rw [hplain] <;> rfl) (Calls.evalArgs_plain ?_)
  exact thn hA fun us s2 ⟨vs, H2, I2, r2, q2⟩ => hm pins s2 σ H2 x vs v us Q I2 r1 r2 q2
theorem pe_bmFK (hk : X.K = K) (pa : PlainAttrs T) (slot : Slot T name id) (hty : typeOf (.builtin id) = pure (.type "method_descriptor")) (hm : MtR X id r) (ho : PE X o to) (ha : PA X (e :: es) t)
    (hbase : attributeBase o name X.env (eval o X.env) = eval o X.env := by rfl)
    (hfew : ((backTo cpos (starEach (e :: es) X.env)).all (fun x => !x.1) && (backToKw cpos (keywordEach [] X.env)).all (fun x => x.1.isSome)
      && decide ((e :: es).length + ([] : List Keyword).length + (if ([] : List Keyword).isEmpty then 0 else 1) < 30)) = true := by rfl)
    (hline : (apos.endLine == cpos.line) = true := by rfl) (hs : starEach (e :: es) X.env = (false, eval e X.env) :: starEach es X.env := by rfl) (hplain : (backTo cpos (starEach es X.env)).any (·.1) = false := by rfl) :
    PE X (.Call (.Attribute o name apos) (e :: es) [] cpos) (tBMF K T r to t) := by
  subst hk
  exact pe_bmF pa slot hty hm ho ha hbase hfew hline hs hplain
end
end L2
set_option maxRecDepth 100000
set_option maxHeartbeats 4000000
namespace L2
open PySem PySem.Spec PyProof.Rows
def Swaps (fd : FuncData) (a b : Str) : Prop := ∀ (s : Shared) (v u : Value), BindsTo s fd ⟨[], [(b, v), (a, u)]⟩ [(a, u), (b, v)]
theorem Fun.swaps {K : PySem.W.Frag} {x qual : Str} {st : Stmt} {f : Addr} {fd : FuncData} {a b : Str} (F : Fun K x qual st f fd)
    (h : ∀ (kV doc pm : Value) (an : Option Addr) (cdv ct v u : Value), bindArgs (PySem.W.fnOf x qual (defArgs st) (defBody st) (defScope st) .none kV doc pm an cdv ct) ⟨[], [(b, v), (a, u)]⟩ = pure [(a, u), (b, v)]) : Swaps fd a b := by
  obtain ⟨oc, od, kV, doc, pm, an, cdv, ct, osl, rfl, lk, hcd⟩ := F.ex
  exact fun s v u => BindsTo.of_eq (h kV doc pm an cdv ct v u)
def tSw (sp : Sp) (E : XK) (t1 t2 : TE) : TE := fun σ H Q => tCons t1 (tCons t2 tNil) σ H fun zs H2 => sp zs.reverse H2 Q E
section
variable {X : Cx} {CX : CXT} {k : Nat} {f : Addr} {fd : FuncData} {a b : Str} {sp : Sp} {E : XK} {x : Str} {p p1 p2 pos : Pos} {e1 e2 : Expr} {t1 t2 : TE}
theorem run_sw {pins : List (Addr × Obj)} {σ : St} {H : Hp} {s : Shared} {Q : VK} {v u : V} {v' u' : Value} (F : FnOk X.prog X.w X.K X.mg X.base CX k f fd [a, b] sp) (hr : Room k X.A) (hb : Swaps fd a b) (hx : Passes CX X E)
    (I : Inv X pins σ H s) (r1 : RelV v v') (r2 : RelV u u') (h : sp [u, v] H Q E) : wpAny (model X.prog X.w) X.A (call (.ref f) [] [(b, v'), (a, u')]) (EP X pins σ Q) X.xe s := by
  refine wpAny_call (codeAny_mono (F.run X.A X.stack s H ⟨[], [(b, v'), (a, u')]⟩ [u', v'] [u, v] Q E hr I.env0 (hb s v' u') (.cons r2 (.cons r1 .nil)) h) fun r s' hq => ?_)
  cases r with
  | error e => exact hx pins σ H s e s' I hq
  | ok fl =>
    cases fl with
    | ret u => exact I.after hq
    | next => exact False.elim hq
    | brk => exact False.elim hq
    | cont => exact False.elim hq
theorem pe_callSw (F : FnOk X.prog X.w X.K X.mg X.base CX k f fd [a, b] sp) (hr : Room k X.A) (hg : Gl X x) (hm : X.mg x = some (.ref f)) (hk : PySem.W.keepIn X.K (.ref f) = true) (hb : Swaps fd a b) (hx : Passes CX X E)
    (h1 : PE X e1 t1) (h2 : PE X e2 t2) (hdb : (x == ("__debug__" : Str)) = false := by decide)
    (hall : (backToKw pos (keywordEach [⟨some b, e1, p1⟩, ⟨some a, e2, p2⟩] X.env)).all (·.1.isSome) = true := by rfl) (hks : (backToKw pos (keywordEach [⟨some b, e1, p1⟩, ⟨some a, e2, p2⟩] X.env)).filterMap (·.1) = [b, a] := by rfl)
    (hpl : ((backTo pos (starEach [] X.env)).any (·.1) || (backToKw pos (keywordEach [⟨some b, e1, p1⟩, ⟨some a, e2, p2⟩] X.env)).any (·.1.isNone)) = false := by rfl) :
    PE X (.Call (.Name x p) [] [⟨some b, e1, p1⟩, ⟨some a, e2, p2⟩] pos) (tSw sp E t1 t2) := by
  refine ⟨fun pins s σ H Q I h => ?_⟩
  refine wpAny_Call_Name_kw (ld_glob I hg hm ?_ hdb)
  refine PySem.W.callWith_KW0 (h₀ := X.base) I.ok.mod.kin hk hall ?_ hpl
  refine thn ((pk_cons h1 (pk_cons h2 pk_nil)).run pos pins s σ H _ I h) fun ws s2 ⟨zs, H2, J, rz, q⟩ => ⟨J.kIn, ?_⟩
  rw [hks]
  have hl := F.len _ _ _ _ q
  rw [List.length_reverse] at hl
  cases rz with
  | nil => exact absurd hl (by simp)
  | cons r1 rz =>
    cases rz with
    | nil => exact absurd hl (by simp)
    | cons r2 rz =>
      cases rz with
      | nil => exact run_sw F hr hb hx J r1 r2 q
      | cons r3 rz => exact absurd hl (by simp)
end
end L2
set_option maxRecDepth 100000
set_option maxHeartbeats 4000000
namespace L2
open PySem PySem.Spec PyProof.Rows
section
variable {X : Cx}
def rShow (K : PySem.W.Frag) : List V → Hp → VK → Prop := fun xs H Q => ∃ (a : Addr) (d : PyData), xs = [.ref a] ∧ Dp K H (.ref a) d ∧ d.showable = true ∧ d.hasDict = false ∧ d.depth ≤ 60 ∧ d.shown.length ≤ sizeLine ∧ Q (.str d.shown) H
theorem call_show (hg : X.A.guards = some []) (hu : X.A.units + 64 < cLine) : CallR X (.builtin "repr") (rShow X.K) := by
  intro pins s σ H xs us Q I r h
  obtain ⟨a, d, rfl, hd, h1, h2, h3, h4, q⟩ := h
  obtain ⟨u, rfl, rx⟩ := vals1 r
  cases rx
  obtain ⟨as, rd⟩ := Dp.reads I d (.ref a) (.ref a) hd rfl
  exact repr_of_reads' rd h1 (fun z => absurd (h2.symm.trans z) (by decide)) hg (by omega) (fun b o e => e) (fun h' u tk k => ⟨.str d.shown, H, I.kept (t' := tk) k, ⟨u, rfl⟩, q⟩) h4
end
end L2
set_option maxRecDepth 100000
set_option maxHeartbeats 4000000
namespace L2
open PySem PySem.Spec PyProof.Rows
def Swaps3 (fd : FuncData) (a b c : Str) : Prop := ∀ (s : Shared) (v u z : Value), BindsTo s fd ⟨[], [(c, v), (b, u), (a, z)]⟩ [(a, z), (b, u), (c, v)]
theorem Fun.swaps3 {K : PySem.W.Frag} {x qual : Str} {st : Stmt} {f : Addr} {fd : FuncData} {a b c : Str} (F : Fun K x qual st f fd)
    (h : ∀ (kV doc pm : Value) (an : Option Addr) (cdv ct v u z : Value), bindArgs (PySem.W.fnOf x qual (defArgs st) (defBody st) (defScope st) .none kV doc pm an cdv ct) ⟨[], [(c, v), (b, u), (a, z)]⟩ = pure [(a, z), (b, u), (c, v)]) : Swaps3 fd a b c := by
  obtain ⟨oc, od, kV, doc, pm, an, cdv, ct, osl, rfl, lk, hcd⟩ := F.ex
  exact fun s v u z => BindsTo.of_eq (h kV doc pm an cdv ct v u z)
def tSw3 (sp : Sp) (E : XK) (t1 t2 t3 : TE) : TE := fun σ H Q => tCons t1 (tCons t2 (tCons t3 tNil)) σ H fun zs H2 => sp zs.reverse H2 Q E
section
variable {X : Cx} {CX : CXT} {k : Nat} {f : Addr} {fd : FuncData} {a b c : Str} {sp : Sp} {E : XK} {x : Str} {p p1 p2 p3 pos : Pos} {e1 e2 e3 : Expr} {t1 t2 t3 : TE}
theorem run_sw3 {pins : List (Addr × Obj)} {σ : St} {H : Hp} {s : Shared} {Q : VK} {v u z : V} {v' u' z' : Value} (F : FnOk X.prog X.w X.K X.mg X.base CX k f fd [a, b, c] sp) (hr : Room k X.A) (hb : Swaps3 fd a b c) (hx : Passes CX X E)
    (I : Inv X pins σ H s) (r1 : RelV v v') (r2 : RelV u u') (r3 : RelV z z') (h : sp [z, u, v] H Q E) : wpAny (model X.prog X.w) X.A (call (.ref f) [] [(c, v'), (b, u'), (a, z')]) (EP X pins σ Q) X.xe s := by
  refine wpAny_call (codeAny_mono (F.run X.A X.stack s H ⟨[], [(c, v'), (b, u'), (a, z')]⟩ [z', u', v'] [z, u, v] Q E hr I.env0 (hb s v' u' z') (.cons r3 (.cons r2 (.cons r1 .nil))) h) fun r s' hq => ?_)
  cases r with
  | error e => exact hx pins σ H s e s' I hq
  | ok fl =>
    cases fl with
    | ret u => exact I.after hq
    | next => exact False.elim hq
    | brk => exact False.elim hq
    | cont => exact False.elim hq
theorem pe_callSw3 (F : FnOk X.prog X.w X.K X.mg X.base CX k f fd [a, b, c] sp) (hr : Room k X.A) (hg : Gl X x) (hm : X.mg x = some (.ref f)) (hk : PySem.W.keepIn X.K (.ref f) = true) (hb : Swaps3 fd a b c) (hx : Passes CX X E)
    (h1 : PE X e1 t1) (h2 : PE X e2 t2) (h3 : PE X e3 t3) (hdb : (x == ("__debug__" : Str)) = false := by decide)
    (hall : (backToKw pos (keywordEach [⟨some c, e1, p1⟩, ⟨some b, e2, p2⟩, ⟨some a, e3, p3⟩] X.env)).all (·.1.isSome) = true := by rfl) (hks : (backToKw pos (keywordEach [⟨some c, e1, p1⟩, ⟨some b, e2, p2⟩, ⟨some a, e3, p3⟩] X.env)).filterMap (·.1) = [c, b, a] := by rfl)
    (hpl : ((backTo pos (starEach [] X.env)).any (·.1) || (backToKw pos (keywordEach [⟨some c, e1, p1⟩, ⟨some b, e2, p2⟩, ⟨some a, e3, p3⟩] X.env)).any (·.1.isNone)) = false := by rfl) :
    PE X (.Call (.Name x p) [] [⟨some c, e1, p1⟩, ⟨some b, e2, p2⟩, ⟨some a, e3, p3⟩] pos) (tSw3 sp E t1 t2 t3) := by
  refine ⟨fun pins s σ H Q I h => ?_⟩
  refine wpAny_Call_Name_kw (ld_glob I hg hm ?_ hdb)
  refine PySem.W.callWith_KW0 (h₀ := X.base) I.ok.mod.kin hk hall ?_ hpl
  refine thn ((pk_cons h1 (pk_cons h2 (pk_cons h3 pk_nil))).run pos pins s σ H _ I h) fun ws s2 ⟨zs, H2, J, rz, q⟩ => ⟨J.kIn, ?_⟩
  rw [hks]
  have hl := F.len _ _ _ _ q
  rw [List.length_reverse] at hl
  cases rz with
  | nil => exact absurd hl (by simp)
  | cons r1 rz =>
    cases rz with
    | nil => exact absurd hl (by simp)
    | cons r2 rz =>
      cases rz with
      | nil => exact absurd hl (by simp)
      | cons r3 rz =>
        cases rz with
        | nil => exact run_sw3 F hr hb hx J r1 r2 r3 q
        | cons r4 rz => exact absurd hl (by simp)
end
end L2
set_option maxRecDepth 100000
set_option maxHeartbeats 4000000
namespace L2
open PySem PySem.Spec PyProof.Rows
structure MetAt (K : PySem.W.Frag) (x qual : Str) (st : Stmt) (ps : List Str) (C : Addr) where
  a : Addr
  fd : FuncData
  F : Fun K x qual st a fd
  i : PySem.W.findIn K (.ref C) x = some (some (.ref a))
  n : PySem.W.isFn K (.ref a) = true
  b : Binds K fd ps []
inductive EqY (K : PySem.W.Frag) (H : Hp) (C : Addr) : V → Prop where
  | int (i : Int) : EqY K H C (.int i)
  | ins {b dy : Addr} {fs : List (Str × V)} (h : H b = some (.ins C dy fs)) : EqY K H C (.ref b)
  | lst {b : Addr} {xs : List V} (h : SqL K H b xs) : EqY K H C (.ref b)
  | tup {b : Addr} {xs : List V} (h : SqT K H b xs) : EqY K H C (.ref b)
theorem eo_sub {K : PySem.W.Frag} {C : Addr} {T : String} {l : List String} (e : fastBuiltinMro T = some (l.map Value.type)) : PySem.W.notFirst K C (.type T) = true := by
  have h : PySem.W.subIn K (.type T) (.ref C) = some false := by
    show (fastBuiltinMro T).map (·.contains (.ref C)) = some false
    rw [e]
    show some ((l.map Value.type).contains (.ref C)) = some false
    congr 1
    induction l with
    | nil => rfl
    | cons a l ih => 
      clear e
      show (((Value.ref C) == Value.type a) || (l.map Value.type).contains (.ref C)) = false
      have z : ∀ l : List String, (l.map Value.type).contains (.ref C) = false := fun l => by
        induction l with
        | nil => rfl
        | cons b l ih2 => exact (Bool.or_eq_false_iff.mpr ⟨rfl, ih2⟩)
      exact Bool.or_eq_false_iff.mpr ⟨rfl, z l⟩
  unfold PySem.W.notFirst
  rw [h]
  exact Bool.or_true _
theorem eo_at {M : Model} {h : Heap} {a : Addr} {o : Obj} (ho : h.get? a = some o) : PySem.W.Looks M h (typeOf (.ref a)) o.cls := (PySem.W.Looks.ld ho).andThen .now
theorem EqY.looks {X : Cx} {pins : List (Addr × Obj)} {σ : St} {H : Hp} {s : Shared} {C : Addr} {y : V} {u : Value} (h : EqY X.K H C y) (I : Inv X pins σ H s) (r : RelV y u) :
    ∃ tb, (∀ M : Model, PySem.W.Looks M s.heap (typeOf u) tb) ∧ PySem.W.notFirst X.K C tb = true := by
  cases h with
  | int i =>
    obtain ⟨t, e⟩ := (show ∃ t, u = Value.int i t from r)
    subst e
    exact ⟨.type "int", fun M => .of_pure rfl, eo_sub (l := ["int", "object"]) (by decide +kernel)⟩
  | ins h =>
    cases (show u = Value.ref _ from r)
    obtain ⟨mB, J', _⟩ := ins_get I.hok h
    obtain ⟨od', J', _⟩ := J'.look
    exact ⟨.ref C, fun M => J'.type, by simp [PySem.W.notFirst]⟩
  | lst h =>
    cases (show u = Value.ref _ from r)
    obtain ⟨its, rl, pl, hz⟩ := I.list h
    obtain ⟨o, n, ho, hc, _⟩ := pl
    exact ⟨.type "list", fun M => hc ▸ eo_at ho, eo_sub (l := ["list", "object"]) (by decide +kernel)⟩
  | tup h =>
    cases (show u = Value.ref _ from r)
    obtain ⟨its, rl, ⟨o, ho, hc, pl⟩, hz⟩ := I.tuple h
    exact ⟨.type "tuple", fun M => hc ▸ eo_at ho, eo_sub (l := ["tuple", "object"]) (by decide +kernel)⟩
def rEqO (K : PySem.W.Frag) (C : Addr) (sp : Sp) (E : XK) : R2 := fun x y H Q => ∃ a dx fs, x = .ref a ∧ H a = some (.ins C dx fs) ∧ EqY K H C y ∧ sp [x, y] H Q E
section
variable {X : Cx} {CX : CXT} {k : Nat} {C f : Addr} {fd : FuncData} {ps : List Str} {sp : Sp} {E : XK}
theorem eo_run {A : Around} {pins : List (Addr × Obj)} {σ : St} {H : Hp} {s : Shared} {x y : V} {u v : Value} {Q : VK} (F : FnOk X.prog X.w X.K X.mg X.base CX k f fd ps sp) (hb : Binds X.K fd ps []) (hx : Passes CX X E) (hr : Room k A) (hf : A.frames = X.A.frames)
    (I : Inv X pins σ H s) (rx : RelV x u) (ry : RelV y v) (h : sp [x, y] H Q E) : wpAny (model X.prog X.w) A (call (.ref f) [u, v]) (EP X pins σ Q) X.xe s := by
  have e0 : Env0 X.prog X.w X.K X.mg X.base A X.stack s H := by
    have e := I.env0
    exact ⟨by rw [hf]; exact e.frames, e.mod, e.bs, e.bsz, e.funs, e.frf, e.hok, e.bare⟩
  have hl := F.len _ _ _ _ h
  refine wpAny_call (codeAny_mono (F.run A X.stack s H ⟨[u, v], []⟩ [u, v] [x, y] Q E hr e0 (by
    have := hb s [u, v] I.kIn (by simpa using hl)
    simpa using this) (.cons rx (.cons ry .nil)) h) fun r s' hq => ?_)
  cases r with
  | error e => exact hx pins σ H s e s' I hq
  | ok fl =>
    cases fl with
    | ret w => exact I.after hq
    | next => exact False.elim hq
    | brk => exact False.elim hq
    | cont => exact False.elim hq
theorem op_eqO (F : FnOk X.prog X.w X.K X.mg X.base CX k f fd ps sp) (hs : PySem.W.findIn X.K (.ref C) "__eq__" = some (some (.ref f))) (hfn : PySem.W.isFn X.K (.ref f) = true) (hb : Binds X.K fd ps []) (hr : Room k X.A) (hx : Passes CX X E) :
    OpR X (compareOp .Eq) (rEqO X.K C sp E) := by
  intro pins s σ H x y v u Q I rx ry h
  obtain ⟨a, dx, fs, rfl, ha, hy, q⟩ := h
  cases (show v = Value.ref a from rx)
  obtain ⟨mA, J, _⟩ := ins_get I.hok ha
  obtain ⟨od, J, _⟩ := J.look
  obtain ⟨tb, lk, nf⟩ := hy.looks I ry
  obtain ⟨m, hF⟩ := I.fr
  show wpAny (model X.prog X.w) X.A (richCompare .Eq (.ref a) u) (EP X pins σ Q) X.xe s
  refine PySem.W.cmp_K (op := .Eq) (tb := tb) hr.units0 hF I.ok.mod.kin J (lk _) nf hs hfn ?_
  refine wpAny_mono (eo_run F hb hx hr rfl I (show RelV (.ref a) (.ref a) from rfl) ry q) (fun w s' z => ?_) fun _ _ x => x
  obtain ⟨z', H', I', rz, qz⟩ := z
  exact SlX.cmpback rz ⟨z', H', I', rz, qz⟩
end
end L2
namespace EoN
open PySem PySem.Spec PyProof.Rows PySem.SeqAt
section
variable {M : Model} {prog : Program} {w : World} {A : Around} {E : Value → Shared → Prop} {s : Shared} {K : PySem.W.Frag} {x C f : Addr} {ox : Obj} {od : Option Obj} {b : Value}
theorem entry_ne {Q : Fin → Shared → Prop} (hu : A.units < cLine) (X : K.In s.heap) (I : PySem.W.InstAt s.heap x ox C od) (hs : PySem.W.findIn K (.ref C) "__eq__" = some (some (.ref f))) (hf : PySem.W.isFn K (.ref f) = true)
    (hcall : wpAny (model prog w) A (call (.ref f) [.ref x, b]) (fun v s' => ∃ c, v = .bool c ∧ Q (.done (.ret (.bool (!c)))) s') E s) :
    wpAny (model prog w) A (Builtin.«object.__ne__» ⟨[.ref x, b], []⟩) Q E s := by
  unfold Builtin.«object.__ne__»
  repeat (first
    | with_reducible refine wpAny_cRoomFor hu ?_
    | (refine wpAny_bind (m := callSpecialIfBound? (.ref x) (Str.ofString "__eq__") [b])
        (PySem.W.ifBound_K X I hs hf (wpAny_mono hcall (fun r s' hr => by
          obtain ⟨c, rfl, hq⟩ := hr
          repeat (first | exact hq | exact wpAny_pure hq | exact wpAny_truthy_bool hq | (refine wpAny_bind (m := truthy (.bool _)) (wpAny_truthy_bool ?_)) | wp_step)) fun _ _ e => e)))
    | wp_step)
theorem call_ne {Q : Value → Shared → Prop} (hu : A.in1.units < cLine) (X : K.In s.heap) (I : PySem.W.InstAt s.heap x ox C od) (hm : PySem.W.mroIn K C (.type "object") = some true) (hs : PySem.W.findIn K (.ref C) "__eq__" = some (some (.ref f))) (hf : PySem.W.isFn K (.ref f) = true)
    (hcall : wpAny (model prog w) A.in1 (call (.ref f) [.ref x, b]) (fun v s' => ∃ c, v = .bool c ∧ Q (.bool (!c)) s') E s) :
    wpAny (model prog w) A (call (.builtin "object.__ne__") [.ref x, b]) Q E s :=
  wpAny_call (codeAny_call_builtin F.cmp_object.ne.plain F.cmpEntry_ne (PySem.W.check_slot F.cmpKind_ne F.cmpSplit_ne (I.type.andThen (PySem.W.looks_mroIn X hm)) (F.cmpArgs_ne _ _) (entry_ne hu X I hs hf hcall)))
theorem ifBound_ne {args : List Value} {Q : Option Value → Shared → Prop} (X : K.In s.heap) (I : PySem.W.InstAt s.heap x ox C od) (hs : PySem.W.findIn K (.ref C) "__ne__" = some (some (.builtin "object.__ne__")))
    (h : wpAny M A (call (.builtin "object.__ne__") (.ref x :: args)) (fun v => Q (some v)) E s) : wpAny M A (callSpecialIfBound? (.ref x) "__ne__" args) Q E s := by
  simp only [callSpecialIfBound?, bindSpecialIfBound?]
  refine wpAny_holding (wpAny_bind (wpAny_bind (wpAny_bind (I.type.here ((PySem.W.looks_findIn X hs).here ?_)))))
  refine wpAny_bind (wpAny_askSetting (wpAny_ite ?_))
  have fin : wpAny M A (call (.builtin "object.__ne__") ([.ref x] ++ args) >>= fun v => pure (some v)) Q E s := wpAny_bind (wpAny_mono h (fun v s' h' => wpAny_pure h') fun _ _ h' => h')
  split
  · exact wpAny_bind (wpAny_of_eq (F.cmp_object.ne.bind _) (wpAny_pure (by exact fin)))
  · exact wpAny_tryCatch (wpAny_bind (wpAny_of_eq (F.cmp_object.ne.bind _) (wpAny_pure (by exact fin))))
theorem rc_ne {y : Value} {tb : Value} {Q : Value → Shared → Prop} (hu : A.units < cLine) (hu1 : A.in1.units < cLine) (X : K.In s.heap) (I : PySem.W.InstAt s.heap x ox C od) (hb : PySem.W.Looks (model prog w) s.heap (typeOf y) tb) (hn : PySem.W.notFirst K C tb = true)
    (hm : PySem.W.mroIn K C (.type "object") = some true) (hne : PySem.W.findIn K (.ref C) "__ne__" = some (some (.builtin "object.__ne__"))) (hs : PySem.W.findIn K (.ref C) "__eq__" = some (some (.ref f))) (hf : PySem.W.isFn K (.ref f) = true)
    (hcall : wpAny (model prog w) A.in1 (call (.ref f) [.ref x, y]) (fun v s' => ∃ c, v = .bool c ∧ Q (.bool (!c)) s') E s) : wpAny (model prog w) A (richCompare .NotEq (.ref x) y) Q E s := by
  have one : wpAny (model prog w) A (tryCompare (.ref x) "__ne__" y) (fun r s' => ∃ v, r = some v ∧ Q v s') E s := by
    unfold tryCompare
    refine wpAny_bind (ifBound_ne X I hne (call_ne hu1 X I hm hs hf (wpAny_mono hcall (fun v s' hv => ?_) fun _ _ e => e)))
    obtain ⟨c, rfl, hq⟩ := hv
    exact ⟨c, rfl, wpAny_pure ⟨_, rfl, hq⟩⟩
  unfold richCompare
  simp only [oneThing_ref]
  refine wpAny_holding (wpAny_bind (wpAny_cRoomFor hu ?_))
  refine wpAny_bind (I.type.here (wpAny_bind (hb.here ?_)))
  split
  · rename_i q
    have e : PySem.W.subIn K tb (.ref C) = some false := by
      rcases Bool.or_eq_true_iff.mp hn with e | e
      · rw [beq_iff_eq.mp e] at q; simp at q
      · exact beq_iff_eq.mp e
    refine wpAny_bind ((PySem.W.looks_subIn X e).here ?_)
    simp only [Bool.false_eq_true, if_false]
    refine wpAny_bind (wpAny_mono one (fun r s' z => ?_) fun _ _ e => e)
    obtain ⟨v, rfl, hq⟩ := z
    exact wpAny_pure hq
  · refine wpAny_bind (wpAny_pure ?_)
    simp only [Bool.false_eq_true, if_false]
    refine wpAny_bind (wpAny_mono one (fun r s' z => ?_) fun _ _ e => e)
    obtain ⟨v, rfl, hq⟩ := z
    exact wpAny_pure hq
end
end EoN
namespace L2
open PySem PySem.Spec PyProof.Rows
def rNeO (K : PySem.W.Frag) (C : Addr) (sp : Sp) (E : XK) : R2 := fun x y H Q => ∃ a dx fs, x = .ref a ∧ H a = some (.ins C dx fs) ∧ EqY K H C y ∧ sp [x, y] H (fun v H' => ∃ c, v = .bl c ∧ Q (.bl (!c)) H') E
section
variable {X : Cx} {CX : CXT} {k : Nat} {C f : Addr} {fd : FuncData} {ps : List Str} {sp : Sp} {E : XK}
theorem op_neO (F : FnOk X.prog X.w X.K X.mg X.base CX k f fd ps sp) (hs : PySem.W.findIn X.K (.ref C) "__eq__" = some (some (.ref f))) (hfn : PySem.W.isFn X.K (.ref f) = true) (hb : Binds X.K fd ps [])
    (hne : PySem.W.findIn X.K (.ref C) "__ne__" = some (some (.builtin "object.__ne__"))) (hm : PySem.W.mroIn X.K C (.type "object") = some true) (hr : Room (k + 1) X.A) (hx : Passes CX X E) : OpR X (compareOp .NotEq) (rNeO X.K C sp E) := by
  intro pins s σ H x y v u Q I rx ry h
  obtain ⟨a, dx, fs, rfl, ha, hy, q⟩ := h
  cases (show v = Value.ref a from rx)
  obtain ⟨mA, J, _⟩ := ins_get I.hok ha
  obtain ⟨od, J, _⟩ := J.look
  obtain ⟨tb, lk, nf⟩ := hy.looks I ry
  have hr1 : Room k X.A.in1 := hr.in1
  show wpAny (model X.prog X.w) X.A (richCompare .NotEq (.ref a) u) (EP X pins σ Q) X.xe s
  refine EoN.rc_ne hr.units0 hr1.units0 I.kIn J (lk _) nf hm hne hs hfn ?_
  refine wpAny_mono (eo_run F hb hx hr1 rfl I (show RelV (.ref a) (.ref a) from rfl) ry q) (fun w s' z => ?_) fun _ _ x => x
  obtain ⟨z', H', I', rz, c, ez, qz⟩ := z
  subst ez
  cases (show w = Value.bool c from rz)
  exact ⟨c, rfl, .bl (!c), H', I', rfl, qz⟩
end
end L2
set_option maxRecDepth 100000
set_option maxHeartbeats 4000000
namespace L2
open PySem PySem.Spec PyProof.Rows
def dflI (K : PySem.W.Frag) (dV : Value) (i : Int) : Bool := match dV with
  | .ref T => (match K.lookup T with
    | some ⟨_, _, .seq its _, _⟩ => (match its.toList with
      | [.int j _] => decide (i = j)
      | _ => false)
    | _ => false)
  | _ => false
theorem dflI_ok {K : PySem.W.Frag} {dV : Value} {i : Int} (h : dflI K dV i = true) : DflV K dV [.int i] := by
  unfold dflI at h
  split at h
  · rename_i T
    split at h
    · rename_i its n _ lk
      split at h
      · rename_i j t e
        refine .inr ⟨by simp, T, _, [.int j t], n, rfl, lk, ?_, .cons ⟨t, by rw [of_decide_eq_true h]⟩ .nil⟩
        rw [← e]
      · cases h
    · cases h
  · cases h
structure MetD (K : PySem.W.Frag) (x qual : Str) (st : Stmt) (ps : List Str) (dvs : List V) (C : Addr) where
  a : Addr
  fd : FuncData
  F : FunD K x qual (defArgs st) (defBody st) (defScope st) dvs [] a fd
  i : PySem.W.findIn K (.ref C) x = some (some (.ref a))
  n : PySem.W.isFn K (.ref a) = true
  b : ∃ ds, Vals dvs ds ∧ Binds K fd ps ds
theorem funD_mk {K : PySem.W.Frag} {x qual : Str} {st : Stmt} {oc : Value} {od : Option Addr} {dV kV doc pm : Value} {an : Option Addr} {cdv ct : Value} {osl : Array (Option Value)} {f : Addr} {i : Int}
    (l : K.lookup f = some ⟨oc, od, .func (PySem.W.fnOf x qual (defArgs st) (defBody st) (defScope st) dV kV doc pm an cdv ct), osl⟩) (c : PySem.W.codeIn K cdv qual = true) (k : PySem.W.keepIn K (.ref f) = true) (d : dflI K dV i = true) :
    FunD K x qual (defArgs st) (defBody st) (defScope st) [.int i] [] f (PySem.W.fnOf x qual (defArgs st) (defBody st) (defScope st) dV kV doc pm an cdv ct) :=
  ⟨⟨oc, od, dV, kV, doc, pm, an, cdv, ct, osl, rfl, l, c, dflI_ok d, .inl rfl⟩, k⟩
theorem meth_of {K : PySem.W.Frag} {C a : Addr} {x : Str} (i : PySem.W.findIn K (.ref C) x = some (some (.ref a))) (n : PySem.W.isFn K (.ref a) = true) (k : PySem.W.keepIn K (.ref a) = true) : Meth K C x a := ⟨i, n, k⟩
end L2
set_option maxRecDepth 100000
set_option maxHeartbeats 4000000
namespace L2
open PySem PySem.Spec PyProof.Rows
open PySem.W (alike alikeAll minD min_list_data)
def rowD (m : List Int) : PyData := .tuple (m.map PyData.int)
theorem alike_ints : ∀ a b : List Int, alikeAll (a.map PyData.int) (b.map PyData.int) = true
  | [], _ => by simp [alikeAll]
  | _ :: _, [] => by simp [alikeAll]
  | x :: a, y :: b => by
    show (alike (.int x) (.int y) && alikeAll (a.map PyData.int) (b.map PyData.int)) = true
    rw [alike_ints a b]
    rfl
theorem depth_ints : ∀ a : List Int, PyData.depthAll (a.map PyData.int) = 0
  | [] => rfl
  | x :: a => by
    show max 0 (PyData.depthAll (a.map PyData.int)) = 0
    rw [depth_ints a]
    rfl
theorem depth_rows : ∀ rs : List (List Int), PyData.depthAll (rs.map rowD) ≤ 1
  | [] => Nat.zero_le _
  | r :: rs => by
    show max (PyData.depthAll (r.map PyData.int) + 1) (PyData.depthAll (rs.map rowD)) ≤ 1
    rw [depth_ints r]
    have := depth_rows rs
    omega
theorem rowD_inj {a b : List Int} (h : rowD a = rowD b) : a = b := by
  unfold rowD at h
  injection h with h
  induction a generalizing b with
  | nil =>
    cases b with
    | nil => rfl
    | cons y b => cases h
  | cons x a ih =>
    cases b with
    | nil => cases h
    | cons y b =>
      rw [List.map_cons, List.map_cons] at h
      injection h with h1 h2
      injection h1 with h1
      rw [h1, ih h2]
theorem pair_at {α β : Type} {F : α → β → Prop} : ∀ {l : List α} {k : List β}, Paired F l k → ∀ {i : Nat} {a : α} {b : β}, l[i]? = some a → k[i]? = some b → F a b
  | _, _, .nil, i, a, b, h, _ => by simp at h
  | _, _, .cons r _, 0, a, b, h, g => by
    simp at h g
    subst h
    subst g
    exact r
  | _, _, .cons _ t, i + 1, a, b, h, g => pair_at t (by simpa using h) (by simpa using g)
section
variable {X : Cx}
theorem dpAll_intsL {K : PySem.W.Frag} (H : Hp) : ∀ ls : List Int, DpAll K H (ls.map V.int) (ls.map PyData.int)
  | [] => .nil
  | a :: l => .cons (.int a) (dpAll_intsL H l)
theorem dpAll_rows {K : PySem.W.Frag} {H : Hp} : ∀ {ps : List Addr} {rows : List (List Int)}, Paired (fun p m => SqT K H p (m.map V.int)) ps rows → DpAll K H (ps.map V.ref) (rows.map rowD)
  | _, _, .nil => .nil
  | _, _, .cons h t => .cons (.tup h (dpAll_intsL H _)) (dpAll_rows t)
def rMinT (K : PySem.W.Frag) : List V → Hp → VK → Prop := fun vs H Q => ∃ (l : Addr) (ps : List Addr) (r0 : List Int) (rs : List (List Int)), vs = [.ref l] ∧ SqL K H l (ps.map V.ref) ∧ Paired (fun p m => SqT K H p (m.map V.int)) ps (r0 :: rs) ∧
  ∀ (i : Nat) (p : Addr), ps[i]? = some p → (∀ m, (r0 :: rs)[i]? = some m → rowD m = minD (rowD r0) (rs.map rowD)) → Q (.ref p) H
theorem cr_minT (hc : X.calm = true) (hu : X.A.units + 64 < cLine) : CallR X (.builtin "min") (rMinT X.K) := by
  intro pins s σ H vs us Q I r h
  obtain ⟨l, ps, r0, rs, rfl, hs, hp, q⟩ := h
  obtain ⟨its, rv, hl, _⟩ := I.list hs
  rw [Vals.ref1 r]
  obtain ⟨as, hr⟩ := Dp.readsAll I _ _ its (dpAll_rows hp) rv
  have hd := depth_rows (r0 :: rs)
  refine min_list_data (I.ok.hd hc) hl.isList (x := rowD r0) (xs := rs.map rowD) (as := as) hr ⟨fun x hx y hy => ?_, fun x hx => ?_⟩ (by show X.A.units + 1 + PyData.depthAll ((r0 :: rs).map rowD) < cLine; omega) fun i v h' tk bs hv hm hk => ?_
  · obtain ⟨a, _, rfl⟩ := List.mem_map.mp (show x ∈ (r0 :: rs).map rowD from hx)
    obtain ⟨b, _, rfl⟩ := List.mem_map.mp (show y ∈ (r0 :: rs).map rowD from hy)
    exact alike_ints a b
  · obtain ⟨a, _, rfl⟩ := List.mem_map.mp (show x ∈ (r0 :: rs).map rowD from hx)
    exact fun z => by cases z
  · have hv' : its[i]? = some v := by simpa using hv
    have hi : i < ps.length := by
      have h1 := (List.getElem?_eq_some_iff.mp hv').1
      have h2 := rv.length
      rw [List.length_map] at h2
      omega
    obtain ⟨v2, e2, rel⟩ := rv.get (i := i) (x := V.ref ps[i]) (by simp [hi])
    rw [hv'] at e2
    cases e2
    obtain rfl : v = .ref ps[i] := rel
    refine ⟨.ref ps[i], H, I.kept (t' := tk) hk, rfl, q i ps[i] (List.getElem?_eq_getElem hi) fun m hm2 => ?_⟩
    obtain ⟨as0, r0'⟩ := Dp.reads I (rowD m) (.ref ps[i]) (.ref ps[i]) (.tup (pair_at hp (List.getElem?_eq_getElem hi) hm2) (dpAll_intsL H m)) rfl
    exact (reads_det (fun b o e _ => hk b o e) r0' hm).1.symm
end
end L2
set_option maxRecDepth 100000
set_option maxHeartbeats 4000000
namespace L2
open PySem PySem.Spec PyProof.Rows
def Swaps1 (fd : FuncData) (a : Str) : Prop := ∀ (s : Shared) (z : Value), BindsTo s fd ⟨[], [(a, z)]⟩ [(a, z)]
theorem Fun.swaps1 {K : PySem.W.Frag} {x qual : Str} {st : Stmt} {f : Addr} {fd : FuncData} {a : Str} (F : Fun K x qual st f fd)
    (h : ∀ (kV doc pm : Value) (an : Option Addr) (cdv ct z : Value), bindArgs (PySem.W.fnOf x qual (defArgs st) (defBody st) (defScope st) .none kV doc pm an cdv ct) ⟨[], [(a, z)]⟩ = pure [(a, z)]) : Swaps1 fd a := by
  obtain ⟨oc, od, kV, doc, pm, an, cdv, ct, osl, rfl, lk, hcd⟩ := F.ex
  exact fun s z => BindsTo.of_eq (h kV doc pm an cdv ct z)
def tSw1 (sp : Sp) (E : XK) (t1 : TE) : TE := fun σ H Q => tCons t1 tNil σ H fun zs H2 => sp zs.reverse H2 Q E
section
variable {X : Cx} {CX : CXT} {k : Nat} {f : Addr} {fd : FuncData} {a : Str} {sp : Sp} {E : XK} {x : Str} {p p1 pos : Pos} {e1 : Expr} {t1 : TE}
theorem run_sw1 {pins : List (Addr × Obj)} {σ : St} {H : Hp} {s : Shared} {Q : VK} {z : V} {z' : Value} (F : FnOk X.prog X.w X.K X.mg X.base CX k f fd [a] sp) (hr : Room k X.A) (hb : Swaps1 fd a) (hx : Passes CX X E)
    (I : Inv X pins σ H s) (r1 : RelV z z') (h : sp [z] H Q E) : wpAny (model X.prog X.w) X.A (call (.ref f) [] [(a, z')]) (EP X pins σ Q) X.xe s := by
  refine wpAny_call (codeAny_mono (F.run X.A X.stack s H ⟨[], [(a, z')]⟩ [z'] [z] Q E hr I.env0 (hb s z') (.cons r1 .nil) h) fun r s' hq => ?_)
  cases r with
  | error e => exact hx pins σ H s e s' I hq
  | ok fl =>
    cases fl with
    | ret u => exact I.after hq
    | next => exact False.elim hq
    | brk => exact False.elim hq
    | cont => exact False.elim hq
theorem pe_callSw1 (F : FnOk X.prog X.w X.K X.mg X.base CX k f fd [a] sp) (hr : Room k X.A) (hg : Gl X x) (hm : X.mg x = some (.ref f)) (hk : PySem.W.keepIn X.K (.ref f) = true) (hb : Swaps1 fd a) (hx : Passes CX X E)
    (h1 : PE X e1 t1) (hdb : (x == ("__debug__" : Str)) = false := by decide)
    (hall : (backToKw pos (keywordEach [⟨some a, e1, p1⟩] X.env)).all (·.1.isSome) = true := by rfl) (hks : (backToKw pos (keywordEach [⟨some a, e1, p1⟩] X.env)).filterMap (·.1) = [a] := by rfl)
    (hpl : ((backTo pos (starEach [] X.env)).any (·.1) || (backToKw pos (keywordEach [⟨some a, e1, p1⟩] X.env)).any (·.1.isNone)) = false := by rfl) :
    PE X (.Call (.Name x p) [] [⟨some a, e1, p1⟩] pos) (tSw1 sp E t1) := by
  refine ⟨fun pins s σ H Q I h => ?_⟩
  refine wpAny_Call_Name_kw (ld_glob I hg hm ?_ hdb)
  refine PySem.W.callWith_KW0 (h₀ := X.base) I.ok.mod.kin hk hall ?_ hpl
  refine thn ((pk_cons h1 pk_nil).run pos pins s σ H _ I h) fun ws s2 ⟨zs, H2, J, rz, q⟩ => ⟨J.kIn, ?_⟩
  rw [hks]
  have hl := F.len _ _ _ _ q
  rw [List.length_reverse] at hl
  cases rz with
  | nil => exact absurd hl (by simp)
  | cons r1 rz =>
    cases rz with
    | nil => exact run_sw1 F hr hb hx J r1 q
    | cons r4 rz => exact absurd hl (by simp)
end
theorem dataLe_tups {β : Type} (x : β → List Int) : PySem.W.dataLe false (fun b => rowD (x b)) = fun p q => decide (x p ≤ x q) := by
  funext p q
  have e := congrFun (congrFun (PySem.W.dataLe_rows x) p) q
  rw [← e]
  show (!PySem.W.dataLt (.tuple ((x q).map PyData.int)) (.tuple ((x p).map PyData.int))) = !PySem.W.dataLt (.list ((x q).map PyData.int)) (.list ((x p).map PyData.int))
  rw [PySem.W.dataLt_tuple, PySem.W.dataLt_list]
def rSortTW (K : PySem.W.Frag) : List V → Hp → VK → Prop := fun vs H Q => ∃ (l : Addr) (bs : List (Addr × List Int)), vs = [.ref l] ∧ SqL K H l (bs.map fun b => V.ref b.1) ∧ (∀ b ∈ bs, b.2 ≠ [] ∧ SqT K H b.1 (b.2.map V.int)) ∧
  ∀ (bs' : List (Addr × List Int)) (p : Addr), bs'.Perm bs → bs'.Pairwise (fun a b => a.2 ≤ b.2) → H p = none → Q (.ref p) (upd H p (.lst (bs'.map fun b => V.ref b.1)))
theorem each_of {R : Value → Addr × List Int → Prop} (h : ∀ b : Addr × List Int, R (.ref b.1) b) : ∀ {bs : List (Addr × List Int)} {its : List Value}, Vals (bs.map fun b => V.ref b.1) its → PySem.W.EachIs R its bs
  | [], _, r => by
    cases r
    exact .nil
  | b :: bs, _, r => by
    cases r with
    | cons r1 r2 =>
      obtain rfl := r1
      exact .cons (h b) (each_of h r2)
theorem vals_each : ∀ {bs : List (Addr × List Int)} {its : List Value}, PySem.W.EachIs (fun v (b : Addr × List Int) => v = .ref b.1) its bs → Vals (bs.map fun b => V.ref b.1) its
  | _, _, .nil => .nil
  | _, _, .cons h t => by
    subst h
    exact .cons rfl (vals_each t)
section
variable {X : Cx}
theorem cr_sortedTW (hu : X.A.units + 64 < cLine) : CallR X (.builtin "sorted") (rSortTW X.K) := by
  intro pins s σ H vs us Q I r h
  obtain ⟨l, bs, rfl, hs, hb, q⟩ := h
  obtain ⟨its, rv, hl, hz⟩ := I.list hs
  rw [Vals.ref1 r]
  have lb : bs.length ≤ sizeLine := by rw [List.length_map] at hz; exact hz
  refine PySem.W.sorted_data (R := fun v (b : Addr × List Int) => v = .ref b.1) (enc := fun b => rowD b.2) hl.isList (each_of (fun _ => rfl) rv) ?_ ?_ ?_ lb (fun b _ => ?_) fun out ho eo => ?_
  · have e1 : PySem.W.EachIs (fun v (b : Addr × List Int) => v = .ref b.1) its bs := each_of (fun _ => rfl) rv
    refine (PySem.W.each_mem e1).mono fun v b ⟨e, hm⟩ => ?_
    subst e
    obtain ⟨as, r2⟩ := Dp.reads I (rowD b.2) (.ref b.1) (.ref b.1) (.tup (hb b hm).2 (dpAll_intsL H b.2)) rfl
    exact ⟨as, r2⟩
  · exact PySem.W.AllAlike.of fun b b' => PySem.W.alike_ints b.2 b'.2
  · refine .inl fun d hd => ?_
    obtain ⟨b, hm, rfl⟩ := List.mem_map.mp hd
    cases e : b.2 with
    | nil => exact absurd e (hb b hm).1
    | cons x m => exact ⟨.int x, m.map PyData.int, by show rowD _ = _; first | rfl | (rw [e]; rfl)⟩
  · have hd : (rowD b.2).depth = 1 := by
      show PyData.depthAll (b.2.map PyData.int) + 1 = 1
      rw [PySem.W.depth_ints]
    rw [hd]
    omega
  · obtain ⟨ep, he'⟩ := PyProof.Rows.sortedAll_at s.heap its out.toArray
    have hp := List.mergeSort_perm bs (PySem.W.dataLe false fun b : Addr × List Int => rowD b.2)
    have hw : (bs.mergeSort (PySem.W.dataLe false fun b : Addr × List Int => rowD b.2)).Pairwise (fun a b => a.2 ≤ b.2) := by
      rw [dataLe_tups (fun b : Addr × List Int => b.2)]
      refine (List.pairwise_mergeSort (le := fun p q : Addr × List Int => decide (p.2 ≤ q.2)) (fun a b c h1 h2 => ?_) (fun a b => ?_) bs).imp fun h => of_decide_eq_true h
      · exact decide_eq_true (List.le_trans (of_decide_eq_true h1) (of_decide_eq_true h2))
      · rcases List.le_total a.2 b.2 with h | h
        · rw [decide_eq_true h]
          rfl
        · rw [decide_eq_true h, Bool.or_true]
    have hv := vals_each eo
    have hlen : ((bs.mergeSort (PySem.W.dataLe false fun b : Addr × List Int => rowD b.2)).map fun b => V.ref b.1).length ≤ sizeLine := by
      rw [List.length_map, hp.length_eq]
      exact lb
    exact ⟨.ref _, upd H (s.heap.objs.size + 1) (.lst _), I.laid (t' := s.toks) (fun _ _ => PyProof.Rows.sortedAll_old) (Nat.le_succ _) ⟨hlen, out, ep, hv, he'⟩, rfl, q _ _ hp hw (I.hok.fresh (Nat.le_succ _))⟩
end
end L2
set_option maxRecDepth 100000
set_option maxHeartbeats 4000000
namespace SmT
open PySem PySem.Spec PyProof.Rows HT
theorem args_sum2 (a b : Value) : PySem.argsOk "sum" ⟨[a, b], []⟩ := by unfold PySem.argsOk; kernel_rfl
section
variable {prog : Program} {w : World} {A : Around} {R : Result → Shared → Prop}
def cat (ts : List (Addr × List Value)) (i : Nat) : List Value := ((ts.take i).map (·.2)).flatten
theorem cat_next {ts : List (Addr × List Value)} {i : Nat} {p : Addr × List Value} (h : ts[i]? = some p) : cat ts (i + 1) = cat ts i ++ p.2 := by
  unfold cat
  rw [List.take_add_one, h]
  simp
theorem cat_len (ts : List (Addr × List Value)) (i : Nat) : (cat ts i).length ≤ (cat ts ts.length).length := by
  unfold cat
  rw [List.take_length]
  have e : ((ts.take i).map (·.2)).flatten ++ ((ts.drop i).map (·.2)).flatten = (ts.map (·.2)).flatten := by
    rw [← List.flatten_append, ← List.map_append, List.take_append_drop]
  rw [← e, List.length_append]
  omega
def At (h0 : Heap) (t0 : Addr) (ts : List (Addr × List Value)) (i : Nat) (a : Addr) : Prop := (i = 0 ∧ a = t0) ∨ (i = 1 ∧ ∃ p, ts[0]? = some p ∧ a = p.1) ∨ (2 ≤ i ∧ h0.get? a = none)
theorem loop {it l S t0 : Addr} {ts : List (Addr × List Value)} {h0 : Heap} (hh : A.handled = none) (hli : l ≠ it) (hSi : S ≠ it) (hSl : S ≠ l) (n1 : h0.get? it = none) (n2 : h0.get? S = none)
    (ht0 : IsTup h0 t0 #[]) (hts : ∀ p ∈ ts, IsTup h0 p.1 p.2.toArray ∧ p.2 ≠ []) (hz : (cat ts ts.length).length ≤ sizeLine) :
    ∀ (k i : Nat) (s : Shared) (acc : Addr) (c : Nat), ts.length - i = k → i ≤ ts.length → s.heap.IsListIter it l i → s.heap.IsList l (ts.map fun p => Value.ref p.1).toArray →
    s.heap.get? S = some { cls := .type "list", dict := none, data := .seq #[.ref acc] c, slots := #[] } → (∀ b o, h0.get? b = some o → s.heap.get? b = some o) → At h0 t0 ts i acc → IsTup s.heap acc (cat ts i).toArray → acc ≠ it → acc ≠ S →
    (∀ (h' : Heap) (tk : Tok) (a : Addr), (∀ b o, h0.get? b = some o → h'.get? b = some o) → At h0 t0 ts ts.length a → IsTup h' a (cat ts ts.length).toArray → R (.ok (.ret (.ref a))) { s with heap := h', toks := tk }) →
    codeAny (model prog w) A (.builtin "sum.loop" ⟨[.ref it, .ref S, rawInt 2, rawInt 0], []⟩) R s := by
  have W := (PySem.Walks.list (prog := prog) (w := w) (A := A.in1) hh it l hli (ts.map fun p => Value.ref p.1).toArray).toS
  have eN : ((ts.map fun p => Value.ref p.1).toArray).size = ts.length := by simp
  rw [eN] at W
  intro k
  induction k with
  | zero =>
    intro i s acc c hk hi hit hl hS old ha htu na nS hR
    have hin : i = ts.length := by omega
    subst hin
    refine PySem.codeAny_builtin PySem.F.entry_sum_loop ?_
    rw [Around.under_plainId PySem.F.plain_sum_loop _]
    show wpAny _ A.in1 (seqItems? (.ref S) >>= _) _ _ s
    refine wpAny_bind (PySem.wpAny_seqItems hS rfl ?_)
    show wpAny _ A.in1 (tryCatch (pyNext (.ref it)) _ >>= _) _ _ s
    refine wpAny_bind (wpAny_tryCatch (W.done s _ _ ⟨hit, hl⟩ fun s' hm => ?_))
    refine wpAny_pure ?_
    rw [PySem.Moved.eq_with hm]
    have keep : ∀ b o, b ≠ it → s.heap.get? b = some o → s'.heap.get? b = some o := fun b o hb e => hm.heap b o (by simpa using hb) e
    exact hR s'.heap s'.toks acc (fun b o e => keep b o (fun z => by rw [z, n1] at e; cases e) (old b o e)) ha (by
      obtain ⟨o, ho, r⟩ := htu
      exact ⟨o, keep _ _ na ho, r⟩)
  | succ k ih =>
    intro i s acc c hk hi hit hl hS old ha htu na nS hR
    have hlt : i < ts.length := by omega
    obtain ⟨p, hp⟩ : ∃ p, ts[i]? = some p := ⟨_, List.getElem?_eq_getElem hlt⟩
    obtain ⟨tp, pne⟩ := hts p (List.mem_of_getElem? hp)
    refine PySem.codeAny_builtin PySem.F.entry_sum_loop ?_
    rw [Around.under_plainId PySem.F.plain_sum_loop _]
    show wpAny _ A.in1 (seqItems? (.ref S) >>= _) _ _ s
    refine wpAny_bind (PySem.wpAny_seqItems hS rfl ?_)
    show wpAny _ A.in1 (tryCatch (pyNext (.ref it)) _ >>= _) _ _ s
    refine wpAny_bind (wpAny_tryCatch (W.item i s _ _ hlt ⟨hit, hl⟩ fun v s' hP hst' hm => ?_))
    have ev : v = .ref p.1 := by
      have h2 : ((ts.map fun p => Value.ref p.1).toArray)[i]? = some v := hP
      rw [List.getElem?_toArray, List.getElem?_map, hp] at h2
      exact (Option.some.inj h2).symm
    subst ev
    rw [PySem.Moved.eq_with hm]
    have keep : ∀ b o, b ≠ it → s.heap.get? b = some o → s'.heap.get? b = some o := fun b o hb e => hm.heap b o (by simpa using hb) e
    have hS' := keep _ _ hSi hS
    have old' : ∀ b o, h0.get? b = some o → s'.heap.get? b = some o := fun b o e => keep b o (fun z => by rw [z, n1] at e; cases e) (old b o e)
    have htu' : IsTup s'.heap acc (cat ts i).toArray := by
      obtain ⟨o, ho, r⟩ := htu
      exact ⟨o, keep _ _ na ho, r⟩
    have tp' : IsTup s'.heap p.1 p.2.toArray := by
      obtain ⟨o, ho, r⟩ := tp
      exact ⟨o, old' _ _ ho, r⟩
    obtain ⟨hit', hl'⟩ := hst'
    generalize s'.heap = h1 at keep hS' old' htu' tp' hit' hl'
    generalize s'.toks = t1
    clear hm hP
    have hpn : h0.get? p.1 ≠ none := by
      obtain ⟨o, ho, r⟩ := tp
      rw [ho]
      exact fun z => nomatch z
    have pit : p.1 ≠ it := fun z => hpn (by rw [z]; exact n1)
    have pS : p.1 ≠ S := fun z => hpn (by rw [z]; exact n2)
    have add : ∀ (E : Value → Shared → Prop), wpAny (model prog w) A.in1 (binaryOp .Add (.ref acc) (.ref p.1)) (fun v s2 => ∃ (r : Addr) (h2 : Heap), v = .ref r ∧ s2 = { s with heap := h2, toks := t1 } ∧ (∀ b o, h1.get? b = some o → h2.get? b = some o) ∧
        At h0 t0 ts (i + 1) r ∧ IsTup h2 r (cat ts (i + 1)).toArray ∧ r ≠ it ∧ r ≠ S) E { s with heap := h1, toks := t1 } := fun E => by
      have en := cat_next hp
      by_cases hw : cat ts i = []
      · rw [hw, List.nil_append] at en
        rw [hw] at htu'
        refine L2.cat_tup0 htu' tp' ⟨p.1, h1, rfl, rfl, fun _ _ e => e, ?_, by rw [en]; exact tp', pit, pS⟩
        have i0 : i = 0 := by
          refine Classical.byContradiction fun z => ?_
          obtain ⟨q, hq⟩ : ∃ q, ts[0]? = some q := ⟨_, List.getElem?_eq_getElem (by omega)⟩
          have e2 : cat ts i = q.2 ++ (((ts.take i).drop 1).map (·.2)).flatten := by
            unfold cat
            cases ts with
            | nil => simp at hq
            | cons a m =>
              have : a = q := by simpa using hq
              subst this
              cases i with
              | zero => exact absurd rfl z
              | succ i => simp
          rw [e2] at hw
          exact (hts q (List.mem_of_getElem? hq)).2 (List.append_eq_nil_iff.mp hw).1
        subst i0
        exact .inr (.inl ⟨rfl, p, hp, rfl⟩)
      · have sz := cat_len ts (i + 1)
        rw [en, List.length_append] at sz
        refine cat_tup htu' tp' hw (fun z => absurd z pne) (fun _ => ⟨h1.objs.size, _, rfl, rfl, fun b o e => Heap.get?_push_of_some _ e, .inr (.inr ⟨?_, ?_⟩), ?_, ?_, ?_⟩) (by omega)
        · refine Classical.byContradiction fun z => ?_
          have i0 : i = 0 := by omega
          subst i0
          exact hw rfl
        · cases e : h0.get? h1.objs.size with
          | none => rfl
          | some o => exact absurd (Heap.lt_size (old' _ _ e)) (Nat.lt_irrefl _)
        · rw [en]
          exact IsTup.new _ _
        · obtain ⟨o, ho, _⟩ := hit'
          exact fun z => absurd (Heap.lt_size ho) (by rw [← z]; exact Nat.lt_irrefl _)
        · exact fun z => absurd (Heap.lt_size hS') (by rw [← z]; exact Nat.lt_irrefl _)
    show wpAny _ A.in1 ((holding [Value.ref p.1] (binaryOp .Add (.ref acc) (.ref p.1))).attempt >>= _) _ _ _
    refine wpAny_bind (wpAny_attempt (wpAny_holding (wpAny_mono (add _) (fun v s2 hv => ?_) fun _ _ e => e)))
    obtain ⟨r, h2, rfl, rfl, k2, at2, tu2, rit, rS⟩ := hv
    have hS2 := k2 _ _ hS'
    show wpAny _ A.in1 (updateSeq S (fun _ => #[Value.ref r]) >>= _) _ _ _
    refine wpAny_bind (PySem.wpAny_updateSeq hS2 rfl ?_)
    have hS3 := Heap.get?_update_self (Obj.mapSeq fun _ => #[Value.ref r]) hS2 rfl
    refine wpAny_bind (PySem.wpAny_letGo ?_)
    refine wpAny_bind (PySem.wpAny_updateSeq hS3 rfl (wpAny_pure ⟨plainId_quiet PySem.F.plain_sum_loop _, ?_⟩))
    have up : ∀ b o, b ≠ S → h2.get? b = some o → (((h2.update S (Obj.mapSeq fun _ => #[Value.ref r])).update S (Obj.mapSeq fun _ => #[Value.ref r]))).get? b = some o := fun b o hb e =>
      (Heap.get?_update_other _ _ (fun h : S = b => hb h.symm)).trans ((Heap.get?_update_other _ _ (fun h : S = b => hb h.symm)).trans e)
    refine ih (i + 1) { s with heap := _, toks := t1 } r _ (by omega) hlt ?_ ?_ (Heap.get?_update_self _ hS3 rfl) (fun b o e => ?_) at2 ?_ rit rS fun h' tk a q1 q2 q3 => hR h' tk a q1 q2 q3
    · obtain ⟨o, ho, q⟩ := hit'
      exact ⟨o, up _ _ (fun z => hSi z.symm) (k2 _ _ ho), q⟩
    · obtain ⟨o, ho, q⟩ := hl'
      exact ⟨o, up _ _ (fun z => hSl z.symm) (k2 _ _ ho), q⟩
    · exact up _ _ (fun z => by rw [z, n2] at e; cases e) (k2 _ _ (old' _ _ e))
    · obtain ⟨o, ho, q⟩ := tu2
      exact ⟨o, up _ _ rS ho, q⟩
end
end SmT
set_option maxRecDepth 100000
set_option maxHeartbeats 4000000
namespace SmT
open PySem PySem.Spec PyProof.Rows HT
section
variable {prog : Program} {w : World} {A : Around} {E : Value → Shared → Prop} {s : Shared}
theorem call_sumT {l t0 : Addr} {ts : List (Addr × List Value)} {Q : Value → Shared → Prop} (hh : A.handled = none) (hl : s.heap.IsList l (ts.map fun p => Value.ref p.1).toArray)
    (ht0 : IsTup s.heap t0 #[]) (hts : ∀ p ∈ ts, IsTup s.heap p.1 p.2.toArray ∧ p.2 ≠ []) (hz : (cat ts ts.length).length ≤ sizeLine)
    (h : ∀ (h' : Heap) (tk : Tok) (a : Addr), (∀ b o, s.heap.get? b = some o → h'.get? b = some o) → At s.heap t0 ts ts.length a → IsTup h' a (cat ts ts.length).toArray → Q (.ref a) { s with heap := h', toks := tk }) :
    wpAny (model prog w) A (call (.builtin "sum") [.ref l, .ref t0]) Q E s := by
  have tT : ∀ {h' : Heap} {tk : Tok}, (∀ b o, s.heap.get? b = some o → h'.get? b = some o) → Shared.TypeIs { s with heap := h', toks := tk } (.ref t0) "tuple" := fun k => by
    obtain ⟨o, ho, hc, _⟩ := ht0
    exact ⟨o, k _ _ ho, hc⟩
  refine call_function_tree PySem.F.kind_sum PySem.F.plain_sum PySem.F.entry_sum (args_sum2 _ _) ?_
  unfold Builtin.«sum»
  simp only [List.length_cons, List.length_nil]
  rw [if_neg (by decide)]
  refine wpAny_bind (wpAny_of_eq (show Builtin.Builtins.bindParams "sum" ["start"] 0 ⟨[.ref t0], []⟩ = pure [some (.ref t0)] from rfl) ?_)
  refine wpAny_bind (PySem.wpAny_pyIter_list hl ?_)
  refine wpAny_bind (wpAny_pure ?_)
  have k1 : ∀ b o, s.heap.get? b = some o → (s.heap.push { cls := .type "list_iterator", data := .fields #[.ref l, .int 0 0] }).get? b = some o := fun b o e => Heap.get?_push_of_some _ e
  have hI : (s.heap.push { cls := .type "list_iterator", data := .fields #[.ref l, .int 0 0] }).get? s.heap.objs.size = some { cls := .type "list_iterator", data := .fields #[.ref l, .int 0 0] } := Heap.get?_push_size _ rfl
  have sz : (s.heap.push { cls := .type "list_iterator", data := .fields #[.ref l, .int 0 0] }).objs.size = s.heap.objs.size + 1 := Heap.size_push ..
  generalize hh1 : s.heap.push { cls := .type "list_iterator", data := .fields #[.ref l, .int 0 0] } = h1 at k1 hI sz
  simp only [List.forIn_cons, List.forIn_nil]
  refine wpAny_bind (wpAny_bind (wpAny_bind (wpAny_isInstance (T := "tuple") (b := false) (tT (tk := s.toks) k1) PySem.F.sub_tuple_str ?_)))
  simp only [Bool.false_eq_true, if_false]
  refine wpAny_pure (wpAny_bind (wpAny_bind (wpAny_isInstance (T := "tuple") (b := false) (tT (tk := s.toks) k1) PySem.F.sub_tuple_bytes ?_)))
  simp only [Bool.false_eq_true, if_false]
  refine wpAny_pure (wpAny_bind (wpAny_bind (wpAny_isInstance (T := "tuple") (b := false) (tT (tk := s.toks) k1) PySem.F.sub_tuple_bytearray ?_)))
  simp only [Bool.false_eq_true, if_false]
  refine wpAny_pure (wpAny_pure ?_)
  refine wpAny_bind (wpAny_newObj_type ?_)
  have ll : l < s.heap.objs.size := by obtain ⟨o, ho, _⟩ := hl; exact Heap.lt_size ho
  have none1 : ∀ b, s.heap.objs.size ≤ b → s.heap.get? b = none := fun b hb => by
    cases e : s.heap.get? b with
    | none => rfl
    | some o => exact absurd (Heap.lt_size e) (Nat.not_lt.mpr hb)
  have t0l : t0 < s.heap.objs.size := by obtain ⟨o, ho, _⟩ := ht0; exact Heap.lt_size ho
  have k2 : ∀ b o, s.heap.get? b = some o → (h1.push { cls := .type "list", data := .seq #[.ref t0] }).get? b = some o := fun b o e => Heap.get?_push_of_some _ (k1 _ _ e)
  refine wpAny_pure ⟨plainId_quiet PySem.F.plain_sum_loop _, loop (it := s.heap.objs.size) (l := l) (S := h1.objs.size) (t0 := t0) (ts := ts) (h0 := s.heap) hh (Nat.ne_of_lt ll) (by rw [sz]; exact Nat.succ_ne_self _) (by rw [sz]; exact Nat.ne_of_gt (Nat.lt_succ_of_lt ll)) (none1 _ (Nat.le_refl _)) (none1 _ (by rw [sz]; exact Nat.le_succ _)) ht0 hts hz
    _ 0 _ t0 _ rfl (Nat.zero_le _) ?_ ?_ (Heap.get?_push_size _ rfl) k2 (.inl ⟨rfl, rfl⟩) ?_ (Nat.ne_of_lt t0l) (by rw [sz]; exact Nat.ne_of_lt (Nat.lt_succ_of_lt t0l)) fun h' tk a q1 q2 q3 => h h' tk a q1 q2 q3⟩
  · exact ⟨_, Heap.get?_push_of_some _ hI, rfl, rfl⟩
  · obtain ⟨o, ho, q⟩ := hl
    exact ⟨o, k2 _ _ ho, q⟩
  · obtain ⟨o, ho, q⟩ := ht0
    exact ⟨o, k2 _ _ ho, by simpa [cat] using q⟩
end
end SmT
namespace L2
open PySem PySem.Spec PyProof.Rows HT
def rSumT (K : PySem.W.Frag) : List V → Hp → VK → Prop := fun vs H Q => ∃ (l t0 : Addr) (bs : List (Addr × List V)), vs = [.ref l, .ref t0] ∧ SqL K H l (bs.map fun b => V.ref b.1) ∧ SqT K H t0 [] ∧ (∀ b ∈ bs, b.2 ≠ [] ∧ SqT K H b.1 b.2) ∧ ((bs.map (·.2)).flatten).length ≤ sizeLine ∧
  ∀ a H', Same H H' → SqT K H' a (bs.map (·.2)).flatten → Q (.ref a) H'
section
variable {X : Cx}
theorem tups_of {pins : List (Addr × Obj)} {σ : St} {H : Hp} {s : Shared} (I : Inv X pins σ H s) : ∀ (bs : List (Addr × List V)), (∀ b ∈ bs, b.2 ≠ [] ∧ SqT X.K H b.1 b.2) →
    ∃ ts : List (Addr × List Value), ts.map (·.1) = bs.map (·.1) ∧ (∀ p ∈ ts, IsTup s.heap p.1 p.2.toArray ∧ p.2 ≠ []) ∧ Vals (bs.map (·.2)).flatten (ts.map (·.2)).flatten
  | [], _ => ⟨[], rfl, fun _ h => absurd h (by simp), .nil⟩
  | b :: bs, h => by
    obtain ⟨h1, h2⟩ := h b List.mem_cons_self
    obtain ⟨ts, e1, e2, e3⟩ := tups_of I bs fun c hc => h c (List.mem_cons_of_mem _ hc)
    obtain ⟨its, r1, p1, _⟩ := I.tuple h2
    refine ⟨(b.1, its) :: ts, by rw [List.map_cons, List.map_cons, e1], fun p hp => ?_, ?_⟩
    · rcases List.mem_cons.mp hp with rfl | hp
      · exact ⟨p1, fun (z : its = []) => h1 (by have hl := r1.length; rw [z] at hl; exact List.length_eq_zero_iff.mp hl)⟩
      · exact e2 p hp
    · rw [List.map_cons, List.map_cons, List.flatten_cons, List.flatten_cons]
      exact r1.append e3
theorem cr_sumT (hc : X.calm = true) : CallR X (.builtin "sum") (rSumT X.K) := by
  intro pins s σ H vs us Q I r h
  obtain ⟨l, t0, bs, rfl, hs, ht, hb, hz, q⟩ := h
  obtain ⟨its, rv, hl, _⟩ := I.list hs
  obtain ⟨it0, r0, p0, _⟩ := I.tuple ht
  cases r0
  obtain ⟨ts, e1, e2, e3⟩ := tups_of I bs hb
  obtain ⟨u1, u2, rfl, ru1, ru2⟩ := vals2 r
  cases ru1
  cases ru2
  have eL : its = ts.map fun p => Value.ref p.1 := by
    have h1 : ts.map (fun p => Value.ref p.1) = (ts.map (·.1)).map Value.ref := by rw [List.map_map]; rfl
    rw [h1, e1]
    refine refs_at ?_
    rw [List.map_map]
    exact rv
  have eC : SmT.cat ts ts.length = (ts.map (·.2)).flatten := by
    unfold SmT.cat
    rw [List.take_length]
  rw [eL] at hl
  refine SmT.call_sumT (I.ok.hd hc) hl.isList p0 e2 (by rw [eC, ← e3.length]; exact hz) fun h' tk a k1 at1 tu => ?_
  rw [eC] at tu
  have hI := I.kept (t' := tk) k1
  have len : ts.length = bs.length := by
    have := congrArg List.length e1
    rw [List.length_map, List.length_map] at this
    exact this
  rcases at1 with ⟨n0, rfl⟩ | ⟨n1, p, hp, rfl⟩ | ⟨_, hn⟩
  · refine ⟨.ref a, H, hI, rfl, q a H (fun _ _ e => e) ?_⟩
    have : bs = [] := List.length_eq_zero_iff.mp (by omega)
    rw [this]
    exact ht
  · refine ⟨.ref p.1, H, hI, rfl, q p.1 H (fun _ _ e => e) ?_⟩
    cases bs with
    | nil =>
      rw [n1] at len
      exact absurd len (by simp)
    | cons b m =>
      have m0 : m = [] := List.length_eq_zero_iff.mp (by rw [List.length_cons] at len; omega)
      subst m0
      have ep : p.1 = b.1 := by
        cases ts with
        | nil => simp at hp
        | cons c k =>
          have : c = p := by simpa using hp
          subst this
          exact (List.cons.inj e1).1
      rw [ep]
      simpa using (hb b List.mem_cons_self).2
  · refine ⟨.ref a, upd H a (.tup (bs.map (·.2)).flatten), I.laidN (t' := tk) k1 hn (I.hok.gone hn) ⟨hz, _, e3, tu⟩, rfl, q a _ (fun b o e => ?_) (.inl (.inl (upd_same)))⟩
    rw [upd_ne (ne_of_none e (I.hok.gone hn))]
    exact e
end
end L2
set_option maxRecDepth 100000
set_option maxHeartbeats 4000000
namespace EnT
open PySem PySem.Spec PyProof.Rows
open AutoSeq1 (wpAny_loadPart')
theorem meets_newT (l : Addr) (items : Array Value) (n : Nat) (dct : Option Addr) (sl : Array (Option Value)) :
    Meets (Builtin.«enumerate.__new__» ⟨[.type "enumerate", .ref l], []⟩) (fun _ R s => s.heap.get? l = some { cls := .type "tuple", dict := dct, data := .seq items n, slots := sl } ∧
      R (.ok (.ret (.ref (s.heap.push { cls := .type "tuple_iterator", data := .fields #[.ref l, .int 0 0] }).objs.size)))
        { s with heap := (s.heap.push { cls := .type "tuple_iterator", data := .fields #[.ref l, .int 0 0] }).push { cls := .type "enumerate", data := .fields #[.none, .bool false, .ref s.heap.objs.size, rawInt 0, .none, .none] } }) :=
  .of_wp fun prog w A R s h => by
    obtain ⟨hp, g, d, tk, os⟩ := s; obtain ⟨hl, h⟩ := h
    have hsub := PySem.sub_enumerate
    have hL : Heap.IsTuple (Shared.heap ⟨hp, g, d, tk, os⟩) l items := ⟨_, hl, rfl, n, rfl⟩
    wp_walk using wpAny_loadPart' hl
    refine wpAny_stack_any fun st => wpAny_pure ?_
    split
    · rename_i c _ _ _ _ _
      cases (c == Value.type "enumerate")
      · wp_walk using wpAny_loadPart' hl, PySem.wpAny_pyIter_tuple hL
        exact ⟨_, rfl, h⟩
      · wp_walk using wpAny_loadPart' hl, PySem.wpAny_pyIter_tuple hL
        exact ⟨_, rfl, h⟩
    · wp_walk using wpAny_loadPart' hl, PySem.wpAny_pyIter_tuple hL
      exact ⟨_, rfl, h⟩
section
variable {prog : Program} {w : World} {A : Around} {E : Value → Shared → Prop} {s : Shared}
theorem call_enumT {l : Addr} {items : Array Value} {Q : Value → Shared → Prop} (hL : s.heap.IsTuple l items)
    (h : ∀ h', IsEnum h' (s.heap.objs.size + 1) s.heap.objs.size 0 .none → h'.IsTupleIter s.heap.objs.size l 0 → h'.objs.size = s.heap.objs.size + 2 →
      (∀ b o, s.heap.get? b = some o → h'.get? b = some o) → Q (.ref (s.heap.objs.size + 1)) { s with heap := h' }) :
    wpAny (model prog w) A (call (.type "enumerate") [.ref l]) Q E s := by
  obtain ⟨⟨c, dct, dt, sl⟩, hl, hc, n, hd⟩ := hL
  replace hc : c = .type "tuple" := hc
  replace hd : dt = .seq items n := hd
  subst hc hd
  refine callType_new PySem.F.called_enumerate (by decide) (PySem.F.typeCall_enumerate_1 _) (PySem.F.newCall_enumerate_1 _) (fun obj => PySem.F.args_object_init_2 obj _) PySem.F.entry_enumerate_new
    (meets_newT l items n dct sl) ⟨hl, ?_⟩
  have hz : (s.heap.push { cls := .type "tuple_iterator", data := .fields #[.ref l, .int 0 0] }).objs.size = s.heap.objs.size + 1 := Heap.size_push ..
  show _ ∧ _
  rw [hz]
  have he : IsEnum ((s.heap.push { cls := .type "tuple_iterator", data := .fields #[.ref l, .int 0 0] }).push
      { cls := .type "enumerate", data := .fields #[.none, .bool false, .ref s.heap.objs.size, rawInt 0, .none, .none] }) (s.heap.objs.size + 1) s.heap.objs.size 0 .none := by
    have := Heap.get?_push_size (s.heap.push { cls := .type "tuple_iterator", data := .fields #[.ref l, .int 0 0] })
      (o := { cls := .type "enumerate", data := .fields #[.none, .bool false, .ref s.heap.objs.size, rawInt 0, .none, .none] }) rfl
    rw [hz] at this; exact this
  refine ⟨⟨_, he, rfl⟩, h _ he ⟨_, Heap.get?_push_of_some _ (Heap.get?_push_size _ rfl), rfl, rfl⟩ (by rw [Heap.size_push, hz]) fun b o x => Heap.get?_push_of_some _ (Heap.get?_push_of_some _ x)⟩
end
end EnT
namespace L2
open PySem PySem.Spec PyProof.Rows HT
def Iteu (K : PySem.W.Frag) (a : Addr) : It :=
  ⟨fun i H => ∃ (xs : List V) (x : V), SqT K H a xs ∧ xs[i]? = some x, fun i H v H' => ∃ T x, v = .ref T ∧ H T = none ∧ H' = upd H T (.tup [.int (i : Nat), x]) ∧ ∀ xs, SqT K H a xs → xs[i]? = some x, fun i H => ∃ xs : List V, SqT K H a xs ∧ xs.length ≤ i⟩
theorem tuple_of {h : Heap} {a : Addr} {items : Array Value} (x : IsTup h a items) : h.IsTuple a items := by
  obtain ⟨o, ho, hc, n, hd⟩ := x
  exact ⟨o, ho, hc, n, hd⟩
theorem turn_enumU {P : Program} {w : World} {K : PySem.W.Frag} {elts : List Expr} {kk : Nat} {tpos : Pos} (a e it : Addr) :
    Turn P w K (.Tuple elts kk tpos) (Iteu K a) [e, it] e (fun i h => (∃ old, IsEnum h e it ((i : Nat) : Int) old) ∧ h.IsTupleIter it a i ∧ e ≠ it) where
  mem := by simp
  obj := fun i h st b hb => by
    obtain ⟨⟨old, he⟩, ⟨o, ho, hc, hd⟩, _⟩ := st
    have e' : b = e ∨ b = it := by simpa using hb
    rcases e' with z | z
    · rw [z]; exact ⟨_, he, fun v q => nomatch q⟩
    · rw [z]; exact ⟨o, ho, fun v q => by rw [hd] at q; cases q⟩
  keep := fun i h h' st k => let ⟨⟨old, he⟩, hi, hne⟩ := st; ⟨⟨old, k e (by simp) _ he⟩, hi.at fun o q => k it (by simp) o q, hne⟩
  item := by
    intro X hP hw hK hc i pins s σ H E I hf st hg
    subst hP hw hK
    obtain ⟨⟨old, he⟩, hit, hne⟩ := st
    obtain ⟨xs, x, hq, hx⟩ := hg
    obtain ⟨its, rv, p, hz⟩ := I.tuple hq
    obtain ⟨u, hu, ru⟩ := rv.get hx
    have hel : e < s.heap.objs.size := Heap.lt_size he
    have hil : it < s.heap.objs.size := by obtain ⟨_, q, _⟩ := hit; exact Heap.lt_size q
    have pt := tuple_of p
    have hai : a ≠ it := fun z => by
      obtain ⟨o, ho, hc, _⟩ := hit
      obtain ⟨o2, ho2, hc2, _⟩ := pt
      rw [z, ho] at ho2
      cases ho2
      rw [hc] at hc2
      exact absurd hc2 (by simp)
    have hae : a ≠ e := fun z => by
      obtain ⟨o2, ho2, hc2, _⟩ := pt
      rw [z, he] at ho2
      cases ho2
      exact absurd hc2 (by simp)
    have hi : i < its.toArray.size := by
      rw [List.size_toArray]
      exact (List.getElem?_eq_some_iff.mp hu).1
    refine PySem.wpAny_pyNext_enum_itemD (PySem.Draws.tuple (prog := X.prog) (w := X.w) (A := X.A.in1) (I.ok.hd hc) it a hai its.toArray) he ⟨hit, pt⟩ hi hne (by simpa using ⟨hne, fun z => hae z.symm⟩) fun x' h' tk hP ho hst' hT hsz hk => ?_
    have ex : x' = u := by
      have hP' : its.toArray[i]? = some x' := hP
      rw [List.getElem?_toArray, hu] at hP'
      exact (Option.some.inj hP').symm
    subst ex
    obtain ⟨hit', _⟩ := hst'
    refine ⟨_, rfl, wpAny_letOwnedTupleGo_enum (s := { s with heap := h', toks := tk + 1 }) ho fun h'' he' sb => ?_⟩
    have hT2 : h''.get? s.heap.objs.size = some { cls := .type "tuple", data := .seq #[.int i tk, x'] } := (sb.2 _ (Nat.ne_of_gt hel)).trans hT
    have new : ObjOk X.prog X.w (upd H s.heap.objs.size (.tup [.int (i : Nat), x])) h'' s.heap.objs.size (.tup [.int (i : Nat), x]) :=
      ⟨by show 2 ≤ sizeLine; decide, [.int i tk, x'], .cons ⟨_, rfl⟩ (.cons ru .nil), ⟨_, hT2, rfl, _, rfl⟩⟩
    have I1 : Inv X pins σ (upd H s.heap.objs.size (.tup [.int (i : Nat), x])) { s with heap := h'', toks := tk + 1 } :=
      I.turnedNew (ch := [e, it]) (fun b ob hb q => (sb.2 b (fun z => hb (by simp [z]))).trans (hk b ob (fun z => hb (by simp [z])) (fun z => hb (by simp [z])) q)) hf (Nat.le_refl _) new
    refine ⟨.ref s.heap.objs.size, _, I1, rfl, ⟨_, x, rfl, I.hok.fresh (Nat.le_refl _), rfl, fun ys hy => by rw [I.tuple_inj hy hq]; exact hx⟩, ⟨⟨x', ?_⟩, hit'.at fun o q => (sb.2 it (Ne.symm hne)).trans q, hne⟩, fun b hb => ?_⟩
    · have e1 : ((i + 1 : Nat) : Int) = (i : Int) + 1 := by omega
      rw [e1]; exact he'
    · have hb' : b < s.heap.objs.size := by
        have e' : b = e ∨ b = it := by simpa using hb
        rcases e' with z | z
        · rw [z]; exact hel
        · rw [z]; exact hil
      rw [upd_ne (Nat.ne_of_lt hb')]
      exact (hf b hb).1
  done := by
    intro X hP hw hK hc i pins s σ H E I hf st hg
    subst hP hw hK
    obtain ⟨⟨old, he⟩, hit, hne⟩ := st
    obtain ⟨xs, hq, hx⟩ := hg
    obtain ⟨its, rv, p, hz⟩ := I.tuple hq
    obtain ⟨f0, f1, f2, f3, f4, f5⟩ := hf it (by simp)
    have hl := rv.length
    have pt := tuple_of p
    have hT : s.TypeIs (.ref e) "enumerate" := ⟨_, he, rfl⟩
    unfold pyNext
    refine wpAny_bind (wpAny_attempt (PySem.wpAny_callSpecial?_slot (name := Str.ofString "__next__") hT PySem.F.slot_enumerate_next
      (PySem.wpAny_call_entry PySem.F.slot_enumerate_next hT PySem.F.entry_enumerate_next ?_ (PySem.F.args_enumerate_next_1 _))))
    show wpAny _ _ (field (.ref e) 2 >>= _) _ _ _
    refine wpAny_bind (PySem.wpAny_field he rfl (x := .ref it) rfl ?_)
    refine wpAny_bind (PySem.wpAny_nextOf_tuple_end (I.ok.hd hc) hit pt (by simp; omega) fun h' x eb hx' => ?_)
    obtain ⟨o, ho, hc'⟩ := hx'
    refine wpAny_bind (wpAny_isInstance (T := "StopIteration") (b := true) ⟨o, ho, hc'⟩ PySem.isSubtype_stop ?_)
    exact wpAny_pure ⟨rfl, I.turned (t' := s.toks) (fun b o hb q => eb b o hb q) f0 f1 f3 f4 f5⟩
  self := fun A i s Q E st h => let ⟨⟨_, he⟩, _⟩ := st; wpAny_pyIter_enum he h
def iEnumU (K : PySem.W.Frag) (ta : TA) : TI := fun σ H R => ta σ H fun vs H1 => ∃ a xs, vs = [.ref a] ∧ SqT K H1 a xs ∧ R (Iteu K a) H1
theorem pi_enumU {X : Cx} {e : Expr} {ta : TA} {p pos tpos : Pos} {elts : List Expr} {kk : Nat} (hg : Gl X "enumerate") (hm : X.mg "enumerate" = none) (ha : PA X [e] ta) (hs : starEach [e] X.env = [(false, eval e X.env)] := by rfl) :
    PI X (.Tuple elts kk tpos) (.Call (.Name "enumerate" p) [e] [] pos) (iEnumU X.K ta) := by
  refine ⟨fun pins s σ H R I h => ?_⟩
  refine Call_ (ld_blt I hg hm boot_enumerate (PyProof.Rows.callWith_type1 (thn (ha.run pos pins s σ H _ I h) fun us s1 ⟨vs, H1, I1, r1, q1⟩ => ?_) hs rfl))
  obtain ⟨a, xs, ex, hq, q⟩ := q1
  subst ex
  cases r1 with
  | cons r rr =>
    cases rr
    cases r
    obtain ⟨its, rv, p', hz⟩ := I1.tuple hq
    refine EnT.call_enumT (tuple_of p') fun h' he hit hsz hk => wpAny_pyIter_enum he ?_
    have I2 : Inv X pins σ H1 { s1 with heap := h' } := I1.kept (t' := s1.toks) hk
    refine ⟨s1.heap.objs.size + 1, [s1.heap.objs.size + 1, s1.heap.objs.size], _, _, H1, rfl, I2, turn_enumU a (s1.heap.objs.size + 1) s1.heap.objs.size, ⟨⟨.none, he⟩, hit, Nat.succ_ne_self _⟩, fun b hb => ?_, q⟩
    have e' : b = s1.heap.objs.size + 1 ∨ b = s1.heap.objs.size := by simpa using hb
    have hle : s1.heap.objs.size ≤ b := by
      rcases e' with z | z
      · rw [z]; exact Nat.le_add_right _ _
      · rw [z]; exact Nat.le_refl _
    exact I1.fpOk hle (I1.hok.fresh hle)
theorem walk_enumU {K : PySem.W.Frag} {a : Addr} {xs : List V} : Walk (Iteu K a) xs.length (fun H => SqT K H a xs) (YPair (fun i => some (.int (i : Nat))) (fun i => xs[i]?)) := by
  refine ⟨fun i _ hi q => ⟨xs, xs[i], q, by simp [hi]⟩, fun _ q => ⟨xs, q, Nat.le_refl _⟩, fun i H v H' _ q y => ?_⟩
  obtain ⟨T, x, h1, h2, h3, h4⟩ := y
  exact ⟨T, .int (i : Nat), x, h1, h2, h3, rfl, h4 xs q⟩
end L2
set_option maxRecDepth 100000
set_option maxHeartbeats 4000000
namespace LamX
open PySem PySem.Spec PyProof.Rows L2
def LamO (fl co : Addr) (q : Str) (ps : Arguments) (bd : Expr) (lsc : Scope) (clo : List (Str × Addr)) : HO := .ext fun h => ∃ pm ctv : Value, h.get? fl = some (PySem.W.kla_obj "<lambda>" q ps bd lsc clo pm co ctv)
theorem lamO_ok {P : Program} {w : World} {H : Hp} {h : Heap} {fl co : Addr} {q : Str} {ps : Arguments} {bd : Expr} {lsc : Scope} {clo : List (Str × Addr)} {pm ctv : Value} (e : h.get? fl = some (PySem.W.kla_obj "<lambda>" q ps bd lsc clo pm co ctv)) : ObjOk P w H h fl (LamO fl co q ps bd lsc clo) :=
  ⟨⟨pm, ctv, e⟩, ⟨_, e⟩, fun _ _ ⟨pm, ctv, z⟩ st => ⟨pm, ctv, st _ z⟩⟩
section
variable {X : Cx} {pins : List (Addr × Obj)} {σ : L2.St} {H : Hp} {s : Shared}
theorem lam_made {Ts : List (Addr × Str)} {c P : Addr} {ps : Arguments} {bd : Expr} {lsc : Scope} {pos : Pos} {E : Value → Shared → Prop} {Q : Value → Shared → Prop} (I : Inv X pins σ H s) (TB : TabB X.base X.mg c P) (own : X.env.code = .ref c)
    (mem : (P, X.env.qual ++ "<lambda>") ∈ Ts) (uni : ∀ p ∈ Ts, p.1 = P → p.2 = X.env.qual ++ "<lambda>") (tabs : Tabs Ts H) (nodef : defaultsOf ps X.env = ([], [])) (fr : ∀ y ∈ lsc.names, y.2 = .free → ∃ c, X.env.cells.lookup y.1 = some c)
    (go : ∀ (fl co : Addr) (G : Hp) (s' : Shared), Inv X pins σ G s' → ExtN H G → Tabs Ts G → H fl = none → G fl = some (LamO fl co (X.env.qual ++ "<lambda>") ps bd lsc (cloFrom X.env.cells lsc.names [])) → G co = some (CodeO co (X.env.qual ++ "<lambda>")) → Q (.ref fl) s') :
    wpAny (model X.prog X.w) X.A (eval (.Lambda ps bd lsc pos) X.env) Q E s := by
  obtain ⟨arr, e1, e2, e3⟩ := tabs _ mem
  refine PySem.W.kla_eval nodef ?_
  have bm : s.heap.BuiltinsAt X.mg P := TB.bm.keeps I.bk
  have arrH : s.heap.get? P = some { cls := .none, data := .fields arr } := I.hok P _ e1
  cases found : codeAmong pos arr.toList with
  | none =>
    refine PySem.W.kla_makeFunction (mg := X.mg) (c := c) (P := P) (ps := arr) (closure_ok fr) I.ok.glob (I.mod.glob.keeps I.bk) own (TB.code.keeps I.bk) arrH e2 found TB.gP bm fun co ctv g tk old low high made tab => ?_
    obtain ⟨c2, oc, fs, tok, eq, ho, hf, hq⟩ := made
    cases eq
    have grow : s.heap.objs.size ≤ g.objs.size := Nat.le_trans low (Nat.le_of_lt high)
    have new : H co = none := I.hok.fresh low
    have J := inv_table (t' := tk) (more := #[rawInt pos.line, rawInt pos.col, .ref co]) (h' := g) I e1 old tab low ⟨oc, fs, tok, ho, hf, hq⟩
    generalize eK : upd (upd H P (.tbl (arr ++ #[rawInt pos.line, rawInt pos.col, .ref co]))) co (CodeO co (X.env.qual ++ "<lambda>")) = K1 at J
    have x1 : ExtN H K1 := fun b o e n => by
      rw [← eK, upd_ne (ne_of_none e new), upd_ne (fun z => n arr (Option.some.inj (e.symm.trans (by rw [z]; exact e1))))]
      exact e
    have nP : g.objs.size ≠ P := Nat.ne_of_gt (Nat.lt_of_lt_of_le (Heap.lt_size arrH) grow)
    have nc : g.objs.size ≠ co := Nat.ne_of_gt high
    have free : K1 g.objs.size = none := by
      rw [← eK, upd_ne nc, upd_ne nP]
      exact I.hok.fresh grow
    have fH : H g.objs.size = none := I.hok.fresh grow
    have eC : K1 co = some (CodeO co (X.env.qual ++ "<lambda>")) := by rw [← eK]; exact upd_same
    have eT : K1 P = some (.tbl (arr ++ #[rawInt pos.line, rawInt pos.col, .ref co])) := by rw [← eK, upd_ne (ne_of_none e1 new), upd_same]
    have tb1 : Tabs Ts K1 := fun p hp => by
      have asL : (arr ++ #[rawInt pos.line, rawInt pos.col, .ref co]).toList = arr.toList ++ [rawInt pos.line, rawInt pos.col, .ref co] := by simp
      by_cases hb : p.1 = P
      · rw [uni p hp hb, hb]
        refine ⟨_, eT, by rw [asL]; exact PySem.TriplesOk_snoc _ _ _ _ e2, fun p' cv k => ?_⟩
        rw [asL] at k
        rcases among_app _ e2 k with z | z
        · obtain ⟨c0, w1, w2⟩ := e3 p' cv z
          exact ⟨c0, w1, x1 _ _ w2 codeO_ne⟩
        · exact ⟨co, z, eC⟩
      · obtain ⟨arr', w1, w2, w3⟩ := tabs p hp
        refine ⟨arr', by rw [← eK, upd_ne (ne_of_none w1 new), upd_ne hb]; exact w1, w2, fun p' cv k => ?_⟩
        obtain ⟨c0, v1, v2⟩ := w3 p' cv k
        exact ⟨c0, v1, x1 _ _ v2 codeO_ne⟩
    have lay := J.laid (a := g.objs.size) (t' := tk) (o := LamO g.objs.size co (X.env.qual ++ "<lambda>") ps bd lsc (cloFrom X.env.cells lsc.names [])) (h' := g.push (PySem.W.kla_obj "<lambda>" (X.env.qual ++ "<lambda>") ps bd lsc (cloFrom X.env.cells lsc.names []) ((X.mg "__name__").getD .none) co ctv))
      (fun _ _ e => Heap.get?_push_of_some _ e) (Nat.le_refl _) (lamO_ok (Heap.get?_push_size _ rfl))
    exact go g.objs.size co _ _ lay (fun b o e n => by rw [upd_ne (ne_of_none (x1 b o e n) free)]; exact x1 b o e n) (tb1.ext fun b o e => by rw [upd_ne (ne_of_none e free)]; exact e) fH upd_same (by rw [upd_ne (ne_of_none eC free)]; exact eC)
  | some cv =>
    obtain ⟨co, ec, known⟩ := e3 pos cv found
    subst ec
    refine PySem.W.kla_makeFunctionHit (mg := X.mg) (c := c) (P := P) (ps := arr) (closure_ok fr) I.ok.glob (I.mod.glob.keeps I.bk) own (TB.code.keeps I.bk) arrH e2 found bm fun ctv g tk old grow => ?_
    have free : H g.objs.size = none := I.hok.fresh grow
    have lay := I.laid (a := g.objs.size) (t' := tk) (o := LamO g.objs.size co (X.env.qual ++ "<lambda>") ps bd lsc (cloFrom X.env.cells lsc.names [])) (h' := g.push (PySem.W.kla_obj "<lambda>" (X.env.qual ++ "<lambda>") ps bd lsc (cloFrom X.env.cells lsc.names []) ((X.mg "__name__").getD .none) co ctv))
      (fun b o e => Heap.get?_push_of_some _ (old b o e)) grow (lamO_ok (Heap.get?_push_size _ rfl))
    exact go g.objs.size co _ _ lay (fun b o e _ => by rw [upd_ne (ne_of_none e free)]; exact e) (tabs.ext fun b o e => by rw [upd_ne (ne_of_none e free)]; exact e) free upd_same (by rw [upd_ne (ne_of_none known free)]; exact known)
theorem act_known {CXg : CXT} {Eg : XK} {names : List Str} {qg : Str} {sg : Scope} {g fl co : Addr} {cdg : Value} {ps : Arguments} {bd : Expr} {lsc : Scope} {k i : Nat} {a : Str} {pn : List (Addr × Obj)} {xe : Value → Shared → Prop} {W : WX} {Ew : L2.St → XK} {rd : XK → TE} {p1 p2 : Pos}
    (I : Inv X pins σ H s) (L : LamS X.env.scope lsc)
    (noArgs : ∀ pm ctv : Value, bindArgs (PySem.W.kla_fn "<lambda>" (X.env.qual ++ "<lambda>") ps bd lsc (cloFrom X.env.cells lsc.names []) pm (.ref co) ctv) ⟨[], []⟩ = pure [])
    (tk : Takes ((cxOf CXg X.prog X.w X.K X.mg X.base names qg sg g cdg X.A X.stack s H Eg).tr pn xe) W) (wish : ∀ τ cls d H', Ew τ cls d H' → W cls d τ H') (room : Room (k + 1) (X.A.deeper (envOfC qg sg s.heap.objs.size g cdg)))
    (body : ∀ (E : XK) (A : Around) (outer : List Env) (s : Shared) (H : Hp), Room k (A.deeper (lamEnv X lsc s.heap.objs.size fl co)) → PE (lamCx X A outer s H E lsc fl co) bd (rd E))
    (at_ : names[i]? = some a) (vis : Vis sg a) (n1 : (a == ("__debug__" : Str)) = false) (n2 : (a == ("__classdict__" : Str)) = false) :
    PE ((cxOf CXg X.prog X.w X.K X.mg X.base names qg sg g cdg X.A X.stack s H Eg).tr pn xe) (.Call (.Name a p1) [] [] p2)
      (fun τ G Q => τ[i]? = some (some (.ref fl)) ∧ G fl = some (LamO fl co (X.env.qual ++ "<lambda>") ps bd lsc (cloFrom X.env.cells lsc.names [])) ∧ G co = some (CodeO co (X.env.qual ++ "<lambda>")) ∧ rd (Ew τ) σ G Q) := by
  refine ⟨fun pz sz τ G Q J hyp => ?_⟩
  obtain ⟨slot, known, code, want⟩ := hyp
  have load := (pe_var (pos := p1) (i := i) at_ vis n1 n2).run pz sz τ G (fun v G' => v = .ref fl ∧ G' = G) J ⟨.ref fl, slot, rfl, rfl⟩
  refine wpAny_Call_Name_kw (thn load fun u s1 ⟨v, G', J1, ru, ev, eG⟩ => ?_)
  subst ev eG
  obtain rfl : u = Value.ref fl := ru
  have there : ObjOk X.prog X.w G' s1.heap fl (LamO fl co (X.env.qual ++ "<lambda>") ps bd lsc (cloFrom X.env.cells lsc.names [])) := J1.hok fl _ known
  obtain ⟨⟨pm, ctv, here⟩, _, _⟩ := there
  refine PySem.W.callWith_F0 ⟨_, _, _, _, here⟩ ?_
  have since : Un (frs X.stack) [] H G' s.heap s1.heap := J1.base
  obtain ⟨⟨oc, fields, tok, ho, hf, hq⟩, _, _⟩ := J1.hok co _ code
  have run : codeAny (model X.prog X.w) (X.A.deeper (envOfC qg sg s.heap.objs.size g cdg)) (.call (.ref fl) ⟨[], []⟩) (CR (L2.CX X.prog X.w) (envOfC qg sg s.heap.objs.size g cdg :: X.stack) X.prog X.w G' s1 Q (Ew τ)) s1 := by
    refine PySem.W.kla_callFunE room.depth here rfl L.co L.gen rfl ⟨co, oc, fields, tok, rfl, ho, hf, hq⟩ ?_
    rw [noArgs]
    refine wpAny_pure (wpAny_newFunctionEnv (fun y hy => (L.own y hy).2) (fun y hy => absurd hy (by simp)) (fun h' ns but => ⟨J1.nolimit.fresh _ but, ?_⟩) L.kind)
    have stays : ∀ b o, s1.heap.get? b = some o → h'.get? b = some o := fun b o e => but.extBut b o (Nat.ne_of_lt (Heap.lt_size e)) (Heap.get?_push_of_some _ e)
    have start : Inv (lamCx X (X.A.deeper (envOfC qg sg s.heap.objs.size g cdg)) (envOfC qg sg s.heap.objs.size g cdg :: X.stack) s1 G' (Ew τ) lsc fl co) [] σ G' { s1 with heap := h', toks := s1.toks + ([] : List (Str × Value)).length } :=
      lam_start2 I L J1.env0 room.hd since ns stays
    show codeAny _ _ (.expr bd (lamEnv X lsc s1.heap.objs.size fl co)) _ _
    refine PySem.W.kla_codeExpr (wpAny_mono ((body (Ew τ) _ _ s1 G' (room.deeper _)).run [] _ _ G' Q start want) (fun v s' ⟨x, G2, J2, rx, q⟩ => ?_) fun e s' q => q)
    exact ⟨x, G2, J2.os, J2.bare, J2.base, J2.hok, rx, q⟩
  refine wpAny_call (codeAny_mono run fun r s' q => ?_)
  match r with
  | .error e => exact tk e s' (XE.of_call J1 (fun cls d G2 z => wish τ cls d G2 z) q)
  | .ok (.ret u) => exact J1.after q
  | .ok .next => exact False.elim q
  | .ok .brk => exact False.elim q
  | .ok .cont => exact False.elim q
end
structure LamIs (X : Cx) (k : Nat) (t : XK → TE) (fl co : Addr) (o : HO) : Prop where
  ex : ∃ (ps : Arguments) (bd : Expr) (lsc : Scope), o = LamO fl co (X.env.qual ++ "<lambda>") ps bd lsc (cloFrom X.env.cells lsc.names []) ∧ LamS X.env.scope lsc ∧
    (∀ (q : Str) (cl : List (Str × Addr)) (pm cv ctv : Value), bindArgs (PySem.W.kla_fn "<lambda>" q ps bd lsc cl pm cv ctv) ⟨[], []⟩ = pure []) ∧
    ∀ (A : Around) (outer : List Env) (s : Shared) (H : Hp) (E : XK), Room k (A.deeper (lamEnv X lsc s.heap.objs.size fl co)) → PE (lamCx X A outer s H E lsc fl co) bd (t E)
theorem lamO_ne {fl co : Addr} {q : Str} {ps : Arguments} {bd : Expr} {lsc : Scope} {clo : List (Str × Addr)} (arr : Array Value) : LamO fl co q ps bd lsc clo ≠ .tbl arr := fun z => by
  unfold LamO at z
  cases z
def IsLam (X : Cx) (k : Nat) (q : Str) (t : XK → TE) (G : Hp) (v : V) : Prop := ∃ (fl co : Addr) (o : HO), v = .ref fl ∧ G fl = some o ∧ LamIs X k t fl co o ∧ G co = some (CodeO co q)
theorem IsLam.ext {X : Cx} {k : Nat} {q : Str} {t : XK → TE} {G G' : Hp} {v : V} (h : IsLam X k q t G v) (e : ExtN G G') : IsLam X k q t G' v := by
  obtain ⟨fl, co, o, ev, h1, h2, h3⟩ := h
  obtain ⟨ps, bd, lsc, rfl, _⟩ := h2.ex
  exact ⟨fl, co, _, ev, e _ _ h1 lamO_ne, h2, e _ _ h3 codeO_ne⟩
def tLamV (X : Cx) (Ts : List (Addr × Str)) (k : Nat) (q : Str) (t : XK → TE) : TE := fun _ H Q => Tabs Ts H ∧ ∀ v G, ExtN H G → Tabs Ts G → IsLam X k q t G v → (∀ a, v = .ref a → H a = none) → Q v G
section
variable {X : Cx}
theorem pe_lamV {Ts : List (Addr × Str)} {c P : Addr} {k : Nat} {q : Str} {ps : Arguments} {bd : Expr} {lsc : Scope} {t : XK → TE} {pos : Pos} (TB : TabB X.base X.mg c P) (own : X.env.code = .ref c) (eq : X.env.qual ++ "<lambda>" = q)
    (mem : (P, q) ∈ Ts) (uni : ∀ p ∈ Ts, p.1 = P → p.2 = q) (L : LamS X.env.scope lsc) (nodef : defaultsOf ps X.env = ([], []))
    (noArgs : ∀ (q : Str) (cl : List (Str × Addr)) (pm cv ctv : Value), bindArgs (PySem.W.kla_fn "<lambda>" q ps bd lsc cl pm cv ctv) ⟨[], []⟩ = pure [])
    (body : ∀ (A : Around) (outer : List Env) (s : Shared) (H : Hp) (E : XK) (fl co : Addr), Room k (A.deeper (lamEnv X lsc s.heap.objs.size fl co)) → PE (lamCx X A outer s H E lsc fl co) bd (t E)) :
    PE X (.Lambda ps bd lsc pos) (tLamV X Ts k q t) := by
  subst eq
  refine ⟨fun pins s σ H Q I hyp => ?_⟩
  obtain ⟨tabs, want⟩ := hyp
  exact lam_made I TB own mem uni tabs nodef (L.has I.ok) fun fl co G s' J x tb fH f1 f2 =>
    ⟨.ref fl, G, J, rfl, want _ _ x tb ⟨fl, co, _, rfl, f1, ⟨ps, bd, lsc, rfl, L, noArgs, fun A outer s H E room => body A outer s H E fl co room⟩, f2⟩ fun a e => by cases e; exact fH⟩
def GivesToV (X : Cx) (names : List Str) (x : Str) (sg : Scope) (g : Addr) (cdg : Value) (bg : List Stmt) (a : Str) (TT : (XK → Hp → VK → Prop) → Hp → VK → Prop) : Prop :=
  ∀ (fl : Addr) (s : Shared) (H : Hp) (Q : VK) (tl : XK → Hp → VK → Prop) (keep : Hp → Prop),
    (∀ (W : WX) (pn : List (Addr × Obj)) (xe : Value → Shared → Prop) (Ew : L2.St → XK) (p1 p2 : Pos), Takes ((cxOf C8.CX0 X.prog X.w X.K X.mg X.base names x sg g cdg X.A X.stack s H C8.E0).tr pn xe) W → (∀ τ cls d H', Ew τ cls d H' → W cls d τ H') →
      PE ((cxOf C8.CX0 X.prog X.w X.K X.mg X.base names x sg g cdg X.A X.stack s H C8.E0).tr pn xe) (.Call (.Name a p1) [] [] p2) (fun τ G Q => τ[0]? = some (some (.ref fl)) ∧ keep G ∧ tl (Ew τ) G Q)) →
    keep H → TT tl H Q →
    ∃ t, PSs (cxOf C8.CX0 X.prog X.w X.K X.mg X.base names x sg g cdg X.A X.stack s H C8.E0).nox bg t ∧ t { nx := fun _ H' => Q .non H', rt := Q } (L2.start names [.ref fl]) H
def tCallLam (X : Cx) (k : Nat) (q : Str) (TT : (XK → Hp → VK → Prop) → Hp → VK → Prop) (te : TE) : TE := fun σ H Q => te σ H fun v G => ∃ t : XK → TE, IsLam X k q t G v ∧ TT (fun E H' Q' => t E σ H' Q') G Q
theorem pe_callLam {TT : (XK → Hp → VK → Prop) → Hp → VK → Prop} {x a q : Str} {g : Addr} {k : Nat} {pg : Arguments} {bg : List Stmt} {sg : Scope} {dV kV doc pm cdv ct oc : Value} {an od : Option Addr} {osl : Array (Option Value)} {names : List Str}
    {e : Expr} {te : TE} {p pos : Pos} (he : PE X e te) (hg : Gl X x) (hm : X.mg x = some (.ref g)) (hk : PySem.W.keepIn X.K (.ref g) = true)
    (lk : X.K.lookup g = some ⟨oc, od, .func (PySem.W.fnOf x x pg bg sg dV kV doc pm an cdv ct), osl⟩) (hcg : PySem.W.codeIn X.K cdv x = true) (hb : L2.Binds X.K (PySem.W.fnOf x x pg bg sg dV kV doc pm an cdv ct) [a] []) (Sg : FnScope names [a] sg) (at_ : names[0]? = some a) (vis : Vis sg a)
    (gives : GivesToV X names x sg g cdv bg a TT) (eq : X.env.qual ++ "<lambda>" = q) (hr : Room (k + 2) X.A)
    (hs : starEach [e] X.env = [(false, eval e X.env)] := by rfl)
    (n0 : (x == ("__debug__" : Str)) = false := by decide) (n1 : (a == ("__debug__" : Str)) = false := by decide) (n2 : (a == ("__classdict__" : Str)) = false := by decide) (hpl : (backTo pos (starEach ([] : List Expr) X.env)).any (·.1) = false := by rfl) :
    PE X (.Call (.Name x p) [e] [] pos) (tCallLam X k q TT te) := by
  subst eq
  refine ⟨fun pins s σ H Q I hyp => ?_⟩
  refine wpAny_Call_Name_kw (ld_glob I hg hm ?_ n0)
  refine PySem.W.callWith_K (h₀ := X.base) I.ok.mod.kin hk ?_ hs hpl
  rw [hs]
  refine Calls.spliced_cons (thn (he.run pins s σ H _ I hyp) fun u s' ⟨v, G, J, ru, t, ⟨fl, co, o, ev, f1, f2, fc⟩, want⟩ => ?_)
  subst ev
  obtain rfl : u = Value.ref fl := ru
  obtain ⟨ps, bd, lsc, rfl, L, noArgs, body⟩ := f2.ex
  refine Calls.spliced_nil ⟨J.kIn, ?_⟩
  have run : codeAny (model X.prog X.w) X.A (.call (.ref g) ⟨[.ref fl], []⟩) (CR C8.CX0 X.stack X.prog X.w G s' Q C8.E0) s' := by
    refine run_ofS (N := names) (ps := [a]) (us := [.ref fl]) (vs := [.ref fl]) lk hcg Sg hr J.env0 (hb s' [.ref fl] J.kIn rfl) (.cons rfl .nil) rfl fun hr' => ?_
    obtain ⟨t', ht', hq'⟩ := gives fl s' G Q (fun E G' Q' => t E σ G' Q') (fun G => G fl = some (LamO fl co (X.env.qual ++ "<lambda>") ps bd lsc (cloFrom X.env.cells lsc.names [])) ∧ G co = some (CodeO co (X.env.qual ++ "<lambda>")))
      (fun W pn xe Ew p1 p2 tk wish => ⟨fun pz sz τ G2 Q2 J2 hyp2 => (act_known (i := 0) J L (fun _ _ => noArgs _ _ _ _ _) tk wish hr' (fun E A outer s H room => body A outer s H E room) at_ vis n1 n2).run pz sz τ G2 Q2 J2 ⟨hyp2.1, hyp2.2.1.1, hyp2.2.1.2, hyp2.2.2⟩⟩) ⟨f1, fc⟩ want
    exact ⟨t', ht'.nox, hq'⟩
  refine wpAny_call (codeAny_mono run fun r s2 q => ?_)
  match r with
  | .error e => exact (show False from q).elim
  | .ok (.ret u) => exact J.after q
  | .ok .next => exact False.elim q
  | .ok .brk => exact False.elim q
  | .ok .cont => exact False.elim q
end
end LamX
set_option maxRecDepth 100000
set_option maxHeartbeats 4000000
namespace L2
open PySem PySem.Spec PyProof.Rows
theorem sqn {a b : TS} {D : Ends} {σ : St} {H : Hp} (h : a { D with nx := b D } σ H) : tSeq a b D σ H := h
theorem tnx {D : Ends} {σ : St} {H : Hp} (h : D.nx σ H) : tNext D σ H := h
theorem asn {e : TE} {g : TG} {D : Ends} {σ : St} {H : Hp} (h : e σ H fun x H1 => g x σ H1 D.nx) : tAsg e g D σ H := h
theorem tIfS_r {c : TT} {t u : TS} {D : Ends} {σ : St} {H : Hp} (R : Hp → Prop) (h : (∀ H', R H' → u D σ H') → tIfS c t u D σ H) (f : ∀ H', R H' → u D σ H') : tIfS c t u D σ H := h f
theorem tIf_r {t : TT} {ta tb : TE} {σ : St} {H : Hp} {Q : VK} (R : V → Hp → Prop) (h : (∀ v H', R v H' → Q v H') → tIf t ta tb σ H Q) (f : ∀ v H', R v H' → Q v H') : tIf t ta tb σ H Q := h f
theorem te_r {t : TE} {σ : St} {H : Hp} {Q : VK} (R : V → Hp → Prop) (h : (∀ v H', R v H' → Q v H') → t σ H Q) (f : ∀ v H', R v H' → Q v H') : t σ H Q := h f
theorem let_rest {J C : Hp → Prop} {G : Prop} (main : (∀ H', J H' → C H') → G) (rest : ∀ H', J H' → C H') : G := main rest
theorem let_val {J C : V → Hp → Prop} {G : Prop} (main : (∀ v H', J v H' → C v H') → G) (rest : ∀ v H', J v H' → C v H') : G := main rest
open PySem.W (alike alikeAll minD maxD min_tuple_data max_tuple_data)
def rBest2 (K : PySem.W.Frag) (best : List Int → List Int → List Int) : List V → Hp → VK → Prop := fun vs H Q => ∃ (t p q : Addr) (a b : List Int), vs = [.ref t] ∧ SqT K H t [.ref p, .ref q] ∧ SqT K H p (a.map V.int) ∧ SqT K H q (b.map V.int) ∧
  ∀ r, SqT K H r ((best a b).map V.int) → Q (.ref r) H
def lessOf (a b : List Int) : List Int := if PySem.W.dataLt (rowD b) (rowD a) then b else a
def moreOf (a b : List Int) : List Int := if PySem.W.dataLt (rowD a) (rowD b) then b else a
theorem less_D (a b : List Int) : minD (rowD a) [rowD b] = rowD (lessOf a b) := by
  unfold minD lessOf
  show (if PySem.W.dataLt (rowD b) (rowD a) then rowD b else rowD a) = _
  split <;> rfl
theorem more_D (a b : List Int) : maxD (rowD a) [rowD b] = rowD (moreOf a b) := by
  unfold maxD moreOf
  show (if PySem.W.dataLt (rowD a) (rowD b) then rowD b else rowD a) = _
  split <;> rfl
section
variable {X : Cx}
theorem pair_reads {pins : List (Addr × Obj)} {σ : St} {H : Hp} {s : Shared} {p q : Addr} {a b : List Int} {its : List Value} (I : Inv X pins σ H s) (hp : SqT X.K H p (a.map V.int)) (hq : SqT X.K H q (b.map V.int)) (rv : Vals [.ref p, .ref q] its) : ∃ as, ReadsAll s.heap its [rowD a, rowD b] as :=
  Dp.readsAll I _ _ its (dpAll_rows (K := X.K) (ps := [p, q]) (rows := [a, b]) (.cons hp (.cons hq .nil))) rv
theorem pair_best {pins : List (Addr × Obj)} {σ : St} {H : Hp} {s : Shared} {p q : Addr} {a b m : List Int} {its : List Value} {i : Nat} {v : Value} {h' : Heap} {bs : List Addr} (I : Inv X pins σ H s) (hp : SqT X.K H p (a.map V.int)) (hq : SqT X.K H q (b.map V.int)) (rv : Vals [.ref p, .ref q] its) (hv : its[i]? = some v)
    (keep : ∀ b o, s.heap.get? b = some o → h'.get? b = some o) (hm : Reads h' v (rowD m) bs) : ∃ r, v = .ref r ∧ SqT X.K H r (m.map V.int) := by
  have one : ∀ (r : Addr) (c : List Int), v = .ref r → SqT X.K H r (c.map V.int) → ∃ r, v = .ref r ∧ SqT X.K H r (m.map V.int) := fun r c e h => by
    subst e
    obtain ⟨as0, r0⟩ := Dp.reads I (rowD c) (.ref r) (.ref r) (.tup h (dpAll_intsL H c)) rfl
    have e2 := rowD_inj (reads_det (fun b o e _ => keep b o e) r0 hm).1
    subst e2
    exact ⟨r, rfl, h⟩
  cases rv with
  | cons r1 rv =>
    cases rv with
    | cons r2 rv =>
      cases rv
      match i, hv with
      | 0, hv =>
        have e := Option.some.inj hv
        exact one p a (e.symm.trans r1) hp
      | 1, hv =>
        have e := Option.some.inj hv
        exact one q b (e.symm.trans r2) hq
theorem alike_two (a b : List Int) : PySem.W.AlikeAll [rowD a, rowD b] := by
  refine ⟨fun x hx y hy => ?_, fun x hx => ?_⟩
  · obtain ⟨c, _, rfl⟩ := List.mem_map.mp (show x ∈ [a, b].map rowD from hx)
    obtain ⟨d, _, rfl⟩ := List.mem_map.mp (show y ∈ [a, b].map rowD from hy)
    exact alike_ints c d
  · obtain ⟨c, _, rfl⟩ := List.mem_map.mp (show x ∈ [a, b].map rowD from hx)
    exact fun z => by cases z
theorem cr_min2T (hc : X.calm = true) (hu : X.A.units + 64 < cLine) : CallR X (.builtin "min") (rBest2 X.K lessOf) := by
  intro pins s σ H vs us Q I r h
  obtain ⟨t, p, q, a, b, rfl, ht, hp, hq, k⟩ := h
  obtain ⟨its, rv, pt, _⟩ := I.tuple ht
  rw [Vals.ref1 r]
  obtain ⟨as, hr⟩ := pair_reads I hp hq rv
  have hd := depth_rows [a, b]
  refine min_tuple_data (I.ok.hd hc) (show s.heap.IsTuple t its.toArray from pt) (x := rowD a) (xs := [rowD b]) (as := as) hr (alike_two a b) (by show X.A.units + 1 + PyData.depthAll ([a, b].map rowD) < cLine; omega) fun i v h' tk bs hv hm keep => ?_
  rw [less_D] at hm
  obtain ⟨r', rfl, hs⟩ := pair_best I hp hq rv (by simpa using hv) keep hm
  exact ⟨.ref r', H, I.kept (t' := tk) keep, rfl, k r' hs⟩
theorem cr_max2T (hc : X.calm = true) (hu : X.A.units + 64 < cLine) : CallR X (.builtin "max") (rBest2 X.K moreOf) := by
  intro pins s σ H vs us Q I r h
  obtain ⟨t, p, q, a, b, rfl, ht, hp, hq, k⟩ := h
  obtain ⟨its, rv, pt, _⟩ := I.tuple ht
  rw [Vals.ref1 r]
  obtain ⟨as, hr⟩ := pair_reads I hp hq rv
  have hd := depth_rows [a, b]
  refine max_tuple_data (I.ok.hd hc) (show s.heap.IsTuple t its.toArray from pt) (x := rowD a) (xs := [rowD b]) (as := as) hr (alike_two a b) (by show X.A.units + 1 + PyData.depthAll ([a, b].map rowD) < cLine; omega) fun i v h' tk bs hv hm keep => ?_
  rw [more_D] at hm
  obtain ⟨r', rfl, hs⟩ := pair_best I hp hq rv (by simpa using hv) keep hm
  exact ⟨.ref r', H, I.kept (t' := tk) keep, rfl, k r' hs⟩
def tChain3 (r1 r2 r3 : R2) (ta tb tc td : TE) : TE := fun σ H Q => ta σ H fun x H1 => tb σ H1 fun y H2 => r1 x y H2 fun z H3 => ∃ k, z = .bl k ∧
  (if k = true then tc σ H3 fun y2 H4 => r2 y y2 H4 fun z2 H5 => ∃ k2, z2 = .bl k2 ∧ (if k2 = true then td σ H5 fun y3 H6 => r3 y2 y3 H6 Q else Q (.bl false) H5) else Q (.bl false) H3)
theorem pe_chain3 {a b c d : Expr} {ta tb tc td : TE} {o1 o2 o3 : CmpOp} {r1 r2 r3 : R2} {pos : Pos} (h1 : OpR X (compareOp o1) r1) (h2 : OpR X (compareOp o2) r2) (h3 : OpR X (compareOp o3) r3) (ha : PE X a ta) (hb : PE X b tb) (hc : PE X c tc) (hd : PE X d td)
    (hm : lastMarks [o1, o2, o3] [b, c, d] = false := by with_unfolding_all rfl) : PE X (.Compare a [o1, o2, o3] [b, c, d] pos) (tChain3 r1 r2 r3 ta tb tc td) := by
  refine ⟨fun pins s σ H Q I h => ?_⟩
  refine Compare_chain (thn (ha.run pins s σ H _ I h) fun v sA ⟨x, HA, IA, rA, qA⟩ => chain_link (thn (hb.run pins sA σ HA _ IA qA) fun u sB ⟨y, HB, IB, rB, qB⟩ =>
    thn (h1 pins sB σ HB x y v u _ IB rA rB qB) fun e sC ⟨z, HC, IC, rC, k, ez, qC⟩ => ?_)) hm
  subst ez
  cases rC
  refine wpAny_truthy_bool ?_
  cases k with
  | false => exact ite_ff ⟨.bl false, HC, IC, rfl, qC⟩
  | true =>
    refine ite_tt (chain_link (thn (hc.run pins sC σ HC _ IC qC) fun u2 sD ⟨y2, HD, ID, rD, qD⟩ => thn (h2 pins sD σ HD y y2 u u2 _ ID rB rD qD) fun e2 sE ⟨z2, HE, IE, rE, k2, ez2, qE⟩ => ?_))
    subst ez2
    cases rE
    refine wpAny_truthy_bool ?_
    cases k2 with
    | false => exact ite_ff ⟨.bl false, HE, IE, rfl, qE⟩
    | true => exact ite_tt (chain_last (thn (hd.run pins sE σ HE _ IE qE) fun u3 sF ⟨y3, HF, IF, rF, qF⟩ => h3 pins sF σ HF y2 y3 u2 u3 Q IF rD rF qF))
def tListR3 (ta : TA) : TE := fun σ H Q => ta σ H fun vs H1 => ∃ (i j c : Int) (n : Nat), vs = [.int i, .int j, .int c] ∧ RgC i j c n ∧ n ≤ 1000 ∧ ∀ q, H1 q = none → Q (.ref q) (upd H1 q (.lst ((List.range n).map fun (k : Nat) => V.int (i + (k : Int) * c))))
theorem vals_rg3 {i c : Int} {n : Nat} {acc : Array Value} (h : ItemsOf (fun k v => ∃ t, v = .int (i + k * c) t) acc n) : Vals ((List.range n).map fun (k : Nat) => V.int (i + (k : Int) * c)) acc.toList := by
  have e : acc.toList.length = n := by rw [Array.length_toList]; exact h.1
  rw [← e]
  refine vals_of_get acc.toList _ fun j u hj => ?_
  obtain ⟨t, rfl⟩ := h.2 j u (by rw [← hj, Array.getElem?_toList])
  exact ⟨t, rfl⟩
theorem pe_listR3 {a b c : Expr} {ta : TA} {p p2 pos pos2 : Pos} (hcalm : X.calm = true) (hl : Gl X "list") (hml : X.mg "list" = none) (hg : Gl X "range") (hm : X.mg "range" = none) (ha : PA X [a, b, c] ta)
    (hs : starEach [a, b, c] X.env = (false, eval a X.env) :: starEach [b, c] X.env := by rfl) (hpl : (backTo pos2 (starEach [b, c] X.env)).any (·.1) = false := by rfl) (na : starEach [.Call (.Name "range" p2) [a, b, c] [] pos2] X.env = (false, eval (.Call (.Name "range" p2) [a, b, c] [] pos2) X.env) :: starEach [] X.env := by rfl) :
    PE X (.Call (.Name "list" p) [.Call (.Name "range" p2) [a, b, c] [] pos2] [] pos) (tListR3 ta) := by
  refine ⟨fun pins s σ H Q I h => ?_⟩
  refine Call_ (ld_blt I hl hml boot_list (PyProof.Rows.callWith_type1 (args_cons (Call_ (ld_blt I hg hm boot_range (PyProof.Rows.callWith_type1 (thn (ha.run pos2 pins s σ H _ I h) fun us s1 ⟨vs, H1, I1, r1, q1⟩ => ?_) hs hpl))) na) na))
  obtain ⟨i, j, k, n, ev, ⟨c0, c1, c2, c3⟩, n24, q⟩ := q1
  subst ev
  cases r1 with
  | cons w1 r1 =>
    cases r1 with
    | cons w2 r1 =>
      cases r1 with
      | cons w3 r1 =>
        cases r1
        obtain ⟨t1, rfl⟩ := w1
        obtain ⟨t2, rfl⟩ := w2
        obtain ⟨t3, rfl⟩ := w3
        refine call_range_3 c0 ?_ (.inl (PyProof.noPylong_small c1))
        refine args_nil ?_
        have I2 : Inv X pins σ H1 { s1 with heap := s1.heap.push { cls := .type "range", data := .fields #[.int i t1, .int j t2, .int k t3] } } := I1.kept (t' := s1.toks) fun b o e => Heap.get?_push_of_some _ e
        refine call_list_range (n := n) (I1.ok.hd hcalm) (IsRange.new ..) c2 c3 (by omega) fun h' tk acc c' keep e' hi => ?_
        refine ⟨.ref _, upd H1 _ (.lst ((List.range n).map fun (z : Nat) => V.int (i + (z : Int) * k))), I2.laid (t' := tk) keep (Nat.le_refl _) (show ObjOk X.prog X.w _ _ _ (.lst _) from ⟨?_, acc.toList, c', vals_rg3 hi, ?_⟩), rfl, q _ (I2.hok.fresh (Nat.le_refl _))⟩
        · rw [List.length_map, List.length_range, sizeLine_eq]; omega
        · rw [Array.toArray_toList]; exact e'
def rSumU (K : PySem.W.Frag) : List V → Hp → VK → Prop := fun vs H Q => ∃ (t : Addr) (a b : Int), vs = [.ref t] ∧ SqT K H t [.int a, .int b] ∧ Q (.int (a + b)) H
theorem cr_sumU (hc : X.calm = true) : CallR X (.builtin "sum") (rSumU X.K) := by
  intro pins s σ H vs us Q I r h
  obtain ⟨t, a, b, rfl, ht, k⟩ := h
  obtain ⟨its, rv, pt, _⟩ := I.tuple ht
  rw [Vals.ref1 r]
  cases rv with
  | cons r1 rv =>
    cases rv with
    | cons r2 rv =>
      cases rv
      obtain ⟨t1, rfl⟩ := r1
      obtain ⟨t2, rfl⟩ := r2
      refine PySem.W.ktm_sumG (xs := #[(a, t1), (b, t2)]) (I.ok.hd hc) (show s.heap.IsTuple t _ by have e : intItems #[(a, t1), (b, t2)] = #[Value.int a t1, Value.int b t2] := (by simp [intItems]); rw [e]; exact pt) fun h' tk t' keep => ?_
      have e : preSum (numAt #[(a, t1), (b, t2)]) (#[(a, t1), (b, t2)] : Array (Int × Tok)).size = a + b := by
        first | rfl | (simp [preSum, numAt]) | trace_state
      rw [e]
      exact ⟨.int (a + b), H, I.kept (t' := tk) keep, ⟨t', rfl⟩, k⟩
end
end L2
set_option maxRecDepth 100000
set_option maxHeartbeats 4000000
namespace L2
open PySem PySem.Spec PyProof.Rows
def Swaps5 (fd : FuncData) (a b c d e : Str) : Prop := ∀ (s : Shared) (v1 v2 v3 v4 v5 : Value), BindsTo s fd ⟨[], [(e, v1), (d, v2), (c, v3), (b, v4), (a, v5)]⟩ [(a, v5), (b, v4), (c, v3), (d, v2), (e, v1)]
theorem Fun.swaps5 {K : PySem.W.Frag} {x qual : Str} {st : Stmt} {f : Addr} {fd : FuncData} {a b c d e : Str} (F : Fun K x qual st f fd)
    (h : ∀ (kV doc pm : Value) (an : Option Addr) (cdv ct v1 v2 v3 v4 v5 : Value), bindArgs (PySem.W.fnOf x qual (defArgs st) (defBody st) (defScope st) .none kV doc pm an cdv ct) ⟨[], [(e, v1), (d, v2), (c, v3), (b, v4), (a, v5)]⟩ = pure [(a, v5), (b, v4), (c, v3), (d, v2), (e, v1)]) : Swaps5 fd a b c d e := by
  obtain ⟨oc, od, kV, doc, pm, an, cdv, ct, osl, rfl, lk, hcd⟩ := F.ex
  exact fun s v1 v2 v3 v4 v5 => BindsTo.of_eq (h kV doc pm an cdv ct v1 v2 v3 v4 v5)
def tSw5 (sp : Sp) (E : XK) (ta : TA) : TE := fun σ H Q => ta σ H fun zs H2 => sp zs.reverse H2 Q E
section
variable {X : Cx} {CX : CXT} {k : Nat} {f : Addr} {fd : FuncData} {a b c d e : Str} {sp : Sp} {E : XK} {x : Str} {p p1 p2 p3 p4 p5 pos : Pos} {e1 e2 e3 e4 e5 : Expr} {t1 t2 t3 t4 t5 : TE}
theorem run_sw5 {pins : List (Addr × Obj)} {σ : St} {H : Hp} {s : Shared} {Q : VK} {zs : List V} {w1 w2 w3 w4 w5 : Value} (F : FnOk X.prog X.w X.K X.mg X.base CX k f fd [a, b, c, d, e] sp) (hr : Room k X.A) (hb : Swaps5 fd a b c d e) (hx : Passes CX X E)
    (I : Inv X pins σ H s) (r : Vals zs [w5, w4, w3, w2, w1]) (h : sp zs H Q E) : wpAny (model X.prog X.w) X.A (call (.ref f) [] [(e, w1), (d, w2), (c, w3), (b, w4), (a, w5)]) (EP X pins σ Q) X.xe s := by
  refine wpAny_call (codeAny_mono (F.run X.A X.stack s H ⟨[], [(e, w1), (d, w2), (c, w3), (b, w4), (a, w5)]⟩ [w5, w4, w3, w2, w1] zs Q E hr I.env0 (hb s w1 w2 w3 w4 w5) r h) fun r s' hq => ?_)
  cases r with
  | error e => exact hx pins σ H s e s' I hq
  | ok fl =>
    cases fl with
    | ret u => exact I.after hq
    | next => exact False.elim hq
    | brk => exact False.elim hq
    | cont => exact False.elim hq
theorem vals_rev : ∀ {zs : List V} {us : List Value}, Vals zs us → Vals zs.reverse us.reverse
  | [], [], .nil => .nil
  | z :: zs, u :: us, .cons r h => by
    rw [List.reverse_cons, List.reverse_cons]
    exact (vals_rev h).append (.cons r .nil)
theorem pe_callSw5 (F : FnOk X.prog X.w X.K X.mg X.base CX k f fd [a, b, c, d, e] sp) (hr : Room k X.A) (hg : Gl X x) (hm : X.mg x = some (.ref f)) (hk : PySem.W.keepIn X.K (.ref f) = true) (hb : Swaps5 fd a b c d e) (hx : Passes CX X E)
    (h1 : PE X e1 t1) (h2 : PE X e2 t2) (h3 : PE X e3 t3) (h4 : PE X e4 t4) (h5 : PE X e5 t5) (hdb : (x == ("__debug__" : Str)) = false := by decide)
    (hall : (backToKw pos (keywordEach [⟨some e, e1, p1⟩, ⟨some d, e2, p2⟩, ⟨some c, e3, p3⟩, ⟨some b, e4, p4⟩, ⟨some a, e5, p5⟩] X.env)).all (·.1.isSome) = true := by rfl)
    (hks : (backToKw pos (keywordEach [⟨some e, e1, p1⟩, ⟨some d, e2, p2⟩, ⟨some c, e3, p3⟩, ⟨some b, e4, p4⟩, ⟨some a, e5, p5⟩] X.env)).filterMap (·.1) = [e, d, c, b, a] := by rfl)
    (hpl : ((backTo pos (starEach [] X.env)).any (·.1) || (backToKw pos (keywordEach [⟨some e, e1, p1⟩, ⟨some d, e2, p2⟩, ⟨some c, e3, p3⟩, ⟨some b, e4, p4⟩, ⟨some a, e5, p5⟩] X.env)).any (·.1.isNone)) = false := by rfl) :
    PE X (.Call (.Name x p) [] [⟨some e, e1, p1⟩, ⟨some d, e2, p2⟩, ⟨some c, e3, p3⟩, ⟨some b, e4, p4⟩, ⟨some a, e5, p5⟩] pos) (tSw5 sp E (tCons t1 (tCons t2 (tCons t3 (tCons t4 (tCons t5 tNil)))))) := by
  refine ⟨fun pins s σ H Q I h => ?_⟩
  refine wpAny_Call_Name_kw (ld_glob I hg hm ?_ hdb)
  refine PySem.W.callWith_KW0 (h₀ := X.base) I.ok.mod.kin hk hall ?_ hpl
  refine thn ((pk_cons h1 (pk_cons h2 (pk_cons h3 (pk_cons h4 (pk_cons h5 pk_nil))))).run pos pins s σ H _ I h) fun ws s2 ⟨zs, H2, J, rz, q⟩ => ⟨J.kIn, ?_⟩
  rw [hks]
  have hl := F.len _ _ _ _ q
  rw [List.length_reverse, rz.length] at hl
  match ws, hl, rz with
  | [w1, w2, w3, w4, w5], _, rz => exact run_sw5 F hr hb hx J (vals_rev rz) q
end
end L2
set_option maxRecDepth 100000
set_option maxHeartbeats 4000000
namespace L2
open PySem PySem.Spec PyProof.Rows
section
variable {X : Cx} {pins : List (Addr × Obj)} {σ : St} {H : Hp} {s : Shared} {d : Addr} {o : Obj}
theorem Inv.frzTV {kvs : List (List Key × V)} (I : Inv X pins σ H s) (h : H d = some (.frz o (.dT kvs))) :
    (d == sysModules) = false ∧ s.heap.get? d = some o ∧ o.ExactDict ∧ ∃ (es : Array DictEntry) (ep : Nat), o.data = .dict es ep ∧ es.size = kvs.length ∧
      ∀ (i : Nat) (k : List Key) (v : V), kvs[i]? = some (k, v) → ∃ (en : DictEntry) (q : Addr), es[i]? = some en ∧ en.key = .ref q ∧ H q = some (.tup (k.map kV)) ∧ RelV v en.val := by
  obtain ⟨here, _, low, xs, pr, o', es, ep, ho, ex, dat, ent, _⟩ := I.hok d _ h
  obtain rfl : o' = o := Option.some.inj (ho.symm.trans here)
  have l1 := size_of_entries ent
  have l2 := Paired.length pr
  refine ⟨low, here, ex, es, ep, dat, l1.trans l2.symm, fun i k v at_ => ?_⟩
  obtain ⟨b, hb, e1, e2, e3⟩ := paired_get pr at_
  have en := entry_at ent i
  rw [hb] at en
  exact ⟨_, b.2.1, en, rfl, e2, e3⟩
end
def Itdt (d : Addr) (o : Obj) (kvs : List (List Key × V)) : It :=
  ⟨fun i H => i < kvs.length ∧ H d = some (.frz o (.dT kvs)), fun i H x G => (∃ k, kvs[i]? = some (k, x)) ∧ G = H, fun i H => kvs.length ≤ i ∧ H d = some (.frz o (.dT kvs))⟩
def Itit (d : Addr) (o : Obj) (kvs : List (List Key × V)) : It :=
  ⟨fun i H => i < kvs.length ∧ H d = some (.frz o (.dT kvs)), fun i H x G => ∃ (T q : Addr) (k : List Key) (v : V), kvs[i]? = some (k, v) ∧ H q = some (.tup (k.map kV)) ∧ x = .ref T ∧ H T = none ∧ G = upd H T (.tup [.ref q, v]), fun i H => kvs.length ≤ i ∧ H d = some (.frz o (.dT kvs))⟩
section
variable {P : Program} {w : World} {K : PySem.W.Frag} {tg : Expr} {d : Addr} {o : Obj} {es : Array DictEntry} {ep : Nat}
theorem turn_valsT {kvs : List (List Key × V)} (it : Addr) (dat : o.data = .dict es ep) : Turn P w K tg (Itdt d o kvs) [it] it (fun i h => h.get? it = some (DVw.valOb d i kvs.length ep)) where
  mem := List.mem_singleton_self it
  obj := fun i h st b hb => by
    rw [List.mem_singleton.mp hb]
    exact ⟨_, st, fun v z => nomatch z⟩
  keep := fun i h h' st k => k it (List.mem_singleton_self it) _ st
  item := by
    intro X hP hw hK hc i pins s σ H E I hf st hg
    subst hP hw hK
    obtain ⟨lt, hd⟩ := hg
    obtain ⟨f0, f1, f2, f3, f4, f5⟩ := hf it (List.mem_singleton_self it)
    obtain ⟨low, here, ex, es', ep', dat', hsz, ent⟩ := I.frzTV hd
    obtain ⟨rfl, rfl⟩ := dict_ep dat dat'
    obtain ⟨en, q, hen, hk, hq, rv⟩ := ent i kvs[i].1 kvs[i].2 (List.getElem?_eq_getElem lt)
    refine DVw.val_item st here dat hsz hen fun h' st' sb => ?_
    have J : Inv X pins σ H { s with heap := h' } := I.turned (t' := s.toks) (fun b ob nb e => (sb.2 b nb).trans e) f0 f1 f3 f4 f5
    exact ⟨en.val, rfl, go_of (s := { s with heap := h' }) st' rfl rfl (by decide) ⟨kvs[i].2, H, J, rv, ⟨⟨_, List.getElem?_eq_getElem lt⟩, rfl⟩, st', fun b hb => (hf b hb).1⟩⟩
  done := by
    intro X hP hw hK hc i pins s σ H E I hf st hg
    subst hP hw hK
    obtain ⟨ge, hd⟩ := hg
    obtain ⟨f0, f1, f2, f3, f4, f5⟩ := hf it (List.mem_singleton_self it)
    obtain ⟨low, here, ex, es', ep', dat', hsz, ent⟩ := I.frzTV hd
    obtain ⟨rfl, rfl⟩ := dict_ep dat dat'
    exact DVw.val_end (I.ok.hd hc) st here dat hsz (Array.getElem?_eq_none (by omega)) fun h' eb => ⟨rfl, I.turned (t' := s.toks) (fun b ob nb e => eb b ob nb e) f0 f1 f3 f4 f5⟩
  self := fun A i s Q E st h => by
    have ty : s.TypeIs (.ref it) "dict_valueiterator" := ⟨_, st, rfl⟩
    exact wpAny_pyIter_valiter (d := d) (i := i) (n := kvs.length) (ep := ep) ⟨_, st, rfl, rfl⟩ h
theorem turn_itemsT {kvs : List (List Key × V)} {elts : List Expr} {kk : Nat} {tpos : Pos} (it : Addr) (dat : o.data = .dict es ep) :
    Turn P w K (.Tuple elts kk tpos) (Itit d o kvs) [it] it (fun i h => ∃ ok ov, h.get? it = some (DVw.itmOb d .none i kvs.length ep ok ov)) where
  mem := List.mem_singleton_self it
  obj := fun i h st b hb => by
    obtain ⟨ok, ov, e⟩ := st
    rw [List.mem_singleton.mp hb]
    exact ⟨_, e, fun v z => nomatch z⟩
  keep := fun i h h' st k => let ⟨ok, ov, e⟩ := st; ⟨ok, ov, k it (List.mem_singleton_self it) _ e⟩
  item := by
    intro X hP hw hK hc i pins s σ H E I hf st hg
    subst hP hw hK
    obtain ⟨lt, hd⟩ := hg
    obtain ⟨low, here, ex, es', ep', dat', hsz, ent⟩ := I.frzTV hd
    obtain ⟨rfl, rfl⟩ := dict_ep dat dat'
    obtain ⟨ok, ov, hit⟩ := st
    have small : it < s.heap.objs.size := Heap.lt_size hit
    obtain ⟨en, q, hen, hk, hq, rv⟩ := ent i kvs[i].1 kvs[i].2 (List.getElem?_eq_getElem lt)
    refine DVw.itm_item hit here dat hsz hen fun h1 b1 b2 b3 b4 => ?_
    refine ⟨_, rfl, wpAny_letOwnedTupleGo_items (s := { s with heap := h1 }) (d := d) (i := i + 1) (n := kvs.length) (ep := _) (ok := en.key) (ov := en.val) b1 fun h2 st2 sb => ?_⟩
    have pair : h2.get? s.heap.objs.size = some { cls := .type "tuple", data := .seq #[en.key, en.val] } := (sb.2 _ (Nat.ne_of_gt small)).trans b2
    have new : ObjOk X.prog X.w (upd H s.heap.objs.size (.tup [.ref q, kvs[i].2])) h2 s.heap.objs.size (.tup [.ref q, kvs[i].2]) :=
      ⟨by show 2 ≤ sizeLine; decide, [en.key, en.val], .cons hk (.cons rv .nil), ⟨_, pair, rfl, _, rfl⟩⟩
    have J : Inv X pins σ (upd H s.heap.objs.size (.tup [.ref q, kvs[i].2])) { s with heap := h2 } :=
      I.turnedNew (t' := s.toks) (ch := [it]) (fun b ob nb z => (sb.2 b (by simpa using nb)).trans (b4 b ob (by simpa using nb) z)) hf (Nat.le_refl _) new
    refine ⟨.ref s.heap.objs.size, _, J, rfl, ⟨_, q, _, _, List.getElem?_eq_getElem lt, hq, rfl, I.hok.fresh (Nat.le_refl _), rfl⟩, ⟨en.key, en.val, st2⟩, fun b hb => ?_⟩
    rw [List.mem_singleton.mp hb, upd_ne (Nat.ne_of_lt small)]
    exact (hf it (List.mem_singleton_self it)).1
  done := by
    intro X hP hw hK hc i pins s σ H E I hf st hg
    subst hP hw hK
    obtain ⟨ge, hd⟩ := hg
    obtain ⟨f0, f1, f2, f3, f4, f5⟩ := hf it (List.mem_singleton_self it)
    obtain ⟨low, here, ex, es', ep', dat', hsz, ent⟩ := I.frzTV hd
    obtain ⟨rfl, rfl⟩ := dict_ep dat dat'
    obtain ⟨ok, ov, hit⟩ := st
    exact DVw.itm_end (I.ok.hd hc) hit here dat hsz (Array.getElem?_eq_none (by omega)) fun h' eb => ⟨rfl, I.turned (t' := s.toks) (fun b ob nb e => eb b ob nb e) f0 f1 f3 f4 f5⟩
  self := fun A i s Q E st h => let ⟨_, _, e⟩ := st; PySem.W.kcp_self e h
end
def iValsT (td : TE) : TI := fun σ H R => td σ H fun x G => ∃ d o kvs, x = .ref d ∧ G d = some (.frz o (.dT kvs)) ∧ R (Itdt d o kvs) G
def iItemsT (td : TE) : TI := fun σ H R => td σ H fun x G => ∃ d o kvs, x = .ref d ∧ G d = some (.frz o (.dT kvs)) ∧ R (Itit d o kvs) G
theorem meetsValues {prog : Program} {w : World} {d : Addr} {es : Array DictEntry} {ep : Nat} (low : (d == sysModules) = false) :
    MeetsIn prog w (Builtin.«dict.values» ⟨[.ref d], []⟩) (fun _ R s => DT.Raw s.heap d es ep ∧ R (.ok (.ret (.ref s.heap.objs.size))) { s with heap := s.heap.push (DSub.viewOb "dict_values" d) }) :=
  .of_wp fun A R s ⟨hm, h⟩ => by
    change wpAny _ _ (Builtin.Dict.noArgs "values" ⟨[.ref d], []⟩ >>= _) _ _ _
    unfold Builtin.Dict.noArgs
    refine wpAny_bind (wpAny_bind (wpAny_notOrdered_dict hm.typeIs ?_))
    show wpAny _ _ (pure d) _ _ s
    refine wpAny_pure ?_
    show wpAny _ _ (Builtin.Dict.showsAll d >>= _) _ _ s
    unfold Builtin.Dict.showsAll
    rw [if_neg (by rw [low]; exact Bool.false_ne_true)]
    exact wpAny_bind (wpAny_pure (wpAny_bind (wpAny_newObj_type (wpAny_pure ⟨_, rfl, h⟩))))
section
variable {X : Cx} {tg e : Expr} {td : TE} {apos cpos : Pos}
theorem raw_of {h : Heap} {d : Addr} {o : Obj} {es : Array DictEntry} {ep : Nat} (here : h.get? d = some o) (ex : o.ExactDict) (dat : o.data = .dict es ep) : DT.Raw h d es ep := ⟨o, here, ex, dat⟩
theorem noDict_of {h : Heap} {d : Addr} {o : Obj} (here : h.get? d = some o) (ex : o.ExactDict) : ∀ b, Value.ref d = .ref b → ∃ ob, h.get? b = some ob ∧ ob.dict = none := fun b z => by
  cases z
  exact ⟨o, here, ex.2.1⟩
theorem pi_valuesT (he : PE X e td) (hbase : attributeBase e "values" X.env (eval e X.env) = eval e X.env := by rfl) (hline : (apos.endLine == cpos.line) = true := by rfl) : PI X tg (.Call (.Attribute e "values" apos) [] [] cpos) (iValsT td) := by
  refine ⟨fun pins s σ H R I h => ?_⟩
  refine wpAny_Call_method (T := "dict") (id := "dict.values") hbase rfl hline F.plainAttrs_dict F.slot_dict_values F.type_dict_values (thn (he.run pins s σ H _ I h) fun u s1 ⟨x, H1, I1, rx, d, o, kvs, ex, hd, q⟩ => ?_)
  subst ex
  obtain rfl : u = Value.ref d := rx
  obtain ⟨low, here, exact_, es, ep, dat, hsz, ent⟩ := I1.frzTV hd
  have raw := raw_of here exact_ dat
  refine ⟨raw.typeIs, noDict_of here exact_, ?_⟩
  have J : Inv X pins σ H1 { s1 with heap := s1.heap.push (DSub.viewOb "dict_values" d) } := I1.kept (t' := s1.toks) fun b ob q => Heap.get?_push_of_some _ q
  have fin : wpAny (model X.prog X.w) X.A (pyIter (.ref s1.heap.objs.size)) (PIE X pins σ tg R) X.xe { s1 with heap := s1.heap.push (DSub.viewOb "dict_values" d) } := by
    refine DSub.iter_vals (Heap.get?_push_size _ rfl) (Heap.get?_push_of_some _ here) dat ?_
    refine pi_one (tk := s1.toks) J _ (turn_valsT _ dat) ?_ q
    rw [← hsz]
    exact Heap.get?_push_size _ rfl
  show wpAny _ _ (callWith cpos (.builtin "dict.values") [.ref d] [] []) _ X.xe s1
  exact method_meetsIn F.slot_dict_values F.entry_dict_values rfl (PySem.evalArgs_none ⟨rfl, raw.typeIs, F.args_dict_values_1 _, _, meetsValues low, ⟨raw, fin⟩⟩)
theorem pi_itemsT {elts : List Expr} {kk : Nat} {tpos : Pos} (he : PE X e td) (hbase : attributeBase e "items" X.env (eval e X.env) = eval e X.env := by rfl) (hline : (apos.endLine == cpos.line) = true := by rfl) :
    PI X (.Tuple elts kk tpos) (.Call (.Attribute e "items" apos) [] [] cpos) (iItemsT td) := by
  refine ⟨fun pins s σ H R I h => ?_⟩
  refine wpAny_Call_method (T := "dict") (id := "dict.items") hbase rfl hline F.plainAttrs_dict F.slot_dict_items F.type_dict_items (thn (he.run pins s σ H _ I h) fun u s1 ⟨x, H1, I1, rx, d, o, kvs, ex, hd, q⟩ => ?_)
  subst ex
  obtain rfl : u = Value.ref d := rx
  obtain ⟨low, here, exact_, es, ep, dat, hsz, ent⟩ := I1.frzTV hd
  have raw := raw_of here exact_ dat
  refine ⟨raw.typeIs, noDict_of here exact_, ?_⟩
  have J : Inv X pins σ H1 { s1 with heap := s1.heap.push (DSub.viewOb "dict_items" d) } := I1.kept (t' := s1.toks) fun b ob q => Heap.get?_push_of_some _ q
  have fin : wpAny (model X.prog X.w) X.A (pyIter (.ref s1.heap.objs.size)) (PIE X pins σ (.Tuple elts kk tpos) R) X.xe { s1 with heap := s1.heap.push (DSub.viewOb "dict_items" d) } := by
    refine DSub.iter_itms (Heap.get?_push_size _ rfl) (Heap.get?_push_of_some _ here) dat ?_
    refine pi_one (tk := s1.toks) J _ (turn_itemsT _ dat) ⟨.none, .none, ?_⟩ q
    rw [← hsz]
    exact Heap.get?_push_size _ rfl
  show wpAny _ _ (callWith cpos (.builtin "dict.items") [.ref d] [] []) _ X.xe s1
  exact method_meetsIn F.slot_dict_items F.entry_dict_items rfl (PySem.evalArgs_none ⟨rfl, raw.typeIs, F.args_dict_items_1 _, _, DT.meetsItems low, ⟨raw, fin⟩⟩)
end
end L2
set_option maxRecDepth 100000
set_option maxHeartbeats 4000000
namespace L2
open PySem PySem.Spec PySem.Calls PyProof.Rows
theorem reads_ints {h : Heap} : ∀ {ns : List Int} {us : List Value}, Vals (ns.map V.int) us → ReadsAll h us (ns.map PyData.int) []
  | [], _, .nil => .nil
  | n :: ns, _, .cons r t => by
    obtain ⟨tk, rfl⟩ := r
    exact ReadsAll.cons (as := []) (bs := []) (.int n tk) (reads_ints t)
theorem reads_tup {X : Cx} {pins : List (Addr × Obj)} {σ : St} {H : Hp} {s : Shared} {q : Addr} {ns : List Int} (I : Inv X pins σ H s) (h : SqT X.K H q (ns.map V.int)) : Reads s.heap (.ref q) (rowD ns) [] := by
  obtain ⟨its, rv, ⟨o, ho, hc, n, hd⟩, _⟩ := I.tuple h
  exact .tuple ho hc hd (reads_ints rv)
def KeysI (H : Hp) (kvs : List (List Key × V)) (bs : List (Addr × List Int)) : Prop := Paired (fun (p : List Key × V) (b : Addr × List Int) => p.1 = b.2.map Sum.inl ∧ H b.1 = some (.tup (b.2.map V.int))) kvs bs
def rSortDT : List V → Hp → VK → Prop := fun vs H Q => ∃ (d : Addr) (kvs : List (List Key × V)), vs = [.ref d] ∧ Rd H d (.dT kvs) ∧ (∀ p ∈ kvs, ∃ ns : List Int, ns ≠ [] ∧ p.1 = ns.map Sum.inl) ∧
  ∀ (bs bs' : List (Addr × List Int)) (p : Addr), KeysI H kvs bs → bs'.Perm bs → bs'.Pairwise (fun a b => a.2 ≤ b.2) → H p = none → Q (.ref p) (upd H p (.lst (bs'.map fun b => V.ref b.1)))
theorem keysI_of {H : Hp} {kvs : List (List Key × V)} {xs : List (List Key × Addr × Value)} (r : KT H kvs xs) (all : ∀ p ∈ kvs, ∃ ns : List Int, ns ≠ [] ∧ p.1 = ns.map Sum.inl) :
    ∃ bs : List (Addr × List Int), KeysI H kvs bs ∧ bs.map (·.1) = xs.map (fun x => x.2.1) ∧ ∀ b ∈ bs, b.2 ≠ [] ∧ H b.1 = some (.tup (b.2.map V.int)) := by
  induction r with
  | nil => exact ⟨[], .nil, rfl, fun b hb => nomatch hb⟩
  | @cons p q l1 l2 h t ih =>
    obtain ⟨bs, b1, b2, b3⟩ := ih fun z hz => all z (List.mem_cons_of_mem _ hz)
    obtain ⟨ns, n0, e⟩ := all p (List.mem_cons_self ..)
    have et : H q.2.1 = some (.tup (ns.map V.int)) := by
      rw [h.2.1, e, List.map_map]
      rfl
    refine ⟨(q.2.1, ns) :: bs, .cons ⟨e, et⟩ b1, by rw [List.map_cons, List.map_cons, b2], fun b hb => ?_⟩
    rcases List.mem_cons.mp hb with rfl | hb
    · exact ⟨n0, et⟩
    · exact b3 b hb
section
variable {X : Cx}
theorem cr_sortedDT (calm : X.calm = true) (hu : X.A.units + 64 < cLine) : CallR X (.builtin "sorted") rSortDT := by
  intro pins s σ H vs us Q I r h
  obtain ⟨d, kvs, rfl, hd, all, q⟩ := h
  rw [Vals.ref1 r]
  obtain ⟨z, low, xs, pr, o, es, ep, ho, hx, dat, ent, nodup⟩ := (show ObjOk X.prog X.w H s.heap d (.dT kvs) from hd.ok I.hok)
  obtain ⟨bs, kb, fst, each⟩ := keysI_of pr all
  have lx : es.size = xs.length := size_of_entries ent
  have lk : kvs.length = xs.length := Paired.length pr
  have lb : bs.length = xs.length := by
    have := congrArg List.length fst
    rwa [List.length_map, List.length_map] at this
  refine call_function_entry kind_sorted plain_sorted entry_sorted (args_sorted1 _) ?_
  unfold Builtin.«sorted»
  refine wpAny_bind (m := checkCount "sorted" 1 1 _) (wpAny_pure ?_)
  refine wpAny_bind (PySem.W.kdu_collect (A := X.A.in1) (kdl_raw low hx dat) (I.ok.hd calm) ho (by omega) fun h1 tk acc keep items => ?_)
  have ea : acc.toList = bs.map fun b => Value.ref b.1 := by
    have e0 : (bs.map fun b => Value.ref b.1) = (xs.map fun x => x.2.1).map Value.ref := by rw [← fst, List.map_map]; rfl
    rw [e0]
    have l0 : acc.toList.length = xs.length := by rw [Array.length_toList, items.1]; exact lx
    refine List.ext_getElem? fun j => ?_
    cases hj : acc.toList[j]? with
    | none =>
      have := List.getElem?_eq_none_iff.mp hj
      rw [List.getElem?_eq_none (by rw [List.length_map, List.length_map]; omega)]
    | some v =>
      obtain ⟨en, hen, hv⟩ := items.2 j v (by rw [← Array.getElem?_toList]; exact hj)
      have qe := entry_at ent j
      rw [hen] at qe
      cases hb : xs[j]? with
      | none =>
        rw [hb] at qe
        cases qe
      | some b =>
        rw [hb] at qe
        have e2 : en = entryOfKey (tupleKind (mixKind X.prog X.w)) b := Option.some.inj qe
        rw [List.getElem?_map, List.getElem?_map, hb, hv, e2]
        rfl
  refine wpAny_bind (wpAny_newList ?_ (by rw [ea, List.length_map]; omega))
  have rv : Vals (bs.map fun b => V.ref b.1) acc.toList := by
    rw [ea]
    clear ea fst each kb lb
    induction bs with
    | nil => exact .nil
    | cons b bs ih => exact .cons rfl ih
  have I1 : Inv X pins σ H { s with heap := h1, toks := tk } := I.kept (t' := tk) keep
  have I2 : Inv X pins σ H { s with heap := h1.push { cls := .type "list", data := .seq acc.toList.toArray }, toks := tk } := I1.kept (t' := tk) fun b o e => Heap.get?_push_of_some _ e
  have at_ : (h1.push { cls := .type "list", data := .seq acc.toList.toArray }).get? h1.objs.size = some (seqObj "list" acc.toList.toArray 0) := Heap.get?_push_size _ rfl
  have e1 : PySem.W.EachIs (fun v (b : Addr × List Int) => v = .ref b.1) acc.toList bs := each_of (fun _ => rfl) rv
  have hp := List.mergeSort_perm bs (PySem.W.dataLe false fun b : Addr × List Int => rowD b.2)
  have hw : (bs.mergeSort (PySem.W.dataLe false fun b : Addr × List Int => rowD b.2)).Pairwise (fun a b => a.2 ≤ b.2) := by
    rw [dataLe_tups (fun b : Addr × List Int => b.2)]
    refine (List.pairwise_mergeSort (le := fun p q : Addr × List Int => decide (p.2 ≤ q.2)) (fun a b c h1 h2 => ?_) (fun a b => ?_) bs).imp fun h => of_decide_eq_true h
    · exact decide_eq_true (List.le_trans (of_decide_eq_true h1) (of_decide_eq_true h2))
    · rcases List.le_total a.2 b.2 with h | h
      · rw [decide_eq_true h]
        rfl
      · rw [decide_eq_true h, Bool.or_true]
  refine wpAny_bind (wpAny_holding (wpAny_mono (PySem.W.list_sort_data (A := X.A.in1) (s := { s with heap := h1.push { cls := .type "list", data := .seq acc.toList.toArray }, toks := tk }) (R := fun v (b : Addr × List Int) => v = .ref b.1) (enc := fun b => rowD b.2) (Q := fun _ s' => EP X pins σ Q (.ref h1.objs.size) s') at_ e1 ?_ ?_ ?_ ?_ (fun b _ => ?_) fun out ho2 eo => ?_) (fun _ s' x => ?_) fun _ _ e => e))
  · exact (PySem.W.each_mem e1).mono fun v b ⟨e, hm⟩ => ⟨[], by rw [e]; exact reads_tup I2 (SqT.of (each b hm).2), by simp⟩
  · exact PySem.W.AllAlike.of fun b b' => PySem.W.alike_ints b.2 b'.2
  · refine .inl fun y hy => ?_
    obtain ⟨b, hm, rfl⟩ := List.mem_map.mp hy
    cases e : b.2 with
    | nil => exact absurd e (each b hm).1
    | cons x m => exact ⟨.int x, m.map PyData.int, by show rowD _ = _; first | rfl | (rw [e]; rfl)⟩
  · omega
  · have hd : (rowD b.2).depth = 1 := by
      show PyData.depthAll (b.2.map PyData.int) + 1 = 1
      rw [PySem.W.depth_ints]
    rw [hd]
    show X.A.units + 1 + 1 + 1 < cLine
    omega
  · have hv := vals_each eo
    obtain ⟨ep2, at2⟩ := sortedHeap_at (out := List.toArray out) at_
    have sizes : (h1.push { cls := .type "list", data := .seq acc.toList.toArray }).objs.size = h1.objs.size + 1 := Heap.size_push ..
    refine ⟨.ref h1.objs.size, upd H h1.objs.size (.lst _), I1.laid (t' := tk) (fun b o e => ?_) (Nat.le_refl _) ⟨?_, out, ep2, hv, at2⟩, rfl, q _ _ _ kb hp hw (I1.hok.fresh (Nat.le_refl _))⟩
    · have lt : b < h1.objs.size := Heap.lt_size e
      rw [sortedHeap_old (Nat.ne_of_lt lt) (by rw [sizes]; exact Nat.lt_succ_of_lt lt)]
      exact Heap.get?_push_of_some _ e
    · rw [List.length_map, hp.length_eq]
      omega
  · exact wpAny_pure ⟨_, rfl, x⟩
end
end L2
set_option maxRecDepth 100000
set_option maxHeartbeats 4000000
namespace L2
open PySem PySem.Spec PyProof.Rows
section
variable {X : Cx} {pins : List (Addr × Obj)} {σ : St} {H : Hp} {s : Shared} {E : Value → Shared → Prop}
theorem put_tup {D q : Addr} {kvs : List (List Key × V)} {k : List Key} {v : V} {r : Value} {Q : Unit → Shared → Prop} (few : X.A.units + 1 < cLine) (I : Inv X pins σ H s) (hD : H D = some (.dT kvs)) (hq : H q = some (.tup (k.map kV))) (small : kvs.length < sizeLine) (rv : RelV v r)
    (go : ∀ s', Inv X pins σ (upd H D (.dT (putK kvs k v))) s' → Q () s') : wpAny (model X.prog X.w) X.A (dictSet D (.ref q) r) Q E s := by
  obtain ⟨z, low, xs, rel, dd⟩ := dt_of I.hok hD
  have lx : xs.length ≤ sizeLine := (Paired.length rel) ▸ z
  have lp := length_putK kvs k v
  refine wpAny_dictSet_heap (hsz := lx) (show X.A.units < cLine by omega) (key_of I.hok hq) dd fun h1 after same => go _ ?_
  obtain ⟨o, es, ep, at_, x1, x2, x3, _, x4⟩ := after
  refine d_write I (by rw [hD]; trivial) same ⟨o, at_⟩ ⟨by omega, low, _, (rel.put k hq rv).keeps fun c ys ec => ?_, o, es, ep, at_, x1, x2, x3, x4⟩
  have cD : c ≠ D := ne_of ec hD fun w => nomatch w
  exact (upd_ne cD).trans ec
end
section
variable {X : Cx}
def tDcT (wi : TI) (g : TG) (tt : TT) (tk tv : TE) (vs : List Nat) : TE := fun σ H Q => wi σ H fun J G => ∀ D, G D = none → ∃ W : Nat → Nat → Hp → Prop, (∃ m, W 0 m (upd G D (.dT []))) ∧ ∀ i m G, W i m G →
  (J.stop i G ∧ Q (.ref D) G) ∨ (J.go i G ∧ ∃ Nx : Hp → Prop, (∀ G', Nx G' → ∃ m', m' < m ∧ W (i + 1) m' G') ∧ ∀ x G', J.yld i G x G' → g x (wipe σ vs) G' fun τ G2 => wipe τ vs = wipe σ vs ∧ tt τ G2 fun b G3 =>
    if b = true then tk τ G3 fun y G4 => tv τ G4 fun z G5 => ∃ (kvs : List (List Key × V)) (k : List Key) (q : Addr), y = .ref q ∧ G5 q = some (.tup (k.map kV)) ∧ G5 D = some (.dT kvs) ∧ kvs.length < sizeLine ∧ Nx (upd G5 D (.dT (putK kvs k z))) else Nx G3)
theorem pe_dcT {kx vx tg iter : Expr} {ifs : List Expr} {scope : Scope} {own : List (Str × Nat)} {pos : Pos} {wi : TI} {g : TG} {tt : TT} {tk tv : TE} (calm : X.calm = true) (few : X.A.units + 1 < cLine) (hN : X.N.Nodup) (it0 : PI X tg iter wi) (ok : BlkOk X.N X.env.scope scope own)
    (rg : ∀ (s : Shared) (H : Hp) (C : Addr) (cl : List (Str × Addr)) (fp : List Addr), PG (X.blk s H scope (compEnvC scope cl C X.env) fp) tg g)
    (rt : ∀ (s : Shared) (H : Hp) (C : Addr) (cl : List (Str × Addr)) (fp : List Addr), PTs (X.blk s H scope (compEnvC scope cl C X.env) fp) ifs tt)
    (rk : ∀ (s : Shared) (H : Hp) (C : Addr) (cl : List (Str × Addr)) (fp : List Addr), PE (X.blk s H scope (compEnvC scope cl C X.env) fp) kx tk)
    (rv : ∀ (s : Shared) (H : Hp) (C : Addr) (cl : List (Str × Addr)) (fp : List Addr), PE (X.blk s H scope (compEnvC scope cl C X.env) fp) vx tv) (fold : ∀ x, foldedSetIterable iter X.env x = pure x := by intro _; rfl) :
    PE X (.DictComp kx vx [⟨tg, iter, ifs, 0⟩] scope pos) (tDcT wi g tt tk tv (own.map (·.2))) := by
  refine ⟨fun pins s σ H Q I hyp => ?_⟩
  rw [arm_eval_DictComp]
  have capt : ∀ y ∈ scope.names, y.2 = .free → ∃ c, X.env.cells.lookup y.1 = some c := fun y hy e => (ok.free y hy e).elim (fun k => I.ok.has _ (.inl k)) fun k => I.ok.has _ (.inr k)
  refine wpAny_comprehension_free rfl fold (closure_ok capt) ok.kind (fun y hy e => by rw [ok.uniq y hy, e]) (thn (it0.run pins s σ H _ I hyp) fun xv sa ha => thn ha fun iv sb hb => ?_)
  obtain ⟨it, fp, tn, J, G, ev, IG, T, stb, fb, want⟩ := hb
  subst ev
  refine wpAny_newObj_type (newEnv_comp ?_)
  generalize hD : sb.heap.objs.size = D
  obtain ⟨W, ⟨m0, w0⟩, turn⟩ := want D (IG.hok.fresh (Nat.le_of_eq hD))
  generalize hsc : ({ sb with heap := sb.heap.push { cls := .type "dict", data := .dict #[] } } : Shared) = sc
  have hc : sc.heap = sb.heap.push { cls := .type "dict", data := .dict #[] } := by rw [← hsc]
  have IC : Inv X pins σ (upd G D (.dT [])) sc := by
    rw [← hsc]
    refine IG.laid (t' := sb.toks) (fun b o e => Heap.get?_push_of_some _ e) (Nat.le_of_eq hD) ?_
    rw [← hD]
    exact dt_empty sb.heap IG.big
  have under : ∀ b ∈ fp, b < sb.heap.objs.size := fun b hb => let ⟨_, e, _⟩ := T.obj _ _ stb b hb; Heap.lt_size e
  have fc : ∀ b ∈ fp, FpOk X pins (upd G D (.dT [])) b ∧ b < sc.heap.objs.size := fun b hb => by
    have lt := under b hb
    refine ⟨⟨(upd_ne (hD ▸ Nat.ne_of_lt lt)).trans (fb b hb).1, (fb b hb).2⟩, ?_⟩
    rw [hc, Heap.size_push]
    exact Nat.lt_succ_of_lt lt
  have stc : tn 0 sc.heap := T.keep _ _ _ stb fun b _ o e => hc ▸ Heap.get?_push_of_some _ e
  have ID := block_start IC ok hN fc
  have pg := rg sc (upd G D (.dT [])) sc.heap.objs.size (cellsFrom (sc.heap.objs.size + 1) scope.names (cloFrom X.env.cells scope.names [])) fp
  have pt := rt sc (upd G D (.dT [])) sc.heap.objs.size (cellsFrom (sc.heap.objs.size + 1) scope.names (cloFrom X.env.cells scope.names [])) fp
  have pk := rk sc (upd G D (.dT [])) sc.heap.objs.size (cellsFrom (sc.heap.objs.size + 1) scope.names (cloFrom X.env.cells scope.names [])) fp
  have pv := rv sc (upd G D (.dT [])) sc.heap.objs.size (cellsFrom (sc.heap.objs.size + 1) scope.names (cloFrom X.env.cells scope.names [])) fp
  show codeAny _ _ (.compStart (.DictComp kx vx [⟨tg, iter, ifs, 0⟩] scope pos) 0 (.ref it) (.ref D) (compEnvC scope (cellsFrom (sc.heap.objs.size + 1) scope.names (cloFrom X.env.cells scope.names [])) sc.heap.objs.size X.env)) (compPost (model X.prog X.w) X.A X.xe _ _ (.ref D) sc.heap.objs.size) { sc with heap := pushCells (sc.heap.push { cls := .type "dict", data := .dict #[] }) scope.names }
  have away : ∀ b ∈ fp, (upd G D (.dT [])) b = none := fun b hb => (fc b hb).1.1
  generalize hce : compEnvC scope (cellsFrom (sc.heap.objs.size + 1) scope.names (cloFrom X.env.cells scope.names [])) sc.heap.objs.size X.env = ce at ID pg pt pk pv ⊢
  have loc : ce.locals = sc.heap.objs.size := by subst hce; rfl
  generalize hG1 : upd G D (.dT []) = G1 at IC ID pg pt pk pv w0 away fc
  generalize hsd : ({ sc with heap := pushCells (sc.heap.push { cls := .type "dict", data := .dict #[] }) scope.names } : Shared) = sd at ID ⊢
  have std : tn 0 sd.heap := T.keep _ _ _ stc fun b _ o e => hsd ▸ pushCells_keeps _ _ _ _ (Heap.get?_push_of_some _ e)
  have pinned : ∀ {τ : St} {G' : Hp} {s' : Shared}, Inv (X.blk sc G1 scope ce fp) [] τ G' s' → (∀ b ∈ fp, G' b = none) → ∀ b ∈ fp, FpOk (X.blk sc G1 scope ce fp) [] G' b := fun {τ G' s'} J' hn b hb =>
    ⟨hn b hb, (J'.ok.exf b hb).1, J'.ok.exfs b hb, .inl hb, fun x c e => (J'.ok.exf b hb).2 x c e, fun p hp => absurd (show p ∈ ([] : List (Addr × Obj)) ++ [] from hp) (by simp)⟩
  have loop : codeAny (model X.prog X.w) X.A (.compLoop (.DictComp kx vx [⟨tg, iter, ifs, 0⟩] scope pos) 0 (.ref it) (.ref D) ce) (compPost (model X.prog X.w) X.A X.xe none (EP X pins σ Q) (.ref D) sc.heap.objs.size) sd := by
    refine compLoop_anyD (fun n s' => ∃ i G', Inv (X.blk sc G1 scope ce fp) [] (wipe σ (own.map (·.2))) G' s' ∧ (∀ b ∈ fp, G' b = none) ∧ tn i s'.heap ∧ W i n G') ?_ m0 ⟨0, G1, ID, away, std, w0⟩
    rintro n se ⟨i, G5, IE, ne, ste, we⟩
    rcases turn i n G5 we with ⟨stop, fin⟩ | ⟨more, Nx, down, step⟩
    · refine thnF (T.done (X.blk sc G1 scope ce fp) rfl rfl rfl calm i [] se _ G5 (fun _ _ => False) IE (pinned IE ne) ste stop) fun r sf ⟨er, IF⟩ => ?_
      subst er
      have back : Inv X pins σ G5 sf := IC.call' (ch := fp) IF.os IF.base IF.hok IF.bare fun b hb => let ⟨f, _⟩ := fc b hb; ⟨f.2.2.2.1, f.2.1, f.2.2.2.2.1, f.2.2.2.2.2⟩
      have nl : G5 sc.heap.objs.size = none := loc ▸ (show G5 ce.locals = none from IF.free)
      obtain ⟨m, hn, _⟩ := IF.loc
      have ns : sf.heap.Ns sc.heap.objs.size m := loc ▸ (show sf.heap.Ns ce.locals m from hn)
      obtain ⟨f0, f1, f2, f3, f4, f5⟩ := IC.fpOk (Nat.le_refl _) nl
      exact ⟨m, ns, fun h2 same => ⟨.ref D, G5, back.turned (t' := sf.toks) (fun b o nb e => (same.2 b nb).trans e) f0 f1 f3 f4 f5, rfl, fin⟩⟩
    · refine thnF (T.item (X.blk sc G1 scope ce fp) rfl rfl rfl calm i [] se _ G5 (fun _ _ => False) IE (pinned IE ne) ste more) fun r sf ⟨u, er, hf⟩ => ?_
      subst er
      refine thnF hf fun _ sg ⟨x, G7, I7, r7, y7, st7, n7⟩ => ?_
      have obs := T.obj _ _ st7
      refine thnF (pg.run _ sg _ G7 x u _ (I7.pinned (pinned I7 n7) obs) r7 (step x G7 y7)) fun _ sh ⟨τ, G8, I8, same8, q8⟩ => ?_
      refine thnF (pt.run _ sh τ G8 _ I8 q8) fun b si ⟨G9, I9, q9⟩ => ?_
      have next : ∀ {s' : Shared} {G' : Hp}, Inv (X.blk sc G1 scope ce fp) ([] ++ pinsAt fp sg.heap) τ G' s' → Nx G' → ∃ m, m < n ∧ ∃ i G', Inv (X.blk sc G1 scope ce fp) [] (wipe σ (own.map (·.2))) G' s' ∧ (∀ b ∈ fp, G' b = none) ∧ tn i s'.heap ∧ W i m G' := fun {s' G'} J' nx => by
        obtain ⟨m', lt, w'⟩ := down G' nx
        have kept : ∀ b ∈ fp, ∀ o, sg.heap.get? b = some o → s'.heap.get? b = some o ∧ G' b = none := fun b hb o e => by
          have p := J'.pin (b, o) (List.mem_append_right _ (List.mem_append_right _ (mem_pinsAt hb e)))
          exact ⟨p.1, p.2.1⟩
        refine ⟨m', lt, i + 1, G', (J'.unpinned (pins := [])).weak (by rw [← same8, wipe_length]) (fun j v e => (wipe_some (same8.symm ▸ e)).1), fun b hb => ?_, T.keep _ _ _ st7 fun b hb o e => (kept b hb o e).1, w'⟩
        obtain ⟨o, e, _⟩ := obs b hb
        exact (kept b hb o e).2
      cases b with
      | false => exact next I9 q9
      | true =>
        refine thnF (pk.run _ si τ G9 _ I9 q9) fun z1 sj ⟨yk, Ga, Ia, ra, qa⟩ => ?_
        refine thnF (pv.run _ sj τ Ga _ Ia qa) fun z2 sk ⟨yv, Gb, Ib, rb, kvs, k, q, ek, eq, eD, small, nx⟩ => ?_
        subst ek
        obtain rfl : z1 = Value.ref q := ra
        exact put_tup (X := X.blk sc G1 scope ce fp) few Ib eD eq small rb fun sl Il => next Il nx
  exact codeAny_compStart_dict loop (T.self X.A 0 _ _ _ std loop)
end
end L2
set_option maxRecDepth 100000
set_option maxHeartbeats 4000000
namespace L2
open PySem PySem.Spec PyProof.Rows
structure PrT where
  t : Addr
  q : Addr
  k : List Key
  v : V
def mergeT (kvs : List (List Key × V)) (more : List PrT) : List (List Key × V) := more.foldl (fun acc p => putK acc p.k p.v) kvs
theorem mergeT_len : ∀ (more : List PrT) (kvs : List (List Key × V)), (mergeT kvs more).length ≤ kvs.length + more.length
  | [], _ => Nat.le_refl _
  | p :: more, kvs => by
    have h1 := mergeT_len more (putK kvs p.k p.v)
    have h2 := length_putK kvs p.k p.v
    show (mergeT (putK kvs p.k p.v) more).length ≤ kvs.length + (more.length + 1)
    omega
def rDictPT (K : PySem.W.Frag) : List V → Hp → VK → Prop := fun xs H Q => ∃ (a : Addr) (ts : List PrT), xs = [.ref a] ∧ SqL K H a (ts.map fun p => V.ref p.t) ∧ (∀ p ∈ ts, SqT K H p.t [.ref p.q, p.v] ∧ H p.q = some (.tup (p.k.map kV))) ∧
  ∀ d, H d = none → Q (.ref d) (upd H d (.dT (mergeT [] ts)))
theorem paired_mem {α β : Type} {G : α → β → Prop} : ∀ {l : List α} {r : List β}, Paired G l r → ∀ {x : β}, x ∈ r → ∃ p ∈ l, G p x
  | _, _, .nil, x, h => by cases h
  | _, _, .cons (a := p) (b := y) g t, x, h => by
    rcases List.mem_cons.mp h with rfl | h
    · exact ⟨p, List.mem_cons_self .., g⟩
    · obtain ⟨z, hz, gz⟩ := paired_mem t h
      exact ⟨z, List.mem_cons_of_mem _ hz, gz⟩
def RawP (h : Heap) (p : PrT) (x : List Key × Addr × Value) : Prop := x.1 = p.k ∧ x.2.1 = p.q ∧ RelV p.v x.2.2 ∧ h.IsTuple p.t #[.ref p.q, x.2.2]
section
variable {X : Cx} {pins : List (Addr × Obj)} {σ : St} {H : Hp} {s : Shared}
theorem raw_pairs (I : Inv X pins σ H s) : ∀ {ts : List PrT}, (∀ p ∈ ts, SqT X.K H p.t [.ref p.q, p.v] ∧ H p.q = some (.tup (p.k.map kV))) → ∃ hs, Paired (RawP s.heap) ts hs
  | [], _ => ⟨[], .nil⟩
  | p :: ts, all => by
    obtain ⟨hs, tail⟩ := raw_pairs I (ts := ts) fun z hz => all z (List.mem_cons_of_mem _ hz)
    obtain ⟨its, rv, pt, _⟩ := I.tuple (all p (List.mem_cons_self ..)).1
    cases rv with
    | cons r1 rv =>
      cases rv with
      | cons r2 rv =>
        cases rv
        rename_i u1 u2
        obtain rfl : u1 = Value.ref p.q := r1
        exact ⟨(p.k, p.q, u2) :: hs, .cons ⟨rfl, rfl, r2, pt⟩ tail⟩
theorem kt_merge {H : Hp} {h : Heap} : ∀ {ts : List PrT} {hs : List (List Key × Addr × Value)}, Paired (RawP h) ts hs → (∀ p ∈ ts, H p.q = some (.tup (p.k.map kV))) → ∀ {kvs : List (List Key × V)} {xs : List (List Key × Addr × Value)}, KT H kvs xs → KT H (mergeT kvs ts) (storedAllH xs hs)
  | _, _, .nil, _, _, _, b => b
  | _, _, .cons (a := p) (b := x) r t, all, kvs, xs, b => by
    obtain ⟨e1, e2, e3, e4⟩ := r
    obtain ⟨k, q, u⟩ := x
    simp only at e1 e2 e3
    subst e1 e2
    exact kt_merge t (fun z hz => all z (List.mem_cons_of_mem _ hz)) (KT.put b p.k (all p (List.mem_cons_self ..)) e3)
theorem cr_dictPT (calm : X.calm = true) (hu : X.A.units + 64 < cLine) : CallR X (.type "dict") (rDictPT X.K) := by
  intro pins s σ H xs us Q I r hyp
  obtain ⟨a, ts, rfl, hs, all, q⟩ := hyp
  rw [Vals.ref1 r]
  obtain ⟨its, rv, ⟨o, n, ho, hc, hd, hdat⟩, hz⟩ := I.list hs
  rw [List.length_map] at hz
  obtain ⟨rs, pr⟩ := raw_pairs I all
  have lr : ts.length = rs.length := Paired.length pr
  have ei : its = ts.map fun p => Value.ref p.t := by
    clear pr lr all q hs hz hdat
    induction ts generalizing its with
    | nil => cases rv; rfl
    | cons p ts ih =>
      cases rv with
      | cons r1 rv =>
        obtain rfl := r1
        rw [ih _ rv]
        rfl
  let ps : List (Value × Value) := rs.map fun x => (.ref x.2.1, x.2.2)
  let Ts : Nat → Addr := fun j => (ts[j]?.map (·.t)).getD 0
  have lp : ps.length = rs.length := List.length_map ..
  have at_ : ∀ {j : Nat} {k v : Value}, ps[j]? = some (k, v) → ∃ (p : PrT) (x : List Key × Addr × Value), ts[j]? = some p ∧ rs[j]? = some x ∧ RawP s.heap p x ∧ k = .ref x.2.1 ∧ v = x.2.2 := fun {j k v} e => by
    rw [show ps[j]? = rs[j]?.map fun x => (Value.ref x.2.1, x.2.2) from List.getElem?_map ..] at e
    cases er : rs[j]? with
    | none => rw [er] at e; cases e
    | some x =>
      rw [er] at e
      cases e
      have jt : j < ts.length := by
        have := (List.getElem?_eq_some_iff.mp er).1
        omega
      obtain ⟨x', ex, rp⟩ := paired_get pr (List.getElem?_eq_getElem jt)
      rw [er] at ex
      cases ex
      exact ⟨_, x, List.getElem?_eq_getElem jt, rfl, rp, rfl, rfl⟩
  refine call_dict_pairsH (knd := tupleKind (mixKind X.prog X.w)) (ps := rs) (PairArg.list a its.toArray Ts ps) (I.ok.hd calm) (show X.A.units + 2 < cLine by omega) ⟨⟨o, n, ho, hc, hd, hdat⟩, ?_, ?_⟩ ⟨lp.symm, ?_⟩ ?_ (by omega) fun h1 tk after keep => ?_
  · rw [List.size_toArray, ei, List.length_map, lp]
    exact lr
  · intro j k v e
    obtain ⟨p, x, ht, hr, rp, rfl, rfl⟩ := at_ e
    have eT : Ts j = p.t := by
      show (ts[j]?.map (·.t)).getD 0 = p.t
      rw [ht]
      rfl
    refine ⟨?_, .inl ?_⟩
    · rw [List.getElem?_toArray, ei, List.getElem?_map, ht, eT]
      rfl
    · rw [eT, rp.2.1]
      exact rp.2.2.2
  · intro i key v e
    obtain ⟨p, x, ht, hr, rp, rfl, rfl⟩ := at_ e
    exact ⟨x.1, x.2.1, hr, rfl⟩
  · intro h2 keep x hx
    obtain ⟨p, hp, rp⟩ := paired_mem pr hx
    obtain ⟨o2, i2, n2, y1, y2, y3, y4⟩ := key_of I.hok (all p hp).2
    rw [rp.1, rp.2.1]
    exact ⟨o2, i2, n2, keep _ _ (Nat.ne_of_lt (Heap.lt_size y1)) (by simp) y1, y2, y3, y4⟩
  · obtain ⟨o2, es, ep, y1, y2, y3, y4, _, y5⟩ := after
    have fresh : H s.heap.objs.size = none := I.hok.fresh (Nat.le_refl _)
    have few : (mergeT [] ts).length ≤ sizeLine := Nat.le_trans (mergeT_len ts []) (by rw [List.length_nil, Nat.zero_add]; exact hz)
    refine ⟨.ref s.heap.objs.size, upd H s.heap.objs.size (.dT (mergeT [] ts)), I.laid (t' := tk) (fun b ob e => keep b ob (by simp) e) (Nat.le_refl _) ⟨few, beq_eq_false_iff_ne.mpr (Nat.ne_of_gt I.big), storedAllH [] rs, (kt_merge pr (fun p hp => (all p hp).2) .nil).keeps fun c ys ec => ?_, o2, es, ep, y1, y2, y3, y4, y5⟩, rfl, q _ fresh⟩
    rw [upd_ne (ne_of_none ec fresh)]
    exact ec
end
end L2
set_option maxRecDepth 100000
set_option maxHeartbeats 4000000
namespace L2
open PySem PySem.Spec PyProof.Rows
def RdQ (K : PySem.W.Frag) (H : Hp) (v : V) (d : PyData) : Prop := ∀ (X : Cx) (pins : List (Addr × Obj)) (σ : St) (s : Shared), X.K = K → Inv X pins σ H s → ∀ u, RelV v u → ∃ as, Reads s.heap u d as ∧ sysModules ∉ as
theorem RdQ.non {K : PySem.W.Frag} {H : Hp} : RdQ K H .non .none := fun X pins σ s e I u r => by
  cases r
  exact ⟨_, .none, by simp⟩
theorem RdQ.bl {K : PySem.W.Frag} {H : Hp} (b : Bool) : RdQ K H (.bl b) (.bool b) := fun X pins σ s e I u r => by
  cases r
  exact ⟨_, .bool b, by simp⟩
theorem RdQ.int {K : PySem.W.Frag} {H : Hp} (i : Int) : RdQ K H (.int i) (.int i) := fun X pins σ s e I u r => by
  obtain ⟨t, rfl⟩ := (show ∃ t, u = Value.int i t from r)
  exact ⟨_, .int i t, by simp⟩
theorem RdQ.str {K : PySem.W.Frag} {H : Hp} (x : Str) : RdQ K H (.str x) (.str x) := fun X pins σ s e I u r => by
  obtain ⟨t, rfl⟩ := (show ∃ t, u = Value.str x t from r)
  exact ⟨_, .str x t, by simp⟩
theorem RdQ.row {K : PySem.W.Frag} {H : Hp} {a : Addr} {ns : List Int} (h : SqT K H a (ns.map V.int)) : RdQ K H (.ref a) (rowD ns) := fun X pins σ s e I u r => by
  subst e
  cases (show u = Value.ref a from r)
  exact ⟨[], reads_tup I h, by simp⟩
inductive RdQs (K : PySem.W.Frag) (H : Hp) : List V → List PyData → Prop
  | nil : RdQs K H [] []
  | cons {v : V} {vs : List V} {d : PyData} {ds : List PyData} (h : RdQ K H v d) (t : RdQs K H vs ds) : RdQs K H (v :: vs) (d :: ds)
theorem RdQs.reads {X : Cx} {pins : List (Addr × Obj)} {σ : St} {H : Hp} {s : Shared} (I : Inv X pins σ H s) : ∀ {vs : List V} {ds : List PyData} {us : List Value}, RdQs X.K H vs ds → Vals vs us → ∃ as, ReadsAll s.heap us ds as ∧ sysModules ∉ as
  | _, _, _, .nil, r => by
    cases r
    exact ⟨_, .nil, by simp⟩
  | _, _, _, .cons (d := d) (ds := ds) h t, r => by
    cases r with
    | cons r1 r2 =>
      obtain ⟨as, h1, n1⟩ := h X pins σ s rfl I _ r1
      obtain ⟨bs, h2, n2⟩ := RdQs.reads I t r2
      exact ⟨_, .cons h1 h2, fun m => (List.mem_append.mp m).elim n1 n2⟩
def dtK (ps : List (List Int × Int)) : List (List Key × V) := ps.map fun p => (p.1.map Sum.inl, V.int p.2)
def dtD (ps : List (List Int × Int)) : PyData := .dict (ps.map fun p => (rowD p.1, .int p.2))
theorem reads_ent {X : Cx} {pins : List (Addr × Obj)} {σ : St} {H : Hp} {s : Shared} (I : Inv X pins σ H s) : ∀ {ps : List (List Int × Int)} {xs : List (List Key × Addr × Value)}, KT H (dtK ps) xs →
    ReadsAll s.heap (xs.map fun x => Value.ref x.2.1) (ps.map fun p => rowD p.1) [] ∧ ReadsAll s.heap (xs.map fun x => x.2.2) (ps.map fun p => PyData.int p.2) []
  | [], _, h => by
    cases h
    exact ⟨.nil, .nil⟩
  | p :: ps, _, h => by
    cases h with
    | cons g t =>
      rename_i x xs
      obtain ⟨a1, a2⟩ := reads_ent I (ps := ps) t
      obtain ⟨e1, e2, e3⟩ := g
      obtain ⟨tk, e4⟩ := (show ∃ tk, x.2.2 = Value.int p.2 tk from e3)
      have key : H x.2.1 = some (.tup (p.1.map V.int)) := by
        rw [e2]
        show some (HO.tup ((p.1.map Sum.inl).map kV)) = _
        rw [List.map_map]
        rfl
      refine ⟨ReadsAll.cons (as := []) (bs := []) (reads_tup I (SqT.of key)) a1, ?_⟩
      rw [List.map_cons, e4]
      exact ReadsAll.cons (as := []) (bs := []) (.int p.2 tk) a2
theorem RdQ.dT {K : PySem.W.Frag} {H : Hp} {a : Addr} {ps : List (List Int × Int)} (h : Rd H a (.dT (dtK ps))) : RdQ K H (.ref a) (dtD ps) := fun X pins σ s e I u r => by
  cases (show u = Value.ref a from r)
  obtain ⟨z, low, xs, pr, o, es, ep, ho, ex, dat, ent, nd⟩ := (show ObjOk X.prog X.w H s.heap a (.dT (dtK ps)) from h.ok I.hok)
  obtain ⟨a1, a2⟩ := reads_ent I pr
  refine ⟨_, Reads.dict (as := []) (bs := []) (kvs := ps.map fun (p : List Int × Int) => (rowD p.1, PyData.int p.2)) ho ex.1 dat ?_ ?_, fun m => ?_⟩
  · rw [ent, List.map_map, List.map_map]
    exact a1
  · rw [ent, List.map_map, List.map_map]
    exact a2
  · simp at m
    rw [← m] at low
    simp at low
theorem RdQ.lst {K : PySem.W.Frag} {H : Hp} {l : Addr} {vs : List V} {ds : List PyData} (h : H l = some (.lst vs)) (n : l ≠ sysModules) (all : RdQs K H vs ds) : RdQ K H (.ref l) (.list ds) := fun X pins σ s e I u r => by
  subst e
  cases (show u = Value.ref l from r)
  obtain ⟨its, rv, ⟨o, k, ho, hc, _, hd⟩, _⟩ := I.list (SqL.of (K := X.K) h)
  obtain ⟨as, ra, na⟩ := all.reads I rv
  refine ⟨_, Reads.list ho hc hd ra, fun m => ?_⟩
  rcases List.mem_cons.mp m with m | m
  · exact n m.symm
  · exact na m
theorem RdQ.tup {K : PySem.W.Frag} {H : Hp} {a : Addr} {vs : List V} {ds : List PyData} (h : SqT K H a vs) (all : RdQs K H vs ds) : RdQ K H (.ref a) (.tuple ds) := fun X pins σ s e I u r => by
  subst e
  cases (show u = Value.ref a from r)
  obtain ⟨its, rv, ⟨o, ho, hc, k, hd⟩, _⟩ := I.tuple h
  obtain ⟨as, ra, na⟩ := all.reads I rv
  exact ⟨_, Reads.tuple ho hc hd ra, na⟩
def rShowQ (K : PySem.W.Frag) : List V → Hp → VK → Prop := fun xs H Q => ∃ (a : Addr) (d : PyData), xs = [.ref a] ∧ RdQ K H (.ref a) d ∧ d.showable = true ∧ d.depth ≤ 60 ∧ d.shown.length ≤ sizeLine ∧ Q (.str d.shown) H
section
variable {X : Cx}
theorem call_showQ (hg : X.A.guards = some []) (hu : X.A.units + 64 < cLine) : CallR X (.builtin "repr") (rShowQ X.K) := by
  intro pins s σ H xs us Q I r h
  obtain ⟨a, d, rfl, rd, h1, h2, h3, q⟩ := h
  obtain ⟨u, rfl, rx⟩ := vals1 r
  cases (show u = Value.ref a from rx)
  obtain ⟨as, ra, na⟩ := rd X pins σ s rfl I _ rfl
  exact repr_of_reads' ra h1 (fun _ => na) hg (by omega) (fun b o e => e) (fun h' u tk k => ⟨.str d.shown, H, I.kept (t' := tk) k, ⟨u, rfl⟩, q⟩) h3
def tLstB (t : TA) : TE := fun σ H Q => t σ H fun xs G => xs.length ≤ sizeLine ∧ ∀ p, p ≠ sysModules → G p = none → Q (.ref p) (upd G p (.lst xs))
theorem pe_lstB {es : List Expr} {t : TA} {pos : Pos} (h : PA X es t) : PE X (.List es pos) (tLstB t) := by
  refine ⟨fun pins s σ H Q I hyp => ?_⟩
  refine wpAny_List_spliced (thn (h.run pos pins s σ H _ I hyp) fun us s1 ⟨xs, G, J, r, z, q⟩ => ⟨r.length ▸ z, ?_⟩)
  exact ⟨.ref _, _, J.lnew (t' := s1.toks) r z, rfl, q _ (Nat.ne_of_gt J.big) J.fresh⟩
end
end L2
set_option maxRecDepth 100000
set_option maxHeartbeats 4000000
namespace L2
open PySem PySem.Spec PyProof.Rows
section
variable {d : Addr} {o : Obj} {kvs : List (List Key × V)}
theorem walk_valuesT : Walk (Itdt d o kvs) kvs.length (fun H => H d = some (.frz o (.dT kvs))) (fun i H x G => G = H ∧ ∃ k, kvs[i]? = some (k, x)) :=
  ⟨fun _ _ lt q => ⟨lt, q⟩, fun _ q => ⟨Nat.le_refl _, q⟩, fun _ _ _ _ _ _ y => ⟨y.2, y.1⟩⟩
theorem walk_itemsT : Walk (Itit d o kvs) kvs.length (fun H => H d = some (.frz o (.dT kvs))) (fun i H x G => ∃ (T q : Addr) (k : List Key) (v : V), kvs[i]? = some (k, v) ∧ H q = some (.tup (k.map kV)) ∧ x = .ref T ∧ H T = none ∧ G = upd H T (.tup [.ref q, v])) :=
  ⟨fun _ _ lt q => ⟨lt, q⟩, fun _ q => ⟨Nat.le_refl _, q⟩, fun _ _ _ _ _ _ y => y⟩
end
theorem dcT_it {J : It} {n : Nat} {S : Hp → Prop} {Y : Nat → Hp → V → Hp → Prop} (w : Walk J n S Y) {g : TG} {tt : TT} {tk tv : TE} {vs : List Nat} {σ : St} {G : Hp} {D : Addr} {Qd : Hp → Prop} (Pv : Nat → Hp → Prop) (h0 : Pv 0 (upd G D (.dT []))) (hS : ∀ i H, i ≤ n → Pv i H → S H)
    (hs : ∀ i x H G', i < n → Pv i H → Y i H x G' → g x (wipe σ vs) G' fun τ G2 => wipe τ vs = wipe σ vs ∧ tt τ G2 fun b G3 =>
      if b = true then tk τ G3 fun y G4 => tv τ G4 fun z G5 => ∃ (kvs : List (List Key × V)) (k : List Key) (q : Addr), y = .ref q ∧ G5 q = some (.tup (k.map kV)) ∧ G5 D = some (.dT kvs) ∧ kvs.length < sizeLine ∧ Pv (i + 1) (upd G5 D (.dT (putK kvs k z))) else Pv (i + 1) G3) (hd : ∀ H, Pv n H → Qd H) :
    ∃ W : Nat → Nat → Hp → Prop, (∃ m, W 0 m (upd G D (.dT []))) ∧ ∀ i m H, W i m H →
      (J.stop i H ∧ Qd H) ∨ (J.go i H ∧ ∃ Nx : Hp → Prop, (∀ G', Nx G' → ∃ m', m' < m ∧ W (i + 1) m' G') ∧ ∀ x G', J.yld i H x G' → g x (wipe σ vs) G' fun τ G2 => wipe τ vs = wipe σ vs ∧ tt τ G2 fun b G3 =>
        if b = true then tk τ G3 fun y G4 => tv τ G4 fun z G5 => ∃ (kvs : List (List Key × V)) (k : List Key) (q : Addr), y = .ref q ∧ G5 q = some (.tup (k.map kV)) ∧ G5 D = some (.dT kvs) ∧ kvs.length < sizeLine ∧ Nx (upd G5 D (.dT (putK kvs k z))) else Nx G3) := by
  refine ⟨fun i m H => Pv i H ∧ i ≤ n ∧ m = n - i, ⟨n, h0, Nat.zero_le _, rfl⟩, ?_⟩
  rintro i m H ⟨p, le, rfl⟩
  have st := hS i H le p
  rcases Nat.lt_or_ge i n with lt | ge
  · exact .inr ⟨w.goes i H lt st, Pv (i + 1), fun G' p' => ⟨n - (i + 1), by omega, p', lt, rfl⟩, fun x G' y => hs i x H G' lt p (w.yields i H x G' lt st y)⟩
  · obtain rfl : i = n := Nat.le_antisymm le ge
    exact .inl ⟨w.stops H st, hd H p⟩
def rTypD (K : PySem.W.Frag) : List V → Hp → VK → Prop := fun xs H Q => rTyp K xs H Q ∨ ∃ (a : Addr) (kvs : List (List Key × V)), xs = [.ref a] ∧ Rd H a (.dT kvs) ∧ Q (.ty "dict") H
section
variable {X : Cx}
theorem call_typeD : CallR X (.type "type") (rTypD X.K) := by
  intro pins s σ H xs us Q I r h
  rcases h with h | ⟨a, kvs, rfl, hd, q⟩
  · exact call_type1 pins s σ H xs us Q I r h
  · obtain ⟨u, rfl, rx⟩ := vals1 r
    cases (show u = Value.ref a from rx)
    obtain ⟨z, low, xs, pr, o, es, ep, ho, ex, dat, ent, nd⟩ := (show ObjOk X.prog X.w H s.heap a (.dT kvs) from hd.ok I.hok)
    have ty : s.TypeIs (.ref a) "dict" := ⟨o, ho, ex.1⟩
    exact call_type_of ty (by decide +kernel) ⟨.ty "dict", H, I, rfl, q⟩
end
end L2
set_option maxRecDepth 100000
set_option maxHeartbeats 4000000
namespace L2
open PySem PySem.Spec PyProof.Rows
def tDispT (trs : List (TE × TE)) : TE := fun σ H Q => ∀ d, H d = none → tPairs trs σ (upd H d (.dT [])) fun ps G => ∃ (q : Addr) (k : List Key) (v : V), ps = [(.ref q, v)] ∧ G q = some (.tup (k.map kV)) ∧ G d = some (.dT []) ∧ Q (.ref d) (upd G d (.dT [(k, v)]))
theorem pe_dispT {X : Cx} {pos : Pos} {k v : Expr} {trs : List (TE × TE)} (few : X.A.units + 1 < cLine) (h : PPs X pos [some k] [v] trs) : PE X (.Dict [some k] [v] pos) (tDispT trs) := by
  refine ⟨fun pins s σ H Q I hyp => ?_⟩
  have fresh := I.hok.fresh (Nat.le_refl s.heap.objs.size)
  have J := I.laid (a := s.heap.objs.size) (o := .dT []) (h' := s.heap.push { cls := .type "dict", data := .dict #[] }) (t' := s.toks) (fun _ _ q => Heap.get?_push_of_some _ q) (Nat.le_refl _) (dt_empty s.heap I.big)
  refine wpAny_Dict_any rfl rfl (by simp) (by show 1 ≤ 15; decide) (thn (h.run pins _ σ _ _ J (hyp _ fresh)) fun ws s2 ⟨ps, G, J2, rel, q, ks, z, e, eq, ed, want⟩ => ?_)
  subst e
  generalize hw : ws = wl at rel
  cases rel with
  | @cons a b la lb r1 r2 =>
    cases r2
    obtain ⟨u1, u2⟩ := b
    obtain ⟨e1, e2⟩ := r1
    obtain rfl : u1 = Value.ref q := e1
    unfold storeAll
    simp only [List.forIn_cons, List.forIn_nil]
    refine wpAny_bind (wpAny_bind (put_tup (kvs := []) few J2 ed eq (by show 0 < sizeLine; decide) e2 fun s3 J3 => ?_))
    exact wpAny_pure (wpAny_pure ⟨.ref s.heap.objs.size, _, J3, rfl, want⟩)
end L2
set_option maxRecDepth 100000
set_option maxHeartbeats 4000000
namespace Tt
open PySem L2
structure DefAt (K : PySem.W.Frag) (mg : Str → Option Value) (x : Str) (st : Stmt) (ps : List Str) where
  a : Addr
  fd : FuncData
  F : Fun K x x st a fd
  g : mg x = some (.ref a)
  b : Binds K fd ps []
theorem DefAt.k {K : PySem.W.Frag} {mg : Str → Option Value} {x : Str} {st : Stmt} {ps : List Str} (d : DefAt K mg x st ps) : PySem.W.keepIn K (.ref d.a) = true := d.F.kp
structure Ex0 (K : PySem.W.Frag) (mg : Str → Option Value) (x : Str) where
  C : Addr
  g : mg x = some (.ref C)
  k : PySem.W.keepIn K (.ref C) = true
  q : PySem.W.excIn K C [.type "ValueError", .type "Exception", .type "BaseException", .type "object"] "ValueError.__new__" = true
  ty : PySem.W.typeIn K (.ref C) = some (.type "type")
  ec : ExcC K C
structure Ex1 (K : PySem.W.Frag) (mg : Str → Option Value) (x qual : Str) (st : Stmt) (ps : List Str) (field : Str) where
  C : Addr
  fI : Addr
  fd : FuncData
  g : mg x = some (.ref C)
  o : OexC K C
  i : PySem.W.findIn K (.ref C) "__init__" = some (some (.ref fI))
  t : PySem.W.typeIn K (.ref fI) = some (.type "function")
  F : Fun K "__init__" qual st fI fd
  b : Binds K fd ps []
  n : PySem.W.findIn K (.ref C) field = some none
  xf : XfC K C
  ec : ExcC K C
structure ClsAt (K : PySem.W.Frag) (mg : Str → Option Value) (x qual : Str) (st : Stmt) (ps : List Str) (attrs : List Str) where
  C : Addr
  fI : Addr
  fd : FuncData
  g : mg x = some (.ref C)
  c : Cls K C
  n : ∀ f ∈ attrs, NoAttr K C f
  kk : Mk K C fI
  F : Fun K "__init__" qual st fI fd
  b : Binds K fd ps []
  ha : PySem.W.findIn K (.ref C) "__class__" = some (some (.builtin "object.__class__"))
  hn : PySem.W.specialIn K (.builtin "object.__class__") "__get__" = some (some (.builtin "getset_descriptor.__get__"))
  ht : PySem.W.takesIn K (.builtin "object.__class__") = some true
  hm : PySem.W.mroIn K C (.type "object") = some true
structure FunC (K : PySem.W.Frag) (x qual : Str) (st : Stmt) (f : Addr) (fd : FuncData) (cdv : Value) : Prop where
  ex : ∃ (oc : Value) (od : Option Addr) (kV doc pm : Value) (an : Option Addr) (ct : Value) (osl : Array (Option Value)),
    fd = PySem.W.fnOf x qual (defArgs st) (defBody st) (defScope st) .none kV doc pm an cdv ct ∧ K.lookup f = some ⟨oc, od, .func fd, osl⟩ ∧ PySem.W.codeIn K cdv qual = true
theorem FunC.ok {P : Program} {w : World} {K : PySem.W.Frag} {mg : Str → Option Value} {base : Heap} {x qual : Str} {st : Stmt} {f : Addr} {fd : FuncData} {cdv : Value} {N ps : List Str} {k : Nat} {sp : Sp} (F : FunC K x qual st f fd cdv) (S : FnScope N ps (defScope st)) (len : ∀ vs H Q E, sp vs H Q E → vs.length = ps.length)
    (body : ∀ (A : Around) (outer : List Env) (s : Shared) (H : Hp) (vs : List V) (Q : VK) (E : XK), Room k (A.deeper (PyProof.Rows.envOfC qual (defScope st) s.heap.objs.size f cdv)) → sp vs H Q E →
      ∃ t, PSs (cxOf CX0 P w K mg base N qual (defScope st) f cdv A outer s H E).nox (defBody st) t ∧ t { nx := fun _ H' => Q .non H', rt := Q } (L2.start N vs) H) : FnOk P w K mg base CX0 (k + 1) f fd ps sp := by
  obtain ⟨oc, od, kV, doc, pm, an, ct, osl, rfl, lk, hc⟩ := F.ex
  refine fn_of lk hc S len fun A outer s H vs Q E hr h => ?_
  obtain ⟨t, h1, h2⟩ := body A outer s H vs Q E hr h
  exact ⟨t, h1.nox, h2⟩
def top (i : Nat) : Stmt := PySem.Challenge.pw_tautrounds_k54_texts_of_words_and_skins.main.body.getD i (.Pass ⟨0, 0, 0, 0⟩)
abbrev s_BadSkin_init : Stmt := inClass (top 3) 0
abbrev N_BadSkin_init : List Str := ["self", "part"]
theorem sc_BadSkin_init : FnScope N_BadSkin_init ["self", "part"] (defScope s_BadSkin_init) := ⟨rfl, rfl, rfl, by decide +kernel, rfl, by decide +kernel, by decide +kernel⟩
abbrev s_BadText_init : Stmt := inClass (top 4) 0
abbrev N_BadText_init : List Str := ["self", "at"]
theorem sc_BadText_init : FnScope N_BadText_init ["self", "at"] (defScope s_BadText_init) := ⟨rfl, rfl, rfl, by decide +kernel, rfl, by decide +kernel, by decide +kernel⟩
abbrev s_is_number : Stmt := top 7
abbrev N_is_number : List Str := ["thing"]
theorem sc_is_number : FnScope N_is_number ["thing"] (defScope s_is_number) := ⟨rfl, rfl, rfl, by decide +kernel, rfl, by decide +kernel, by decide +kernel⟩
abbrev s_is_within : Stmt := top 8
abbrev N_is_within : List Str := ["thing", "low", "high"]
theorem sc_is_within : FnScope N_is_within ["thing", "low", "high"] (defScope s_is_within) := ⟨rfl, rfl, rfl, by decide +kernel, rfl, by decide +kernel, by decide +kernel⟩
abbrev s_is_tuple : Stmt := top 9
abbrev N_is_tuple : List Str := ["thing"]
theorem sc_is_tuple : FnScope N_is_tuple ["thing"] (defScope s_is_tuple) := ⟨rfl, rfl, rfl, by decide +kernel, rfl, by decide +kernel, by decide +kernel⟩
abbrev s_is_list : Stmt := top 10
abbrev N_is_list : List Str := ["thing"]
theorem sc_is_list : FnScope N_is_list ["thing"] (defScope s_is_list) := ⟨rfl, rfl, rfl, by decide +kernel, rfl, by decide +kernel, by decide +kernel⟩
abbrev s_is_row : Stmt := top 12
abbrev N_is_row : List Str := ["row", "end"]
theorem sc_is_row : FnScope N_is_row ["row"] (defScope s_is_row) := ⟨rfl, rfl, rfl, by decide +kernel, rfl, by decide +kernel, by decide +kernel⟩
abbrev s_Skin_init : Stmt := inClass (top 13) 0
abbrev N_Skin_init : List Str := ["self", "row", "start", "end"]
theorem sc_Skin_init : FnScope N_Skin_init ["self", "row"] (defScope s_Skin_init) := ⟨rfl, rfl, rfl, by decide +kernel, rfl, by decide +kernel, by decide +kernel⟩
abbrev s_Skin_eq : Stmt := inClass (top 13) 1
abbrev N_Skin_eq : List Str := ["self", "other"]
theorem sc_Skin_eq : FnScope N_Skin_eq ["self", "other"] (defScope s_Skin_eq) := ⟨rfl, rfl, rfl, by decide +kernel, rfl, by decide +kernel, by decide +kernel⟩
abbrev s_check_skin : Stmt := top 14
abbrev N_check_skin : List Str := ["skin"]
theorem sc_check_skin : FnScope N_check_skin ["skin"] (defScope s_check_skin) := ⟨rfl, rfl, rfl, by decide +kernel, rfl, by decide +kernel, by decide +kernel⟩
abbrev s_is_end : Stmt := top 15
abbrev N_is_end : List Str := ["skin", "thing"]
theorem sc_is_end : FnScope N_is_end ["skin", "thing"] (defScope s_is_end) := ⟨rfl, rfl, rfl, by decide +kernel, rfl, by decide +kernel, by decide +kernel⟩
abbrev s_least_turn : Stmt := top 16
abbrev N_least_turn : List Str := ["word", "many", "one", "other", "alike", "first", "second", "start"]
theorem sc_least_turn : FnScope N_least_turn ["word"] (defScope s_least_turn) := ⟨rfl, rfl, rfl, by decide +kernel, rfl, by decide +kernel, by decide +kernel⟩
abbrev s_is_any_word : Stmt := top 19
abbrev N_is_any_word : List Str := ["skin", "thing", "letter"]
theorem sc_is_any_word : FnScope N_is_any_word ["skin", "thing"] (defScope s_is_any_word) := ⟨rfl, rfl, rfl, by decide +kernel, rfl, by decide +kernel, by decide +kernel⟩
abbrev s_has_letters : Stmt := top 20
abbrev N_has_letters : List Str := ["skin", "thing", "most"]
theorem sc_has_letters : FnScope N_has_letters ["skin", "thing", "most"] (defScope s_has_letters) := ⟨rfl, rfl, rfl, by decide +kernel, rfl, by decide +kernel, by decide +kernel⟩
abbrev s_check_word : Stmt := top 21
abbrev N_check_word : List Str := ["skin", "word"]
theorem sc_check_word : FnScope N_check_word ["skin", "word"] (defScope s_check_word) := ⟨rfl, rfl, rfl, by decide +kernel, rfl, by decide +kernel, by decide +kernel⟩
abbrev s_cut_free : Stmt := top 22
abbrev N_cut_free : List Str := ["word", "left", "letter"]
theorem sc_cut_free : FnScope N_cut_free ["word"] (defScope s_cut_free) := ⟨rfl, rfl, rfl, by decide +kernel, rfl, by decide +kernel, by decide +kernel⟩
abbrev s_closed_letters : Stmt := top 25
abbrev N_closed_letters : List Str := ["word", "left", "cut"]
theorem sc_closed_letters : FnScope N_closed_letters ["word"] (defScope s_closed_letters) := ⟨rfl, rfl, rfl, by decide +kernel, rfl, by decide +kernel, by decide +kernel⟩
abbrev s_closed_up : Stmt := top 26
abbrev N_closed_up : List Str := ["word", "left"]
theorem sc_closed_up : FnScope N_closed_up ["word"] (defScope s_closed_up) := ⟨rfl, rfl, rfl, by decide +kernel, rfl, by decide +kernel, by decide +kernel⟩
abbrev s_is_fit_round : Stmt := top 27
abbrev N_is_fit_round : List Str := ["skin", "thing"]
theorem sc_is_fit_round : FnScope N_is_fit_round ["skin", "thing"] (defScope s_is_fit_round) := ⟨rfl, rfl, rfl, by decide +kernel, rfl, by decide +kernel, by decide +kernel⟩
abbrev s_Reader_init : Stmt := inClass (top 30) 0
abbrev N_Reader_init : List Str := ["self", "text"]
theorem sc_Reader_init : FnScope N_Reader_init ["self", "text"] (defScope s_Reader_init) := ⟨rfl, rfl, rfl, by decide +kernel, rfl, by decide +kernel, by decide +kernel⟩
abbrev s_Reader_sign : Stmt := inClass (top 30) 1
abbrev N_Reader_sign : List Str := ["self"]
theorem sc_Reader_sign : FnScope N_Reader_sign ["self"] (defScope s_Reader_sign) := ⟨rfl, rfl, rfl, by decide +kernel, rfl, by decide +kernel, by decide +kernel⟩
abbrev s_Reader_is_ended : Stmt := inClass (top 30) 2
abbrev N_Reader_is_ended : List Str := ["self"]
theorem sc_Reader_is_ended : FnScope N_Reader_is_ended ["self"] (defScope s_Reader_is_ended) := ⟨rfl, rfl, rfl, by decide +kernel, rfl, by decide +kernel, by decide +kernel⟩
abbrev s_Reader_check : Stmt := inClass (top 30) 3
abbrev N_Reader_check : List Str := ["self", "is_right"]
theorem sc_Reader_check : FnScope N_Reader_check ["self", "is_right"] (defScope s_Reader_check) := ⟨rfl, rfl, rfl, by decide +kernel, rfl, by decide +kernel, by decide +kernel⟩
abbrev s_Reader_read_sign : Stmt := inClass (top 30) 4
abbrev N_Reader_read_sign : List Str := ["self", "sign"]
theorem sc_Reader_read_sign : FnScope N_Reader_read_sign ["self", "sign"] (defScope s_Reader_read_sign) := ⟨rfl, rfl, rfl, by decide +kernel, rfl, by decide +kernel, by decide +kernel⟩
abbrev s_Reader_read_figures : Stmt := inClass (top 30) 5
abbrev N_Reader_read_figures : List Str := ["self", "most"]
theorem sc_Reader_read_figures : FnScope N_Reader_read_figures ["self", "most"] (defScope s_Reader_read_figures) := ⟨rfl, rfl, rfl, by decide +kernel, rfl, by decide +kernel, by decide +kernel⟩
abbrev s_Reader_has_next_figure : Stmt := inClass (top 30) 6
abbrev N_Reader_has_next_figure : List Str := ["self", "start", "most"]
theorem sc_Reader_has_next_figure : FnScope N_Reader_has_next_figure ["self", "start", "most"] (defScope s_Reader_has_next_figure) := ⟨rfl, rfl, rfl, by decide +kernel, rfl, by decide +kernel, by decide +kernel⟩
abbrev s_Reader_read_number : Stmt := inClass (top 30) 7
abbrev N_Reader_read_number : List Str := ["self"]
theorem sc_Reader_read_number : FnScope N_Reader_read_number ["self"] (defScope s_Reader_read_number) := ⟨rfl, rfl, rfl, by decide +kernel, rfl, by decide +kernel, by decide +kernel⟩
abbrev s_Reader_letter : Stmt := inClass (top 30) 8
abbrev N_Reader_letter : List Str := ["self"]
theorem sc_Reader_letter : FnScope N_Reader_letter ["self"] (defScope s_Reader_letter) := ⟨rfl, rfl, rfl, by decide +kernel, rfl, by decide +kernel, by decide +kernel⟩
abbrev s_Reader_read_letters : Stmt := inClass (top 30) 9
abbrev N_Reader_read_letters : List Str := ["self", "many_ends", "most", "is_free", "letters", "letter"]
theorem sc_Reader_read_letters : FnScope N_Reader_read_letters ["self", "many_ends", "most", "is_free"] (defScope s_Reader_read_letters) := ⟨rfl, rfl, rfl, by decide +kernel, rfl, by decide +kernel, by decide +kernel⟩
abbrev s_Reader_read_round : Stmt := inClass (top 30) 10
abbrev N_Reader_read_round : List Str := ["self", "skin", "most", "loop"]
theorem sc_Reader_read_round : FnScope N_Reader_read_round ["self", "skin", "most"] (defScope s_Reader_read_round) := ⟨rfl, rfl, rfl, by decide +kernel, rfl, by decide +kernel, by decide +kernel⟩
abbrev s_Reader_read_skin : Stmt := inClass (top 30) 11
abbrev N_Reader_read_skin : List Str := ["self", "row", "letter"]
theorem sc_Reader_read_skin : FnScope N_Reader_read_skin ["self"] (defScope s_Reader_read_skin) := ⟨rfl, rfl, rfl, by decide +kernel, rfl, by decide +kernel, by decide +kernel⟩
abbrev s_signs_of : Stmt := top 31
abbrev N_signs_of : List Str := ["letters", "letter"]
theorem sc_signs_of : FnScope N_signs_of ["letters"] (defScope s_signs_of) := ⟨rfl, rfl, rfl, by decide +kernel, rfl, by decide +kernel, by decide +kernel⟩
abbrev s_word_text : Stmt := top 33
abbrev N_word_text : List Str := ["skin", "word"]
theorem sc_word_text : FnScope N_word_text ["skin", "word"] (defScope s_word_text) := ⟨rfl, rfl, rfl, by decide +kernel, rfl, by decide +kernel, by decide +kernel⟩
abbrev s_skin_text : Stmt := top 34
abbrev N_skin_text : List Str := ["skin"]
theorem sc_skin_text : FnScope N_skin_text ["skin"] (defScope s_skin_text) := ⟨rfl, rfl, rfl, by decide +kernel, rfl, by decide +kernel, by decide +kernel⟩
abbrev s_read_word : Stmt := top 35
abbrev N_read_word : List Str := ["skin", "text", "reader", "word"]
theorem sc_read_word : FnScope N_read_word ["skin", "text"] (defScope s_read_word) := ⟨rfl, rfl, rfl, by decide +kernel, rfl, by decide +kernel, by decide +kernel⟩
abbrev s_read_round : Stmt := top 36
abbrev N_read_round : List Str := ["skin", "text", "reader", "loop"]
theorem sc_read_round : FnScope N_read_round ["skin", "text"] (defScope s_read_round) := ⟨rfl, rfl, rfl, by decide +kernel, rfl, by decide +kernel, by decide +kernel⟩
abbrev s_read_skin : Stmt := top 37
abbrev N_read_skin : List Str := ["text", "reader", "skin"]
theorem sc_read_skin : FnScope N_read_skin ["text"] (defScope s_read_skin) := ⟨rfl, rfl, rfl, by decide +kernel, rfl, by decide +kernel, by decide +kernel⟩
abbrev s_l_begun : Stmt := top 39
abbrev N_l_begun : List Str := ["script", "large", "grain"]
theorem sc_l_begun : FnScope N_l_begun ["script"] (defScope s_l_begun) := ⟨rfl, rfl, rfl, by decide +kernel, rfl, by decide +kernel, by decide +kernel⟩
abbrev s_l_mixed : Stmt := top 40
abbrev N_l_mixed : List Str := ["draw", "turn", "found", "great", "blend", "grain"]
theorem sc_l_mixed : FnScope N_l_mixed ["draw"] (defScope s_l_mixed) := ⟨rfl, rfl, rfl, by decide +kernel, rfl, by decide +kernel, by decide +kernel⟩
abbrev s_l_take : Stmt := top 41
abbrev N_l_take : List Str := ["draw", "amount", "found"]
theorem sc_l_take : FnScope N_l_take ["draw", "amount"] (defScope s_l_take) := ⟨rfl, rfl, rfl, by decide +kernel, rfl, by decide +kernel, by decide +kernel⟩
abbrev s_l_pick : Stmt := top 42
abbrev N_l_pick : List Str := ["draw", "some"]
theorem sc_l_pick : FnScope N_l_pick ["draw", "some"] (defScope s_l_pick) := ⟨rfl, rfl, rfl, by decide +kernel, rfl, by decide +kernel, by decide +kernel⟩
abbrev s_l_shuffled : Stmt := top 43
abbrev N_l_shuffled : List Str := ["draw", "some", "left", "found"]
theorem sc_l_shuffled : FnScope N_l_shuffled ["draw", "some"] (defScope s_l_shuffled) := ⟨rfl, rfl, rfl, by decide +kernel, rfl, by decide +kernel, by decide +kernel⟩
abbrev s_l_caught : Stmt := top 44
abbrev N_l_caught : List Str := ["work", "caught", "error"]
theorem sc_l_caught : FnScope N_l_caught ["work"] (defScope s_l_caught) := ⟨rfl, rfl, rfl, by decide +kernel, rfl, by decide +kernel, by decide +kernel⟩
abbrev s_l_turned : Stmt := top 45
abbrev N_l_turned : List Str := ["row_here", "at"]
theorem sc_l_turned : FnScope N_l_turned ["row_here"] (defScope s_l_turned) := ⟨rfl, rfl, rfl, by decide +kernel, rfl, by decide +kernel, by decide +kernel⟩
abbrev s_l_row : Stmt := top 46
abbrev N_l_row : List Str := ["draw", "most"]
theorem sc_l_row : FnScope N_l_row ["draw", "most"] (defScope s_l_row) := ⟨rfl, rfl, rfl, by decide +kernel, rfl, by decide +kernel, by decide +kernel⟩
abbrev s_l_free : Stmt := top 47
abbrev N_l_free : List Str := ["word_here", "found", "letter"]
theorem sc_l_free : FnScope N_l_free ["word_here"] (defScope s_l_free) := ⟨rfl, rfl, rfl, by decide +kernel, rfl, by decide +kernel, by decide +kernel⟩
abbrev s_l_round : Stmt := top 48
abbrev N_l_round : List Str := ["word_here", "left_here", "cut_here", "found", "k"]
theorem sc_l_round : FnScope N_l_round ["word_here"] (defScope s_l_round) := ⟨rfl, rfl, rfl, by decide +kernel, rfl, by decide +kernel, by decide +kernel⟩
abbrev s_l_word : Stmt := top 49
abbrev N_l_word : List Str := ["draw", "ends", "size", "found", "lap", "some", "end"]
theorem sc_l_word : FnScope N_l_word ["draw", "ends", "size"] (defScope s_l_word) := ⟨rfl, rfl, rfl, by decide +kernel, rfl, by decide +kernel, by decide +kernel⟩
abbrev s_l_any_round : Stmt := top 50
abbrev N_l_any_round : List Str := ["draw", "ends", "most", "way", "size", "base"]
theorem sc_l_any_round : FnScope N_l_any_round ["draw", "ends", "most"] (defScope s_l_any_round) := ⟨rfl, rfl, rfl, by decide +kernel, rfl, by decide +kernel, by decide +kernel⟩
abbrev s_l_signs : Stmt := top 51
abbrev N_l_signs : List Str := []
theorem sc_l_signs : FnScope N_l_signs [] (defScope s_l_signs) := ⟨rfl, rfl, rfl, by decide +kernel, rfl, by decide +kernel, by decide +kernel⟩
abbrev s_l_spelled : Stmt := top 52
abbrev N_l_spelled : List Str := ["word_here", "letter"]
theorem sc_l_spelled : FnScope N_l_spelled ["word_here"] (defScope s_l_spelled) := ⟨rfl, rfl, rfl, by decide +kernel, rfl, by decide +kernel, by decide +kernel⟩
abbrev s_l_read_word : Stmt := top 53
abbrev N_l_read_word : List Str := ["ends", "text", "at", "sign"]
theorem sc_l_read_word : FnScope N_l_read_word ["ends", "text"] (defScope s_l_read_word) := ⟨rfl, rfl, rfl, by decide +kernel, rfl, by decide +kernel, by decide +kernel⟩
abbrev s_l_read_round : Stmt := top 54
abbrev N_l_read_round : List Str := ["ends", "text", "found", "at", "sign"]
theorem sc_l_read_round : FnScope N_l_read_round ["ends", "text"] (defScope s_l_read_round) := ⟨rfl, rfl, rfl, by decide +kernel, rfl, by decide +kernel, by decide +kernel⟩
abbrev s_l_read_skin : Stmt := top 55
abbrev N_l_read_skin : List Str := ["text", "at", "sign", "found"]
theorem sc_l_read_skin : FnScope N_l_read_skin ["text"] (defScope s_l_read_skin) := ⟨rfl, rfl, rfl, by decide +kernel, rfl, by decide +kernel, by decide +kernel⟩
abbrev s_l_bent : Stmt := top 56
abbrev N_l_bent : List Str := ["draw", "text", "at", "way", "sign"]
theorem sc_l_bent : FnScope N_l_bent ["draw", "text"] (defScope s_l_bent) := ⟨rfl, rfl, rfl, by decide +kernel, rfl, by decide +kernel, by decide +kernel⟩
abbrev s_l_is_told : Stmt := top 57
abbrev N_l_is_told : List Str := ["work", "due", "found", "error"]
theorem sc_l_is_told : FnScope N_l_is_told ["work", "due"] (defScope s_l_is_told) := ⟨rfl, rfl, rfl, by decide +kernel, rfl, by decide +kernel, by decide +kernel⟩
abbrev s_l_is_begun : Stmt := top 58
abbrev N_l_is_begun : List Str := ["draw", "work", "text", "at", "k", "error"]
theorem sc_l_is_begun : FnScope N_l_is_begun ["draw", "work", "text", "at"] (defScope s_l_is_begun) := ⟨rfl, rfl, rfl, by decide +kernel, rfl, by decide +kernel, by decide +kernel⟩
abbrev s_l_row_told : Stmt := top 59
abbrev N_l_row_told : List Str := ["text", "found"]
theorem sc_l_row_told : FnScope N_l_row_told ["text"] (defScope s_l_row_told) := ⟨rfl, rfl, rfl, by decide +kernel, rfl, by decide +kernel, by decide +kernel⟩
abbrev s_l_words_right : Stmt := top 60
abbrev N_l_words_right : List Str := ["draw", "skin_here", "ends", "size", "word_here", "text", "round_here", "shown", "some", "due", "k"]
theorem sc_l_words_right : FnScope N_l_words_right ["draw", "skin_here", "ends"] (defScope s_l_words_right) := ⟨rfl, rfl, rfl, by decide +kernel, rfl, by decide +kernel, by decide +kernel⟩
abbrev s_l_refused : Stmt := top 61
abbrev N_l_refused : List Str := ["draw", "skin_here", "ends", "bad", "no", "some", "error"]
theorem sc_l_refused : FnScope N_l_refused ["draw", "skin_here", "ends"] (defScope s_l_refused) := ⟨rfl, rfl, rfl, by decide +kernel, rfl, by decide +kernel, by decide +kernel⟩
abbrev s_law : Stmt := top 62
abbrev N_law : List Str := ["script", "draw", "turn", "row_here", "skin_here", "text", "fresh", "due"]
theorem sc_law : FnScope N_law ["script"] (defScope s_law) := ⟨rfl, rfl, rfl, by decide +kernel, rfl, by decide +kernel, by decide +kernel⟩
structure Txt (K : PySem.W.Frag) (mg : Str → Option Value) where
  RoundError : Ex0 K mg "RoundError"
  BadSkin : Ex1 K mg "BadSkin" "BadSkin.__init__" s_BadSkin_init ["self", "part"] "part"
  BadText : Ex1 K mg "BadText" "BadText.__init__" s_BadText_init ["self", "at"] "at"
  BadWord : Ex0 K mg "BadWord"
  is_number : DefAt K mg "is_number" s_is_number ["thing"]
  is_within : DefAt K mg "is_within" s_is_within ["thing", "low", "high"]
  is_tuple : DefAt K mg "is_tuple" s_is_tuple ["thing"]
  is_list : DefAt K mg "is_list" s_is_list ["thing"]
  is_row : DefAt K mg "is_row" s_is_row ["row"]
  Skin : ClsAt K mg "Skin" "Skin.__init__" s_Skin_init ["self", "row"] ["row", "bands", "places"]
  check_skin : DefAt K mg "check_skin" s_check_skin ["skin"]
  is_end : DefAt K mg "is_end" s_is_end ["skin", "thing"]
  least_turn : DefAt K mg "least_turn" s_least_turn ["word"]
  is_any_word : DefAt K mg "is_any_word" s_is_any_word ["skin", "thing"]
  has_letters : DefAt K mg "has_letters" s_has_letters ["skin", "thing", "most"]
  check_word : DefAt K mg "check_word" s_check_word ["skin", "word"]
  cut_free : DefAt K mg "cut_free" s_cut_free ["word"]
  closed_letters : DefAt K mg "closed_letters" s_closed_letters ["word"]
  closed_up : DefAt K mg "closed_up" s_closed_up ["word"]
  is_fit_round : DefAt K mg "is_fit_round" s_is_fit_round ["skin", "thing"]
  Reader : ClsAt K mg "Reader" "Reader.__init__" s_Reader_init ["self", "text"] ["text", "at"]
  signs_of : DefAt K mg "signs_of" s_signs_of ["letters"]
  word_text : DefAt K mg "word_text" s_word_text ["skin", "word"]
  skin_text : DefAt K mg "skin_text" s_skin_text ["skin"]
  read_word : DefAt K mg "read_word" s_read_word ["skin", "text"]
  read_round : DefAt K mg "read_round" s_read_round ["skin", "text"]
  read_skin : DefAt K mg "read_skin" s_read_skin ["text"]
  l_begun : DefAt K mg "_law_begun" s_l_begun ["script"]
  l_mixed : DefAt K mg "_law_mixed" s_l_mixed ["draw"]
  l_take : DefAt K mg "_law_take" s_l_take ["draw", "amount"]
  l_pick : DefAt K mg "_law_pick" s_l_pick ["draw", "some"]
  l_shuffled : DefAt K mg "_law_shuffled" s_l_shuffled ["draw", "some"]
  l_caught : DefAt K mg "_law_caught" s_l_caught ["work"]
  l_turned : DefAt K mg "_law_turned" s_l_turned ["row_here"]
  l_row : DefAt K mg "_law_row" s_l_row ["draw", "most"]
  l_free : DefAt K mg "_law_free" s_l_free ["word_here"]
  l_round : DefAt K mg "_law_round" s_l_round ["word_here"]
  l_word : DefAt K mg "_law_word" s_l_word ["draw", "ends", "size"]
  l_any_round : DefAt K mg "_law_any_round" s_l_any_round ["draw", "ends", "most"]
  l_signs : DefAt K mg "_law_signs" s_l_signs []
  l_spelled : DefAt K mg "_law_spelled" s_l_spelled ["word_here"]
  l_read_word : DefAt K mg "_law_read_word" s_l_read_word ["ends", "text"]
  l_read_round : DefAt K mg "_law_read_round" s_l_read_round ["ends", "text"]
  l_read_skin : DefAt K mg "_law_read_skin" s_l_read_skin ["text"]
  l_bent : DefAt K mg "_law_bent" s_l_bent ["draw", "text"]
  l_is_told : DefAt K mg "_law_is_told" s_l_is_told ["work", "due"]
  l_is_begun : DefAt K mg "_law_is_begun" s_l_is_begun ["draw", "work", "text", "at"]
  l_row_told : DefAt K mg "_law_row_told" s_l_row_told ["text"]
  l_words_right : DefAt K mg "_law_words_right" s_l_words_right ["draw", "skin_here", "ends"]
  l_refused : DefAt K mg "_law_refused" s_l_refused ["draw", "skin_here", "ends"]
  law : DefAt K mg "law" s_law ["script"]
  zabs : mg "abs" = none
  zall : mg "all" = none
  zenumerate : mg "enumerate" = none
  zint : mg "int" = none
  zisinstance : mg "isinstance" = none
  zlen : mg "len" = none
  zlist : mg "list" = none
  zmax : mg "max" = none
  zmin : mg "min" = none
  zrange : mg "range" = none
  zrepr : mg "repr" = none
  zsorted : mg "sorted" = none
  zstr : mg "str" = none
  ztuple : mg "tuple" = none
  ztype : mg "type" = none
  v_MOST_LETTERS : Value
  c_MOST_LETTERS : mg "MOST_LETTERS" = some v_MOST_LETTERS
  r_MOST_LETTERS : RelV (.int 200) v_MOST_LETTERS
  v_MOST_IN_ROUND : Value
  c_MOST_IN_ROUND : mg "MOST_IN_ROUND" = some v_MOST_IN_ROUND
  r_MOST_IN_ROUND : RelV (.int 40) v_MOST_IN_ROUND
  v_LETTER_SIGNS : Value
  c_LETTER_SIGNS : mg "LETTER_SIGNS" = some v_LETTER_SIGNS
  r_LETTER_SIGNS : RelV (.str "aAbBcCdDeEfF") v_LETTER_SIGNS
  kSS : PySem.W.kitOne K (.ref Skin.C) (.ref Skin.C) = some true
  kST : PySem.W.kitOne K (.type "tuple") (.ref Skin.C) = some false
  kSN : PySem.W.kitOne K (.type "NoneType") (.ref Skin.C) = some false
  kSY : PySem.W.kitOne K (.type "str") (.ref Skin.C) = some false
  kWW : PySem.W.kitOne K (.ref BadWord.C) (.ref BadWord.C) = some true
  sWR : PySem.W.subIn K (.ref BadWord.C) (.ref RoundError.C) = some true
  kSkSk : PySem.W.kitOne K (.ref BadSkin.C) (.ref BadSkin.C) = some true
  sSR : PySem.W.subIn K (.ref BadSkin.C) (.ref RoundError.C) = some true
  kXX : PySem.W.kitOne K (.ref BadText.C) (.ref BadText.C) = some true
  sXR : PySem.W.subIn K (.ref BadText.C) (.ref RoundError.C) = some true
  kInT : PySem.W.kitOne K (.type "int") (.type "tuple") = some false
  kTuI : PySem.W.kitOne K (.type "tuple") (.type "int") = some false
  eqM : MetAt K "__eq__" "Skin.__eq__" s_Skin_eq ["self", "other"] Skin.C
  mSign : MetAt K "sign" "Reader.sign" s_Reader_sign ["self"] Reader.C
  mEnd : MetAt K "is_ended" "Reader.is_ended" s_Reader_is_ended ["self"] Reader.C
  mCheck : MetAt K "check" "Reader.check" s_Reader_check ["self", "is_right"] Reader.C
  mLetter : MetAt K "letter" "Reader.letter" s_Reader_letter ["self"] Reader.C
  mLetters : MetAt K "read_letters" "Reader.read_letters" s_Reader_read_letters ["self", "many_ends", "most", "is_free"] Reader.C
  mRound : MetD K "read_round" "Reader.read_round" s_Reader_read_round ["self", "skin", "most"] [.int 40] Reader.C
  mSkin : MetAt K "read_skin" "Reader.read_skin" s_Reader_read_skin ["self"] Reader.C
  jc : Addr
  jP : Addr
  jF : FunC K "_law_refused" "_law_refused" s_l_refused l_refused.a l_refused.fd (.ref jc)
  wc : Addr
  wP : Addr
  wF : FunC K "_law_words_right" "_law_words_right" s_l_words_right l_words_right.a l_words_right.fd (.ref wc)
  tc : Addr
  tP : Addr
  tF : FunC K "_law_is_told" "_law_is_told" s_l_is_told l_is_told.a l_is_told.fd (.ref tc)
  bc : Addr
  bP : Addr
  bF : FunC K "_law_is_begun" "_law_is_begun" s_l_is_begun l_is_begun.a l_is_begun.fd (.ref bc)
  lc : Addr
  lP : Addr
  lF : FunC K "law" "law" s_law law.a law.fd (.ref lc)
  ne_jw : jP ≠ wP
  ne_jt : jP ≠ tP
  ne_jb : jP ≠ bP
  ne_jl : jP ≠ lP
  ne_wt : wP ≠ tP
  ne_wb : wP ≠ bP
  ne_wl : wP ≠ lP
  ne_tb : tP ≠ bP
  ne_tl : tP ≠ lP
  ne_bl : bP ≠ lP
structure Dw where
  d : Addr
  l : Addr
  c : Addr
def drK (D : Dw) (r t : Int) : List (Key × V) := [(Sum.inr "large", .ref D.l), (Sum.inr "rest", .int r), (Sum.inr "cells", .ref D.c), (Sum.inr "turn", .int t)]
structure DrAt (D : Dw) (H : Hp) (ls cs : List Int) (r t : Int) : Prop where
  hd : H D.d = some (.dK (drK D r t))
  hl : H D.l = some (.lst (ls.map V.int))
  hc : H D.c = some (.lst (cs.map V.int))
  ne : D.l ≠ D.c
  nl : ls.length ≤ 63
  nc : cs.length ≤ 63
def DrOk (D : Dw) (H : Hp) : Prop := ∃ ls cs r t, DrAt D H ls cs r t
def Kp (D : Dw) (H H' : Hp) : Prop := ∀ b o, H b = some o → b ≠ D.d → b ≠ D.l → H' b = some o
theorem Kp.refl {D : Dw} {H : Hp} : Kp D H H := fun _ _ h _ _ => h
theorem Kp.trans {D : Dw} {H H1 H2 : Hp} (a : Kp D H H1) (b : Kp D H1 H2) : Kp D H H2 := fun c o h n m => b c o (a c o h n m) n m
theorem Kp.of {D : Dw} {H H' : Hp} (a : Same H H') : Kp D H H' := fun c o h _ _ => a c o h
theorem Kp.new {D : Dw} {H : Hp} {p : Addr} {o : HO} (h : H p = none) : Kp D H (upd H p o) := fun c u e _ _ => by
  rw [upd_ne (ne_of_none e h)]
  exact e
theorem DrAt.dne {D : Dw} {H : Hp} {ls cs : List Int} {r t : Int} (h : DrAt D H ls cs r t) {b : Addr} {o : HO} (e : H b = some o) (n : ∀ kvs, o ≠ .dK kvs) : b ≠ D.d := fun z => by
  rw [z, h.hd] at e
  exact n _ (Option.some.inj e).symm
theorem DrAt.lne {D : Dw} {H : Hp} {ls cs : List Int} {r t : Int} (h : DrAt D H ls cs r t) {b : Addr} {o : HO} (e : H b = some o) (n : ∀ xs, o ≠ .lst xs) : b ≠ D.l := fun z => by
  rw [z, h.hl] at e
  exact n _ (Option.some.inj e).symm
theorem DrAt.new {D : Dw} {H : Hp} {ls cs : List Int} {r t : Int} (h : DrAt D H ls cs r t) {p : Addr} {o : HO} (n : H p = none) : DrAt D (upd H p o) ls cs r t :=
  ⟨by rw [upd_ne (ne_of_none h.hd n)]; exact h.hd, by rw [upd_ne (ne_of_none h.hl n)]; exact h.hl, by rw [upd_ne (ne_of_none h.hc n)]; exact h.hc, h.ne, h.nl, h.nc⟩
theorem DrAt.same {D : Dw} {H H' : Hp} {ls cs : List Int} {r t : Int} (h : DrAt D H ls cs r t) (s : Same H H') : DrAt D H' ls cs r t := ⟨s _ _ h.hd, s _ _ h.hl, s _ _ h.hc, h.ne, h.nl, h.nc⟩
theorem DrAt.nelc {D : Dw} {H : Hp} {ls cs : List Int} {r t : Int} (h : DrAt D H ls cs r t) : D.l ≠ D.d := h.dne h.hl (fun _ z => nomatch z)
theorem DrAt.necd {D : Dw} {H : Hp} {ls cs : List Int} {r t : Int} (h : DrAt D H ls cs r t) : D.c ≠ D.d := h.dne h.hc (fun _ z => nomatch z)
theorem DrAt.put {D : Dw} {H : Hp} {ls cs : List Int} {r t r' t' : Int} (h : DrAt D H ls cs r t) : DrAt D (upd H D.d (.dK (drK D r' t'))) ls cs r' t' :=
  ⟨upd_same, by rw [upd_ne h.nelc]; exact h.hl, by rw [upd_ne h.necd]; exact h.hc, h.ne, h.nl, h.nc⟩
theorem Kp.put {D : Dw} {H : Hp} {o : HO} : Kp D H (upd H D.d o) := fun b u e n _ => by rw [upd_ne n]; exact e
theorem Kp.putl {D : Dw} {H : Hp} {o : HO} : Kp D H (upd H D.l o) := fun b u e _ n => by rw [upd_ne n]; exact e
theorem DrAt.pop {D : Dw} {H : Hp} {ls cs ls' : List Int} {r t : Int} (h : DrAt D H ls cs r t) (n : ls'.length ≤ 63) : DrAt D (upd H D.l (.lst (ls'.map V.int))) ls' cs r t :=
  ⟨by rw [upd_ne h.nelc.symm]; exact h.hd, upd_same, by rw [upd_ne h.ne.symm]; exact h.hc, h.ne, n, h.nc⟩
theorem val_large (D : Dw) (r t : Int) : valV (drK D r t) (Sum.inr "large") = some (.ref D.l) := rfl
theorem val_rest (D : Dw) (r t : Int) : valV (drK D r t) (Sum.inr "rest") = some (.int r) := rfl
theorem val_cells (D : Dw) (r t : Int) : valV (drK D r t) (Sum.inr "cells") = some (.ref D.c) := rfl
theorem val_turn (D : Dw) (r t : Int) : valV (drK D r t) (Sum.inr "turn") = some (.int t) := rfl
theorem put_rest (D : Dw) (r t r' : Int) : putK (drK D r t) (Sum.inr "rest") (.int r') = drK D r' t := rfl
theorem put_turn (D : Dw) (r t t' : Int) : putK (drK D r t) (Sum.inr "turn") (.int t') = drK D r t' := rfl
end Tt
set_option maxRecDepth 100000
set_option maxHeartbeats 4000000
namespace Tt
open PySem L2
local macro_rules | `(tactic| walk_at "v") => `(tactic| refine ⟨_, rfl, ?_⟩)
local macro_rules | `(tactic| walk_at "ii") => `(tactic| refine ⟨_, _, rfl, rfl, ?_⟩)
section
variable {P : Program} {w : World} {K : PySem.W.Frag} {mg : Str → Option Value} {base : Heap}
def spMixed : Sp := fun vs H Q _ => ∃ D : Dw, vs = [.ref D.d] ∧ DrOk D H ∧ ∀ z H', DrOk D H' → Kp D H H' → Q (.int z) H'
theorem ok_l_mixed (T : Txt K mg) : FnOk P w K mg base CX0 1 T.l_mixed.a T.l_mixed.fd ["draw"] spMixed := by
  refine T.l_mixed.F.ok sc_l_mixed (fun vs H Q E h => ?_) (fun cdv A outer s H vs Q E hr h => ?_)
  · obtain ⟨D, rfl, _⟩ := h
    rfl
  · obtain ⟨D, rfl, ⟨ls, cs, r, t, dr⟩, k⟩ := h
    have hu := hu_of hr
    have nd := sc_l_mixed.nd
    refine ⟨_, pss_cons (ps_dput hu (pv 0) pe_str (pe_op op_add (pe_dget hu (pv 0) pe_str (fun _ _ => rfl)) pe_int) rfl)
      (pss_cons (ps_par (i := 1) (j := 2) rfl nd rfl rfl (by decide) rfl rfl (pa_cons (pe_callTy call_int1 (by rfl) T.zint (by decide +kernel) (pa_cons (pe_dget hu (pv 0) pe_str (fun _ _ => rfl)) pa_nil)) (pa_cons pe_int pa_nil)) rfl)
      (pss_cons (ps_for PassesOwn.never rfl (pi_list (pe_lst (pa_cons pe_int (pa_cons pe_int (pa_cons pe_int pa_nil))))) (pg_name (i := 3) nd rfl (Or.inl rfl))
        (pss_cons (ps_set (i := 4) nd rfl (Or.inl rfl) (pe_op op_mod (pe_op op_add (pe_op op_mul (pv 1) pe_int) (pe_op op_fdiv (pv 3) pe_int)) (pv 3)))
        (pss_cons (ps_for PassesOwn.never rfl (pi_list (pe_dget hu (pv 0) pe_str (fun _ _ => rfl))) (pg_name (i := 5) nd rfl (Or.inl rfl))
          (pss_one (ps_set (i := 4) nd rfl (Or.inl rfl) (pe_op op_mod (pe_op op_add (pe_op op_mul (pv 4) pe_int) (pe_callTy call_int1 (by rfl) T.zint (by decide +kernel) (pa_cons (pv 5) pa_nil))) (pv 3)))))
        (pss_one (ps_set (i := 2) nd rfl (Or.inl rfl) (pe_op op_add (pe_op op_mul (pv 2) pe_int) (pe_op op_mod (pe_op op_pow (pv 4) pe_int) (pv 3))))))))
      (pss_one (ps_ret (pv 2))))), ?_⟩
    refine ⟨_, rfl, _, _, rfl, DGet.k (k := Sum.inr "turn") dr.hd, _, _, rfl, rfl, _, rfl, _, _, rfl, DPut.k (k := Sum.inr "turn") dr.hd (small1000 (by show 4 ≤ 1000; decide)), ?_⟩
    have dr1 : DrAt D (upd H D.d (.dK (drK D r (t + 1)))) ls cs r (t + 1) := dr.put
    have k1 : Kp D H (upd H D.d (.dK (drK D r (t + 1)))) := Kp.put
    generalize hH1 : upd H D.d (.dK (drK D r (t + 1))) = H1 at dr1 k1
    have eH1 : upd H D.d (.dK (putK (drK D r t) (Sum.inr "turn") (.int (t + 1)))) = H1 := hH1
    rw [eH1]
    refine ⟨_, rfl, _, _, rfl, DGet.k (k := Sum.inr "turn") dr1.hd, .inl ⟨_, rfl, ?_⟩⟩
    refine ⟨_, _, rfl, ?_⟩
    refine ⟨(by show 3 ≤ sizeLine; decide), fun p hp => ?_⟩
    have dr2 := dr1.new (o := .lst [.int 2147483629, .int 2147483587, .int 2147483579]) hp
    have k2 : Kp D H1 (upd H1 p (.lst [.int 2147483629, .int 2147483587, .int 2147483579])) := Kp.new hp
    refine ⟨p, rfl, ⟨_, SqL.of upd_same⟩, ?_⟩
    have hp2 : (upd H1 p (.lst [.int 2147483629, .int 2147483587, .int 2147483579])) p = some (.lst [.int 2147483629, .int 2147483587, .int 2147483579]) := upd_same
    generalize upd H1 p (.lst [.int 2147483629, .int 2147483587, .int 2147483579]) = H2 at dr2 k2 hp2
    refine for_list (K := K) (a := p) (xs := [.int 2147483629, .int 2147483587, .int 2147483579]) (fun i σ H' => H' = H2 ∧ ∃ f v3 v4 v5, σ = [some (.ref D.d), some (.int (t + 1)), some (.int f), v3, v4, v5])
      ⟨rfl, 0, _, _, _, rfl⟩ (fun i σ H' _ q => by rw [q.1]; exact SqL.of hp2) ?_ ?_
    · rintro i x σ H' hi ⟨rfl, f, v3, v4, v5, rfl⟩
      obtain ⟨g, rfl, g0, g1⟩ : ∃ g : Int, x = .int g ∧ 0 < g ∧ g < 2147483648 := by
        match i, hi with
        | 0, hi => exact ⟨_, (Option.some.inj hi).symm, by decide, by decide⟩
        | 1, hi => exact ⟨_, (Option.some.inj hi).symm, by decide, by decide⟩
        | 2, hi => exact ⟨_, (Option.some.inj hi).symm, by decide, by decide⟩
      refine ⟨_, rfl, _, _, rfl, rfl, .inr ⟨by decide, by decide⟩, _, rfl, _, _, rfl, rfl, ⟨by decide, by decide⟩, _, _, rfl, rfl, _, rfl, _, _, rfl, rfl, g0, ?_⟩
      refine ⟨_, rfl, _, _, rfl, DGet.k (k := Sum.inr "cells") dr2.hd, _, rfl, ⟨_, SqL.of dr2.hc⟩, ?_⟩
      refine for_list (K := K) (a := D.c) (xs := cs.map V.int) (fun i σ H'' => H'' = H' ∧ ∃ b v5, (0 ≤ b ∧ b < g) ∧ σ = [some (.ref D.d), some (.int (t + 1)), some (.int f), some (.int g), some (.int b), v5])
        ⟨rfl, _, _, ⟨Int.emod_nonneg _ (by omega), Int.emod_lt_of_pos _ g0⟩, rfl⟩ (fun i σ H'' _ q => by rw [q.1]; exact SqL.of dr2.hc) ?_ ?_
      · rintro j y σ H'' hj ⟨rfl, b, v5, hb, rfl⟩
        obtain ⟨z, rfl⟩ : ∃ z, y = V.int z := by
          rw [List.getElem?_map] at hj
          cases e : cs[j]? with
          | none => rw [e] at hj; cases hj
          | some z => rw [e] at hj; exact ⟨z, (Option.some.inj hj).symm⟩
        refine ⟨_, rfl, _, _, rfl, rfl, .inr ⟨by decide, by decide⟩, _, rfl, .inl ⟨_, rfl, _, _, rfl, rfl, _, rfl, _, _, rfl, rfl, g0, ?_⟩⟩
        exact ⟨rfl, _, _, ⟨Int.emod_nonneg _ (by omega), Int.emod_lt_of_pos _ g0⟩, rfl⟩
      · rintro σ H'' ⟨rfl, b, v5, hb, rfl⟩
        refine ⟨_, rfl, _, _, rfl, rfl, .inr ⟨by decide, by decide⟩, _, rfl, _, _, rfl, rfl, ⟨by decide, by decide, by omega⟩, _, rfl, _, _, rfl, rfl, g0, _, _, rfl, rfl, ?_⟩
        exact ⟨rfl, _, _, _, _, rfl⟩
    · rintro σ H' ⟨rfl, f, v3, v4, v5, rfl⟩
      refine ⟨_, rfl, ?_⟩
      exact k _ _ ⟨_, _, _, _, dr2⟩ (k1.trans k2)
end
end Tt
set_option maxRecDepth 100000
set_option maxHeartbeats 4000000
namespace Tt
open PySem L2
section
variable {P : Program} {w : World} {K : PySem.W.Frag} {mg : Str → Option Value} {base : Heap}
theorem dpAll_ints (H : Hp) : ∀ ls : List Int, DpAll K H (ls.map V.int) (ls.map PyData.int)
  | [] => .nil
  | a :: l => .cons (.int a) (dpAll_ints H l)
theorem shapedAll_ints : ∀ ls : List Int, SeqAt.shaped (.list (ls.map PyData.int)) = true
  | [] => by first | rfl | decide
  | a :: l => by
    have h := shapedAll_ints l
    first | exact h | (simp [SeqAt.shaped] at h ⊢) | trace_state
theorem eqv_nil (ls : List Int) : PyData.eqv (.list (ls.map PyData.int)) (.list []) = decide (ls = []) := by
  cases ls with
  | nil => rfl
  | cons a l => simp [PyData.eqv] <;> rfl
theorem yes_t {σ : L2.St} {H : Hp} {A B : Hp → Prop} (h : A H) : tYes σ H (fun b H3 => if b = true then A H3 else B H3) := by
  show if true = true then A H else B H
  rw [if_pos rfl]
  exact h
theorem ints_at {cs : List Int} {j : Nat} {y : V} (hj : (cs.map V.int)[j]? = some y) : ∃ z, y = V.int z ∧ cs[j]? = some z := by
  rw [List.getElem?_map] at hj
  cases e : cs[j]? with
  | none => rw [e] at hj; cases hj
  | some z => rw [e] at hj; exact ⟨z, (Option.some.inj hj).symm, rfl⟩
def spTake : Sp := fun vs H Q _ => ∃ (D : Dw) (m : Int), vs = [.ref D.d, .int m] ∧ 0 < m ∧ m < 1073741824 ∧ DrOk D H ∧ ∀ n H', 0 ≤ n → n < m → DrOk D H' → Kp D H H' → Q (.int n) H'
theorem sq_r {a b : TS} {D : Ends} {σ : L2.St} {H : Hp} (J : L2.St → Hp → Prop) (main : (∀ σ H', J σ H' → b D σ H') → a { D with nx := b D } σ H) (rest : ∀ σ H', J σ H' → b D σ H') : tSeq a b D σ H := main rest
theorem ok_l_take (T : Txt K mg) : FnOk P w K mg base CX0 2 T.l_take.a T.l_take.fd ["draw", "amount"] spTake := by
  refine T.l_take.F.ok sc_l_take (fun vs H Q E h => ?_) (fun cdv A outer s H vs Q E hr h => ?_)
  · obtain ⟨D, m, rfl, _⟩ := h
    rfl
  · obtain ⟨D, m, rfl, m0, m1, ⟨ls, cs, r, t, dr⟩, k⟩ := h
    have hu := hu_of hr
    have nd := sc_l_take.nd
    refine ⟨_, (pss_cons (ps_if (pt_cmpR op_eq (pe_dget hu (pv 0) pe_str (fun _ _ => rfl)) pe_int (nomark _))
      (pss_one (ps_dput hu (pv 0) pe_str (pe_ifExp (pt_cmpR (op_neD hr.units) (pe_dget hu (pv 0) pe_str (fun _ _ => rfl)) (pe_lst pa_nil) (nomark _)) (pe_bm PySem.F.plainAttrs_list PySem.F.slot_list_pop PySem.F.type_list_pop mt_popAt (pe_dget hu (pv 0) pe_str (fun _ _ => rfl)) (pa_cons pe_int pa_nil)) (pe_call (ok_l_mixed T) (hr.mono (by decide)) (by rfl) T.l_mixed.g T.l_mixed.k T.l_mixed.b .nil pass0 (pa_cons (pv 0) pa_nil))) rfl))
      pss_nil)
    (pss_cons (ps_set (i := 2) nd rfl (Or.inl rfl) (pe_op op_mod (pe_callTy call_int1 (by rfl) T.zint (by decide +kernel) (pa_cons (pe_dget hu (pv 0) pe_str (fun _ _ => rfl)) pa_nil)) (pv 1)))
    (pss_cons (ps_dput hu (pv 0) pe_str (pe_op op_fdiv (pe_callTy call_int1 (by rfl) T.zint (by decide +kernel) (pa_cons (pe_dget hu (pv 0) pe_str (fun _ _ => rfl)) pa_nil)) (pv 1)) rfl)
    (pss_one (ps_ret (pv 2)))))), ?_⟩
    refine ⟨_, rfl, _, _, rfl, DGet.k (k := Sum.inr "rest") dr.hd, rfl, _, rfl, ?_⟩
    have fin : ∀ r' ls' cs' t' H', DrAt D H' ls' cs' r' t' → Kp D H H' → tSeq (tAsg (tOp (rI (fun _ j => 0 < j) fun i j => .int (i % j)) (tCB (fun xs H Q => (∃ i, xs = [.int i] ∧ Q (.int i) H) ∨ ∃ k, xs = [.bl k] ∧ Q (.int (if k then 1 else 0)) H) (tCons (tDGet (tVar 0) (tC (.str "rest"))) tNil)) (tVar 1)) (gName 2))
        (tSeq (sDPut (tVar 0) (tC (.str "rest")) (tOp (rI CDiv fun i j => .int (i / j)) (tCB (fun xs H Q => (∃ i, xs = [.int i] ∧ Q (.int i) H) ∨ ∃ k, xs = [.bl k] ∧ Q (.int (if k then 1 else 0)) H) (tCons (tDGet (tVar 0) (tC (.str "rest"))) tNil)) (tVar 1))) (tRet (tVar 2))) { nx := fun _ H' => Q .non H', rt := Q } [some (.ref D.d), some (.int m), none] H' := by
      intro r' ls' cs' t' H' d' k'
      refine ⟨_, rfl, _, _, rfl, DGet.k (k := Sum.inr "rest") d'.hd, .inl ⟨_, rfl, _, rfl, _, _, rfl, rfl, m0, ?_⟩⟩
      refine ⟨_, rfl, _, _, rfl, DGet.k (k := Sum.inr "rest") d'.hd, .inl ⟨_, rfl, _, rfl, _, _, rfl, rfl, ⟨m0, m1⟩, _, rfl, _, _, rfl, DPut.k (k := Sum.inr "rest") d'.hd (small1000 (by show 4 ≤ 1000; decide)), ?_⟩⟩
      refine ⟨_, rfl, k _ _ (Int.emod_nonneg _ (by omega)) (Int.emod_lt_of_pos _ m0) ⟨ls', cs', r' / m, t', ?_⟩ (k'.trans ?_)⟩
      · exact d'.put
      · exact Kp.put
    refine ite2 (fun _ => ?_) (fun _ => fin r ls cs t H dr Kp.refl)
    refine ⟨_, rfl, _, _, rfl, DGet.k (k := Sum.inr "large") dr.hd, (by show 0 ≤ sizeLine; decide), fun p hp => ?_⟩
    have dr1 := dr.new (o := .lst []) hp
    have k1 : Kp D H (upd H p (.lst [])) := Kp.new hp
    refine ⟨_, _, .lst (SqL.of dr1.hl) (dpAll_ints _ ls), .lst (SqL.of upd_same) .nil, shapedAll_ints ls, rfl, _, rfl, ?_⟩
    rw [eqv_nil]
    cases ls with
    | nil =>
      refine iteF ?_
      refine ⟨_, rfl, D, rfl, ⟨_, _, _, _, dr1⟩, fun z H2 ⟨ls2, cs2, r2, t2, d2⟩ k2 => ?_⟩
      refine ⟨_, rfl, _, _, rfl, DPut.k (k := Sum.inr "rest") d2.hd (small1000 (by show 4 ≤ 1000; decide)), ?_⟩
      exact fin z ls2 cs2 t2 _ (d2.put : DrAt D (upd H2 D.d (.dK (drK D z t2))) ls2 cs2 z t2) ((k1.trans k2).trans Kp.put)
    | cons a l =>
      refine iteT ?_
      refine ⟨_, rfl, _, _, rfl, DGet.k (k := Sum.inr "large") dr1.hd, .inl ⟨rfl, _, SqL.of dr1.hl⟩, D.l, _, 0, 0, _, rfl, rfl, dr1.hl, by decide, by decide, by simp [seqIndex?], rfl, ?_⟩
      have d2 : DrAt D (upd (upd H p (.lst [])) D.l (.lst (l.map V.int))) l cs r t := dr1.pop (Nat.le_trans (Nat.le_succ _) dr.nl)
      refine ⟨_, rfl, _, _, rfl, DPut.k (k := Sum.inr "rest") d2.hd (small1000 (by show 4 ≤ 1000; decide)), ?_⟩
      exact fin a l cs t _ (d2.put : DrAt D (upd _ D.d (.dK (drK D a t))) l cs a t) ((k1.trans Kp.putl).trans Kp.put)
def spPick (K : PySem.W.Frag) : Sp := fun vs H Q _ => ∃ (D : Dw) (p : Addr) (xs : List V), vs = [.ref D.d, .ref p] ∧ (SqL K H p xs ∨ SqT K H p xs) ∧ p ≠ D.l ∧ xs ≠ [] ∧ xs.length < 1073741824 ∧ DrOk D H ∧
  ∀ (i : Nat) x H', xs[i]? = some x → DrOk D H' → Kp D H H' → Q x H'
theorem Kp.seqL {D : Dw} {H H' : Hp} {p : Addr} {xs : List V} (k : Kp D H H') (dr : DrOk D H) (n : p ≠ D.l) (h : SqL K H p xs) : SqL K H' p xs := by
  obtain ⟨ls, cs, r, t, d⟩ := dr
  rcases h with (h | ⟨o, h⟩) | h
  · exact .inl (.inl (k _ _ h (d.dne h fun _ z => nomatch z) n))
  · exact .inl (.inr ⟨o, k _ _ h (d.dne h fun _ z => nomatch z) n⟩)
  · exact .inr h
theorem Kp.seqT {D : Dw} {H H' : Hp} {p : Addr} {xs : List V} (k : Kp D H H') (dr : DrOk D H) (h : SqT K H p xs) : SqT K H' p xs := by
  obtain ⟨ls, cs, r, t, d⟩ := dr
  rcases h with (h | ⟨o, h⟩) | h
  · exact .inl (.inl (k _ _ h (d.dne h fun _ z => nomatch z) (d.lne h fun _ z => nomatch z)))
  · exact .inl (.inr ⟨o, k _ _ h (d.dne h fun _ z => nomatch z) (d.lne h fun _ z => nomatch z)⟩)
  · exact .inr h
theorem ok_l_pick (T : Txt K mg) : FnOk P w K mg base CX0 3 T.l_pick.a T.l_pick.fd ["draw", "some"] (spPick K) := by
  refine T.l_pick.F.ok sc_l_pick (fun vs H Q E h => ?_) (fun cdv A outer s H vs Q E hr h => ?_)
  · obtain ⟨D, p, xs, rfl, _⟩ := h
    rfl
  · obtain ⟨D, p, xs, rfl, hs, np, ne, ln, dr, k⟩ := h
    have hu := hu_of hr
    have nd := sc_l_pick.nd
    refine ⟨_, (pss_one (ps_ret (pe_ix (IxR.or ix_list ix_tup) (pv 1) (pe_call (ok_l_take T) (hr.mono (by decide)) (by rfl) T.l_take.g T.l_take.k T.l_take.b .nil pass0 (pa_cons (pv 0) (pa_cons (pe_callB call_len_seq (by rfl) T.zlen (by decide +kernel) (pa_cons (pv 1) pa_nil)) pa_nil))) (fun _ _ => rfl)))), ?_⟩
    have l0 : 0 < xs.length := List.length_pos_iff.mpr ne
    refine ⟨_, rfl, _, rfl, _, rfl, p, xs, rfl, hs, D, (xs.length : Int), rfl, by omega, by omega, dr, fun n H' n0 n1 dr' k' => ?_⟩
    obtain ⟨m, rfl⟩ := Int.eq_ofNat_of_zero_le n0
    have hn : m < xs.length := by omega
    have hat : atI xs (m : Int) = some xs[m] := atI_nat (List.getElem?_eq_getElem hn)
    have fin : Q xs[m] H' := k m _ H' (List.getElem?_eq_getElem hn) dr' k'
    rcases hs with hs | hs
    · exact .inl ⟨p, xs, m, _, rfl, rfl, k'.seqL dr np hs, hat, fin⟩
    · exact .inr ⟨p, xs, m, _, rfl, rfl, k'.seqT dr hs, hat, fin⟩
def spBegun (K : PySem.W.Frag) : Sp := fun vs H Q _ => ∃ (a : Addr) (ns : List Int), vs = [.ref a] ∧ SqL K H a (ns.map V.int) ∧ ns.length ≤ 63 ∧ ∀ (D : Dw) H', DrOk D H' → Same H H' → Q (.ref D.d) H'
theorem ok_l_begun (T : Txt K mg) : FnOk P w K mg base CX0 1 T.l_begun.a T.l_begun.fd ["script"] (spBegun K) := by
  refine T.l_begun.F.ok sc_l_begun (fun vs H Q E h => ?_) (fun cdv A outer s H vs Q E hr h => ?_)
  · obtain ⟨a, ns, rfl, _⟩ := h
    rfl
  · obtain ⟨a, ns, rfl, hs, hl, k⟩ := h
    have hu := hu_of hr
    have nd := sc_l_begun.nd
    refine ⟨_, (pss_cons (ps_setLc (i := 1) (own := [("grain", 2)]) (g := gName 2) rfl nd rfl rfl (sw_true rfl rfl rfl (by decide +kernel)) (pi_list (pv 0)) (blkOk_by (own := [("grain", 2)]) (N := N_l_begun) (sc := defScope s_l_begun) (by decide +kernel)) (fun _ _ _ _ _ => pg_name (i := 2) nd rfl (Or.inl rfl)) (fun _ _ _ _ _ => pts_one (pt_cmpR op_ge (pe_callB call_abs (by rfl) T.zabs (by decide +kernel) (pa_cons (pv 2) pa_nil)) (pe_op op_pow pe_int pe_int) (nomark _))) (fun _ _ _ _ _ => (pe_op op_sub (pe_callB call_abs (by rfl) T.zabs (by decide +kernel) (pa_cons (pv 2) pa_nil)) (pe_op op_pow pe_int pe_int))))
    (pss_one (ps_ret (pe_disp (pps_cons pe_str (pv 1) (pps_cons pe_str pe_int (pps_cons pe_str (pe_lc (own := [("grain", 2)]) (g := gName 2) rfl nd (pi_list (pv 0)) (blkOk_by (own := [("grain", 2)]) (N := N_l_begun) (sc := defScope s_l_begun) (by decide +kernel)) (fun _ _ _ _ _ => pg_name (i := 2) nd rfl (Or.inl rfl)) (fun _ _ _ _ _ => pts_nil) (fun _ _ _ _ _ => (pe_callB call_abs (by rfl) T.zabs (by decide +kernel) (pa_cons (pv 2) pa_nil)))) (pps_cons pe_str pe_int pps_nil)))) (by rfl) (by rfl) (fun z => by cases z) (by decide))))), ?_⟩
    refine ⟨_, rfl, a, rfl, ⟨_, hs⟩, fun D1 hD1 => lc_list (K := K) (a := a) (xs := ns.map V.int) (fun i H' => ∃ ls : List Int, ls.length ≤ i ∧ H' D1 = some (.lst (ls.map V.int)) ∧ Same H H')
      ⟨[], Nat.le_refl _, upd_same, fun b o e => by rw [upd_ne (ne_of_none e hD1)]; exact e⟩ (fun i H' _ ⟨_, _, _, s⟩ => s.seq hs) ?_ ?_⟩
    · rintro i y H' hi ⟨ls, hls, h1, s1⟩
      obtain ⟨z, rfl, hz⟩ := ints_at hi
      have hi63 : i < ns.length := (List.getElem?_eq_some_iff.mp hz).1
      refine ⟨rfl, _, rfl, _, rfl, _, _, rfl, rfl, ⟨by decide, by decide, by decide⟩, _, _, rfl, rfl, _, rfl, ?_⟩
      refine ite2 (fun _ => ?_) (fun _ => ⟨ls, by omega, h1, s1⟩)
      refine ⟨_, rfl, _, rfl, _, _, rfl, rfl, ⟨by decide, by decide, by decide⟩, _, _, rfl, rfl, _, h1, ?_, ?_⟩
      · rw [List.length_map]
        exact small1000 (by omega)
      · refine ⟨ls ++ [(if z < 0 then -z else z) - 10 ^ (18 : Int).toNat], by rw [List.length_append]; show ls.length + 1 ≤ i + 1; omega, ?_, ?_⟩
        · rw [upd_same, List.map_append]
          rfl
        · intro b o e
          have e1 := s1 b o e
          rw [upd_ne (ne_of_none e hD1)]
          exact e1
    · rintro H1 ⟨ls, hls, h1, s1⟩
      rw [List.length_map] at hls
      refine fun p hp => ?_
      refine ⟨_, rfl, ?_⟩
      have s2 : Same H (upd H1 p (.dK [])) := fun b o e => by rw [upd_ne (ne_of_none (s1 b o e) hp)]; exact s1 b o e
      refine ⟨_, rfl, a, rfl, ⟨_, s2.seq hs⟩, fun D2 hD2 => lc_list (K := K) (a := a) (xs := ns.map V.int) (fun i H' => ∃ cs : List Int, cs.length ≤ i ∧ H' D2 = some (.lst (cs.map V.int)) ∧ Same (upd H1 p (.dK [])) H')
        ⟨[], Nat.le_refl _, upd_same, fun b o e => by rw [upd_ne (ne_of_none e hD2)]; exact e⟩ (fun i H' _ ⟨_, _, _, s⟩ => s.seq (s2.seq hs)) ?_ ?_⟩
      · rintro i y H' hi ⟨cs, hcs, h2, s3⟩
        obtain ⟨z, rfl, hz⟩ := ints_at hi
        have hi63 : i < ns.length := (List.getElem?_eq_some_iff.mp hz).1
        refine ⟨rfl, yes_t ?_⟩
        refine ⟨_, rfl, _, rfl, _, h2, by rw [List.length_map]; exact small1000 (by omega), ?_⟩
        refine ⟨cs ++ [if z < 0 then -z else z], by rw [List.length_append]; show cs.length + 1 ≤ i + 1; omega, ?_, ?_⟩
        · rw [upd_same, List.map_append]
          rfl
        · intro b o e
          rw [upd_ne (ne_of_none e hD2)]
          exact s3 b o e
      · rintro H2 ⟨cs, hcs, h2, s3⟩
        rw [List.length_map] at hcs
        have hp2 : H2 p = some (.dK []) := s3 _ _ upd_same
        have nDp : D2 ≠ p := fun z => by rw [z, upd_same] at hD2; cases hD2
        have nD1p : D1 ≠ p := ne_of_none h1 hp
        have h12 : H2 D1 = some (.lst (ls.map V.int)) := s3 _ _ (by rw [upd_ne nD1p]; exact h1)
        have nD12 : D1 ≠ D2 := fun z => by
          rw [← z, upd_ne nD1p, h1] at hD2
          cases hD2
        refine ⟨hp2, drK ⟨p, D1, D2⟩ 0 0, rfl, by show 4 ≤ 15; decide, ?_⟩
        refine k ⟨p, D1, D2⟩ _ ⟨ls, cs, 0, 0, ⟨upd_same, by rw [upd_ne nD1p]; exact h12, by rw [upd_ne nDp]; exact h2, nD12, by omega, by omega⟩⟩ ?_
        intro b o e
        rw [upd_ne (ne_of_none (s1 b o e) hp)]
        exact s3 _ _ (s2 b o e)
end
end Tt
namespace Wd
def mate (x : Int) : Int := if x % 2 = 0 then x + 1 else x - 1
theorem mate_mate (x : Int) : mate (mate x) = x := by unfold mate; split <;> split <;> omega
theorem mate_eq {a b : Int} : b = mate a ↔ a = mate b := ⟨fun h => by rw [h, mate_mate], fun h => by rw [h, mate_mate]⟩
theorem mate_range {n x : Int} (h0 : 0 ≤ x) (h1 : x < 2 * n) : 0 ≤ mate x ∧ mate x < 2 * n := by unfold mate; split <;> omega
def push (st : List Int) (x : Int) : List Int := if st.getLast? = some (mate x) then st.dropLast else st ++ [x]
def freed (w : List Int) : List Int := w.foldl push []
def undo (w : List Int) : List Int := w.reverse.map mate
def Rd (st : List Int) : Prop := ∀ i a b, st[i]? = some a → st[i + 1]? = some b → b ≠ mate a
theorem rd_nil : Rd [] := fun i a b h => by simp at h
theorem last_get {st : List Int} {a : Int} : st.getLast? = some a ↔ st ≠ [] ∧ st[st.length - 1]? = some a := by
  rw [List.getLast?_eq_getElem?]
  constructor
  · intro h
    refine ⟨fun e => ?_, h⟩
    subst e
    simp at h
  · exact fun h => h.2
theorem rd_push {st : List Int} {x : Int} (h : Rd st) : Rd (push st x) := by
  unfold push
  split
  · intro i a b h1 h2
    have e1 : i + 1 < st.dropLast.length := (List.getElem?_eq_some_iff.mp h2).1
    rw [List.length_dropLast] at e1
    rw [List.getElem?_dropLast, if_pos (by omega)] at h1
    rw [List.getElem?_dropLast, if_pos (by omega)] at h2
    exact h i a b h1 h2
  · rename_i hn
    intro i a b h1 h2
    have e1 : i + 1 < (st ++ [x]).length := (List.getElem?_eq_some_iff.mp h2).1
    rw [List.length_append, List.length_singleton] at e1
    by_cases hi : i + 1 < st.length
    · rw [List.getElem?_append_left (by omega)] at h1
      rw [List.getElem?_append_left hi] at h2
      exact h i a b h1 h2
    · have ei : i + 1 = st.length := by omega
      rw [List.getElem?_append_left (by omega)] at h1
      rw [List.getElem?_append_right (by omega)] at h2
      have e0 : i + 1 - st.length = 0 := by omega
      rw [e0] at h2
      have hb : x = b := by simpa using h2
      subst hb
      intro z
      apply hn
      rw [last_get]
      refine ⟨fun e => by rw [e] at ei; simp at ei, ?_⟩
      have e2 : st.length - 1 = i := by omega
      rw [e2, h1, mate_eq.mp z]
theorem snoc_of_last {st : List Int} {a : Int} (h : st.getLast? = some a) : st.dropLast ++ [a] = st := by
  have hne := (last_get.mp h).1
  have e := List.dropLast_concat_getLast hne
  have e2 : st.getLast hne = a := by
    rw [List.getLast?_eq_some_getLast hne] at h
    exact Option.some.inj h
  rw [e2] at e
  exact e
theorem push_push {st : List Int} {x : Int} (h : Rd st) : push (push st (mate x)) x = st := by
  unfold push
  split
  · rename_i h1
    rw [mate_mate] at h1
    have e := snoc_of_last h1
    have n : ¬ st.dropLast.getLast? = some (mate x) := by
      intro z
      obtain ⟨z1, z2⟩ := last_get.mp z
      have l0 : 0 < st.dropLast.length := List.length_pos_iff.mpr z1
      have hl : st.dropLast.length = st.length - 1 := List.length_dropLast
      have g1 : st[st.dropLast.length - 1]? = some (mate x) := by
        rw [← z2, List.getElem?_dropLast, if_pos (by omega)]
      have g2 : st[st.dropLast.length - 1 + 1]? = some x := by
        have := (last_get.mp h1).2
        have e3 : st.dropLast.length - 1 + 1 = st.length - 1 := by omega
        rw [e3]
        exact this
      exact h _ _ _ g1 g2 (mate_mate x).symm
    rw [if_neg n, e]
  · rename_i h1
    rw [if_pos (by simp), List.dropLast_concat]
theorem rd_fold : ∀ (w : List Int) {st : List Int}, Rd st → Rd (w.foldl push st)
  | [], _, h => h
  | a :: w, _, h => rd_fold w (rd_push h)
theorem snoc_ind {P : List Int → Prop} (h0 : P []) (h1 : ∀ l a, P l → P (l ++ [a])) (l : List Int) : P l := by
  have h : ∀ r : List Int, P r.reverse := by
    intro r
    induction r with
    | nil => exact h0
    | cons a r ih => rw [List.reverse_cons]; exact h1 _ _ ih
  have := h l.reverse
  rwa [List.reverse_reverse] at this
theorem fold_freed {st : List Int} (h : Rd st) (b : List Int) : b.foldl push st = (freed b).foldl push st := by
  induction b using snoc_ind with
  | h0 => rfl
  | h1 l a ih =>
    have e : freed (l ++ [a]) = push (freed l) a := by unfold freed; rw [List.foldl_append]; rfl
    rw [e, List.foldl_append, ih]
    show push ((freed l).foldl push st) a = _
    by_cases c : (freed l).getLast? = some (mate a)
    · have e2 := snoc_of_last c
      unfold push
      rw [if_pos c]
      show push ((freed l).foldl push st) a = _
      conv => lhs; rw [← e2, List.foldl_append]
      exact push_push (rd_fold _ h)
    · have e2 : push (freed l) a = freed l ++ [a] := by unfold push; rw [if_neg c]
      rw [e2, List.foldl_append]
      rfl
theorem rd_freed (w : List Int) : Rd (freed w) := rd_fold w rd_nil
theorem freed_freed (w : List Int) : freed (freed w) = freed w := (fold_freed rd_nil w).symm
theorem freed_app (a b : List Int) : freed (a ++ b) = freed (freed a ++ freed b) := by
  have e1 : freed (a ++ b) = (freed b).foldl push (freed a) := by
    unfold freed
    rw [List.foldl_append]
    exact fold_freed (rd_fold a rd_nil) b
  have e2 : freed (freed a ++ freed b) = (freed b).foldl push (freed a) := by
    show (freed a ++ freed b).foldl push [] = _
    rw [List.foldl_append]
    show (freed b).foldl push (freed (freed a)) = _
    rw [freed_freed]
  rw [e1, e2]
theorem undo_cons (a : Int) (w : List Int) : undo (a :: w) = undo w ++ [mate a] := by
  unfold undo
  rw [List.reverse_cons, List.map_append]
  rfl
theorem fold_undo : ∀ (w : List Int) {st : List Int}, Rd st → (w ++ undo w).foldl push st = st
  | [], _, _ => rfl
  | a :: w, st, h => by
    rw [undo_cons, List.cons_append, List.foldl_cons, ← List.append_assoc, List.foldl_append, fold_undo w (rd_push h)]
    show push (push st a) (mate a) = st
    have := push_push (x := mate a) h
    rw [mate_mate] at this
    exact this
theorem freed_undo (w : List Int) : freed (w ++ undo w) = [] := fold_undo w rd_nil
theorem freed_cut (u v : List Int) (b : Int) : freed (u ++ mate b :: b :: v) = freed (u ++ v) := by
  unfold freed
  rw [List.foldl_append, List.foldl_append, List.foldl_cons, List.foldl_cons, push_push (rd_fold u rd_nil)]
theorem freed_of_rd (w : List Int) : Rd w → freed w = w := by
  induction w using snoc_ind with
  | h0 => intro _; rfl
  | h1 l a ih =>
    intro h
    have hl : Rd l := fun i x y h1 h2 => h i x y (by rw [List.getElem?_append_left (List.getElem?_eq_some_iff.mp h1).1]; exact h1) (by rw [List.getElem?_append_left (List.getElem?_eq_some_iff.mp h2).1]; exact h2)
    have e : freed (l ++ [a]) = push (freed l) a := by unfold freed; rw [List.foldl_append]; rfl
    rw [e, ih hl]
    unfold push
    rw [if_neg]
    intro z
    obtain ⟨z1, z2⟩ := last_get.mp z
    have l0 : 0 < l.length := List.length_pos_iff.mpr z1
    refine h (l.length - 1) (mate a) a (by rw [List.getElem?_append_left (by omega)]; exact z2) ?_ (mate_mate a).symm
    have e3 : l.length - 1 + 1 = l.length := by omega
    rw [e3, List.getElem?_append_right (Nat.le_refl _)]
    simp
theorem mem_push {st : List Int} {x y : Int} (h : y ∈ push st x) : y ∈ st ∨ y = x := by
  unfold push at h
  split at h
  · exact .inl (List.dropLast_subset _ h)
  · simpa using h
theorem mem_fold : ∀ (w : List Int) {st : List Int} {y : Int}, y ∈ w.foldl push st → y ∈ st ∨ y ∈ w
  | [], _, _, h => .inl h
  | a :: w, _, y, h => by
    rcases mem_fold w h with h | h
    · rcases mem_push h with h | h
      · exact .inl h
      · exact .inr (by rw [h]; exact List.mem_cons_self)
    · exact .inr (List.mem_cons_of_mem _ h)
theorem mem_freed {w : List Int} {y : Int} (h : y ∈ freed w) : y ∈ w := by
  rcases mem_fold w h with h | h
  · cases h
  · exact h
theorem len_push (st : List Int) (x : Int) : (push st x).length ≤ st.length + 1 := by
  unfold push
  split
  · rw [List.length_dropLast]; omega
  · rw [List.length_append]; simp
theorem len_fold : ∀ (w : List Int) (st : List Int), (w.foldl push st).length ≤ st.length + w.length
  | [], _ => by simp
  | a :: w, st => by
    have h1 := len_fold w (push st a)
    have h2 := len_push st a
    rw [List.foldl_cons, List.length_cons]
    omega
theorem len_freed (w : List Int) : (freed w).length ≤ w.length := by
  have h := len_fold w []
  show (w.foldl push []).length ≤ _
  simp only [List.length_nil, Nat.zero_add] at h
  exact h
theorem freed_snoc (w : List Int) (a : Int) : freed (w ++ [a]) = push (freed w) a := by unfold freed; rw [List.foldl_append]; rfl
theorem undo_len (w : List Int) : (undo w).length = w.length := by unfold undo; rw [List.length_map, List.length_reverse]
end Wd
set_option maxRecDepth 100000
set_option maxHeartbeats 4000000
namespace Tt
open PySem L2
section
variable {P : Program} {w : World} {K : PySem.W.Frag} {mg : Str → Option Value} {base : Heap}
def Off (D : Dw) (b : Addr) : Prop := b ≠ D.d ∧ b ≠ D.l ∧ b ≠ D.c
theorem DrOk.off {D : Dw} {H : Hp} {b : Addr} (h : DrOk D H) (n : H b = none) : Off D b := by
  obtain ⟨ls, cs, r, t, d⟩ := h
  exact ⟨(ne_of_none d.hd n).symm, (ne_of_none d.hl n).symm, (ne_of_none d.hc n).symm⟩
theorem DrOk.new {D : Dw} {H : Hp} {p : Addr} {o : HO} (h : DrOk D H) (n : H p = none) : DrOk D (upd H p o) := by
  obtain ⟨ls, cs, r, t, d⟩ := h
  exact ⟨ls, cs, r, t, d.new n⟩
theorem DrOk.put {D : Dw} {H : Hp} {p : Addr} {o : HO} (h : DrOk D H) (n : Off D p) : DrOk D (upd H p o) := by
  obtain ⟨ls, cs, r, t, d⟩ := h
  exact ⟨ls, cs, r, t, ⟨by rw [upd_ne n.1.symm]; exact d.hd, by rw [upd_ne n.2.1.symm]; exact d.hl, by rw [upd_ne n.2.2.symm]; exact d.hc, d.ne, d.nl, d.nc⟩⟩
theorem DrOk.same {D : Dw} {H H' : Hp} (h : DrOk D H) (s : Same H H') : DrOk D H' := by
  obtain ⟨ls, cs, r, t, d⟩ := h
  exact ⟨ls, cs, r, t, d.same s⟩
theorem Kp.at {D : Dw} {H H' : Hp} {b : Addr} {o : HO} (k : Kp D H H') (n : Off D b) (h : H b = some o) : H' b = some o := k b o h n.1 n.2.1
theorem DrOk.tup {D : Dw} {H H' : Hp} {b : Addr} {xs : List V} (h : DrOk D H) (k : Kp D H H') (e : H b = some (.tup xs)) : H' b = some (.tup xs) := by
  obtain ⟨ls, cs, r, t, d⟩ := h
  exact k b _ e (d.dne e fun _ z => nomatch z) (d.lne e fun _ z => nomatch z)
theorem perm_erase : ∀ {l : List Int} {i : Nat} {a : Int}, l[i]? = some a → (a :: l.eraseIdx i).Perm l
  | [], _, _, h => by simp at h
  | b :: l, 0, a, h => by
    have e : b = a := by simpa using h
    subst e
    exact List.Perm.refl _
  | b :: l, i + 1, a, h => by
    have h' : l[i]? = some a := by simpa using h
    rw [List.eraseIdx_cons_succ]
    exact (List.Perm.swap b a _).trans ((perm_erase h').cons b)
theorem eraseIdx_mapI : ∀ (l : List Int) (i : Nat), (l.map V.int).eraseIdx i = (l.eraseIdx i).map V.int
  | [], _ => rfl
  | _ :: _, 0 => rfl
  | a :: l, i + 1 => by
    rw [List.map_cons, List.eraseIdx_cons_succ, eraseIdx_mapI l i, List.eraseIdx_cons_succ, List.map_cons]
theorem eqv_list_nil (H : Hp) : ∀ {xs : List V} {ds : List PyData}, DpAll K H xs ds → (PyData.eqv (.list ds) (.list []) = decide (xs = []))
  | [], _, .nil => rfl
  | _ :: _, _, .cons _ _ => by simp [PyData.eqv] <;> rfl
inductive El (K : PySem.W.Frag) (H : Hp) : V → Prop
  | int (n : Int) : El K H (.int n)
  | tup {p : Addr} {ns : List Int} (h : SqT K H p (ns.map V.int)) (l : ns.length ≤ 1000) : El K H (.ref p)
theorem El.kp {D : Dw} {H H' : Hp} {v : V} (h : El K H v) (dr : DrOk D H) (k : Kp D H H') : El K H' v := by
  cases h with
  | int n => exact .int n
  | tup h l => exact .tup (k.seqT dr h) l
theorem El.new {H : Hp} {v : V} {e : Addr} {o : HO} (h : El K H v) (n : H e = none) : El K (upd H e o) v := by
  cases h with
  | int n => exact .int n
  | tup h l =>
    refine .tup ?_ l
    rcases h with (h | ⟨o, h⟩) | h
    · exact .inl (.inl ((show upd H e _ _ = _ from (upd_ne (ne_of_none h n)).trans h)))
    · exact .inl (.inr ⟨o, (show upd H e _ _ = _ from (upd_ne (ne_of_none h n)).trans h)⟩)
    · exact .inr h
theorem lay_ints : ∀ ns : List Int, PyData.canLayAll0 (ns.map PyData.int) = true
  | [] => by simp [PyData.canLayAll0]
  | x :: ns => by
    have h := lay_ints ns
    simp only [List.map_cons, PyData.canLayAll0, h, Bool.and_true]
    rfl
theorem el_data0 {H : Hp} : ∀ {xs : List V}, (∀ v ∈ xs, El K H v) → ∃ ds, DpAll K H xs ds ∧ PyData.canLayAll0 ds = true ∧ PyData.depthAll ds ≤ 1
  | [], _ => ⟨[], .nil, by simp [PyData.canLayAll0], by simp [PyData.depthAll]⟩
  | v :: xs, h => by
    obtain ⟨ds, d1, d2, d3⟩ := el_data0 (xs := xs) fun u hu => h u (List.mem_cons_of_mem _ hu)
    have hv := h v (List.mem_cons_self ..)
    cases hv with
    | int n =>
      refine ⟨.int n :: ds, .cons (.int n) d1, ?_, ?_⟩
      · simp only [PyData.canLayAll0, d2, Bool.and_true]
        rfl
      · show max 0 (PyData.depthAll ds) ≤ 1
        omega
    | @tup p ns hp l =>
      refine ⟨rowD ns :: ds, .cons (.tup hp (dpAll_intsL H ns)) d1, ?_, ?_⟩
      · simp only [PyData.canLayAll0, d2, Bool.and_true]
        exact lay_ints ns
      · show max (PyData.depthAll (ns.map PyData.int) + 1) (PyData.depthAll ds) ≤ 1
        rw [depth_ints ns]
        omega
theorem el_data {H : Hp} {xs : List V} (h : ∀ v ∈ xs, El K H v) : ∃ ds, DpAll K H xs ds ∧ SeqAt.shaped (.list ds) = true := by
  obtain ⟨ds, d1, d2, d3⟩ := el_data0 h
  refine ⟨ds, d1, ?_⟩
  have e1 : (PyData.list ds).canLay0 = true := d2
  have e2 : (PyData.list ds).depth = PyData.depthAll ds + 1 := rfl
  simp only [SeqAt.shaped, e1, e2, Bool.true_and]
  exact decide_eq_true (by omega)
theorem perm_eraseV : ∀ {l : List V} {i : Nat} {a : V}, l[i]? = some a → (a :: l.eraseIdx i).Perm l
  | [], _, _, h => by simp at h
  | b :: l, 0, a, h => by
    have e : b = a := by simpa using h
    subst e
    exact List.Perm.refl _
  | b :: l, i + 1, a, h => by
    have h' : l[i]? = some a := by simpa using h
    rw [List.eraseIdx_cons_succ]
    exact (List.Perm.swap b a _).trans ((perm_eraseV h').cons b)
theorem permV_ints {ys : List V} {ns : List Int} (h : ys.Perm (ns.map V.int)) : ∃ ms : List Int, ms.Perm ns ∧ ys = ms.map V.int := by
  obtain ⟨ms, h1, h2⟩ : ∃ ms : List Int, ys = ms.map V.int ∧ True := by
    have al : ∀ y ∈ ys, ∃ n, y = V.int n := fun y hy => by
      obtain ⟨n, _, e⟩ := List.mem_map.mp (h.mem_iff.mp hy)
      exact ⟨n, e.symm⟩
    clear h
    induction ys with
    | nil => exact ⟨[], rfl, trivial⟩
    | cons y ys ih =>
      obtain ⟨n, rfl⟩ := al y (List.mem_cons_self ..)
      obtain ⟨ms, rfl, _⟩ := ih fun z hz => al z (List.mem_cons_of_mem _ hz)
      exact ⟨n :: ms, rfl, trivial⟩
  subst h1
  refine ⟨ms, ?_, rfl⟩
  have := h.map fun v => match v with | .int n => n | _ => 0
  rw [List.map_map, List.map_map] at this
  have e : ∀ l : List Int, l.map ((fun v : V => match v with | .int n => n | _ => 0) ∘ V.int) = l := fun l => List.map_id _
  rwa [e, e] at this
def spShuf (K : PySem.W.Frag) : Sp := fun vs H Q _ => ∃ (D : Dw) (p : Addr) (xs : List V), vs = [.ref D.d, .ref p] ∧ (SqL K H p xs ∨ SqT K H p xs) ∧ xs.length ≤ 1000 ∧ (∀ v ∈ xs, El K H v) ∧ DrOk D H ∧
  ∀ (ys : List V) q H', ys.Perm xs → DrOk D H' → Kp D H H' → H q = none → H' q = some (.lst ys) → Q (.ref q) H'
theorem ok_l_shuffled (T : Txt K mg) : FnOk P w K mg base CX0 3 T.l_shuffled.a T.l_shuffled.fd ["draw", "some"] (spShuf K) := by
  refine T.l_shuffled.F.ok sc_l_shuffled (fun vs H Q E h => ?_) (fun cdv A outer s H vs Q E hr h => ?_)
  · obtain ⟨D, p, ns, rfl, _⟩ := h
    rfl
  · obtain ⟨D, p, ns, rfl, hs, hl, al, dr, k⟩ := h
    have hu := hu_of hr
    have nd := sc_l_shuffled.nd
    refine ⟨_, (pss_cons (ps_par (i := 2) (j := 3) rfl nd rfl rfl (by decide) rfl rfl (pa_cons (pe_callTy call_list_of (by rfl) T.zlist (by decide +kernel) (pa_cons (pv 1) pa_nil)) (pa_cons (pe_lst pa_nil) pa_nil)) rfl)
    (pss_cons (ps_while PassesOwn.never (pt_cmpR (op_neD hr.units) (pv 2) (pe_lst pa_nil) (nomark _))
      (pss_one (ps_expr (pe_bm PySem.F.plainAttrs_list PySem.F.slot_list_append PySem.F.type_list_append mt_append (pv 3) (pa_cons (pe_bm PySem.F.plainAttrs_list PySem.F.slot_list_pop PySem.F.type_list_pop mt_popAt (pv 2) (pa_cons (pe_call (ok_l_take T) (hr.mono (by decide)) (by rfl) T.l_take.g T.l_take.k T.l_take.b .nil pass0 (pa_cons (pv 0) (pa_cons (pe_callB call_len_seq (by rfl) T.zlen (by decide +kernel) (pa_cons (pv 2) pa_nil)) pa_nil))) pa_nil)) pa_nil)))))
    (pss_one (ps_ret (pv 3))))), ?_⟩
    refine ⟨_, rfl, p, _, rfl, hs, fun l hl0 => ⟨(by show 0 ≤ sizeLine; decide), fun q hq => ⟨_, _, rfl, ?_⟩⟩⟩
    have d1 := (dr.new (o := .lst ns) hl0).new (o := .lst []) hq
    have k1 : Kp D H (upd (upd H l (.lst ns)) q (.lst [])) := (Kp.new hl0).trans (Kp.new hq)
    have nlq : l ≠ q := ne_of_none upd_same hq
    have nl : Off D l := dr.off hl0
    have nq : Off D q := (dr.new (o := .lst ns) hl0).off hq
    have hqH : H q = none := by rw [upd_ne nlq.symm] at hq; exact hq
    have a1 : (upd (upd H l (.lst ns)) q (.lst [])) l = some (.lst ns) := by rw [upd_ne nlq]; exact upd_same
    have a2 : (upd (upd H l (.lst ns)) q (.lst [])) q = some (.lst []) := upd_same
    generalize upd (upd H l (.lst ns)) q (.lst []) = H1 at d1 k1 a1 a2
    refine while_by (fun σ H' => ∃ (le fo : List V), σ = [some (.ref D.d), some (.ref p), some (.ref l), some (.ref q)] ∧ H' l = some (.lst le) ∧ H' q = some (.lst fo) ∧ (fo ++ le).Perm ns ∧ DrOk D H' ∧ Kp D H H')
      (fun σ H' => match H' l with | some (.lst xs) => xs.length | _ => 0) ⟨ns, [], rfl, a1, a2, List.Perm.refl _, d1, k1⟩ ?_ ?_
    · rintro σ H' ⟨le, fo, rfl, h1, h2, pm, dr', k'⟩
      have hlen : fo.length + le.length = ns.length := by rw [← pm.length_eq, List.length_append]
      have ale : ∀ v ∈ le, El K H' v := fun v hv => (al v (pm.mem_iff.mp (List.mem_append.mpr (.inr hv)))).kp dr k'
      refine ⟨_, rfl, (by show 0 ≤ sizeLine; decide), fun e he => ?_⟩
      have e1 : (upd H' e (.lst [])) l = some (.lst le) := by rw [upd_ne (ne_of_none h1 he)]; exact h1
      have e2 : (upd H' e (.lst [])) q = some (.lst fo) := by rw [upd_ne (ne_of_none h2 he)]; exact h2
      have d2 : DrOk D (upd H' e (.lst [])) := dr'.new he
      have k2 : Kp D H (upd H' e (.lst [])) := k'.trans (Kp.new he)
      obtain ⟨ds, dp, sh⟩ := el_data (xs := le) (H := upd H' e (.lst [])) fun v hv => (ale v hv).new he
      refine ⟨_, _, .lst (SqL.of e1) dp, .lst (SqL.of upd_same) .nil, sh, rfl, _, rfl, ?_⟩
      rw [eqv_list_nil (K := K) (H := upd H' e (.lst [])) dp]
      refine ite2 (fun c => ?_) (fun c => ?_)
      · have hne : le ≠ [] := by simpa using c
        have l0 : 0 < le.length := List.length_pos_iff.mpr hne
        refine ⟨_, rfl, .inl ⟨rfl, _, SqL.of e2⟩, _, rfl, .inl ⟨rfl, _, SqL.of e1⟩, _, rfl, _, rfl, l, _, rfl, .inl (SqL.of e1), D, _, rfl, ?_⟩
        refine ⟨by omega, by omega, d2, fun n H3 n0 n1 d3 k3 => ?_⟩
        obtain ⟨m, rfl⟩ := Int.eq_ofNat_of_zero_le n0
        have hm : m < le.length := by omega
        have f1 : H3 l = some (.lst le) := k3.at nl e1
        have f2 : H3 q = some (.lst fo) := k3.at nq e2
        refine ⟨l, _, _, m, le[m], rfl, rfl, f1, by omega, by omega, ?_, ?_, ?_⟩
        · have e0 : ¬ ((m : Int) < 0) := by omega
          simp [seqIndex?, e0, hm]
        · exact List.getElem?_eq_getElem hm
        · have nlq' : q ≠ l := nlq.symm
          have g2 : (upd H3 l (.lst (le.eraseIdx m))) q = some (.lst fo) := by rw [upd_ne nlq']; exact f2
          refine ⟨q, _, _, rfl, rfl, g2, small1000 (by omega), ?_⟩
          refine ⟨⟨le.eraseIdx m, fo ++ [le[m]], rfl, ?_, ?_, ?_, ?_, ?_⟩, ?_⟩
          · rw [upd_ne nlq, upd_same]
          · rw [upd_same]
          · refine List.Perm.trans ?_ pm
            rw [List.append_assoc]
            exact (perm_eraseV (List.getElem?_eq_getElem hm)).append_left fo
          · exact (d3.put nl).put nq
          · intro b o hb n1 n2
            have hbl : b ≠ l := ne_of_none hb hl0
            have hbq : b ≠ q := ne_of_none hb hqH
            rw [upd_ne hbq, upd_ne hbl]
            exact k3 _ _ (k2 _ _ hb n1 n2) n1 n2
          · show (match (upd (upd H3 l _) q _) l with | some (.lst xs) => xs.length | _ => 0) < (match H' l with | some (.lst xs) => xs.length | _ => 0)
            rw [upd_ne nlq, upd_same, h1]
            show (le.eraseIdx m).length < le.length
            rw [List.length_eraseIdx_of_lt hm]
            omega
      · have hne : le = [] := by simpa using c
        subst hne
        refine ⟨_, rfl, ?_⟩
        rw [List.append_nil] at pm
        exact k fo q _ pm d2 k2 hqH e2
    · rintro σ H Q Q' hq ⟨v, h1, h2, h3⟩
      exact ⟨v, h1, h2, fun p hp => by obtain ⟨d, e, a1, a2, a3, a4, b, eb, h⟩ := h3 p hp; exact ⟨d, e, a1, a2, a3, a4, b, eb, hq _ _ h⟩⟩
end
end Tt
set_option maxRecDepth 100000
set_option maxHeartbeats 4000000
namespace Tt
open PySem L2
section
variable {P : Program} {w : World} {K : PySem.W.Frag} {mg : Str → Option Value} {base : Heap}
theorem xor_mate {x : Int} (h0 : 0 ≤ x) (h1 : x < 12) : Builtin.bitXor x 1 = Wd.mate x := by
  have h : ∀ n : Fin 12, Builtin.bitXor ((n.val : Nat) : Int) 1 = Wd.mate ((n.val : Nat) : Int) := by decide
  obtain ⟨n, rfl⟩ := Int.eq_ofNat_of_zero_le h0
  exact h ⟨n, by omega⟩
theorem same_new {H : Hp} {p : Addr} {o : HO} (n : H p = none) : Same H (upd H p o) := fun b u e => by
  rw [upd_ne (ne_of_none e n)]
  exact e
theorem ints_get {st : List Int} {i : Nat} {a : Int} (h : st[i]? = some a) : (st.map V.int)[i]? = some (V.int a) := by rw [List.getElem?_map, h]; rfl
theorem atI_last {st : List Int} (h : st ≠ []) : ∃ a, st.getLast? = some a ∧ atI (st.map V.int) (-1) = some (V.int a) := by
  have l0 : 0 < st.length := List.length_pos_iff.mpr h
  have hl : st.length - 1 < st.length := by omega
  refine ⟨st[st.length - 1], by rw [List.getLast?_eq_getElem?, List.getElem?_eq_getElem hl], ?_⟩
  unfold atI
  have e : ixN (st.map V.int).length (-1) = some (st.length - 1) := by
    rw [List.length_map]
    unfold ixN
    simp
    omega
  rw [e]
  exact ints_get (List.getElem?_eq_getElem hl)
theorem smallB {n : Nat} (h : n ≤ 4000) : n < sizeLine := Nat.lt_of_le_of_lt h (of_decide_eq_true rfl)
def spFreed (K : PySem.W.Frag) : Sp := fun vs H Q _ => ∃ (p : Addr) (ns : List Int), vs = [.ref p] ∧ SqT K H p (ns.map V.int) ∧ ns.length ≤ 4000 ∧ (∀ x ∈ ns, 0 ≤ x ∧ x < 12) ∧
  ∀ q H', Same H H' → H' q = some (.tup ((Wd.freed ns).map V.int)) → Q (.ref q) H'
theorem same_seqT {K : PySem.W.Frag} {H H' : Hp} {a : Addr} {xs : List V} (e : Same H H') (h : SqT K H a xs) : SqT K H' a xs := by
  rcases h with (h | ⟨o, h⟩) | h
  · exact .inl (.inl (e _ _ h))
  · exact .inl (.inr ⟨o, e _ _ h⟩)
  · exact .inr h
end
end Tt
set_option maxRecDepth 100000
set_option maxHeartbeats 4000000
namespace Tt
open PySem L2
section
variable {P : Program} {w : World} {K : PySem.W.Frag} {mg : Str → Option Value} {base : Heap}
theorem ok_cut_free (T : Txt K mg) : FnOk P w K mg base CX0 2 T.cut_free.a T.cut_free.fd ["word"] (spFreed K) := by
  refine T.cut_free.F.ok sc_cut_free (fun vs H Q E h => ?_) (fun cdv A outer s H vs Q E hr h => ?_)
  · obtain ⟨p, ns, rfl, _⟩ := h
    rfl
  · obtain ⟨p, ns, rfl, hs, hl, hb, k⟩ := h
    have nd := sc_cut_free.nd
    refine ⟨_, (pss_cons (ps_set (i := 1) nd rfl (Or.inl rfl) (pe_lst pa_nil))
    (pss_cons (ps_for PassesOwn.never rfl (pi_tup (pv 0)) (pg_name (i := 2) nd rfl (Or.inl rfl))
      (pss_one (ps_if (PW.pt (pw_and (pt_truth (pv 1) (fun _ => rfl)) (pw_and1 (pt_cmpR op_eq (pe_ix ix_list (pv 1) (pe_un un_neg pe_int) (fun _ _ => rfl)) (pe_op op_xor (pv 2) pe_int) (nomark _)))))
        (pss_one (ps_expr (pe_bm0 PySem.F.plainAttrs_list PySem.F.slot_list_pop PySem.F.type_list_pop mt_pop (pv 1))))
        (pss_one (ps_expr (pe_bm PySem.F.plainAttrs_list PySem.F.slot_list_append PySem.F.type_list_append mt_append (pv 1) (pa_cons (pv 2) pa_nil)))))))
    (pss_one (ps_ret (pe_callTy call_tuple_of (by rfl) T.ztuple (by decide +kernel) (pa_cons (pv 1) pa_nil)))))), ?_⟩
    refine ⟨(by show 0 ≤ sizeLine; decide), fun f hf => ?_⟩
    have s1 : Same H (upd H f (.lst [])) := same_new hf
    refine ⟨_, rfl, p, rfl, ⟨_, same_seqT s1 hs⟩, ?_⟩
    refine for_tup (K := K) (a := p) (xs := ns.map V.int) (fun i σ H' => ∃ v2, σ = [some (.ref p), some (.ref f), v2] ∧ Same H H' ∧ H' f = some (.lst ((Wd.freed (ns.take i)).map V.int)))
      ⟨_, rfl, s1, upd_same⟩ (fun i σ H' _ ⟨_, _, s, _⟩ => same_seqT s hs) ?_ ?_
    · rintro i y σ H' hi ⟨v2, rfl, s3, e1⟩
      obtain ⟨x, rfl, hx⟩ := ints_at hi
      have hil : i < ns.length := (List.getElem?_eq_some_iff.mp hx).1
      have hxm : x ∈ ns := List.mem_of_getElem? hx
      have ht : ns.take (i + 1) = ns.take i ++ [x] := by rw [List.take_add_one, hx]; rfl
      have hsz : (Wd.freed (ns.take i)).length ≤ 4000 := Nat.le_trans (Wd.len_freed _) (by rw [List.length_take]; omega)
      have grow : ¬ (Wd.freed (ns.take i)).getLast? = some (Wd.mate x) → Same H (upd H' f (.lst ((Wd.freed (ns.take i)).map V.int ++ [V.int x]))) ∧ (upd H' f (.lst ((Wd.freed (ns.take i)).map V.int ++ [V.int x]))) f = some (.lst ((Wd.freed (ns.take (i + 1))).map V.int)) := fun hn => by
        refine ⟨fun b o hb => ?_, ?_⟩
        · rw [upd_ne (ne_of_none hb hf)]
          exact s3 b o hb
        · rw [upd_same, ht, Wd.freed_snoc]
          unfold Wd.push
          rw [if_neg hn, List.map_append]
          rfl
      refine ⟨_, rfl, !((Wd.freed (ns.take i)).map V.int).isEmpty, .inl ⟨_, SqL.of e1, rfl⟩, ?_⟩
      refine ite2 (fun c => ?_) (fun c => ?_)
      · have hne : Wd.freed (ns.take i) ≠ [] := by simpa using c
        obtain ⟨a, ha, hat⟩ := atI_last hne
        refine ⟨_, rfl, _, rfl, f, _, _, _, rfl, rfl, SqL.of e1, hat, ?_⟩
        refine ⟨_, rfl, _, _, rfl, rfl, rfl, _, rfl, ?_⟩
        refine ite2 (fun c2 => ?_) (fun c2 => ?_)
        · have hax : a = Wd.mate x := by
            have c3 : decide (V.int a = V.int (Builtin.bitXor x 1)) = true := c2
            rw [xor_mate (hb x hxm).1 (hb x hxm).2] at c3
            simpa using c3
          refine ⟨_, rfl, .inl ⟨rfl, _, SqL.of e1⟩, f, _, V.int a, rfl, rfl, e1, ?_, ?_⟩
          · rw [List.length_map]
            exact ints_get (Wd.last_get.mp ha).2
          · refine ⟨_, rfl, fun b o hb => ?_, ?_⟩
            · rw [upd_ne (ne_of_none hb hf)]
              exact s3 b o hb
            · rw [upd_same, ht, Wd.freed_snoc]
              unfold Wd.push
              rw [if_pos (by rw [ha, hax]), List.map_dropLast]
        · have hax : ¬ a = Wd.mate x := by
            have c3 : ¬ decide (V.int a = V.int (Builtin.bitXor x 1)) = true := c2
            rw [xor_mate (hb x hxm).1 (hb x hxm).2] at c3
            simpa using c3
          refine ⟨_, rfl, .inl ⟨rfl, _, SqL.of e1⟩, _, rfl, f, _, _, rfl, rfl, e1, by rw [List.length_map]; exact smallB (by omega), ?_⟩
          exact ⟨_, rfl, grow (by rw [ha]; intro z; exact hax (Option.some.inj z))⟩
      · have hne : Wd.freed (ns.take i) = [] := by simpa using c
        refine ite2 (fun z => absurd z Bool.false_ne_true) (fun _ => ?_)
        refine ⟨_, rfl, .inl ⟨rfl, _, SqL.of e1⟩, _, rfl, f, _, _, rfl, rfl, e1, by rw [List.length_map]; exact smallB (by omega), ?_⟩
        exact ⟨_, rfl, grow (by rw [hne]; intro z; cases z)⟩
    · rintro σ H' ⟨v2, rfl, s2, h2⟩
      rw [List.length_map, List.take_length] at h2
      refine ⟨_, rfl, f, _, rfl, .inl ⟨SqL.of h2, fun q hq => ?_⟩⟩
      exact k q _ (s2.trans (same_new hq)) upd_same
def spUndo (K : PySem.W.Frag) : Sp := fun vs H Q _ => ∃ (p : Addr) (ns : List Int), vs = [.ref p] ∧ SqT K H p (ns.map V.int) ∧ ns.length ≤ 4000 ∧ (∀ x ∈ ns, 0 ≤ x ∧ x < 12) ∧
  ∀ q H', Same H H' → H' q = some (.tup ((Wd.undo ns).map V.int)) → Q (.ref q) H'
def rgI (n : Nat) : List Int := (List.range n).map fun (i : Nat) => (i : Int)
theorem rgV_rgI {n : Int} (h : 0 ≤ n) : rgV 0 n = (rgI n.toNat).map V.int := by
  unfold rgV rgI
  rw [List.map_map, Int.sub_zero]
  exact List.map_congr_left fun a _ => by show V.int (0 + (a : Nat)) = _; rw [Int.zero_add]; rfl
theorem rgI_len (n : Nat) : (rgI n).length = n := by unfold rgI; rw [List.length_map, List.length_range]
end
end Tt
set_option maxRecDepth 100000
set_option maxHeartbeats 4000000
namespace Tt
open PySem L2
def lenAt (i : Nat) : L2.St → Hp → Nat := fun σ H' => match σ[i]? with
  | some (some (V.ref f)) => (match H' f with
    | some (HO.lst xs) => 1000 - xs.length
    | _ => 0)
  | _ => 0
theorem lenAt_of {i : Nat} {σ : L2.St} {H : Hp} {f : Addr} {xs : List V} (h : σ[i]? = some (some (.ref f))) (e : H f = some (.lst xs)) : lenAt i σ H = 1000 - xs.length := by
  unfold lenAt
  rw [h]
  show (match H f with | some (HO.lst xs) => 1000 - xs.length | _ => 0) = _
  rw [e]
def lenOf (i : Nat) : L2.St → Hp → Nat := fun σ H' => match σ[i]? with
  | some (some (V.ref f)) => (match H' f with
    | some (HO.lst xs) => xs.length
    | _ => 0)
  | _ => 0
theorem lenOf_of {i : Nat} {σ : L2.St} {H : Hp} {f : Addr} {xs : List V} (h : σ[i]? = some (some (.ref f))) (e : H f = some (.lst xs)) : lenOf i σ H = xs.length := by
  unfold lenOf
  rw [h]
  show (match H f with | some (HO.lst xs) => xs.length | _ => 0) = _
  rw [e]
theorem upk {H : Hp} {p b : Addr} {o u : HO} (n : H p = none) (h : H b = some o) : (upd H p u) b = some o := by
  rw [upd_ne (ne_of_none h n)]
  exact h
theorem cut_to (xs : List V) {n : Nat} (h : n ≤ xs.length) : cutV xs none (some (n : Int)) = xs.take n := by
  unfold cutV
  have e : HT.sIx xs.length xs.length (some (n : Int)) = n := by rw [HT.sIx_nat]; omega
  have e0 : HT.sIx xs.length 0 none = 0 := rfl
  rw [e, e0]
  simp
theorem cut_from (xs : List V) {n : Nat} : cutV xs (some (n : Int)) none = xs.drop n := by
  unfold cutV
  have e : HT.sIx xs.length 0 (some (n : Int)) = min n xs.length := HT.sIx_nat ..
  have e0 : HT.sIx xs.length xs.length none = xs.length := rfl
  rw [e, e0, List.take_of_length_le (by rw [List.length_drop]; omega)]
  by_cases h : n ≤ xs.length
  · rw [Nat.min_eq_left h]
  · rw [Nat.min_eq_right (by omega), List.drop_eq_nil_of_le (Nat.le_refl _), List.drop_eq_nil_of_le (by omega)]
section
variable {P : Program} {w : World} {K : PySem.W.Frag} {mg : Str → Option Value} {base : Heap}
def Lt (e : Int) (ns : List Int) : Prop := ∀ x ∈ ns, 0 ≤ x ∧ x < e
theorem Lt.app {e : Int} {a b : List Int} (ha : Lt e a) (hb : Lt e b) : Lt e (a ++ b) := fun x hx => (List.mem_append.mp hx).elim (ha x) (hb x)
theorem Lt.take {e : Int} {a : List Int} (ha : Lt e a) (n : Nat) : Lt e (a.take n) := fun x hx => ha x (List.mem_of_mem_take hx)
theorem Lt.drop {e : Int} {a : List Int} (ha : Lt e a) (n : Nat) : Lt e (a.drop n) := fun x hx => ha x (List.mem_of_mem_drop hx)
theorem Lt.undo {e : Int} {a : List Int} (ev : e % 2 = 0) (ha : Lt e a) : Lt e (Wd.undo a) := fun x hx => by
  unfold Wd.undo at hx
  obtain ⟨y, hy, rfl⟩ := List.mem_map.mp hx
  have h := ha y (by simpa using hy)
  have hb := Wd.mate_range (n := e / 2) h.1 (by omega)
  exact ⟨hb.1, by omega⟩
end
end Tt
set_option maxRecDepth 100000
set_option maxHeartbeats 4000000
namespace Tt
open PySem L2
open LamX (GivesToS CodeO)
def TTc (K : PySem.W.Frag) (RE : Addr) : (XK → Hp → VK → Prop) → Hp → VK → Prop := fun tl H Q =>
  tl (fun cls d H' => PySem.W.exmOne K cls (.ref RE) = some true ∧ ∀ a, H' a = none → Q (.ref a) (upd H' a (exh cls d a))) H (fun _ H' => Q .non H')
theorem caught_gives {X : Cx} {q : Str} {cdg : Value} {g RE : Addr} (hme : X.mg "RoundError" = some (.ref RE)) :
    GivesToS X N_l_caught "_law_caught" (defScope s_l_caught) g cdg (defBody s_l_caught) "work" q (TTc X.K RE) := by
  intro f c' s H Q tl act hc h
  have nd := sc_l_caught.nd
  refine ⟨_, pss_cons (ps_set (i := 1) nd rfl (Or.inl rfl) pe_non)
    (pss_cons (ps_try_keep (X := (cxOf C8.CX0 X.prog X.w X.K X.mg X.base N_l_caught "_law_caught" (defScope s_l_caught) g cdg X.A X.stack s H C8.E0).nox) (c := .ref RE) (i := 2)
      (tb := fun W D σ H => ∃ Ew : L2.St → XK, (∀ τ cls d H', Ew τ cls d H' → W cls d τ H') ∧ σ[0]? = some (some (.ref f)) ∧ H c' = some (CodeO c' q) ∧ tl (Ew σ) H (fun _ H' => D.nx σ H'))
      rfl rfl rfl nd rfl rfl ⟨rfl, by decide, .inl hme⟩ LamX.takes0 (fun W pn xe tk _ => ?_) (fun a oe cls d pn _ _ => pss_one (ps_set (i := 1) nd rfl (Or.inl rfl) (pv 2))))
    (pss_one (ps_ret (pv 1)))), ?_⟩
  · refine ⟨fun pins s' σ H' D I h' => ?_⟩
    obtain ⟨Ew, hW, h1, h2, h3⟩ := h'
    exact (pss_one (ps_expr (act W pn xe Ew _ _ tk hW))).run pins s' σ H' D I ⟨h1, h2, h3⟩
  · refine ⟨fun τ cls d H' => τ = [some (.ref f), some .non, none] ∧ PySem.W.exmOne X.K cls (.ref RE) = some true ∧ ∀ a, H' a = none → Q (.ref a) (upd H' a (exh cls d a)), ?_, rfl, hc, ?_⟩
    · rintro τ cls d H' ⟨rfl, h1, h2⟩
      refine ⟨true, h1, fun _ a ha => ?_, fun z => nomatch z⟩
      exact ⟨_, rfl, ha, _, rfl, h2 a ha⟩
    · have e1 : (fun (cls : Value) (d : Option Addr) (H' : Hp) => ([some (.ref f), some .non, none] : L2.St) = [some (.ref f), some .non, none] ∧ PySem.W.exmOne X.K cls (.ref RE) = some true ∧ ∀ a, H' a = none → Q (.ref a) (upd H' a (exh cls d a))) =
          fun cls d H' => PySem.W.exmOne X.K cls (.ref RE) = some true ∧ ∀ a, H' a = none → Q (.ref a) (upd H' a (exh cls d a)) :=
        funext fun cls => funext fun d => funext fun H' => propext ⟨fun z => z.2, fun z => ⟨rfl, z⟩⟩
      have e2 : (fun (_ : V) (H' : Hp) => ∃ v, ([some (.ref f), some .non, none] : L2.St)[1]? = some (some v) ∧ Q v H') = fun _ H' => Q .non H' :=
        funext fun _ => funext fun H' => propext ⟨fun ⟨v, h1, h2⟩ => by cases h1; exact h2, fun z => ⟨_, rfl, z⟩⟩
      have h' : tl (fun (cls : Value) (d : Option Addr) (H' : Hp) => ([some (.ref f), some .non, none] : L2.St) = [some (.ref f), some .non, none] ∧ PySem.W.exmOne X.K cls (.ref RE) = some true ∧ ∀ a, H' a = none → Q (.ref a) (upd H' a (exh cls d a))) H
          (fun (_ : V) (H' : Hp) => ∃ v, ([some (.ref f), some .non, none] : L2.St)[1]? = some (some v) ∧ Q v H') := by
        rw [e1, e2]
        exact h
      exact h'
end Tt
set_option maxRecDepth 100000
set_option maxHeartbeats 4000000
namespace Tt
open PySem L2
section
variable {P : Program} {w : World} {K : PySem.W.Frag} {mg : Str → Option Value} {base : Heap}
theorem passF {P : Program} {w : World} {X : Cx} : Passes (L2.CX P w) X (fun _ _ _ => False) := fun _ _ _ _ _ _ _ h => by
  obtain ⟨_, _, _, _, _, _, _, _, _, _, _, _, z⟩ := h
  exact z.elim
def inB (lo hi : Int) : V → Bool
  | .int i => decide (lo ≤ i) && decide (i ≤ hi)
  | _ => false
def isI : V → Bool
  | .int _ => true
  | _ => false
theorem TyB.isI {H : Hp} {x : V} {S : String} (t : TyB K H x S) : decide (S = "int") = isI x := by cases t <;> rfl
theorem TyB.isT {H : Hp} {x : V} {S : String} (t : TyB K H x S) : (∃ a xs, x = .ref a ∧ SqT K H a xs ∧ S = "tuple") ∨ decide (S = "tuple") = false := by
  cases t with
  | tup h => exact .inl ⟨_, _, rfl, h, rfl⟩
  | _ => exact .inr rfl
def spNumber (K : PySem.W.Frag) : Sp := fun vs H Q _ => ∃ (x : V) (S : String), vs = [x] ∧ TyB K H x S ∧ Q (.bl (isI x)) H
theorem ok_is_number (T : Txt K mg) : FnOk P w K mg base CX0 1 T.is_number.a T.is_number.fd ["thing"] (spNumber K) := by
  refine T.is_number.F.ok sc_is_number (fun vs H Q E h => ?_) (fun cdv A outer s H vs Q E hr h => ?_)
  · obtain ⟨x, S, rfl, _⟩ := h
    rfl
  · obtain ⟨x, S, rfl, t, k⟩ := h
    refine ⟨_, (pss_one (ps_ret (pe_cmpR op_isTyB (pe_callTy call_type1 (by rfl) T.ztype (by decide +kernel) (pa_cons (pv 0) pa_nil)) (pe_bltn (v := .ty "int") (by rfl) T.zint (by decide +kernel) rfl) (nomark _)))), ?_⟩
    refine ⟨x, rfl, x, S, rfl, t, _, _, rfl, rfl, ?_⟩
    rw [← TyB.isI t] at k
    exact k
def spWithin (K : PySem.W.Frag) : Sp := fun vs H Q _ => ∃ (x : V) (lo hi : Int) (S : String), vs = [x, .int lo, .int hi] ∧ TyB K H x S ∧ Q (.bl (inB lo hi x)) H
theorem ok_is_within (T : Txt K mg) : FnOk P w K mg base CX0 2 T.is_within.a T.is_within.fd ["thing", "low", "high"] (spWithin K) := by
  refine T.is_within.F.ok sc_is_within (fun vs H Q E h => ?_) (fun cdv A outer s H vs Q E hr h => ?_)
  · obtain ⟨x, lo, hi, S, rfl, _⟩ := h
    rfl
  · obtain ⟨x, lo, hi, S, rfl, t, k⟩ := h
    refine ⟨_, (pss_one (ps_ret (pe_and (pe_call (ok_is_number T) (hr.mono (by decide)) (by rfl) T.is_number.g T.is_number.k T.is_number.b .nil pass0 (pa_cons (pv 0) pa_nil)) (pe_one (pe_chain op_le op_le (pv 1) (pv 0) (pv 2)))))), ?_⟩
    refine ⟨x, rfl, x, S, rfl, t, _, rfl, ?_⟩
    cases x with
    | int i =>
      refine iteT ⟨_, rfl, _, rfl, _, _, rfl, rfl, _, rfl, ?_⟩
      have k' : Q (.bl (decide (lo ≤ i) && decide (i ≤ hi))) H := k
      refine ite2 (fun c => ?_) (fun c => ?_)
      · rw [c, Bool.true_and] at k'
        exact ⟨_, rfl, _, _, rfl, rfl, k'⟩
      · have c' : decide (lo ≤ i) = false := by simpa using c
        rw [c', Bool.false_and] at k'
        exact k'
    | _ => exact iteF k
def spTuple (K : PySem.W.Frag) : Sp := fun vs H Q _ => ∃ (x : V) (S : String), vs = [x] ∧ TyB K H x S ∧ Q (.bl (decide (S = "tuple"))) H
theorem ok_is_tuple (T : Txt K mg) : FnOk P w K mg base CX0 1 T.is_tuple.a T.is_tuple.fd ["thing"] (spTuple K) := by
  refine T.is_tuple.F.ok sc_is_tuple (fun vs H Q E h => ?_) (fun cdv A outer s H vs Q E hr h => ?_)
  · obtain ⟨x, S, rfl, _⟩ := h
    rfl
  · obtain ⟨x, S, rfl, t, k⟩ := h
    refine ⟨_, (pss_one (ps_ret (pe_cmpR op_isTyB (pe_callTy call_type1 (by rfl) T.ztype (by decide +kernel) (pa_cons (pv 0) pa_nil)) (pe_bltn (v := .ty "tuple") (by rfl) T.ztuple (by decide +kernel) rfl) (nomark _)))), ?_⟩
    exact ⟨x, rfl, x, S, rfl, t, _, _, rfl, rfl, k⟩
def spList (K : PySem.W.Frag) : Sp := fun vs H Q _ => ∃ (x : V) (S : String), vs = [x] ∧ TyB K H x S ∧ Q (.bl (decide (S = "list") || decide (S = "tuple"))) H
theorem ok_is_list (T : Txt K mg) : FnOk P w K mg base CX0 2 T.is_list.a T.is_list.fd ["thing"] (spList K) := by
  refine T.is_list.F.ok sc_is_list (fun vs H Q E h => ?_) (fun cdv A outer s H vs Q E hr h => ?_)
  · obtain ⟨x, S, rfl, _⟩ := h
    rfl
  · obtain ⟨x, S, rfl, t, k⟩ := h
    refine ⟨_, (pss_one (ps_ret (pe_or (pe_cmpR op_isTyB (pe_callTy call_type1 (by rfl) T.ztype (by decide +kernel) (pa_cons (pv 0) pa_nil)) (pe_bltn (v := .ty "list") (by rfl) T.zlist (by decide +kernel) rfl) (nomark _)) (pe_one (pe_call (ok_is_tuple T) (hr.mono (by decide)) (by rfl) T.is_tuple.g T.is_tuple.k T.is_tuple.b .nil pass0 (pa_cons (pv 0) pa_nil)))))), ?_⟩
    refine ⟨x, rfl, x, S, rfl, t, _, _, rfl, rfl, _, rfl, ?_⟩
    refine ite2 (fun c => ?_) (fun c => ?_)
    · rw [c] at k
      exact k
    · have c' : decide (S = "list") = false := by simpa using c
      rw [c', Bool.false_or] at k
      exact ⟨x, rfl, x, S, rfl, t, k⟩
def skF (r q : Addr) (n : Int) : List (Str × V) := [("row", .ref r), ("bands", .int n), ("places", .ref q)]
def places (row : List Int) : List Int := (List.range row.length).map fun (e : Nat) => (((row.idxOf (e : Int) : Nat)) : Int)
def SkAt (T : Txt K mg) (H : Hp) (p : Addr) (row : List Int) : Prop := ∃ dx r q, H p = some (.ins T.Skin.C dx (skF r q (row.length / 2 : Nat))) ∧ FzT H r (row.map V.int) ∧ FzT H q ((places row).map V.int)
theorem FzT.same {H H' : Hp} {a : Addr} {xs : List V} (h : FzT H a xs) (s : Same H H') : FzT H' a xs := by
  obtain ⟨ob, h1, h2⟩ := h
  exact ⟨ob, s _ _ h1, h2⟩
theorem FzT.kp {D : Dw} {H H' : Hp} {a : Addr} {xs : List V} (h : FzT H a xs) (dr : DrOk D H) (k : Kp D H H') : FzT H' a xs := by
  obtain ⟨ob, h1, h2⟩ := h
  obtain ⟨ls, cs, rr, t, d⟩ := dr
  exact ⟨ob, k _ _ h1 (d.dne h1 fun _ z => nomatch z) (d.lne h1 fun _ z => nomatch z), h2⟩
theorem SkAt.same {T : Txt K mg} {H H' : Hp} {p : Addr} {row : List Int} (h : SkAt T H p row) (s : Same H H') : SkAt T H' p row := by
  obtain ⟨dx, r, q, h1, h2, h3⟩ := h
  exact ⟨dx, r, q, s _ _ h1, FzT.same h2 s, FzT.same h3 s⟩
theorem SkAt.kp {T : Txt K mg} {D : Dw} {H H' : Hp} {p : Addr} {row : List Int} (h : SkAt T H p row) (dr : DrOk D H) (k : Kp D H H') : SkAt T H' p row := by
  obtain ⟨dx, r, q, h1, h2, h3⟩ := h
  obtain ⟨ls, cs, rr, t, d⟩ := id dr
  exact ⟨dx, r, q, k _ _ h1 (d.dne h1 fun _ z => nomatch z) (d.lne h1 fun _ z => nomatch z), FzT.kp h2 dr k, FzT.kp h3 dr k⟩
theorem skF_row (r q : Addr) (n : Int) : (skF r q n).lookup ("row" : Str) = some (V.ref r) := rfl
theorem skF_bands (r q : Addr) (n : Int) : (skF r q n).lookup ("bands" : Str) = some (V.int n) := rfl
theorem nRow (T : Txt K mg) : NoAttr K T.Skin.C "row" := T.Skin.n _ (by decide)
theorem nBands (T : Txt K mg) : NoAttr K T.Skin.C "bands" := T.Skin.n _ (by decide)
theorem nPlaces (T : Txt K mg) : NoAttr K T.Skin.C "places" := T.Skin.n _ (by decide)
inductive SkV (T : Txt K mg) (H : Hp) : V → Bool → Prop where
  | skin {p dx : Addr} {fs : List (Str × V)} (h : H p = some (.ins T.Skin.C dx fs)) : SkV T H (.ref p) true
  | ty {x : V} {S : String} (t : TyB K H x S) (h : PySem.W.kitOne K (.type S) (.ref T.Skin.C) = some false) : SkV T H x false
theorem TyB.x {H : Hp} {x : V} {S : String} (t : TyB K H x S) : TyX K H x (.type S) := by
  cases t with
  | non => exact .base .non
  | bl b => exact .base (.bl b)
  | int i => exact .base (.int i)
  | str x => exact .base (.str x)
  | byt b => exact .byt b
  | lst h =>
    rcases h with (h | ⟨o, h⟩) | ⟨o, its, n, h1, h2, _⟩
    · exact .base (.lst h)
    · exact .base (.frz h)
    · exact .kList h1 h2
  | tup h =>
    rcases h with (h | ⟨o, h⟩) | ⟨o, its, n, h1, h2, _⟩
    · exact .base (.tup h)
    · exact .fTuple h
    · exact .kTuple h1 h2
  | dK h => exact .base (.dK h)
theorem SkAt.v {T : Txt K mg} {H : Hp} {p : Addr} {row : List Int} (h : SkAt T H p row) : SkV T H (.ref p) true := by
  obtain ⟨dx, r, q, h1, _⟩ := h
  exact .skin h1
theorem SkV.isi {T : Txt K mg} {H : Hp} {v : V} {b : Bool} (h : SkV T H v b) : ∃ t, TyX K H v t ∧ PySem.W.kitOne K t (.ref T.Skin.C) = some b := by
  cases h with
  | skin h => exact ⟨_, .base (.ins h T.Skin.c T.Skin.ha T.Skin.hn T.Skin.ht T.Skin.hm), T.kSS⟩
  | ty t h => exact ⟨_, Tt.TyB.x t, h⟩
def SkErr (T : Txt K mg) (H : Hp) (E : XK) : Prop := ∀ d H', Same H H' → H' d = some (.xd [("part", .non)]) → E (.ref T.BadSkin.C) (some d) H'
def spExI (T : Txt K mg) : Sp := fun vs H Q _ => ∃ (a : Addr) (v : V), vs = [.ref a, v] ∧ H a = some (exo a T.BadSkin.C none) ∧
  ∀ dx, H dx = none → dx ≠ a → Q .non (upd (upd H dx (exd dx [("part", v)])) a (exo a T.BadSkin.C (some dx)))
theorem ok_BadSkin_init (T : Txt K mg) : FnOk P w K mg base CX0 1 T.BadSkin.fI T.BadSkin.fd ["self", "part"] (spExI T) := by
  refine T.BadSkin.F.ok sc_BadSkin_init (fun vs H Q E h => ?_) (fun cdv A outer s H vs Q E hr h => ?_)
  · obtain ⟨a, v, rfl, _⟩ := h
    rfl
  · obtain ⟨a, v, rfl, ha, k⟩ := h
    refine ⟨_, (pss_one (ps_ost (pv 0) (pv 1))), ?_⟩
    exact ⟨v, rfl, _, rfl, a, T.BadSkin.C, rfl, T.BadSkin.o, T.BadSkin.n, .inl ⟨ha, fun dx n ne => k dx n ne⟩⟩
def spCheckSkin (T : Txt K mg) : Sp := fun vs H Q E => ∃ (v : V) (b : Bool), vs = [v] ∧ SkV T H v b ∧ (b = true → Q .non H) ∧ (b = false → SkErr T H E)
theorem ok_check_skin (T : Txt K mg) : FnOk P w K mg base (L2.CX P w) 3 T.check_skin.a T.check_skin.fd ["skin"] (spCheckSkin T) := by
  refine T.check_skin.F.okX sc_check_skin (fun vs H Q E h => ?_) (fun cdv A outer s H vs Q E hr h => ?_)
  · obtain ⟨v, b, rfl, _⟩ := h
    rfl
  · obtain ⟨v, b, rfl, hv, kT, kF⟩ := h
    refine ⟨_, (pss_one (ps_if (pt_not (pt_val (pe_callB call_isA (by rfl) T.zisinstance (by decide +kernel) (pa_cons (pv 0) (pa_cons (pe_glob (v := .ref T.Skin.C) rfl T.Skin.g rfl) pa_nil)))))
      (pss_one (ps_raise rfl (takes_of rfl rfl rfl rfl) (pmk_oex T.BadSkin.o T.BadSkin.i T.BadSkin.t (ok_BadSkin_init T) (hr.mono (by decide)) T.BadSkin.b .nil pass0 (by rfl) T.BadSkin.g (pa_cons pe_non pa_nil))))
      pss_nil)), ?_⟩
    obtain ⟨t, ht, hk⟩ := hv.isi
    refine ⟨v, rfl, .inr ⟨v, _, t, _, b, rfl, .own T.Skin.C, ht, hk, b, rfl, ?_⟩⟩
    cases b with
    | true => exact iteF (kT rfl)
    | false =>
      refine iteT ⟨(by show 1 ≤ 1000; decide), fun a ha => ?_⟩
      refine ⟨a, .non, rfl, upd_same, fun dx ndx ne => ⟨rfl, dx, ([("part", V.non)] : List (Str × V)), upd_same, ?_, ?_, ?_⟩⟩
      · rw [upd_ne ne, upd_same]
      · rw [upd_ne ne] at ndx
        exact ndx
      · have ndx' : H dx = none := by rw [upd_ne ne] at ndx; exact ndx
        refine kF rfl dx _ (fun b o hb => ?_) upd_same
        have nb : b ≠ a := ne_of_none hb ha
        have nb2 : b ≠ dx := ne_of_none hb ndx'
        rw [upd_ne nb2, del_ne nb, upd_ne nb, upd_ne nb2, upd_ne nb]
        exact hb
end
end Tt
set_option maxRecDepth 100000
set_option maxHeartbeats 4000000
namespace Tt
open PySem L2
section
variable {P : Program} {w : World} {K : PySem.W.Frag} {mg : Str → Option Value} {base : Heap}
theorem eqv_ints : ∀ a b : List Int, PyData.eqv (.list (a.map PyData.int)) (.list (b.map PyData.int)) = decide (a = b)
  | [], [] => rfl
  | [], _ :: _ => by simp [PyData.eqv] <;> rfl
  | _ :: _, [] => by simp [PyData.eqv] <;> rfl
  | x :: a, y :: b => by
    have h := eqv_ints a b
    simp [PyData.eqv, PyData.eqvAll] at h ⊢
    rw [h]
    rfl
theorem perm_sorted {n : Nat} {ns' ns : List Int} (h : ns'.Perm ns) (p : ns'.Pairwise (· ≤ ·)) (q : ns.Perm (rgI n)) : ns' = rgI n := by
  refine List.Perm.eq_of_pairwise (fun a b _ _ h1 h2 => Int.le_antisymm h1 h2) p ?_ (h.trans q)
  unfold rgI
  rw [List.pairwise_map]
  exact List.pairwise_lt_range.imp fun {a b} h => by show (a : Int) ≤ b; omega
theorem perm_len {n : Nat} {row : List Int} (h : row.Perm (rgI n)) : row.length = n := by rw [h.length_eq, rgI_len]
theorem perm_mem {n : Nat} {row : List Int} (h : row.Perm (rgI n)) {x : Int} : x ∈ row ↔ 0 ≤ x ∧ x < n := by
  rw [h.mem_iff]
  unfold rgI
  rw [List.mem_map]
  constructor
  · rintro ⟨a, ha, rfl⟩
    have := List.mem_range.mp ha
    omega
  · rintro ⟨h0, h1⟩
    exact ⟨x.toNat, List.mem_range.mpr (by omega), by omega⟩
theorem turn_perm (row : List Int) (s : Nat) : (row.drop s ++ row.take s).Perm row := by
  have h : (row.drop s ++ row.take s).Perm (row.take s ++ row.drop s) := List.perm_append_comm
  rw [List.take_append_drop] at h
  exact h
theorem idx_at {row : List Int} {x : Int} (h : x ∈ row) : row[row.idxOf x]? = some x ∧ ∀ m, m < row.idxOf x → row[m]? ≠ some x := by
  have hl : row.idxOf x < row.length := List.idxOf_lt_length_of_mem h
  refine ⟨by rw [List.getElem?_eq_getElem hl, List.getElem_idxOf hl], fun m hm e => ?_⟩
  obtain ⟨h1, h2⟩ := List.getElem?_eq_some_iff.mp e
  exact absurd h2 (by simpa using List.not_of_lt_findIdx (xs := row) (p := (· == x)) (i := m) hm)
theorem slT_from {xs : List V} {a : Addr} {H : Hp} {Q : VK} {n : Nat} (hx : 0 < xs.length) (h : SqT K H a xs) (q0 : n = 0 → Q (.ref a) H) (q1 : n ≠ 0 → ∀ p, H p = none → Q (.ref p) (upd H p (.tup (xs.drop n)))) : rSlA K (.ref a) (some (n : Int)) none H Q := by
  refine ⟨a, xs, rfl, h, fun z => q0 ?_, fun nz p hp => ?_⟩
  · rw [HT.sIx_nat] at z
    omega
  · rw [cut_from]
    refine q1 (fun e => nz ?_) p hp
    subst e
    exact ⟨by rw [HT.sIx_nat]; omega, rfl⟩
theorem slT_to {xs : List V} {a : Addr} {H : Hp} {Q : VK} {n : Nat} (hx : n < xs.length) (h : SqT K H a xs) (q1 : ∀ p, H p = none → Q (.ref p) (upd H p (.tup (xs.take n)))) : rSlA K (.ref a) none (some (n : Int)) H Q := by
  refine ⟨a, xs, rfl, h, fun z => ?_, fun _ p hp => ?_⟩
  · rw [HT.sIx_nat] at z
    exfalso
    omega
  · rw [cut_to _ (by omega)]
    exact q1 p hp
theorem noPart_i {σ : L2.St} {H : Hp} {Q : Option Int → Hp → Prop} (h : Q none H) : tNoPart σ H Q := h
def tTurned (K : PySem.W.Frag) (i j : Nat) : TE := tOp (rCatF K) (tCB (rTupF K) (tCons (tSl (rSlA K) (tVar i) (tPart (tVar j)) tNoPart) tNil)) (tCB (rTupF K) (tCons (tSl (rSlA K) (tVar i) tNoPart (tPart (tVar j))) tNil))
theorem row_turned {σ : L2.St} {H : Hp} {Q : VK} {t : Addr} {i j st : Nat} {row : List Int} (h1 : σ[i]? = some (some (.ref t))) (h2 : σ[j]? = some (some (.int (st : Nat)))) (ht : FzT H t (row.map V.int)) (hst : st < row.length) (hl : row.length ≤ 12)
    (k : ∀ (r : Addr) (H4 : Hp), Same H H4 → FzT H4 r ((row.drop st ++ row.take st).map V.int) → Q (.ref r) H4) : tTurned K i j σ H Q := by
  have hx : 0 < (row.map V.int).length := by rw [List.length_map]; omega
  have hd : ((row.drop st).map V.int) ≠ [] := fun z => by
    have := congrArg List.length z
    rw [List.length_map, List.length_drop] at this
    simp at this
    omega
  have hz : ((row.drop st).map V.int).length + ((row.take st).map V.int).length ≤ sizeLine := by
    rw [List.length_map, List.length_map, List.length_drop, List.length_take]
    have : (12 : Nat) ≤ sizeLine := by decide
    omega
  have step : ∀ (a : Addr) (H2 : Hp), Same H H2 → SqT K H2 a ((row.drop st).map V.int) → (st = 0 → a = t) →
      tCB (rTupF K) (tCons (tSl (rSlA K) (tVar i) tNoPart (tPart (tVar j))) tNil) σ H2 fun y H3 => rCatF K (.ref a) y H3 Q := by
    intro a H2 s2 ha hat
    refine ⟨_, h1, noPart_i ⟨_, h2, st, rfl, ?_⟩⟩
    refine slT_to (K := K) (by rw [List.length_map]; exact hst) (FzT.same ht s2).sq (fun b hb => ?_)
    have e1 : (upd H2 b (.tup ((row.map V.int).take st))) b = some (.tup ((row.take st).map V.int)) := by rw [upd_same, List.map_take]
    have s3 : Same H2 (upd H2 b (.tup ((row.map V.int).take st))) := same_new hb
    refine ⟨b, _, rfl, .inr ⟨SqT.of e1, ?_⟩⟩
    refine ⟨a, b, _, _, rfl, rfl, same_seqT s3 ha, SqT.of e1, hd, hz, fun z => ?_, fun z r ob hr hob => ?_⟩
    · have z0 : st = 0 := by
        have := congrArg List.length z
        rw [List.length_map, List.length_take, List.length_nil] at this
        omega
      subst z0
      rw [hat rfl]
      refine k t _ (s2.trans s3) ?_
      rw [show List.drop 0 row ++ List.take 0 row = row by simp]
      exact FzT.same (FzT.same ht s2) s3
    · refine k r _ ((s2.trans s3).trans (same_new hr)) ?_
      rw [List.map_append]
      exact FzT.new hob
  refine ⟨_, h1, _, h2, st, rfl, noPart_i ?_⟩
  refine slT_from (K := K) hx ht.sq (fun z => ?_) (fun nz a ha => ?_)
  · refine ⟨t, _, rfl, .inr ⟨ht.sq, ?_⟩⟩
    refine step t H (fun _ _ h => h) ?_ (fun _ => rfl)
    rw [z, List.drop_zero]
    exact ht.sq
  · have e1 : (upd H a (.tup ((row.map V.int).drop st))) a = some (.tup ((row.drop st).map V.int)) := by rw [upd_same, List.map_drop]
    refine ⟨a, _, rfl, .inr ⟨SqT.of e1, ?_⟩⟩
    refine step a _ (same_new ha) (SqT.of e1) (fun z => absurd z nz)
theorem FzT.ne {H : Hp} {a p : Addr} {xs : List V} {u o : HO} (h : FzT H a xs) (e : H p = some u) (n : ∀ ob x, u ≠ .frz ob x) : FzT (upd H p o) a xs := by
  obtain ⟨ob, h1, h2⟩ := h
  refine ⟨ob, ?_, h2⟩
  rw [upd_ne]
  · exact h1
  · intro z
    subst z
    rw [e] at h1
    exact n _ _ (Option.some.inj h1)
theorem place_at {row : List Int} {i : Nat} (h : i < row.length) : (places row)[i]? = some (((row.idxOf (i : Int) : Nat)) : Int) := by
  unfold places
  rw [List.getElem?_map, List.getElem?_range h]
  rfl
end
end Tt
set_option maxRecDepth 100000
set_option maxHeartbeats 4000000
namespace Tt
open PySem L2
section
variable {P : Program} {w : World} {K : PySem.W.Frag} {mg : Str → Option Value} {base : Heap}
theorem TyB.same {H H' : Hp} {x : V} {S : String} (t : TyB K H x S) (s : Same H H') : TyB K H' x S := by
  cases t with
  | non => exact .non
  | bl b => exact .bl b
  | int i => exact .int i
  | str x => exact .str x
  | byt b => exact .byt b
  | @lst a xs h =>
    have h' : SqL K H' a xs := by
      rcases h with (h | ⟨o, h⟩) | h
      · exact .inl (.inl (s _ _ h))
      · exact .inl (.inr ⟨o, s _ _ h⟩)
      · exact .inr h
    exact .lst h'
  | tup h => exact .tup (same_seqT s h)
  | dK h => exact .dK (s _ _ h)
def hiE (row : List Int) : Int := 2 * ((row.length / 2 : Nat) : Int) - 1
def spIsEnd (T : Txt K mg) : Sp := fun vs H Q _ => ∃ (p : Addr) (row : List Int) (x : V) (S : String), vs = [.ref p, x] ∧ SkAt T H p row ∧ row.length ≤ 12 ∧ TyB K H x S ∧ Q (.bl (inB 0 (hiE row) x)) H
theorem ok_is_end (T : Txt K mg) : FnOk P w K mg base CX0 3 T.is_end.a T.is_end.fd ["skin", "thing"] (spIsEnd T) := by
  refine T.is_end.F.ok sc_is_end (fun vs H Q E h => ?_) (fun cdv A outer s H vs Q E hr h => ?_)
  · obtain ⟨p, row, x, S, rfl, _⟩ := h
    rfl
  · obtain ⟨p, row, x, S, rfl, ⟨dx, r, q, h1, h2, h3⟩, hl, t, k⟩ := h
    refine ⟨_, (pss_one (ps_ret (pe_call (ok_is_within T) (hr.mono (by decide)) (by rfl) T.is_within.g T.is_within.k T.is_within.b .nil pass0 (pa_cons (pv 1) (pa_cons pe_int (pa_cons (pe_op op_sub (pe_op op_mul pe_int (pe_fld (pv 0) rfl)) pe_int) pa_nil)))))), ?_⟩
    refine ⟨x, rfl, _, rfl, p, T.Skin.C, dx, _, _, rfl, h1, T.Skin.c, nBands T, skF_bands .., _, _, rfl, rfl, .inl ⟨by decide, by decide⟩, _, _, rfl, rfl, ?_⟩
    exact ⟨x, 0, hiE row, S, rfl, t, k⟩
inductive WV (K : PySem.W.Frag) (m : Int) (row : List Int) (H : Hp) : V → Bool → Prop where
  | tup {p : Addr} {xs : List V} (h : SqT K H p xs) (n : xs.length < 1000) (ty : ∀ y ∈ xs, ∃ S, TyB K H y S) : WV K m row H (.ref p) (decide ((xs.length : Int) ≤ m) && xs.all (inB 0 (hiE row)))
  | non {x : V} {S : String} (h : TyB K H x S) (n : decide (S = "tuple") = false) : WV K m row H x false
theorem WV.same {m : Int} {row : List Int} {H H' : Hp} {x : V} {b : Bool} (h : WV K m row H x b) (s : Same H H') : WV K m row H' x b := by
  cases h with
  | tup h n ty => exact .tup (same_seqT s h) n fun y hy => (ty y hy).elim fun S t => ⟨S, TyB.same t s⟩
  | non h n => exact .non (TyB.same h s) n
def spAny (T : Txt K mg) : Sp := fun vs H Q _ => ∃ (p : Addr) (row : List Int) (t : Addr) (xs : List V), vs = [.ref p, .ref t] ∧ SkAt T H p row ∧ row.length ≤ 12 ∧ SqT K H t xs ∧ xs.length < 1000 ∧ (∀ y ∈ xs, ∃ S, TyB K H y S) ∧ ∀ H', Same H H' → Q (.bl (xs.all (inB 0 (hiE row)))) H'
theorem ok_is_any_word (T : Txt K mg) : FnOk P w K mg base CX0 4 T.is_any_word.a T.is_any_word.fd ["skin", "thing"] (spAny T) := by
  refine T.is_any_word.F.ok sc_is_any_word (fun vs H Q E h => ?_) (fun cdv A outer s H vs Q E hr h => ?_)
  · obtain ⟨p, row, t, xs, rfl, _⟩ := h
    rfl
  · obtain ⟨p, row, t, xs, rfl, hs, hl, h, n, ty, k⟩ := h
    have nd := sc_is_any_word.nd
    refine ⟨_, (pss_one (ps_ret (pe_and (pe_call (ok_is_tuple T) (hr.mono (by decide)) (by rfl) T.is_tuple.g T.is_tuple.k T.is_tuple.b .nil pass0 (pa_cons (pv 1) pa_nil)) (pe_one (pe_callB (cr_all rfl) (by rfl) T.zall (by decide +kernel) (pa_cons (pe_lc (own := [("letter", 2)]) (g := gName 2) rfl nd (pi_tup (pv 1)) (blkOk_by (own := [("letter", 2)]) (N := N_is_any_word) (sc := defScope s_is_any_word) (by decide +kernel)) (fun _ _ _ _ _ => pg_name (i := 2) nd rfl (Or.inl rfl)) (fun _ _ _ _ _ => pts_nil) (fun _ _ _ _ _ => (pe_call (ok_is_end T) (hr.mono (by decide)) (by rfl) T.is_end.g T.is_end.k T.is_end.b .nil pass0 (pa_cons (pv 0) (pa_cons (pv 2) pa_nil))))) pa_nil)))))), ?_⟩
    refine ⟨_, rfl, _, _, rfl, .tup h, _, rfl, iteT ?_⟩
    refine ⟨_, rfl, t, rfl, ⟨_, h⟩, fun D1 hD1 => lc_tup (K := K) (a := t) (xs := xs) (fun i H' => H' D1 = some (.lst (((xs.take i).map (inB 0 (hiE row))).map V.bl)) ∧ Same H H')
      ⟨upd_same, same_new hD1⟩ (fun i H' _ z => same_seqT z.2 h) ?_ ?_⟩
    · rintro i y H' hi ⟨h1, s2⟩
      have hil : i < xs.length := (List.getElem?_eq_some_iff.mp hi).1
      obtain ⟨S, ty'⟩ := ty y (List.mem_of_getElem? hi)
      refine ⟨rfl, yes_t ?_⟩
      refine ⟨_, rfl, _, rfl, p, row, y, S, rfl, hs.same s2, hl, TyB.same ty' s2, ?_⟩
      refine ⟨_, h1, ?_, ?_⟩
      · rw [List.length_map, List.length_map, List.length_take]
        exact small1000 (by omega)
      · refine ⟨?_, fun b o hb => ?_⟩
        · rw [upd_same, List.take_add_one, hi, List.map_append, List.map_append]
          rfl
        · rw [upd_ne (ne_of_none hb hD1)]
          exact s2 b o hb
    · rintro H' ⟨h1, s2⟩
      have e2 : xs.take xs.length = xs := List.take_length
      rw [e2] at h1
      refine ⟨D1, _, rfl, SqL.of h1, ?_⟩
      have e3 : (xs.map (inB 0 (hiE row))).all id = xs.all (inB 0 (hiE row)) := by rw [List.all_map]; rfl
      rw [e3]
      exact k H' s2
def spHas (T : Txt K mg) : Sp := fun vs H Q _ => ∃ (p : Addr) (row : List Int) (x : V) (m : Int) (b : Bool), vs = [.ref p, x, .int m] ∧ SkAt T H p row ∧ row.length ≤ 12 ∧ WV K m row H x b ∧ ∀ H', Same H H' → Q (.bl b) H'
theorem ok_has_letters (T : Txt K mg) : FnOk P w K mg base CX0 5 T.has_letters.a T.has_letters.fd ["skin", "thing", "most"] (spHas T) := by
  refine T.has_letters.F.ok sc_has_letters (fun vs H Q E h => ?_) (fun cdv A outer s H vs Q E hr h => ?_)
  · obtain ⟨p, row, x, m, b, rfl, _⟩ := h
    rfl
  · obtain ⟨p, row, x, m, b, rfl, hs, hl, hv, k⟩ := h
    have nd := sc_has_letters.nd
    refine ⟨_, (pss_one (ps_ret (pe_and (pe_call (ok_is_tuple T) (hr.mono (by decide)) (by rfl) T.is_tuple.g T.is_tuple.k T.is_tuple.b .nil pass0 (pa_cons (pv 1) pa_nil)) (pe_and (pe_cmpR op_le (pe_callB call_len_seq (by rfl) T.zlen (by decide +kernel) (pa_cons (pv 1) pa_nil)) (pv 2) (nomark _)) (pe_one (pe_call (ok_is_any_word T) (hr.mono (by decide)) (by rfl) T.is_any_word.g T.is_any_word.k T.is_any_word.b .nil pass0 (pa_cons (pv 0) (pa_cons (pv 1) pa_nil)))))))), ?_⟩
    cases hv with
    | non h n => 
      refine ⟨_, rfl, _, _, rfl, h, _, rfl, ?_⟩
      rw [n]
      exact iteF (k _ fun _ _ z => z)
    | @tup t xs h n ty =>
      refine ⟨_, rfl, _, _, rfl, .tup h, _, rfl, iteT ?_⟩
      refine ⟨_, rfl, t, _, rfl, .inr h, _, rfl, _, _, rfl, rfl, _, rfl, ?_⟩
      refine ite2 (fun c => ?_) (fun c => ?_)
      · rw [c, Bool.true_and] at k
        exact ⟨_, rfl, _, rfl, p, row, t, xs, rfl, hs, hl, h, n, ty, k⟩
      · have c' : decide ((xs.length : Int) ≤ m) = false := by simpa using c
        rw [c', Bool.false_and] at k
        exact k _ fun _ _ z => z
end
end Tt
set_option maxRecDepth 100000
set_option maxHeartbeats 4000000
namespace Tt
open PySem L2
section
variable {P : Program} {w : World} {K : PySem.W.Frag} {mg : Str → Option Value} {base : Heap}
theorem slT_gen {xs : List V} {a : Addr} {H : Hp} {Q : VK} {n : Nat} (h : SqT K H a xs) (q : ∀ b H', Same H H' → SqT K H' b (xs.take n) → Q (.ref b) H') : rSlA K (.ref a) none (some (n : Int)) H Q := by
  by_cases hn : n < xs.length
  · refine slT_to hn h fun p hp => q p _ (same_new hp) (SqT.of upd_same)
  · refine ⟨a, xs, rfl, h, fun _ => q a H (fun _ _ z => z) ?_, fun z => absurd ⟨rfl, ?_⟩ z⟩
    · rw [List.take_of_length_le (by omega)]
      exact h
    · rw [HT.sIx_nat]
      omega
theorem catA_gen {xs ys : List V} {a b : Addr} {H : Hp} {Q : VK} (ha : SqT K H a xs) (hb : SqT K H b ys) (hz : xs.length + ys.length ≤ sizeLine) (q : ∀ c H', Same H H' → SqT K H' c (xs ++ ys) → Q (.ref c) H') : rCatA K (.ref a) (.ref b) H Q := by
  refine ⟨a, b, xs, ys, rfl, rfl, ha, hb, hz, fun z => ?_, fun _ z => ?_, fun _ _ p hp => q p _ (same_new hp) (SqT.of upd_same)⟩
  · subst z
    exact q b H (fun _ _ z => z) hb
  · subst z
    exact q a H (fun _ _ z => z) (by rw [List.append_nil]; exact ha)
theorem slT_genD {xs : List V} {a : Addr} {H : Hp} {Q : VK} {n : Nat} (h : SqT K H a xs) (q : ∀ b H', Same H H' → SqT K H' b (xs.drop n) → Q (.ref b) H') : rSlA K (.ref a) (some (n : Int)) none H Q := by
  by_cases hx : 0 < xs.length
  · refine slT_from hx h (fun z => ?_) fun _ p hp => q p _ (same_new hp) (SqT.of upd_same)
    subst z
    exact q a H (fun _ _ z => z) (by rw [List.drop_zero]; exact h)
  · have e : xs = [] := List.length_eq_zero_iff.mp (by omega)
    subst e
    refine ⟨a, [], rfl, h, fun _ => q a H (fun _ _ z => z) (by rw [List.drop_nil]; exact h), fun z => absurd ⟨by rw [HT.sIx_nat]; simp, rfl⟩ z⟩
end
end Tt
set_option maxRecDepth 100000
set_option maxHeartbeats 4000000
namespace Tt
open PySem L2
section
variable {P : Program} {w : World} {K : PySem.W.Frag} {mg : Str → Option Value} {base : Heap}
def turnAt (ns : List Int) (i : Nat) : List Int := ns.drop i ++ ns.take i
def turns (ns : List Int) : List (List Int) := (List.range ns.length).map (turnAt ns)
def minR (r0 : List Int) (rs : List (List Int)) : List Int := rs.foldl (fun a y => if PySem.W.dataLt (rowD y) (rowD a) then y else a) r0
theorem minR_D : ∀ (rs : List (List Int)) (r0 : List Int), PySem.W.minD (rowD r0) (rs.map rowD) = rowD (minR r0 rs)
  | [], _ => rfl
  | y :: rs, r0 => by
    show PySem.W.minD (if PySem.W.dataLt (rowD y) (rowD r0) then rowD y else rowD r0) (rs.map rowD) = rowD (minR (if PySem.W.dataLt (rowD y) (rowD r0) then y else r0) rs)
    by_cases h : PySem.W.dataLt (rowD y) (rowD r0) = true
    · rw [if_pos h, if_pos h]
      exact minR_D rs y
    · rw [if_neg h, if_neg h]
      exact minR_D rs r0
def leastT (ns : List Int) : List Int := match turns ns with
  | [] => []
  | r0 :: rs => minR r0 rs
theorem turns_len (ns : List Int) : (turns ns).length = ns.length := by unfold turns; rw [List.length_map, List.length_range]
theorem turns_get {ns : List Int} {i : Nat} (h : i < ns.length) : (turns ns)[i]? = some (turnAt ns i) := by
  unfold turns
  rw [List.getElem?_map, List.getElem?_range h]
  rfl
theorem pair_snoc {α β : Type} {F : α → β → Prop} : ∀ {l : List α} {k : List β} {a : α} {b : β}, Paired F l k → F a b → Paired F (l ++ [a]) (k ++ [b])
  | _, _, _, _, .nil, r => .cons r .nil
  | _, _, _, _, .cons r t, q => .cons r (pair_snoc t q)
theorem pair_mono {α β : Type} {F G : α → β → Prop} (f : ∀ a b, F a b → G a b) : ∀ {l : List α} {k : List β}, Paired F l k → Paired G l k
  | _, _, .nil => .nil
  | _, _, .cons r t => .cons (f _ _ r) (pair_mono f t)
theorem sqT_put {H : Hp} {p l : Addr} {xs ys : List V} {o : HO} (h : SqT K H p xs) (e : H l = some (.lst ys)) : SqT K (upd H l o) p xs := by
  rcases h with (h | ⟨ob, h⟩) | h
  · exact .inl (.inl (by rw [upd_ne (ne_of h e (fun z => nomatch z))]; exact h))
  · exact .inl (.inr ⟨ob, by rw [upd_ne (ne_of h e (fun z => nomatch z))]; exact h⟩)
  · exact .inr h
def spLeast (K : PySem.W.Frag) : Sp := fun vs H Q _ => ∃ (p : Addr) (ns : List Int), vs = [.ref p] ∧ SqT K H p (ns.map V.int) ∧ ns ≠ [] ∧ ns.length ≤ 400 ∧
  ∀ q H', Same H H' → SqT K H' q ((leastT ns).map V.int) → (H p = some (.tup (ns.map V.int)) → H' q = some (.tup ((leastT ns).map V.int))) → Q (.ref q) H'
end
end Tt
set_option maxHeartbeats 1000000
namespace Wd
def strip (w : List Int) : List Int := if h : 2 ≤ w.length ∧ w.head? = w.getLast?.map mate then strip (w.drop 1).dropLast else w
termination_by w.length
decreasing_by
  rw [List.length_dropLast, List.length_drop]
  omega
theorem strip_yes {a : Int} {m : List Int} : strip (mate a :: (m ++ [a])) = strip m := by
  rw [strip]
  rw [dif_pos]
  · simp
  · refine ⟨by simp, ?_⟩
    have : (mate a :: (m ++ [a])).getLast? = some a := by simp [List.getLast?_cons]
    rw [this]
    rfl
theorem strip_no {w : List Int} (h : w.head? ≠ w.getLast?.map mate) : strip w = w := by
  rw [strip, dif_neg]
  exact fun z => h z.2
theorem strip_short {w : List Int} (h : w.length < 2) : strip w = w := by
  rw [strip, dif_neg]
  exact fun z => by omega
def core (w : List Int) : List Int := strip (freed w)
def Turn (a b : List Int) : Prop := ∃ u v, a = u ++ v ∧ b = v ++ u
theorem Turn.refl (a : List Int) : Turn a a := ⟨[], a, rfl, by simp⟩
theorem Turn.symm {a b : List Int} (h : Turn a b) : Turn b a := by
  obtain ⟨u, v, h1, h2⟩ := h
  exact ⟨v, u, h2, h1⟩
theorem app_split {u v p q : List Int} (h : u ++ v = p ++ q) : (∃ m, p = u ++ m ∧ v = m ++ q) ∨ ∃ m, u = p ++ m ∧ q = m ++ v := by
  rcases List.append_eq_append_iff.mp h with ⟨m, h1, h2⟩ | ⟨m, h1, h2⟩
  · exact .inl ⟨m, h1, h2⟩
  · exact .inr ⟨m, h1, h2⟩
theorem Turn.trans {a b c : List Int} (h : Turn a b) (k : Turn b c) : Turn a c := by
  obtain ⟨u, v, rfl, rfl⟩ := h
  obtain ⟨p, q, h1, rfl⟩ := k
  rcases app_split h1 with ⟨m, rfl, rfl⟩ | ⟨m, rfl, rfl⟩
  · exact ⟨m, q ++ v, by simp, by simp⟩
  · exact ⟨u ++ p, m, by simp, by simp⟩
theorem freed_head {a : Int} {r : List Int} (h : Rd r) : freed (a :: r) = if r.head? = some (mate a) then r.drop 1 else a :: r := by
  split
  · rename_i hh
    cases r with
    | nil => simp at hh
    | cons b r' =>
      have hb : b = mate a := by simpa using hh
      subst hb
      have h1 := freed_cut [] r' (mate a)
      rw [mate_mate] at h1
      simp only [List.nil_append] at h1
      rw [h1]
      simp only [List.drop_succ_cons, List.drop_zero]
      refine freed_of_rd r' fun i x y hx hy => h (i + 1) x y ?_ ?_
      · simpa using hx
      · simpa using hy
  · rename_i hh
    refine freed_of_rd _ fun i x y hx hy => ?_
    cases i with
    | zero =>
      have ex : a = x := by simpa using hx
      subst ex
      cases r with
      | nil => simp at hy
      | cons b r' =>
        have ey : b = y := by simpa using hy
        subst ey
        intro z
        exact hh (by simp [z])
    | succ i => exact h i x y (by simpa using hx) (by simpa using hy)
theorem last_snoc {r : List Int} {b : Int} (h : r.getLast? = some b) : r.dropLast ++ [b] = r := snoc_of_last h
theorem rd_sub {u m v : List Int} (h : Rd (u ++ m ++ v)) : Rd m := fun i x y hx hy => by
  refine h (u.length + i) x y ?_ ?_
  · rw [List.append_assoc, List.getElem?_append_right (by omega)]
    have e : u.length + i - u.length = i := by omega
    rw [e, List.getElem?_append_left (List.getElem?_eq_some_iff.mp hx).1]
    exact hx
  · rw [List.append_assoc, List.getElem?_append_right (by omega)]
    have e : u.length + i + 1 - u.length = i + 1 := by omega
    rw [e, List.getElem?_append_left (List.getElem?_eq_some_iff.mp hy).1]
    exact hy
theorem rd_two {u v : List Int} {x y : Int} (h : Rd (u ++ [x, y] ++ v)) : y ≠ mate x := rd_sub h 0 x y rfl rfl
theorem core_step (a : Int) (w : List Int) : Turn (core (a :: w)) (core (w ++ [a])) := by
  have e1 : freed (a :: w) = freed (a :: freed w) := by
    have h := freed_app [a] w
    have h2 := freed_app [a] (freed w)
    rw [freed_freed] at h2
    exact h.trans h2.symm
  have hr : Rd (freed w) := rd_freed w
  unfold core
  rw [freed_snoc, e1, freed_head hr]
  generalize freed w = r at hr
  unfold push
  by_cases hd : r.head? = some (mate a) <;> by_cases tl : r.getLast? = some (mate a)
  · rw [if_pos hd, if_pos tl]
    cases r with
    | nil => exact Turn.refl _
    | cons b r1 =>
      have hb : b = mate a := by simpa using hd
      subst hb
      rw [List.drop_succ_cons, List.drop_zero]
      by_cases h1 : r1 = []
      · subst h1
        exact Turn.refl _
      · have t1 : r1.getLast? = some (mate a) := by
          rw [List.getLast?_cons] at tl
          cases h2 : r1.getLast? with
          | none => exact absurd (List.getLast?_eq_none_iff.mp h2) h1
          | some z =>
            rw [h2] at tl
            exact tl
        have e := last_snoc t1
        generalize r1.dropLast = m at e
        subst e
        have e2 : (mate a :: (m ++ [mate a])).dropLast = mate a :: m := by
          rw [← List.cons_append, List.dropLast_concat]
        rw [e2]
        by_cases h2 : m = []
        · subst h2
          exact Turn.refl _
        · have n1 : (m ++ [mate a]).head? ≠ (m ++ [mate a]).getLast?.map mate := by
            rw [List.getLast?_append]
            cases m with
            | nil => exact absurd rfl h2
            | cons x m' =>
              have := rd_two (u := []) (v := m' ++ [mate a]) (x := mate a) (y := x) (by simpa using hr)
              simp [mate_mate] at this ⊢
              exact this
          have n2 : (mate a :: m).head? ≠ (mate a :: m).getLast?.map mate := by
            cases h3 : m.getLast? with
            | none => exact absurd (List.getLast?_eq_none_iff.mp h3) h2
            | some z =>
              rw [List.getLast?_cons, h3]
              have e3 := last_snoc h3
              have := rd_two (u := mate a :: m.dropLast) (v := []) (x := z) (y := mate a) (by
                have e4 : mate a :: m.dropLast ++ [z, mate a] ++ [] = mate a :: (m ++ [mate a]) := by
                  rw [← e3]
                  simp
                rw [e4]
                exact hr)
              simp only [List.head?_cons, Option.getD_some, Option.map_some]
              exact fun z' => this (Option.some.inj z')
          rw [strip_no n1, strip_no n2]
          exact ⟨m, [mate a], rfl, rfl⟩
  · rw [if_pos hd, if_neg tl]
    cases r with
    | nil => simp at hd
    | cons b r1 =>
      have hb : b = mate a := by simpa using hd
      subst hb
      rw [List.drop_succ_cons, List.drop_zero, List.cons_append, strip_yes]
      exact Turn.refl _
  · rw [if_neg hd, if_pos tl]
    have e := last_snoc tl
    generalize r.dropLast = m at e
    subst e
    have h := strip_yes (a := mate a) (m := m)
    rw [mate_mate] at h
    rw [h]
    exact Turn.refl _
  · rw [if_neg hd, if_neg tl]
    cases r with
    | nil => exact Turn.refl _
    | cons b r1 =>
      have n1 : (a :: b :: r1).head? ≠ (a :: b :: r1).getLast?.map mate := by
        rw [List.getLast?_cons]
        cases h3 : (b :: r1).getLast? with
        | none => exact absurd (List.getLast?_eq_none_iff.mp h3) (by simp)
        | some z =>
          rw [h3] at tl
          simp only [List.head?_cons, Option.getD_some, Option.map_some]
          exact fun q => tl (by rw [Option.some.inj q, mate_mate])
      have n2 : (b :: r1 ++ [a]).head? ≠ (b :: r1 ++ [a]).getLast?.map mate := by
        rw [List.getLast?_append]
        simp at hd ⊢
        exact hd
      rw [strip_no n1, strip_no n2]
      exact ⟨[a], b :: r1, rfl, rfl⟩
theorem core_turn : ∀ u w : List Int, Turn (core (u ++ w)) (core (w ++ u))
  | [], w => by
    rw [List.append_nil]
    exact Turn.refl _
  | a :: u, w => by
    have h1 := core_step a (u ++ w)
    have h2 := core_turn u (w ++ [a])
    have e1 : (u ++ w) ++ [a] = u ++ (w ++ [a]) := by simp
    have e2 : (w ++ [a]) ++ u = w ++ (a :: u) := by simp
    rw [e1] at h1
    rw [e2] at h2
    exact h1.trans h2
theorem undo_undo (u : List Int) : undo (undo u) = u := by
  unfold undo
  rw [← List.map_reverse, List.reverse_reverse, List.map_map]
  have : mate ∘ mate = id := by
    funext x
    exact mate_mate x
  rw [this, List.map_id]
theorem core_freed {a b : List Int} (h : freed a = freed b) : core a = core b := by
  unfold core
  rw [h]
theorem core_conj (u w : List Int) : Turn (core (u ++ w ++ undo u)) (core w) := by
  have h := core_turn u (w ++ undo u)
  rw [← List.append_assoc] at h
  refine h.trans ?_
  have e : freed (w ++ undo u ++ u) = freed w := by
    rw [List.append_assoc, freed_app]
    have h2 := freed_undo (undo u)
    rw [undo_undo] at h2
    rw [h2, List.append_nil, freed_freed]
  rw [core_freed e]
  exact Turn.refl _
theorem core_pair (u v : List Int) (b : Int) : core (u ++ b :: mate b :: v) = core (u ++ v) := by
  refine core_freed ?_
  have h := freed_cut u v (mate b)
  rw [mate_mate] at h
  exact h
def mid (w : List Int) (c : Nat) : List Int := (w.drop c).take (w.length - 2 * c)
theorem mid_zero (w : List Int) : mid w 0 = w := by
  unfold mid
  rw [List.drop_zero, Nat.mul_zero, Nat.sub_zero, List.take_length]
theorem mid_step {w : List Int} {c : Nat} {a b : Int} (h : 2 * c + 2 ≤ w.length) (ha : w[c]? = some a) (hb : w[w.length - 1 - c]? = some b) : mid w c = a :: (mid w (c + 1) ++ [b]) := by
  unfold mid
  have e1 : w.drop c = a :: w.drop (c + 1) := by
    have hc : c < w.length := by omega
    rw [List.drop_eq_getElem_cons hc]
    rw [List.getElem?_eq_getElem hc] at ha
    rw [Option.some.inj ha]
  have e2 : w.length - 2 * c = (w.length - 2 * (c + 1) + 1) + 1 := by omega
  rw [e1, e2, List.take_succ_cons, List.take_add_one]
  have e3 : (w.drop (c + 1))[w.length - 2 * (c + 1)]? = some b := by
    rw [List.getElem?_drop]
    have : c + 1 + (w.length - 2 * (c + 1)) = w.length - 1 - c := by omega
    rw [this]
    exact hb
  rw [e3]
  rfl
theorem mid_yes {w : List Int} {c : Nat} {a b : Int} (h : 2 * c + 2 ≤ w.length) (ha : w[c]? = some a) (hb : w[w.length - 1 - c]? = some b) (e : a = mate b) : strip (mid w c) = strip (mid w (c + 1)) := by
  rw [mid_step h ha hb, e, strip_yes]
theorem mid_no {w : List Int} {c : Nat} {a b : Int} (h : 2 * c + 2 ≤ w.length) (ha : w[c]? = some a) (hb : w[w.length - 1 - c]? = some b) (e : a ≠ mate b) : strip (mid w c) = mid w c := by
  refine strip_no ?_
  rw [mid_step h ha hb]
  have : (a :: (mid w (c + 1) ++ [b])).getLast? = some b := by simp [List.getLast?_cons]
  rw [this]
  simpa using e
theorem mid_short {w : List Int} {c : Nat} (h : w.length < 2 * c + 2) : strip (mid w c) = mid w c := by
  refine strip_short ?_
  unfold mid
  rw [List.length_take, List.length_drop]
  omega
theorem mid_mem {w : List Int} {c : Nat} {x : Int} (h : x ∈ mid w c) : x ∈ w := List.mem_of_mem_drop (List.mem_of_mem_take h)
theorem mid_len (w : List Int) (c : Nat) : (mid w c).length ≤ w.length := by
  unfold mid
  rw [List.length_take, List.length_drop]
  omega
end Wd
set_option maxRecDepth 100000
set_option maxHeartbeats 4000000
namespace Tt
open PySem L2
theorem row_lt (a b : List Int) : PySem.W.dataLt (rowD a) (rowD b) = decide (a < b) := by
  unfold rowD
  rw [PySem.W.dataLt_tuple]
  exact PySem.W.dataLt_ints a b
theorem minR_mem : ∀ (rs : List (List Int)) (r0 : List Int), minR r0 rs ∈ r0 :: rs
  | [], _ => List.mem_singleton.mpr rfl
  | y :: rs, r0 => by
    have h := minR_mem rs (if PySem.W.dataLt (rowD y) (rowD r0) then y else r0)
    show minR (if PySem.W.dataLt (rowD y) (rowD r0) then y else r0) rs ∈ _
    rcases List.mem_cons.mp h with h | h
    · rw [h]
      split
      · exact List.mem_cons_of_mem _ List.mem_cons_self
      · exact List.mem_cons_self
    · exact List.mem_cons_of_mem _ (List.mem_cons_of_mem _ h)
theorem minR_le : ∀ (rs : List (List Int)) (r0 y : List Int), y ∈ r0 :: rs → ¬ y < minR r0 rs
  | [], r0, y, h => by
    rw [List.mem_singleton.mp h]
    exact List.lt_irrefl _
  | z :: rs, r0, y, h => by
    show ¬ y < minR (if PySem.W.dataLt (rowD z) (rowD r0) then z else r0) rs
    have ih := minR_le rs (if PySem.W.dataLt (rowD z) (rowD r0) then z else r0)
    rw [row_lt] at ih ⊢
    by_cases c : z < r0
    · simp only [c, decide_true, if_true] at ih ⊢
      rcases List.mem_cons.mp h with rfl | h
      · exact fun q => ih z List.mem_cons_self (List.lt_trans c q)
      · rcases List.mem_cons.mp h with rfl | h
        · exact ih _ List.mem_cons_self
        · exact ih _ (List.mem_cons_of_mem _ h)
    · simp only [c, decide_false] at ih ⊢
      rcases List.mem_cons.mp h with rfl | h
      · exact ih _ List.mem_cons_self
      · rcases List.mem_cons.mp h with rfl | h
        · intro q
          have h1 := ih r0 List.mem_cons_self
          exact h1 (by
            rcases Classical.em (r0 < y) with k | k
            · exact List.lt_trans k q
            · have : r0 = y := List.le_antisymm (as := r0) (bs := y) (by simpa using c) (by simpa using k)
              subst this
              exact q)
        · exact ih _ (List.mem_cons_of_mem _ h)
theorem turnAt_turn {ns : List Int} (i : Nat) : Wd.Turn ns (turnAt ns i) := ⟨ns.take i, ns.drop i, (List.take_append_drop i ns).symm, rfl⟩
theorem mem_turns {ns t : List Int} (hne : ns ≠ []) : t ∈ turns ns ↔ Wd.Turn ns t := by
  constructor
  · intro h
    unfold turns at h
    obtain ⟨i, _, rfl⟩ := List.mem_map.mp h
    exact turnAt_turn i
  · rintro ⟨u, v, rfl, rfl⟩
    unfold turns
    by_cases hv : v = []
    · subst hv
      refine List.mem_map.mpr ⟨0, List.mem_range.mpr ?_, ?_⟩
      · exact List.length_pos_iff.mpr hne
      · unfold turnAt
        simp
    · refine List.mem_map.mpr ⟨u.length, List.mem_range.mpr ?_, ?_⟩
      · rw [List.length_append]
        have := List.length_pos_iff.mpr hv
        omega
      · unfold turnAt
        simp
theorem leastT_facts {ns : List Int} (hne : ns ≠ []) : leastT ns ∈ turns ns ∧ ∀ t ∈ turns ns, ¬ t < leastT ns := by
  unfold leastT
  cases ht : turns ns with
  | nil =>
    have := turns_len ns
    rw [ht] at this
    exact absurd (List.length_eq_zero_iff.mp this.symm) hne
  | cons r0 rs => exact ⟨minR_mem rs r0, fun t h => minR_le rs r0 t h⟩
theorem leastT_turn {ns : List Int} (hne : ns ≠ []) : Wd.Turn ns (leastT ns) := (mem_turns hne).mp (leastT_facts hne).1
theorem turn_nil {a b : List Int} (h : Wd.Turn a b) : a = [] ↔ b = [] := by
  obtain ⟨u, v, rfl, rfl⟩ := h
  simp [and_comm]
theorem leastT_eq {a b : List Int} (h : Wd.Turn a b) : leastT a = leastT b := by
  by_cases ha : a = []
  · have hb := (turn_nil h).mp ha
    rw [ha, hb]
  · have hb : b ≠ [] := fun z => ha ((turn_nil h).mpr z)
    obtain ⟨a1, a2⟩ := leastT_facts ha
    obtain ⟨b1, b2⟩ := leastT_facts hb
    have m1 : leastT b ∈ turns a := (mem_turns ha).mpr (h.trans ((mem_turns hb).mp b1))
    have m2 : leastT a ∈ turns b := (mem_turns hb).mpr (h.symm.trans ((mem_turns ha).mp a1))
    have l1 := a2 _ m1
    have l2 := b2 _ m2
    exact List.le_antisymm (as := leastT a) (bs := leastT b) (by simpa using l1) (by simpa using l2)
theorem turn_of_leastT {a b : List Int} (h : leastT a = leastT b) : Wd.Turn a b := by
  by_cases ha : a = [] <;> by_cases hb : b = []
  · rw [ha, hb]
    exact Wd.Turn.refl _
  · have h2 := (turn_nil (leastT_turn hb))
    rw [← h, ha] at h2
    exact absurd (h2.mpr rfl) hb
  · have h2 := (turn_nil (leastT_turn ha))
    rw [h, hb] at h2
    exact absurd (h2.mpr rfl) ha
  · have h1 := leastT_turn ha
    rw [h] at h1
    exact h1.trans (leastT_turn hb).symm
def closedT (ns : List Int) : List Int := leastT (Wd.core ns)
theorem leastT_nil : leastT [] = [] := rfl
theorem closedT_freed {a b : List Int} (h : Wd.Turn (Wd.core a) (Wd.core b)) : closedT a = closedT b := leastT_eq h
end Tt
set_option maxRecDepth 100000
set_option maxHeartbeats 4000000
namespace Tt
open PySem L2
theorem turnAt_lenL (ns : List Int) (i : Nat) : (turnAt ns i).length = ns.length := by
  unfold turnAt
  rw [List.length_append, List.length_drop, List.length_take]
  omega
theorem turnAt_mem {ns : List Int} {i : Nat} (h : i < ns.length) : turnAt ns i ∈ turns ns := List.mem_map.mpr ⟨i, List.mem_range.mpr h, rfl⟩
theorem turnAt_add {ns : List Int} {i t : Nat} (h : i + t ≤ ns.length) : turnAt (turnAt ns i) t = turnAt ns (i + t) := by
  unfold turnAt
  have e1 : (ns.drop i ++ ns.take i).drop t = ns.drop (i + t) ++ ns.take i := by
    rw [List.drop_append_of_le_length (by rw [List.length_drop]; omega), List.drop_drop]
  have e2 : (ns.drop i ++ ns.take i).take t = (ns.drop i).take t := List.take_append_of_le_length (by rw [List.length_drop]; omega)
  rw [e1, e2, List.append_assoc, ← List.take_add]
theorem turnAt_wrap {ns : List Int} {i t : Nat} (hi : i ≤ ns.length) (ht : t ≤ ns.length) (h : ns.length ≤ i + t) : turnAt (turnAt ns i) t = turnAt ns (i + t - ns.length) := by
  unfold turnAt
  have l1 : (ns.drop i).length = ns.length - i := List.length_drop
  have e1 : (ns.drop i ++ ns.take i).drop t = (ns.take i).drop (i + t - ns.length) := by
    rw [List.drop_append, List.drop_eq_nil_of_le (by omega), List.nil_append, l1]
    congr 1
    omega
  have e2 : (ns.drop i ++ ns.take i).take t = ns.drop i ++ (ns.take i).take (i + t - ns.length) := by
    rw [List.take_append, List.take_of_length_le (by omega), l1]
    congr 2
    omega
  have e3 : (ns.take i).take (i + t - ns.length) = ns.take (i + t - ns.length) := by
    rw [List.take_take]
    congr 1
    omega
  have e4 : (ns.take i).drop (i + t - ns.length) ++ ns.drop i = ns.drop (i + t - ns.length) := by
    have h2 : ns.drop (i + t - ns.length) = (ns.take i ++ ns.drop i).drop (i + t - ns.length) := by rw [List.take_append_drop]
    rw [h2, List.drop_append_of_le_length (by rw [List.length_take]; omega)]
  rw [e1, e2, e3, ← List.append_assoc, e4]
theorem turnAt_turn_mem {ns : List Int} {i t : Nat} (hi : i < ns.length) (ht : t < ns.length) : turnAt (turnAt ns i) t ∈ turns ns := by
  by_cases h : i + t < ns.length
  · rw [turnAt_add (by omega)]
    exact turnAt_mem h
  · rw [turnAt_wrap (by omega) (by omega) (by omega)]
    exact turnAt_mem (by omega)
theorem turnAt_get {ns : List Int} {i k : Nat} (hi : i < ns.length) (hk : k < ns.length) : (turnAt ns i)[k]? = ns[(i + k) % ns.length]? := by
  unfold turnAt
  by_cases h : i + k < ns.length
  · rw [List.getElem?_append_left (by rw [List.length_drop]; omega), List.getElem?_drop, Nat.mod_eq_of_lt h]
  · rw [List.getElem?_append_right (by rw [List.length_drop]; omega), List.length_drop, List.getElem?_take, if_pos (by omega)]
    have e : (i + k) % ns.length = i + k - ns.length := by
      rw [Nat.mod_eq_sub_mod (by omega), Nat.mod_eq_of_lt (by omega)]
    rw [e]
    congr 1
    omega
theorem lt_ahead {x y : Int} (h : y < x) : ∀ (p a b : List Int), p ++ y :: b < p ++ x :: a
  | [], _, _ => List.cons_lt_cons_iff.mpr (.inl h)
  | c :: p, a, b => List.cons_lt_cons_iff.mpr (.inr ⟨rfl, lt_ahead h p a b⟩)
theorem cut_at {A : List Int} {k : Nat} {x : Int} (h : A[k]? = some x) : A = A.take k ++ x :: A.drop (k + 1) := by
  obtain ⟨hk, e⟩ := List.getElem?_eq_some_iff.mp h
  rw [← e, ← List.drop_eq_getElem_cons hk, List.take_append_drop]
theorem turn_lt {A B : List Int} {k t : Nat} {x y : Int} (ht : t ≤ k) (hp : A.take k = B.take k) (hx : A[k]? = some x) (hy : B[k]? = some y) (h : y < x) : turnAt B t < turnAt A t := by
  have ka := (List.getElem?_eq_some_iff.mp hx).1
  have kb := (List.getElem?_eq_some_iff.mp hy).1
  have eA := cut_at hx
  have eB := cut_at hy
  rw [← hp] at eB
  have lp : (A.take k).length = k := by rw [List.length_take]; omega
  generalize A.take k = p at eA eB lp
  generalize A.drop (k + 1) = a at eA
  generalize B.drop (k + 1) = b at eB
  subst eA
  subst eB
  unfold turnAt
  rw [List.drop_append_of_le_length (by omega), List.drop_append_of_le_length (by omega), List.take_append_of_le_length (by omega), List.take_append_of_le_length (by omega), List.append_assoc, List.append_assoc]
  exact lt_ahead h _ _ _
def NoL (ns : List Int) (p : Nat) : Prop := ∃ t ∈ turns ns, t < turnAt ns p
theorem noL_of {ns : List Int} {i j k t : Nat} {x y : Int} (hi : i + t < ns.length) (hj : j < ns.length) (hk : k < ns.length) (ht : t ≤ k) (hp : (turnAt ns i).take k = (turnAt ns j).take k)
    (hx : (turnAt ns i)[k]? = some x) (hy : (turnAt ns j)[k]? = some y) (h : y < x) : NoL ns (i + t) := by
  refine ⟨_, turnAt_turn_mem hj (t := t) (by omega), ?_⟩
  rw [← turnAt_add (by omega)]
  exact turn_lt ht hp hx hy h
def Beaten (ns : List Int) (i j : Nat) : Prop := i ≠ j ∧ ∀ p, p < ns.length → p < max i j → p ≠ min i j → NoL ns p
theorem Beaten.symm {ns : List Int} {i j : Nat} (h : Beaten ns i j) : Beaten ns j i := ⟨fun e => h.1 e.symm, fun p h1 h2 h3 => h.2 p h1 (by omega) (by omega)⟩
theorem Beaten.step {ns : List Int} {i j k : Nat} (h : Beaten ns i j) (n : ∀ t, t ≤ k → i + t < ns.length → NoL ns (i + t)) : (i + k + 1 ≠ j → Beaten ns (i + k + 1) j) ∧ (i + k + 1 = j → Beaten ns j (j + 1)) := by
  have own : ∀ p, p < ns.length → i ≤ p → p ≤ i + k → NoL ns p := fun p h1 h2 h3 => by
    have := n (p - i) (by omega) (by omega)
    have e : i + (p - i) = p := by omega
    rw [e] at this
    exact this
  have hh := h.1
  refine ⟨fun e => ⟨e, fun p h1 h2 h3 => ?_⟩, fun e => ⟨by omega, fun p h1 h2 h3 => ?_⟩⟩
  · by_cases c : i ≤ p ∧ p ≤ i + k
    · exact own p h1 c.1 c.2
    · exact h.2 p h1 (by omega) (by omega)
  · by_cases c : i ≤ p ∧ p ≤ i + k
    · exact own p h1 c.1 c.2
    · exact h.2 p h1 (by omega) (by omega)
theorem least_far {ns L : List Int} {i j : Nat} (b : Beaten ns i j) (hf : ns.length ≤ max i j) (hL : L ∈ turns ns) (hm : ∀ t ∈ turns ns, ¬ t < L) : turnAt ns (min i j) = L ∧ min i j < ns.length := by
  obtain ⟨p, hp, rfl⟩ := List.mem_map.mp hL
  have hp' := List.mem_range.mp hp
  have e : p = min i j := Classical.byContradiction fun z => by
    obtain ⟨t, h1, h2⟩ := b.2 p hp' (by omega) z
    exact hm t h1 h2
  exact ⟨by rw [e], by omega⟩
theorem least_like {ns L : List Int} {i j : Nat} (b : Beaten ns i j) (hi : i < ns.length) (hj : j < ns.length) (ha : turnAt ns i = turnAt ns j) (hL : L ∈ turns ns) (hm : ∀ t ∈ turns ns, ¬ t < L) : turnAt ns (min i j) = L := by
  have hh := b.1
  have main : ∀ p, p < ns.length → turnAt ns p = L → turnAt ns (min i j) = L := fun p => by
    induction p using Nat.strongRecOn with
    | ind p ih =>
      intro h1 h2
      by_cases c : p < max i j
      · have e : p = min i j := Classical.byContradiction fun z => by
          obtain ⟨t, q1, q2⟩ := b.2 p h1 c z
          rw [h2] at q2
          exact hm t q1 q2
        rw [← e]
        exact h2
      · have e1 : turnAt ns (max i j) = turnAt ns (min i j) := by
          by_cases c2 : i < j
          · rw [Nat.max_eq_right (by omega), Nat.min_eq_left (by omega), ha]
          · rw [Nat.max_eq_left (by omega), Nat.min_eq_right (by omega), ha]
        have e2 := turnAt_add (ns := ns) (i := max i j) (t := p - max i j) (by omega)
        have e3 : max i j + (p - max i j) = p := by omega
        rw [e3, e1, turnAt_add (by omega)] at e2
        exact ih (min i j + (p - max i j)) (by omega) (by omega) (e2.trans h2)
  obtain ⟨p, hp, e⟩ := List.mem_map.mp hL
  exact main p (List.mem_range.mp hp) e
theorem take_more {A B : List Int} {k : Nat} {x : Int} (hp : A.take k = B.take k) (hx : A[k]? = some x) (hy : B[k]? = some x) : A.take (k + 1) = B.take (k + 1) := by
  rw [List.take_add_one, List.take_add_one, hp, hx, hy]
theorem leastT_far {ns : List Int} {i j : Nat} (hne : ns ≠ []) (b : Beaten ns i j) (hf : ns.length ≤ max i j) : turnAt ns (min i j) = leastT ns ∧ min i j < ns.length :=
  least_far b hf (leastT_facts hne).1 (leastT_facts hne).2
theorem leastT_like {ns : List Int} {i j : Nat} (hne : ns ≠ []) (b : Beaten ns i j) (hi : i < ns.length) (hj : j < ns.length) (ha : (turnAt ns i).take ns.length = (turnAt ns j).take ns.length) : turnAt ns (min i j) = leastT ns := by
  rw [List.take_of_length_le (by rw [turnAt_lenL]; exact Nat.le_refl _), List.take_of_length_le (by rw [turnAt_lenL]; exact Nat.le_refl _)] at ha
  exact least_like b hi hj ha (leastT_facts hne).1 (leastT_facts hne).2
theorem turn_letter {ns : List Int} {i k : Nat} (hi : i < ns.length) (hk : k < ns.length) : ∃ x, ns[(i + k) % ns.length]? = some x ∧ (turnAt ns i)[k]? = some x := by
  have h : (i + k) % ns.length < ns.length := Nat.mod_lt _ (by omega)
  refine ⟨_, List.getElem?_eq_getElem h, ?_⟩
  rw [turnAt_get hi hk]
  exact List.getElem?_eq_getElem h
theorem beaten_zero (ns : List Int) : Beaten ns 0 1 := ⟨by omega, fun p _ h2 h3 => absurd h2 (by omega)⟩
end Tt
set_option maxRecDepth 100000
set_option maxHeartbeats 4000000
namespace Tt
open PySem L2
section
variable {P : Program} {w : World} {K : PySem.W.Frag} {mg : Str → Option Value} {base : Heap}
theorem slT_toB {xs : List V} {a : Addr} {H : Hp} {Q : VK} {n : Nat} (h : SqT K H a xs) (q : ∀ b H', Same H H' → SqT K H' b (xs.take n) → (H a = some (.tup xs) → H' b = some (.tup (xs.take n))) → Q (.ref b) H') : rSlA K (.ref a) none (some (n : Int)) H Q := by
  by_cases hn : n < xs.length
  · exact slT_to hn h fun p hp => q p _ (same_new hp) (SqT.of upd_same) fun _ => upd_same
  · have e : xs.take n = xs := List.take_of_length_le (by omega)
    rw [e] at q
    exact ⟨a, xs, rfl, h, fun _ => q a H (fun _ _ z => z) h (fun z => z), fun z => absurd ⟨rfl, by rw [HT.sIx_nat]; omega⟩ z⟩
theorem slT_fromB {xs : List V} {a : Addr} {H : Hp} {Q : VK} {n : Nat} (h : SqT K H a xs) (q : ∀ b H', Same H H' → SqT K H' b (xs.drop n) → (H a = some (.tup xs) → H' b = some (.tup (xs.drop n))) → Q (.ref b) H') : rSlA K (.ref a) (some (n : Int)) none H Q := by
  by_cases hx : 0 < xs.length
  · refine slT_from hx h (fun z => ?_) fun _ p hp => q p _ (same_new hp) (SqT.of upd_same) fun _ => upd_same
    subst z
    rw [List.drop_zero] at q
    exact q a H (fun _ _ z => z) h fun z => z
  · have e : xs = [] := List.length_eq_zero_iff.mp (by omega)
    subst e
    rw [List.drop_nil] at q
    exact ⟨a, [], rfl, h, fun _ => q a H (fun _ _ z => z) h (fun z => z), fun z => absurd ⟨by rw [HT.sIx_nat]; simp, rfl⟩ z⟩
theorem catA_B {xs ys : List V} {a b : Addr} {H : Hp} {Q : VK} (ha : SqT K H a xs) (hb : SqT K H b ys) (hz : xs.length + ys.length ≤ sizeLine) (q : ∀ c H', Same H H' → SqT K H' c (xs ++ ys) → (H a = some (.tup xs) → H b = some (.tup ys) → H' c = some (.tup (xs ++ ys))) → Q (.ref c) H') : rCatA K (.ref a) (.ref b) H Q := by
  refine ⟨a, b, xs, ys, rfl, rfl, ha, hb, hz, fun z => ?_, fun _ z => ?_, fun _ _ p hp => q p _ (same_new hp) (SqT.of upd_same) fun _ _ => upd_same⟩
  · subst z
    exact q b H (fun _ _ z => z) hb fun _ z => z
  · subst z
    rw [List.append_nil] at q
    exact q a H (fun _ _ z => z) ha fun z _ => z
theorem while_by3 {c : TT} {tb : TS} {D : Ends} {σ : L2.St} {H : Hp} (Pv : L2.St → Hp → Prop) (μ : L2.St → Hp → Nat) (h0 : Pv σ H)
    (hs : ∀ σ H, Pv σ H → c σ H fun b H1 => if b = true then ∃ N : L2.St → Hp → Prop, (∀ σ' H', N σ' H' → ∃ m', m' < μ σ H ∧ (m' = μ σ' H' ∧ Pv σ' H')) ∧ tb { D with nx := N, ct := N, bk := D.nx } σ H1 else D.nx σ H1) : tWhile c tb D σ H := by
  refine ⟨fun m σ H => m = μ σ H ∧ Pv σ H, ⟨_, rfl, h0⟩, ?_⟩
  rintro m σ H ⟨rfl, p⟩
  exact hs σ H p
theorem let_one {J C G : Prop} (main : (J → C) → G) (rest : J → C) : G := main rest
def readTo (n : Nat) : L2.St → Hp → Nat := fun σ _ => match σ[2]?, σ[3]?, σ[4]? with
  | some (some (V.int i)), some (some (V.int j)), some (some (V.int k)) => 3 * n - (i.toNat + j.toNat + k.toNat)
  | _, _, _ => 0
theorem ok_least_turn (T : Txt K mg) : FnOk P w K mg base CX0 2 T.least_turn.a T.least_turn.fd ["word"] (spLeast K) := by
  refine T.least_turn.F.ok sc_least_turn (fun vs H Q E h => ?_) (fun cdv A outer s H vs Q E hr h => ?_)
  · obtain ⟨p, ns, rfl, _⟩ := h
    rfl
  · obtain ⟨p, ns, rfl, hp, hne, hl, k⟩ := h
    have nd := sc_least_turn.nd
    refine ⟨_, (pss_cons (ps_set (i := 1) nd rfl (Or.inl rfl) (pe_callB call_len_seq (by rfl) T.zlen (by decide +kernel) (pa_cons (pv 0) pa_nil)))
    (pss_cons (ps_asg (pe_tup (pa_cons pe_int (pa_cons pe_int (pa_cons pe_int pa_nil)))) (pg_tup rfl (pgs_cons (pg_name (i := 2) nd rfl (Or.inl rfl)) (pgs_cons (pg_name (i := 3) nd rfl (Or.inl rfl)) (pgs_cons (pg_name (i := 4) nd rfl (Or.inl rfl)) pgs_nil)))))
    (pss_cons (ps_while PassesOwn.never (PW.pt (pw_and (pt_cmpR op_lt (pv 2) (pv 1) (nomark _)) (pw_and (pt_cmpR op_lt (pv 3) (pv 1) (nomark _)) (pw_and1 (pt_cmpR op_lt (pv 4) (pv 1) (nomark _))))))
      (pss_cons (ps_par (i := 5) (j := 6) rfl nd rfl rfl (by decide) rfl rfl (pa_cons (pe_ix ix_tup (pv 0) (pe_op op_mod (pe_op op_add (pv 2) (pv 4)) (pv 1)) (fun _ _ => rfl)) (pa_cons (pe_ix ix_tup (pv 0) (pe_op op_mod (pe_op op_add (pv 3) (pv 4)) (pv 1)) (fun _ _ => rfl)) pa_nil)) rfl)
      (pss_cons (ps_if (pt_cmpR op_eq (pv 5) (pv 6) (nomark _))
        (pss_cons (ps_aug (i := 4) nd rfl (Or.inl rfl) pe_int ip_add)
        (pss_one ps_continue))
        pss_nil)
      (pss_cons (ps_if (pt_cmpR op_gt (pv 5) (pv 6) (nomark _))
        (pss_one (ps_aug (i := 2) nd rfl (Or.inl rfl) (pe_op op_add (pv 4) pe_int) ip_add))
        (pss_one (ps_aug (i := 3) nd rfl (Or.inl rfl) (pe_op op_add (pv 4) pe_int) ip_add)))
      (pss_cons (ps_if (pt_cmpR op_eq (pv 2) (pv 3) (nomark _))
        (pss_one (ps_aug (i := 3) nd rfl (Or.inl rfl) pe_int ip_add))
        pss_nil)
      (pss_one (ps_set (i := 4) nd rfl (Or.inl rfl) pe_int)))))))
    (pss_cons (ps_set (i := 7) nd rfl (Or.inl rfl) (pe_callB (call_min2 rfl) (by rfl) T.zmin (by decide +kernel) (pa_cons (pv 2) (pa_cons (pv 3) pa_nil))))
    (pss_one (ps_ret (pe_op op_catA (pe_slice sl_tupA (pv 0) (po_some (pv 7)) po_none) (pe_slice sl_tupA (pv 0) po_none (po_some (pv 7)))))))))), ?_⟩
    have lm : (ns.map V.int).length = ns.length := List.length_map ..
    have l0 := List.length_pos_iff.mpr hne
    refine ⟨_, rfl, p, _, rfl, .inr hp, ?_⟩
    rw [lm]
    refine ⟨(by show 3 ≤ sizeLine; decide), fun a3 ha3 => ⟨a3, _, rfl, SqT.of upd_same, rfl, _, _, rfl, _, _, rfl, _, _, rfl, rfl, ?_⟩⟩
    have s0 : Same H (upd H a3 (.tup [.int 0, .int 1, .int 0])) := same_new ha3
    have hp0 := same_seqT s0 hp
    generalize upd H a3 (.tup [.int 0, .int 1, .int 0]) = H0 at s0 hp0
    refine while_by3 (fun σ H' => H' = H0 ∧ ∃ (i j c : Nat) (f g : Option V), σ = [some (.ref p), some (.int (ns.length : Int)), some (.int (i : Int)), some (.int (j : Int)), some (.int (c : Int)), f, g, none] ∧ Beaten ns i j ∧ c ≤ ns.length ∧ (0 < c → i < ns.length ∧ j < ns.length) ∧ (turnAt ns i).take c = (turnAt ns j).take c) (readTo ns.length)
      ⟨rfl, 0, 1, 0, none, none, rfl, beaten_zero ns, Nat.zero_le _, (fun z => absurd z (by omega)), rfl⟩ ?_
    rintro σ H' ⟨rfl, i, j, c, f, g, rfl, bt, hc, hij, ht⟩
    apply let_one (J := turnAt ns (min i j) = leastT ns ∧ min i j < ns.length)
    · intro out
      refine ⟨_, rfl, _, rfl, _, _, rfl, rfl, _, rfl, ite2 (fun c1 => ?_) (fun c1 => ?_)⟩
      · refine ⟨_, rfl, _, rfl, _, _, rfl, rfl, _, rfl, ite2 (fun c2 => ?_) (fun c2 => ?_)⟩
        · refine ⟨_, rfl, _, rfl, _, _, rfl, rfl, _, rfl, ite2 (fun c3 => ?_) (fun c3 => ?_)⟩
          · have g1 : i < ns.length := by simpa using c1
            have g2 : j < ns.length := by simpa using c2
            have g3 : c < ns.length := by simpa using c3
            obtain ⟨x, x1, x2⟩ := turn_letter g1 g3
            obtain ⟨y, y1, y2⟩ := turn_letter g2 g3
            have a1 : atI (ns.map V.int) (((i : Int) + (c : Int)) % (ns.length : Int)) = some (V.int x) := atI_nat (j := (i + c) % ns.length) (ints_get x1)
            have a2 : atI (ns.map V.int) (((j : Int) + (c : Int)) % (ns.length : Int)) = some (V.int y) := atI_nat (j := (j + c) % ns.length) (ints_get y1)
            refine ⟨fun σ' H'' => readTo ns.length σ' H'' < _ ∧ H'' = H' ∧ _, fun σ' H'' h => ⟨_, h.1, rfl, h.2⟩, ?_⟩
            have lt0 : ∀ (i' j' c' : Nat) (f' g' : Option V), i + j + c < i' + j' + c' → readTo ns.length [some (.ref p), some (.int (ns.length : Int)), some (.int (i' : Int)), some (.int (j' : Int)), some (.int (c' : Int)), f', g', none] H' < readTo ns.length [some (.ref p), some (.int (ns.length : Int)), some (.int (i : Int)), some (.int (j : Int)), some (.int (c : Int)), f, g, none] H' := fun i' j' c' f' g' h => by
              show 3 * ns.length - ((i' : Int).toNat + (j' : Int).toNat + (c' : Int).toNat) < 3 * ns.length - ((i : Int).toNat + (j : Int).toNat + (c : Int).toNat)
              omega
            have fin : ∀ (i' j' : Nat), i + j + c < i' + j' → Beaten ns i' j' → ∀ G : Prop, (readTo ns.length [some (.ref p), some (.int (ns.length : Int)), some (.int (i' : Int)), some (.int (j' : Int)), some (.int 0), some (V.int x), some (V.int y), none] H' < readTo ns.length [some (.ref p), some (.int (ns.length : Int)), some (.int (i : Int)), some (.int (j : Int)), some (.int (c : Int)), f, g, none] H' ∧ H' = H' ∧ (∃ (i c2 c : Nat) (f g : Option V), [some (.ref p), some (.int (ns.length : Int)), some (.int (i' : Int)), some (.int (j' : Int)), some (.int 0), some (V.int x), some (V.int y), none] = [some (.ref p), some (.int (ns.length : Int)), some (.int (i : Int)), some (.int (c2 : Int)), some (.int (c : Int)), f, g, none] ∧ Beaten ns i c2 ∧ c ≤ ns.length ∧ (0 < c → i < ns.length ∧ c2 < ns.length) ∧ (turnAt ns i).take c = (turnAt ns c2).take c) → G) → G := fun i' j' h b G k => k ⟨lt0 i' j' 0 _ _ (by omega), rfl, i', j', 0, _, _, rfl, b, Nat.zero_le _, (fun z => absurd z (by omega)), rfl⟩
            refine ⟨_, rfl, ?_⟩
            refine ⟨_, rfl, _, rfl, _, _, rfl, rfl, _, rfl, _, _, rfl, rfl, by omega, p, _, _, _, rfl, rfl, hp0, a1, ?_⟩
            refine ⟨_, rfl, _, rfl, _, rfl, _, _, rfl, rfl, _, rfl, _, _, rfl, rfl, by omega, p, _, _, _, rfl, rfl, hp0, a2, _, _, rfl, ?_⟩
            refine ⟨_, rfl, _, rfl, rfl, _, rfl, ite2 (fun c4 => ?_) (fun c4 => ?_)⟩
            · have g4 : x = y := by simpa using c4
              subst g4
              refine ⟨_, rfl, _, _, rfl, rfl, lt0 i j (c + 1) _ _ (by omega), rfl, i, j, c + 1, _, _, rfl, bt, g3, fun _ => ⟨g1, g2⟩, take_more ht x2 y2⟩
            · have g4 : ¬ x = y := by simpa using c4
              refine ⟨_, rfl, _, rfl, _, _, rfl, rfl, _, rfl, ite2 (fun c5 => ?_) (fun c5 => ?_)⟩
              · have g5 : y < x := by simpa using c5
                have bs := bt.step (k := c) fun t t1 t2 => noL_of t2 g2 g3 t1 ht x2 y2 g5
                refine ⟨_, rfl, _, rfl, _, _, rfl, rfl, _, _, rfl, rfl, ?_⟩
                refine ⟨_, rfl, _, rfl, rfl, _, rfl, ite2 (fun c6 => ?_) (fun c6 => ?_)⟩
                · have g6 : i + c + 1 = j := by
                    have : (i : Int) + ((c : Int) + 1) = (j : Int) := by simpa using c6
                    omega
                  have b2 := bs.2 g6
                  refine ⟨_, rfl, _, _, rfl, rfl, ?_⟩
                  refine fin (i + (c + 1)) (j + 1) (by omega) ?_ _ fun z => z
                  have e : i + (c + 1) = j := by omega
                  rw [e]
                  exact b2
                · have g6 : i + c + 1 ≠ j := fun z => c6 (by
                    have : (i : Int) + ((c : Int) + 1) = (j : Int) := by omega
                    simp [this])
                  exact fin (i + (c + 1)) j (by omega) (bs.1 g6) _ fun z => z
              · have g5 : x < y := by
                  have : ¬ y < x := by simpa using c5
                  omega
                have bs := bt.symm.step (k := c) fun t t1 t2 => noL_of t2 g1 g3 t1 ht.symm y2 x2 g5
                refine ⟨_, rfl, _, rfl, _, _, rfl, rfl, _, _, rfl, rfl, ?_⟩
                refine ⟨_, rfl, _, rfl, rfl, _, rfl, ite2 (fun c6 => ?_) (fun c6 => ?_)⟩
                · have g6 : j + c + 1 = i := by
                    have : (i : Int) = (j : Int) + ((c : Int) + 1) := by simpa using c6
                    omega
                  have b2 := bs.2 g6
                  refine ⟨_, rfl, _, _, rfl, rfl, ?_⟩
                  refine fin i (j + (c + 1) + 1) (by omega) ?_ _ fun z => z
                  have e : j + (c + 1) = i := by omega
                  rw [e]
                  exact b2
                · have g6 : j + c + 1 ≠ i := fun z => c6 (by
                    have : (i : Int) = (j : Int) + ((c : Int) + 1) := by omega
                    simp [this])
                  exact fin i (j + (c + 1)) (by omega) (bs.1 g6).symm _ fun z => z
          · have g1 : i < ns.length := by simpa using c1
            have g2 : j < ns.length := by simpa using c2
            have g3 : c = ns.length := by
              have : ¬ c < ns.length := by simpa using c3
              omega
            subst g3
            exact out ⟨leastT_like hne bt g1 g2 ht, by omega⟩
        · have g2 : ns.length ≤ j := by simpa using c2
          exact iteF (out (leastT_far hne bt (by omega)))
      · have g1 : ns.length ≤ i := by simpa using c1
        exact iteF (out (leastT_far hne bt (by omega)))
    rintro ⟨e1, e2⟩
    refine ⟨_, rfl, _, rfl, _, _, rfl, ?_⟩
    have em : (if (j : Int) < (i : Int) then (j : Int) else (i : Int)) = ((min i j : Nat) : Int) := by
      split <;> omega
    rw [em]
    have hp3 := hp0
    generalize min i j = m at e1 e2
    refine ⟨_, rfl, _, rfl, (m : Int), rfl, noPart_i ?_⟩
    refine slT_fromB (K := K) hp0 fun b1 H2 s3 hb1 t1 => ?_
    refine ⟨_, rfl, noPart_i ⟨_, rfl, (m : Int), rfl, ?_⟩⟩
    refine slT_toB (K := K) (same_seqT s3 hp0) fun b2 H3 s4 hb2 t2 => ?_
    refine catA_B (K := K) (same_seqT s4 hb1) hb2 ?_ fun q H4 s5 hq t3 => ?_
    · rw [List.length_drop, List.length_take, lm]
      exact Nat.le_of_lt (small1000 (by omega))
    have e : (turnAt ns m).map V.int = (ns.map V.int).drop m ++ (ns.map V.int).take m := by
      unfold turnAt
      rw [List.map_append, List.map_drop, List.map_take]
    refine k q H4 (((s0.trans s3).trans s4).trans s5) ?_ fun z => ?_
    · rw [← e1, e]
      exact hq
    · have z0 := s0 _ _ z
      rw [← e1, e]
      exact t3 (s4 _ _ (t1 z0)) (t2 (s3 _ _ z0))
end
end Tt
set_option maxRecDepth 100000
set_option maxHeartbeats 4000000
namespace Tt
open PySem L2
section
variable {P : Program} {w : World} {K : PySem.W.Frag} {mg : Str → Option Value} {base : Heap}
theorem slT_midT {xs : List V} {a : Addr} {H : Hp} {Q : VK} {c : Nat} (hc : 2 * c ≤ xs.length) (h : H a = some (.tup xs)) (q : ∀ b H', Same H H' → H' b = some (.tup ((xs.drop c).take (xs.length - 2 * c))) → Q (.ref b) H') : rSlA K (.ref a) (some (c : Int)) (some ((xs.length - c : Nat) : Int)) H Q := by
  have e1 : HT.sIx xs.length 0 (some (c : Int)) = c := by rw [HT.sIx_nat]; omega
  have e2 : HT.sIx xs.length xs.length (some ((xs.length - c : Nat) : Int)) = xs.length - c := by rw [HT.sIx_nat]; omega
  refine ⟨a, xs, rfl, SqT.of h, fun z => ?_, fun _ p hp => ?_⟩
  · rw [e1, e2] at z
    have z0 := z.1
    subst z0
    refine q a H (fun _ _ z => z) ?_
    rw [List.drop_zero, Nat.mul_zero, Nat.sub_zero, List.take_length]
    exact h
  · refine q p _ (same_new hp) ?_
    unfold cutV
    rw [e1, e2]
    have : xs.length - c - c = xs.length - 2 * c := by omega
    rw [this]
    exact upd_same
def spClosedL (K : PySem.W.Frag) : Sp := fun vs H Q _ => ∃ (p : Addr) (ns : List Int), vs = [.ref p] ∧ SqT K H p (ns.map V.int) ∧ ns.length ≤ 400 ∧ (∀ x ∈ ns, 0 ≤ x ∧ x < 12) ∧
  ∀ q H', Same H H' → H' q = some (.tup ((Wd.core ns).map V.int)) → (Wd.core ns).length ≤ 400 → Q (.ref q) H'
def spClosed (K : PySem.W.Frag) : Sp := fun vs H Q _ => ∃ (p : Addr) (ns : List Int), vs = [.ref p] ∧ SqT K H p (ns.map V.int) ∧ ns.length ≤ 400 ∧ (∀ x ∈ ns, 0 ≤ x ∧ x < 12) ∧
  ∀ q H', Same H H' → H' q = some (.tup ((closedT ns).map V.int)) → Q (.ref q) H'
theorem ok_closed_letters (T : Txt K mg) : FnOk P w K mg base CX0 3 T.closed_letters.a T.closed_letters.fd ["word"] (spClosedL K) := by
  refine T.closed_letters.F.ok sc_closed_letters (fun vs H Q E h => ?_) (fun cdv A outer s H vs Q E hr h => ?_)
  · obtain ⟨p, ns, rfl, _⟩ := h
    rfl
  · obtain ⟨p, ns, rfl, hp, hl, hb, k⟩ := h
    have nd := sc_closed_letters.nd
    refine ⟨_, (pss_cons (ps_set (i := 1) nd rfl (Or.inl rfl) (pe_call (ok_cut_free T) (hr.mono (by decide)) (by rfl) T.cut_free.g T.cut_free.k T.cut_free.b .nil pass0 (pa_cons (pv 0) pa_nil)))
    (pss_cons (ps_set (i := 2) nd rfl (Or.inl rfl) pe_int)
    (pss_cons (ps_while PassesOwn.never (PW.pt (pw_and (pt_cmpR op_ge (pe_op op_sub (pe_callB call_len_seq (by rfl) T.zlen (by decide +kernel) (pa_cons (pv 1) pa_nil)) (pe_op op_mul pe_int (pv 2))) pe_int (nomark _)) (pw_and1 (pt_cmpR op_eq (pe_ix ix_tup (pv 1) (pv 2) (fun _ _ => rfl)) (pe_op op_xor (pe_ix ix_tup (pv 1) (pe_op op_sub (pe_op op_sub (pe_callB call_len_seq (by rfl) T.zlen (by decide +kernel) (pa_cons (pv 1) pa_nil)) pe_int) (pv 2)) (fun _ _ => rfl)) pe_int) (nomark _)))))
      (pss_one (ps_aug (i := 2) nd rfl (Or.inl rfl) pe_int ip_add)))
    (pss_one (ps_ret (pe_slice sl_tupA (pv 1) (po_some (pv 2)) (po_some (pe_op op_sub (pe_callB call_len_seq (by rfl) T.zlen (by decide +kernel) (pa_cons (pv 1) pa_nil)) (pv 2))))))))), ?_⟩
    refine ⟨_, rfl, p, ns, rfl, hp, by omega, hb, fun f H1 s1 h1 => ?_⟩
    have lf : (Wd.freed ns).length ≤ 400 := Nat.le_trans (Wd.len_freed ns) hl
    have bf : ∀ x ∈ Wd.freed ns, 0 ≤ x ∧ x < 12 := fun x hx => hb x (Wd.mem_freed hx)
    have ec : Wd.strip (Wd.freed ns) = Wd.core ns := rfl
    generalize Wd.freed ns = fs at h1 lf bf ec
    refine while_by (fun σ H' => H' = H1 ∧ ∃ c : Nat, σ = [some (.ref p), some (.ref f), some (.int (c : Int))] ∧ 2 * c ≤ fs.length ∧ Wd.strip (Wd.mid fs c) = Wd.core ns)
      (fun σ _ => match σ[2]? with | some (some (V.int c)) => 1000 - c.toNat | _ => 0) ⟨rfl, 0, rfl, by omega, by rw [Wd.mid_zero]; exact ec⟩ ?_ ?_
    · rintro σ H' ⟨rfl, c, rfl, hc, em⟩
      have lm : (fs.map V.int).length = fs.length := List.length_map ..
      apply let_one (J := Wd.strip (Wd.mid fs c) = Wd.mid fs c)
      · intro out
        refine ⟨_, rfl, f, _, rfl, .inr (SqT.of h1), _, rfl, _, _, rfl, rfl, .inl ⟨by decide, by decide⟩, _, _, rfl, rfl, _, _, rfl, rfl, _, rfl, ?_⟩
        rw [lm]
        refine ite2 (fun g => ?_) (fun g => ?_)
        · have g' : 2 * c + 2 ≤ fs.length := by
            have : (2 : Int) ≤ (fs.length : Int) - 2 * (c : Int) := by simpa using g
            omega
          obtain ⟨a, ha⟩ : ∃ a, fs[c]? = some a := ⟨_, List.getElem?_eq_getElem (by omega)⟩
          obtain ⟨b, hb2⟩ : ∃ b, fs[fs.length - 1 - c]? = some b := ⟨_, List.getElem?_eq_getElem (by omega)⟩
          refine ⟨_, rfl, _, rfl, f, _, _, _, rfl, rfl, SqT.of h1, atI_nat (ints_get ha), ?_⟩
          refine ⟨_, rfl, _, rfl, f, _, rfl, .inr (SqT.of h1), _, _, rfl, rfl, _, rfl, _, _, rfl, rfl, f, _, _, V.int b, rfl, rfl, SqT.of h1, ?_, ?_⟩
          · have e : ((fs.map V.int).length : Int) - 1 - (c : Int) = ((fs.length - 1 - c : Nat) : Int) := by rw [lm]; omega
            rw [e]
            exact atI_nat (ints_get hb2)
          · refine ⟨_, _, rfl, rfl, rfl, _, rfl, ?_⟩
            have bb := bf b (List.mem_of_getElem? hb2)
            have ex : decide (V.int a = V.int (Builtin.bitXor b 1)) = decide (a = Wd.mate b) := by
              rw [xor_mate bb.1 bb.2]
              simp
            refine ite2 (fun z => ?_) (fun z => ?_)
            · have z' : a = Wd.mate b := of_decide_eq_true (ex.symm.trans z)
              refine ⟨_, rfl, _, _, rfl, rfl, ⟨rfl, c + 1, rfl, by omega, ?_⟩, ?_⟩
              · rw [← Wd.mid_yes g' ha hb2 z']
                exact em
              · show 1000 - ((c : Int) + 1).toNat < 1000 - ((c : Int)).toNat
                omega
            · exact out (Wd.mid_no g' ha hb2 fun z' => z (ex.trans (decide_eq_true z')))
        · refine iteF (out (Wd.mid_short ?_))
          have : ¬ (2 : Int) ≤ (fs.length : Int) - 2 * (c : Int) := by simpa using g
          omega
      intro hm
      have eM : Wd.mid fs c = Wd.core ns := hm.symm.trans em
      have lc : (Wd.core ns).length ≤ 400 := by
        rw [← eM]
        exact Nat.le_trans (Wd.mid_len fs c) lf
      refine ⟨_, rfl, _, rfl, (c : Int), rfl, _, rfl, f, _, rfl, .inr (SqT.of h1), _, rfl, _, _, rfl, rfl, ((fs.length - c : Nat) : Int), ?_, ?_⟩
      · rw [lm]
        exact congrArg V.int (by omega)
      · rw [← lm]
        refine slT_midT (K := K) (by rw [lm]; exact hc) h1 fun b H2 s2 hb2 => ?_
        have e3 : ((fs.map V.int).drop c).take ((fs.map V.int).length - 2 * c) = (Wd.core ns).map V.int := by
          rw [lm, ← eM]
          unfold Wd.mid
          rw [List.map_take, List.map_drop]
        rw [e3] at hb2
        exact k b H2 (s1.trans s2) hb2 lc
    · rintro σ H Q Q' hq ⟨v1, a1, p1, ys1, a2, a3, v2, a4, i1, j1, a5, a6, a7, i2, j2, a8, a9, i3, j3, a10, a11, b1, a12, a13⟩
      refine ⟨v1, a1, p1, ys1, a2, a3, v2, a4, i1, j1, a5, a6, a7, i2, j2, a8, a9, i3, j3, a10, a11, b1, a12, ?_⟩
      cases b1 with
      | false => exact iteF (hq _ _ (by simpa using a13))
      | true =>
        rw [if_pos rfl] at a13
        obtain ⟨c1, d1, c2, d2, q1, xs1, n1, u1, d3, d4, d5, d6, c3, d7, c4, d8, q2, ys2, d9, d10, m1, m2, d11, d12, c5, d13, m3, m4, d14, d15, q3, xs3, n3, u3, d16, d17, d18, d19, m5, m6, d20, d21, d22, b2, d23, d24⟩ := a13
        exact iteT ⟨c1, d1, c2, d2, q1, xs1, n1, u1, d3, d4, d5, d6, c3, d7, c4, d8, q2, ys2, d9, d10, m1, m2, d11, d12, c5, d13, m3, m4, d14, d15, q3, xs3, n3, u3, d16, d17, d18, d19, m5, m6, d20, d21, d22, b2, d23, hq _ _ d24⟩
theorem ok_closed_up (T : Txt K mg) : FnOk P w K mg base CX0 4 T.closed_up.a T.closed_up.fd ["word"] (spClosed K) := by
  refine T.closed_up.F.ok sc_closed_up (fun vs H Q E h => ?_) (fun cdv A outer s H vs Q E hr h => ?_)
  · obtain ⟨p, ns, rfl, _⟩ := h
    rfl
  · obtain ⟨p, ns, rfl, hp, hl, hb, k⟩ := h
    have nd := sc_closed_up.nd
    refine ⟨_, (pss_cons (ps_set (i := 1) nd rfl (Or.inl rfl) (pe_call (ok_closed_letters T) (hr.mono (by decide)) (by rfl) T.closed_letters.g T.closed_letters.k T.closed_letters.b .nil pass0 (pa_cons (pv 0) pa_nil)))
    (pss_one (ps_ret (pe_ifExp (pt_truth (pv 1) (fun _ => rfl)) (pe_call (ok_least_turn T) (hr.mono (by decide)) (by rfl) T.least_turn.g T.least_turn.k T.least_turn.b .nil pass0 (pa_cons (pv 1) pa_nil)) (pe_tup pa_nil))))), ?_⟩
    refine ⟨_, rfl, p, ns, rfl, hp, hl, hb, fun b H2 s2 hb2 lc => ?_⟩
    refine ⟨_, rfl, !((Wd.core ns).map V.int).isEmpty, .inr (.inl ⟨_, SqT.of hb2, rfl⟩), ?_⟩
    refine ite2 (fun z => ?_) (fun z => ?_)
    · have hne : Wd.core ns ≠ [] := by simpa using z
      exact ⟨_, rfl, b, Wd.core ns, rfl, SqT.of hb2, hne, lc, fun q H3 s3 _ hq => k q H3 (s2.trans s3) (hq hb2)⟩
    · have hnil : Wd.core ns = [] := by simpa using z
      refine ⟨(by show 0 ≤ sizeLine; decide), fun q hq => k q _ (s2.trans (same_new hq)) ?_⟩
      unfold closedT
      rw [hnil, leastT_nil]
      exact upd_same
end
end Tt
set_option maxRecDepth 100000
set_option maxHeartbeats 4000000
namespace Tt
open PySem L2
section
variable {P : Program} {w : World} {K : PySem.W.Frag} {mg : Str → Option Value} {base : Heap}
def SkOr (T : Txt K mg) (v : V) (H : Hp) (E : XK) (k : Addr → List Int → Prop) : Prop := (SkV T H v false ∧ SkErr T H E) ∨ ∃ (p : Addr) (row : List Int), v = .ref p ∧ SkAt T H p row ∧ (row.length ≤ 12 ∧ row.length % 2 = 0) ∧ k p row
theorem word_wv {m : Int} {row : List Int} {H : Hp} {t : Addr} {ns : List Int} (hl : row.length % 2 = 0) (h : SqT K H t (ns.map V.int)) (n2 : ns.length ≤ 500) (hm : (ns.length : Int) ≤ m) (hb : Lt (row.length : Int) ns) : WV K m row H (.ref t) true := by
  have e : (decide (((ns.map V.int).length : Int) ≤ m) && (ns.map V.int).all (inB 0 (hiE row))) = true := by
    rw [List.length_map, decide_eq_true hm, Bool.true_and, List.all_eq_true]
    intro y hy
    obtain ⟨x, hx, rfl⟩ := List.mem_map.mp hy
    obtain ⟨h0, h1⟩ := hb x hx
    show (decide (0 ≤ x) && decide (x ≤ hiE row)) = true
    unfold hiE
    rw [Bool.and_eq_true]
    exact ⟨decide_eq_true h0, decide_eq_true (by omega)⟩
  rw [← e]
  refine .tup h (by rw [List.length_map]; omega) fun y hy => ?_
  obtain ⟨x, _, rfl⟩ := List.mem_map.mp hy
  exact ⟨_, .int x⟩
end
end Tt
set_option maxRecDepth 100000
set_option maxHeartbeats 4000000
namespace Tt
open PySem L2
section
variable {P : Program} {w : World} {K : PySem.W.Frag} {mg : Str → Option Value} {base : Heap}
end
end Tt
set_option maxRecDepth 100000
set_option maxHeartbeats 4000000
namespace Tt
open PySem L2
section
variable {P : Program} {w : World} {K : PySem.W.Frag} {mg : Str → Option Value} {base : Heap}
def RdOr (row : List Int) (x : V) (H : Hp) (K : PySem.W.Frag) (b : Bool) : Prop := (WV K 40 row H x false ∧ b = false) ∨
  ∃ (t : Addr) (ns : List Int), x = .ref t ∧ SqT K H t (ns.map V.int) ∧ ns.length ≤ 40 ∧ Lt (row.length : Int) ns ∧ b = decide (ns ≠ [] ∧ closedT ns = ns)
theorem RdOr.same {row : List Int} {x : V} {H H' : Hp} {b : Bool} (h : RdOr row x H K b) (s : Same H H') : RdOr row x H' K b := by
  rcases h with ⟨h, e⟩ | ⟨t, ns, e, h, l, lt, eb⟩
  · exact .inl ⟨h.same s, e⟩
  · exact .inr ⟨t, ns, e, same_seqT s h, l, lt, eb⟩
def spFit (T : Txt K mg) : Sp := fun vs H Q _ => ∃ (p : Addr) (row : List Int) (x : V) (b : Bool), vs = [.ref p, x] ∧ SkAt T H p row ∧ (row.length ≤ 12 ∧ row.length % 2 = 0) ∧ RdOr row x H K b ∧ ∀ H', Same H H' → Q (.bl b) H'
theorem ok_is_fit_round (T : Txt K mg) : FnOk P w K mg base CX0 6 T.is_fit_round.a T.is_fit_round.fd ["skin", "thing"] (spFit T) := by
  refine T.is_fit_round.F.ok sc_is_fit_round (fun vs H Q E h => ?_) (fun cdv A outer s H vs Q E hr h => ?_)
  · obtain ⟨p, row, x, b, rfl, _⟩ := h
    rfl
  · obtain ⟨p, row, x, b, rfl, hs, ⟨hl, h2⟩, hx, k⟩ := h
    refine ⟨_, (pss_one (ps_ret (pe_and (pe_call (ok_has_letters T) (hr.mono (by decide)) (by rfl) T.has_letters.g T.has_letters.k T.has_letters.b .nil pass0 (pa_cons (pv 0) (pa_cons (pv 1) (pa_cons (pe_glob rfl T.c_MOST_IN_ROUND T.r_MOST_IN_ROUND) pa_nil)))) (pe_and (pe_cmpR op_gt (pe_callB call_len_seq (by rfl) T.zlen (by decide +kernel) (pa_cons (pv 1) pa_nil)) pe_int (nomark _)) (pe_one (pe_cmpR (op_eqD hr.units) (pe_call (ok_closed_up T) (hr.mono (by decide)) (by rfl) T.closed_up.g T.closed_up.k T.closed_up.b .nil pass0 (pa_cons (pv 1) pa_nil)) (pv 1) (nomark _))))))), ?_⟩
    rcases hx with ⟨hw, rfl⟩ | ⟨t, ns, rfl, ht, hn, hlt, rfl⟩
    · refine ⟨_, rfl, _, rfl, p, row, x, 40, false, rfl, hs, hl, hw, fun H1 s1 => ⟨_, rfl, iteF (k H1 s1)⟩⟩
    · refine ⟨_, rfl, _, rfl, p, row, _, 40, true, rfl, hs, hl, word_wv h2 ht (by omega) (by omega) hlt, fun H1 s1 => ⟨_, rfl, iteT ?_⟩⟩
      have ht1 := same_seqT s1 ht
      refine ⟨_, rfl, t, _, rfl, .inr ht1, _, _, rfl, rfl, _, rfl, ?_⟩
      rw [List.length_map]
      refine ite2 (fun g => ?_) (fun g => ?_)
      · have hne : ns ≠ [] := fun z => by
          subst z
          simp at g
        refine ⟨_, rfl, t, ns, rfl, ht1, by omega, (fun y hy => by have := hlt y hy; omega), fun q H2 s2 hq => ?_⟩
        have ht2 := same_seqT s2 ht1
        refine ⟨_, rfl, .tuple ((closedT ns).map PyData.int), .tuple (ns.map PyData.int), .tup (SqT.of hq) (dpAll_ints _ _), .tup ht2 (dpAll_ints _ _), shapedAll_ints _, shapedAll_ints _, ?_⟩
        have ev : PyData.eqv (.tuple ((closedT ns).map PyData.int)) (.tuple (ns.map PyData.int)) = decide (closedT ns = ns) := eqv_ints (closedT ns) ns
        rw [ev]
        have eb : decide (closedT ns = ns) = decide (ns ≠ [] ∧ closedT ns = ns) := by simp [hne]
        rw [eb]
        exact k H2 (s1.trans s2)
      · have hne : ns = [] := by
          have : ¬ (0 : Int) < (ns.length : Int) := by simpa using g
          exact List.length_eq_zero_iff.mp (by omega)
        have eb : decide (ns ≠ [] ∧ closedT ns = ns) = false := by simp [hne]
        rw [eb] at k
        have g' : decide (0 < (ns.length : Int)) = false := by simp [hne]
        exact k H1 s1
end
end Tt
set_option maxRecDepth 100000
set_option maxHeartbeats 4000000
namespace Tt
open PySem L2
open LamX (Tabs TabS TabB ExtN CodeO tLam)
structure FnG (P : Program) (w : World) (K : PySem.W.Frag) (mg : Str → Option Value) (base : Heap) (CX : CXT) (k : Nat) (f : Addr) (fd : FuncData) (ps : List Str) (sp : Sp) : Prop where
  len : ∀ vs H Q E, sp vs H Q E → vs.length = ps.length
  run : ∀ (A : Around) (outer : List Env) (s : Shared) (H : Hp) (args : Args) (us : List Value) (vs : List V) (Q : VK) (E : XK), A.guards = some [] → Room k A → Env0 P w K mg base A outer s H → BindsTo s fd args (ps.zip us) → Vals vs us → sp vs H Q E →
    codeAny (model P w) A (.call (.ref f) args) (CR CX outer P w H s Q E) s
theorem FunC.okG {P : Program} {w : World} {K : PySem.W.Frag} {mg : Str → Option Value} {base : Heap} {x qual : Str} {st : Stmt} {f : Addr} {fd : FuncData} {cdv : Value} {N ps : List Str} {k : Nat} {sp : Sp} (F : FunC K x qual st f fd cdv) (S : FnScope N ps (defScope st)) (len : ∀ vs H Q E, sp vs H Q E → vs.length = ps.length)
    (body : ∀ (A : Around) (outer : List Env) (s : Shared) (H : Hp) (vs : List V) (Q : VK) (E : XK), A.guards = some [] → Room k (A.deeper (PyProof.Rows.envOfC qual (defScope st) s.heap.objs.size f cdv)) → sp vs H Q E →
      ∃ t, PSs (cxOf CX0 P w K mg base N qual (defScope st) f cdv A outer s H E).nox (defBody st) t ∧ t { nx := fun _ H' => Q .non H', rt := Q } (L2.start N vs) H) : FnG P w K mg base CX0 (k + 1) f fd ps sp := by
  refine ⟨len, fun A outer s H args us vs Q E hg hr e0 hb r hsp => ?_⟩
  obtain ⟨oc, od, kV, doc, pm, an, ct, osl, rfl, lk, hc⟩ := F.ex
  refine LamX.run_ofS (N := N) (ps := ps) (k := k) (us := us) (vs := vs) lk hc S hr e0 hb r (len _ _ _ _ hsp) fun hr' => ?_
  obtain ⟨t, h1, h2⟩ := body A outer s H vs Q E hg hr' hsp
  exact ⟨t, h1.nox, h2⟩
theorem FunG {P : Program} {w : World} {K : PySem.W.Frag} {mg : Str → Option Value} {base : Heap} {x qual : Str} {st : Stmt} {f : Addr} {fd : FuncData} {N ps : List Str} {k : Nat} {sp : Sp} (F : Fun K x qual st f fd) (S : FnScope N ps (defScope st)) (len : ∀ vs H Q E, sp vs H Q E → vs.length = ps.length)
    (body : ∀ (cdv : Value) (A : Around) (outer : List Env) (s : Shared) (H : Hp) (vs : List V) (Q : VK) (E : XK), A.guards = some [] → Room k (A.deeper (PyProof.Rows.envOfC qual (defScope st) s.heap.objs.size f cdv)) → sp vs H Q E →
      ∃ t, PSs (cxOf CX0 P w K mg base N qual (defScope st) f cdv A outer s H E).nox (defBody st) t ∧ t { nx := fun _ H' => Q .non H', rt := Q } (L2.start N vs) H) : FnG P w K mg base CX0 (k + 1) f fd ps sp := by
  refine ⟨len, fun A outer s H args us vs Q E hg hr e0 hb r hsp => ?_⟩
  obtain ⟨oc, od, kV, doc, pm, an, cdv, ct, osl, rfl, lk, hc⟩ := F.ex
  refine LamX.run_ofS (N := N) (ps := ps) (k := k) (us := us) (vs := vs) lk hc S hr e0 hb r (len _ _ _ _ hsp) fun hr' => ?_
  obtain ⟨t, h1, h2⟩ := body cdv A outer s H vs Q E hg hr' hsp
  exact ⟨t, h1.nox, h2⟩
section
variable {X : Cx} {CX : CXT} {k : Nat} {f : Addr} {fd : FuncData} {ps : List Str} {sp : Sp} {ds : List Value} {dvs : List V} {E : XK} {x : Str} {p pos : Pos} {e : Expr} {es : List Expr} {t : TA}
theorem pe_callG (F : FnG X.prog X.w X.K X.mg X.base CX k f fd ps sp) (hgd : X.A.guards = some []) (hr : Room k X.A) (hg : Gl X x) (hm : X.mg x = some (.ref f)) (hk : PySem.W.keepIn X.K (.ref f) = true) (hb : Binds X.K fd ps ds) (hd : Vals dvs ds) (hx : Passes CX X E)
    (ha : PA X (e :: es) t) (hdb : (x == ("__debug__" : Str)) = false := by decide) (he : starEach (e :: es) X.env = (false, eval e X.env) :: starEach es X.env := by rfl) (hpl : (backTo pos (starEach es X.env)).any (·.1) = false := by rfl) :
    PE X (.Call (.Name x p) (e :: es) [] pos) (tCall sp dvs E t) := by
  refine ⟨fun pins s σ H Q I h => ?_⟩
  refine wpAny_Call_Name_kw (ld_glob I hg hm ?_ hdb)
  refine PySem.W.callWith_K (h₀ := X.base) I.ok.mod.kin hk (thn (ha.run pos pins s σ H _ I h) fun us s1 ⟨vs, H1, I1, r, q⟩ => ⟨I1.kIn, ?_⟩) he hpl
  have r2 : Vals (vs ++ dvs) (us ++ ds) := r.append hd
  have hl : (us ++ ds).length = ps.length := by rw [← r2.length]; exact F.len _ _ _ _ q
  refine wpAny_call (codeAny_mono (F.run X.A X.stack s1 H1 ⟨us, []⟩ (us ++ ds) (vs ++ dvs) Q E hgd hr I1.env0 (hb s1 us I1.kIn hl) r2 q) fun r s' hq => ?_)
  cases r with
  | error e => exact hx pins σ H1 s1 e s' I1 hq
  | ok fl =>
    cases fl with
    | ret u => exact I1.after hq
    | next => exact False.elim hq
    | brk => exact False.elim hq
    | cont => exact False.elim hq
end
section
variable {X : Cx} {E : XK}
theorem pe_caught (T : Txt X.K X.mg) {Ts : List (Addr × Str)} {c P : Addr} {k : Nat} {ps : Arguments} {bd : Expr} {lsc : Scope} {t : XK → TE} {p lpos pos : Pos} (hg : Gl X "_law_caught") (TB : TabB X.base X.mg c P) (hcode : X.env.code = .ref c) (hmT : (P, X.env.qual ++ "<lambda>") ∈ Ts) (hu : ∀ p ∈ Ts, p.1 = P → p.2 = X.env.qual ++ "<lambda>")
    (hr : Room (k + 2) X.A) (L : LamX.LamS X.env.scope lsc) (hdef : defaultsOf ps X.env = ([], []))
    (noArgs : ∀ (q : Str) (cl : List (Str × Addr)) (pm cv ctv : Value), bindArgs (PySem.W.kla_fn "<lambda>" q ps bd lsc cl pm cv ctv) ⟨[], []⟩ = pure [])
    (body : ∀ (A : Around) (outer : List Env) (s : Shared) (H : Hp) (E : XK) (fl co : Addr), Room k (A.deeper (LamX.lamEnv X lsc s.heap.objs.size fl co)) → PE (LamX.lamCx X A outer s H E lsc fl co) bd (t E)) :
    PE X (.Call (.Name "_law_caught" p) [.Lambda ps bd lsc lpos] [] pos) (tLam Ts (TTc X.K T.RoundError.C) t) := by
  obtain ⟨oc, od, kV, doc, pm, an, cdv, ct, osl, e, lk, hc⟩ := T.l_caught.F.ex
  have hb := T.l_caught.b
  rw [e] at lk hb
  exact LamX.tt_lamcall hg T.l_caught.g T.l_caught.k lk hc hb sc_l_caught rfl (Or.inl rfl) (caught_gives T.RoundError.g) TB hcode hmT hu hr L hdef noArgs body
theorem lamP {A : Around} {outer : List Env} {s : Shared} {H : Hp} {lsc : Scope} {fl co : Addr} : Passes (L2.CX X.prog X.w) (LamX.lamCx X A outer s H E lsc fl co) E := passes_call (takes_of rfl rfl rfl rfl) fun _ _ _ _ h => h
end
section
variable {P : Program} {w : World} {K : PySem.W.Frag} {mg : Str → Option Value} {base : Heap}
theorem sqT_ext {H H' : Hp} {a : Addr} {xs : List V} (e : ExtN H H') (h : SqT K H a xs) : SqT K H' a xs := by
  rcases h with (h | ⟨o, h⟩) | h
  · exact .inl (.inl (e _ _ h fun _ z => nomatch z))
  · exact .inl (.inr ⟨o, e _ _ h fun _ z => nomatch z⟩)
  · exact .inr h
theorem sqL_ext {H H' : Hp} {a : Addr} {xs : List V} (e : ExtN H H') (h : SqL K H a xs) : SqL K H' a xs := by
  rcases h with (h | ⟨o, h⟩) | h
  · exact .inl (.inl (e _ _ h fun _ z => nomatch z))
  · exact .inl (.inr ⟨o, e _ _ h fun _ z => nomatch z⟩)
  · exact .inr h
theorem tyB_ext {H H' : Hp} {x : V} {S : String} (t : TyB K H x S) (e : ExtN H H') : TyB K H' x S := by
  cases t with
  | non => exact .non
  | bl b => exact .bl b
  | int i => exact .int i
  | str x => exact .str x
  | byt b => exact .byt b
  | @lst a xs h =>
    have h' : SqL K H' a xs := sqL_ext e h
    exact .lst h'
  | tup h => exact .tup (sqT_ext e h)
  | dK h => exact .dK (e _ _ h fun _ z => nomatch z)
theorem wv_ext {m : Int} {row : List Int} {H H' : Hp} {x : V} {b : Bool} (h : WV K m row H x b) (e : ExtN H H') : WV K m row H' x b := by
  cases h with
  | tup h n ty => exact .tup (sqT_ext e h) n fun y hy => (ty y hy).elim fun S t => ⟨S, tyB_ext t e⟩
  | non h n => exact .non (tyB_ext h e) n
theorem fzT_ext {H H' : Hp} {a : Addr} {xs : List V} (e : ExtN H H') (h : FzT H a xs) : FzT H' a xs := by
  obtain ⟨ob, h1, h2⟩ := h
  exact ⟨ob, e _ _ h1 (fun _ z => nomatch z), h2⟩
theorem skAt_ext {T : Txt K mg} {H H' : Hp} {p : Addr} {row : List Int} (h : SkAt T H p row) (e : ExtN H H') : SkAt T H' p row := by
  obtain ⟨dx, r, q, h1, h2, h3⟩ := h
  exact ⟨dx, r, q, e _ _ h1 (fun _ z => nomatch z), fzT_ext e h2, fzT_ext e h3⟩
theorem drOk_ext {D : Dw} {H H' : Hp} (h : DrOk D H) (e : ExtN H H') : DrOk D H' := by
  obtain ⟨ls, cs, r, t, d⟩ := h
  exact ⟨ls, cs, r, t, e _ _ d.hd (fun _ z => nomatch z), e _ _ d.hl (fun _ z => nomatch z), e _ _ d.hc (fun _ z => nomatch z), d.ne, d.nl, d.nc⟩
def KpN (D : Dw) (H H' : Hp) : Prop := ∀ b o, H b = some o → b ≠ D.d → b ≠ D.l → (∀ ps, o ≠ .tbl ps) → H' b = some o
theorem KpN.of {D : Dw} {H H' : Hp} (k : Kp D H H') : KpN D H H' := fun b o h n m _ => k b o h n m
theorem KpN.ext {D : Dw} {H H' : Hp} (k : ExtN H H') : KpN D H H' := fun b o h _ _ t => k b o h t
theorem KpN.trans {D : Dw} {H H1 H2 : Hp} (a : KpN D H H1) (b : KpN D H1 H2) : KpN D H H2 := fun c o h n m t => b c o (a c o h n m t) n m t
theorem tabs_kp {D : Dw} {Ts : List (Addr × Str)} {H H' : Hp} (t : Tabs Ts H) (dr : DrOk D H) (k : Kp D H H') : Tabs Ts H' := fun p hp => by
  obtain ⟨ps, h1, h2, h3⟩ := t p hp
  obtain ⟨ls, cs, r, tt, d⟩ := dr
  refine ⟨ps, k _ _ h1 (d.dne h1 fun _ z => nomatch z) (d.lne h1 fun _ z => nomatch z), h2, fun pos cv hc => ?_⟩
  obtain ⟨c, e1, e2⟩ := h3 pos cv hc
  exact ⟨c, e1, k _ _ e2 (d.dne e2 fun _ z => nomatch z) (d.lne e2 fun _ z => nomatch z)⟩
end
end Tt
set_option maxRecDepth 100000
set_option maxHeartbeats 4000000
namespace EnS
open PySem PySem.Spec PyProof.Rows
open AutoSeq1 (wpAny_loadPart')
theorem meets_newS (x : Str) (t : Tok) :
    Meets (Builtin.«enumerate.__new__» ⟨[.type "enumerate", .str x t], []⟩) (fun _ R s => 
      R (.ok (.ret (.ref (s.heap.push { cls := .type (strIterType x), data := .fields #[.str x t, .int 0 0] }).objs.size)))
        { s with heap := (s.heap.push { cls := .type (strIterType x), data := .fields #[.str x t, .int 0 0] }).push { cls := .type "enumerate", data := .fields #[.none, .bool false, .ref s.heap.objs.size, rawInt 0, .none, .none] } }) :=
  .of_wp fun prog w A R s h => by
    obtain ⟨hp, g, d, tk, os⟩ := s
    have hsub := PySem.sub_enumerate
    wp_walk
    refine wpAny_stack_any fun st => wpAny_pure ?_
    split
    · rename_i c _ _ _ _ _
      cases (c == Value.type "enumerate")
      · wp_walk using PySem.wpAny_pyIter_strU
        exact ⟨_, rfl, h⟩
      · wp_walk using PySem.wpAny_pyIter_strU
        exact ⟨_, rfl, h⟩
    · wp_walk using PySem.wpAny_pyIter_strU
      exact ⟨_, rfl, h⟩
section
variable {prog : Program} {w : World} {A : Around} {E : Value → Shared → Prop} {s : Shared}
theorem call_enumS {x : Str} {t : Tok} {Q : Value → Shared → Prop}
    (h : ∀ h', IsEnum h' (s.heap.objs.size + 1) s.heap.objs.size 0 .none → h'.IsStrIter s.heap.objs.size (strIterType x) x t 0 → h'.objs.size = s.heap.objs.size + 2 →
      (∀ b o, s.heap.get? b = some o → h'.get? b = some o) → Q (.ref (s.heap.objs.size + 1)) { s with heap := h' }) :
    wpAny (model prog w) A (call (.type "enumerate") [.str x t]) Q E s := by
  refine callType_new PySem.F.called_enumerate (by decide) (PySem.F.typeCall_enumerate_1 _) (PySem.F.newCall_enumerate_1 _) (fun obj => PySem.F.args_object_init_2 obj _) PySem.F.entry_enumerate_new
    (meets_newS x t) ?_
  have hz : (s.heap.push { cls := .type (strIterType x), data := .fields #[.str x t, .int 0 0] }).objs.size = s.heap.objs.size + 1 := Heap.size_push ..
  show _ ∧ _
  rw [hz]
  have he : IsEnum ((s.heap.push { cls := .type (strIterType x), data := .fields #[.str x t, .int 0 0] }).push
      { cls := .type "enumerate", data := .fields #[.none, .bool false, .ref s.heap.objs.size, rawInt 0, .none, .none] }) (s.heap.objs.size + 1) s.heap.objs.size 0 .none := by
    have := Heap.get?_push_size (s.heap.push { cls := .type (strIterType x), data := .fields #[.str x t, .int 0 0] })
      (o := { cls := .type "enumerate", data := .fields #[.none, .bool false, .ref s.heap.objs.size, rawInt 0, .none, .none] }) rfl
    rw [hz] at this; exact this
  refine ⟨⟨_, he, rfl⟩, h _ he ⟨_, Heap.get?_push_of_some _ (Heap.get?_push_size _ ?_), rfl, rfl⟩ (by rw [Heap.size_push, hz]) fun b o x => Heap.get?_push_of_some _ (Heap.get?_push_of_some _ x)⟩
  rfl
end
end EnS
namespace L2
open PySem PySem.Spec PyProof.Rows HT
def Ites (z : Str) : It :=
  ⟨fun i _ => i < z.cps.size, fun i H v H' => ∃ T c, v = .ref T ∧ H T = none ∧ H' = upd H T (.tup [.int (i : Nat), .str ⟨#[c]⟩]) ∧ z.cps[i]? = some c, fun i _ => z.cps.size ≤ i⟩
theorem turn_enumS {P : Program} {w : World} {K : PySem.W.Frag} {elts : List Expr} {kk : Nat} {tpos : Pos} (z : Str) (t : Tok) (e it : Addr) :
    Turn P w K (.Tuple elts kk tpos) (Ites z) [e, it] e (fun i h => (∃ old, IsEnum h e it ((i : Nat) : Int) old) ∧ h.IsStrIter it (strIterType z) z t i ∧ e ≠ it) where
  mem := by simp
  obj := fun i h st b hb => by
    obtain ⟨⟨old, he⟩, ⟨o, ho, hc, hd⟩, _⟩ := st
    have e' : b = e ∨ b = it := by simpa using hb
    rcases e' with z | z
    · rw [z]; exact ⟨_, he, fun v q => nomatch q⟩
    · rw [z]; exact ⟨o, ho, fun v q => by rw [hd] at q; cases q⟩
  keep := fun i h h' st k => let ⟨⟨old, he⟩, hi, hne⟩ := st; ⟨⟨old, k e (by simp) _ he⟩, (let ⟨o, ho, r⟩ := hi; ⟨o, k it (by simp) o ho, r⟩), hne⟩
  item := by
    intro X hP hw hK hc i pins s σ H E I hf st hg
    subst hP hw hK
    obtain ⟨⟨old, he⟩, hit, hne⟩ := st
    have hg : i < z.cps.size := hg
    have hel : e < s.heap.objs.size := Heap.lt_size he
    have hil : it < s.heap.objs.size := by obtain ⟨_, q, _⟩ := hit; exact Heap.lt_size q
    refine PySem.wpAny_pyNext_enum_itemD (PySem.Draws.text (prog := X.prog) (w := X.w) (A := X.A.in1) (I.ok.hd hc) it z t) he hit hg hne (by simpa using hne) fun x' h' tk hP ho hst' hT hsz hk => ?_
    obtain ⟨c, u, hcx, ex⟩ := hP
    subst ex
    have hit' := hst'
    refine ⟨_, rfl, wpAny_letOwnedTupleGo_enum (s := { s with heap := h', toks := tk + 1 }) ho fun h'' he' sb => ?_⟩
    have hT2 : h''.get? s.heap.objs.size = some { cls := .type "tuple", data := .seq #[.int i tk, .str ⟨#[c]⟩ u] } := (sb.2 _ (Nat.ne_of_gt hel)).trans hT
    have new : ObjOk X.prog X.w (upd H s.heap.objs.size (.tup [.int (i : Nat), .str ⟨#[c]⟩])) h'' s.heap.objs.size (.tup [.int (i : Nat), .str ⟨#[c]⟩]) :=
      ⟨by show 2 ≤ sizeLine; decide, [.int i tk, .str ⟨#[c]⟩ u], .cons ⟨_, rfl⟩ (.cons ⟨_, rfl⟩ .nil), ⟨_, hT2, rfl, _, rfl⟩⟩
    have I1 : Inv X pins σ (upd H s.heap.objs.size (.tup [.int (i : Nat), .str ⟨#[c]⟩])) { s with heap := h'', toks := tk + 1 } :=
      I.turnedNew (ch := [e, it]) (fun b ob hb q => (sb.2 b (fun z => hb (by simp [z]))).trans (hk b ob (fun z => hb (by simp [z])) (fun z => hb (by simp [z])) q)) hf (Nat.le_refl _) new
    refine ⟨.ref s.heap.objs.size, _, I1, rfl, ⟨_, c, rfl, I.hok.fresh (Nat.le_refl _), rfl, hcx⟩, ⟨⟨.str ⟨#[c]⟩ u, ?_⟩, (let ⟨o, ho', r⟩ := hit'; ⟨o, (sb.2 it (Ne.symm hne)).trans ho', r⟩), hne⟩, fun b hb => ?_⟩
    · have e1 : ((i + 1 : Nat) : Int) = (i : Int) + 1 := by omega
      rw [e1]; exact he'
    · have hb' : b < s.heap.objs.size := by
        have e' : b = e ∨ b = it := by simpa using hb
        rcases e' with z | z
        · rw [z]; exact hel
        · rw [z]; exact hil
      rw [upd_ne (Nat.ne_of_lt hb')]
      exact (hf b hb).1
  done := by
    intro X hP hw hK hc i pins s σ H E I hf st hg
    subst hP hw hK
    obtain ⟨⟨old, he⟩, hit, hne⟩ := st
    have hg : z.cps.size ≤ i := hg
    obtain ⟨f0, f1, f2, f3, f4, f5⟩ := hf it (by simp)
    have hT : s.TypeIs (.ref e) "enumerate" := ⟨_, he, rfl⟩
    unfold pyNext
    refine wpAny_bind (wpAny_attempt (PySem.wpAny_callSpecial?_slot (name := Str.ofString "__next__") hT PySem.F.slot_enumerate_next
      (PySem.wpAny_call_entry PySem.F.slot_enumerate_next hT PySem.F.entry_enumerate_next ?_ (PySem.F.args_enumerate_next_1 _))))
    show wpAny _ _ (field (.ref e) 2 >>= _) _ _ _
    refine wpAny_bind (PySem.wpAny_field he rfl (x := .ref it) rfl ?_)
    have hx : z.cps[i]? = none := Array.getElem?_eq_none hg
    have hh : X.A.in1.handled = none := I.ok.hd hc
    cases ha : z.cps.all (· < 128)
    · have hit2 : s.heap.IsStrIter it "str_iterator" z t i := by
        have : strIterType z = "str_iterator" := by simp [strIterType, ha]
        rw [← this]; exact hit
      refine wpAny_bind (PySem.wpAny_nextOf_wide_end hh hit2 hx fun h' x eb hx' => ?_)
      obtain ⟨o, ho, hc'⟩ := hx'
      refine wpAny_bind (wpAny_isInstance (T := "StopIteration") (b := true) ⟨o, ho, hc'⟩ PySem.isSubtype_stop ?_)
      exact wpAny_pure ⟨rfl, I.turned (t' := s.toks) (fun b o hb q => eb b o hb q) f0 f1 f3 f4 f5⟩
    · have hit2 : s.heap.IsStrIter it "str_ascii_iterator" z t i := by
        have : strIterType z = "str_ascii_iterator" := by simp [strIterType, ha]
        rw [← this]; exact hit
      refine wpAny_bind (PySem.wpAny_nextOf_ascii_end hh hit2 hx fun h' x eb hx' => ?_)
      obtain ⟨o, ho, hc'⟩ := hx'
      refine wpAny_bind (wpAny_isInstance (T := "StopIteration") (b := true) ⟨o, ho, hc'⟩ PySem.isSubtype_stop ?_)
      exact wpAny_pure ⟨rfl, I.turned (t' := s.toks) (fun b o hb q => eb b o hb q) f0 f1 f3 f4 f5⟩
  self := fun A i s Q E st h => let ⟨⟨_, he⟩, _⟩ := st; wpAny_pyIter_enum he h
def iEnumS (ta : TA) : TI := fun σ H R => ta σ H fun vs H1 => ∃ z, vs = [.str z] ∧ R (Ites z) H1
theorem pi_enumS {X : Cx} {e : Expr} {ta : TA} {p pos tpos : Pos} {elts : List Expr} {kk : Nat} (hg : Gl X "enumerate") (hm : X.mg "enumerate" = none) (ha : PA X [e] ta) (hs : starEach [e] X.env = [(false, eval e X.env)] := by rfl) :
    PI X (.Tuple elts kk tpos) (.Call (.Name "enumerate" p) [e] [] pos) (iEnumS ta) := by
  refine ⟨fun pins s σ H R I h => ?_⟩
  refine Call_ (ld_blt I hg hm boot_enumerate (PyProof.Rows.callWith_type1 (thn (ha.run pos pins s σ H _ I h) fun us s1 ⟨vs, H1, I1, r1, q1⟩ => ?_) hs rfl))
  obtain ⟨z, ex, q⟩ := q1
  subst ex
  cases r1 with
  | cons r rr =>
    cases rr
    obtain ⟨t, rfl⟩ := r
    refine EnS.call_enumS fun h' he hit hsz hk => wpAny_pyIter_enum he ?_
    have I2 : Inv X pins σ H1 { s1 with heap := h' } := I1.kept (t' := s1.toks) hk
    refine ⟨s1.heap.objs.size + 1, [s1.heap.objs.size + 1, s1.heap.objs.size], _, _, H1, rfl, I2, turn_enumS z t (s1.heap.objs.size + 1) s1.heap.objs.size, ⟨⟨.none, he⟩, hit, Nat.succ_ne_self _⟩, fun b hb => ?_, q⟩
    have e' : b = s1.heap.objs.size + 1 ∨ b = s1.heap.objs.size := by simpa using hb
    have hle : s1.heap.objs.size ≤ b := by
      rcases e' with z | z
      · rw [z]; exact Nat.le_add_right _ _
      · rw [z]; exact Nat.le_refl _
    exact I1.fpOk hle (I1.hok.fresh hle)
theorem walk_enumS {z : Str} : Walk (Ites z) z.cps.size (fun _ => True) (YPair (fun i => some (.int (i : Nat))) (fun i => z.cps[i]?.map fun c => .str ⟨#[c]⟩)) := by
  refine ⟨fun i _ hi q => hi, fun _ q => Nat.le_refl _, fun i H v H' _ q y => ?_⟩
  obtain ⟨T, c, h1, h2, h3, h4⟩ := y
  exact ⟨T, .int (i : Nat), .str ⟨#[c]⟩, h1, h2, h3, rfl, by show Option.map _ z.cps[i]? = _; rw [h4]; rfl⟩
def repS (z : Str) (k : Nat) : Str := ⟨((List.replicate k z.cps.toList).flatten).toArray⟩
def rRepS : R2 := fun x y H Q => ∃ (z : Str) (k : Int), x = .str z ∧ y = .int k ∧ 0 ≤ k ∧ k ≤ 1000 ∧ z.length ≤ 1000 ∧ Q (.str (repS z k.toNat)) H
theorem foldl_app (z : Array Nat) : ∀ (k : Nat) (a : Array Nat), ((List.replicate k z).foldl (· ++ ·) a).toList = a.toList ++ (List.replicate k z.toList).flatten
  | 0, a => by simp
  | k + 1, a => by
    rw [List.replicate_succ, List.foldl_cons, foldl_app z k, List.replicate_succ, List.flatten_cons]
    simp
theorem op_repS {X : Cx} : OpR X (binaryOp .Mult) rRepS := by
  intro pins s σ H x y v u Q I rx ry h
  obtain ⟨z, k, rfl, rfl, k0, k1, hz, q⟩ := h
  obtain ⟨t, rfl⟩ := rx
  obtain ⟨t2, rfl⟩ := ry
  have hs : z.length * k.toNat ≤ 1000000 := by
    have h1 : k.toNat ≤ 1000 := by omega
    calc z.length * k.toNat ≤ 1000 * 1000 := Nat.mul_le_mul hz h1
      _ = 1000000 := rfl
  have hcap : ∀ k' : Int, 0 < k' → k' ≤ 1000 → ¬ ((z.length : Int) > (2 ^ 63 - 1) / k') := fun k' h1 h2 h3 => by
    have h4 : (2 ^ 63 - 1 : Int) / 1000 ≤ (2 ^ 63 - 1) / k' := by
      rw [Int.le_ediv_iff_mul_le h1]
      calc (2 ^ 63 - 1 : Int) / 1000 * k' ≤ (2 ^ 63 - 1) / 1000 * 1000 := Int.mul_le_mul_of_nonneg_left h2 (by decide)
        _ ≤ 2 ^ 63 - 1 := by decide
    have h5 : (1000 : Int) ≤ (2 ^ 63 - 1) / 1000 := by decide
    omega
  refine PySem.P.mul_str ?_ ?_ ?_ ?_
  · rw [decide_eq_false (by omega), decide_eq_false (by omega)]
    rfl
  · intro h1 _
    exact hcap k (by omega) k1
  · intro _ _
    have : (1000000 : Nat) ≤ sizeLine := by decide
    show decide (z.length * k.toNat > sizeLine) = false
    exact decide_eq_false (by omega)
  · have big : (1000000 : Nat) ≤ sizeLine := by decide
    by_cases c : k < 1
    · rw [if_pos c]
      have e0 : k.toNat = 0 := by omega
      have er : repS z k.toNat = Str.empty := by rw [e0]; rfl
      rw [er] at q
      exact ⟨by decide, ⟨.str Str.empty, H, I.tok _, ⟨_, rfl⟩, q⟩⟩
    · rw [if_neg c]
      by_cases d : (k == 1 || z.length == 0) = true
      · rw [if_pos d]
        have er : repS z k.toNat = z := by
          rcases Bool.or_eq_true_iff.mp d with d | d
          · have : k = 1 := by simpa using d
            subst this
            show (⟨((List.replicate 1 z.cps.toList).flatten).toArray⟩ : Str) = z
            simp
          · have : z.cps.size = 0 := by
              have d' : (z.length == 0) = true := d
              exact eq_of_beq d'
            have e1 : z.cps = #[] := Array.size_eq_zero_iff.mp this
            show (⟨((List.replicate k.toNat z.cps.toList).flatten).toArray⟩ : Str) = z
            rw [e1]
            have : ((List.replicate k.toNat (#[] : Array Nat).toList).flatten) = [] := by simp
            rw [this, ← e1]
        rw [er] at q
        exact ⟨.str z, H, I, ⟨_, rfl⟩, q⟩
      · rw [if_neg d]
        have er : (⟨(List.replicate k.toNat z.cps).foldl (· ++ ·) #[]⟩ : Str) = repS z k.toNat := by
          have := foldl_app z.cps k.toNat #[]
          show (⟨_⟩ : Str) = ⟨_⟩
          congr 1
          apply Array.toList_inj.mp
          rw [this]
          simp
        rw [er]
        refine ⟨?_, ⟨.str (repS z k.toNat), H, I.tok _, ⟨_, rfl⟩, q⟩⟩
        show (((List.replicate k.toNat z.cps.toList).flatten).toArray).size ≤ sizeLine
        rw [List.size_toArray, List.length_flatten, List.map_replicate, List.sum_replicate_nat, Array.length_toList]
        have : k.toNat * z.cps.size ≤ 1000000 := by rw [Nat.mul_comm]; exact hs
        omega
theorem vals_signs : ∀ (cs : List Nat) (vs : List Value), vs.length = cs.length → (∀ (j : Nat) (v : Value), vs[j]? = some v → ∃ c u, cs[j]? = some c ∧ v = .str ⟨#[c]⟩ u) → Vals (cs.map fun c => V.str ⟨#[c]⟩) vs
  | [], [], _, _ => .nil
  | [], _ :: _, h, _ => by cases h
  | _ :: _, [], h, _ => by cases h
  | c :: cs, v :: vs, h, al => by
    obtain ⟨c', u, h1, h2⟩ := al 0 v rfl
    have e : c = c' := Option.some.inj h1
    subst e h2
    exact .cons ⟨u, rfl⟩ (vals_signs cs vs (by simpa using h) fun j w hw => al (j + 1) w (by simpa using hw))
theorem cr_listS {X : Cx} (hc : X.calm = true) : CallR X (.type "list") (fun xs H Q => ∃ z, xs = [V.str z] ∧ z.length ≤ sizeLine ∧ ∀ p, H p = none → Q (.ref p) (upd H p (.lst (z.cps.toList.map fun c => V.str ⟨#[c]⟩)))) := by
  intro pins s σ H xs us Q I r h
  obtain ⟨z, rfl, hz, q⟩ := h
  obtain ⟨u, rfl, rx⟩ := vals1 r
  obtain ⟨t, rfl⟩ := rx
  refine PySem.call_list_str (I.ok.hd hc) z t (fun h' tk acc' c' hk hS' hacc => ?_) hz
  have vl : Vals (z.cps.toList.map fun c => V.str ⟨#[c]⟩) acc'.toList := vals_signs _ _ (by rw [Array.length_toList, Array.length_toList]; exact hacc.1) fun j v hv => by
    obtain ⟨c, u, h1, h2⟩ := hacc.2 j v (by simpa using hv)
    exact ⟨c, u, by simpa using h1, h2⟩
  have hS2 : h'.get? s.heap.objs.size = some { cls := .type "list", data := .seq acc'.toList.toArray c' } := by simpa using hS'
  exact ⟨.ref s.heap.objs.size, _, I.laid (t' := tk) hk (Nat.le_refl _) (show ObjOk X.prog X.w _ h' _ (.lst (z.cps.toList.map fun c => V.str ⟨#[c]⟩)) from ⟨by rw [List.length_map, Array.length_toList]; exact hz, acc'.toList, c', vl, hS2⟩), rfl, q _ (I.hok.fresh (Nat.le_refl _))⟩
end L2
set_option maxRecDepth 100000
set_option maxHeartbeats 4000000
namespace LamX
open PySem PySem.Spec PyProof.Rows L2
def PinO (o : Obj) : HO := .frz o (.own 0)
abbrev Pins := Addr → Option Obj
def withP (cs : Pins) (H : Hp) : Hp := fun b => match cs b with
  | some o => some (PinO o)
  | none => H b
def noP (cs : Pins) (H : Hp) : Hp := fun b => match cs b with
  | some _ => none
  | none => H b
def HasP (cs : Pins) (H : Hp) : Prop := ∀ b o, cs b = some o → H b = some (PinO o)
section
variable {cs : Pins} {H H' : Hp} {b : Addr} {o : Obj}
theorem withP_at (h : cs b = some o) : withP cs H b = some (PinO o) := by
  unfold withP
  rw [h]
theorem withP_no (h : cs b = none) : withP cs H b = H b := by
  unfold withP
  rw [h]
theorem noP_at (h : cs b = some o) : noP cs H b = none := by
  unfold noP
  rw [h]
theorem noP_no (h : cs b = none) : noP cs H b = H b := by
  unfold noP
  rw [h]
theorem hasP_with : HasP cs (withP cs H) := fun _ _ h => withP_at h
theorem with_no (h : HasP cs H) : withP cs (noP cs H) = H := funext fun b => by
  cases e : cs b with
  | none => rw [withP_no e, noP_no e]
  | some o => rw [withP_at e, h b o e]
theorem no_with (h : ∀ b o, cs b = some o → H b = none) : noP cs (withP cs H) = H := funext fun b => by
  cases e : cs b with
  | none => rw [noP_no e, withP_no e]
  | some o => rw [noP_at e, h b o e]
theorem cs_none {u : HO} (h : ∀ b o, cs b = some o → H b = none) (e : H b = some u) : cs b = none := by
  cases q : cs b with
  | none => rfl
  | some o => rw [h b o q] at e; cases e
theorem cs_noneH {u : HO} (h : HasP cs H) (e : H b = some u) (n : ∀ o, u ≠ PinO o) : cs b = none := by
  cases q : cs b with
  | none => rfl
  | some o => rw [h b o q] at e; exact absurd (Option.some.inj e).symm (n o)
end
section
variable {P : Program} {w : World} {H H' : Hp} {h : Heap} {a : Addr}
theorem objOk_up : ∀ {o : HO}, ObjOk P w H h a o → (∀ b u, H b = some u → ((∃ xs, u = .tup xs) ∨ ∃ y, u = .own y) → H' b = some u) → ObjOk P w H' h a o
  | .lst _, x, _ => x
  | .tup _, x, _ => x
  | .dK _, x, _ => x
  | .dT kvs, ⟨h1, h2, xs, pr, rest⟩, k => ⟨h1, h2, xs, Paired.mapP pr fun p q z => ⟨z.1, k _ _ z.2.1 (.inl ⟨_, rfl⟩), z.2.2⟩, rest⟩
  | .set _ _, x, _ => x
  | .ins _ _ _, ⟨h1, rest⟩, k => ⟨k _ _ h1 (.inr ⟨_, rfl⟩), rest⟩
  | .own _, x, _ => x
  | .xd _, x, _ => x
  | .rng _ _, x, _ => x
  | .frz _ u, ⟨h1, h2⟩, k => ⟨h1, objOk_up h2 k⟩
  | .tbl _, x, _ => x
  | .met _ _, x, _ => x
  | .ext _, x, _ => x
theorem hok_with {cs : Pins} (x : HOk P w H h) (n : ∀ b o, cs b = some o → H b = none) (g : ∀ b o, cs b = some o → h.get? b = some o) : HOk P w (withP cs H) h := fun a u e => by
  cases q : cs a with
  | none =>
    rw [withP_no q] at e
    exact objOk_up (x a u e) fun b u hb _ => by rw [withP_no (cs_none n hb)]; exact hb
  | some o =>
    rw [withP_at q] at e
    cases (Option.some.inj e)
    exact ⟨g a o q, ⟨o, g a o q⟩⟩
theorem hok_no {cs : Pins} (x : HOk P w H h) (n : HasP cs H) : HOk P w (noP cs H) h := fun a u e => by
  cases q : cs a with
  | some o => rw [noP_at q] at e; cases e
  | none =>
    rw [noP_no q] at e
    exact objOk_up (x a u e) fun b u hb z => by
      rw [noP_no (cs_noneH n hb fun o e => by rcases z with ⟨_, rfl⟩ | ⟨_, rfl⟩ <;> (unfold PinO at e; cases e))]
      exact hb
theorem hasP_get {cs : Pins} (x : HOk P w H h) (n : HasP cs H) {b : Addr} {o : Obj} (e : cs b = some o) : h.get? b = some o := (x b _ (n b o e)).1
end
structure PinsOf (X : Cx) (σ : L2.St) (H : Hp) (cs : Pins) : Prop where
  un : ∀ b o, cs b = some o → H b = none
  cellOf : ∀ b o, cs b = some o → ∃ x, X.env.cells.lookup x = some b
  cell : ∀ x c, X.env.cells.lookup x = some c → ∃ o v, cs c = some o ∧ o.data = .cell v
  val : ∀ (i : Nat) x v, X.N[i]? = some x → σ[i]? = some (some v) → (X.env.scope.names.lookup x = some .cell ∨ X.env.scope.names.lookup x = some .free) → ∃ c o u, X.env.cells.lookup x = some c ∧ cs c = some o ∧ o.data = .cell (some u) ∧ RelV v u
  inj : ∀ x y c, X.env.cells.lookup x = some c → X.env.cells.lookup y = some c → x = y
  has : ∀ x, (X.env.scope.names.lookup x = some .cell ∨ X.env.scope.names.lookup x = some .free) → ∃ c, X.env.cells.lookup x = some c
  len : σ.length = X.N.length
section
variable {X : Cx} {pins : List (Addr × Obj)} {σ : L2.St} {H H' : Hp} {s : Shared} {cs : Pins}
open Classical in
theorem pins_of (I : Inv X pins σ H s) : ∃ cs, PinsOf X σ H cs ∧ ∀ b o, cs b = some o → s.heap.get? b = some o := by
  have vis : ∀ x, (X.env.scope.names.lookup x = some .cell ∨ X.env.scope.names.lookup x = some .free) → Vis X.env.scope x := fun x h => h.elim (fun h => .inr (.inl h)) (fun h => .inr (.inr h))
  refine ⟨fun b => if ∃ x, X.env.cells.lookup x = some b then s.heap.get? b else none, ⟨fun b o e => ?_, fun b o e => ?_, fun x c e => ?_, fun i x v h1 h2 h3 => ?_, I.ok.inj, fun x h => I.ok.has x h, I.len⟩, fun b o e => ?_⟩
  · by_cases c : ∃ x, X.env.cells.lookup x = some b
    · obtain ⟨x, hx⟩ := c
      exact I.freeC x b hx
    · simp only [if_neg c] at e
      cases e
  · by_cases c : ∃ x, X.env.cells.lookup x = some b
    · exact c
    · simp only [if_neg c] at e
      cases e
  · obtain ⟨v, o, ho, hd⟩ := I.cell x c e
    exact ⟨o, v, by show (if ∃ x, X.env.cells.lookup x = some c then s.heap.get? c else none) = some o; rw [if_pos ⟨x, e⟩]; exact ho, hd⟩
  · obtain ⟨m, hn, hl⟩ := I.loc
    obtain ⟨u, ru, look⟩ := hl i x v h1 h2 (vis x h3)
    rcases look with ⟨k, _⟩ | ⟨_, c, hc, o, ho, hd⟩
    · have k' : X.env.scope.names.lookup x = some .local := k
      rcases h3 with h3 | h3 <;> (rw [k'] at h3; cases h3)
    · exact ⟨c, o, u, hc, by show (if ∃ x, X.env.cells.lookup x = some c then s.heap.get? c else none) = some o; rw [if_pos ⟨x, hc⟩]; exact ho, hd, ru⟩
  · by_cases c : ∃ x, X.env.cells.lookup x = some b
    · simp only [if_pos c] at e
      exact e
    · simp only [if_neg c] at e
      cases e
theorem env0_with (I : Inv X pins σ H s) (hf : ∀ x, X.fn x = true) (p : PinsOf X σ H cs) (g : ∀ b o, cs b = some o → s.heap.get? b = some o) : Env0 X.prog X.w X.K X.mg X.base X.A X.stack s (withP cs H) := by
  have e := I.env0
  have above : ∀ b o, cs b = some o → X.s_0.heap.objs.size ≤ b := fun b o q => by
    obtain ⟨x, hx⟩ := p.cellOf b o q
    exact I.ok.cab x b (hf x) hx
  refine ⟨e.frames, e.mod, fun b o q => ⟨(e.bs b o q).1, ?_⟩, e.bsz, e.funs, fun b hb => ?_, hok_with e.hok p.un g, e.bare⟩
  · cases c : cs b with
    | none => rw [withP_no c]; exact (e.bs b o q).2
    | some ob =>
      have h1 := above b ob c
      have h2 := Heap.lt_size q
      exact absurd (Nat.lt_of_lt_of_le h2 (Nat.le_trans I.ok.bsz h1)) (Nat.lt_irrefl _)
  · cases c : cs b with
    | none => rw [withP_no c]; exact e.frf b hb
    | some ob =>
      exfalso
      rcases List.mem_cons.mp (I.stkSub b hb) with z | z
      · obtain ⟨x, hx⟩ := p.cellOf b ob c
        exact I.cne x b hx z
      · obtain ⟨_, o, ho, _⟩ := I.ok.funs.mem z
        exact absurd (Nat.lt_of_lt_of_le (Heap.lt_size ho) (above b ob c)) (Nat.lt_irrefl _)
theorem ce_no {P : Program} {w : World} {outer : List Env} {Q : VK} {u : Value} {s' : Shared} (n : ∀ b o, cs b = some o → H b = none) (g : ∀ b o, cs b = some o → s.heap.get? b = some o)
    (h : CE outer P w (withP cs H) s Q u s') : CE outer P w H s (fun v G => ∃ G', G = noP cs G' ∧ HasP cs G' ∧ Q v G') u s' := by
  obtain ⟨v, G, os, bare, un, hok, r, q⟩ := h
  have hp : HasP cs G := fun b o e => un.frzs b o _ (withP_at e)
  refine ⟨v, noP cs G, os, bare, ⟨fun b o e z nf nx => ?_, fun b o e z hf nx => ?_, fun b o e z nx => ?_, fun b o e nx => un.there b o e nx, fun b xs e => ?_, fun b o t e => ?_, fun b ps e => ?_⟩, hok_no hok hp, r, G, rfl, hp, q⟩
  · cases c : cs b with
    | none => exact un.keep b o e (by rw [withP_no c]; exact z) nf nx
    | some ob =>
      have e1 := g b ob c
      rw [e] at e1
      cases e1
      exact hasP_get hok hp c
  · cases c : cs b with
    | none => exact un.slot b o e (by rw [withP_no c]; exact z) hf nx
    | some ob =>
      have e1 := g b ob c
      rw [e] at e1
      cases e1
      exact ⟨o.slots, hasP_get hok hp c⟩
  · cases c : cs b with
    | none => rw [noP_no c]; exact un.free b o e (by rw [withP_no c]; exact z) nx
    | some ob => exact noP_at c
  · have c := cs_none n e
    rw [noP_no c]
    exact un.tups b xs (by rw [withP_no c]; exact e)
  · have c := cs_none n e
    rw [noP_no c]
    exact un.frzs b o t (by rw [withP_no c]; exact e)
  · have c := cs_none n e
    obtain ⟨more, e2⟩ := un.tbls b ps (by rw [withP_no c]; exact e)
    exact ⟨more, by rw [noP_no c]; exact e2⟩
end
end LamX
set_option maxRecDepth 100000
set_option maxHeartbeats 4000000
namespace LamX
open PySem PySem.Spec PyProof.Rows L2
structure LamSN (sc scope : Scope) (as : List Str) : Prop where
  kind : scope.kind = .function
  co : scope.isCoroutine = false
  gen : scope.isGenerator = false
  cell : ∀ y ∈ scope.names, y.2 ≠ .cell
  own : ∀ y ∈ scope.names, y.2 = .local → y.1 ∈ as
  par : ∀ a ∈ as, scope.names.lookup a = some .local
  free : ∀ y ∈ scope.names, y.2 = .free → sc.names.lookup y.1 = some .cell ∨ sc.names.lookup y.1 = some .free
def lamSNB (sc scope : Scope) (as : List Str) : Bool :=
  decide (scope.kind = .function) && !scope.isCoroutine && !scope.isGenerator && (scope.names.all fun y => !decide (y.2 = .cell) && (!decide (y.2 = .local) || decide (y.1 ∈ as)) && (!decide (y.2 = .free) || decide (sc.names.lookup y.1 = some .cell) || decide (sc.names.lookup y.1 = some .free))) && as.all fun a => decide (scope.names.lookup a = some .local)
theorem lamSN_by {sc scope : Scope} {as : List Str} (h : lamSNB sc scope as = true) : LamSN sc scope as := by
  unfold lamSNB at h
  simp only [Bool.and_eq_true, Bool.or_eq_true, Bool.not_eq_true', decide_eq_true_eq, decide_eq_false_iff_not, List.all_eq_true] at h
  obtain ⟨⟨⟨⟨h1, h2⟩, h3⟩, h4⟩, h5⟩ := h
  refine ⟨h1, h2, h3, fun y hy => (h4 y hy).1.1, fun y hy e => ?_, h5, fun y hy e => ?_⟩
  · rcases (h4 y hy).1.2 with z | z
    · exact absurd e z
    · exact z
  · rcases (h4 y hy).2 with (z | z) | z
    · exact absurd e z
    · exact .inl z
    · exact .inr z
theorem LamS.n {sc scope : Scope} (L : LamS sc scope) : LamSN sc scope [] :=
  ⟨L.kind, L.co, L.gen, fun y hy => (L.own y hy).2, fun y hy e => absurd e (L.own y hy).1, (fun a h => by cases h), L.free⟩
def lamCxN (X : Cx) (as : List Str) (A : Around) (outer : List Env) (s : Shared) (H : Hp) (E : XK) (scope : Scope) (f c' : Addr) : Cx := { lamCx X A outer s H E scope f c' with N := X.N ++ as }
theorem lamCxN_nil {X : Cx} {A : Around} {outer : List Env} {s : Shared} {H : Hp} {E : XK} {scope : Scope} {f c' : Addr} : lamCxN X [] A outer s H E scope f c' = lamCx X A outer s H E scope f c' := by
  unfold lamCxN lamCx
  rw [List.append_nil]
section
variable {X : Cx} {σ : L2.St} {H1 HZ : Hp} {s1 : Shared} {cs : Pins}
theorem zip_look : ∀ (as : List Str) (us : List Value) (i : Nat) (a : Str) (u : Value), as.Nodup → as[i]? = some a → us[i]? = some u → (as.zip us).reverse.lookup a = some u := by
  intro as us i a u nd h1 h2
  have mem : (a, u) ∈ (as.zip us).reverse := by
    rw [List.mem_reverse]
    exact List.mem_of_getElem? (i := i) (by rw [List.getElem?_zip_eq_some]; exact ⟨h1, h2⟩)
  have nd2 : ((as.zip us).reverse.map (·.1)).Nodup := by
    rw [List.map_reverse]
    have h3 : ((as.zip us).map (·.1)).Sublist as := by
      clear mem h1 h2 nd
      induction as generalizing us with
      | nil => exact List.Sublist.refl _
      | cons b as ih =>
        cases us with
        | nil => exact List.nil_sublist _
        | cons v us =>
          show (b :: (as.zip us).map (·.1)).Sublist (b :: as)
          exact (ih us).cons₂ b
    have h4 : ((as.zip us).map (·.1)).Nodup := h3.nodup nd
    show List.Pairwise _ _
    rw [List.pairwise_reverse]
    exact List.Pairwise.imp (fun h => Ne.symm h) h4
  generalize (as.zip us).reverse = l at mem nd2
  induction l with
  | nil => cases mem
  | cons x l ih =>
    rw [List.map_cons, List.nodup_cons] at nd2
    rcases List.mem_cons.mp mem with e | m
    · subst e
      simp
    · have ne : ¬ a = x.1 := fun z => nd2.1 (z ▸ List.mem_map.mpr ⟨(a, u), m, rfl⟩)
      have : (a == x.1) = false := by simpa using ne
      rw [List.lookup_cons, this]
      exact ih m nd2.2
theorem pin_start {A : Around} {outer : List Env} {E : XK} {scope : Scope} {f c' : Addr} {as : List Str} {vs : List V} {us : List Value} {h₁ : Heap} {tk : Nat} (L : LamSN X.env.scope scope as) (p : PinsOf X σ H1 cs) (nd : as.Nodup) (away : ∀ a ∈ as, a ∉ X.N) (rv : Vals vs us) (hl : vs.length = as.length)
    (e0 : Env0 X.prog X.w X.K X.mg X.base A outer s1 HZ) (hp : HasP cs HZ) (hd : A.handled = none) (hns : h₁.Ns s1.heap.objs.size fun y => (as.zip us).reverse.lookup y) (kp : ∀ b o, s1.heap.get? b = some o → h₁.get? b = some o) :
    Inv (lamCxN X as A outer s1 (noP cs HZ) E scope f c') [] (σ ++ vs.map some) (noP cs HZ) { s1 with heap := h₁, toks := tk } := by
  have hfree : ∀ y ∈ scope.names, y.2 = .free → ∃ c, X.env.cells.lookup y.1 = some c := fun y hy e => p.has _ (L.free y hy e)
  have cm : ∀ {y c}, (cloFrom X.env.cells scope.names []).lookup y = some c → X.env.cells.lookup y = some c := fun {y c} e => by
    rcases cloFrom_mem (PySem.mem_of_lookup e) with hm | ⟨h1, h2⟩
    · cases hm
    · obtain ⟨c1, hc⟩ := hfree _ h1 rfl
      have hc : X.env.cells.lookup y = some c1 := hc
      have e2 : c = c1 := by
        rw [h2, hc] <;> rfl
      rw [e2]
      exact hc
  have look : ∀ {y}, scope.names.lookup y = some .free → ∃ c, (cloFrom X.env.cells scope.names []).lookup y = some c := fun {y} hl => by
    have hy : (y, NameKind.free) ∈ scope.names := PySem.mem_of_lookup hl
    exact mem_lookup (cloFrom_has (cells := X.env.cells) (acc := []) hy)
  have nz : ∀ b, HZ b = none → noP cs HZ b = none := fun b hb => by
    cases c : cs b with
    | none => rw [noP_no c]; exact hb
    | some o => exact noP_at c
  have at_ : ∀ b o, cs b = some o → h₁.get? b = some o := fun b o e => kp b o (hasP_get e0.hok hp e)
  have noA : ∀ b : Addr, b ∉ (lamCxN X as A outer s1 (noP cs HZ) E scope f c').ex := fun b z => absurd (show b ∈ ([] : List Addr) from z) (by simp)
  have hk := hok_no e0.hok hp
  have lv : vs.length = us.length := rv.length
  refine ⟨⟨e0.mod, L.kind, rfl, rfl, Nat.le_refl _, fun y z c e1 e2 => p.inj y z c (cm e1) (cm e2), fun y hy => ?_, fun y c z _ => ?_, fun _ => hd, Around.frames_deeper e0.frames, .inr ⟨rfl, rfl⟩, fun b z => absurd z (noA b), fun b o e => ⟨(e0.bs b o e).1, nz b (e0.bs b o e).2⟩, e0.bsz, fun b _ _ => noA b,
      fun b z => absurd z (noA b), e0.funs, fun b hb => nz b (e0.frf b hb)⟩,
    rfl, e0.bare, Un.kept kp, ⟨_, hns, fun i y v e1 e2 e3 => ?_⟩, fun y c e => ?_, hk.fresh (Nat.le_refl _), fun y c e => ?_, fun q hq => absurd (show q ∈ ([] : List (Addr × Obj)) ++ [] from hq) (by simp), hk.kept kp, ?_⟩
  · have hy : scope.names.lookup y = some .cell ∨ scope.names.lookup y = some .free := hy
    rcases hy with hy | hy
    · exact absurd rfl (L.cell _ (PySem.mem_of_lookup hy))
    · exact look hy
  · have z : false = true := z
    cases z
  · have e3 : Vis scope y := e3
    have e1 : (X.N ++ as)[i]? = some y := e1
    rcases Nat.lt_or_ge i X.N.length with lt | ge
    · rw [List.getElem?_append_left lt] at e1
      rw [List.getElem?_append_left (by rw [p.len]; exact lt)] at e2
      have yN : y ∈ X.N := List.mem_of_getElem? e1
      rcases e3 with k | k | k
      · exact absurd yN (away y (L.own _ (PySem.mem_of_lookup k) rfl))
      · exact absurd rfl (L.cell _ (PySem.mem_of_lookup k))
      · obtain ⟨c, o, u, hc, h2, h3, h4⟩ := p.val i y v e1 e2 (L.free _ (PySem.mem_of_lookup k) rfl)
        obtain ⟨c2, hc2⟩ := look k
        have e := cm hc2
        rw [hc] at e
        cases e
        exact ⟨u, h4, .inr ⟨.inr k, c, hc2, o, at_ c o h2, h3⟩⟩
    · rw [List.getElem?_append_right ge] at e1
      rw [List.getElem?_append_right (by rw [p.len]; exact ge), p.len, List.getElem?_map] at e2
      obtain ⟨x, hx, ex⟩ := Option.map_eq_some_iff.mp e2
      cases ex
      obtain ⟨u, hu, ru⟩ := rv.get hx
      refine ⟨u, ru, .inl ⟨L.par y (List.mem_of_getElem? e1), ?_⟩⟩
      exact zip_look as us _ y u nd e1 hu
  · obtain ⟨o, v, h1, h2⟩ := p.cell y c (cm e)
    exact ⟨v, o, at_ c o h1, h2⟩
  · obtain ⟨o, v, h1, h2⟩ := p.cell y c (cm e)
    exact noP_at h1
  · show (σ ++ vs.map some).length = (X.N ++ as).length
    rw [List.length_append, List.length_append, p.len, List.length_map, hl]
def Unp (cs : Pins) (G : Hp) : Prop := ∀ b o, cs b = some o → G b = none
theorem cx_with {P : Program} {w : World} {outer : List Env} {E : XK} {s s' : Shared} {H : Hp} {e : Value} (hok : HOk P w H s.heap) (hp : HasP cs H) (frf : ∀ b ∈ frs outer, H b = none) (h : L2.CX P w outer (noP cs H) s (fun cls d G => Unp cs G → E cls d (withP cs G)) e s') : L2.CX P w outer H s E e s' := by
  obtain ⟨a, B, G, cls, d, rfl, fl, hk, ub, na, os, ag, hE⟩ := h
  have hB : ∀ b o, cs b = some o → B.get? b = some o := fun b o c => ub.keep b o (hasP_get hok hp c) (noP_at c) fun z => by
    have := frf b z
    rw [hp b o c] at this
    cases this
  have hG : ∀ b o, cs b = some o → G b = none := fun b o c => ub.free b o (hasP_get hok hp c) (noP_at c)
  have nn : ∀ b, H b = none → cs b = none := fun b z => by
    cases c : cs b with
    | none => rfl
    | some o => rw [hp b o c] at z; cases z
  have ca : cs a = none := by
    cases c : cs a with
    | none => rfl
    | some o =>
      have h1 := hB a o c
      have h2 : B.get? a = none := fl.2.1
      rw [h2] at h1
      cases h1
  refine ⟨a, B, withP cs G, cls, d, rfl, fl, hok_with hk hG hB, ⟨fun b o e z nf => ?_, ub.slot, fun b o e z => ?_, ub.there, fun b xs e => ?_, fun b o xs e => ?_, fun b ps e => ?_⟩, by rw [withP_no ca]; exact na, os, ag, hE hG⟩
  · exact ub.keep b o e (by rw [noP_no (nn b z)]; exact z) nf
  · rw [withP_no (nn b z)]
    exact ub.free b o e (by rw [noP_no (nn b z)]; exact z)
  · have c := cs_noneH hp e fun o z => by unfold PinO at z; cases z
    rw [withP_no c]
    exact ub.tups b xs (by rw [noP_no c]; exact e)
  · cases c : cs b with
    | none =>
      rw [withP_no c]
      exact ub.frzs b o xs (by rw [noP_no c]; exact e)
    | some ob =>
      rw [hp b ob c] at e
      rw [withP_at c]
      exact e
  · have c := cs_noneH hp e fun o z => by unfold PinO at z; cases z
    obtain ⟨more, h2⟩ := ub.tbls b ps (by rw [noP_no c]; exact e)
    exact ⟨more, by rw [withP_no c]; exact h2⟩
theorem ce_with {P : Program} {w : World} {outer : List Env} {Q : VK} {s s' : Shared} {H : Hp} {u : Value} (hok : HOk P w H s.heap) (hp : HasP cs H) (frf : ∀ b ∈ frs outer, H b = none) (h : CE outer P w (noP cs H) s (fun v G => Unp cs G → Q v (withP cs G)) u s') : CE outer P w H s Q u s' := by
  obtain ⟨v, G, os, bare, un, hk, r, q⟩ := h
  have hB : ∀ b o, cs b = some o → s'.heap.get? b = some o := fun b o c => un.keep b o (hasP_get hok hp c) (noP_at c) (fun z => by
    have := frf b z
    rw [hp b o c] at this
    cases this) (by simp)
  have hG : ∀ b o, cs b = some o → G b = none := fun b o c => un.free b o (hasP_get hok hp c) (noP_at c) (by simp)
  have nn : ∀ b, H b = none → cs b = none := fun b z => by
    cases c : cs b with
    | none => rfl
    | some o => rw [hp b o c] at z; cases z
  refine ⟨v, withP cs G, os, bare, ⟨fun b o e z nf nx => ?_, fun b o e z hf nx => ?_, fun b o e z nx => ?_, un.there, fun b xs e => ?_, fun b o xs e => ?_, fun b ps e => ?_⟩, hok_with hk hG hB, r, q hG⟩
  · exact un.keep b o e (by rw [noP_no (nn b z)]; exact z) nf nx
  · exact un.slot b o e (by rw [noP_no (nn b z)]; exact z) hf nx
  · rw [withP_no (nn b z)]
    exact un.free b o e (by rw [noP_no (nn b z)]; exact z) nx
  · have c := cs_noneH hp e fun o z => by unfold PinO at z; cases z
    rw [withP_no c]
    exact un.tups b xs (by rw [noP_no c]; exact e)
  · cases c : cs b with
    | none =>
      rw [withP_no c]
      exact un.frzs b o xs (by rw [noP_no c]; exact e)
    | some ob =>
      rw [hp b ob c] at e
      rw [withP_at c]
      exact e
  · have c := cs_noneH hp e fun o z => by unfold PinO at z; cases z
    obtain ⟨more, h2⟩ := un.tbls b ps (by rw [noP_no c]; exact e)
    exact ⟨more, by rw [withP_no c]; exact h2⟩
end
def KeepX (H H' : Hp) : Prop := ∀ b o, H b = some o → ((∃ f, o = .ext f) ∨ ∃ ob u, o = .frz ob u) → H' b = some o
theorem KeepX.refl {H : Hp} : KeepX H H := fun _ _ h _ => h
theorem KeepX.trans {H H1 H2 : Hp} (a : KeepX H H1) (b : KeepX H1 H2) : KeepX H H2 := fun c o h z => b c o (a c o h z) z
theorem KeepX.ext {H H' : Hp} (e : ExtN H H') : KeepX H H' := fun b o h z => e b o h fun ps q => by
  rcases z with ⟨f, rfl⟩ | ⟨ob, u, rfl⟩ <;> cases q
structure Cal (P : Program) (w : World) (K : PySem.W.Frag) (mg : Str → Option Value) (base : Heap) (k : Nat) (rd : List V → XK → Hp → VK → Prop) (H : Hp) (fl : Addr) : Prop where
  lam : ∃ (co : Addr) (q : Str) (ps : Arguments) (bd : Expr) (lsc : Scope) (clo : List (Str × Addr)), H fl = some (LamO fl co q ps bd lsc clo)
  run : ∀ (H' : Hp), KeepX H H' → ∀ (A : Around) (outer : List Env) (s : Shared) (us : List Value) (vs : List V) (Q : VK) (E : XK), Env0 P w K mg base A outer s H' → Room (k + 1) A → Vals vs us → rd vs E H' Q →
    codeAny (model P w) A (.call (.ref fl) ⟨us, []⟩) (CR (L2.CX P w) outer P w H' s Q E) s
theorem Cal.keep {P : Program} {w : World} {K : PySem.W.Frag} {mg : Str → Option Value} {base : Heap} {k : Nat} {rd : List V → XK → Hp → VK → Prop} {H H' : Hp} {fl : Addr} (c : Cal P w K mg base k rd H fl) (x : KeepX H H') : Cal P w K mg base k rd H' fl := by
  obtain ⟨⟨co, q, ps, bd, lsc, clo, h⟩, run⟩ := c
  exact ⟨⟨co, q, ps, bd, lsc, clo, x _ _ h (.inl ⟨_, rfl⟩)⟩, fun H2 k2 => run H2 (x.trans k2)⟩
def rdP (cs : Pins) (σ : L2.St) (as : List Str) (t : XK → TE) : List V → XK → Hp → VK → Prop := fun vs E H' Q => vs.length = as.length ∧ t (fun cls d G => Unp cs G → E cls d (withP cs G)) (σ ++ vs.map some) (noP cs H') (fun v G => Unp cs G → Q v (withP cs G))
section
variable {X : Cx} {σ : L2.St} {H1 : Hp} {cs : Pins}
theorem cal_of {k : Nat} {t : XK → TE} {as : List Str} {fl co : Addr} {ps : Arguments} {bd : Expr} {lsc : Scope} (f1 : H1 fl = some (LamO fl co (X.env.qual ++ "<lambda>") ps bd lsc (cloFrom X.env.cells lsc.names []))) (f2 : H1 co = some (CodeO co (X.env.qual ++ "<lambda>"))) (L : LamSN X.env.scope lsc as) (nd : as.Nodup) (away : ∀ a ∈ as, a ∉ X.N)
    (bind : ∀ (q : Str) (cl : List (Str × Addr)) (pm cv ctv : Value) (us : List Value), us.length = as.length → bindArgs (PySem.W.kla_fn "<lambda>" q ps bd lsc cl pm cv ctv) ⟨us, []⟩ = pure (as.zip us))
    (body : ∀ (A : Around) (outer : List Env) (s : Shared) (H : Hp) (E : XK), Room k (A.deeper (lamEnv X lsc s.heap.objs.size fl co)) → PE (lamCxN X as A outer s H E lsc fl co) bd (t E)) (p : PinsOf X σ H1 cs) :
    Cal X.prog X.w X.K X.mg X.base k (rdP cs σ as t) (withP cs H1) fl := by
  have c1 := cs_none p.un f1
  have c2 := cs_none p.un f2
  refine ⟨⟨co, _, ps, bd, lsc, _, by rw [withP_no c1]; exact f1⟩, fun H' kx A outer s us vs Q E e0 room rv want => ?_⟩
  obtain ⟨hl, want⟩ := want
  have g1 : H' fl = some (LamO fl co (X.env.qual ++ "<lambda>") ps bd lsc (cloFrom X.env.cells lsc.names [])) := kx _ _ (by rw [withP_no c1]; exact f1) (.inl ⟨_, rfl⟩)
  have g2 : H' co = some (CodeO co (X.env.qual ++ "<lambda>")) := kx _ _ (by rw [withP_no c2]; exact f2) (.inl ⟨_, rfl⟩)
  have hp : HasP cs H' := fun b o c => kx _ _ (withP_at c) (.inr ⟨_, _, rfl⟩)
  have there : ObjOk X.prog X.w H' s.heap fl (LamO fl co (X.env.qual ++ "<lambda>") ps bd lsc (cloFrom X.env.cells lsc.names [])) := e0.hok fl _ g1
  obtain ⟨⟨pm, ctv, here⟩, _, _⟩ := there
  obtain ⟨⟨oc, fields, tok, ho, hf, hq⟩, _, _⟩ := e0.hok co _ g2
  have lu : us.length = as.length := by rw [← rv.length]; exact hl
  refine PySem.W.kla_callFunE room.depth here rfl L.co L.gen rfl ⟨co, oc, fields, tok, rfl, ho, hf, hq⟩ ?_
  rw [bind _ _ _ _ _ us lu]
  refine wpAny_pure (wpAny_newFunctionEnv (fun y hy => L.cell y hy) (fun y hy => L.par y.1 (List.of_mem_zip hy).1) (fun h' ns but => ⟨(e0.mod.nolimit.keeps fun b o e => (e0.bs b o e).1).fresh _ but, ?_⟩) L.kind)
  have stays : ∀ b o, s.heap.get? b = some o → h'.get? b = some o := fun b o e => but.extBut b o (Nat.ne_of_lt (Heap.lt_size e)) (Heap.get?_push_of_some _ e)
  have start := pin_start (X := X) (tk := s.toks + (as.zip us).length) (f := fl) (c' := co) (E := fun cls d G => Unp cs G → E cls d (withP cs G)) L p nd away rv hl e0 hp room.hd ns stays
  show codeAny _ _ (.expr bd (lamEnv X lsc s.heap.objs.size fl co)) _ _
  refine PySem.W.kla_codeExpr (wpAny_mono ((body _ _ s (noP cs H') _ (room.deeper _)).run [] _ _ (noP cs H') _ start want) (fun v s' ⟨x, G2, J2, rx, q⟩ => ?_) fun e s' q => wpAny_mono q (fun _ s2 z => ?_) (fun e2 s2 z => ?_))
  · exact ce_with e0.hok hp e0.frf ⟨x, G2, J2.os, J2.bare, J2.base, J2.hok, rx, q⟩
  · exact cx_with e0.hok hp e0.frf z
  · exact cx_with e0.hok hp e0.frf z
end
end LamX
set_option maxRecDepth 100000
set_option maxHeartbeats 4000000
namespace LamX
open PySem PySem.Spec PyProof.Rows L2
structure LamIs1 (X : Cx) (a : Str) (k : Nat) (t : XK → TE) (fl co : Addr) (o : HO) : Prop where
  ex : ∃ (ps : Arguments) (bd : Expr) (lsc : Scope), o = LamO fl co (X.env.qual ++ "<lambda>") ps bd lsc (cloFrom X.env.cells lsc.names []) ∧ LamSN X.env.scope lsc [a] ∧ a ∉ X.N ∧
    (∀ (q : Str) (cl : List (Str × Addr)) (pm cv ctv u : Value), bindArgs (PySem.W.kla_fn "<lambda>" q ps bd lsc cl pm cv ctv) ⟨[u], []⟩ = pure [(a, u)]) ∧
    ∀ (A : Around) (outer : List Env) (s : Shared) (H : Hp) (E : XK), Room k (A.deeper (lamEnv X lsc s.heap.objs.size fl co)) → PE (lamCxN X [a] A outer s H E lsc fl co) bd (t E)
def IsLam1 (X : Cx) (a : Str) (k : Nat) (q : Str) (t : XK → TE) (G : Hp) (v : V) : Prop := ∃ (fl co : Addr) (o : HO), v = .ref fl ∧ G fl = some o ∧ LamIs1 X a k t fl co o ∧ G co = some (CodeO co q)
theorem IsLam1.ext {X : Cx} {a : Str} {k : Nat} {q : Str} {t : XK → TE} {G G' : Hp} {v : V} (h : IsLam1 X a k q t G v) (e : ExtN G G') : IsLam1 X a k q t G' v := by
  obtain ⟨fl, co, o, ev, h1, h2, h3⟩ := h
  obtain ⟨ps, bd, lsc, rfl, _⟩ := h2.ex
  exact ⟨fl, co, _, ev, e _ _ h1 lamO_ne, h2, e _ _ h3 codeO_ne⟩
def tLamV1 (X : Cx) (Ts : List (Addr × Str)) (a : Str) (k : Nat) (q : Str) (t : XK → TE) : TE := fun _ H Q => Tabs Ts H ∧ ∀ v G, ExtN H G → Tabs Ts G → IsLam1 X a k q t G v → (∀ a, v = .ref a → H a = none) → Q v G
section
variable {X : Cx}
theorem pe_lamV1 {Ts : List (Addr × Str)} {c P : Addr} {a : Str} {k : Nat} {q : Str} {ps : Arguments} {bd : Expr} {lsc : Scope} {t : XK → TE} {pos : Pos} (TB : TabB X.base X.mg c P) (own : X.env.code = .ref c) (eq : X.env.qual ++ "<lambda>" = q)
    (mem : (P, q) ∈ Ts) (uni : ∀ p ∈ Ts, p.1 = P → p.2 = q) (L : LamSN X.env.scope lsc [a]) (away : a ∉ X.N) (nodef : defaultsOf ps X.env = ([], []))
    (bind : ∀ (q : Str) (cl : List (Str × Addr)) (pm cv ctv u : Value), bindArgs (PySem.W.kla_fn "<lambda>" q ps bd lsc cl pm cv ctv) ⟨[u], []⟩ = pure [(a, u)])
    (body : ∀ (A : Around) (outer : List Env) (s : Shared) (H : Hp) (E : XK) (fl co : Addr), Room k (A.deeper (lamEnv X lsc s.heap.objs.size fl co)) → PE (lamCxN X [a] A outer s H E lsc fl co) bd (t E)) :
    PE X (.Lambda ps bd lsc pos) (tLamV1 X Ts a k q t) := by
  subst eq
  refine ⟨fun pins s σ H Q I hyp => ?_⟩
  obtain ⟨tabs, want⟩ := hyp
  exact lam_made I TB own mem uni tabs nodef (fun y hy e => I.ok.has _ (L.free y hy e)) fun fl co G s' J x tb fH f1 f2 =>
    ⟨.ref fl, G, J, rfl, want _ _ x tb ⟨fl, co, _, rfl, f1, ⟨ps, bd, lsc, rfl, L, away, bind, fun A outer s H E room => body A outer s H E fl co room⟩, f2⟩ fun a e => by cases e; exact fH⟩
end
section
variable {X : Cx} {σ : L2.St} {H1 : Hp} {cs : Pins} {k : Nat} {q : Str} {t : XK → TE} {v : V}
theorem cal_lam (h : IsLam X k q t H1 v) (eq : X.env.qual ++ "<lambda>" = q) (p : PinsOf X σ H1 cs) : ∃ fl, v = .ref fl ∧ Cal X.prog X.w X.K X.mg X.base k (rdP cs σ [] t) (withP cs H1) fl := by
  subst eq
  obtain ⟨fl, co, o, ev, h1, h2, h3⟩ := h
  obtain ⟨ps, bd, lsc, rfl, L, noArgs, body⟩ := h2.ex
  refine ⟨fl, ev, cal_of h1 h3 L.n List.nodup_nil (fun a h => by cases h) (fun q cl pm cv ctv us hl => ?_) (fun A outer s H E room => ?_) p⟩
  · have : us = [] := List.length_eq_zero_iff.mp hl
    subst this
    exact noArgs q cl pm cv ctv
  · rw [lamCxN_nil]
    exact body A outer s H E room
theorem cal_lam1 {a : Str} (h : IsLam1 X a k q t H1 v) (eq : X.env.qual ++ "<lambda>" = q) (p : PinsOf X σ H1 cs) : ∃ fl, v = .ref fl ∧ Cal X.prog X.w X.K X.mg X.base k (rdP cs σ [a] t) (withP cs H1) fl := by
  subst eq
  obtain ⟨fl, co, o, ev, h1, h2, h3⟩ := h
  obtain ⟨ps, bd, lsc, rfl, L, away, bind, body⟩ := h2.ex
  refine ⟨fl, ev, cal_of h1 h3 L (by simp) (fun b h => by rw [List.mem_singleton.mp h]; exact away) (fun q cl pm cv ctv us hl => ?_) (fun A outer s H E room => body A outer s H E room) p⟩
  match us, hl with
  | [u], _ => exact bind q cl pm cv ctv u
end
theorem lamO_fn {P : Program} {w : World} {H : Hp} {h : Heap} {fl co : Addr} {q : Str} {ps : Arguments} {bd : Expr} {lsc : Scope} {clo : List (Str × Addr)} (x : ObjOk P w H h fl (LamO fl co q ps bd lsc clo)) : PySem.W.FnAt fl h := by
  obtain ⟨⟨pm, ctv, here⟩, _, _⟩ := x
  exact ⟨_, _, _, _, here⟩
section
variable {X : Cx} {E : XK} {k i : Nat} {a : Str} {p pos : Pos}
theorem run_cal {pins : List (Addr × Obj)} {σ : L2.St} {H : Hp} {s : Shared} {Q : VK} {us : List Value} {vs : List V} {fl : Addr} {rd : List V → XK → Hp → VK → Prop} (c : Cal X.prog X.w X.K X.mg X.base k rd H fl) (hr : Room (k + 1) X.A) (hx : Passes (L2.CX X.prog X.w) X E) (I : Inv X pins σ H s) (r : Vals vs us) (want : rd vs E H Q) :
    wpAny (model X.prog X.w) X.A (call (.ref fl) us) (EP X pins σ Q) X.xe s := by
  refine wpAny_call (codeAny_mono (c.run H .refl X.A X.stack s us vs Q E I.env0 hr r want) fun r s' hq => ?_)
  cases r with
  | error e => exact hx pins σ H s e s' I hq
  | ok fl =>
    cases fl with
    | ret u => exact I.after hq
    | next => exact False.elim hq
    | brk => exact False.elim hq
    | cont => exact False.elim hq
def tCalV (X : Cx) (k i : Nat) (E : XK) : TE := fun τ G Q => ∃ fl rd, τ[i]? = some (some (.ref fl)) ∧ Cal X.prog X.w X.K X.mg X.base k rd G fl ∧ rd [] E G Q
theorem pe_calV (hr : Room (k + 1) X.A) (hN : X.N[i]? = some a) (hv : Vis X.env.scope a) (hx : Passes (L2.CX X.prog X.w) X E) (hdb : (a == ("__debug__" : Str)) = false := by decide) (hcd : (a == ("__classdict__" : Str)) = false := by decide) :
    PE X (.Call (.Name a p) [] [] pos) (tCalV X k i E) := by
  refine ⟨fun pins s σ H Q I h => ?_⟩
  obtain ⟨fl, rd, hs, c, want⟩ := h
  refine wpAny_Call_Name_kw (thn ((pe_var (pos := p) hN hv hdb hcd).run pins s σ H (fun v H1 => v = .ref fl ∧ H1 = H) I ⟨.ref fl, hs, rfl, rfl⟩) fun u s1 ⟨v, H1, I1, r1, q1⟩ => ?_)
  obtain ⟨rfl, rfl⟩ := q1
  obtain rfl : u = Value.ref fl := r1
  obtain ⟨co, q, ps, bd, lsc, clo, l⟩ := c.lam
  exact PySem.W.callWith_F0 (lamO_fn (I1.hok _ _ l)) (run_cal c hr hx I1 .nil want)
def tCalVN (X : Cx) (k i : Nat) (E : XK) (t : TA) : TE := fun τ G Q => ∃ fl rd, τ[i]? = some (some (.ref fl)) ∧ Cal X.prog X.w X.K X.mg X.base k rd G fl ∧ t τ G fun vs G1 => KeepX G G1 ∧ rd vs E G1 Q
theorem pe_calVN {e : Expr} {es : List Expr} {t : TA} (hr : Room (k + 1) X.A) (hN : X.N[i]? = some a) (hv : Vis X.env.scope a) (hx : Passes (L2.CX X.prog X.w) X E) (ha : PA X (e :: es) t) (hdb : (a == ("__debug__" : Str)) = false := by decide) (hcd : (a == ("__classdict__" : Str)) = false := by decide)
    (he : starEach (e :: es) X.env = (false, eval e X.env) :: starEach es X.env := by rfl) (hpl : (backTo pos (starEach es X.env)).any (·.1) = false := by rfl) :
    PE X (.Call (.Name a p) (e :: es) [] pos) (tCalVN X k i E t) := by
  refine ⟨fun pins s σ H Q I h => ?_⟩
  obtain ⟨fl, rd, hs, c, want⟩ := h
  refine wpAny_Call_Name_kw (thn ((pe_var (pos := p) hN hv hdb hcd).run pins s σ H (fun v H1 => v = .ref fl ∧ H1 = H) I ⟨.ref fl, hs, rfl, rfl⟩) fun u s1 ⟨v, H1, I1, r1, q1⟩ => ?_)
  obtain ⟨rfl, rfl⟩ := q1
  obtain rfl : u = Value.ref fl := r1
  obtain ⟨co, q, ps, bd, lsc, clo, l⟩ := c.lam
  refine PySem.W.callWith_F (lamO_fn (I1.hok _ _ l)) (thn (ha.run pos pins s1 σ _ _ I1 want) fun us s2 ⟨vs, H2, I2, r, kx, q⟩ => ?_) he hpl
  exact ⟨lamO_fn (I2.hok _ _ (kx _ _ l (.inl ⟨_, rfl⟩))), run_cal (c.keep kx) hr hx I2 r q⟩
end
end LamX
namespace Tt
open PySem L2 LamX
def tCallP (X : Cx) (sp : Sp) (t : TA) : TE := fun σ H Q => t σ H fun vs H1 => ∀ cs, PinsOf X σ H1 cs → sp vs (withP cs H1) (fun v G => HasP cs G → Q v (noP cs G)) E0
theorem pe_callGP {X : Cx} {k : Nat} {f : Addr} {fd : FuncData} {ps : List Str} {sp : Sp} {x : Str} {p pos : Pos} {e : Expr} {es : List Expr} {t : TA} (F : FnG X.prog X.w X.K X.mg X.base CX0 k f fd ps sp) (hgd : X.A.guards = some []) (hr : Room k X.A) (hg : Gl X x) (hm : X.mg x = some (.ref f)) (hk : PySem.W.keepIn X.K (.ref f) = true) (hb : Binds X.K fd ps []) (hfn : ∀ x, X.fn x = true)
    (ha : PA X (e :: es) t) (hdb : (x == ("__debug__" : Str)) = false := by decide) (he : starEach (e :: es) X.env = (false, eval e X.env) :: starEach es X.env := by rfl) (hpl : (backTo pos (starEach es X.env)).any (·.1) = false := by rfl) :
    PE X (.Call (.Name x p) (e :: es) [] pos) (tCallP X sp t) := by
  refine ⟨fun pins s σ H Q I h => ?_⟩
  refine wpAny_Call_Name_kw (ld_glob I hg hm ?_ hdb)
  refine PySem.W.callWith_K (h₀ := X.base) I.ok.mod.kin hk (thn (ha.run pos pins s σ H _ I h) fun us s1 ⟨vs, H1, I1, r, q⟩ => ⟨I1.kIn, ?_⟩) he hpl
  obtain ⟨cs, pc, g⟩ := pins_of I1
  have want := q cs pc
  have hl : us.length = ps.length := by rw [← r.length]; exact F.len _ _ _ _ want
  have hb' := hb s1 us I1.kIn (by simpa using hl)
  rw [List.append_nil] at hb'
  refine wpAny_call (codeAny_mono (F.run X.A X.stack s1 (withP cs H1) ⟨us, []⟩ us vs _ E0 hgd hr (env0_with I1 hfn pc g) hb' r want) fun r s' hq => ?_)
  cases r with
  | error e => exact False.elim hq
  | ok fl =>
    cases fl with
    | ret u =>
      obtain ⟨v, G, I3, rv, G', e1, hp, q'⟩ := I1.after (ce_no pc.un g hq)
      subst e1
      exact ⟨v, _, I3, rv, q' hp⟩
    | next => exact False.elim hq
    | brk => exact False.elim hq
    | cont => exact False.elim hq
end Tt
set_option maxRecDepth 100000
set_option maxHeartbeats 4000000
namespace Tt
open PySem L2
open LamX (ExtN)
section
variable {P : Program} {w : World} {K : PySem.W.Frag} {mg : Str → Option Value} {base : Heap}
def RowP (xs : List V) : Prop := ∃ (n : Nat) (row : List Int), 1 ≤ n ∧ n ≤ 6 ∧ xs = row.map V.int ∧ row.Perm (rgI (2 * n))
inductive RowV (K : PySem.W.Frag) (H : Hp) : V → Bool → Prop where
  | non {x : V} {S : String} (h : TyB K H x S) (hS : S = "NoneType" ∨ S = "int" ∨ S = "str" ∨ S = "dict") : RowV K H x false
  | lst {p : Addr} {xs : List V} {b : Bool} (h : SqL K H p xs) (n : xs.length ≤ 20) (ty : ∀ y ∈ xs, ∃ S, TyB K H y S ∧ S ≠ "dict" ∧ S ≠ "bytes") (hb : b = true ↔ RowP xs) : RowV K H (.ref p) b
  | tup {p : Addr} {xs : List V} {b : Bool} (h : SqT K H p xs) (n : xs.length ≤ 20) (ty : ∀ y ∈ xs, ∃ S, TyB K H y S ∧ S ≠ "dict" ∧ S ≠ "bytes") (hb : b = true ↔ RowP xs) : RowV K H (.ref p) b
theorem RowV.ext {H H' : Hp} {x : V} {b : Bool} (h : RowV K H x b) (e : ExtN H H') : RowV K H' x b := by
  cases h with
  | non h hS => exact .non (tyB_ext h e) hS
  | lst h n ty hb => exact .lst (sqL_ext e h) n (fun y hy => (ty y hy).elim fun S t => ⟨S, tyB_ext t.1 e, t.2⟩) hb
  | tup h n ty hb => exact .tup (sqT_ext e h) n (fun y hy => (ty y hy).elim fun S t => ⟨S, tyB_ext t.1 e, t.2⟩) hb
theorem map_int_inj : ∀ {a b : List Int}, a.map V.int = b.map V.int → a = b
  | [], [], _ => rfl
  | [], _ :: _, h => by cases h
  | _ :: _, [], h => by cases h
  | x :: a, y :: b, h => by
    simp only [List.map_cons, List.cons.injEq, V.int.injEq] at h
    rw [h.1, map_int_inj h.2]
theorem all_ints : ∀ {xs : List V}, xs.all isI = true → ∃ row : List Int, xs = row.map V.int
  | [], _ => ⟨[], rfl⟩
  | x :: xs, h => by
    rw [List.all_cons, Bool.and_eq_true] at h
    obtain ⟨row, e⟩ := all_ints h.2
    cases x with
    | int i => exact ⟨i :: row, by rw [e]; rfl⟩
    | _ => exact absurd h.1 (by simp [isI])
theorem lenIn_of {n m : Nat} (h : n = 2 * m) (h1 : 1 ≤ m) (h6 : m ≤ 6) : inV (.int (n : Int)) [.int 2, .int 4, .int 6, .int 8, .int 10, .int 12] = true := by
  subst h
  have : m = 1 ∨ m = 2 ∨ m = 3 ∨ m = 4 ∨ m = 5 ∨ m = 6 := by omega
  rcases this with rfl | rfl | rfl | rfl | rfl | rfl <;> rfl
theorem lenIn {n : Nat} (hn : n ≤ 20) (h : inV (.int (n : Int)) [.int 2, .int 4, .int 6, .int 8, .int 10, .int 12] = true) : ∃ m, 1 ≤ m ∧ m ≤ 6 ∧ n = 2 * m := by
  have z : ∀ k : Fin 21, inV (.int ((k.val : Nat) : Int)) [.int 2, .int 4, .int 6, .int 8, .int 10, .int 12] = true → (k.val % 2 = 0 ∧ 2 ≤ k.val ∧ k.val ≤ 12) := by decide
  obtain ⟨a, b, c⟩ := z ⟨n, by omega⟩ h
  have a' : n % 2 = 0 := a
  have b' : 2 ≤ n := b
  have c' : n ≤ 12 := c
  exact ⟨n / 2, by omega, by omega, by omega⟩
def spRowV (K : PySem.W.Frag) : Sp := fun vs H Q _ => ∃ (x : V) (b : Bool), vs = [x] ∧ RowV K H x b ∧ ∀ H', Same H H' → Q (.bl b) H'
theorem ok_is_row (T : Txt K mg) : FnOk P w K mg base CX0 3 T.is_row.a T.is_row.fd ["row"] (spRowV K) := by
  refine T.is_row.F.ok sc_is_row (fun vs H Q E h => ?_) (fun cdv A outer s H vs Q E hr h => ?_)
  · obtain ⟨x, b, rfl, _⟩ := h
    rfl
  · obtain ⟨x, b, rfl, hv, k⟩ := h
    have nd := sc_is_row.nd
    cases hv with
    | @non x S h hS =>
      refine ⟨_, (pss_cons (ps_if (PW.pt (pw_or (pt_not (pt_val (pe_call (ok_is_list T) (hr.mono (by decide)) (by rfl) T.is_list.g T.is_list.k T.is_list.b .nil pass0 (pa_cons (pv 0) pa_nil)))) (pw_or1 (pt_cmpR op_notIn_seq (pe_callB call_len_seq (by rfl) T.zlen (by decide +kernel) (pa_cons (pv 0) pa_nil)) (pe_tup (pa_cons pe_int (pa_cons pe_int (pa_cons pe_int (pa_cons pe_int (pa_cons pe_int (pa_cons pe_int pa_nil))))))) rfl))))
      (pss_one (ps_ret pe_bl))
      pss_nil)
    (pss_one (ps_ret (pe_and (pe_callB (cr_all rfl) (by rfl) T.zall (by decide +kernel) (pa_cons (pe_lc (own := [("end", 1)]) (g := gName 1) rfl nd (pi_tup (pv 0)) (blkOk_by (own := [("end", 1)]) (N := N_is_row) (sc := defScope s_is_row) (by decide +kernel)) (fun _ _ _ _ _ => pg_name (i := 1) nd rfl (Or.inl rfl)) (fun _ _ _ _ _ => pts_nil) (fun _ _ _ _ _ => (pe_call (ok_is_number T) (hr.mono (by decide)) (by rfl) T.is_number.g T.is_number.k T.is_number.b .nil pass0 (pa_cons (pv 1) pa_nil)))) pa_nil)) (pe_one (pe_cmpR (op_eqD hr.units) (pe_callB cr_sortedS2 (by rfl) T.zsorted (by decide +kernel) (pa_cons (pv 0) pa_nil)) (pe_listRg rfl (by rfl) T.zlist (prg_1 (by rfl) T.zrange (pe_callB call_len_seq (by rfl) T.zlen (by decide +kernel) (pa_cons (pv 0) pa_nil)))) (nomark _))))))), ?_⟩
      refine ⟨_, rfl, _, _, rfl, h, _, rfl, ?_⟩
      rcases hS with rfl | rfl | rfl | rfl <;> exact iteT (k _ fun _ _ z => z)
    | @lst t xs b h n ty hb =>
      refine ⟨_, (pss_cons (ps_if (PW.pt (pw_or (pt_not (pt_val (pe_call (ok_is_list T) (hr.mono (by decide)) (by rfl) T.is_list.g T.is_list.k T.is_list.b .nil pass0 (pa_cons (pv 0) pa_nil)))) (pw_or1 (pt_cmpR op_notIn_seq (pe_callB call_len_seq (by rfl) T.zlen (by decide +kernel) (pa_cons (pv 0) pa_nil)) (pe_tup (pa_cons pe_int (pa_cons pe_int (pa_cons pe_int (pa_cons pe_int (pa_cons pe_int (pa_cons pe_int pa_nil))))))) rfl))))
      (pss_one (ps_ret pe_bl))
      pss_nil)
    (pss_one (ps_ret (pe_and (pe_callB (cr_all rfl) (by rfl) T.zall (by decide +kernel) (pa_cons (pe_lc (own := [("end", 1)]) (g := gName 1) rfl nd (pi_list (pv 0)) (blkOk_by (own := [("end", 1)]) (N := N_is_row) (sc := defScope s_is_row) (by decide +kernel)) (fun _ _ _ _ _ => pg_name (i := 1) nd rfl (Or.inl rfl)) (fun _ _ _ _ _ => pts_nil) (fun _ _ _ _ _ => (pe_call (ok_is_number T) (hr.mono (by decide)) (by rfl) T.is_number.g T.is_number.k T.is_number.b .nil pass0 (pa_cons (pv 1) pa_nil)))) pa_nil)) (pe_one (pe_cmpR (op_eqD hr.units) (pe_callB cr_sortedS2 (by rfl) T.zsorted (by decide +kernel) (pa_cons (pv 0) pa_nil)) (pe_listRg rfl (by rfl) T.zlist (prg_1 (by rfl) T.zrange (pe_callB call_len_seq (by rfl) T.zlen (by decide +kernel) (pa_cons (pv 0) pa_nil)))) (nomark _))))))), ?_⟩
      refine ⟨_, rfl, _, _, rfl, .lst h, _, rfl, iteF ?_⟩
      refine ⟨_, rfl, t, _, rfl, .inl h, (by show 6 ≤ sizeLine; decide), fun p hp => ?_⟩
      refine ⟨p, _, rfl, .inr (SqT.of upd_same), rfl, rfl, _, rfl, ?_⟩
      have s1 : Same H (upd H p (.tup [.int 2, .int 4, .int 6, .int 8, .int 10, .int 12])) := same_new hp
      generalize upd H p (.tup [.int 2, .int 4, .int 6, .int 8, .int 10, .int 12]) = H1 at s1
      refine ite2 (fun c => ?_) (fun c => ?_)
      · have hf : b = false := by
          cases b with
          | false => rfl
          | true =>
            obtain ⟨n, row, n1, n6, e, pm⟩ := hb.mp rfl
            have hl : xs.length = 2 * n := by rw [e, List.length_map, perm_len pm]
            have c' : (!inV (.int (xs.length : Int)) [.int 2, .int 4, .int 6, .int 8, .int 10, .int 12]) = true := c
            rw [lenIn_of hl n1 n6] at c'
            cases c'
        subst hf
        exact k _ s1
      · obtain ⟨m, m1, m6, hlen⟩ := lenIn (n := xs.length) (by omega) (by simpa using c)
        refine ⟨_, rfl, t, rfl, ⟨_, sqL_ext (.of s1) h⟩, fun D1 hD1 => lc_list (K := K) (a := t) (xs := xs) (fun i H' => H' D1 = some (.lst (((xs.take i).map isI).map V.bl)) ∧ Same H1 H')
          ⟨upd_same, same_new hD1⟩ (fun i H' _ z => sqL_ext (.of (s1.trans z.2)) h) ?_ ?_⟩
        · rintro i y H' hi ⟨h1, s2⟩
          have hil : i < xs.length := (List.getElem?_eq_some_iff.mp hi).1
          obtain ⟨S, ty', _⟩ := ty y (List.mem_of_getElem? hi)
          refine ⟨rfl, yes_t ?_⟩
          refine ⟨_, rfl, _, S, rfl, TyB.same ty' (s1.trans s2), _, h1, ?_, ?_, fun b o hb => ?_⟩
          · rw [List.length_map, List.length_map, List.length_take]
            exact small1000 (by omega)
          · rw [upd_same, List.take_add_one, hi, List.map_append, List.map_append]
            rfl
          · rw [upd_ne (ne_of_none hb hD1)]
            exact s2 b o hb
        · rintro H' ⟨h1, s2⟩
          have e2 : xs.take xs.length = xs := List.take_length
          rw [e2] at h1
          have s3 : Same H H' := s1.trans s2
          refine ⟨D1, xs.map isI, rfl, SqL.of h1, _, rfl, ?_⟩
          have hall : (xs.map isI).all id = xs.all isI := by rw [List.all_map]; rfl
          rw [hall]
          refine ite2 (fun ca => ?_) (fun ca => ?_)
          · obtain ⟨row, ex⟩ := all_ints ca
            subst ex
            rw [List.length_map] at hlen
            refine ⟨_, rfl, .inl ⟨t, row, rfl, sqL_ext (.of s3) h, fun ns' p2 pm2 pw hp2 => ?_⟩⟩
            have s4 : Same H (upd H' p2 (.lst (ns'.map V.int))) := s3.trans (same_new hp2)
            refine ⟨_, rfl, t, _, rfl, .inl (sqL_ext (.of s4) h), _, rfl, RgOk.of_le (by omega) ?_ (by omega) (by omega), fun q hq => ?_⟩
            · rw [List.length_map]
              omega
            · have e1 : (upd (upd H' p2 (.lst (ns'.map V.int))) q (.lst (rgV 0 ((row.map V.int).length : Int)))) q = some (.lst ((rgI (2 * m)).map V.int)) := by
                rw [upd_same, rgV_rgI (by omega), List.length_map, hlen, Int.toNat_natCast]
              have e2 : (upd (upd H' p2 (.lst (ns'.map V.int))) q (.lst (rgV 0 ((row.map V.int).length : Int)))) p2 = some (.lst (ns'.map V.int)) := upk hq upd_same
              refine ⟨_, _, .lst (SqL.of e2) (dpAll_ints _ ns'), .lst (SqL.of e1) (dpAll_ints _ _), shapedAll_ints _, shapedAll_ints _, ?_⟩
              rw [eqv_ints]
              have eb : decide (ns' = rgI (2 * m)) = b := by
                rw [Bool.eq_iff_iff, hb, decide_eq_true_iff]
                constructor
                · intro e
                  exact ⟨m, row, m1, m6, rfl, by rw [← e]; exact pm2.symm⟩
                · rintro ⟨n', row', a1, a2, e, pm⟩
                  have er : row = row' := map_int_inj e
                  subst er
                  have : 2 * n' = 2 * m := by rw [← hlen, perm_len pm]
                  rw [← this]
                  exact perm_sorted pm2 pw pm
              rw [eb]
              exact k _ (s4.trans (same_new hq))
          · have hf : b = false := by
              cases b with
              | false => rfl
              | true =>
                obtain ⟨n, row, n1, n6, e, pm⟩ := hb.mp rfl
                subst e
                exact absurd (by rw [List.all_map]; exact List.all_eq_true.mpr fun _ _ => rfl) ca
            subst hf
            have ca' : xs.all isI = false := by simpa using ca
            exact k _ s3
    | @tup t xs b h n ty hb =>
      refine ⟨_, (pss_cons (ps_if (PW.pt (pw_or (pt_not (pt_val (pe_call (ok_is_list T) (hr.mono (by decide)) (by rfl) T.is_list.g T.is_list.k T.is_list.b .nil pass0 (pa_cons (pv 0) pa_nil)))) (pw_or1 (pt_cmpR op_notIn_seq (pe_callB call_len_seq (by rfl) T.zlen (by decide +kernel) (pa_cons (pv 0) pa_nil)) (pe_tup (pa_cons pe_int (pa_cons pe_int (pa_cons pe_int (pa_cons pe_int (pa_cons pe_int (pa_cons pe_int pa_nil))))))) rfl))))
      (pss_one (ps_ret pe_bl))
      pss_nil)
    (pss_one (ps_ret (pe_and (pe_callB (cr_all rfl) (by rfl) T.zall (by decide +kernel) (pa_cons (pe_lc (own := [("end", 1)]) (g := gName 1) rfl nd (pi_tup (pv 0)) (blkOk_by (own := [("end", 1)]) (N := N_is_row) (sc := defScope s_is_row) (by decide +kernel)) (fun _ _ _ _ _ => pg_name (i := 1) nd rfl (Or.inl rfl)) (fun _ _ _ _ _ => pts_nil) (fun _ _ _ _ _ => (pe_call (ok_is_number T) (hr.mono (by decide)) (by rfl) T.is_number.g T.is_number.k T.is_number.b .nil pass0 (pa_cons (pv 1) pa_nil)))) pa_nil)) (pe_one (pe_cmpR (op_eqD hr.units) (pe_callB cr_sortedS2 (by rfl) T.zsorted (by decide +kernel) (pa_cons (pv 0) pa_nil)) (pe_listRg rfl (by rfl) T.zlist (prg_1 (by rfl) T.zrange (pe_callB call_len_seq (by rfl) T.zlen (by decide +kernel) (pa_cons (pv 0) pa_nil)))) (nomark _))))))), ?_⟩
      refine ⟨_, rfl, _, _, rfl, .tup h, _, rfl, iteF ?_⟩
      refine ⟨_, rfl, t, _, rfl, .inr h, (by show 6 ≤ sizeLine; decide), fun p hp => ?_⟩
      refine ⟨p, _, rfl, .inr (SqT.of upd_same), rfl, rfl, _, rfl, ?_⟩
      have s1 : Same H (upd H p (.tup [.int 2, .int 4, .int 6, .int 8, .int 10, .int 12])) := same_new hp
      generalize upd H p (.tup [.int 2, .int 4, .int 6, .int 8, .int 10, .int 12]) = H1 at s1
      refine ite2 (fun c => ?_) (fun c => ?_)
      · have hf : b = false := by
          cases b with
          | false => rfl
          | true =>
            obtain ⟨n, row, n1, n6, e, pm⟩ := hb.mp rfl
            have hl : xs.length = 2 * n := by rw [e, List.length_map, perm_len pm]
            have c' : (!inV (.int (xs.length : Int)) [.int 2, .int 4, .int 6, .int 8, .int 10, .int 12]) = true := c
            rw [lenIn_of hl n1 n6] at c'
            cases c'
        subst hf
        exact k _ s1
      · obtain ⟨m, m1, m6, hlen⟩ := lenIn (n := xs.length) (by omega) (by simpa using c)
        refine ⟨_, rfl, t, rfl, ⟨_, sqT_ext (.of s1) h⟩, fun D1 hD1 => lc_tup (K := K) (a := t) (xs := xs) (fun i H' => H' D1 = some (.lst (((xs.take i).map isI).map V.bl)) ∧ Same H1 H')
          ⟨upd_same, same_new hD1⟩ (fun i H' _ z => sqT_ext (.of (s1.trans z.2)) h) ?_ ?_⟩
        · rintro i y H' hi ⟨h1, s2⟩
          have hil : i < xs.length := (List.getElem?_eq_some_iff.mp hi).1
          obtain ⟨S, ty', _⟩ := ty y (List.mem_of_getElem? hi)
          refine ⟨rfl, yes_t ?_⟩
          refine ⟨_, rfl, _, S, rfl, TyB.same ty' (s1.trans s2), _, h1, ?_, ?_, fun b o hb => ?_⟩
          · rw [List.length_map, List.length_map, List.length_take]
            exact small1000 (by omega)
          · rw [upd_same, List.take_add_one, hi, List.map_append, List.map_append]
            rfl
          · rw [upd_ne (ne_of_none hb hD1)]
            exact s2 b o hb
        · rintro H' ⟨h1, s2⟩
          have e2 : xs.take xs.length = xs := List.take_length
          rw [e2] at h1
          have s3 : Same H H' := s1.trans s2
          refine ⟨D1, xs.map isI, rfl, SqL.of h1, _, rfl, ?_⟩
          have hall : (xs.map isI).all id = xs.all isI := by rw [List.all_map]; rfl
          rw [hall]
          refine ite2 (fun ca => ?_) (fun ca => ?_)
          · obtain ⟨row, ex⟩ := all_ints ca
            subst ex
            rw [List.length_map] at hlen
            refine ⟨_, rfl, .inr ⟨t, row, rfl, sqT_ext (.of s3) h, fun ns' p2 pm2 pw hp2 => ?_⟩⟩
            have s4 : Same H (upd H' p2 (.lst (ns'.map V.int))) := s3.trans (same_new hp2)
            refine ⟨_, rfl, t, _, rfl, .inr (sqT_ext (.of s4) h), _, rfl, RgOk.of_le (by omega) ?_ (by omega) (by omega), fun q hq => ?_⟩
            · rw [List.length_map]
              omega
            · have e1 : (upd (upd H' p2 (.lst (ns'.map V.int))) q (.lst (rgV 0 ((row.map V.int).length : Int)))) q = some (.lst ((rgI (2 * m)).map V.int)) := by
                rw [upd_same, rgV_rgI (by omega), List.length_map, hlen, Int.toNat_natCast]
              have e2 : (upd (upd H' p2 (.lst (ns'.map V.int))) q (.lst (rgV 0 ((row.map V.int).length : Int)))) p2 = some (.lst (ns'.map V.int)) := upk hq upd_same
              refine ⟨_, _, .lst (SqL.of e2) (dpAll_ints _ ns'), .lst (SqL.of e1) (dpAll_ints _ _), shapedAll_ints _, shapedAll_ints _, ?_⟩
              rw [eqv_ints]
              have eb : decide (ns' = rgI (2 * m)) = b := by
                rw [Bool.eq_iff_iff, hb, decide_eq_true_iff]
                constructor
                · intro e
                  exact ⟨m, row, m1, m6, rfl, by rw [← e]; exact pm2.symm⟩
                · rintro ⟨n', row', a1, a2, e, pm⟩
                  have er : row = row' := map_int_inj e
                  subst er
                  have : 2 * n' = 2 * m := by rw [← hlen, perm_len pm]
                  rw [← this]
                  exact perm_sorted pm2 pw pm
              rw [eb]
              exact k _ (s4.trans (same_new hq))
          · have hf : b = false := by
              cases b with
              | false => rfl
              | true =>
                obtain ⟨n, row, n1, n6, e, pm⟩ := hb.mp rfl
                subst e
                exact absurd (by rw [List.all_map]; exact List.all_eq_true.mpr fun _ _ => rfl) ca
            subst hf
            have ca' : xs.all isI = false := by simpa using ca
            exact k _ s3
end
end Tt
set_option maxRecDepth 100000
set_option maxHeartbeats 4000000
namespace Tt
open PySem L2
open LamX (ExtN)
section
variable {P : Program} {w : World} {K : PySem.W.Frag} {mg : Str → Option Value} {base : Heap}
theorem sqL_ne {H : Hp} {a p : Addr} {xs : List V} {u o : HO} (h : SqL K H a xs) (e : H p = some u) (n1 : ∀ x, u ≠ .lst x) (n2 : ∀ ob x, u ≠ .frz ob x) : SqL K (upd H p o) a xs := by
  rcases h with (h | ⟨ob, h⟩) | h
  · refine .inl (.inl ?_)
    rw [upd_ne]
    · exact h
    · intro z
      subst z
      rw [e] at h
      exact n1 _ (Option.some.inj h)
  · refine .inl (.inr ⟨ob, ?_⟩)
    rw [upd_ne]
    · exact h
    · intro z
      subst z
      rw [e] at h
      exact n2 _ _ (Option.some.inj h)
  · exact .inr h
theorem ints_ty {H : Hp} (row : List Int) : ∀ y ∈ row.map V.int, ∃ S, TyB K H y S ∧ S ≠ "dict" ∧ S ≠ "bytes" := fun y hy => by
  obtain ⟨i, _, rfl⟩ := List.mem_map.mp hy
  exact ⟨_, .int i, by decide, by decide⟩
theorem flat_ints : ∀ row : List Int, (row.map V.int).all flatV = true
  | [] => rfl
  | _ :: l => flat_ints l
theorem no_ahead {row : List Int} {x : Int} {j : Nat} (h : ∀ m, m < j → row[m]? ≠ some x) : ∀ (m : Nat) (z' : V), m < j → (row.map V.int)[m]? = some z' → eqV z' (.int x) = false := fun m z' hm hz => by
  obtain ⟨i, rfl, hi⟩ := ints_at hz
  have ne : i ≠ x := fun e => h m hm (by rw [hi, e])
  show decide (i = x) = false
  exact decide_eq_false ne
def tTurnedL (K : PySem.W.Frag) (i j : Nat) : TE := tOp (rCatF K) (tCB (rTupF K) (tCons (tSl (rSlL K) (tVar i) (tPart (tVar j)) tNoPart) tNil)) (tCB (rTupF K) (tCons (tSl (rSlL K) (tVar i) tNoPart (tPart (tVar j))) tNil))
theorem row_turnedL {σ : L2.St} {H : Hp} {Q : VK} {t : Addr} {i j st : Nat} {row : List Int} (h1 : σ[i]? = some (some (.ref t))) (h2 : σ[j]? = some (some (.int (st : Nat)))) (ht : SqL K H t (row.map V.int)) (hst : st < row.length) (hl : row.length ≤ 12)
    (k : ∀ (r : Addr) (H4 : Hp), Same H H4 → FzT H4 r ((row.drop st ++ row.take st).map V.int) → Q (.ref r) H4) : tTurnedL K i j σ H Q := by
  have hd : ((row.drop st).map V.int) ≠ [] := fun z => by
    have := congrArg List.length z
    rw [List.length_map, List.length_drop] at this
    simp at this
    omega
  have hz : ((row.drop st).map V.int).length + ((row.take st).map V.int).length ≤ sizeLine := by
    rw [List.length_map, List.length_map, List.length_drop, List.length_take]
    have : (12 : Nat) ≤ sizeLine := by decide
    omega
  refine ⟨_, h1, _, h2, st, rfl, noPart_i ⟨t, _, rfl, ht, fun p hp => ?_⟩⟩
  rw [cut_from, ← List.map_drop]
  have s1 : Same H (upd H p (.lst ((row.drop st).map V.int))) := same_new hp
  refine ⟨p, _, rfl, .inl ⟨SqL.of upd_same, fun a ob ha hob => ?_⟩⟩
  generalize upd H p (.lst ((row.drop st).map V.int)) = H1 at s1 ha
  have fa : FzT (upd H1 a (.frz ob (.tup ((row.drop st).map V.int)))) a ((row.drop st).map V.int) := FzT.new hob
  have s2 : Same H (upd H1 a (.frz ob (.tup ((row.drop st).map V.int)))) := s1.trans (same_new ha)
  generalize upd H1 a (.frz ob (.tup ((row.drop st).map V.int))) = H2 at fa s2
  refine ⟨_, h1, noPart_i ⟨_, h2, st, rfl, t, _, rfl, sqL_ext (.of s2) ht, fun p2 hp2 => ?_⟩⟩
  rw [cut_to _ (by rw [List.length_map]; omega), ← List.map_take]
  have s3 : Same H2 (upd H2 p2 (.lst ((row.take st).map V.int))) := same_new hp2
  refine ⟨p2, _, rfl, .inl ⟨SqL.of upd_same, fun b ob2 hb hob2 => ?_⟩⟩
  generalize upd H2 p2 (.lst ((row.take st).map V.int)) = H3 at s3 hb
  have fb : FzT (upd H3 b (.frz ob2 (.tup ((row.take st).map V.int)))) b ((row.take st).map V.int) := FzT.new hob2
  have s4 : Same H2 (upd H3 b (.frz ob2 (.tup ((row.take st).map V.int)))) := s3.trans (same_new hb)
  generalize upd H3 b (.frz ob2 (.tup ((row.take st).map V.int))) = H4 at fb s4
  refine ⟨a, b, _, _, rfl, rfl, (FzT.same fa s4).sq, fb.sq, hd, hz, fun z => ?_, fun z r ob hr hob => ?_⟩
  · have z0 : st = 0 := by
      have := congrArg List.length z
      rw [List.length_map, List.length_take, List.length_nil] at this
      omega
    subst z0
    refine k a _ (s2.trans s4) ?_
    have := FzT.same fa s4
    rw [show List.drop 0 row = row by simp] at this
    rw [show List.drop 0 row ++ List.take 0 row = row by simp]
    exact this
  · refine k r _ ((s2.trans s4).trans (same_new hr)) ?_
    rw [List.map_append]
    exact FzT.new hob
def trn (row : List Int) : List Int := row.drop (row.idxOf 0) ++ row.take (row.idxOf 0)
def RowErr (T : Txt K mg) (H : Hp) (E : XK) : Prop := ∀ d H', Same H H' → H' d = some (.xd [("part", .str "row")]) → E (.ref T.BadSkin.C) (some d) H'
def spSkinI (T : Txt K mg) : Sp := fun vs H Q E => ∃ (p dx : Addr) (x : V), vs = [.ref p, x] ∧ H p = some (.ins T.Skin.C dx []) ∧ ((RowV K H x false ∧ RowErr T H E) ∨
  ∃ (t : Addr) (n : Nat) (row : List Int), x = .ref t ∧ (SqL K H t (row.map V.int) ∨ FzT H t (row.map V.int)) ∧ 1 ≤ n ∧ n ≤ 6 ∧ row.Perm (rgI (2 * n)) ∧
    ∀ H', SkAt T H' p (trn row) → (∀ b o, H b = some o → b ≠ p → H' b = some o) → Q .non H')
theorem ok_Skin_init (T : Txt K mg) : FnOk P w K mg base (L2.CX P w) 4 T.Skin.fI T.Skin.fd ["self", "row"] (spSkinI T) := by
  refine T.Skin.F.okX sc_Skin_init (fun vs H Q E h => ?_) (fun cdv A outer s H vs Q E hr h => ?_)
  · obtain ⟨p, dx, x, rfl, _⟩ := h
    rfl
  · obtain ⟨p, dx, x, rfl, hp, h⟩ := h
    have nd := sc_Skin_init.nd
    have hu := hu_of hr
    rcases h with ⟨hv, he⟩ | ⟨t, n, row, rfl, ht, n1, n6, pm, k⟩
    · refine ⟨_, (pss_cons (ps_if (pt_not (pt_val (pe_call (ok_is_row T) (hr.mono (by decide)) (by rfl) T.is_row.g T.is_row.k T.is_row.b .nil pass0 (pa_cons (pv 1) pa_nil))))
      (pss_one (ps_raise rfl (takes_of rfl rfl rfl rfl) (pmk_oex T.BadSkin.o T.BadSkin.i T.BadSkin.t (ok_BadSkin_init T) (hr.mono (by decide)) T.BadSkin.b .nil pass0 (by rfl) T.BadSkin.g (pa_cons pe_str pa_nil))))
      pss_nil)
    (pss_cons (ps_set (i := 2) nd rfl (Or.inl rfl) (pe_bmF PySem.F.plainAttrs_tuple PySem.F.slot_tuple_index PySem.F.type_tuple_index mt_tup_indexI (pv 1) (pa_cons pe_int pa_nil)))
    (pss_cons (ps_fld (pv 0) (pe_op op_catF (pe_callTy call_tuple_ofF (by rfl) T.ztuple (by decide +kernel) (pa_cons (pe_slice sl_tupA (pv 1) (po_some (pv 2)) po_none) pa_nil)) (pe_callTy call_tuple_ofF (by rfl) T.ztuple (by decide +kernel) (pa_cons (pe_slice sl_tupA (pv 1) po_none (po_some (pv 2))) pa_nil))) rfl)
    (pss_cons (ps_fld (pv 0) (pe_op op_fdiv (pe_callB call_len_seq (by rfl) T.zlen (by decide +kernel) (pa_cons (pv 1) pa_nil)) pe_int) rfl)
    (pss_one (ps_fld (pv 0) (pe_callTy call_tuple_ofF (by rfl) T.ztuple (by decide +kernel) (pa_cons (pe_lc (own := [("end", 3)]) (g := gName 3) rfl nd (pi_range1 rfl T.zrange (pa_cons (pe_callB call_len_seq (by rfl) T.zlen (by decide +kernel) (pa_cons (pv 1) pa_nil)) pa_nil)) (blkOk_by (own := [("end", 3)]) (N := N_Skin_init) (sc := defScope s_Skin_init) (by decide +kernel)) (fun _ _ _ _ _ => pg_name (i := 3) nd rfl (Or.inl rfl)) (fun _ _ _ _ _ => pts_nil) (fun _ _ _ _ _ => (pe_bmFK (K := K) rfl PySem.F.plainAttrs_tuple PySem.F.slot_tuple_index PySem.F.type_tuple_index (mt_tup_indexIK (K := K) rfl) (pe_fldK (K := K) rfl (pv 0) rfl) (pa_cons (pv 3) pa_nil)))) pa_nil)) rfl)))))), ?_⟩
      refine ⟨_, rfl, x, false, rfl, hv, fun H1 s1 => ⟨_, rfl, ?_⟩⟩
      refine iteT ⟨(by show 1 ≤ 1000; decide), fun a ha => ?_⟩
      refine ⟨a, .str "row", rfl, upd_same, fun dx ndx ne => ⟨rfl, dx, ([("part", V.str "row")] : List (Str × V)), upd_same, ?_, ?_, ?_⟩⟩
      · rw [upd_ne ne, upd_same]
      · rw [upd_ne ne] at ndx
        exact ndx
      · have ndx' : H1 dx = none := by rw [upd_ne ne] at ndx; exact ndx
        refine he dx _ (fun b o hb => ?_) upd_same
        have hb1 := s1 _ _ hb
        have nb : b ≠ a := ne_of_none hb1 ha
        have nb2 : b ≠ dx := ne_of_none hb1 ndx'
        rw [upd_ne nb2, del_ne nb, upd_ne nb, upd_ne nb2, upd_ne nb]
        exact hb1
    · have hlen := perm_len pm
      rcases ht with ht | ht
      · refine ⟨_, (pss_cons (ps_if (pt_not (pt_val (pe_call (ok_is_row T) (hr.mono (by decide)) (by rfl) T.is_row.g T.is_row.k T.is_row.b .nil pass0 (pa_cons (pv 1) pa_nil))))
      (pss_one (ps_raise rfl (takes_of rfl rfl rfl rfl) (pmk_oex T.BadSkin.o T.BadSkin.i T.BadSkin.t (ok_BadSkin_init T) (hr.mono (by decide)) T.BadSkin.b .nil pass0 (by rfl) T.BadSkin.g (pa_cons pe_str pa_nil))))
      pss_nil)
    (pss_cons (ps_set (i := 2) nd rfl (Or.inl rfl) (pe_bm PySem.F.plainAttrs_list PySem.F.slot_list_index PySem.F.type_list_index mt_index (pv 1) (pa_cons pe_int pa_nil)))
    (pss_cons (ps_fld (pv 0) (pe_op op_catF (pe_callTy call_tuple_ofF (by rfl) T.ztuple (by decide +kernel) (pa_cons (pe_slice sl_list (pv 1) (po_some (pv 2)) po_none) pa_nil)) (pe_callTy call_tuple_ofF (by rfl) T.ztuple (by decide +kernel) (pa_cons (pe_slice sl_list (pv 1) po_none (po_some (pv 2))) pa_nil))) rfl)
    (pss_cons (ps_fld (pv 0) (pe_op op_fdiv (pe_callB call_len_seq (by rfl) T.zlen (by decide +kernel) (pa_cons (pv 1) pa_nil)) pe_int) rfl)
    (pss_one (ps_fld (pv 0) (pe_callTy call_tuple_ofF (by rfl) T.ztuple (by decide +kernel) (pa_cons (pe_lc (own := [("end", 3)]) (g := gName 3) rfl nd (pi_range1 rfl T.zrange (pa_cons (pe_callB call_len_seq (by rfl) T.zlen (by decide +kernel) (pa_cons (pv 1) pa_nil)) pa_nil)) (blkOk_by (own := [("end", 3)]) (N := N_Skin_init) (sc := defScope s_Skin_init) (by decide +kernel)) (fun _ _ _ _ _ => pg_name (i := 3) nd rfl (Or.inl rfl)) (fun _ _ _ _ _ => pts_nil) (fun _ _ _ _ _ => (pe_bmFK (K := K) rfl PySem.F.plainAttrs_tuple PySem.F.slot_tuple_index PySem.F.type_tuple_index (mt_tup_indexIK (K := K) rfl) (pe_fldK (K := K) rfl (pv 0) rfl) (pa_cons (pv 3) pa_nil)))) pa_nil)) rfl)))))), ?_⟩
        refine ⟨_, rfl, .ref t, true, rfl, .lst ht (by rw [List.length_map]; omega) (ints_ty row) (by simp only [true_iff]; exact ⟨n, row, n1, n6, rfl, pm⟩), fun H1 s1 => ⟨_, rfl, iteF ?_⟩⟩
        have ht1 := sqL_ext (.of s1) ht
        have hp1 := s1 _ _ hp
        have h0 : (0 : Int) ∈ row := (perm_mem pm).mpr (by omega)
        obtain ⟨i0, i1⟩ := idx_at h0
        have hst : row.idxOf 0 < row.length := List.idxOf_lt_length_of_mem h0
        refine ⟨_, rfl, .inl ⟨rfl, _, ht1⟩, t, row.map V.int, .int 0, row.idxOf 0, .int 0, rfl, rfl, ht1, rfl, flat_ints row, ints_get i0, by decide, no_ahead i1, ?_⟩
        generalize hs0 : row.idxOf 0 = st at i0 hst
        clear i1
        refine row_turnedL (K := K) (i := 1) (j := 2) rfl rfl ht1 hst (by omega) (fun r H4 s4 fr => ?_)
        generalize hrow : row.drop st ++ row.take st = row2 at fr
        have pm2 : row2.Perm (rgI (2 * n)) := by rw [← hrow]; exact (turn_perm row st).trans pm
        have hlen2 : row2.length = 2 * n := perm_len pm2
        have hp4 : H4 p = some (.ins T.Skin.C dx []) := s4 _ _ hp1
        refine ⟨_, rfl, p, T.Skin.C, dx, [], rfl, hp4, T.Skin.c, nRow T, (by show 0 < 1000; decide), ?_⟩
        have hp5 : (upd H4 p (.ins T.Skin.C dx (putF "row" (.ref r) []))) p = some (.ins T.Skin.C dx [("row", .ref r)]) := upd_same
        have fr5 : FzT (upd H4 p (.ins T.Skin.C dx (putF "row" (.ref r) []))) r (row2.map V.int) := FzT.ne fr hp4 (fun _ _ z => nomatch z)
        have ft5 : SqL K (upd H4 p (.ins T.Skin.C dx (putF "row" (.ref r) []))) t (row.map V.int) := sqL_ne (sqL_ext (.of s4) ht1) hp4 (fun _ z => nomatch z) (fun _ _ z => nomatch z)
        have k5 : ∀ b o, H b = some o → b ≠ p → (upd H4 p (.ins T.Skin.C dx (putF "row" (.ref r) []))) b = some o := fun b o hb nb => by
          rw [upd_ne nb]
          exact s4 _ _ (s1 _ _ hb)
        generalize upd H4 p (.ins T.Skin.C dx (putF "row" (.ref r) [])) = H5 at hp5 fr5 ft5 k5
        refine ⟨_, rfl, t, _, rfl, .inl ft5, _, _, rfl, rfl, ⟨by decide, by decide⟩, ?_⟩
        refine ⟨_, rfl, p, T.Skin.C, dx, _, rfl, hp5, T.Skin.c, nBands T, (by show 1 < 1000; decide), ?_⟩
        have ebands : ((row.map V.int).length : Int) / 2 = ((row2.length / 2 : Nat) : Int) := by
          rw [List.length_map, hlen2, hlen]
          rfl
        have eV : ((fun (i j : Int) => V.int (i / j)) ((row.map V.int).length : Int) 2) = V.int ((row2.length / 2 : Nat) : Int) := congrArg V.int ebands
        rw [eV]
        have hp6 : (upd H5 p (.ins T.Skin.C dx (putF "bands" (.int ((row2.length / 2 : Nat) : Int)) [("row", .ref r)]))) p = some (.ins T.Skin.C dx [("row", .ref r), ("bands", .int ((row2.length / 2 : Nat) : Int))]) := upd_same
        have fr6 : FzT (upd H5 p (.ins T.Skin.C dx (putF "bands" (.int ((row2.length / 2 : Nat) : Int)) [("row", .ref r)]))) r (row2.map V.int) := FzT.ne fr5 hp5 (fun _ _ z => nomatch z)
        have ft6 : SqL K (upd H5 p (.ins T.Skin.C dx (putF "bands" (.int ((row2.length / 2 : Nat) : Int)) [("row", .ref r)]))) t (row.map V.int) := sqL_ne ft5 hp5 (fun _ z => nomatch z) (fun _ _ z => nomatch z)
        have k6 : ∀ b o, H b = some o → b ≠ p → (upd H5 p (.ins T.Skin.C dx (putF "bands" (.int ((row2.length / 2 : Nat) : Int)) [("row", .ref r)]))) b = some o := fun b o hb nb => by
          rw [upd_ne nb]
          exact k5 b o hb nb
        generalize upd H5 p (.ins T.Skin.C dx (putF "bands" (.int ((row2.length / 2 : Nat) : Int)) [("row", .ref r)])) = H6 at hp6 fr6 ft6 k6
        refine ⟨_, rfl, t, _, rfl, .inl ft6, _, rfl, by omega, by rw [List.length_map]; omega, fun D1 hD1 => ?_⟩
        refine lc_range (lo := 0) (n := ((row.map V.int).length : Int).toNat) (fun i H' => H' D1 = some (.lst (((places row2).take i).map V.int)) ∧ Same H6 H')
          ⟨upd_same, same_new hD1⟩ ?_ ?_
        · rintro i H' hi ⟨h1, s2⟩
          have hi2 : i < row2.length := by rw [List.length_map, hlen] at hi; omega
          have hm : (i : Int) ∈ row2 := (perm_mem pm2).mpr (by omega)
          obtain ⟨j0, j1⟩ := idx_at hm
          refine ⟨rfl, yes_t ?_⟩
          refine ⟨_, rfl, p, _, _, _, _, rfl, s2 _ _ hp6, T.Skin.c, nRow T, rfl, .inr ⟨rfl, r, _, rfl, FzT.same fr6 s2⟩, ?_⟩
          refine ⟨_, rfl, r, row2, i, _, rfl, by rw [Int.zero_add], (FzT.same fr6 s2).sq, j0, j1, ?_⟩
          refine ⟨_, h1, ?_, ?_⟩
          · rw [List.length_map, List.length_take]
            exact small1000 (by omega)
          · refine ⟨?_, fun b o hb => ?_⟩
            · rw [upd_same, List.take_add_one, place_at hi2, List.map_append]
              rfl
            · rw [upd_ne (ne_of_none hb hD1)]
              exact s2 b o hb
        · rintro H' ⟨h1, s2⟩
          have e2 : (places row2).take ((row.map V.int).length : Int).toNat = places row2 := by
            refine List.take_of_length_le ?_
            unfold places
            rw [List.length_map, List.length_map, List.length_range]
            omega
          rw [e2] at h1
          refine ⟨D1, _, rfl, .inl ⟨SqL.of h1, fun q ob hq hob => ?_⟩⟩
          have s3 : Same H6 (upd H' q (.frz ob (.tup ((places row2).map V.int)))) := s2.trans (same_new hq)
          have fq : FzT (upd H' q (.frz ob (.tup ((places row2).map V.int)))) q ((places row2).map V.int) := FzT.new hob
          generalize upd H' q (.frz ob (.tup ((places row2).map V.int))) = H7 at s3 fq
          refine ⟨_, rfl, p, T.Skin.C, dx, _, rfl, s3 _ _ hp6, T.Skin.c, nPlaces T, (by show 2 < 1000; decide), ?_⟩
          refine k _ ?_ (fun b o hb nb => ?_)
          · rw [show trn row = row2 by unfold trn; rw [hs0]; exact hrow]
            exact ⟨dx, r, q, upd_same, FzT.ne (FzT.same fr6 s3) (s3 _ _ hp6) (fun _ _ z => nomatch z), FzT.ne fq (s3 _ _ hp6) (fun _ _ z => nomatch z)⟩
          · rw [upd_ne nb]
            exact s3 _ _ (k6 b o hb nb)
      · refine ⟨_, (pss_cons (ps_if (pt_not (pt_val (pe_call (ok_is_row T) (hr.mono (by decide)) (by rfl) T.is_row.g T.is_row.k T.is_row.b .nil pass0 (pa_cons (pv 1) pa_nil))))
      (pss_one (ps_raise rfl (takes_of rfl rfl rfl rfl) (pmk_oex T.BadSkin.o T.BadSkin.i T.BadSkin.t (ok_BadSkin_init T) (hr.mono (by decide)) T.BadSkin.b .nil pass0 (by rfl) T.BadSkin.g (pa_cons pe_str pa_nil))))
      pss_nil)
    (pss_cons (ps_set (i := 2) nd rfl (Or.inl rfl) (pe_bmF PySem.F.plainAttrs_tuple PySem.F.slot_tuple_index PySem.F.type_tuple_index mt_tup_indexI (pv 1) (pa_cons pe_int pa_nil)))
    (pss_cons (ps_fld (pv 0) (pe_op op_catF (pe_callTy call_tuple_ofF (by rfl) T.ztuple (by decide +kernel) (pa_cons (pe_slice sl_tupA (pv 1) (po_some (pv 2)) po_none) pa_nil)) (pe_callTy call_tuple_ofF (by rfl) T.ztuple (by decide +kernel) (pa_cons (pe_slice sl_tupA (pv 1) po_none (po_some (pv 2))) pa_nil))) rfl)
    (pss_cons (ps_fld (pv 0) (pe_op op_fdiv (pe_callB call_len_seq (by rfl) T.zlen (by decide +kernel) (pa_cons (pv 1) pa_nil)) pe_int) rfl)
    (pss_one (ps_fld (pv 0) (pe_callTy call_tuple_ofF (by rfl) T.ztuple (by decide +kernel) (pa_cons (pe_lc (own := [("end", 3)]) (g := gName 3) rfl nd (pi_range1 rfl T.zrange (pa_cons (pe_callB call_len_seq (by rfl) T.zlen (by decide +kernel) (pa_cons (pv 1) pa_nil)) pa_nil)) (blkOk_by (own := [("end", 3)]) (N := N_Skin_init) (sc := defScope s_Skin_init) (by decide +kernel)) (fun _ _ _ _ _ => pg_name (i := 3) nd rfl (Or.inl rfl)) (fun _ _ _ _ _ => pts_nil) (fun _ _ _ _ _ => (pe_bmFK (K := K) rfl PySem.F.plainAttrs_tuple PySem.F.slot_tuple_index PySem.F.type_tuple_index (mt_tup_indexIK (K := K) rfl) (pe_fldK (K := K) rfl (pv 0) rfl) (pa_cons (pv 3) pa_nil)))) pa_nil)) rfl)))))), ?_⟩
        refine ⟨_, rfl, .ref t, true, rfl, .tup ht.sq (by rw [List.length_map]; omega) (ints_ty row) (by simp only [true_iff]; exact ⟨n, row, n1, n6, rfl, pm⟩), fun H1 s1 => ⟨_, rfl, iteF ?_⟩⟩
        have ht1 := FzT.same ht s1
        have hp1 := s1 _ _ hp
        have h0 : (0 : Int) ∈ row := (perm_mem pm).mpr (by omega)
        obtain ⟨i0, i1⟩ := idx_at h0
        have hst : row.idxOf 0 < row.length := List.idxOf_lt_length_of_mem h0
        refine ⟨_, rfl, .inr ⟨rfl, t, _, rfl, ht1⟩, t, row, 0, row.idxOf 0, rfl, rfl, ht1.sq, i0, i1, ?_⟩
        generalize hs0 : row.idxOf 0 = st at i0 hst
        clear i1
        refine row_turned (K := K) (i := 1) (j := 2) rfl rfl ht1 hst (by omega) (fun r H4 s4 fr => ?_)
        generalize hrow : row.drop st ++ row.take st = row2 at fr
        have pm2 : row2.Perm (rgI (2 * n)) := by rw [← hrow]; exact (turn_perm row st).trans pm
        have hlen2 : row2.length = 2 * n := perm_len pm2
        have hp4 : H4 p = some (.ins T.Skin.C dx []) := s4 _ _ hp1
        refine ⟨_, rfl, p, T.Skin.C, dx, [], rfl, hp4, T.Skin.c, nRow T, (by show 0 < 1000; decide), ?_⟩
        have hp5 : (upd H4 p (.ins T.Skin.C dx (putF "row" (.ref r) []))) p = some (.ins T.Skin.C dx [("row", .ref r)]) := upd_same
        have fr5 : FzT (upd H4 p (.ins T.Skin.C dx (putF "row" (.ref r) []))) r (row2.map V.int) := FzT.ne fr hp4 (fun _ _ z => nomatch z)
        have ft5 : FzT (upd H4 p (.ins T.Skin.C dx (putF "row" (.ref r) []))) t (row.map V.int) := FzT.ne (FzT.same ht1 s4) hp4 (fun _ _ z => nomatch z)
        have k5 : ∀ b o, H b = some o → b ≠ p → (upd H4 p (.ins T.Skin.C dx (putF "row" (.ref r) []))) b = some o := fun b o hb nb => by
          rw [upd_ne nb]
          exact s4 _ _ (s1 _ _ hb)
        generalize upd H4 p (.ins T.Skin.C dx (putF "row" (.ref r) [])) = H5 at hp5 fr5 ft5 k5
        refine ⟨_, rfl, t, _, rfl, .inr ft5.sq, _, _, rfl, rfl, ⟨by decide, by decide⟩, ?_⟩
        refine ⟨_, rfl, p, T.Skin.C, dx, _, rfl, hp5, T.Skin.c, nBands T, (by show 1 < 1000; decide), ?_⟩
        have ebands : ((row.map V.int).length : Int) / 2 = ((row2.length / 2 : Nat) : Int) := by
          rw [List.length_map, hlen2, hlen]
          rfl
        have eV : ((fun (i j : Int) => V.int (i / j)) ((row.map V.int).length : Int) 2) = V.int ((row2.length / 2 : Nat) : Int) := congrArg V.int ebands
        rw [eV]
        have hp6 : (upd H5 p (.ins T.Skin.C dx (putF "bands" (.int ((row2.length / 2 : Nat) : Int)) [("row", .ref r)]))) p = some (.ins T.Skin.C dx [("row", .ref r), ("bands", .int ((row2.length / 2 : Nat) : Int))]) := upd_same
        have fr6 : FzT (upd H5 p (.ins T.Skin.C dx (putF "bands" (.int ((row2.length / 2 : Nat) : Int)) [("row", .ref r)]))) r (row2.map V.int) := FzT.ne fr5 hp5 (fun _ _ z => nomatch z)
        have ft6 : FzT (upd H5 p (.ins T.Skin.C dx (putF "bands" (.int ((row2.length / 2 : Nat) : Int)) [("row", .ref r)]))) t (row.map V.int) := FzT.ne ft5 hp5 (fun _ _ z => nomatch z)
        have k6 : ∀ b o, H b = some o → b ≠ p → (upd H5 p (.ins T.Skin.C dx (putF "bands" (.int ((row2.length / 2 : Nat) : Int)) [("row", .ref r)]))) b = some o := fun b o hb nb => by
          rw [upd_ne nb]
          exact k5 b o hb nb
        generalize upd H5 p (.ins T.Skin.C dx (putF "bands" (.int ((row2.length / 2 : Nat) : Int)) [("row", .ref r)])) = H6 at hp6 fr6 ft6 k6
        refine ⟨_, rfl, t, _, rfl, .inr ft6.sq, _, rfl, by omega, by rw [List.length_map]; omega, fun D1 hD1 => ?_⟩
        refine lc_range (lo := 0) (n := ((row.map V.int).length : Int).toNat) (fun i H' => H' D1 = some (.lst (((places row2).take i).map V.int)) ∧ Same H6 H')
          ⟨upd_same, same_new hD1⟩ ?_ ?_
        · rintro i H' hi ⟨h1, s2⟩
          have hi2 : i < row2.length := by rw [List.length_map, hlen] at hi; omega
          have hm : (i : Int) ∈ row2 := (perm_mem pm2).mpr (by omega)
          obtain ⟨j0, j1⟩ := idx_at hm
          refine ⟨rfl, yes_t ?_⟩
          refine ⟨_, rfl, p, _, _, _, _, rfl, s2 _ _ hp6, T.Skin.c, nRow T, rfl, .inr ⟨rfl, r, _, rfl, FzT.same fr6 s2⟩, ?_⟩
          refine ⟨_, rfl, r, row2, i, _, rfl, by rw [Int.zero_add], (FzT.same fr6 s2).sq, j0, j1, ?_⟩
          refine ⟨_, h1, ?_, ?_⟩
          · rw [List.length_map, List.length_take]
            exact small1000 (by omega)
          · refine ⟨?_, fun b o hb => ?_⟩
            · rw [upd_same, List.take_add_one, place_at hi2, List.map_append]
              rfl
            · rw [upd_ne (ne_of_none hb hD1)]
              exact s2 b o hb
        · rintro H' ⟨h1, s2⟩
          have e2 : (places row2).take ((row.map V.int).length : Int).toNat = places row2 := by
            refine List.take_of_length_le ?_
            unfold places
            rw [List.length_map, List.length_map, List.length_range]
            omega
          rw [e2] at h1
          refine ⟨D1, _, rfl, .inl ⟨SqL.of h1, fun q ob hq hob => ?_⟩⟩
          have s3 : Same H6 (upd H' q (.frz ob (.tup ((places row2).map V.int)))) := s2.trans (same_new hq)
          have fq : FzT (upd H' q (.frz ob (.tup ((places row2).map V.int)))) q ((places row2).map V.int) := FzT.new hob
          generalize upd H' q (.frz ob (.tup ((places row2).map V.int))) = H7 at s3 fq
          refine ⟨_, rfl, p, T.Skin.C, dx, _, rfl, s3 _ _ hp6, T.Skin.c, nPlaces T, (by show 2 < 1000; decide), ?_⟩
          refine k _ ?_ (fun b o hb nb => ?_)
          · rw [show trn row = row2 by unfold trn; rw [hs0]; exact hrow]
            exact ⟨dx, r, q, upd_same, FzT.ne (FzT.same fr6 s3) (s3 _ _ hp6) (fun _ _ z => nomatch z), FzT.ne fq (s3 _ _ hp6) (fun _ _ z => nomatch z)⟩
          · rw [upd_ne nb]
            exact s3 _ _ (k6 b o hb nb)
end
end Tt
set_option maxRecDepth 100000
set_option maxHeartbeats 4000000
namespace L2
open PySem PySem.Spec PyProof.Rows
theorem tuple_mulS (l : Addr) (items : Array Value) (n : Nat) (dd : Option Addr) (sl : Array (Option Value)) (x : Int) (u : Tok) (c0 : (decide (x < -(2 ^ 63)) || decide (x ≥ 2 ^ 63)) = false) (c1 : (items.isEmpty || x == 1) = true) :
    Meets (Builtin.«tuple.__mul__» ⟨[.ref l, .int x u], []⟩) (fun _ R s => s.heap.get? l = some { cls := .type "tuple", dict := dd, data := .seq items n, slots := sl } ∧ R (.ok (.ret (Value.ref l))) s) :=
  .of_wp fun prog w A R s h => by
    obtain ⟨hp, g, d, tk, os⟩ := s
    obtain ⟨hl, h⟩ := h
    have f1 := AutoSeq1.idx_int
    wp_walk using wpAny_loadPart' hl
    repeat (first
      | (refine wpAny_ite_false (decide_eq_false (by rw [c0]; exact Bool.false_ne_true)) ?_; wp_walk using wpAny_loadPart' hl)
      | (refine wpAny_ite_true (decide_eq_true (by rw [c1])) ?_; wp_walk using wpAny_loadPart' hl)
      | (refine wpAny_ite_true c1 ?_; wp_walk using wpAny_loadPart' hl))
    exact ⟨_, rfl, h⟩
def rRepA (K : PySem.W.Frag) : R2 := fun x y H Q => ∃ l k xs, x = .ref l ∧ y = .int k ∧ SqT K H l xs ∧ xs ≠ [] ∧ 1 ≤ k ∧ k ≤ 1000 ∧ xs.length ≤ 1000 ∧ (k = 1 → Q (.ref l) H) ∧ (2 ≤ k → ∀ p, H p = none → Q (.ref p) (upd H p (.tup (List.replicate k.toNat xs).flatten)))
section
variable {X : Cx} {K : PySem.W.Frag}
theorem op_repA : OpR X (binaryOp .Mult) (rRepA X.K) := by
  intro pins s σ H x y v u Q I rx ry h
  obtain ⟨l, k, xs, rfl, rfl, hT, hne, h1, h2, hz, q1, q2⟩ := h
  by_cases hk : k = 1
  · subst hk
    cases rx
    obtain ⟨t, rfl⟩ := ry
    obtain ⟨its, r, ⟨⟨cls, dd, data, sl⟩, ho, hc, n, hd⟩, hs⟩ := I.tuple hT
    simp only at hc hd
    subst hc hd
    refine wpAny_binaryOp_repeat_ref (T := "tuple") (U := "int") (by decide) ⟨_, ho, rfl⟩ (fun s' => typeIs_int s' 1 t) noFill_tuple_mul F.fills_int_mul F.slot_int_rmul repeat_tuple F.slot_int_index.lookup
      (call_meets F.slot_int_rmul (typeIs_int s 1 t) F.entry_int_rmul (F.args_int_rmul_2 _ _) (int_rmul_tuple 1 t l its.toArray n dd sl)
        ⟨ho, rfl, ⟨_, ho, rfl⟩, call_meets F.slot_tuple_mul ⟨_, ho, rfl⟩ F.entry_tuple_mul (F.args_tuple_mul_2 _ _) (tuple_mulS l its.toArray n dd sl 1 t (by decide) (by simp)) ⟨ho, ?_⟩⟩)
    exact ⟨.ref l, H, I, rfl, q1 rfl⟩
  · exact op_repT pins s σ H _ _ v u Q I rx ry ⟨l, k, xs, rfl, rfl, hT, hne, by omega, h2, hz, q2 (by omega)⟩
theorem op_repAK (h : X.K = K) : OpR X (binaryOp .Mult) (rRepA K) := by subst h; exact op_repA
def rShowS : List V → Hp → VK → Prop := fun xs H Q => ∃ x, xs = [.str x] ∧ (reprText x).length ≤ sizeLine ∧ Q (.str (reprText x)) H
theorem call_showS : CallR X (.builtin "repr") rShowS := by
  intro pins s σ H xs us Q I r h
  obtain ⟨x, rfl, hz, q⟩ := h
  obtain ⟨u, rfl, rx⟩ := vals1 r
  obtain ⟨t, rfl⟩ := rx
  exact PySem.P.repr_of_str ⟨.str (reprText x), H, I.tok _, ⟨_, rfl⟩, q⟩ hz
def rInDT (K : PySem.W.Frag) : R2 := fun x y H Q => ∃ d ds, Dp K H x d ∧ Dp K H y (.tuple ds) ∧ SeqAt.shaped d = true ∧ SeqAt.shaped (.list ds) = true ∧ Q (.bl (ds.any fun z => PyData.eqv z d)) H
theorem op_inDT (hu : X.A.units + 65 < cLine) : OpR X (compareOp .In) (rInDT X.K) := by
  intro pins s σ H x y v u Q I rx ry h
  obtain ⟨d, ds, hd, he, sd, se, q⟩ := h
  obtain ⟨as, r1⟩ := Dp.reads I d x v hd rx
  obtain ⟨bs, r2⟩ := Dp.reads I (.tuple ds) y u he ry
  exact SeqAt.in_tuple_reads r2 r1 (SeqAt.canLay_of_shaped se) (SeqAt.canLay_of_shaped sd) (room_in_shaped sd hu) ⟨.bl _, H, I, rfl, q⟩
theorem Room.units65 {k : Nat} {A : Around} (r : Room k A) : A.units + 65 < cLine := by
  have := r.un
  omega
end
end L2
set_option maxRecDepth 100000
set_option maxHeartbeats 4000000
namespace Tt
open PySem L2
open LamX (ExtN)
section
variable {P : Program} {w : World} {K : PySem.W.Frag} {mg : Str → Option Value} {base : Heap}
theorem eqv_tups : ∀ a b : List Int, PyData.eqv (.tuple (a.map PyData.int)) (.tuple (b.map PyData.int)) = decide (a = b)
  | [], [] => rfl
  | [], _ :: _ => by simp [PyData.eqv] <;> rfl
  | _ :: _, [] => by simp [PyData.eqv] <;> rfl
  | x :: a, y :: b => by
    have h := eqv_tups a b
    simp [PyData.eqv, PyData.eqvAll] at h ⊢
    rw [h]
    rfl
theorem shapedTup (a : List Int) : SeqAt.shaped (.tuple (a.map PyData.int)) = true := shapedAll_ints a
inductive EqV (T : Txt K mg) (row : List Int) (H : Hp) : V → Bool → Prop where
  | skin {q : Addr} {row2 : List Int} (h : SkAt T H q row2) : EqV T row H (.ref q) (decide (row = row2))
theorem EqV.y {T : Txt K mg} {row : List Int} {H : Hp} {y : V} {b : Bool} (h : EqV T row H y b) : EqY K H T.Skin.C y := by
  cases h with
  | skin h =>
    obtain ⟨dx, r, q, h1, _⟩ := h
    exact .ins h1
def spEqS (T : Txt K mg) : Sp := fun vs H Q _ => ∃ (p : Addr) (row : List Int) (y : V) (b : Bool), vs = [.ref p, y] ∧ SkAt T H p row ∧ EqV T row H y b ∧ Q (.bl b) H
theorem ok_Skin_eq (T : Txt K mg) : FnOk P w K mg base CX0 1 T.eqM.a T.eqM.fd ["self", "other"] (spEqS T) := by
  refine T.eqM.F.ok sc_Skin_eq (fun vs H Q E h => ?_) (fun cdv A outer s H vs Q E hr h => ?_)
  · obtain ⟨p, row, y, b, rfl, _⟩ := h
    rfl
  · obtain ⟨p, row, y, b, rfl, sk, hy, k⟩ := h
    refine ⟨_, (pss_one (ps_ret (pe_and (pe_callB call_isA (by rfl) T.zisinstance (by decide +kernel) (pa_cons (pv 1) (pa_cons (pe_glob (v := .ref T.Skin.C) rfl T.Skin.g rfl) pa_nil))) (pe_one (pe_cmpR (op_eqD hr.units) (pe_fld (pv 0) rfl) (pe_fld (pv 1) rfl) (nomark _)))))), ?_⟩
    cases hy with
    | @skin q row2 h =>
      obtain ⟨t, ht, hk⟩ := (SkAt.v h).isi
      obtain ⟨dx, r, q1, a1, a2, a3⟩ := sk
      obtain ⟨dx', r', q1', b1, b2, b3⟩ := h
      refine ⟨_, rfl, .inr ⟨_, _, t, _, true, rfl, .own T.Skin.C, ht, hk, _, rfl, iteT ?_⟩⟩
      refine ⟨_, rfl, p, T.Skin.C, dx, _, _, rfl, a1, T.Skin.c, nRow T, skF_row .., _, rfl, q, T.Skin.C, dx', _, _, rfl, b1, T.Skin.c, nRow T, skF_row .., ?_⟩
      refine ⟨_, _, .tup a2.sq (dpAll_ints _ _), .tup b2.sq (dpAll_ints _ _), shapedTup _, shapedTup _, ?_⟩
      rw [eqv_tups]
      exact k
end
end Tt
set_option maxRecDepth 100000
set_option maxHeartbeats 4000000
namespace Tt
open PySem L2
open LamX (ExtN)
theorem tC_i {v : V} {σ : L2.St} {H : Hp} {Q : VK} (h : Q v H) : tC v σ H Q := h
theorem nil_i {σ : L2.St} {H : Hp} {Q : List V → Hp → Prop} (h : Q [] H) : tNil σ H Q := h
theorem tcn {σ : L2.St} {H : Hp} {ta : TE} {tr : TA} {Q : List V → Hp → Prop} (h : ta σ H fun x H1 => tr σ H1 fun xs H2 => Q (x :: xs) H2) : tCons ta tr σ H Q := h
theorem tlst {σ : L2.St} {H : Hp} {t : TA} {Q : VK} (h : t σ H fun xs H1 => xs.length ≤ sizeLine ∧ ∀ p, H1 p = none → Q (.ref p) (upd H1 p (.lst xs))) : tLst t σ H Q := h
def sgL : List Nat := [97, 65, 98, 66, 99, 67, 100, 68, 101, 69, 102, 70]
def sgS : Str := "aAbBcCdDeEfF"
theorem sgS_eq : sgS = ⟨sgL.toArray⟩ := by rfl
def letOf (c : Nat) : Option Int := if c ∈ sgL then some (sgL.idxOf c : Int) else none
def code (l : Int) : Nat := sgL.getD l.toNat 0
theorem letOf_lt {c : Nat} {l : Int} (h : letOf c = some l) : 0 ≤ l ∧ l < 12 ∧ code l = c := by
  unfold letOf at h
  split at h
  · rename_i hc
    have e := Option.some.inj h
    subst e
    have z : ∀ c ∈ sgL, (0 : Int) ≤ (sgL.idxOf c : Int) ∧ (sgL.idxOf c : Int) < 12 ∧ code (sgL.idxOf c : Int) = c := by decide
    exact z c hc
  · cases h
theorem letOf_code {l : Int} (h0 : 0 ≤ l) (h1 : l < 12) : letOf (code l) = some l := by
  obtain ⟨n, rfl⟩ := Int.eq_ofNat_of_zero_le h0
  have z : ∀ k : Fin 12, letOf (code ((k.val : Nat) : Int)) = some ((k.val : Nat) : Int) := by decide
  exact z ⟨n, by omega⟩
theorem code_in {l : Int} (h0 : 0 ≤ l) (h1 : l < 12) : code l ∈ sgL := by
  obtain ⟨n, rfl⟩ := Int.eq_ofNat_of_zero_le h0
  have z : ∀ k : Fin 12, code ((k.val : Nat) : Int) ∈ sgL := by decide
  exact z ⟨n, by omega⟩
theorem find_sign {c : Nat} (h : c ∈ sgL) : Txt.find sgS ⟨#[c]⟩ = (sgL.idxOf c : Int) := by
  unfold sgL at h
  simp only [List.mem_cons, List.not_mem_nil, or_false] at h
  rcases h with rfl | rfl | rfl | rfl | rfl | rfl | rfl | rfl | rfl | rfl | rfl | rfl <;> decide +kernel
theorem in_signs (c : Nat) : decide (c ∈ sgS.cps.toList) = decide (c ∈ sgL) := by
  rw [sgS_eq]
theorem cutS_one {z : Str} {i c : Nat} (h : z.cps[i]? = some c) : cutS z (some (i : Int)) (some ((i : Int) + 1)) = ⟨#[c]⟩ := by
  have hl : i < z.cps.size := (Array.getElem?_eq_some_iff.mp h).1
  have hl' : i < z.length := hl
  have e1 : HT.sIx z.length 0 (some (i : Int)) = i := by rw [HT.sIx_nat]; omega
  have e2 : HT.sIx z.length z.length (some ((i : Int) + 1)) = i + 1 := by
    rw [show ((i : Int) + 1) = ((i + 1 : Nat) : Int) by omega, HT.sIx_nat]
    omega
  unfold cutS
  rw [e1, e2, show i + 1 - i = 1 by omega]
  have hd : z.cps.toList.drop i = c :: z.cps.toList.drop (i + 1) := by
    rw [List.drop_eq_getElem_cons (by rw [Array.length_toList]; exact hl)]
    congr 1
    have := (Array.getElem?_eq_some_iff.mp h).2
    simpa using this
  rw [hd]
  rfl
section
variable {P : Program} {w : World} {K : PySem.W.Frag} {mg : Str → Option Value} {base : Heap}
theorem nText (T : Txt K mg) : NoAttr K T.Reader.C "text" := T.Reader.n _ (by simp)
theorem nAt (T : Txt K mg) : NoAttr K T.Reader.C "at" := T.Reader.n _ (by simp)
def rdF (z : Str) (i : Nat) : List (Str × V) := [("text", .str z), ("at", .int (i : Int))]
def RdAt (T : Txt K mg) (H : Hp) (a : Addr) (z : Str) (i : Nat) : Prop := ∃ dx, H a = some (.ins T.Reader.C dx (rdF z i))
theorem rdF_text (z : Str) (i : Nat) : (rdF z i).lookup ("text" : Str) = some (V.str z) := rfl
theorem rdF_at (z : Str) (i : Nat) : (rdF z i).lookup ("at" : Str) = some (V.int (i : Int)) := rfl
def spExT (T : Txt K mg) : Sp := fun vs H Q _ => ∃ (a : Addr) (v : V), vs = [.ref a, v] ∧ H a = some (exo a T.BadText.C none) ∧
  ∀ dx, H dx = none → dx ≠ a → Q .non (upd (upd H dx (exd dx [("at", v)])) a (exo a T.BadText.C (some dx)))
theorem ok_BadText_init (T : Txt K mg) : FnOk P w K mg base CX0 1 T.BadText.fI T.BadText.fd ["self", "at"] (spExT T) := by
  refine T.BadText.F.ok sc_BadText_init (fun vs H Q E h => ?_) (fun cdv A outer s H vs Q E hr h => ?_)
  · obtain ⟨a, v, rfl, _⟩ := h
    rfl
  · obtain ⟨a, v, rfl, ha, k⟩ := h
    refine ⟨_, (pss_one (ps_ost (pv 0) (pv 1))), ?_⟩
    exact ⟨v, rfl, _, rfl, a, T.BadText.C, rfl, T.BadText.o, T.BadText.n, .inl ⟨ha, fun dx n ne => k dx n ne⟩⟩
def TextErr (T : Txt K mg) (at_ : V) (H : Hp) (E : XK) : Prop := ∀ d H', Same H H' → H' d = some (.xd [("at", at_)]) → E (.ref T.BadText.C) (some d) H'
def spRdI (T : Txt K mg) : Sp := fun vs H Q E => ∃ (p dx : Addr) (x : V) (S : String), vs = [.ref p, x] ∧ H p = some (.ins T.Reader.C dx []) ∧ TyB K H x S ∧ ((decide (S = "str") = false ∧ TextErr T .non H E) ∨
  ∃ z : Str, x = .str z ∧ ∀ H', RdAt T H' p z 0 → (∀ b o, H b = some o → b ≠ p → H' b = some o) → Q .non H')
theorem ok_Reader_init (T : Txt K mg) : FnOk P w K mg base (L2.CX P w) 3 T.Reader.fI T.Reader.fd ["self", "text"] (spRdI T) := by
  refine T.Reader.F.okX sc_Reader_init (fun vs H Q E h => ?_) (fun cdv A outer s H vs Q E hr h => ?_)
  · obtain ⟨p, dx, x, S, rfl, _⟩ := h
    rfl
  · obtain ⟨p, dx, x, S, rfl, hp, ty, h⟩ := h
    have nd := sc_Reader_init.nd
    refine ⟨_, (pss_cons (ps_if (pt_cmpR op_notTyB (pe_callTy call_type1 (by rfl) T.ztype (by decide +kernel) (pa_cons (pv 1) pa_nil)) (pe_bltn (v := .ty "str") (by rfl) T.zstr (by decide +kernel) rfl) (nomark _))
      (pss_one (ps_raise rfl (takes_of rfl rfl rfl rfl) (pmk_oex T.BadText.o T.BadText.i T.BadText.t (ok_BadText_init T) (hr.mono (by decide)) T.BadText.b .nil pass0 (by rfl) T.BadText.g (pa_cons pe_non pa_nil))))
      pss_nil)
    (pss_cons (ps_fld (pv 0) (pv 1) rfl)
    (pss_one (ps_fld (pv 0) pe_int rfl)))), ?_⟩
    rcases h with ⟨hS, he⟩ | ⟨z, rfl, k⟩
    · refine sqn ⟨x, rfl, _, _, rfl, ty, ?_⟩
      refine ⟨_, _, rfl, rfl, _, rfl, ?_⟩
      rw [hS]
      refine iteT ⟨(by show 1 ≤ 1000; decide), fun a ha => ?_⟩
      refine ⟨a, .non, rfl, upd_same, fun dx ndx ne => ⟨rfl, dx, ([("at", V.non)] : List (Str × V)), upd_same, ?_, ?_, ?_⟩⟩
      · rw [upd_ne ne, upd_same]
      · rw [upd_ne ne] at ndx
        exact ndx
      · have ndx' : H dx = none := by rw [upd_ne ne] at ndx; exact ndx
        refine he dx _ (fun b o hb => ?_) upd_same
        have nb : b ≠ a := ne_of_none hb ha
        have nb2 : b ≠ dx := ne_of_none hb ndx'
        rw [upd_ne nb2, del_ne nb, upd_ne nb, upd_ne nb2, upd_ne nb]
        exact hb
    · refine sqn ⟨_, rfl, _, _, rfl, .str z, ?_⟩
      refine ⟨_, _, rfl, rfl, _, rfl, iteF ?_⟩
      dsimp only [tNext]
      refine sqn ⟨_, rfl, _, rfl, p, T.Reader.C, dx, [], rfl, hp, T.Reader.c, nText T, (by show 0 < 1000; decide), ?_⟩
      have hp5 : (upd H p (.ins T.Reader.C dx (putF "text" (.str z) []))) p = some (.ins T.Reader.C dx [("text", .str z)]) := upd_same
      have k5 : ∀ b o, H b = some o → b ≠ p → (upd H p (.ins T.Reader.C dx (putF "text" (.str z) []))) b = some o := fun b o hb nb => by
        rw [upd_ne nb]
        exact hb
      generalize upd H p (.ins T.Reader.C dx (putF "text" (.str z) [])) = H5 at hp5 k5
      refine ⟨_, rfl, p, T.Reader.C, dx, _, rfl, hp5, T.Reader.c, nAt T, (by show 1 < 1000; decide), ?_⟩
      refine k _ ⟨dx, upd_same⟩ fun b o hb nb => ?_
      rw [upd_ne nb]
      exact k5 b o hb nb
end
end Tt
set_option maxRecDepth 100000
set_option maxHeartbeats 4000000
namespace Tt
open PySem L2
open LamX (ExtN)
section
variable {P : Program} {w : World} {K : PySem.W.Frag} {mg : Str → Option Value} {base : Heap}
def spSign (T : Txt K mg) : Sp := fun vs H Q _ => ∃ (a : Addr) (z : Str) (i : Nat), vs = [.ref a] ∧ RdAt T H a z i ∧ z.length ≤ 5000 ∧ Q (.str (cutS z (some (i : Int)) (some ((i : Int) + 1)))) H
theorem ok_Reader_sign (T : Txt K mg) : FnOk P w K mg base CX0 1 T.mSign.a T.mSign.fd ["self"] (spSign T) := by
  refine T.mSign.F.ok sc_Reader_sign (fun vs H Q E h => ?_) (fun cdv A outer s H vs Q E hr h => ?_)
  · obtain ⟨a, z, i, rfl, _⟩ := h
    rfl
  · obtain ⟨a, z, i, rfl, ⟨dx, ha⟩, hz, k⟩ := h
    have nd := sc_Reader_sign.nd
    refine ⟨_, (pss_one (ps_ret (pe_slice sl_str (pe_fld (pv 0) rfl) (po_some (pe_fld (pv 0) rfl)) (po_some (pe_op op_add (pe_fld (pv 0) rfl) pe_int))))), ?_⟩
    refine ⟨_, rfl, a, T.Reader.C, dx, _, _, rfl, ha, T.Reader.c, nText T, rdF_text .., ?_⟩
    refine ⟨_, rfl, a, T.Reader.C, dx, _, _, rfl, ha, T.Reader.c, nAt T, rdF_at .., _, rfl, ?_⟩
    refine ⟨_, rfl, a, T.Reader.C, dx, _, _, rfl, ha, T.Reader.c, nAt T, rdF_at .., ?_⟩
    have big : (5000 : Nat) ≤ sizeLine := by decide
    exact ⟨_, _, rfl, rfl, _, rfl, z, rfl, by omega, k⟩
def spEnded (T : Txt K mg) : Sp := fun vs H Q _ => ∃ (a : Addr) (z : Str) (i : Nat), vs = [.ref a] ∧ RdAt T H a z i ∧ z.length ≤ 5000 ∧ Q (.bl (decide (i = z.length))) H
theorem ok_Reader_is_ended (T : Txt K mg) : FnOk P w K mg base CX0 1 T.mEnd.a T.mEnd.fd ["self"] (spEnded T) := by
  refine T.mEnd.F.ok sc_Reader_is_ended (fun vs H Q E h => ?_) (fun cdv A outer s H vs Q E hr h => ?_)
  · obtain ⟨a, z, i, rfl, _⟩ := h
    rfl
  · obtain ⟨a, z, i, rfl, ⟨dx, ha⟩, hz, k⟩ := h
    have nd := sc_Reader_is_ended.nd
    refine ⟨_, (pss_one (ps_ret (pe_cmpR op_eq (pe_fld (pv 0) rfl) (pe_callB call_len (by rfl) T.zlen (by decide +kernel) (pa_cons (pe_fld (pv 0) rfl) pa_nil)) (nomark _)))), ?_⟩
    refine ⟨_, rfl, a, T.Reader.C, dx, _, _, rfl, ha, T.Reader.c, nAt T, rdF_at .., ?_⟩
    refine ⟨_, rfl, a, T.Reader.C, dx, _, _, rfl, ha, T.Reader.c, nText T, rdF_text .., ?_⟩
    have big : (5000 : Nat) ≤ sizeLine := by decide
    refine ⟨_, z.length, rfl, ⟨by omega, rfl⟩, rfl, ?_⟩
    have e : decide (V.int (i : Int) = V.int ((z.length : Nat) : Int)) = decide (i = z.length) := by
      by_cases c : i = z.length
      · rw [decide_eq_true c, c]
        simp
      · rw [decide_eq_false c]
        refine decide_eq_false fun q => c ?_
        injection q with q
        omega
    show Q (.bl (decide (V.int (i : Int) = V.int ((z.length : Nat) : Int)))) H
    rw [e]
    exact k
def spCheckR (T : Txt K mg) : Sp := fun vs H Q E => ∃ (a : Addr) (z : Str) (i : Nat) (b : Bool), vs = [.ref a, .bl b] ∧ RdAt T H a z i ∧ (b = true → Q .non H) ∧ (b = false → TextErr T (.int (i : Int)) H E)
theorem ok_Reader_check (T : Txt K mg) : FnOk P w K mg base (L2.CX P w) 3 T.mCheck.a T.mCheck.fd ["self", "is_right"] (spCheckR T) := by
  refine T.mCheck.F.okX sc_Reader_check (fun vs H Q E h => ?_) (fun cdv A outer s H vs Q E hr h => ?_)
  · obtain ⟨a, z, i, b, rfl, _⟩ := h
    rfl
  · obtain ⟨a, z, i, b, rfl, ⟨dx, ha⟩, k, he⟩ := h
    have nd := sc_Reader_check.nd
    refine ⟨_, (pss_one (ps_if (pt_not (pt_val (pv 1)))
      (pss_one (ps_raise rfl (takes_of rfl rfl rfl rfl) (pmk_oex T.BadText.o T.BadText.i T.BadText.t (ok_BadText_init T) (hr.mono (by decide)) T.BadText.b .nil pass0 (by rfl) T.BadText.g (pa_cons (pe_fld (pv 0) rfl) pa_nil))))
      pss_nil)), ?_⟩
    cases b with
    | true => exact ⟨_, rfl, true, rfl, iteF (k rfl)⟩
    | false =>
      refine ⟨_, rfl, false, rfl, iteT ?_⟩
      refine ⟨_, rfl, a, T.Reader.C, dx, _, _, rfl, ha, T.Reader.c, nAt T, rdF_at .., (by show 1 ≤ 1000; decide), fun x hx => ?_⟩
      refine ⟨x, _, rfl, upd_same, fun dx2 ndx ne => ⟨rfl, dx2, ([("at", V.int (i : Int))] : List (Str × V)), upd_same, ?_, ?_, ?_⟩⟩
      · rw [upd_ne ne, upd_same]
      · rw [upd_ne ne] at ndx
        exact ndx
      · have ndx' : H dx2 = none := by rw [upd_ne ne] at ndx; exact ndx
        refine he rfl dx2 _ (fun b o hb => ?_) upd_same
        have nb : b ≠ x := ne_of_none hb hx
        have nb2 : b ≠ dx2 := ne_of_none hb ndx'
        rw [upd_ne nb2, del_ne nb, upd_ne nb, upd_ne nb2, upd_ne nb]
        exact hb
def letV (z : Str) (i : Nat) : Option Int := (z.cps[i]?).bind letOf
def optV : Option Int → V
  | some l => .int l
  | none => .non
def spLetter (T : Txt K mg) : Sp := fun vs H Q _ => ∃ (a : Addr) (z : Str) (i : Nat), vs = [.ref a] ∧ RdAt T H a z i ∧ z.length ≤ 5000 ∧ i ≤ z.length ∧ Q (optV (letV z i)) H
theorem ok_Reader_letter (T : Txt K mg) : FnOk P w K mg base CX0 2 T.mLetter.a T.mLetter.fd ["self"] (spLetter T) := by
  refine T.mLetter.F.ok sc_Reader_letter (fun vs H Q E h => ?_) (fun cdv A outer s H vs Q E hr h => ?_)
  · obtain ⟨a, z, i, rfl, _⟩ := h
    rfl
  · obtain ⟨a, z, i, rfl, ra, hz, hi, k⟩ := h
    have nd := sc_Reader_letter.nd
    refine ⟨_, (pss_one (ps_ret (pe_ifExp (PW.pt (pw_and (pt_not (pt_val (pe_meth0 (C := T.Reader.C) (m := "is_ended") (pv 0) T.Reader.c ⟨T.mEnd.i, T.mEnd.n, T.mEnd.F.kp⟩ (ok_Reader_is_ended T) (hr.mono (by decide)) T.mEnd.b .nil pass0))) (pw_and1 (pt_cmpR op_in_sign (pe_meth0 (C := T.Reader.C) (m := "sign") (pv 0) T.Reader.c ⟨T.mSign.i, T.mSign.n, T.mSign.F.kp⟩ (ok_Reader_sign T) (hr.mono (by decide)) T.mSign.b .nil pass0) (pe_glob rfl T.c_LETTER_SIGNS T.r_LETTER_SIGNS) rfl)))) (pe_m1 PySem.F.slot_str_find PySem.F.type_str_find mt_find (pe_glob rfl T.c_LETTER_SIGNS T.r_LETTER_SIGNS) (pe_meth0 (C := T.Reader.C) (m := "sign") (pv 0) T.Reader.c ⟨T.mSign.i, T.mSign.n, T.mSign.F.kp⟩ (ok_Reader_sign T) (hr.mono (by decide)) T.mSign.b .nil pass0)) pe_non))), ?_⟩
    obtain ⟨dx, ha⟩ := id ra
    refine ⟨_, rfl, a, dx, _, rfl, ha, rfl, nil_i ⟨a, z, i, rfl, ra, hz, _, rfl, ?_⟩⟩
    by_cases c : i = z.length
    · rw [decide_eq_true c]
      refine iteF (iteF ?_)
      have e : letV z i = none := by
        unfold letV
        have : z.cps[i]? = none := Array.getElem?_eq_none (by show z.length ≤ i; omega)
        rw [this]
        rfl
      rw [e] at k
      exact k
    · rw [decide_eq_false c]
      refine iteT ?_
      have hl : i < z.cps.size := by
        have : i < z.length := by omega
        exact this
      obtain ⟨ch, hc⟩ : ∃ ch, z.cps[i]? = some ch := ⟨_, Array.getElem?_eq_getElem hl⟩
      have es := cutS_one hc
      refine ⟨_, rfl, a, dx, _, rfl, ha, rfl, nil_i ⟨a, z, i, rfl, ra, hz, ?_⟩⟩
      rw [es]
      refine ⟨ch, sgS, rfl, rfl, _, rfl, ?_⟩
      rw [in_signs]
      have el : letV z i = letOf ch := by
        unfold letV
        rw [hc]
        rfl
      by_cases m : ch ∈ sgL
      · rw [decide_eq_true m]
        refine iteT ?_
        refine ⟨⟨sgS, rfl⟩, ?_⟩
        refine ⟨_, rfl, a, dx, _, rfl, ha, rfl, nil_i ⟨a, z, i, rfl, ra, hz, ?_⟩⟩
        rw [es]
        refine ⟨sgS, ⟨#[ch]⟩, rfl, rfl, ?_⟩
        rw [find_sign m]
        have : letV z i = some (sgL.idxOf ch : Int) := by
          rw [el]
          unfold letOf
          rw [if_pos m]
        rw [this] at k
        exact k
      · rw [decide_eq_false m]
        refine iteF ?_
        have : letV z i = none := by
          rw [el]
          unfold letOf
          rw [if_neg m]
        rw [this] at k
        exact k
end
end Tt
set_option maxRecDepth 100000
set_option maxHeartbeats 4000000
namespace Tt
open PySem L2
open LamX (ExtN)
def goL (n : Int) (most : Nat) (free : Bool) (acc : List Int) (l : Int) : Bool := decide (l < n) && decide (acc.length < most) && !(free && decide (acc.getLast? = some (Wd.mate l)))
def takeL (n : Int) (most : Nat) (free : Bool) : List Nat → List Int → List Int
  | [], acc => acc
  | c :: cs, acc => match letOf c with
    | none => acc
    | some l => if goL n most free acc l = true then takeL n most free cs (acc ++ [l]) else acc
theorem takeL_none {n : Int} {most : Nat} {free : Bool} {cs acc} (h : (cs : List Nat).head?.bind letOf = none) : takeL n most free cs acc = acc := by
  cases cs with
  | nil => rfl
  | cons c cs =>
    have h' : letOf c = none := h
    unfold takeL
    rw [h']
theorem takeL_no {n : Int} {most : Nat} {free : Bool} {cs acc} {l : Int} (h : (cs : List Nat).head?.bind letOf = some l) (g : goL n most free acc l = false) : takeL n most free cs acc = acc := by
  cases cs with
  | nil => rfl
  | cons c cs =>
    have h' : letOf c = some l := h
    unfold takeL
    rw [h']
    show (if goL n most free acc l = true then _ else _) = _
    rw [g, if_neg Bool.false_ne_true]
theorem takeL_go {n : Int} {most : Nat} {free : Bool} {z : Str} {i : Nat} {acc : List Int} {l : Int} (h : letV z i = some l) (g : goL n most free acc l = true) : takeL n most free (z.cps.toList.drop i) acc = takeL n most free (z.cps.toList.drop (i + 1)) (acc ++ [l]) := by
  unfold letV at h
  cases e : z.cps[i]? with
  | none => rw [e] at h; cases h
  | some c =>
    rw [e] at h
    have h' : letOf c = some l := h
    have hl : i < z.cps.size := (Array.getElem?_eq_some_iff.mp e).1
    have hd : z.cps.toList.drop i = c :: z.cps.toList.drop (i + 1) := by
      rw [List.drop_eq_getElem_cons (by rw [Array.length_toList]; exact hl)]
      congr 1
      have := (Array.getElem?_eq_some_iff.mp e).2
      simpa using this
    rw [hd]
    conv => lhs; unfold takeL
    rw [h']
    show (if goL n most free acc l = true then _ else _) = _
    rw [g, if_pos rfl]
theorem head_drop (z : Str) (i : Nat) : (z.cps.toList.drop i).head?.bind letOf = letV z i := by
  unfold letV
  rw [List.head?_drop]
  simp
section
variable {P : Program} {w : World} {K : PySem.W.Frag} {mg : Str → Option Value} {base : Heap}
def spLetters (T : Txt K mg) : Sp := fun vs H Q _ => ∃ (a : Addr) (z : Str) (n : Int) (most : Nat) (free : Bool), vs = [.ref a, .int n, .int (most : Int), .bl free] ∧ RdAt T H a z 0 ∧ z.length ≤ 5000 ∧ most ≤ 200 ∧ n ≤ 12 ∧
  ∀ q H', RdAt T H' a z (takeL n most free z.cps.toList []).length → (∀ b o, H b = some o → b ≠ a → H' b = some o) → H' q = some (.tup ((takeL n most free z.cps.toList []).map V.int)) → Q (.ref q) H'
theorem ok_Reader_read_letters (T : Txt K mg) : FnOk P w K mg base CX0 3 T.mLetters.a T.mLetters.fd ["self", "many_ends", "most", "is_free"] (spLetters T) := by
  refine T.mLetters.F.ok sc_Reader_read_letters (fun vs H Q E h => ?_) (fun cdv A outer s H vs Q E hr h => ?_)
  · obtain ⟨a, z, n, most, free, rfl, _⟩ := h
    rfl
  · obtain ⟨a, z, n, most, free, rfl, ra, hz, hm, hn, k⟩ := h
    have nd := sc_Reader_read_letters.nd
    refine ⟨_, (pss_cons (ps_set (i := 4) nd rfl (Or.inl rfl) (pe_lst pa_nil))
    (pss_cons (ps_set (i := 5) nd rfl (Or.inl rfl) (pe_meth0 (C := T.Reader.C) (m := "letter") (pv 0) T.Reader.c ⟨T.mLetter.i, T.mLetter.n, T.mLetter.F.kp⟩ (ok_Reader_letter T) (hr.mono (by decide)) T.mLetter.b .nil pass0))
    (pss_cons (ps_while PassesOwn.never (PW.pt (pw_and (pt_cmpR op_notN (pv 5) pe_non (nomark _)) (pw_and (pt_cmpR op_lt (pv 5) (pv 1) (nomark _)) (pw_and1 (pt_cmpR op_lt (pe_callB call_len_seq (by rfl) T.zlen (by decide +kernel) (pa_cons (pv 4) pa_nil)) (pv 2) (nomark _))))))
      (pss_cons (ps_if (PW.pt (pw_and (pt_val (pv 3)) (pw_and (pt_truth (pv 4) (fun _ => rfl)) (pw_and1 (pt_cmpR op_eq (pe_ix ix_list (pv 4) (pe_un un_neg pe_int) (fun _ _ => rfl)) (pe_op op_xor (pv 5) pe_int) (nomark _))))))
        (pss_one ps_break)
        pss_nil)
      (pss_cons (ps_expr (pe_bm PySem.F.plainAttrs_list PySem.F.slot_list_append PySem.F.type_list_append mt_append (pv 4) (pa_cons (pv 5) pa_nil)))
      (pss_cons (ps_fldaug (pv 0) pe_int ip_add)
      (pss_one (ps_set (i := 5) nd rfl (Or.inl rfl) (pe_meth0 (C := T.Reader.C) (m := "letter") (pv 0) T.Reader.c ⟨T.mLetter.i, T.mLetter.n, T.mLetter.F.kp⟩ (ok_Reader_letter T) (hr.mono (by decide)) T.mLetter.b .nil pass0)))))))
    (pss_one (ps_ret (pe_callTy call_tuple_of (by rfl) T.ztuple (by decide +kernel) (pa_cons (pv 4) pa_nil))))))), ?_⟩
    generalize hW : takeL n most free z.cps.toList [] = W at k
    refine sqn ⟨(by show 0 ≤ sizeLine; decide), fun f hf => ?_⟩
    have nfa : f ≠ a := by
      obtain ⟨dx, ha⟩ := ra
      exact (ne_of_none ha hf).symm
    have ra1 : RdAt T (upd H f (.lst [])) a z 0 := by
      obtain ⟨dx, ha⟩ := ra
      exact ⟨dx, by rw [upd_ne nfa.symm]; exact ha⟩
    refine sqn ⟨_, rfl, ?_⟩
    obtain ⟨dx0, ha0⟩ := id ra1
    refine ⟨a, dx0, _, rfl, ha0, rfl, nil_i ⟨a, z, 0, rfl, ra1, hz, Nat.zero_le _, ?_⟩⟩
    dsimp only
    refine sq_r (fun σ H' => ∃ v5 : Option V, σ = [some (.ref a), some (.int n), some (.int (most : Int)), some (.bl free), some (.ref f), v5] ∧ RdAt T H' a z W.length ∧ H' f = some (.lst (W.map V.int)) ∧ ∀ b o, H b = some o → b ≠ a → H' b = some o) (fun rest => ?_) ?_
    · refine while_by3 (fun σ H' => ∃ (i : Nat) (acc : List Int), σ = [some (.ref a), some (.int n), some (.int (most : Int)), some (.bl free), some (.ref f), some (optV (letV z i))] ∧ RdAt T H' a z i ∧ H' f = some (.lst (acc.map V.int)) ∧ acc.length = i ∧ i ≤ z.length ∧ i ≤ most ∧ takeL n most free (z.cps.toList.drop i) acc = W ∧ ∀ b o, H b = some o → b ≠ a → H' b = some o)
        (fun _ H' => match H' f with | some (.lst xs) => z.length - xs.length | _ => 0)
        ⟨0, [], rfl, ra1, upd_same, rfl, Nat.zero_le _, Nat.zero_le _, hW, fun b o hb nb => by rw [upd_ne (ne_of_none hb hf)]; exact hb⟩ ?_
      rintro σ H' ⟨i, acc, rfl, r, hf', la, iz, im, tk, kp⟩
      have stop : takeL n most free (z.cps.toList.drop i) acc = acc → ∃ v5 : Option V, [some (.ref a), some (.int n), some (.int (most : Int)), some (.bl free), some (.ref f), some (optV (letV z i))] = [some (.ref a), some (.int n), some (.int (most : Int)), some (.bl free), some (.ref f), v5] ∧ RdAt T H' a z W.length ∧ H' f = some (.lst (W.map V.int)) ∧ ∀ b o, H b = some o → b ≠ a → H' b = some o := fun e => by
        have e2 : acc = W := e.symm.trans tk
        rw [← e2, la]
        exact ⟨_, rfl, r, hf', kp⟩
      have hd := head_drop z i
      cases el : letV z i with
      | none =>
        rw [el] at hd
        refine ⟨_, rfl, rfl, _, rfl, iteF (iteF ?_)⟩
        have := stop (takeL_none hd)
        rw [el] at this
        exact rest _ _ this
      | some l =>
        rw [el] at hd stop
        have lt := letOf_lt (c := (z.cps[i]?).getD 0) (l := l) (by
          unfold letV at el
          cases e : z.cps[i]? with
          | none => rw [e] at el; cases el
          | some c => rw [e] at el; exact el)
        refine ⟨_, rfl, rfl, _, rfl, iteT ?_⟩
        refine ⟨_, rfl, _, rfl, l, n, rfl, rfl, _, rfl, ?_⟩
        refine ite2 (fun c1 => ?_) (fun c1 => iteF (rest _ _ (stop (takeL_no hd (by unfold goL; rw [decide_eq_false (by simpa using c1)]; rfl)))))
        refine ⟨_, rfl, f, _, rfl, .inl (SqL.of hf'), _, rfl, _, _, rfl, rfl, _, rfl, ?_⟩
        rw [List.length_map]
        refine ite2 (fun c2 => ?_) (fun c2 => rest _ _ (stop (takeL_no hd (by
          unfold goL
          have : ¬ acc.length < most := by
            have : ¬ ((acc.length : Nat) : Int) < (most : Int) := by simpa using c2
            omega
          rw [decide_eq_false this, Bool.and_false]
          rfl))))
        have c1' : l < n := by simpa using c1
        have c2' : acc.length < most := by
          have : ((acc.length : Nat) : Int) < (most : Int) := by simpa using c2
          omega
        have il : i < z.length := by
          rcases Nat.lt_or_ge i z.length with z1 | z1
          · exact z1
          · exfalso
            unfold letV at el
            rw [Array.getElem?_eq_none (show z.cps.size ≤ i from z1)] at el
            cases el
        refine ⟨fun σ' H2 => σ' = [some (.ref a), some (.int n), some (.int (most : Int)), some (.bl free), some (.ref f), some (optV (letV z (i + 1)))] ∧ RdAt T H2 a z (i + 1) ∧ H2 f = some (.lst ((acc ++ [l]).map V.int)) ∧ goL n most free acc l = true ∧ ∀ b o, H b = some o → b ≠ a → H2 b = some o, fun σ' H2 h2 => ?_, ?_⟩
        · obtain ⟨e1, r2, f2, g2, kp2⟩ := h2
          refine ⟨z.length - (i + 1), ?_, ?_, i + 1, acc ++ [l], e1, r2, f2, by rw [List.length_append, la]; rfl, il, by omega, (takeL_go el g2).symm.trans tk, kp2⟩
          · rw [hf']
            show z.length - (i + 1) < z.length - (acc.map V.int).length
            rw [List.length_map]
            omega
          · rw [f2]
            show z.length - (i + 1) = z.length - ((acc ++ [l]).map V.int).length
            rw [List.length_map, List.length_append, la]
            rfl
        refine sq_r (fun σ' H2 => σ' = [some (.ref a), some (.int n), some (.int (most : Int)), some (.bl free), some (.ref f), some (.int l)] ∧ H2 = H' ∧ goL n most free acc l = true) (fun go => ?_) ?_
        · have gT : ¬ (free = true ∧ acc.getLast? = some (Wd.mate l)) → goL n most free acc l = true := fun q => by
            unfold goL
            rw [decide_eq_true c1', decide_eq_true c2']
            cases free with
            | false => rfl
            | true =>
              rw [decide_eq_false (fun e => q ⟨rfl, e⟩)]
              rfl
          have gF : free = true → acc.getLast? = some (Wd.mate l) → goL n most free acc l = false := fun q1 q2 => by
            unfold goL
            rw [q1, decide_eq_true q2]
            simp
          refine ⟨_, rfl, free, rfl, ?_⟩
          refine ite2 (fun cf => ?_) (fun cf => iteF (go _ _ ⟨rfl, rfl, gT fun q => cf q.1⟩))
          refine ⟨_, rfl, !(acc.map V.int).isEmpty, .inl ⟨_, SqL.of hf', rfl⟩, ?_⟩
          refine ite2 (fun c => ?_) (fun c => ?_)
          · have hne : acc ≠ [] := by simpa using c
            obtain ⟨x, ha, hat⟩ := atI_last hne
            refine ⟨_, rfl, _, rfl, f, _, _, _, rfl, rfl, SqL.of hf', hat, ?_⟩
            refine ⟨_, rfl, _, _, rfl, rfl, rfl, _, rfl, ?_⟩
            refine ite2 (fun c2 => ?_) (fun c2 => ?_)
            · have hax : x = Wd.mate l := by
                have c3 : decide (V.int x = V.int (Builtin.bitXor l 1)) = true := c2
                rw [xor_mate lt.1 lt.2.1] at c3
                simpa using c3
              exact rest _ _ (stop (takeL_no hd (gF cf (by rw [ha, hax]))))
            · have hax : ¬ x = Wd.mate l := by
                have c3 : ¬ decide (V.int x = V.int (Builtin.bitXor l 1)) = true := c2
                rw [xor_mate lt.1 lt.2.1] at c3
                simpa using c3
              exact go _ _ ⟨rfl, rfl, gT fun q => hax (by rw [ha] at q; exact Option.some.inj q.2)⟩
          · have hne : acc = [] := by simpa using c
            refine ite2 (fun z => absurd z Bool.false_ne_true) (fun _ => ?_)
            exact go _ _ ⟨rfl, rfl, gT fun q => by rw [hne] at q; cases q.2⟩
        · rintro σ' H2 ⟨rfl, rfl, gg⟩
          refine sqn ⟨_, rfl, .inl ⟨rfl, _, SqL.of hf'⟩, _, rfl, f, _, _, rfl, rfl, hf', by rw [List.length_map]; exact smallB (by omega), ?_⟩
          obtain ⟨dx, ha⟩ := id r
          have nfa2 : f ≠ a := nfa
          have ha3 : (upd H2 f (.lst (acc.map V.int ++ [V.int l]))) a = some (.ins T.Reader.C dx (rdF z i)) := by rw [upd_ne nfa2.symm]; exact ha
          have hf3 : (upd H2 f (.lst (acc.map V.int ++ [V.int l]))) f = some (.lst ((acc ++ [l]).map V.int)) := by rw [upd_same, List.map_append]; rfl
          have kp3 : ∀ b o, H b = some o → b ≠ a → (upd H2 f (.lst (acc.map V.int ++ [V.int l]))) b = some o := fun b o hb nb => by
            rw [upd_ne (ne_of_none hb hf)]
            exact kp b o hb nb
          generalize upd H2 f (.lst (acc.map V.int ++ [V.int l])) = H3 at ha3 hf3 kp3
          dsimp only
          refine sqn ⟨_, rfl, a, T.Reader.C, dx, _, _, rfl, ha3, T.Reader.c, nAt T, rdF_at .., ?_⟩
          refine ⟨_, _, rfl, rfl, dx, _, ha3, (by show 2 < 1000; decide), ?_⟩
          have ha4 : (upd H3 a (.ins T.Reader.C dx (putF "at" (.int ((i : Int) + 1)) (rdF z i)))) a = some (.ins T.Reader.C dx (rdF z (i + 1))) := by
            rw [upd_same]
            have : ((i : Int) + 1) = ((i + 1 : Nat) : Int) := by omega
            rw [this]
            rfl
          have hf4 : (upd H3 a (.ins T.Reader.C dx (putF "at" (.int ((i : Int) + 1)) (rdF z i)))) f = some (.lst ((acc ++ [l]).map V.int)) := by rw [upd_ne nfa2]; exact hf3
          have kp4 : ∀ b o, H b = some o → b ≠ a → (upd H3 a (.ins T.Reader.C dx (putF "at" (.int ((i : Int) + 1)) (rdF z i)))) b = some o := fun b o hb nb => by rw [upd_ne nb]; exact kp3 b o hb nb
          show (tAsg (tMeth T.Reader.C (Str.ofString "letter") (spLetter T) [] E0 (tVar 0) tNil) (gName 5)) _ _ (upd H3 a (.ins T.Reader.C dx (putF "at" (.int ((i : Int) + 1)) (rdF z i))))
          generalize upd H3 a (.ins T.Reader.C dx (putF "at" (.int ((i : Int) + 1)) (rdF z i))) = H4 at ha4 hf4 kp4
          refine ⟨_, rfl, a, dx, _, rfl, ha4, rfl, nil_i ⟨a, z, i + 1, rfl, ⟨dx, ha4⟩, hz, il, ?_⟩⟩
          exact ⟨rfl, ⟨dx, ha4⟩, hf4, gg, kp4⟩
    · rintro σ H' ⟨v5, rfl, r, hf', kp⟩
      refine ⟨_, rfl, f, _, rfl, .inl ⟨SqL.of hf', fun q hq => ?_⟩⟩
      refine k q _ ?_ (fun b o hb nb => same_new hq _ _ (kp b o hb nb)) upd_same
      obtain ⟨dx, ha⟩ := r
      exact ⟨dx, same_new hq _ _ ha⟩
end
end Tt
set_option maxRecDepth 100000
set_option maxHeartbeats 4000000
namespace L2
open PySem PySem.Spec PyProof.Rows
section
variable {X : Cx} {CX : CXT} {k : Nat} {C f : Addr} {fd : FuncData} {ps : List Str} {sp : Sp} {dvs : List V} {ds : List Value} {E : L2.St → XK} {x m : Str} {p pos apos : Pos} {e o : Expr} {es : List Expr} {ta : TE} {t : TA}
def tMethE (C : Addr) (m : Str) (sp : Sp) (dvs : List V) (E : L2.St → XK) (ta : TE) (t : TA) : TE := fun σ H Q => ta σ H fun x H1 => ∃ a dx fs, x = .ref a ∧ H1 a = some (.ins C dx fs) ∧ fs.lookup m = none ∧
  t σ H1 fun vs H2 => sp (x :: (vs ++ dvs)) H2 Q (E σ)
theorem pe_methE {pl : Sem Bool} (he : PE X o ta) (c : Cls X.K C) (hm : Meth X.K C m f) (F : FnOk X.prog X.w X.K X.mg X.base CX k f fd ps sp) (hr : Room k X.A) (hb : Binds X.K fd ps ds) (hd : Vals dvs ds) (hx : ∀ σ, PassesAt CX X σ (E σ)) (ha : PA X (e :: es) t)
    (hst : starEach (e :: es) X.env = (false, eval e X.env) :: starEach es X.env := by rfl) (hpl : (backTo pos (starEach es X.env)).any (·.1) = false := by rfl)
    (ht : eval (.Call (.Attribute o m apos) (e :: es) [] pos) X.env = (do
      let ov ← eval o X.env
      standAt apos.atName
      let (f, first) ← holding [ov] (getMethod ov m pl)
      callWith pos f first (backTo pos (starEach (e :: es) X.env)) (backToKw pos (keywordEach [] X.env))) := by rfl) :
    PE X (.Call (.Attribute o m apos) (e :: es) [] pos) (tMethE C m sp dvs E ta t) := by
  refine ⟨fun pins s σ H Q I h => ?_⟩
  refine PySem.W.methodCall_KW (pl := pl) (thn (he.run pins s σ H _ I h) fun u s1 ⟨x, H1, I1, rx, a, dx, fs, ex, ea, l, q⟩ => ?_) ht
  subst ex
  obtain rfl : u = Value.ref a := rx
  refine getmeth_ok I1 ea c hm l ?_
  refine PySem.W.callWith_K (first := [.ref a]) (h₀ := X.base) I.ok.mod.kin hm.kp (thn (ha.run pos pins s1 σ H1 _ I1 q) fun us s2 ⟨vs, H2, I2, r, q2⟩ => ⟨I2.kIn, ?_⟩) hst hpl
  exact run_fnSD (us := .ref a :: us) (vs := .ref a :: vs) F hr hb hd (hx σ) I2 (.cons rfl r) q2
theorem pe_methE0 {pl : Sem Bool} (he : PE X o ta) (c : Cls X.K C) (hm : Meth X.K C m f) (F : FnOk X.prog X.w X.K X.mg X.base CX k f fd ps sp) (hr : Room k X.A) (hb : Binds X.K fd ps ds) (hd : Vals dvs ds) (hx : ∀ σ, PassesAt CX X σ (E σ))
    (ht : eval (.Call (.Attribute o m apos) [] [] pos) X.env = (do
      let ov ← eval o X.env
      standAt apos.atName
      let (f, first) ← holding [ov] (getMethod ov m pl)
      callWith pos f first (backTo pos (starEach [] X.env)) (backToKw pos (keywordEach [] X.env))) := by rfl) :
    PE X (.Call (.Attribute o m apos) [] [] pos) (tMethE C m sp dvs E ta tNil) := by
  refine ⟨fun pins s σ H Q I h => ?_⟩
  refine PySem.W.methodCall_KW (pl := pl) (thn (he.run pins s σ H _ I h) fun u s1 ⟨x, H1, I1, rx, a, dx, fs, ex, ea, l, q⟩ => ?_) ht
  subst ex
  obtain rfl : u = Value.ref a := rx
  refine getmeth_ok I1 ea c hm l ?_
  exact PySem.W.callWith_K0 (first := [.ref a]) I1.kIn hm.kp (run_fnSD (us := [.ref a]) (vs := [.ref a]) F hr hb hd (hx σ) I1 (.cons rfl .nil) q)
def tMakeE (C : Addr) (sp : Sp) (dvs : List V) (E : L2.St → XK) (t : TA) : TE := fun σ H Q => t σ H fun vs H1 => ∀ x dx, H1 x = none → H1 dx = none → dx ≠ x →
  sp (.ref x :: (vs ++ dvs)) (upd (upd H1 dx (.own x)) x (.ins C dx [])) (fun v H2 => v = .non ∧ Q (.ref x) H2) (E σ)
theorem pe_makeE (M : Mk X.K C f) (F : FnOk X.prog X.w X.K X.mg X.base CX k f fd ps sp) (hr : Room (k + 1) X.A) (hg : Gl X x) (hm : X.mg x = some (.ref C)) (hb : Binds X.K fd ps ds) (hd : Vals dvs ds) (hx : ∀ σ, PassesAt CX X σ (E σ))
    (ha : PA X (e :: es) t) (hdb : (x == ("__debug__" : Str)) = false := by decide) (he : starEach (e :: es) X.env = (false, eval e X.env) :: starEach es X.env := by rfl) (hpl : (backTo pos (starEach es X.env)).any (·.1) = false := by rfl) :
    PE X (.Call (.Name x p) (e :: es) [] pos) (tMakeE C sp dvs E t) := by
  refine ⟨fun pins s σ H Q I h => ?_⟩
  refine wpAny_Call_Name_kw (ld_glob I hg hm ?_ hdb)
  refine PySem.W.callWith_K (h₀ := X.base) I.ok.mod.kin M.kp (thn (ha.run pos pins s σ H _ I h) fun us s1 ⟨vs, H1, I1, r, q⟩ => ⟨I1.kIn, ?_⟩) he hpl
  have hq := q (s1.heap.objs.size + 1) s1.heap.objs.size (I1.hok.fresh (Nat.le_succ _)) (I1.hok.fresh (Nat.le_refl _)) (Nat.ne_of_lt (Nat.lt_succ_self _))
  have I2 := Inv.made (C := C) I1
  have r2 : Vals (V.ref (s1.heap.objs.size + 1) :: (vs ++ dvs)) (Value.ref (s1.heap.objs.size + 1) :: (us ++ ds)) := .cons rfl (r.append hd)
  have hl : (Value.ref (s1.heap.objs.size + 1) :: us ++ ds).length = ps.length := by
    have e := r2.length
    rw [F.len _ _ _ _ hq] at e
    exact e.symm
  refine wpAny_call (make_map (f := f) I1.kIn M.makes M.init (beq_iff_eq.mp M.fn) (codeAny_mono (F.run _ X.stack _ _ ⟨Value.ref (s1.heap.objs.size + 1) :: us, []⟩ (Value.ref (s1.heap.objs.size + 1) :: (us ++ ds)) _ _ (E σ) (hr.make C us [])
    (I2.env0.make C us []) (hb _ (Value.ref (s1.heap.objs.size + 1) :: us) I2.kIn hl) r2 hq) fun r s' hq' => ?_))
  cases r with
  | error e => exact hx σ pins _ _ e s' I2 hq'
  | ok fl =>
    cases fl with
    | ret u =>
      obtain ⟨v, H', I3, rv, ev, q3⟩ := I2.after hq'
      subst ev
      exact ⟨rv, ⟨V.ref (s1.heap.objs.size + 1), H', I3, rfl, q3⟩⟩
    | next => exact False.elim hq'
    | brk => exact False.elim hq'
    | cont => exact False.elim hq'
end
end L2
set_option maxRecDepth 100000
set_option maxHeartbeats 4000000
namespace Tt
open PySem L2
section
variable {P : Program} {w : World} {K : PySem.W.Frag} {mg : Str → Option Value} {base : Heap}
def spCheckWord (T : Txt K mg) : Sp := fun vs H Q E => ∃ (p : Addr) (row : List Int) (x : V) (b : Bool), vs = [.ref p, x] ∧ SkAt T H p row ∧ row.length ≤ 12 ∧ WV K 200 row H x b ∧ (b = true → ∀ H', Same H H' → Q .non H') ∧ (b = false → ∀ H', Same H H' → E (.ref T.BadWord.C) none H')
theorem ok_check_word (T : Txt K mg) : FnOk P w K mg base (L2.CX P w) 6 T.check_word.a T.check_word.fd ["skin", "word"] (spCheckWord T) := by
  refine T.check_word.F.okX sc_check_word (fun vs H Q E h => ?_) (fun cdv A outer s H vs Q E hr h => ?_)
  · obtain ⟨p, row, x, b, rfl, _⟩ := h
    rfl
  · obtain ⟨p, row, x, b, rfl, hs, hl, hw, k1, k2⟩ := h
    refine ⟨_, (pss_one (ps_if (pt_not (pt_val (pe_call (ok_has_letters T) (hr.mono (by decide)) (by rfl) T.has_letters.g T.has_letters.k T.has_letters.b .nil pass0 (pa_cons (pv 0) (pa_cons (pv 1) (pa_cons (pe_glob rfl T.c_MOST_LETTERS T.r_MOST_LETTERS) pa_nil))))))
      (pss_one (ps_raise rfl (takes_of rfl rfl rfl rfl) (pmk_own PySem.F.excBase_ValueError T.BadWord.q T.BadWord.g T.BadWord.k (raises_own T.BadWord.ec.hs T.BadWord.ty) rfl)))
      pss_nil)), ?_⟩
    refine ⟨_, rfl, _, rfl, p, row, x, 200, b, rfl, hs, hl, hw, fun H1 s1 => ⟨_, rfl, ?_⟩⟩
    cases b with
    | true => exact iteF (k1 rfl H1 s1)
    | false =>
      refine iteT ?_
      exact k2 rfl H1 s1
end
end Tt
set_option maxRecDepth 100000
set_option maxHeartbeats 4000000
namespace Tt
open PySem L2
open LamX (ExtN)
theorem takeL_lt {n : Int} {most : Nat} {free : Bool} : ∀ (cs : List Nat) (acc : List Int), Lt n acc → Lt n (takeL n most free cs acc)
  | [], acc, h => h
  | c :: cs, acc, h => by
    unfold takeL
    cases e : letOf c with
    | none => exact h
    | some l =>
      show Lt n (if goL n most free acc l = true then _ else acc)
      by_cases g : goL n most free acc l = true
      · rw [if_pos g]
        refine takeL_lt cs _ (h.app fun x hx => ?_)
        rw [List.mem_singleton.mp hx]
        refine ⟨(letOf_lt e).1, ?_⟩
        unfold goL at g
        rw [Bool.and_eq_true, Bool.and_eq_true] at g
        exact of_decide_eq_true g.1.1
      · rw [if_neg g]
        exact h
theorem takeL_most {n : Int} {most : Nat} {free : Bool} : ∀ (cs : List Nat) (acc : List Int), acc.length ≤ most → (takeL n most free cs acc).length ≤ most
  | [], acc, h => h
  | c :: cs, acc, h => by
    unfold takeL
    cases e : letOf c with
    | none => exact h
    | some l =>
      show List.length (if goL n most free acc l = true then _ else acc) ≤ most
      by_cases g : goL n most free acc l = true
      · rw [if_pos g]
        refine takeL_most cs _ ?_
        unfold goL at g
        rw [Bool.and_eq_true, Bool.and_eq_true] at g
        have := of_decide_eq_true g.1.2
        rw [List.length_append]
        show acc.length + 1 ≤ most
        omega
      · rw [if_neg g]
        exact h
def But (a : Addr) (H H' : Hp) : Prop := ∀ b o, H b = some o → b ≠ a → H' b = some o
theorem But.same {a : Addr} {H H1 H2 : Hp} (h : But a H H1) (s : Same H1 H2) : But a H H2 := fun b o e n => s b o (h b o e n)
theorem But.refl {a : Addr} {H : Hp} : But a H H := fun _ _ e _ => e
theorem But.trans {a : Addr} {H H1 H2 : Hp} (h : But a H H1) (s : But a H1 H2) : But a H H2 := fun b o e n => s b o (h b o e n) n
def isRd (W : List Int) : Bool := decide (W ≠ [] ∧ closedT W = W)
section
variable {P : Program} {w : World} {K : PySem.W.Frag} {mg : Str → Option Value} {base : Heap}
def TextErrB (T : Txt K mg) (at_ : V) (a : Addr) (H : Hp) (E : XK) : Prop := ∀ d H', But a H H' → H' d = some (.xd [("at", at_)]) → E (.ref T.BadText.C) (some d) H'
theorem RdAt.same {T : Txt K mg} {H H' : Hp} {a : Addr} {z : Str} {i : Nat} (h : RdAt T H a z i) (s : Same H H') : RdAt T H' a z i := h.elim fun dx e => ⟨dx, s _ _ e⟩
theorem But.fz {a : Addr} {H H' : Hp} {b : Addr} {xs : List V} {C dx : Addr} {fs : List (Str × V)} (k : But a H H') (ea : H a = some (.ins C dx fs)) (h : FzT H b xs) : FzT H' b xs := by
  obtain ⟨ob, h1, h2⟩ := h
  refine ⟨ob, k _ _ h1 fun z => ?_, h2⟩
  rw [z, ea] at h1
  cases h1
theorem But.sk {T : Txt K mg} {a : Addr} {H H' : Hp} {p : Addr} {row : List Int} {z : Str} {i : Nat} (k : But a H H') (ra : RdAt T H a z i) (ne : p ≠ a) (h : SkAt T H p row) : SkAt T H' p row := by
  obtain ⟨d1, ea⟩ := ra
  obtain ⟨dx, r, q, h1, h2, h3⟩ := h
  exact ⟨dx, r, q, k _ _ h1 ne, k.fz ea h2, k.fz ea h3⟩
def spReadRdM (T : Txt K mg) : Sp := fun vs H Q E => ∃ (a p : Addr) (z : Str) (row : List Int), vs = [.ref a, .ref p, .int 40] ∧ RdAt T H a z 0 ∧ SkAt T H p row ∧ p ≠ a ∧ (row.length ≤ 12 ∧ row.length % 2 = 0) ∧ z.length ≤ 5000 ∧
  (isRd (takeL row.length 40 true z.cps.toList []) = true → ∀ q H', RdAt T H' a z (takeL row.length 40 true z.cps.toList []).length → But a H H' → H' q = some (.tup ((takeL row.length 40 true z.cps.toList []).map V.int)) → Q (.ref q) H') ∧
  (isRd (takeL row.length 40 true z.cps.toList []) = false → TextErrB T (.int ((takeL row.length 40 true z.cps.toList []).length : Nat)) a H E)
theorem ok_Reader_read_round (T : Txt K mg) : FnOk P w K mg base (L2.CX P w) 7 T.mRound.a T.mRound.fd ["self", "skin", "most"] (spReadRdM T) := by
  refine T.mRound.F.ok sc_Reader_read_round (fun vs H Q E h => ?_) (fun cdv A outer s H vs Q E hr h => ?_)
  · obtain ⟨a, p, z, row, rfl, _⟩ := h
    rfl
  · obtain ⟨a, p, z, row, rfl, ra, sk, npa, hl, hz, k, ke⟩ := h
    have nd := sc_Reader_read_round.nd
    refine ⟨_, (pss_cons (ps_set (i := 3) nd rfl (Or.inl rfl) (pe_meth (C := T.Reader.C) (m := "read_letters") (pv 0) T.Reader.c ⟨T.mLetters.i, T.mLetters.n, T.mLetters.F.kp⟩ (ok_Reader_read_letters T) (hr.mono (by decide)) T.mLetters.b .nil pass0 (pa_cons (pe_op op_mul pe_int (pe_fld (pv 1) rfl)) (pa_cons (pe_callB (call_min2 rfl) (by rfl) T.zmin (by decide +kernel) (pa_cons (pv 2) (pa_cons (pe_glob rfl T.c_MOST_IN_ROUND T.r_MOST_IN_ROUND) pa_nil))) (pa_cons pe_bl pa_nil)))))
    (pss_cons (ps_expr (pe_methE (C := T.Reader.C) (m := "check") (pv 0) T.Reader.c ⟨T.mCheck.i, T.mCheck.n, T.mCheck.F.kp⟩ (ok_Reader_check T) (hr.mono (by decide)) T.mCheck.b .nil (fun σ => passAt (takes_of rfl rfl rfl rfl) σ) (pa_cons (pe_call (ok_is_fit_round T) (hr.mono (by decide)) (by rfl) T.is_fit_round.g T.is_fit_round.k T.is_fit_round.b .nil pass0 (pa_cons (pv 1) (pa_cons (pv 3) pa_nil))) pa_nil)))
    (pss_one (ps_ret (pv 3))))), ?_⟩
    generalize hW : takeL row.length 40 true z.cps.toList [] = W at k ke
    have lW : Lt (row.length : Int) W := hW ▸ takeL_lt _ [] fun x hx => by cases hx
    have nW : W.length ≤ 40 := hW ▸ takeL_most _ [] (Nat.zero_le _)
    obtain ⟨dx0, ha0⟩ := id ra
    obtain ⟨dx, r, q, hp, hr2, hq2⟩ := id sk
    refine sqn ⟨_, rfl, a, dx0, _, rfl, ha0, rfl, ?_⟩
    refine ⟨_, rfl, p, T.Skin.C, dx, _, _, rfl, hp, T.Skin.c, nBands T, skF_bands .., _, _, rfl, rfl, .inl ⟨by decide, by decide⟩, ?_⟩
    have en : 2 * ((row.length / 2 : Nat) : Int) = (row.length : Int) := by omega
    refine ⟨_, rfl, _, _, rfl, ?_⟩
    refine ⟨a, z, row.length, 40, true, by rw [← en]; rfl, ra, hz, by decide, by omega, fun q1 H1 r1 k1 e1 => ?_⟩
    rw [hW] at r1 e1
    obtain ⟨dx1, ha1⟩ := id r1
    have sk1 : SkAt T H1 p row := But.sk k1 ra npa sk
    refine sqn ⟨_, rfl, a, dx1, _, rfl, ha1, rfl, ?_⟩
    refine ⟨_, rfl, _, rfl, p, row, _, isRd W, rfl, sk1, hl, .inr ⟨q1, W, rfl, SqT.of e1, nW, lW, rfl⟩, fun H2 s2 => ?_⟩
    refine ⟨a, z, W.length, isRd W, rfl, r1.same s2, fun e => ?_, fun e => ?_⟩
    · exact ⟨_, rfl, k e q1 H2 (r1.same s2) (But.same k1 s2) (s2 _ _ e1)⟩
    · intro d H3 s3 h3
      exact ke e d H3 (But.same k1 (fun b o z => s3 b o (s2 b o z))) h3
end
end Tt
set_option maxRecDepth 100000
set_option maxHeartbeats 4000000
namespace Tt
open PySem L2
open LamX (ExtN)
def goS (acc : List Int) (l : Int) : Bool := decide (l ∉ acc) && (decide (acc ≠ []) || decide (l = 0))
def takeS : List Nat → List Int → List Int
  | [], acc => acc
  | c :: cs, acc => match letOf c with
    | none => acc
    | some l => if goS acc l = true then takeS cs (acc ++ [l]) else acc
theorem takeS_none {cs acc} (h : (cs : List Nat).head?.bind letOf = none) : takeS cs acc = acc := by
  cases cs with
  | nil => rfl
  | cons c cs =>
    have h' : letOf c = none := h
    unfold takeS
    rw [h']
theorem takeS_no {cs acc} {l : Int} (h : (cs : List Nat).head?.bind letOf = some l) (g : goS acc l = false) : takeS cs acc = acc := by
  cases cs with
  | nil => rfl
  | cons c cs =>
    have h' : letOf c = some l := h
    unfold takeS
    rw [h']
    show (if goS acc l = true then _ else _) = _
    rw [g, if_neg Bool.false_ne_true]
theorem takeS_go {z : Str} {i : Nat} {acc : List Int} {l : Int} (h : letV z i = some l) (g : goS acc l = true) : takeS (z.cps.toList.drop i) acc = takeS (z.cps.toList.drop (i + 1)) (acc ++ [l]) := by
  unfold letV at h
  cases e : z.cps[i]? with
  | none => rw [e] at h; cases h
  | some c =>
    rw [e] at h
    have h' : letOf c = some l := h
    have hl : i < z.cps.size := (Array.getElem?_eq_some_iff.mp e).1
    have hd : z.cps.toList.drop i = c :: z.cps.toList.drop (i + 1) := by
      rw [List.drop_eq_getElem_cons (by rw [Array.length_toList]; exact hl)]
      congr 1
      have := (Array.getElem?_eq_some_iff.mp e).2
      simpa using this
    rw [hd]
    conv => lhs; unfold takeS
    rw [h']
    show (if goS acc l = true then _ else _) = _
    rw [g, if_pos rfl]
def Dst (acc : List Int) : Prop := acc.Nodup ∧ ∀ x ∈ acc, 0 ≤ x ∧ x < 12
theorem nodup_sub_len : ∀ {l m : List Int}, l.Nodup → (∀ x ∈ l, x ∈ m) → l.length ≤ m.length
  | [], m, _, _ => Nat.zero_le _
  | x :: l, m, nd, h => by
    rw [List.nodup_cons] at nd
    have hx : x ∈ m := h x (List.mem_cons_self ..)
    have h2 : l.length ≤ (m.erase x).length := nodup_sub_len nd.2 fun y hy => by
      have ne : y ≠ x := fun e => nd.1 (e ▸ hy)
      exact (List.mem_erase_of_ne ne).mpr (h y (List.mem_cons_of_mem _ hy))
    rw [List.length_erase_of_mem hx] at h2
    have : 0 < m.length := List.length_pos_of_mem hx
    show l.length + 1 ≤ m.length
    omega
theorem Dst.len {acc : List Int} (h : Dst acc) : acc.length ≤ 12 := by
  have := nodup_sub_len (m := rgI 12) h.1 fun x hx => by
    obtain ⟨h0, h1⟩ := h.2 x hx
    unfold rgI
    exact List.mem_map.mpr ⟨x.toNat, List.mem_range.mpr (by omega), by omega⟩
  rw [rgI_len] at this
  exact this
theorem in_ints (l : Int) (acc : List Int) : inV (.int l) (acc.map V.int) = decide (l ∈ acc) := by
  unfold inV
  rw [List.any_map]
  rw [Bool.eq_iff_iff, List.any_eq_true, decide_eq_true_iff]
  constructor
  · rintro ⟨x, hx, e⟩
    have : decide (x = l) = true := e
    rw [← of_decide_eq_true this]
    exact hx
  · intro h
    exact ⟨l, h, (show decide (l = l) = true from decide_eq_true rfl)⟩
theorem Dst.snoc {acc : List Int} {l : Int} (h : Dst acc) (n : l ∉ acc) (h0 : 0 ≤ l) (h1 : l < 12) : Dst (acc ++ [l]) := by
  refine ⟨?_, fun x hx => ?_⟩
  · rw [List.nodup_append]
    refine ⟨h.1, by simp, fun a ha b hb => ?_⟩
    rw [List.mem_singleton.mp hb]
    intro e
    exact n (e ▸ ha)
  · rcases List.mem_append.mp hx with hx | hx
    · exact h.2 x hx
    · rw [List.mem_singleton.mp hx]
      exact ⟨h0, h1⟩
theorem takeS_dst : ∀ (cs : List Nat) (acc : List Int), Dst acc → Dst (takeS cs acc)
  | [], acc, h => h
  | c :: cs, acc, h => by
    unfold takeS
    cases e : letOf c with
    | none => exact h
    | some l =>
      show Dst (if goS acc l = true then _ else acc)
      by_cases g : goS acc l = true
      · rw [if_pos g]
        have lt := letOf_lt e
        refine takeS_dst cs _ (h.snoc ?_ lt.1 lt.2.1)
        unfold goS at g
        rw [Bool.and_eq_true] at g
        exact of_decide_eq_true g.1
      · rw [if_neg g]
        exact h
def IsRow (W : List Int) : Prop := ∃ n : Nat, 1 ≤ n ∧ n ≤ 6 ∧ W.Perm (rgI (2 * n))
theorem rowP_iff {W : List Int} : RowP (W.map V.int) ↔ IsRow W := by
  constructor
  · rintro ⟨n, row, h1, h2, e, h3⟩
    have : W = row := map_int_inj e
    exact ⟨n, h1, h2, this ▸ h3⟩
  · rintro ⟨n, h1, h2, h3⟩
    exact ⟨n, W, h1, h2, rfl, h3⟩
open Classical in
section
variable {P : Program} {w : World} {K : PySem.W.Frag} {mg : Str → Option Value} {base : Heap}
def spReadSkM (T : Txt K mg) : Sp := fun vs H Q E => ∃ (a : Addr) (z : Str), vs = [.ref a] ∧ RdAt T H a z 0 ∧ z.length ≤ 5000 ∧
  (IsRow (takeS z.cps.toList []) → ∀ p H', RdAt T H' a z (takeS z.cps.toList []).length → (∀ b o, H b = some o → b ≠ a → H' b = some o) → SkAt T H' p (trn (takeS z.cps.toList [])) → Q (.ref p) H') ∧
  (¬ IsRow (takeS z.cps.toList []) → TextErrB T (.int ((takeS z.cps.toList []).length : Nat)) a H E)
theorem ok_Reader_read_skin (T : Txt K mg) : FnOk P w K mg base (L2.CX P w) 6 T.mSkin.a T.mSkin.fd ["self"] (spReadSkM T) := by
  refine T.mSkin.F.okX sc_Reader_read_skin (fun vs H Q E h => ?_) (fun cdv A outer s H vs Q E hr h => ?_)
  · obtain ⟨a, z, rfl, _⟩ := h
    rfl
  · obtain ⟨a, z, rfl, ra, hz, k, ke⟩ := h
    have nd := sc_Reader_read_skin.nd
    refine ⟨_, (pss_cons (ps_set (i := 1) nd rfl (Or.inl rfl) (pe_lst pa_nil))
    (pss_cons (ps_set (i := 2) nd rfl (Or.inl rfl) (pe_meth0 (C := T.Reader.C) (m := "letter") (pv 0) T.Reader.c ⟨T.mLetter.i, T.mLetter.n, T.mLetter.F.kp⟩ (ok_Reader_letter T) (hr.mono (by decide)) T.mLetter.b .nil pass0))
    (pss_cons (ps_while (passes_of rfl) (PW.pt (pw_and (pt_cmpR op_notN (pv 2) pe_non (nomark _)) (pw_and (pt_cmpR op_notIn_seq (pv 2) (pv 1) rfl) (pw_and1 (PW.pt (pw_or (pt_truth (pv 1) (fun _ => rfl)) (pw_or1 (pt_cmpR (op_eqD hr.units) (pv 2) pe_int (nomark _)))))))))
      (pss_cons (ps_expr (pe_bm PySem.F.plainAttrs_list PySem.F.slot_list_append PySem.F.type_list_append mt_append (pv 1) (pa_cons (pv 2) pa_nil)))
      (pss_cons (ps_fldaug (pv 0) pe_int ip_add)
      (pss_one (ps_set (i := 2) nd rfl (Or.inl rfl) (pe_meth0 (C := T.Reader.C) (m := "letter") (pv 0) T.Reader.c ⟨T.mLetter.i, T.mLetter.n, T.mLetter.F.kp⟩ (ok_Reader_letter T) (hr.mono (by decide)) T.mLetter.b .nil pass0))))))
    (pss_cons (ps_expr (pe_methE (C := T.Reader.C) (m := "check") (pv 0) T.Reader.c ⟨T.mCheck.i, T.mCheck.n, T.mCheck.F.kp⟩ (ok_Reader_check T) (hr.mono (by decide)) T.mCheck.b .nil (fun σ => passAt (takes_of rfl rfl rfl rfl) σ) (pa_cons (pe_call (ok_is_row T) (hr.mono (by decide)) (by rfl) T.is_row.g T.is_row.k T.is_row.b .nil pass0 (pa_cons (pv 1) pa_nil)) pa_nil)))
    (pss_one (ps_ret (pe_makeE T.Skin.kk (ok_Skin_init T) (hr.mono (by decide)) (by rfl) T.Skin.g T.Skin.b .nil (fun σ => passAt (takes_of rfl rfl rfl rfl) σ) (pa_cons (pv 1) pa_nil)))))))), ?_⟩
    generalize hW : takeS z.cps.toList [] = W at k ke
    have dW : Dst W := hW ▸ takeS_dst _ [] ⟨List.nodup_nil, fun x hx => by cases hx⟩
    refine sqn ⟨(by show 0 ≤ sizeLine; decide), fun f hf => ?_⟩
    have nfa : f ≠ a := by
      obtain ⟨dx, ha⟩ := ra
      exact (ne_of_none ha hf).symm
    have ra1 : RdAt T (upd H f (.lst [])) a z 0 := by
      obtain ⟨dx, ha⟩ := ra
      exact ⟨dx, by rw [upd_ne nfa.symm]; exact ha⟩
    obtain ⟨dx0, ha0⟩ := id ra1
    refine sqn ⟨_, rfl, a, dx0, _, rfl, ha0, rfl, nil_i ⟨a, z, 0, rfl, ra1, hz, Nat.zero_le _, ?_⟩⟩
    dsimp only
    refine sq_r (fun σ H' => ∃ v2 : Option V, σ = [some (.ref a), some (.ref f), v2] ∧ RdAt T H' a z W.length ∧ H' f = some (.lst (W.map V.int)) ∧ ∀ b o, H b = some o → b ≠ a → H' b = some o) (fun rest => ?_) ?_
    · refine while_by3 (fun σ H' => ∃ (i : Nat) (acc : List Int), σ = [some (.ref a), some (.ref f), some (optV (letV z i))] ∧ RdAt T H' a z i ∧ H' f = some (.lst (acc.map V.int)) ∧ acc.length = i ∧ i ≤ z.length ∧ Dst acc ∧ takeS (z.cps.toList.drop i) acc = W ∧ ∀ b o, H b = some o → b ≠ a → H' b = some o)
        (fun _ H' => match H' f with | some (.lst xs) => z.length - xs.length | _ => 0)
        ⟨0, [], rfl, ra1, upd_same, rfl, Nat.zero_le _, ⟨List.nodup_nil, fun x hx => by cases hx⟩, hW, fun b o hb nb => by rw [upd_ne (ne_of_none hb hf)]; exact hb⟩ ?_
      rintro σ H' ⟨i, acc, rfl, r, hf', la, iz, da, tk, kp⟩
      have stop : takeS (z.cps.toList.drop i) acc = acc → ∃ v2 : Option V, [some (.ref a), some (.ref f), some (optV (letV z i))] = [some (.ref a), some (.ref f), v2] ∧ RdAt T H' a z W.length ∧ H' f = some (.lst (W.map V.int)) ∧ ∀ b o, H b = some o → b ≠ a → H' b = some o := fun e => by
        have e2 : acc = W := e.symm.trans tk
        rw [← e2, la]
        exact ⟨_, rfl, r, hf', kp⟩
      have hd := head_drop z i
      cases el : letV z i with
      | none =>
        rw [el] at hd stop
        refine ⟨_, rfl, rfl, _, rfl, iteF (iteF ?_)⟩
        exact rest _ _ (stop (takeS_none hd))
      | some l =>
        rw [el] at hd stop
        have lt := letOf_lt (c := (z.cps[i]?).getD 0) (l := l) (by
          unfold letV at el
          cases e : z.cps[i]? with
          | none => rw [e] at el; cases el
          | some c => rw [e] at el; exact el)
        have il : i < z.length := by
          rcases Nat.lt_or_ge i z.length with z1 | z1
          · exact z1
          · exfalso
            unfold letV at el
            rw [Array.getElem?_eq_none (show z.cps.size ≤ i from z1)] at el
            cases el
        have nl := da.len
        refine ⟨_, rfl, rfl, _, rfl, iteT ?_⟩
        refine ⟨_, rfl, _, rfl, f, _, rfl, .inl (SqL.of hf'), rfl, flat_ints acc, _, rfl, ?_⟩
        rw [show inV (optV (some l)) (acc.map V.int) = decide (l ∈ acc) from in_ints l acc]
        refine ite2 (fun c1 => ?_) (fun c1 => iteF (rest _ _ (stop (takeS_no hd (by
          unfold goS
          have : l ∈ acc := by simpa using c1
          rw [decide_eq_false (by simpa using this)]
          rfl)))))
        have c1' : l ∉ acc := by simpa using c1
        have step : ∀ D : Ends, (∀ σ' H2, σ' = [some (.ref a), some (.ref f), some (optV (letV z (i + 1)))] → RdAt T H2 a z (i + 1) → H2 f = some (.lst ((acc ++ [l]).map V.int)) → (∀ b o, H b = some o → b ≠ a → H2 b = some o) → D.nx σ' H2) →
            (tSeq (tDrop (tBM K "list" rAppend (tVar 1) (tCons (tVar 2) tNil))) (tSeq (sFldAug K (tVar 0) (tC (V.int 1)) (ipI fun i j => i + j) (Str.ofString "at")) (tAsg (tMeth T.Reader.C (Str.ofString "letter") (spLetter T) [] E0 (tVar 0) tNil) (gName 2)))) D [some (.ref a), some (.ref f), some (optV (some l))] H' := fun D kD => by
          refine sqn ⟨_, rfl, .inl ⟨rfl, _, SqL.of hf'⟩, _, rfl, f, _, _, rfl, rfl, hf', by rw [List.length_map]; exact smallB (by omega), ?_⟩
          obtain ⟨dx, ha⟩ := id r
          have ha3 : (upd H' f (.lst (acc.map V.int ++ [optV (some l)]))) a = some (.ins T.Reader.C dx (rdF z i)) := by rw [upd_ne nfa.symm]; exact ha
          have hf3 : (upd H' f (.lst (acc.map V.int ++ [optV (some l)]))) f = some (.lst ((acc ++ [l]).map V.int)) := by rw [upd_same, List.map_append]; rfl
          have kp3 : ∀ b o, H b = some o → b ≠ a → (upd H' f (.lst (acc.map V.int ++ [optV (some l)]))) b = some o := fun b o hb nb => by
            rw [upd_ne (ne_of_none hb hf)]
            exact kp b o hb nb
          generalize upd H' f (.lst (acc.map V.int ++ [optV (some l)])) = H3 at ha3 hf3 kp3
          dsimp only
          refine sqn ⟨_, rfl, a, T.Reader.C, dx, _, _, rfl, ha3, T.Reader.c, nAt T, rdF_at .., ?_⟩
          refine ⟨_, _, rfl, rfl, dx, _, ha3, (by show 2 < 1000; decide), ?_⟩
          have ha4 : (upd H3 a (.ins T.Reader.C dx (putF "at" (.int ((i : Int) + 1)) (rdF z i)))) a = some (.ins T.Reader.C dx (rdF z (i + 1))) := by
            rw [upd_same]
            have : ((i : Int) + 1) = ((i + 1 : Nat) : Int) := by omega
            rw [this]
            rfl
          have hf4 : (upd H3 a (.ins T.Reader.C dx (putF "at" (.int ((i : Int) + 1)) (rdF z i)))) f = some (.lst ((acc ++ [l]).map V.int)) := by rw [upd_ne nfa]; exact hf3
          have kp4 : ∀ b o, H b = some o → b ≠ a → (upd H3 a (.ins T.Reader.C dx (putF "at" (.int ((i : Int) + 1)) (rdF z i)))) b = some o := fun b o hb nb => by rw [upd_ne nb]; exact kp3 b o hb nb
          show (tAsg (tMeth T.Reader.C (Str.ofString "letter") (spLetter T) [] E0 (tVar 0) tNil) (gName 2)) _ _ (upd H3 a (.ins T.Reader.C dx (putF "at" (.int ((i : Int) + 1)) (rdF z i))))
          generalize upd H3 a (.ins T.Reader.C dx (putF "at" (.int ((i : Int) + 1)) (rdF z i))) = H4 at ha4 hf4 kp4
          refine ⟨_, rfl, a, dx, _, rfl, ha4, rfl, nil_i ⟨a, z, i + 1, rfl, ⟨dx, ha4⟩, hz, il, ?_⟩⟩
          exact kD _ _ rfl ⟨dx, ha4⟩ hf4 kp4
        have gT : (acc ≠ [] ∨ l = 0) → goS acc l = true := fun q => by
          unfold goS
          rw [decide_eq_true c1', Bool.true_and, Bool.or_eq_true, decide_eq_true_iff, decide_eq_true_iff]
          exact q
        refine ⟨_, rfl, !(acc.map V.int).isEmpty, .inl ⟨_, SqL.of hf', rfl⟩, ?_⟩
        have okN : goS acc l = true → ∀ σ' H2, (σ' = [some (.ref a), some (.ref f), some (optV (letV z (i + 1)))] ∧ RdAt T H2 a z (i + 1) ∧ H2 f = some (.lst ((acc ++ [l]).map V.int)) ∧ (∀ b o, H b = some o → b ≠ a → H2 b = some o)) → ∃ m', m' < (match H' f with | some (.lst xs) => z.length - xs.length | _ => 0) ∧ (m' = match H2 f with | some (.lst xs) => z.length - xs.length | _ => 0) ∧ ∃ (i : Nat) (acc : List Int), σ' = [some (.ref a), some (.ref f), some (optV (letV z i))] ∧ RdAt T H2 a z i ∧ H2 f = some (.lst (acc.map V.int)) ∧ acc.length = i ∧ i ≤ z.length ∧ Dst acc ∧ takeS (z.cps.toList.drop i) acc = W ∧ ∀ b o, H b = some o → b ≠ a → H2 b = some o := by
          rintro g σ' H2 ⟨e1, r2, f2, kp2⟩
          refine ⟨z.length - (i + 1), ?_, ?_, i + 1, acc ++ [l], e1, r2, f2, by rw [List.length_append, la]; rfl, il, da.snoc c1' lt.1 lt.2.1, (takeS_go el g).symm.trans tk, kp2⟩
          · rw [hf']
            show z.length - (i + 1) < z.length - (acc.map V.int).length
            rw [List.length_map]
            omega
          · rw [f2]
            show z.length - (i + 1) = z.length - ((acc ++ [l]).map V.int).length
            rw [List.length_map, List.length_append, la]
            rfl
        refine ite2 (fun c => ?_) (fun c => ?_)
        · have hne : acc ≠ [] := by simpa using c
          exact iteT ⟨_, okN (gT (.inl hne)), step _ fun σ' H2 e1 e2 e3 e4 => ⟨e1, e2, e3, e4⟩⟩
        · have hne : acc = [] := by simpa using c
          refine ⟨_, rfl, _, _, .int l, .int 0, rfl, rfl, _, rfl, ?_⟩
          rw [show PyData.eqv (.int l) (.int 0) = decide (l = 0) by simp [PyData.eqv] <;> rfl]
          refine ite2 (fun c2 => ?_) (fun c2 => ?_)
          · have e0 : l = 0 := by simpa [optV] using c2
            exact ⟨_, okN (gT (.inr e0)), step _ fun σ' H2 e1 e2 e3 e4 => ⟨e1, e2, e3, e4⟩⟩
          · have e0 : ¬ l = 0 := by simpa [optV] using c2
            refine rest _ _ (stop (takeS_no hd ?_))
            unfold goS
            rw [decide_eq_false e0, hne]
            simp
    · rintro σ H' ⟨v2, rfl, r, hf', kp⟩
      obtain ⟨dx, ha⟩ := id r
      have dl := dW.len
      refine sqn ⟨_, rfl, a, dx, _, rfl, ha, rfl, ?_⟩
      refine ⟨_, rfl, _, decide (IsRow W), rfl, .lst (SqL.of hf') (by rw [List.length_map]; omega) (ints_ty W) (by rw [decide_eq_true_iff, rowP_iff]), fun H2 s2 => ?_⟩
      refine ⟨a, z, W.length, decide (IsRow W), rfl, r.same s2, fun e => ?_, fun e => ?_⟩
      · have hrow := of_decide_eq_true e
        obtain ⟨n, n1, n6, pm⟩ := id hrow
        refine ⟨_, rfl, fun x dx2 nx ndx ne => ?_⟩
        have f2 := s2 _ _ hf'
        refine ⟨x, dx2, _, rfl, upd_same, .inr ⟨f, n, W, rfl, .inl ?_, n1, n6, pm, fun H3 sk k3 => ?_⟩⟩
        · refine SqL.of ?_
          rw [upd_ne (ne_of_none f2 nx), upd_ne (ne_of_none f2 ndx)]
          exact f2
        · have k4 : ∀ b o, H2 b = some o → H3 b = some o := fun b o hb => k3 b o (by rw [upd_ne (ne_of_none hb nx), upd_ne (ne_of_none hb ndx)]; exact hb) (ne_of_none hb nx)
          refine ⟨rfl, k hrow x H3 ((r.same s2).same k4) (fun b o hb nb => k4 b o (s2 b o (kp b o hb nb))) sk⟩
      · intro d H3 s3 h3
        exact ke (of_decide_eq_false e) d H3 (fun b o hb nb => s3 b o (s2 b o (kp b o hb nb))) h3
end
end Tt
set_option maxRecDepth 100000
set_option maxHeartbeats 4000000
namespace Tt
open PySem L2
open LamX (ExtN)
def wr (ns : List Int) : Str := ⟨(ns.map code).toArray⟩
def sg1 (l : Int) : Str := ⟨#[code l]⟩
theorem app_nil (a b : Str) : (a ++ Str.ofString "" ++ b).cps.toList = a.cps.toList ++ b.cps.toList := by
  show ((a.cps ++ (Str.ofString "").cps) ++ b.cps).toList = _
  simp [show (Str.ofString "").cps = #[] from rfl]
theorem join_sgs : ∀ ns : List Int, (Str.join (Str.ofString "") (ns.map sg1)).cps.toList = ns.map code
  | [] => rfl
  | [l] => rfl
  | l :: m :: ns => by
    have h := join_sgs (m :: ns)
    show ((sg1 l) ++ (Str.ofString "") ++ Str.join (Str.ofString "") ((m :: ns).map sg1)).cps.toList = _
    rw [app_nil, h]
    rfl
theorem join_wr (ns : List Int) : Txt.join (Str.ofString "") (ns.map sg1) = wr ns := by
  show Builtin.Str.glued (Str.ofString "") (ns.map sg1) = _
  rw [StrLaws.glued_eq_join]
  have h := join_sgs ns
  unfold wr
  rw [← h]
section
variable {P : Program} {w : World} {K : PySem.W.Frag} {mg : Str → Option Value} {base : Heap}
def spSigns (K : PySem.W.Frag) : Sp := fun vs H Q _ => ∃ (t : Addr) (ns : List Int), vs = [.ref t] ∧ SqT K H t (ns.map V.int) ∧ ns.length ≤ 200 ∧ Lt 12 ns ∧ ∀ H', Same H H' → Q (.str (wr ns)) H'
theorem ok_signs_of (T : Txt K mg) : FnOk P w K mg base CX0 1 T.signs_of.a T.signs_of.fd ["letters"] (spSigns K) := by
  refine T.signs_of.F.ok sc_signs_of (fun vs H Q E h => ?_) (fun cdv A outer s H vs Q E hr h => ?_)
  · obtain ⟨t, ns, rfl, _⟩ := h
    rfl
  · obtain ⟨t, ns, rfl, ht, hn, lt, k⟩ := h
    have nd := sc_signs_of.nd
    refine ⟨_, (pss_one (ps_ret (pe_join pe_str (pe_lc (own := [("letter", 1)]) (g := gName 1) rfl nd (pi_tup (pv 0)) (blkOk_by (own := [("letter", 1)]) (N := N_signs_of) (sc := defScope s_signs_of) (by decide +kernel)) (fun _ _ _ _ _ => pg_name (i := 1) nd rfl (Or.inl rfl)) (fun _ _ _ _ _ => pts_nil) (fun _ _ _ _ _ => (pe_ix ix_str (pe_glob rfl T.c_LETTER_SIGNS T.r_LETTER_SIGNS) (pv 1) (fun _ _ => rfl))))))), ?_⟩
    refine ⟨⟨_, rfl⟩, _, rfl, t, rfl, ⟨_, ht⟩, fun D hD => lc_tup (K := K) (a := t) (xs := ns.map V.int) (fun i H' => H' D = some (.lst (((ns.take i).map sg1).map V.str)) ∧ Same H H')
      ⟨upd_same, same_new hD⟩ (fun i H' _ z => same_seqT z.2 ht) ?_ ?_⟩
    · rintro i y H' hi ⟨h1, s1⟩
      obtain ⟨z, rfl, hz⟩ := ints_at hi
      obtain ⟨z0, z1⟩ := lt z (List.mem_of_getElem? hz)
      have hil : i < ns.length := (List.getElem?_eq_some_iff.mp hz).1
      refine ⟨rfl, yes_t ?_⟩
      have e : atI sgS.cps.toList z = some (code z) := by
        have h : ∀ k : Fin 12, atI sgS.cps.toList ((k.val : Nat) : Int) = some (code ((k.val : Nat) : Int)) := by decide
        obtain ⟨n, rfl⟩ := Int.eq_ofNat_of_zero_le z0
        exact h ⟨n, by omega⟩
      refine ⟨_, rfl, sgS, z, code z, rfl, rfl, by decide, e, _, h1, ?_, ?_, fun b o hb => ?_⟩
      · rw [List.length_map, List.length_map, List.length_take]
        exact small1000 (by omega)
      · rw [upd_same, List.take_add_one, hz, List.map_append, List.map_append]
        rfl
      · rw [upd_ne (ne_of_none hb hD)]
        exact s1 b o hb
    · rintro H' ⟨h1, s1⟩
      rw [List.length_map, List.take_length] at h1
      refine ⟨_, D, ns.map sg1, rfl, rfl, .inl (SqL.of h1), ?_, ?_⟩
      · have z : (Str.ofString "").length = 0 := by decide
        rw [z, Nat.mul_zero, Nat.add_zero, List.map_map]
        have : (ns.map ((fun x : Str => x.length) ∘ sg1)) = List.replicate ns.length 1 := by
          rw [List.eq_replicate_iff]
          refine ⟨List.length_map .., fun b hb => ?_⟩
          obtain ⟨x, _, rfl⟩ := List.mem_map.mp hb
          rfl
        rw [this, List.sum_replicate_nat]
        omega
      · rw [join_wr]
        exact k H' s1
end
end Tt
set_option maxRecDepth 100000
set_option maxHeartbeats 4000000
namespace Tt
open PySem L2
open LamX (ExtN)
section
variable {P : Program} {w : World} {K : PySem.W.Frag} {mg : Str → Option Value} {base : Heap}
def spWordText (T : Txt K mg) : Sp := fun vs H Q E => ∃ (v x : V), vs = [v, x] ∧ SkOr T v H E fun p row =>
  (WV K 200 row H x false ∧ ∀ H', Same H H' → E (.ref T.BadWord.C) none H') ∨
  ∃ (t : Addr) (ns : List Int), x = .ref t ∧ SqT K H t (ns.map V.int) ∧ ns.length ≤ 200 ∧ Lt (row.length : Int) ns ∧ ∀ H', Same H H' → Q (.str (wr ns)) H'
theorem ok_word_text (T : Txt K mg) : FnOk P w K mg base (L2.CX P w) 7 T.word_text.a T.word_text.fd ["skin", "word"] (spWordText T) := by
  refine T.word_text.F.okX sc_word_text (fun vs H Q E h => ?_) (fun cdv A outer s H vs Q E hr h => ?_)
  · obtain ⟨v, x, rfl, _⟩ := h
    rfl
  · obtain ⟨v, x, rfl, h⟩ := h
    refine ⟨_, (pss_cons (ps_expr (pe_callS (ok_check_skin T) (hr.mono (by decide)) (by rfl) T.check_skin.g T.check_skin.k T.check_skin.b (fun σ => passAt (takes_of rfl rfl rfl rfl) σ) (pa_cons (pv 0) pa_nil)))
    (pss_cons (ps_expr (pe_callS (ok_check_word T) (hr.mono (by decide)) (by rfl) T.check_word.g T.check_word.k T.check_word.b (fun σ => passAt (takes_of rfl rfl rfl rfl) σ) (pa_cons (pv 0) (pa_cons (pv 1) pa_nil))))
    (pss_one (ps_ret (pe_call (ok_signs_of T) (hr.mono (by decide)) (by rfl) T.signs_of.g T.signs_of.k T.signs_of.b .nil pass0 (pa_cons (pv 1) pa_nil)))))), ?_⟩
    rcases h with ⟨hv, he⟩ | ⟨p, row, rfl, hs, ⟨hl, h2⟩, h⟩
    · exact ⟨v, rfl, v, false, rfl, hv, (fun z => nomatch z), fun _ => he⟩
    · refine ⟨_, rfl, _, true, rfl, hs.v, (fun _ => ?_), fun z => nomatch z⟩
      rcases h with ⟨hw, k⟩ | ⟨t, ns, rfl, ht, hn, hb, k⟩
      · exact ⟨_, rfl, _, rfl, p, row, x, false, rfl, hs, hl, hw, (fun z => nomatch z), fun _ => k⟩
      · refine ⟨_, rfl, _, rfl, p, row, _, true, rfl, hs, hl, word_wv h2 ht (by omega) (by omega) hb, (fun _ H1 s1 => ?_), fun z => nomatch z⟩
        refine ⟨_, rfl, t, ns, rfl, same_seqT s1 ht, hn, (fun x hx => ?_), fun H' s2 => k H' (s1.trans s2)⟩
        have := hb x hx
        omega
def spSkinText (T : Txt K mg) : Sp := fun vs H Q E => ∃ (v : V), vs = [v] ∧ SkOr T v H E fun p row => Lt 12 row ∧ ∀ H', Same H H' → Q (.str (wr row)) H'
theorem ok_skin_text (T : Txt K mg) : FnOk P w K mg base (L2.CX P w) 4 T.skin_text.a T.skin_text.fd ["skin"] (spSkinText T) := by
  refine T.skin_text.F.okX sc_skin_text (fun vs H Q E h => ?_) (fun cdv A outer s H vs Q E hr h => ?_)
  · obtain ⟨v, rfl, _⟩ := h
    rfl
  · obtain ⟨v, rfl, h⟩ := h
    refine ⟨_, (pss_cons (ps_expr (pe_callS (ok_check_skin T) (hr.mono (by decide)) (by rfl) T.check_skin.g T.check_skin.k T.check_skin.b (fun σ => passAt (takes_of rfl rfl rfl rfl) σ) (pa_cons (pv 0) pa_nil)))
    (pss_one (ps_ret (pe_call (ok_signs_of T) (hr.mono (by decide)) (by rfl) T.signs_of.g T.signs_of.k T.signs_of.b .nil pass0 (pa_cons (pe_fld (pv 0) rfl) pa_nil))))), ?_⟩
    rcases h with ⟨hv, he⟩ | ⟨p, row, rfl, hs, ⟨hl, h2⟩, lt, k⟩
    · exact ⟨v, rfl, v, false, rfl, hv, (fun z => nomatch z), fun _ => he⟩
    · refine ⟨_, rfl, _, true, rfl, hs.v, (fun _ => ?_), fun z => nomatch z⟩
      obtain ⟨dx, r, q, h1, h2, h3⟩ := hs
      exact ⟨_, rfl, p, T.Skin.C, dx, _, _, rfl, h1, T.Skin.c, nRow T, rfl, r, row, rfl, h2.sq, by omega, lt, k⟩
def TxV (T : Txt K mg) (x : V) (H : Hp) (E : XK) (k : Str → Prop) : Prop := (∃ S, TyB K H x S ∧ decide (S = "str") = false ∧ TextErr T .non H E) ∨ ∃ z : Str, x = .str z ∧ z.length ≤ 5000 ∧ k z
theorem rd_made {T : Txt K mg} {x : V} {H : Hp} {E : XK} {Q : VK} {k : Str → Prop} (hx : TxV T x H E k) (go : ∀ (z : Str) (a : Addr) (H' : Hp), k z → x = .str z → z.length ≤ 5000 → Same H H' → H a = none → RdAt T H' a z 0 → Q (.ref a) H') :
    ∀ a dx, H a = none → H dx = none → dx ≠ a → spRdI T (.ref a :: ([x] ++ [])) (upd (upd H dx (.own a)) a (.ins T.Reader.C dx [])) (fun v H2 => v = .non ∧ Q (.ref a) H2) E := by
  intro a dx na nd ne
  have s1 : Same H (upd (upd H dx (.own a)) a (.ins T.Reader.C dx [])) := fun b o hb => by rw [upd_ne (ne_of_none hb na), upd_ne (ne_of_none hb nd)]; exact hb
  rcases hx with ⟨S, ty, hS, he⟩ | ⟨z, rfl, hz, hk⟩
  · exact ⟨a, dx, x, S, rfl, upd_same, TyB.same ty s1, .inl ⟨hS, fun d H' s2 h => he d H' (s1.trans s2) h⟩⟩
  · exact ⟨a, dx, _, _, rfl, upd_same, .str z, .inr ⟨z, rfl, fun H' r kp => ⟨rfl, go z a H' hk rfl hz (fun b o hb => kp b o (s1 b o hb) (ne_of_none hb na)) na r⟩⟩⟩
theorem rd_made2 {T : Txt K mg} {x : V} {H : Hp} {E : XK} {Q : VK} {k : Str → Prop} {σ : L2.St} {i : Nat} (hi : σ[i]? = some (some x)) (hx : TxV T x H E k) (go : ∀ (z : Str) (a : Addr) (H' : Hp), k z → x = .str z → z.length ≤ 5000 → Same H H' → H a = none → RdAt T H' a z 0 → Q (.ref a) H') :
    tMakeE T.Reader.C (spRdI T) [] (fun _ => E) (tCons (tVar i) tNil) σ H Q := ⟨_, hi, rd_made hx go⟩
theorem But.fresh {a : Addr} {H H1 H2 : Hp} (n : H a = none) (s : Same H H1) (k : But a H1 H2) : Same H H2 := fun b o hb => k b o (s b o hb) (ne_of_none hb n)
def spReadWord (T : Txt K mg) : Sp := fun vs H Q E => ∃ (v x : V), vs = [v, x] ∧ SkOr T v H E fun p row => TxV T x H E fun z =>
  ((takeL row.length 200 false z.cps.toList []).length = z.length → ∀ q H', Same H H' → H' q = some (.tup ((takeL row.length 200 false z.cps.toList []).map V.int)) → Q (.ref q) H') ∧
  ((takeL row.length 200 false z.cps.toList []).length ≠ z.length → TextErr T (.int ((takeL row.length 200 false z.cps.toList []).length : Nat)) H E)
theorem ok_read_word (T : Txt K mg) : FnOk P w K mg base (L2.CX P w) 6 T.read_word.a T.read_word.fd ["skin", "text"] (spReadWord T) := by
  refine T.read_word.F.okX sc_read_word (fun vs H Q E h => ?_) (fun cdv A outer s H vs Q E hr h => ?_)
  · obtain ⟨v, x, rfl, _⟩ := h
    rfl
  · obtain ⟨v, x, rfl, h⟩ := h
    have nd := sc_read_word.nd
    refine ⟨_, (pss_cons (ps_expr (pe_callS (ok_check_skin T) (hr.mono (by decide)) (by rfl) T.check_skin.g T.check_skin.k T.check_skin.b (fun σ => passAt (takes_of rfl rfl rfl rfl) σ) (pa_cons (pv 0) pa_nil)))
    (pss_cons (ps_set (i := 2) nd rfl (Or.inl rfl) (pe_makeE T.Reader.kk (ok_Reader_init T) (hr.mono (by decide)) (by rfl) T.Reader.g T.Reader.b .nil (fun σ => passAt (takes_of rfl rfl rfl rfl) σ) (pa_cons (pv 1) pa_nil)))
    (pss_cons (ps_set (i := 3) nd rfl (Or.inl rfl) (pe_meth (C := T.Reader.C) (m := "read_letters") (pv 2) T.Reader.c ⟨T.mLetters.i, T.mLetters.n, T.mLetters.F.kp⟩ (ok_Reader_read_letters T) (hr.mono (by decide)) T.mLetters.b .nil pass0 (pa_cons (pe_op op_mul pe_int (pe_fld (pv 0) rfl)) (pa_cons (pe_glob rfl T.c_MOST_LETTERS T.r_MOST_LETTERS) (pa_cons pe_bl pa_nil)))))
    (pss_cons (ps_expr (pe_methE (C := T.Reader.C) (m := "check") (pv 2) T.Reader.c ⟨T.mCheck.i, T.mCheck.n, T.mCheck.F.kp⟩ (ok_Reader_check T) (hr.mono (by decide)) T.mCheck.b .nil (fun σ => passAt (takes_of rfl rfl rfl rfl) σ) (pa_cons (pe_meth0 (C := T.Reader.C) (m := "is_ended") (pv 2) T.Reader.c ⟨T.mEnd.i, T.mEnd.n, T.mEnd.F.kp⟩ (ok_Reader_is_ended T) (hr.mono (by decide)) T.mEnd.b .nil pass0) pa_nil)))
    (pss_one (ps_ret (pv 3))))))), ?_⟩
    rcases h with ⟨hv, he⟩ | ⟨p, row, rfl, hs, ⟨hl, h2⟩, h⟩
    · exact ⟨v, rfl, v, false, rfl, hv, (fun z => nomatch z), fun _ => he⟩
    · refine ⟨_, rfl, _, true, rfl, hs.v, (fun _ => ?_), fun z => nomatch z⟩
      dsimp only
      refine sqn (rd_made2 rfl h fun z a H1 hk ex hz s1 na r1 => ?_)
      obtain ⟨k, ke⟩ := hk
      generalize hW : takeL row.length 200 false z.cps.toList [] = W at k ke
      obtain ⟨dx, r, q, hp, hr2, hq2⟩ := hs
      obtain ⟨d1, ha1⟩ := id r1
      refine sqn ⟨_, rfl, a, d1, _, rfl, ha1, rfl, ?_⟩
      refine ⟨_, rfl, p, T.Skin.C, dx, _, _, rfl, s1 _ _ hp, T.Skin.c, nBands T, skF_bands .., _, _, rfl, rfl, .inl ⟨by decide, by decide⟩, ?_⟩
      have en : 2 * ((row.length / 2 : Nat) : Int) = (row.length : Int) := by omega
      refine ⟨a, z, row.length, 200, false, by rw [← en]; rfl, r1, hz, by decide, by omega, fun q1 H2 r2 k2 e2 => ?_⟩
      rw [hW] at r2 e2
      have s2 : Same H H2 := But.fresh na s1 k2
      obtain ⟨d2, ha2⟩ := id r2
      refine sqn ⟨_, rfl, a, d2, _, rfl, ha2, rfl, ?_⟩
      refine ⟨_, rfl, a, d2, _, rfl, ha2, rfl, nil_i ⟨a, z, _, rfl, r2, hz, ?_⟩⟩
      refine ⟨a, z, W.length, decide (W.length = z.length), rfl, r2, fun e => ?_, fun e => ?_⟩
      · exact ⟨_, rfl, k (of_decide_eq_true e) q1 H2 s2 e2⟩
      · intro d H3 s3 h3
        exact ke (of_decide_eq_false e) d H3 (s2.trans s3) h3
def spReadRd (T : Txt K mg) : Sp := fun vs H Q E => ∃ (v x : V), vs = [v, x] ∧ SkOr T v H E fun p row => TxV T x H E fun z =>
  ((isRd (takeL row.length 40 true z.cps.toList []) = true ∧ (takeL row.length 40 true z.cps.toList []).length = z.length) → ∀ q H', Same H H' → H' q = some (.tup ((takeL row.length 40 true z.cps.toList []).map V.int)) → Q (.ref q) H') ∧
  (¬ (isRd (takeL row.length 40 true z.cps.toList []) = true ∧ (takeL row.length 40 true z.cps.toList []).length = z.length) → TextErr T (.int ((takeL row.length 40 true z.cps.toList []).length : Nat)) H E)
theorem ok_read_round (T : Txt K mg) : FnOk P w K mg base (L2.CX P w) 8 T.read_round.a T.read_round.fd ["skin", "text"] (spReadRd T) := by
  refine T.read_round.F.okX sc_read_round (fun vs H Q E h => ?_) (fun cdv A outer s H vs Q E hr h => ?_)
  · obtain ⟨v, x, rfl, _⟩ := h
    rfl
  · obtain ⟨v, x, rfl, h⟩ := h
    have nd := sc_read_round.nd
    obtain ⟨dsD, hdD, hbD⟩ := T.mRound.b
    refine ⟨_, (pss_cons (ps_expr (pe_callS (ok_check_skin T) (hr.mono (by decide)) (by rfl) T.check_skin.g T.check_skin.k T.check_skin.b (fun σ => passAt (takes_of rfl rfl rfl rfl) σ) (pa_cons (pv 0) pa_nil)))
    (pss_cons (ps_set (i := 2) nd rfl (Or.inl rfl) (pe_makeE T.Reader.kk (ok_Reader_init T) (hr.mono (by decide)) (by rfl) T.Reader.g T.Reader.b .nil (fun σ => passAt (takes_of rfl rfl rfl rfl) σ) (pa_cons (pv 1) pa_nil)))
    (pss_cons (ps_set (i := 3) nd rfl (Or.inl rfl) (pe_methE (C := T.Reader.C) (m := "read_round") (pv 2) T.Reader.c ⟨T.mRound.i, T.mRound.n, T.mRound.F.kp⟩ (ok_Reader_read_round T) (hr.mono (by decide)) hbD hdD (fun σ => passAt (takes_of rfl rfl rfl rfl) σ) (pa_cons (pv 0) pa_nil)))
    (pss_cons (ps_expr (pe_methE (C := T.Reader.C) (m := "check") (pv 2) T.Reader.c ⟨T.mCheck.i, T.mCheck.n, T.mCheck.F.kp⟩ (ok_Reader_check T) (hr.mono (by decide)) T.mCheck.b .nil (fun σ => passAt (takes_of rfl rfl rfl rfl) σ) (pa_cons (pe_meth0 (C := T.Reader.C) (m := "is_ended") (pv 2) T.Reader.c ⟨T.mEnd.i, T.mEnd.n, T.mEnd.F.kp⟩ (ok_Reader_is_ended T) (hr.mono (by decide)) T.mEnd.b .nil pass0) pa_nil)))
    (pss_one (ps_ret (pv 3))))))), ?_⟩
    rcases h with ⟨hv, he⟩ | ⟨p, row, rfl, hs, hl, h⟩
    · exact ⟨v, rfl, v, false, rfl, hv, (fun z => nomatch z), fun _ => he⟩
    · refine ⟨_, rfl, _, true, rfl, hs.v, (fun _ => ?_), fun z => nomatch z⟩
      dsimp only
      refine sqn (rd_made2 rfl h fun z a H1 hk ex hz s1 na r1 => ?_)
      obtain ⟨k, ke⟩ := hk
      have npa : p ≠ a := by
        obtain ⟨dx, r, q, hp, _⟩ := hs
        exact ne_of_none hp na
      obtain ⟨d1, ha1⟩ := id r1
      refine sqn ⟨_, rfl, a, d1, _, rfl, ha1, rfl, ?_⟩
      refine ⟨_, rfl, a, p, z, row, rfl, r1, hs.same s1, npa, hl, hz, fun e q1 H2 r2 k2 e2 => ?_, fun e d H2 k2 h2 => ?_⟩
      · have s2 : Same H H2 := But.fresh na s1 k2
        obtain ⟨d2, ha2⟩ := id r2
        refine sqn ⟨_, rfl, a, d2, _, rfl, ha2, rfl, ?_⟩
        refine ⟨_, rfl, a, d2, _, rfl, ha2, rfl, nil_i ⟨a, z, _, rfl, r2, hz, ?_⟩⟩
        refine ⟨a, z, _, decide ((takeL row.length 40 true z.cps.toList []).length = z.length), rfl, r2, fun c => ?_, fun c => ?_⟩
        · exact ⟨_, rfl, k ⟨e, of_decide_eq_true c⟩ q1 H2 s2 e2⟩
        · intro d H3 s3 h3
          exact ke (fun y => of_decide_eq_false c y.2) d H3 (s2.trans s3) h3
      · exact ke (fun y => by rw [y.1] at e; cases e) d H2 (But.fresh na s1 k2) h2
open Classical in
def spReadSk (T : Txt K mg) : Sp := fun vs H Q E => ∃ (x : V), vs = [x] ∧ TxV T x H E fun z =>
  ((IsRow (takeS z.cps.toList []) ∧ (takeS z.cps.toList []).length = z.length) → ∀ p H', Same H H' → SkAt T H' p (trn (takeS z.cps.toList [])) → Q (.ref p) H') ∧
  (¬ (IsRow (takeS z.cps.toList []) ∧ (takeS z.cps.toList []).length = z.length) → TextErr T (.int ((takeS z.cps.toList []).length : Nat)) H E)
theorem ok_read_skin (T : Txt K mg) : FnOk P w K mg base (L2.CX P w) 7 T.read_skin.a T.read_skin.fd ["text"] (spReadSk T) := by
  refine T.read_skin.F.okX sc_read_skin (fun vs H Q E h => ?_) (fun cdv A outer s H vs Q E hr h => ?_)
  · obtain ⟨x, rfl, _⟩ := h
    rfl
  · obtain ⟨x, rfl, h⟩ := h
    have nd := sc_read_skin.nd
    refine ⟨_, (pss_cons (ps_set (i := 1) nd rfl (Or.inl rfl) (pe_makeE T.Reader.kk (ok_Reader_init T) (hr.mono (by decide)) (by rfl) T.Reader.g T.Reader.b .nil (fun σ => passAt (takes_of rfl rfl rfl rfl) σ) (pa_cons (pv 0) pa_nil)))
    (pss_cons (ps_set (i := 2) nd rfl (Or.inl rfl) (pe_methE0 (C := T.Reader.C) (m := "read_skin") (pv 1) T.Reader.c ⟨T.mSkin.i, T.mSkin.n, T.mSkin.F.kp⟩ (ok_Reader_read_skin T) (hr.mono (by decide)) T.mSkin.b .nil (fun σ => passAt (takes_of rfl rfl rfl rfl) σ)))
    (pss_cons (ps_expr (pe_methE (C := T.Reader.C) (m := "check") (pv 1) T.Reader.c ⟨T.mCheck.i, T.mCheck.n, T.mCheck.F.kp⟩ (ok_Reader_check T) (hr.mono (by decide)) T.mCheck.b .nil (fun σ => passAt (takes_of rfl rfl rfl rfl) σ) (pa_cons (pe_meth0 (C := T.Reader.C) (m := "is_ended") (pv 1) T.Reader.c ⟨T.mEnd.i, T.mEnd.n, T.mEnd.F.kp⟩ (ok_Reader_is_ended T) (hr.mono (by decide)) T.mEnd.b .nil pass0) pa_nil)))
    (pss_one (ps_ret (pv 2)))))), ?_⟩
    refine sqn (rd_made2 rfl h fun z a H1 hk ex hz s1 na r1 => ?_)
    obtain ⟨k, ke⟩ := hk
    obtain ⟨d1, ha1⟩ := id r1
    refine sqn ⟨_, rfl, a, d1, _, rfl, ha1, rfl, nil_i ⟨a, z, rfl, r1, hz, fun e p H2 r2 k2 sk => ?_, fun e d H2 k2 h2 => ?_⟩⟩
    · have s2 : Same H H2 := But.fresh na s1 k2
      obtain ⟨d2, ha2⟩ := id r2
      refine sqn ⟨_, rfl, a, d2, _, rfl, ha2, rfl, ?_⟩
      refine ⟨_, rfl, a, d2, _, rfl, ha2, rfl, nil_i ⟨a, z, _, rfl, r2, hz, ?_⟩⟩
      refine ⟨a, z, _, decide ((takeS z.cps.toList []).length = z.length), rfl, r2, fun c => ?_, fun c => ?_⟩
      · exact ⟨_, rfl, k ⟨e, of_decide_eq_true c⟩ p H2 s2 sk⟩
      · intro d H3 s3 h3
        exact ke (fun y => of_decide_eq_false c y.2) d H3 (s2.trans s3) h3
    · exact ke (fun y => e y.1) d H2 (But.fresh na s1 k2) h2
end
end Tt
set_option maxRecDepth 100000
set_option maxHeartbeats 4000000
namespace Tt
open PySem L2
open LamX (ExtN)
section
variable {P : Program} {w : World} {K : PySem.W.Frag} {mg : Str → Option Value} {base : Heap}
def spTrn (K : PySem.W.Frag) : Sp := fun vs H Q _ => ∃ (t : Addr) (row : List Int), vs = [.ref t] ∧ SqL K H t (row.map V.int) ∧ (0 : Int) ∈ row ∧ row.length ≤ 12 ∧
  ∀ r H', Same H H' → FzT H' r ((trn row).map V.int) → Q (.ref r) H'
theorem ok_l_turned (T : Txt K mg) : FnOk P w K mg base CX0 1 T.l_turned.a T.l_turned.fd ["row_here"] (spTrn K) := by
  refine T.l_turned.F.ok sc_l_turned (fun vs H Q E h => ?_) (fun cdv A outer s H vs Q E hr h => ?_)
  · obtain ⟨t, row, rfl, _⟩ := h
    rfl
  · obtain ⟨t, row, rfl, ht, m0, hl, k⟩ := h
    have nd := sc_l_turned.nd
    obtain ⟨i0, i1⟩ := idx_at m0
    have hst : row.idxOf 0 < row.length := List.idxOf_lt_length_of_mem m0
    refine ⟨_, (pss_cons (ps_set (i := 1) nd rfl (Or.inl rfl) (pe_bm PySem.F.plainAttrs_list PySem.F.slot_list_index PySem.F.type_list_index mt_index (pe_callTy call_list_of (by rfl) T.zlist (by decide +kernel) (pa_cons (pv 0) pa_nil)) (pa_cons pe_int pa_nil)))
    (pss_one (ps_ret (pe_op op_catF (pe_callTy call_tuple_ofF (by rfl) T.ztuple (by decide +kernel) (pa_cons (pe_slice sl_list (pv 0) (po_some (pv 1)) po_none) pa_nil)) (pe_callTy call_tuple_ofF (by rfl) T.ztuple (by decide +kernel) (pa_cons (pe_slice sl_list (pv 0) po_none (po_some (pv 1))) pa_nil)))))), ?_⟩
    refine ⟨_, rfl, t, _, rfl, .inl ht, fun l hl0 => ?_⟩
    have s1 : Same H (upd H l (.lst (row.map V.int))) := same_new hl0
    refine ⟨.inl ⟨rfl, _, SqL.of upd_same⟩, l, row.map V.int, .int 0, row.idxOf 0, .int 0, rfl, rfl, SqL.of upd_same, rfl, flat_ints row, ints_get i0, by decide, no_ahead i1, ?_⟩
    exact row_turnedL (K := K) (i := 0) (j := 1) rfl rfl (sqL_ext (.of s1) ht) hst hl (fun r H4 s4 fr => k r H4 (s1.trans s4) fr)
def spRow1 (K : PySem.W.Frag) : Sp := fun vs H Q _ => ∃ (D : Dw) (m : Int), vs = [.ref D.d, .int m] ∧ 0 < m ∧ m ≤ 6 ∧ DrOk D H ∧
  ∀ (n : Nat) (row : List Int) q H', 1 ≤ n → (n : Int) ≤ m → row.Perm (rgI (2 * n)) → row.idxOf 0 = 0 → DrOk D H' → Kp D H H' → FzT H' q (row.map V.int) → Q (.ref q) H'
theorem trn_idx {row : List Int} (m0 : (0 : Int) ∈ row) : (trn row).idxOf 0 = 0 := by
  have hst : row.idxOf 0 < row.length := List.idxOf_lt_length_of_mem m0
  unfold trn
  rw [List.drop_eq_getElem_cons hst, List.getElem_idxOf hst]
  simp
theorem ok_l_row (T : Txt K mg) : FnOk P w K mg base CX0 4 T.l_row.a T.l_row.fd ["draw", "most"] (spRow1 K) := by
  refine T.l_row.F.ok sc_l_row (fun vs H Q E h => ?_) (fun cdv A outer s H vs Q E hr h => ?_)
  · obtain ⟨D, m, rfl, _⟩ := h
    rfl
  · obtain ⟨D, m, rfl, m0, m6, dr, k⟩ := h
    have nd := sc_l_row.nd
    refine ⟨_, (pss_one (ps_ret (pe_call (ok_l_turned T) (hr.mono (by decide)) (by rfl) T.l_turned.g T.l_turned.k T.l_turned.b .nil pass0 (pa_cons (pe_call (ok_l_shuffled T) (hr.mono (by decide)) (by rfl) T.l_shuffled.g T.l_shuffled.k T.l_shuffled.b .nil pass0 (pa_cons (pv 0) (pa_cons (pe_listRg rfl (by rfl) T.zlist (prg_1 (by rfl) T.zrange (pe_op op_mul pe_int (pe_op op_add pe_int (pe_call (ok_l_take T) (hr.mono (by decide)) (by rfl) T.l_take.g T.l_take.k T.l_take.b .nil pass0 (pa_cons (pv 0) (pa_cons (pv 1) pa_nil))))))) pa_nil))) pa_nil)))), ?_⟩
    refine ⟨_, rfl, _, rfl, _, rfl, D, m, rfl, m0, by omega, dr, fun n H1 n0 n1 d1 k1 => ?_⟩
    refine ⟨_, _, rfl, rfl, _, _, rfl, rfl, .inl ⟨by decide, by decide⟩, _, rfl, RgOk.of_le (by omega) (by omega) (by omega) (by omega), fun l hl => ?_⟩
    obtain ⟨j, rfl⟩ := Int.eq_ofNat_of_zero_le n0
    have ej : (2 * (1 + (j : Int))).toNat = 2 * (j + 1) := by omega
    rw [rgV_rgI (by omega), ej] 
    have d2 := d1.new (o := .lst ((rgI (2 * (j + 1))).map V.int)) hl
    refine ⟨D, l, (rgI (2 * (j + 1))).map V.int, rfl, .inl (SqL.of upd_same), by rw [List.length_map, rgI_len]; omega, fun v hv => (by obtain ⟨i, _, rfl⟩ := List.mem_map.mp hv; exact .int i), d2, fun ys q H3 pmv d3 k3 hq h3 => ?_⟩
    obtain ⟨ns', pm, rfl⟩ := permV_ints pmv
    have z0 : (0 : Int) ∈ ns' := (perm_mem pm).mpr ⟨Int.le_refl _, by omega⟩
    refine ⟨q, ns', rfl, SqL.of h3, z0, by rw [perm_len pm]; omega, fun r H4 s4 fr => ?_⟩
    exact k (j + 1) (trn ns') r H4 (by omega) (by omega) ((turn_perm ns' _).trans pm) (trn_idx z0) (d3.same s4) ((k1.trans (Kp.new hl)).trans (k3.trans (.of s4))) fr
end
end Tt
set_option maxRecDepth 100000
set_option maxHeartbeats 4000000
namespace Tt
open PySem L2
open LamX (ExtN)
section
variable {P : Program} {w : World} {K : PySem.W.Frag} {mg : Str → Option Value} {base : Heap}
def spFree54 (K : PySem.W.Frag) : Sp := fun vs H Q _ => ∃ (p : Addr) (ns : List Int), vs = [.ref p] ∧ SqT K H p (ns.map V.int) ∧ ns.length ≤ 500 ∧ (∀ x ∈ ns, 0 ≤ x ∧ x < 12) ∧
  ∀ q H', Same H H' → H' q = some (.tup ((Wd.freed ns).map V.int)) → Q (.ref q) H'
theorem ok_l_free (T : Txt K mg) : FnOk P w K mg base CX0 2 T.l_free.a T.l_free.fd ["word_here"] (spFree54 K) := by
  refine T.l_free.F.ok sc_l_free (fun vs H Q E h => ?_) (fun cdv A outer s H vs Q E hr h => ?_)
  · obtain ⟨p, ns, rfl, _⟩ := h
    rfl
  · obtain ⟨p, ns, rfl, hs, hl, hb, k⟩ := h
    have nd := sc_l_free.nd
    refine ⟨_, (pss_cons (ps_set (i := 1) nd rfl (Or.inl rfl) (pe_lst pa_nil))
    (pss_cons (ps_for PassesOwn.never rfl (pi_tup (pv 0)) (pg_name (i := 2) nd rfl (Or.inl rfl))
      (pss_one (ps_if (PW.pt (pw_and (pt_cmpR (op_neD hr.units) (pv 1) (pe_lst pa_nil) (nomark _)) (pw_and1 (pt_cmpR op_eq (pe_ix ix_list (pv 1) (pe_un un_neg pe_int) (fun _ _ => rfl)) (pe_op op_xor (pv 2) pe_int) (nomark _)))))
        (pss_one (ps_expr (pe_bm0 PySem.F.plainAttrs_list PySem.F.slot_list_pop PySem.F.type_list_pop mt_pop (pv 1))))
        (pss_one (ps_expr (pe_bm PySem.F.plainAttrs_list PySem.F.slot_list_append PySem.F.type_list_append mt_append (pv 1) (pa_cons (pv 2) pa_nil)))))))
    (pss_one (ps_ret (pe_callTy call_tuple_of (by rfl) T.ztuple (by decide +kernel) (pa_cons (pv 1) pa_nil)))))), ?_⟩
    refine ⟨(by show 0 ≤ sizeLine; decide), fun f hf => ?_⟩
    have s1 : Same H (upd H f (.lst [])) := same_new hf
    refine ⟨_, rfl, p, rfl, ⟨_, same_seqT s1 hs⟩, ?_⟩
    refine for_tup (K := K) (a := p) (xs := ns.map V.int) (fun i σ H' => ∃ v2, σ = [some (.ref p), some (.ref f), v2] ∧ Same H H' ∧ H' f = some (.lst ((Wd.freed (ns.take i)).map V.int)))
      ⟨_, rfl, s1, upd_same⟩ (fun i σ H' _ ⟨_, _, s, _⟩ => same_seqT s hs) ?_ ?_
    · rintro i y σ H' hi ⟨v2, rfl, s2, h2⟩
      obtain ⟨x, rfl, hx⟩ := ints_at hi
      have hil : i < ns.length := (List.getElem?_eq_some_iff.mp hx).1
      have hxm : x ∈ ns := List.mem_of_getElem? hx
      have ht : ns.take (i + 1) = ns.take i ++ [x] := by rw [List.take_add_one, hx]; rfl
      have hsz : (Wd.freed (ns.take i)).length ≤ 500 := Nat.le_trans (Wd.len_freed _) (by rw [List.length_take]; omega)
      refine ⟨_, rfl, (by show 0 ≤ sizeLine; decide), fun e he => ?_⟩
      have e1 : (upd H' e (.lst [])) f = some (.lst ((Wd.freed (ns.take i)).map V.int)) := by rw [upd_ne (ne_of_none h2 he)]; exact h2
      have s3 : Same H (upd H' e (.lst [])) := s2.trans (same_new he)
      refine ⟨_, _, .lst (SqL.of e1) (dpAll_ints _ _), .lst (SqL.of upd_same) .nil, shapedAll_ints _, rfl, _, rfl, ?_⟩
      rw [eqv_nil]
      have grow : ¬ (Wd.freed (ns.take i)).getLast? = some (Wd.mate x) → Same H (upd (upd H' e (.lst [])) f (.lst ((Wd.freed (ns.take i)).map V.int ++ [V.int x]))) ∧ (upd (upd H' e (.lst [])) f (.lst ((Wd.freed (ns.take i)).map V.int ++ [V.int x]))) f = some (.lst ((Wd.freed (ns.take (i + 1))).map V.int)) := fun hn => by
        refine ⟨fun b o hb => ?_, ?_⟩
        · rw [upd_ne (ne_of_none hb hf)]
          exact s3 b o hb
        · rw [upd_same, ht, Wd.freed_snoc]
          unfold Wd.push
          rw [if_neg hn, List.map_append]
          rfl
      refine ite2 (fun c => ?_) (fun c => ?_)
      · have hne : Wd.freed (ns.take i) ≠ [] := by simpa using c
        obtain ⟨a, ha, hat⟩ := atI_last hne
        refine ⟨_, rfl, _, rfl, f, _, _, _, rfl, rfl, SqL.of e1, hat, ?_⟩
        refine ⟨_, rfl, _, _, rfl, rfl, rfl, _, rfl, ?_⟩
        refine ite2 (fun c2 => ?_) (fun c2 => ?_)
        · have hax : a = Wd.mate x := by
            have c3 : decide (V.int a = V.int (Builtin.bitXor x 1)) = true := c2
            rw [xor_mate (hb x hxm).1 (hb x hxm).2] at c3
            simpa using c3
          refine ⟨_, rfl, .inl ⟨rfl, _, SqL.of e1⟩, f, _, V.int a, rfl, rfl, e1, ?_, ?_⟩
          · rw [List.length_map]
            exact ints_get (Wd.last_get.mp ha).2
          · refine ⟨_, rfl, fun b o hb => ?_, ?_⟩
            · rw [upd_ne (ne_of_none hb hf)]
              exact s3 b o hb
            · rw [upd_same, ht, Wd.freed_snoc]
              unfold Wd.push
              rw [if_pos (by rw [ha, hax]), List.map_dropLast]
        · have hax : ¬ a = Wd.mate x := by
            have c3 : ¬ decide (V.int a = V.int (Builtin.bitXor x 1)) = true := c2
            rw [xor_mate (hb x hxm).1 (hb x hxm).2] at c3
            simpa using c3
          refine ⟨_, rfl, .inl ⟨rfl, _, SqL.of e1⟩, _, rfl, f, _, _, rfl, rfl, e1, by rw [List.length_map]; exact small1000 (by omega), ?_⟩
          exact ⟨_, rfl, grow (by rw [ha]; intro z; exact hax (Option.some.inj z))⟩
      · have hne : Wd.freed (ns.take i) = [] := by simpa using c
        refine ite2 (fun z => absurd z Bool.false_ne_true) (fun _ => ?_)
        refine ⟨_, rfl, .inl ⟨rfl, _, SqL.of e1⟩, _, rfl, f, _, _, rfl, rfl, e1, by rw [List.length_map]; exact small1000 (by omega), ?_⟩
        exact ⟨_, rfl, grow (by rw [hne]; intro z; cases z)⟩
    · rintro σ H' ⟨v2, rfl, s2, h2⟩
      rw [List.length_map, List.take_length] at h2
      refine ⟨_, rfl, f, _, rfl, .inl ⟨SqL.of h2, fun q hq => ?_⟩⟩
      exact k q _ (s2.trans (same_new hq)) upd_same
end
end Tt
set_option maxRecDepth 100000
set_option maxHeartbeats 4000000
namespace Tt
open PySem L2
section
theorem same_sqL {K : PySem.W.Frag} {H H' : Hp} {a : Addr} {xs : List V} (e : Same H H') (h : SqL K H a xs) : SqL K H' a xs := by
  rcases h with (h | ⟨o, h⟩) | h
  · exact .inl (.inl (e _ _ h))
  · exact .inl (.inr ⟨o, e _ _ h⟩)
  · exact .inr h
theorem same_sq {K : PySem.W.Frag} {H H' : Hp} {a : Addr} {xs : List V} (e : Same H H') (h : SqL K H a xs ∨ SqT K H a xs) : SqL K H' a xs ∨ SqT K H' a xs := h.imp (same_sqL e) (same_seqT e)
def iSeqN (K : PySem.W.Frag) (i : Nat) : TI := fun σ H R => ∃ a, σ[i]? = some (some (.ref a)) ∧ ((∃ xs, SqL K H a xs) ∧ R (Itl K a) H ∨ (∃ xs, SqT K H a xs) ∧ R (Itt K a) H)
theorem pi_sqN {X : Cx} {tg e : Expr} {i : Nat} (h : PE X e (tVar i)) : PI X tg e (iSeqN X.K i) := ⟨fun pins s σ H R I ⟨a, e, z⟩ =>
  z.elim (fun z => (pi_list h).run pins s σ H R I ⟨_, e, a, rfl, z⟩) (fun z => (pi_tup h).run pins s σ H R I ⟨_, e, a, rfl, z⟩)⟩
theorem pi_sqNK {X : Cx} {K : PySem.W.Frag} {tg e : Expr} {i : Nat} (hk : X.K = K) (h : PE X e (tVar i)) : PI X tg e (iSeqN K i) := by
  subst hk
  exact pi_sqN h
theorem pi_tupK {X : Cx} {K : PySem.W.Frag} {tg l : Expr} {tl : TE} (h : X.K = K) (hl : PE X l tl) : PI X tg l (iTup K tl) := by
  subst h
  exact pi_tup hl
@[reducible] def LcW (J : It) (g : TG) (tt : TT) (te : TE) (vs : List Nat) (σ : St) (H1 : Hp) (D : Addr) (Qd : Hp → Prop) : Prop :=
  ∃ W : Nat → Nat → Hp → Prop, (∃ m, W 0 m (upd H1 D (HO.lst []))) ∧
    ∀ (i m : Nat) (H : Hp), W i m H →
      J.stop i H ∧ Qd H ∨ J.go i H ∧ ∃ Nx : Hp → Prop, (∀ (H' : Hp), Nx H' → ∃ m', m' < m ∧ W (i + 1) m' H') ∧
        ∀ (x : V) (H' : Hp), J.yld i H x H' → g x (wipe σ vs) H' fun σ2 H2 => wipe σ2 vs = wipe σ vs ∧ tt σ2 H2 fun b H3 =>
          if b = true then te σ2 H3 fun y H4 => ∃ acc, H4 D = some (HO.lst acc) ∧ acc.length < sizeLine ∧ Nx (upd H4 D (HO.lst (acc ++ [y]))) else Nx H3
theorem lc_sq {K : PySem.W.Frag} {a : Addr} {xs : List V} {g : TG} {tt : TT} {te : TE} {vs : List Nat} {σ : St} {H1 : Hp} {Qd : Addr → Hp → Prop} (hs : SqL K H1 a xs ∨ SqT K H1 a xs)
    (Pv : Addr → Nat → Hp → Prop) (h0 : ∀ D, H1 D = none → Pv D 0 (upd H1 D (.lst []))) (hS : ∀ D i H, H1 D = none → i ≤ xs.length → Pv D i H → Same H1 H)
    (step : ∀ D i x H, H1 D = none → xs[i]? = some x → Pv D i H → g x (wipe σ vs) H fun σ2 H2 => wipe σ2 vs = wipe σ vs ∧ tt σ2 H2 fun b H3 =>
      if b = true then te σ2 H3 fun y H4 => ∃ acc, H4 D = some (HO.lst acc) ∧ acc.length < sizeLine ∧ Pv D (i + 1) (upd H4 D (HO.lst (acc ++ [y]))) else Pv D (i + 1) H3)
    (fin : ∀ D H, H1 D = none → Pv D xs.length H → Qd D H) :
    (∃ ys, SqL K H1 a ys) ∧ (∀ D, H1 D = none → LcW (Itl K a) g tt te vs σ H1 D (Qd D)) ∨ (∃ ys, SqT K H1 a ys) ∧ (∀ D, H1 D = none → LcW (Itt K a) g tt te vs σ H1 D (Qd D)) :=
  hs.elim (fun h => .inl ⟨⟨_, h⟩, fun D hD => lc_list (K := K) (a := a) (xs := xs) (Pv D) (h0 D hD) (fun i H hi p => same_sqL (hS D i H hD hi p) h) (fun i x H hi p => step D i x H hD hi p) (fun H p => fin D H hD p)⟩)
    (fun h => .inr ⟨⟨_, h⟩, fun D hD => lc_tup (K := K) (a := a) (xs := xs) (Pv D) (h0 D hD) (fun i H hi p => same_seqT (hS D i H hD hi p) h) (fun i x H hi p => step D i x H hD hi p) (fun H p => fin D H hD p)⟩)
end
end Tt
set_option maxRecDepth 100000
set_option maxHeartbeats 4000000
namespace Tt
open PySem L2
section
variable {J : It} {n : Nat} {G : Hp → Prop} {Y : Nat → Hp → V → Hp → Prop} {g : TG} {tt : TT} {te : TE} {vs : List Nat} {σ : L2.St} {H1 : Hp} {D : Addr} {Qd : Hp → Prop}
theorem lc_itP (w : Walk J n G Y) (I : Hp → Prop) (Pv : Nat → V → Hp → Prop) (hn : n ≤ 4000) (i0 : I (upd H1 D (.lst [])))
    (ip : ∀ H l l', I H → H D = some (.lst l) → I (upd H D (.lst l')))
    (pp : ∀ i y H l l', Pv i y H → H D = some (.lst l) → Pv i y (upd H D (.lst l')))
    (hG : ∀ H l, I H → H D = some (.lst l) → G H)
    (step : ∀ i x H H' l, i < n → I H → H D = some (.lst l) → Y i H x H' → ∀ (R : VK) (Rn : Hp → Prop), (∀ y H4, I H4 → H4 D = some (.lst l) → (∀ j z, Pv j z H → Pv j z H4) → Pv i y H4 → R y H4) →
      g x (wipe σ vs) H' fun σ2 H2 => wipe σ2 vs = wipe σ vs ∧ tt σ2 H2 fun b H3 => if b = true then te σ2 H3 R else Rn H3)
    (fin : ∀ ys H, I H → H D = some (.lst ys) → ys.length = n → (∀ i y, ys[i]? = some y → Pv i y H) → Qd H) : LcW J g tt te vs σ H1 D Qd := by
  refine lc_it w (fun i H => I H ∧ ∃ ys, H D = some (.lst ys) ∧ ys.length = i ∧ ∀ j y, ys[j]? = some y → Pv j y H) ⟨i0, [], upd_same, rfl, fun j y h => by simp at h⟩ (fun i H _ ⟨h, ys, e, _⟩ => hG H ys h e) ?_ (fun H ⟨h, ys, e, l, p⟩ => fin ys H h e l p)
  rintro i x H H' hi ⟨h, ys, e, l, p⟩ y
  refine step i x H H' ys hi h e y _ _ fun y H4 h4 e4 keep py => ⟨ys, e4, smallB (by omega), ip _ _ _ h4 e4, ys ++ [y], upd_same, by rw [List.length_append, l]; rfl, fun j z hz => ?_⟩
  refine pp _ _ _ _ _ ?_ e4
  rcases Nat.lt_or_ge j ys.length with c | c
  · rw [List.getElem?_append_left c] at hz
    exact keep _ _ (p _ _ hz)
  · rw [List.getElem?_append_right c] at hz
    have hj : j - ys.length = 0 := by
      have := (List.getElem?_eq_some_iff.mp hz).1
      simpa using this
    rw [hj] at hz
    cases hz
    have : j = i := by omega
    subst this
    exact py
theorem same_put {H1 H : Hp} {D : Addr} {o : HO} (hD : H1 D = none) (s : Same H1 H) : Same H1 (upd H D o) := fun b u hb => by
  rw [upd_ne (ne_of_none hb hD)]
  exact s b u hb
theorem lc_itS (w : Walk J n G Y) (hD : H1 D = none) (Pv : Nat → V → Hp → Prop) (hn : n ≤ 4000)
    (st : ∀ i y H H', Pv i y H → Same H H' → Pv i y H')
    (pp : ∀ i y H l l', Pv i y H → H D = some (.lst l) → Pv i y (upd H D (.lst l')))
    (hG : ∀ H, Same H1 H → G H)
    (step : ∀ i x H H', i < n → Same H1 H → Y i H x H' → ∀ (R : VK) (Rn : Hp → Prop), (∀ y H4, Same H H4 → Pv i y H4 → R y H4) →
      g x (wipe σ vs) H' fun σ2 H2 => wipe σ2 vs = wipe σ vs ∧ tt σ2 H2 fun b H3 => if b = true then te σ2 H3 R else Rn H3)
    (fin : ∀ ys H, Same H1 H → H D = some (.lst ys) → ys.length = n → (∀ i y, ys[i]? = some y → Pv i y H) → Qd H) : LcW J g tt te vs σ H1 D Qd :=
  lc_itP w (fun H => Same H1 H) Pv hn (same_new hD) (fun H l l' s _ => same_put hD s) pp (fun H _ s _ => hG H s)
    (fun i x H H' l hi s e y R Rn k => step i x H H' hi s y R Rn fun y H4 s4 p => k y H4 (s.trans s4) (s4 _ _ e) (fun j z q => st j z H H4 q s4) p) fin
theorem lc_itF (w : Walk J n G Y) (hD : H1 D = none) (f : Nat → V) (hn : n ≤ 4000)
    (hG : ∀ H, Same H1 H → G H)
    (step : ∀ i x H H', i < n → Same H1 H → Y i H x H' → ∀ (R : VK) (Rn : Hp → Prop), (∀ H4, Same H H4 → R (f i) H4) →
      g x (wipe σ vs) H' fun σ2 H2 => wipe σ2 vs = wipe σ vs ∧ tt σ2 H2 fun b H3 => if b = true then te σ2 H3 R else Rn H3)
    (fin : ∀ H, Same H1 H → H D = some (.lst ((List.range n).map f)) → Qd H) : LcW J g tt te vs σ H1 D Qd :=
  lc_itS w hD (fun i y _ => y = f i) hn (fun _ _ _ _ h _ => h) (fun _ _ _ _ _ h _ => h) hG (fun i x H H' hi s y R Rn k => step i x H H' hi s y R Rn fun H4 s4 => k _ H4 s4 rfl)
    (fun ys H s e l p => fin H s (by
      rw [e]
      refine congrArg (fun l => some (HO.lst l)) (List.ext_getElem? fun i => ?_)
      by_cases c : i < n
      · rw [List.getElem?_map, List.getElem?_range c]
        have hi : i < ys.length := by omega
        rw [List.getElem?_eq_getElem hi]
        exact congrArg some (p i _ (List.getElem?_eq_getElem hi))
      · rw [List.getElem?_eq_none (by omega), List.getElem?_eq_none (by rw [List.length_map, List.length_range]; omega)]))
theorem lc_itD {W : Dw} (w : Walk J n G Y) (dr : DrOk W H1) (hD : H1 D = none) (Pv : Nat → V → Hp → Prop) (hn : n ≤ 4000)
    (st : ∀ i y H H', Pv i y H → DrOk W H → Kp W H H' → Pv i y H')
    (pp : ∀ i y H l l', Pv i y H → H D = some (.lst l) → Pv i y (upd H D (.lst l')))
    (hG : ∀ H, DrOk W H → Kp W H1 H → G H)
    (step : ∀ i x H H', i < n → DrOk W H → Kp W H1 H → Y i H x H' → ∀ (R : VK) (Rn : Hp → Prop), (∀ y H4, DrOk W H4 → Kp W H H4 → Pv i y H4 → R y H4) →
      g x (wipe σ vs) H' fun σ2 H2 => wipe σ2 vs = wipe σ vs ∧ tt σ2 H2 fun b H3 => if b = true then te σ2 H3 R else Rn H3)
    (fin : ∀ ys H, DrOk W H → Kp W H1 H → H D = some (.lst ys) → ys.length = n → (∀ i y, ys[i]? = some y → Pv i y H) → Qd H) : LcW J g tt te vs σ H1 D Qd := by
  have od := dr.off hD
  exact lc_itP w (fun H => DrOk W H ∧ Kp W H1 H) Pv hn ⟨dr.new hD, Kp.new hD⟩ (fun H l l' s _ => ⟨s.1.put od, fun b o hb n1 n2 => by rw [upd_ne (ne_of_none hb hD)]; exact s.2 b o hb n1 n2⟩) pp (fun H _ s _ => hG H s.1 s.2)
    (fun i x H H' l hi s e y R Rn k => step i x H H' hi s.1 s.2 y R Rn fun y H4 d4 k4 p => k y H4 ⟨d4, s.2.trans k4⟩ (k4.at od e) (fun j z q => st j z H H4 q s.1 k4) p) (fun ys H s e l p => fin ys H s.1 s.2 e l p)
theorem lc_itDV {W : Dw} (w : Walk J n G Y) (dr : DrOk W H1) (hD : H1 D = none) (Pv : V → Prop) (hn : n ≤ 4000)
    (hG : ∀ H, DrOk W H → Kp W H1 H → G H)
    (step : ∀ i x H H', i < n → DrOk W H → Kp W H1 H → Y i H x H' → ∀ (R : VK) (Rn : Hp → Prop), (∀ y H4, DrOk W H4 → Kp W H H4 → Pv y → R y H4) →
      g x (wipe σ vs) H' fun σ2 H2 => wipe σ2 vs = wipe σ vs ∧ tt σ2 H2 fun b H3 => if b = true then te σ2 H3 R else Rn H3)
    (fin : ∀ ys H, DrOk W H → Kp W H1 H → H D = some (.lst ys) → ys.length = n → (∀ y ∈ ys, Pv y) → Qd H) : LcW J g tt te vs σ H1 D Qd :=
  lc_itD w dr hD (fun _ y _ => Pv y) hn (fun _ _ _ _ h _ _ => h) (fun _ _ _ _ _ h _ => h) hG step (fun ys H d k e l p => fin ys H d k e l fun y hy => by
    obtain ⟨i, hi⟩ := List.getElem?_of_mem hy
    exact p i y hi)
end
@[reducible] def ForW (J : It) (g : TG) (tb : TS) (D : Ends) (σ : L2.St) (H : Hp) : Prop :=
  ∃ W : Nat → Nat → L2.St → Hp → Prop, (∃ m, W 0 m σ H) ∧ ∀ (i m : Nat) (σ : L2.St) (H : Hp), W i m σ H →
      (J.stop i H ∧ D.nx σ H) ∨ (J.go i H ∧ ∃ N : L2.St → Hp → Prop, (∀ σ' H', N σ' H' → ∃ m', m' < m ∧ W (i + 1) m' σ' H') ∧ ∀ x H', J.yld i H x H' → g x σ H' fun σ2 H2 => tb { D with nx := N, ct := N, bk := D.nx } σ2 H2)
theorem for_sq {K : PySem.W.Frag} {a : Addr} {xs : List V} {g : TG} {tb : TS} {D : Ends} {σ : L2.St} {H0 H : Hp} (hs : SqL K H0 a xs ∨ SqT K H0 a xs)
    (Pv : Nat → L2.St → Hp → Prop) (h0 : Pv 0 σ H) (hS : ∀ i σ' H', Pv i σ' H' → Same H0 H')
    (step : ∀ i x σ H, xs[i]? = some x → Pv i σ H → g x σ H fun σ2 H2 => tb { D with nx := Pv (i + 1), ct := Pv (i + 1), bk := D.nx } σ2 H2) (fin : ∀ σ H, Pv xs.length σ H → D.nx σ H) :
    (∃ ys, SqL K H a ys) ∧ ForW (Itl K a) g tb D σ H ∨ (∃ ys, SqT K H a ys) ∧ ForW (Itt K a) g tb D σ H :=
  hs.elim (fun h => .inl ⟨⟨_, same_sqL (hS _ _ _ h0) h⟩, for_it (walk_list (K := K) (a := a) (xs := xs)) Pv h0 (fun i σ' H' _ p => same_sqL (hS i σ' H' p) h) (fun i x σ H H' _ p y => by
      obtain ⟨rfl, y⟩ := y
      exact step i x σ _ y p) fin⟩)
    (fun h => .inr ⟨⟨_, same_seqT (hS _ _ _ h0) h⟩, for_it (walk_tup (K := K) (a := a) (xs := xs)) Pv h0 (fun i σ' H' _ p => same_seqT (hS i σ' H' p) h) (fun i x σ H H' _ p y => by
      obtain ⟨rfl, y⟩ := y
      exact step i x σ _ y p) fin⟩)
theorem lc_sqS {K : PySem.W.Frag} {a : Addr} {xs : List V} {g : TG} {tt : TT} {te : TE} {vs : List Nat} {σ : L2.St} {H1 : Hp} {Qd : Addr → Hp → Prop} (hs : SqL K H1 a xs ∨ SqT K H1 a xs) (Pv : Nat → V → Hp → Prop) (hn : xs.length ≤ 4000)
    (st : ∀ i y H H', Pv i y H → Same H H' → Pv i y H')
    (pp : ∀ D i y H l l', Pv i y H → H D = some (.lst l) → Pv i y (upd H D (.lst l')))
    (step : ∀ i x H, xs[i]? = some x → Same H1 H → ∀ (R : VK) (Rn : Hp → Prop), (∀ y H4, Same H H4 → Pv i y H4 → R y H4) →
      g x (wipe σ vs) H fun σ2 H2 => wipe σ2 vs = wipe σ vs ∧ tt σ2 H2 fun b H3 => if b = true then te σ2 H3 R else Rn H3)
    (fin : ∀ D ys H, H1 D = none → Same H1 H → H D = some (.lst ys) → ys.length = xs.length → (∀ i y, ys[i]? = some y → Pv i y H) → Qd D H) :
    (∃ ys, SqL K H1 a ys) ∧ (∀ D, H1 D = none → LcW (Itl K a) g tt te vs σ H1 D (Qd D)) ∨ (∃ ys, SqT K H1 a ys) ∧ (∀ D, H1 D = none → LcW (Itt K a) g tt te vs σ H1 D (Qd D)) :=
  hs.elim (fun h => .inl ⟨⟨_, h⟩, fun D hD => lc_itS (walk_list (K := K) (a := a) (xs := xs)) hD Pv hn st (pp D) (fun H s => same_sqL s h) (fun i x H H' _ s y R Rn k => by
      obtain ⟨rfl, y⟩ := y
      exact step i x _ y s R Rn k) (fun ys H => fin D ys H hD)⟩)
    (fun h => .inr ⟨⟨_, h⟩, fun D hD => lc_itS (walk_tup (K := K) (a := a) (xs := xs)) hD Pv hn st (pp D) (fun H s => same_seqT s h) (fun i x H H' _ s y R Rn k => by
      obtain ⟨rfl, y⟩ := y
      exact step i x _ y s R Rn k) (fun ys H => fin D ys H hD)⟩)
theorem lc_sqF {K : PySem.W.Frag} {a : Addr} {xs : List V} {g : TG} {tt : TT} {te : TE} {vs : List Nat} {σ : L2.St} {H1 : Hp} {Qd : Addr → Hp → Prop} (hs : SqL K H1 a xs ∨ SqT K H1 a xs) (f : Nat → V) (hn : xs.length ≤ 4000)
    (step : ∀ i x H, xs[i]? = some x → Same H1 H → ∀ (R : VK) (Rn : Hp → Prop), (∀ H4, Same H H4 → R (f i) H4) →
      g x (wipe σ vs) H fun σ2 H2 => wipe σ2 vs = wipe σ vs ∧ tt σ2 H2 fun b H3 => if b = true then te σ2 H3 R else Rn H3)
    (fin : ∀ D H, H1 D = none → Same H1 H → H D = some (.lst ((List.range xs.length).map f)) → Qd D H) :
    (∃ ys, SqL K H1 a ys) ∧ (∀ D, H1 D = none → LcW (Itl K a) g tt te vs σ H1 D (Qd D)) ∨ (∃ ys, SqT K H1 a ys) ∧ (∀ D, H1 D = none → LcW (Itt K a) g tt te vs σ H1 D (Qd D)) :=
  hs.elim (fun h => .inl ⟨⟨_, h⟩, fun D hD => lc_itF (walk_list (K := K) (a := a) (xs := xs)) hD f hn (fun H s => same_sqL s h) (fun i x H H' _ s y R Rn k => by
      obtain ⟨rfl, y⟩ := y
      exact step i x _ y s R Rn k) (fun H => fin D H hD)⟩)
    (fun h => .inr ⟨⟨_, h⟩, fun D hD => lc_itF (walk_tup (K := K) (a := a) (xs := xs)) hD f hn (fun H s => same_seqT s h) (fun i x H H' _ s y R Rn k => by
      obtain ⟨rfl, y⟩ := y
      exact step i x _ y s R Rn k) (fun H => fin D H hD)⟩)
theorem refs_all : ∀ {ys : List V} {R : Nat → Addr → Prop}, (∀ i y, ys[i]? = some y → ∃ q, y = .ref q ∧ R i q) → ∃ ts : List Addr, ys = ts.map V.ref ∧ ts.length = ys.length ∧ ∀ i q, ts[i]? = some q → R i q
  | [], R, _ => ⟨[], rfl, rfl, fun i q h => by simp at h⟩
  | y :: ys, R, h => by
    obtain ⟨q, rfl, r⟩ := h 0 _ rfl
    obtain ⟨ts, rfl, l, p⟩ := refs_all (ys := ys) (R := fun i => R (i + 1)) fun i z hz => h (i + 1) z (by simpa using hz)
    refine ⟨q :: ts, rfl, congrArg (· + 1) l, fun i q' hq => ?_⟩
    cases i with
    | zero => cases hq; exact r
    | succ i => exact p i q' (by simpa using hq)
theorem paired_of {F : Addr → List Int → Prop} : ∀ {ts : List Addr} {rows : List (List Int)}, ts.length = rows.length → (∀ (i : Nat) (t : Addr) (r : List Int), ts[i]? = some t → rows[i]? = some r → F t r) → Paired F ts rows
  | [], [], _, _ => .nil
  | [], _ :: _, h, _ => by cases h
  | _ :: _, [], h, _ => by cases h
  | t :: ts, r :: rows, h, p => .cons (p 0 t r rfl rfl) (paired_of (by simpa using h) fun i t r a b => p (i + 1) t r (by simpa using a) (by simpa using b))
theorem ints_all {P : Int → Prop} : ∀ {ys : List V}, (∀ y ∈ ys, ∃ x, y = V.int x ∧ P x) → ∃ ns : List Int, ys = ns.map V.int ∧ ns.length = ys.length ∧ ∀ x ∈ ns, P x
  | [], _ => ⟨[], rfl, rfl, fun x h => by cases h⟩
  | y :: ys, h => by
    obtain ⟨x, rfl, p⟩ := h _ (List.mem_cons_self ..)
    obtain ⟨ns, rfl, l, q⟩ := ints_all (ys := ys) fun y hy => h y (List.mem_cons_of_mem _ hy)
    refine ⟨x :: ns, rfl, congrArg (· + 1) l, fun z hz => ?_⟩
    rcases List.mem_cons.mp hz with rfl | hz
    · exact p
    · exact q z hz
section
variable {K : PySem.W.Frag}
theorem slL_from {xs : List V} {a : Addr} {H : Hp} {Q : VK} {n : Nat} (h : SqL K H a xs) (q : ∀ p, H p = none → Q (.ref p) (upd H p (.lst (xs.drop n)))) : rSlL K (.ref a) (some (n : Int)) none H Q :=
  ⟨a, xs, rfl, h, fun p hp => by rw [cut_from]; exact q p hp⟩
theorem slL_to {xs : List V} {a : Addr} {H : Hp} {Q : VK} {n : Nat} (hn : n ≤ xs.length) (h : SqL K H a xs) (q : ∀ p, H p = none → Q (.ref p) (upd H p (.lst (xs.take n)))) : rSlL K (.ref a) none (some (n : Int)) H Q :=
  ⟨a, xs, rfl, h, fun p hp => by rw [cut_to _ hn]; exact q p hp⟩
theorem zadd (i : Nat) : V.int (0 + (i : Int)) = V.int (i : Int) := by rw [Int.zero_add]
end
def tCs : List V → TA
  | [] => tNil
  | v :: r => tCons (tC v) (tCs r)
def tTups : List (List V) → TA
  | [] => tNil
  | vs :: r => tCons (tTup (tCs vs)) (tTups r)
theorem tCs_run {σ : L2.St} {H : Hp} : ∀ (vs : List V) {Q : List V → Hp → Prop}, Q vs H → tCs vs σ H Q
  | [], _, h => h
  | v :: r, Q, h => tCs_run (σ := σ) r (Q := fun xs H2 => Q (v :: xs) H2) h
theorem tTups_run {σ : L2.St} : ∀ (rows : List (List V)) {H : Hp} {Q : List V → Hp → Prop}, (∀ r ∈ rows, r.length ≤ sizeLine) →
    (∀ (qs : List Addr) H', Same H H' → qs.length = rows.length → (∀ (i : Nat) (q : Addr) (r : List V), qs[i]? = some q → rows[i]? = some r → H' q = some (.tup r)) → Q (qs.map V.ref) H') → tTups rows σ H Q
  | [], H, Q, _, k => k [] H (fun _ _ z => z) rfl (fun i q r h => by simp at h)
  | vs :: rows, H, Q, hz, k => tCs_run vs ⟨hz _ (List.mem_cons_self ..), fun p hp => tTups_run rows (fun r hr => hz r (List.mem_cons_of_mem _ hr)) fun qs H' s l t => k (p :: qs) H' ((same_new hp).trans s) (congrArg (· + 1) l) fun i q r hq hr => by
      cases i with
      | zero => cases hq; cases hr; exact s _ _ upd_same
      | succ i => exact t i q r (by simpa using hq) (by simpa using hr)⟩
theorem lst_tups {σ : L2.St} (rows : List (List V)) {H : Hp} {Q : VK} (hz : ∀ r ∈ rows, r.length ≤ sizeLine) (hl : rows.length ≤ 4000)
    (k : ∀ (qs : List Addr) p H', Same H H' → qs.length = rows.length → (∀ (i : Nat) (q : Addr) (r : List V), qs[i]? = some q → rows[i]? = some r → H' q = some (.tup r)) → H p = none → H' p = some (.lst (qs.map V.ref)) → Q (.ref p) H') : tLst (tTups rows) σ H Q :=
  tTups_run rows hz fun qs H' s l t => ⟨Nat.le_of_lt (smallB (by rw [List.length_map]; omega)), fun p hp => by
    have n := same_new (o := .lst (qs.map V.ref)) hp
    have hp0 : H p = none := by
      cases e : H p with
      | none => rfl
      | some o => rw [s _ _ e] at hp; cases hp
    exact k qs p _ (s.trans n) l (fun i q r a b => n _ _ (t i q r a b)) hp0 upd_same⟩
end Tt
set_option maxRecDepth 100000
set_option maxHeartbeats 4000000
namespace Tt
open PySem L2
open LamX (ExtN)
section
variable {P : Program} {w : World} {K : PySem.W.Frag} {mg : Str → Option Value} {base : Heap}
theorem slL_mid {xs : List V} {a : Addr} {H : Hp} {Q : VK} {c : Nat} (hc : 2 * c ≤ xs.length) (h : SqL K H a xs) (q : ∀ b, H b = none → Q (.ref b) (upd H b (.lst ((xs.drop c).take (xs.length - 2 * c))))) : rSlL K (.ref a) (some (c : Int)) (some ((xs.length - c : Nat) : Int)) H Q := by
  have e1 : HT.sIx xs.length 0 (some (c : Int)) = c := by rw [HT.sIx_nat]; omega
  have e2 : HT.sIx xs.length xs.length (some ((xs.length - c : Nat) : Int)) = xs.length - c := by rw [HT.sIx_nat]; omega
  refine ⟨a, xs, rfl, h, fun p hp => ?_⟩
  have := q p hp
  unfold cutV
  rw [e1, e2]
  have e : xs.length - c - c = xs.length - 2 * c := by omega
  rw [e]
  exact this
def spClosed54 (K : PySem.W.Frag) : Sp := fun vs H Q _ => ∃ (p : Addr) (ns : List Int), vs = [.ref p] ∧ SqT K H p (ns.map V.int) ∧ ns.length ≤ 200 ∧ (∀ x ∈ ns, 0 ≤ x ∧ x < 12) ∧
  ∀ q H', Same H H' → SqT K H' q ((closedT ns).map V.int) → Q (.ref q) H'
theorem ok_l_round (T : Txt K mg) : FnOk P w K mg base CX0 3 T.l_round.a T.l_round.fd ["word_here"] (spClosed54 K) := by
  refine T.l_round.F.ok sc_l_round (fun vs H Q E h => ?_) (fun cdv A outer s H vs Q E hr h => ?_)
  · obtain ⟨p, ns, rfl, _⟩ := h
    rfl
  · obtain ⟨p, ns, rfl, hp, hl, hb, k⟩ := h
    have nd := sc_l_round.nd
    refine ⟨_, (pss_cons (ps_par (i := 1) (j := 2) rfl nd rfl rfl (by decide) rfl rfl (pa_cons (pe_callTy call_list_of (by rfl) T.zlist (by decide +kernel) (pa_cons (pe_call (ok_l_free T) (hr.mono (by decide)) (by rfl) T.l_free.g T.l_free.k T.l_free.b .nil pass0 (pa_cons (pv 0) pa_nil)) pa_nil)) (pa_cons pe_int pa_nil)) rfl)
    (pss_cons (ps_while PassesOwn.never (PW.pt (pw_and (pt_cmpR op_gt (pe_op op_sub (pe_callB call_len_seq (by rfl) T.zlen (by decide +kernel) (pa_cons (pv 1) pa_nil)) (pe_op op_mul pe_int (pv 2))) pe_int (nomark _)) (pw_and1 (pt_cmpR op_eq (pe_ix ix_list (pv 1) (pv 2) (fun _ _ => rfl)) (pe_op op_xor (pe_ix ix_list (pv 1) (pe_op op_sub (pe_op op_sub (pe_callB call_len_seq (by rfl) T.zlen (by decide +kernel) (pa_cons (pv 1) pa_nil)) pe_int) (pv 2)) (fun _ _ => rfl)) pe_int) (nomark _)))))
      (pss_one (ps_set (i := 2) nd rfl (Or.inl rfl) (pe_op op_add (pv 2) pe_int))))
    (pss_cons (ps_set (i := 3) nd rfl (Or.inr rfl) (pe_slice sl_list (pv 1) (po_some (pv 2)) (po_some (pe_op op_sub (pe_callB call_len_seq (by rfl) T.zlen (by decide +kernel) (pa_cons (pv 1) pa_nil)) (pv 2)))))
    (pss_cons (ps_if (PW.pt (pw_or (pt_cmpR (op_eqD hr.units) (pv 3) (pe_lst pa_nil) (nomark _)) (pw_or1 (pt_cmpR op_gt (pe_callB call_len_seq (by rfl) T.zlen (by decide +kernel) (pa_cons (pv 3) pa_nil)) pe_int (nomark _)))))
      (pss_one (ps_ret (pe_callTy call_tuple_of (by rfl) T.ztuple (by decide +kernel) (pa_cons (pv 3) pa_nil))))
      pss_nil)
    (pss_one (ps_ret (pe_callB (cr_minT rfl hr.units) (by rfl) T.zmin (by decide +kernel) (pa_cons (pe_lc (own := [("k", 4)]) (g := gName 4) rfl nd (pi_range1 rfl T.zrange (pa_cons (pe_callB call_len_seq (by rfl) T.zlen (by decide +kernel) (pa_cons (pv 3) pa_nil)) pa_nil)) (blkOk_by (own := [("k", 4)]) (N := N_l_round) (sc := defScope s_l_round) (by decide +kernel)) (fun _ _ _ _ _ => pg_name (i := 4) nd rfl (Or.inl rfl)) (fun _ _ _ _ _ => pts_nil) (fun _ _ _ _ _ => (pe_callTy (call_tuple_ofK (K := K) rfl) (by rfl) T.ztuple (by decide +kernel) (pa_cons (pe_op op_cat (pe_slice (sl_listK (K := K) rfl) (pv 3) (po_some (pv 4)) po_none) (pe_slice (sl_listK (K := K) rfl) (pv 3) po_none (po_some (pv 4)))) pa_nil)))) pa_nil)))))))), ?_⟩
    refine sqn ⟨_, rfl, p, ns, rfl, hp, by omega, hb, fun f H1 s1 h1 => ?_⟩
    refine ⟨f, _, rfl, .inr (SqT.of h1), fun l hl2 => ?_⟩
    have lf : (Wd.freed ns).length ≤ 200 := Nat.le_trans (Wd.len_freed ns) hl
    have bf : ∀ x ∈ Wd.freed ns, 0 ≤ x ∧ x < 12 := fun x hx => hb x (Wd.mem_freed hx)
    have ec : Wd.strip (Wd.freed ns) = Wd.core ns := rfl
    have s2 : Same H (upd H1 l (.lst ((Wd.freed ns).map V.int))) := s1.trans (same_new hl2)
    have e2 : (upd H1 l (.lst ((Wd.freed ns).map V.int))) l = some (.lst ((Wd.freed ns).map V.int)) := upd_same
    refine ⟨_, _, rfl, ?_⟩
    dsimp only
    generalize upd H1 l (.lst ((Wd.freed ns).map V.int)) = H2 at s2 e2
    generalize Wd.freed ns = fs at e2 lf ec bf
    refine while_by3 (fun σ H' => H' = H2 ∧ ∃ c : Nat, σ = [some (.ref p), some (.ref l), some (.int (c : Int)), none, none] ∧ 2 * c ≤ fs.length ∧ Wd.strip (Wd.mid fs c) = Wd.core ns)
      (fun σ _ => match σ[2]? with | some (some (V.int c)) => 1000 - c.toNat | _ => 0) ⟨rfl, 0, rfl, by omega, by rw [Wd.mid_zero]; exact ec⟩ ?_
    rintro σ H' ⟨rfl, c, rfl, hc, em⟩
    have lm : (fs.map V.int).length = fs.length := List.length_map ..
    apply let_one (J := Wd.strip (Wd.mid fs c) = Wd.mid fs c)
    · intro out
      refine ⟨_, rfl, l, _, rfl, .inl (SqL.of e2), _, rfl, _, _, rfl, rfl, .inl ⟨by decide, by decide⟩, _, _, rfl, rfl, _, _, rfl, rfl, _, rfl, ?_⟩
      rw [lm]
      refine ite2 (fun g => ?_) (fun g => ?_)
      · have g' : 2 * c + 2 ≤ fs.length := by
          have : (1 : Int) < (fs.length : Int) - 2 * (c : Int) := by simpa using g
          omega
        obtain ⟨a, ha⟩ : ∃ a, fs[c]? = some a := ⟨_, List.getElem?_eq_getElem (by omega)⟩
        obtain ⟨b, hb2⟩ : ∃ b, fs[fs.length - 1 - c]? = some b := ⟨_, List.getElem?_eq_getElem (by omega)⟩
        refine ⟨_, rfl, _, rfl, l, _, _, _, rfl, rfl, SqL.of e2, atI_nat (ints_get ha), ?_⟩
        refine ⟨_, rfl, _, rfl, l, _, rfl, .inl (SqL.of e2), _, _, rfl, rfl, _, rfl, _, _, rfl, rfl, l, _, _, V.int b, rfl, rfl, SqL.of e2, ?_, ?_⟩
        · have e : ((fs.map V.int).length : Int) - 1 - (c : Int) = ((fs.length - 1 - c : Nat) : Int) := by rw [lm]; omega
          rw [e]
          exact atI_nat (ints_get hb2)
        · refine ⟨_, _, rfl, rfl, rfl, _, rfl, ?_⟩
          have bb := bf b (List.mem_of_getElem? hb2)
          have ex : decide (V.int a = V.int (Builtin.bitXor b 1)) = decide (a = Wd.mate b) := by
            rw [xor_mate bb.1 bb.2]
            simp
          refine ite2 (fun z => ?_) (fun z => ?_)
          · have z' : a = Wd.mate b := of_decide_eq_true (ex.symm.trans z)
            refine ⟨fun σ' H3 => σ' = [some (.ref p), some (.ref l), some (.int ((c + 1 : Nat) : Int)), none, none] ∧ H3 = H', fun σ' H3 e => ⟨1000 - (c + 1), ?_, ?_, ?_⟩, ?_⟩
            · show 1000 - (c + 1) < 1000 - ((c : Int)).toNat
              omega
            · obtain ⟨rfl, rfl⟩ := e
              show 1000 - (c + 1) = 1000 - (((c + 1 : Nat) : Int)).toNat
              omega
            · obtain ⟨rfl, rfl⟩ := e
              refine ⟨rfl, c + 1, rfl, by omega, ?_⟩
              rw [← Wd.mid_yes g' ha hb2 z']
              exact em
            · exact ⟨_, rfl, _, _, rfl, rfl, rfl, rfl⟩
          · exact out (Wd.mid_no g' ha hb2 fun z' => z (ex.trans (decide_eq_true z')))
      · refine iteF (out (Wd.mid_short ?_))
        have : ¬ (1 : Int) < (fs.length : Int) - 2 * (c : Int) := by simpa using g
        omega
    intro hm
    have eM : Wd.mid fs c = Wd.core ns := hm.symm.trans em
    have lc : (Wd.core ns).length ≤ 200 := by
      rw [← eM]
      exact Nat.le_trans (Wd.mid_len fs c) lf
    dsimp only
    refine sqn ⟨_, rfl, _, rfl, (c : Int), rfl, _, rfl, l, _, rfl, .inl (SqL.of e2), _, rfl, _, _, rfl, rfl, ((fs.length - c : Nat) : Int), ?_, ?_⟩
    · rw [lm]
      exact congrArg V.int (by omega)
    rw [← lm]
    refine slL_mid (K := K) (by rw [lm]; exact hc) (SqL.of e2) fun f3 hf3 => ?_
    have e3 : ((fs.map V.int).drop c).take ((fs.map V.int).length - 2 * c) = (Wd.core ns).map V.int := by
      rw [lm, ← eM]
      unfold Wd.mid
      rw [List.map_take, List.map_drop]
    rw [e3]
    have s3 : Same H (upd H' f3 (.lst ((Wd.core ns).map V.int))) := s2.trans (same_new hf3)
    have e4 : (upd H' f3 (.lst ((Wd.core ns).map V.int))) f3 = some (.lst ((Wd.core ns).map V.int)) := upd_same
    generalize upd H' f3 (.lst ((Wd.core ns).map V.int)) = H3 at s3 e4
    have eC : closedT ns = leastT (Wd.core ns) := rfl
    rw [eC] at k
    generalize Wd.core ns = cs at e4 lc k
    dsimp only
    refine sqn ⟨_, rfl, (by show 0 ≤ sizeLine; decide), fun l0 hl0 => ?_⟩
    have sN : Same H3 (upd H3 l0 (.lst [])) := same_new hl0
    have e0 : (upd H3 l0 (.lst [])) l0 = some (.lst []) := upd_same
    have e5 := sN _ _ e4
    refine ⟨.list (cs.map PyData.int), .list [], .lst (SqL.of e5) (dpAll_ints _ _), .lst (SqL.of e0) .nil, shapedAll_ints _, rfl, _, rfl, ?_⟩
    have ev : PyData.eqv (.list (cs.map PyData.int)) (.list []) = decide (cs = []) := eqv_ints cs []
    rw [ev]
    by_cases hcs : cs = []
    · rw [decide_eq_true hcs]
      refine iteT (iteT ⟨_, rfl, f3, _, rfl, .inl ⟨SqL.of e5, fun t ht => k t _ ((s3.trans sN).trans (same_new ht)) ?_⟩⟩)
      rw [hcs, leastT_nil]
      exact SqT.of upd_same
    · rw [decide_eq_false hcs]
      refine iteF ⟨_, rfl, f3, _, rfl, .inl (SqL.of e5), _, _, rfl, rfl, _, rfl, ?_⟩
      rw [List.length_map, decide_eq_false (by omega)]
      refine iteF ?_
      dsimp only
      refine ⟨_, rfl, f3, _, rfl, .inl (SqL.of e5), _, rfl, by omega, by rw [List.length_map]; omega, fun D1 hD1 => ?_⟩
      have s6 := s3.trans sN
      generalize upd H3 l0 (.lst []) = H4 at hD1 e5 s6
      refine lc_range (lo := 0) (n := ((cs.map V.int).length : Int).toNat) (fun i H' => ∃ ps : List Addr, H' D1 = some (.lst (ps.map V.ref)) ∧ Paired (fun p m => SqT K H' p (m.map V.int)) ps ((turns cs).take i) ∧ Same H4 H')
        ⟨[], upd_same, .nil, same_new hD1⟩ ?_ ?_
      · rintro i H' hi ⟨ps, h1, h2, s2⟩
        have hi2 : i < cs.length := by rw [List.length_map] at hi; omega
        have hpl : ps.length = i := by
          have := h2.length
          rw [List.length_take, turns_len] at this
          omega
        refine ⟨rfl, yes_t ?_⟩
        have e6 := s2 _ _ e5
        refine ⟨_, rfl, _, rfl, (i : Int), zadd i, noPart_i (slL_from (K := K) (SqL.of e6) fun p1 hp1 => ?_)⟩
        have n1 := same_new (o := .lst ((cs.map V.int).drop i)) hp1
        refine ⟨_, rfl, noPart_i ⟨_, rfl, (i : Int), zadd i, slL_to (K := K) (by rw [List.length_map]; omega) (SqL.of (n1 _ _ e6)) fun p2 hp2 => ?_⟩⟩
        have n2 := same_new (o := .lst ((cs.map V.int).take i)) hp2
        refine ⟨p1, p2, _, _, rfl, rfl, n2 _ _ upd_same, upd_same, ?_, fun p3 hp3 => ?_⟩
        · rw [List.length_drop, List.length_take, List.length_map]
          exact Nat.le_of_lt (smallB (by omega))
        have n3 := same_new (o := .lst ((cs.map V.int).drop i ++ (cs.map V.int).take i)) hp3
        refine ⟨p3, _, rfl, .inl ⟨SqL.of upd_same, fun t ht => ?_⟩⟩
        have sA := n1.trans (n2.trans (n3.trans (same_new (o := .tup ((cs.map V.int).drop i ++ (cs.map V.int).take i)) ht)))
        have h4 := sA _ _ h1
        refine ⟨_, h4, by rw [List.length_map]; exact small1000 (by omega), ps ++ [t], ?_, ?_, fun b o hb => ?_⟩
        · rw [upd_same, List.map_append]
          rfl
        · rw [List.take_add_one, turns_get hi2]
          refine pair_snoc (pair_mono (fun a m z => sqT_put (same_seqT sA z) h4) h2) ?_
          refine sqT_put ?_ h4
          have e : (turnAt cs i).map V.int = (cs.map V.int).drop i ++ (cs.map V.int).take i := by
            unfold turnAt
            rw [List.map_append, List.map_drop, List.map_take]
          rw [e]
          exact SqT.of upd_same
        · rw [upd_ne (ne_of_none hb hD1)]
          exact sA _ _ (s2 _ _ hb)
      · rintro H' ⟨ps, h1, h2, s2⟩
        have e : (turns cs).take ((cs.map V.int).length : Int).toNat = turns cs := List.take_of_length_le (by rw [turns_len, List.length_map]; omega)
        rw [e] at h2
        have hl2 := turns_len cs
        cases ht : turns cs with
        | nil =>
          rw [ht] at hl2
          exact absurd (List.length_eq_zero_iff.mp hl2.symm) hcs
        | cons r0 rs =>
          rw [ht] at h2
          refine ⟨D1, ps, r0, rs, rfl, SqL.of h1, h2, fun i q hq hm => k q H' (s6.trans s2) ?_⟩
          have hi : i < (r0 :: rs).length := by
            rw [← h2.length]
            exact (List.getElem?_eq_some_iff.mp hq).1
          have em := hm _ (List.getElem?_eq_getElem hi)
          rw [minR_D] at em
          have e2 := rowD_inj em
          have e3 := pair_at h2 hq (List.getElem?_eq_getElem hi)
          rw [e2] at e3
          have e4 : leastT cs = minR r0 rs := by
            unfold leastT
            rw [ht]
          rw [e4]
          exact e3
end
end Tt
set_option maxRecDepth 100000
set_option maxHeartbeats 4000000
namespace Wd
def pow (t : List Int) : Nat → List Int
  | 0 => []
  | n + 1 => t ++ pow t n
theorem pow_rep (t : List Int) : ∀ n, (List.replicate n t).flatten = pow t n
  | 0 => rfl
  | n + 1 => by rw [List.replicate_succ, List.flatten_cons, pow_rep t n]; rfl
theorem pow_one (t : List Int) : pow t 1 = t := List.append_nil t
theorem pow_add (t : List Int) : ∀ a b, pow t (a + b) = pow t a ++ pow t b
  | 0, b => by rw [Nat.zero_add]; rfl
  | a + 1, b => by
    rw [Nat.add_right_comm]
    show t ++ pow t (a + b) = t ++ pow t a ++ pow t b
    rw [pow_add t a b, List.append_assoc]
theorem pow_len (t : List Int) : ∀ n, (pow t n).length = n * t.length
  | 0 => (Nat.zero_mul _).symm
  | n + 1 => by
    show (t ++ pow t n).length = _
    rw [List.length_append, pow_len t n, Nat.succ_mul, Nat.add_comm]
theorem pow_pow (t : List Int) (a : Nat) : ∀ b, pow (pow t a) b = pow t (a * b)
  | 0 => rfl
  | b + 1 => by
    show pow t a ++ pow (pow t a) b = _
    rw [pow_pow t a b, ← pow_add, Nat.mul_succ, Nat.add_comm]
theorem pow_snoc (t : List Int) (n : Nat) : pow t (n + 1) = pow t n ++ t := by rw [pow_add, pow_one]
theorem pow_mem {t : List Int} {x : Int} : ∀ {n}, x ∈ pow t n → x ∈ t
  | 0, h => absurd h (by simp [pow])
  | n + 1, h => (List.mem_append.mp (show x ∈ t ++ pow t n from h)).elim id pow_mem
theorem pow_conj (u v : List Int) : ∀ n, v ++ pow (u ++ v) n ++ u = pow (v ++ u) (n + 1)
  | 0 => by rw [pow_one]; simp [pow]
  | n + 1 => by
    show v ++ (u ++ v ++ pow (u ++ v) n) ++ u = (v ++ u) ++ pow (v ++ u) (n + 1)
    rw [← pow_conj u v n]
    simp
theorem pow_split {t : List Int} : ∀ {k : Nat} {U W : List Int}, 1 ≤ k → pow t k = U ++ W → ∃ a b u v, t = u ++ v ∧ U = pow t a ++ u ∧ W = v ++ pow t b ∧ a + b + 1 = k
  | 0, _, _, h, _ => absurd h (by decide)
  | k + 1, U, W, _, h => by
    have h' : t ++ pow t k = U ++ W := h
    rcases app_split h' with ⟨m, e1, e2⟩ | ⟨m, e1, e2⟩
    ·
      by_cases hk : k = 0
      · subst hk
        have e3 : m = [] ∧ W = [] := by
          have : ([] : List Int) = m ++ W := e2
          have := congrArg List.length this
          rw [List.length_append, List.length_nil] at this
          exact ⟨List.length_eq_zero_iff.mp (by omega), List.length_eq_zero_iff.mp (by omega)⟩
        refine ⟨0, 0, t, [], by simp, ?_, ?_, rfl⟩
        · rw [e1, e3.1]
          simp [pow]
        · rw [e3.2]
          rfl
      · obtain ⟨a, b, u, v, h1, h2, h3, h4⟩ := pow_split (by omega) e2
        refine ⟨a + 1, b, u, v, h1, ?_, h3, by omega⟩
        rw [e1, h2]
        show _ = t ++ pow t a ++ u
        rw [List.append_assoc]
    · exact ⟨0, k, U, m, e1, rfl, e2, by omega⟩
theorem turn_pow {t y : List Int} {k : Nat} (hk : 1 ≤ k) (h : Turn (pow t k) y) : ∃ z, Turn t z ∧ y = pow z k := by
  obtain ⟨U, W, e1, rfl⟩ := h
  obtain ⟨a, b, u, v, rfl, rfl, rfl, e4⟩ := pow_split hk e1
  refine ⟨v ++ u, ⟨u, v, rfl, rfl⟩, ?_⟩
  rw [← e4, ← pow_conj, Nat.add_comm a b, pow_add]
  simp
theorem pow_turn {t z : List Int} (k : Nat) (h : Turn t z) : Turn (pow t k) (pow z k) := by
  obtain ⟨u, v, rfl, rfl⟩ := h
  cases k with
  | zero => exact Turn.refl _
  | succ k =>
    refine ⟨u, v ++ pow (u ++ v) k, ?_, (pow_conj u v k).symm⟩
    show u ++ v ++ pow (u ++ v) k = _
    rw [List.append_assoc]
theorem lt_app {x y : List Int} (hl : x.length = y.length) (h : x < y) (p q : List Int) : x ++ p < y ++ q := by
  induction x generalizing y with
  | nil =>
    cases y with
    | nil => exact absurd h (List.lt_irrefl _)
    | cons b y => cases hl
  | cons a x ih =>
    cases y with
    | nil => cases hl
    | cons b y =>
      rw [List.cons_append, List.cons_append, List.cons_lt_cons_iff]
      rw [List.cons_lt_cons_iff] at h
      rcases h with h | ⟨h1, h2⟩
      · exact .inl h
      · exact .inr ⟨h1, ih (by simpa using hl) h2⟩
theorem lt_pow {x y : List Int} (hl : x.length = y.length) {k : Nat} (hk : 1 ≤ k) (h : x < y) : pow x k < pow y k := by
  obtain ⟨k, rfl⟩ : ∃ j, k = j + 1 := ⟨k - 1, by omega⟩
  exact lt_app hl h _ _
theorem turn_len {a b : List Int} (h : Turn a b) : a.length = b.length := by
  obtain ⟨u, v, rfl, rfl⟩ := h
  rw [List.length_append, List.length_append, Nat.add_comm]
def CR (t : List Int) : Prop := Rd (t ++ t)
theorem rd_left {a b : List Int} (h : Rd (a ++ b)) : Rd a := rd_sub (u := []) (v := b) (by simpa using h)
theorem rd_right {a b : List Int} (h : Rd (a ++ b)) : Rd b := rd_sub (u := a) (v := []) (by simpa using h)
theorem CR.rd {t : List Int} (h : CR t) : Rd t := rd_left h
theorem rd_join {a b c : List Int} (hb : b ≠ []) (h1 : Rd (a ++ b)) (h2 : Rd (b ++ c)) : Rd (a ++ b ++ c) := by
  intro i x y hx hy
  by_cases hi : i + 1 < (a ++ b).length
  · rw [List.getElem?_append_left (by omega)] at hx
    rw [List.getElem?_append_left hi] at hy
    exact h1 i x y hx hy
  · have hl : 0 < b.length := List.length_pos_iff.mpr hb
    have hla : (a ++ b).length = a.length + b.length := List.length_append
    rw [List.append_assoc, List.getElem?_append_right (by omega)] at hx hy
    refine h2 (i - a.length) x y hx ?_
    rw [← hy]
    congr 1
    omega
theorem CR.pow {t : List Int} (ht : t ≠ []) (h : CR t) : ∀ n, Rd (Wd.pow t n)
  | 0 => rd_nil
  | 1 => by rw [pow_one]; exact h.rd
  | n + 2 => by
    show Rd (t ++ (t ++ Wd.pow t n))
    rw [← List.append_assoc]
    exact rd_join ht h (CR.pow ht h (n + 1))
theorem pow_ne {t : List Int} (ht : t ≠ []) {k : Nat} (hk : 1 ≤ k) : Wd.pow t k ≠ [] := fun z => by
  have := congrArg List.length z
  rw [pow_len, List.length_nil] at this
  have := List.length_pos_iff.mpr ht
  have : 0 < k * t.length := Nat.mul_pos (by omega) this
  omega
theorem cr_pow {t : List Int} (ht : t ≠ []) {k : Nat} (hk : 1 ≤ k) : CR (Wd.pow t k) ↔ CR t := by
  constructor
  · intro h
    unfold CR at h
    rw [← pow_add] at h
    obtain ⟨j, hj⟩ : ∃ j, k + k = 2 + j := ⟨k + k - 2, by omega⟩
    rw [hj, pow_add] at h
    have := rd_left h
    have e : Wd.pow t 2 = t ++ t := by
      show t ++ (t ++ []) = _
      rw [List.append_nil]
    rw [e] at this
    exact this
  · intro h
    unfold CR
    rw [← pow_add]
    exact h.pow ht _
theorem CR.turn {t z : List Int} (h : CR t) (k : Turn t z) : CR z := by
  by_cases ht : t = []
  · have := turn_len k
    rw [ht] at this
    have hz : z = [] := List.length_eq_zero_iff.mp this.symm
    rw [hz]
    exact rd_nil
  · obtain ⟨u, v, rfl, rfl⟩ := k
    have h3 := h.pow ht 3
    have e : Wd.pow (u ++ v) 3 = u ++ (v ++ u ++ (v ++ u)) ++ v := by
      show u ++ v ++ (u ++ v ++ (u ++ v ++ [])) = _
      simp
    rw [e] at h3
    exact rd_sub h3
theorem undo_app (a b : List Int) : undo (a ++ b) = undo b ++ undo a := by
  unfold undo
  rw [List.reverse_append, List.map_append]
theorem undo_pow (t : List Int) : ∀ k, undo (Wd.pow t k) = Wd.pow (undo t) k
  | 0 => rfl
  | k + 1 => by
    show undo (t ++ Wd.pow t k) = _
    rw [undo_app, undo_pow t k, pow_snoc]
theorem undo_turn {a b : List Int} (h : Turn a b) : Turn (undo a) (undo b) := by
  obtain ⟨u, v, rfl, rfl⟩ := h
  exact ⟨undo v, undo u, undo_app _ _, undo_app _ _⟩
theorem rd_undo {w : List Int} (h : Rd w) : Rd (undo w) := by
  intro i x y hx hy
  have li := (List.getElem?_eq_some_iff.mp hy).1
  rw [undo_len] at li
  unfold undo at hx hy
  rw [List.getElem?_map, List.getElem?_reverse (by omega)] at hx hy
  obtain ⟨a, ha, rfl⟩ := Option.map_eq_some_iff.mp hx
  obtain ⟨b, hb, rfl⟩ := Option.map_eq_some_iff.mp hy
  have hj : w.length - 1 - i = (w.length - 1 - (i + 1)) + 1 := by omega
  rw [hj] at ha
  have := h _ b a hb ha
  intro z
  rw [mate_mate] at z
  exact this z.symm
theorem CR.undo {t : List Int} (h : CR t) : CR (Wd.undo t) := by
  unfold CR
  rw [← undo_app]
  exact rd_undo h
theorem no_self : ∀ (n : Nat) (w : List Int), w.length ≤ n → Rd w → undo w = w → w = []
  | n, [], _, _, _ => rfl
  | n, [a], _, _, h => by
    have : mate a = a := by
      have h' : [mate a] = [a] := h
      exact (List.cons.inj h').1
    unfold mate at this
    split at this <;> omega
  | 0, a :: b :: r, h, _, _ => by simp at h
  | n + 1, a :: b :: r, h, hr, hu => by
    obtain ⟨m, c, e⟩ : ∃ m c, b :: r = m ++ [c] := ⟨(b :: r).dropLast, (b :: r).getLast (by simp), (List.dropLast_concat_getLast (by simp)).symm⟩
    rw [e] at hr hu h ⊢
    have e2 : undo (a :: (m ++ [c])) = mate c :: (undo m ++ [mate a]) := by
      have : a :: (m ++ [c]) = [a] ++ m ++ [c] := by simp
      rw [this, undo_app, undo_app]
      rfl
    rw [e2] at hu
    obtain ⟨h1, h2⟩ := List.cons.inj hu
    have h3 := List.append_inj' h2 rfl
    have hm : m = [] := by
      refine no_self n m ?_ ?_ h3.1
      · rw [List.length_cons, List.length_append] at h
        simp at h
        omega
      · exact rd_sub (u := [a]) (v := [c]) (by simpa using hr)
    subst hm
    exact absurd h1.symm (fun z => by
      have := hr 0 a c rfl rfl
      exact this (mate_eq.mpr (by rw [← h1]))) 
theorem not_undone {t : List Int} (ht : t ≠ []) (h : CR t) (k : Turn (undo t) t) : False := by
  obtain ⟨u, v, e1, e2⟩ := k
  have e3 : undo t = undo u ++ undo v := by rw [e2, undo_app]
  rw [e3] at e1
  have h4 := List.append_inj e1 (undo_len u)
  have hru : Rd u := by
    have := h.rd
    rw [e2] at this
    exact rd_right this
  have hrv : Rd v := by
    have := h.rd
    rw [e2] at this
    exact rd_left this
  have hu := no_self _ u (Nat.le_refl _) hru h4.1
  have hv := no_self _ v (Nat.le_refl _) hrv h4.2
  rw [hu, hv] at e2
  exact ht e2
end Wd
set_option maxRecDepth 100000
set_option maxHeartbeats 4000000
namespace Tt
open PySem L2
theorem strip_len : ∀ (n : Nat) (w : List Int), w.length ≤ n → (Wd.strip w).length ≤ w.length
  | 0, w, h => by
    unfold Wd.strip
    split
    · omega
    · exact Nat.le_refl _
  | n + 1, w, h => by
    unfold Wd.strip
    split
    · have hl : ((w.drop 1).dropLast).length = w.length - 1 - 1 := by simp
      refine Nat.le_trans (strip_len n _ (by omega)) ?_
      omega
    · exact Nat.le_refl _
theorem closedT_len (ns : List Int) : (closedT ns).length ≤ ns.length := by
  unfold closedT
  have h1 : (Wd.core ns).length ≤ ns.length := Nat.le_trans (strip_len _ _ (Nat.le_refl _)) (Wd.len_freed ns)
  by_cases hc : Wd.core ns = []
  · rw [hc, leastT_nil]
    exact Nat.zero_le _
  · obtain ⟨u, v, e1, e2⟩ := leastT_turn hc
    rw [e2, List.length_append]
    rw [e1, List.length_append] at h1
    omega
theorem freed_full (w : List Int) : (Wd.freed w).length = w.length → Wd.freed w = w := by
  refine Wd.snoc_ind (P := fun w => (Wd.freed w).length = w.length → Wd.freed w = w) (fun _ => rfl) (fun l a ih h => ?_) w
  rw [Wd.freed_snoc] at h ⊢
  rw [List.length_append, List.length_singleton] at h
  have h1 := Wd.len_freed l
  unfold Wd.push at h ⊢
  split at h
  · rw [List.length_dropLast] at h
    omega
  · rename_i hn
    rw [if_neg hn]
    rw [List.length_append, List.length_singleton] at h
    rw [ih (by omega)]
theorem strip_full {w : List Int} (h : (Wd.strip w).length = w.length) : Wd.strip w = w := by
  by_cases hc : 2 ≤ w.length ∧ w.head? = w.getLast?.map Wd.mate
  · unfold Wd.strip at h
    rw [dif_pos hc] at h
    have := strip_len _ ((w.drop 1).dropLast) (Nat.le_refl _)
    have hl : ((w.drop 1).dropLast).length = w.length - 1 - 1 := by simp
    omega
  · unfold Wd.strip
    rw [dif_neg hc]
theorem strip_facts : ∀ (n : Nat) (w : List Int), w.length ≤ n → Wd.Rd w → Wd.Rd (Wd.strip w) ∧ ¬ (2 ≤ (Wd.strip w).length ∧ (Wd.strip w).head? = (Wd.strip w).getLast?.map Wd.mate)
  | n, w, hn, hr => by
    by_cases hc : 2 ≤ w.length ∧ w.head? = w.getLast?.map Wd.mate
    · have e : Wd.strip w = Wd.strip (w.drop 1).dropLast := by
        rw [Wd.strip]
        exact dif_pos hc
      rw [e]
      have hl : ((w.drop 1).dropLast).length = w.length - 1 - 1 := by simp
      cases n with
      | zero => omega
      | succ n =>
        refine strip_facts n _ (by omega) ?_
        have h1 : Wd.Rd (w.drop 1) := Wd.rd_right (a := w.take 1) (by rw [List.take_append_drop]; exact hr)
        by_cases h2 : w.drop 1 = []
        · rw [h2]
          exact Wd.rd_nil
        · refine Wd.rd_left (b := [(w.drop 1).getLast h2]) ?_
          rw [List.dropLast_concat_getLast]
          exact h1
    · have e : Wd.strip w = w := by
        rw [Wd.strip]
        exact dif_neg hc
      rw [e]
      exact ⟨hr, hc⟩
theorem cr_of {w : List Int} (hr : Wd.Rd w) (hc : ¬ (2 ≤ w.length ∧ w.head? = w.getLast?.map Wd.mate)) : Wd.CR w := by
  intro i x y hx hy
  by_cases hi : i + 1 < w.length
  · rw [List.getElem?_append_left (by omega)] at hx
    rw [List.getElem?_append_left hi] at hy
    exact hr i x y hx hy
  · by_cases hj : i < w.length
    ·
      have e : i = w.length - 1 := by omega
      rw [List.getElem?_append_left hj] at hx
      rw [List.getElem?_append_right (by omega)] at hy
      have e0 : i + 1 - w.length = 0 := by omega
      rw [e0] at hy
      intro z
      by_cases h2 : 2 ≤ w.length
      · refine hc ⟨h2, ?_⟩
        rw [List.head?_eq_getElem?, hy, List.getLast?_eq_getElem?, ← e, hx, z]
        rfl
      · have : i = 0 := by omega
        rw [this] at hx
        rw [hx] at hy
        have := Option.some.inj hy
        rw [← this] at z
        unfold Wd.mate at z
        split at z <;> omega
    · rw [List.getElem?_append_right (by omega)] at hx hy
      refine hr (i - w.length) x y hx ?_
      rw [← hy]
      congr 1
      omega
theorem core_of_cr {w : List Int} (h : Wd.CR w) : Wd.core w = w := by
  unfold Wd.core
  rw [Wd.freed_of_rd w h.rd]
  by_cases h2 : 2 ≤ w.length
  · refine Wd.strip_no fun z => ?_
    obtain ⟨a, ha⟩ : ∃ a, w[w.length - 1]? = some a := ⟨_, List.getElem?_eq_getElem (by omega)⟩
    obtain ⟨b, hb⟩ : ∃ b, w[0]? = some b := ⟨_, List.getElem?_eq_getElem (by omega)⟩
    rw [List.head?_eq_getElem?, List.getLast?_eq_getElem?, ha, hb] at z
    have z' : b = Wd.mate a := Option.some.inj z
    refine h (w.length - 1) a b ?_ ?_ z'
    · rw [List.getElem?_append_left (by omega)]
      exact ha
    · rw [List.getElem?_append_right (by omega)]
      have : w.length - 1 + 1 - w.length = 0 := by omega
      rw [this]
      exact hb
  · exact Wd.strip_short (by omega)
theorem cr_core (w : List Int) : Wd.CR (Wd.core w) := by
  obtain ⟨h1, h2⟩ := strip_facts _ (Wd.freed w) (Nat.le_refl _) (Wd.rd_freed w)
  exact cr_of h1 h2
def Lst (ns : List Int) : Prop := ∀ y, Wd.Turn ns y → ¬ y < ns
theorem lst_least {ns : List Int} (hne : ns ≠ []) : Lst (leastT ns) := fun y hy => by
  obtain ⟨h1, h2⟩ := leastT_facts hne
  exact h2 y ((mem_turns hne).mpr ((leastT_turn hne).trans hy))
theorem least_lst {ns : List Int} (hne : ns ≠ []) (h : Lst ns) : leastT ns = ns := by
  obtain ⟨h1, h2⟩ := leastT_facts hne
  have a := h _ (leastT_turn hne)
  have b := h2 ns ((mem_turns hne).mpr (Wd.Turn.refl ns))
  exact (List.le_antisymm (as := leastT ns) (bs := ns) (by simpa using b) (by simpa using a))
def Rnd (ns : List Int) : Prop := ns ≠ [] ∧ closedT ns = ns
theorem rnd_iff {ns : List Int} (hne : ns ≠ []) : closedT ns = ns ↔ Wd.CR ns ∧ Lst ns := by
  constructor
  · intro h
    unfold closedT at h
    have hc : Wd.core ns ≠ [] := fun z => by
      rw [z, leastT_nil] at h
      exact hne h.symm
    have hl := Wd.turn_len (leastT_turn hc)
    rw [h] at hl
    have a1 : (Wd.core ns).length ≤ (Wd.freed ns).length := strip_len _ _ (Nat.le_refl _)
    have a2 := Wd.len_freed ns
    have e1 : Wd.freed ns = ns := freed_full ns (by omega)
    have e2 : Wd.core ns = ns := by
      unfold Wd.core
      rw [e1]
      refine strip_full ?_
      have : Wd.core ns = Wd.strip ns := by
        unfold Wd.core
        rw [e1]
      rw [← this]
      exact hl
    have cr := cr_core ns
    rw [e2] at cr h
    refine ⟨cr, ?_⟩
    rw [← h]
    exact lst_least hne
  · rintro ⟨cr, l⟩
    unfold closedT
    rw [core_of_cr cr]
    exact least_lst hne l
theorem Rnd.cr {ns : List Int} (h : Rnd ns) : Wd.CR ns := ((rnd_iff h.1).mp h.2).1
theorem Rnd.lst {ns : List Int} (h : Rnd ns) : Lst ns := ((rnd_iff h.1).mp h.2).2
theorem rnd_mk {ns : List Int} (hne : ns ≠ []) (c : Wd.CR ns) (l : Lst ns) : Rnd ns := ⟨hne, (rnd_iff hne).mpr ⟨c, l⟩⟩
theorem rnd_least {ns : List Int} (hne : ns ≠ []) (c : Wd.CR ns) : Rnd (leastT ns) :=
  rnd_mk (fun z => hne ((turn_nil (leastT_turn hne)).mpr z)) (c.turn (leastT_turn hne)) (lst_least hne)
theorem rnd_closed {x : List Int} (h : closedT x ≠ []) : Rnd (closedT x) := by
  unfold closedT at h ⊢
  have hc : Wd.core x ≠ [] := fun z => h (by rw [z, leastT_nil])
  exact rnd_least hc (cr_core x)
theorem closed_cr {ns : List Int} (c : Wd.CR ns) : closedT ns = leastT ns := by
  unfold closedT
  rw [core_of_cr c]
theorem undo_ne {ns : List Int} (h : ns ≠ []) : Wd.undo ns ≠ [] := fun z => h (List.length_eq_zero_iff.mp (by rw [← Wd.undo_len, z]; rfl))
def abt (ns : List Int) : List Int := leastT (Wd.undo ns)
theorem rnd_abt {ns : List Int} (h : Rnd ns) : Rnd (abt ns) := rnd_least (undo_ne h.1) h.cr.undo
theorem closed_abt {ns : List Int} (h : Rnd ns) : closedT (Wd.undo ns) = abt ns := closed_cr h.cr.undo
theorem abt_abt {ns : List Int} (h : Rnd ns) : abt (abt ns) = ns := by
  have t := Wd.undo_turn (leastT_turn (undo_ne h.1))
  rw [Wd.undo_undo] at t
  show leastT (Wd.undo (leastT (Wd.undo ns))) = ns
  rw [← leastT_eq t]
  exact least_lst h.1 h.lst
theorem abt_ne {ns : List Int} (h : Rnd ns) : abt ns ≠ ns := fun z => by
  have t := leastT_turn (undo_ne h.1)
  have e : leastT (Wd.undo ns) = ns := z
  rw [e] at t
  exact Wd.not_undone h.1 h.cr t
theorem abt_len (ns : List Int) : (abt ns).length = ns.length := by
  by_cases h : ns = []
  · subst h
    rfl
  · show (leastT (Wd.undo ns)).length = _
    rw [← Wd.turn_len (leastT_turn (undo_ne h)), Wd.undo_len]
theorem rnd_pow {t : List Int} (h : Rnd t) {k : Nat} (hk : 1 ≤ k) : Rnd (Wd.pow t k) := by
  refine rnd_mk (Wd.pow_ne h.1 hk) ((Wd.cr_pow h.1 hk).mpr h.cr) fun y hy g => ?_
  obtain ⟨z, hz, rfl⟩ := Wd.turn_pow hk hy
  have hl := Wd.turn_len hz
  rcases Classical.em (z < t) with q | q
  · exact h.lst z hz q
  · rcases Classical.em (t < z) with q2 | q2
    · exact List.lt_irrefl _ (List.lt_trans g (Wd.lt_pow hl hk q2))
    · have e : z = t := List.le_antisymm (as := z) (bs := t) (by simpa using q2) (by simpa using q)
      rw [e] at g
      exact List.lt_irrefl _ g
theorem rnd_of_pow {t : List Int} (ht : t ≠ []) {k : Nat} (hk : 1 ≤ k) (h : Rnd (Wd.pow t k)) : Rnd t :=
  rnd_mk ht ((Wd.cr_pow ht hk).mp h.cr) fun y hy g => h.lst _ (Wd.pow_turn k hy) (Wd.lt_pow (Wd.turn_len hy).symm hk g)
theorem abt_pow {t : List Int} (h : Rnd t) {k : Nat} (hk : 1 ≤ k) : abt (Wd.pow t k) = Wd.pow (abt t) k := by
  have r := rnd_pow (rnd_abt h) hk
  have t1 : Wd.Turn (Wd.undo (Wd.pow t k)) (Wd.pow (abt t) k) := by
    rw [Wd.undo_pow]
    exact Wd.pow_turn k (leastT_turn (undo_ne h.1))
  show leastT (Wd.undo (Wd.pow t k)) = _
  rw [leastT_eq t1]
  exact least_lst r.1 r.lst
def IsRoot (ns : List Int) (s : Nat) : Prop := 1 ≤ s ∧ s ≤ ns.length ∧ turnAt ns s = ns ∧ ∀ j, 1 ≤ j → j < s → turnAt ns j ≠ ns
theorem root_uniq {ns : List Int} {s s' : Nat} (h : IsRoot ns s) (h' : IsRoot ns s') : s = s' := by
  rcases Nat.lt_trichotomy s s' with g | g | g
  · exact absurd h.2.2.1 (h'.2.2.2 s h.1 g)
  · exact g
  · exact absurd h'.2.2.1 (h.2.2.2 s' h'.1 g)
theorem turnAt_len {ns : List Int} : turnAt ns ns.length = ns := by
  unfold turnAt
  simp
theorem root_ex {ns : List Int} (hne : ns ≠ []) : ∃ s, IsRoot ns s := by
  have key : ∀ n, ∀ m, 1 ≤ m → m ≤ ns.length → ns.length - m ≤ n → (∀ j, 1 ≤ j → j < m → turnAt ns j ≠ ns) → ∃ s, IsRoot ns s := by
    intro n
    induction n with
    | zero => exact fun m h1 h2 h3 h4 => ⟨m, h1, h2, by rw [show m = ns.length by omega]; exact turnAt_len, h4⟩
    | succ n ih =>
      intro m h1 h2 h3 h4
      by_cases hm : turnAt ns m = ns
      · exact ⟨m, h1, h2, hm, h4⟩
      · by_cases he : m = ns.length
        · exact absurd (by rw [he]; exact turnAt_len) hm
        · refine ih (m + 1) (by omega) (by omega) (by omega) fun j j1 j2 => ?_
          by_cases hj : j = m
          · rw [hj]
            exact hm
          · exact h4 j j1 (by omega)
  have := List.length_pos_iff.mpr hne
  exact key ns.length 1 (Nat.le_refl _) (by omega) (by omega) fun j j1 j2 => by omega
theorem comm_cut {u : List Int} (hu : u ≠ []) : ∀ (n : Nat) (v : List Int), v.length ≤ n → u ++ v = v ++ u → ∃ q w, v = Wd.pow u q ++ w ∧ w.length < u.length ∧ u ++ w = w ++ u
  | 0, v, hn, h => by
    have : v = [] := List.length_eq_zero_iff.mp (by omega)
    subst this
    exact ⟨0, [], rfl, List.length_pos_iff.mpr hu, by simp⟩
  | n + 1, v, hn, h => by
    by_cases hl : v.length < u.length
    · exact ⟨0, v, rfl, hl, h⟩
    · rcases Wd.app_split h with ⟨m, e1, e2⟩ | ⟨m, e1, e2⟩
      ·
        have hm : u ++ m = m ++ u := by
          rw [← e1, e2]
        have hlu := List.length_pos_iff.mpr hu
        obtain ⟨q, w, h1, h2, h3⟩ := comm_cut hu n m (by rw [e1, List.length_append] at hn; omega) hm
        refine ⟨q + 1, w, ?_, h2, h3⟩
        rw [e1, h1]
        show _ = u ++ Wd.pow u q ++ w
        rw [List.append_assoc]
      · have hm : m = [] := by
          have := congrArg List.length e1
          rw [List.length_append] at this
          exact List.length_eq_zero_iff.mp (by omega)
        subst hm
        rw [List.append_nil] at e1
        refine ⟨1, [], ?_, List.length_pos_iff.mpr hu, by simp⟩
        rw [Wd.pow_one, List.append_nil, e1]
theorem comm_pow {u w : List Int} (h : u ++ w = w ++ u) : ∀ n, Wd.pow u n ++ w = w ++ Wd.pow u n
  | 0 => by simp [Wd.pow]
  | n + 1 => by
    show u ++ Wd.pow u n ++ w = w ++ (u ++ Wd.pow u n)
    rw [List.append_assoc, comm_pow h n, ← List.append_assoc, h, List.append_assoc]
theorem take_ne {ns : List Int} {s : Nat} (h1 : 1 ≤ s) (h2 : s ≤ ns.length) : ns.take s ≠ [] := fun z => by
  have := congrArg List.length z
  rw [List.length_take, List.length_nil] at this
  omega
theorem root_pow {ns : List Int} {s : Nat} (h : IsRoot ns s) : ∃ k, 1 ≤ k ∧ ns = Wd.pow (ns.take s) k ∧ k * s = ns.length := by
  obtain ⟨h1, h2, h3, h4⟩ := h
  have hu := take_ne h1 h2
  have hlen : (ns.take s).length = s := by rw [List.length_take]; omega
  have hc : ns.take s ++ ns.drop s = ns.drop s ++ ns.take s := by
    rw [List.take_append_drop]
    exact h3.symm
  obtain ⟨q, w, e1, e2, e3⟩ := comm_cut hu _ (ns.drop s) (Nat.le_refl _) hc
  have en : ns = Wd.pow (ns.take s) (q + 1) ++ w := by
    show ns = ns.take s ++ Wd.pow (ns.take s) q ++ w
    rw [List.append_assoc, ← e1, List.take_append_drop]
  have hw : w = [] := Classical.byContradiction fun hw => by
    have hl := List.length_pos_iff.mpr hw
    refine h4 w.length hl (by omega) ?_
    have en2 := en
    rw [comm_pow e3] at en2
    have : turnAt (w ++ Wd.pow (ns.take s) (q + 1)) w.length = Wd.pow (ns.take s) (q + 1) ++ w := by
      unfold turnAt
      rw [List.drop_left, List.take_left]
    rw [← en2, ← en] at this
    exact this
  rw [hw, List.append_nil] at en
  refine ⟨q + 1, by omega, en, ?_⟩
  have := congrArg List.length en
  rw [Wd.pow_len, hlen] at this
  exact this.symm
theorem turnAt_pow {t : List Int} {k j : Nat} (hk : 1 ≤ k) (hj : j ≤ t.length) : turnAt (Wd.pow t k) j = Wd.pow (turnAt t j) k := by
  obtain ⟨k, rfl⟩ : ∃ i, k = i + 1 := ⟨k - 1, by omega⟩
  have e : t = t.take j ++ t.drop j := (List.take_append_drop j t).symm
  have hl : (t.take j).length = j := by rw [List.length_take]; omega
  have e1 : Wd.pow t (k + 1) = t.take j ++ (t.drop j ++ Wd.pow t k) := by
    show t ++ Wd.pow t k = _
    rw [← List.append_assoc, List.take_append_drop]
  unfold turnAt
  rw [e1, List.drop_left' hl, List.take_left' hl]
  have := Wd.pow_conj (t.take j) (t.drop j) k
  rw [List.take_append_drop] at this
  exact this
theorem pow_inj {x y : List Int} (hl : x.length = y.length) {k : Nat} (hk : 1 ≤ k) (h : Wd.pow x k = Wd.pow y k) : x = y := by
  obtain ⟨k, rfl⟩ : ∃ i, k = i + 1 := ⟨k - 1, by omega⟩
  exact (List.append_inj (show x ++ Wd.pow x k = y ++ Wd.pow y k from h) hl).1
def Prim (t : List Int) : Prop := IsRoot t t.length
theorem turnAt_length (t : List Int) (j : Nat) : (turnAt t j).length = t.length := (Wd.turn_len (turnAt_turn j)).symm
theorem root_of_pow {t : List Int} (h : Prim t) {k : Nat} (hk : 1 ≤ k) : IsRoot (Wd.pow t k) t.length := by
  obtain ⟨h1, h2, h3, h4⟩ := h
  refine ⟨h1, ?_, ?_, fun j j1 j2 z => ?_⟩
  · rw [Wd.pow_len]
    exact Nat.le_mul_of_pos_left _ (by omega)
  · rw [turnAt_pow hk (Nat.le_refl _), h3]
  · rw [turnAt_pow hk (by omega)] at z
    exact h4 j j1 j2 (pow_inj (turnAt_length t j) hk z)
theorem prim_root {ns : List Int} {s : Nat} (h : IsRoot ns s) : Prim (ns.take s) := by
  obtain ⟨k, k1, e, _⟩ := root_pow h
  obtain ⟨h1, h2, h3, h4⟩ := h
  have hlen : (ns.take s).length = s := by rw [List.length_take]; omega
  refine ⟨by omega, Nat.le_refl _, turnAt_len, fun j j1 j2 z => ?_⟩
  refine h4 j j1 (by omega) ?_
  have := turnAt_pow (t := ns.take s) (k := k) (j := j) k1 (by omega)
  rw [z, ← e] at this
  exact this
theorem prim_iff {t : List Int} (ht : t ≠ []) : Prim t ↔ ∀ y k, t = Wd.pow y k → k ≤ 1 := by
  constructor
  · intro h y k e
    refine Classical.byContradiction fun g => ?_
    have hy : y ≠ [] := fun z => ht (by
      rw [e, z]
      have : ∀ n, Wd.pow ([] : List Int) n = [] := fun n => by
        induction n with
        | zero => rfl
        | succ n ih => exact ih
      exact this k)
    have hl := List.length_pos_iff.mpr hy
    have hl2 : t.length = k * y.length := by rw [e, Wd.pow_len]
    have h3 : 2 * y.length ≤ k * y.length := Nat.mul_le_mul_right _ (by omega)
    refine h.2.2.2 y.length hl (by omega) ?_
    rw [e, turnAt_pow (by omega) (Nat.le_refl _), turnAt_len]
  · intro h
    obtain ⟨s, hs⟩ := root_ex ht
    obtain ⟨k, k1, e, el⟩ := root_pow hs
    have k2 := h _ _ e
    have : k = 1 := by omega
    rw [this, Nat.one_mul] at el
    unfold Prim
    rw [← el]
    exact hs
theorem prim_turn {t z : List Int} (ht : t ≠ []) (h : Prim t) (k : Wd.Turn t z) : Prim z := by
  have hz : z ≠ [] := fun q => ht ((turn_nil k).mpr q)
  refine (prim_iff hz).mpr fun y n e => ?_
  by_cases hn : n = 0
  · omega
  · have k' := k.symm
    rw [e] at k'
    obtain ⟨x, _, e2⟩ := Wd.turn_pow (by omega) k'
    exact (prim_iff ht).mp h x n e2
theorem prim_undo {t : List Int} (ht : t ≠ []) (h : Prim t) : Prim (Wd.undo t) := by
  refine (prim_iff (undo_ne ht)).mpr fun y n e => ?_
  refine (prim_iff ht).mp h (Wd.undo y) n ?_
  rw [← Wd.undo_pow, ← e, Wd.undo_undo]
theorem prim_abt {t : List Int} (ht : t ≠ []) (h : Prim t) : Prim (abt t) := prim_turn (undo_ne ht) (prim_undo ht h) (leastT_turn (undo_ne ht))
theorem root_abt {ns : List Int} {s s' : Nat} (r : Rnd ns) (h : IsRoot ns s) (h' : IsRoot (abt ns) s') : s' = s ∧ (abt ns).take s' = abt (ns.take s) := by
  obtain ⟨k, k1, e, el⟩ := root_pow h
  have hne := take_ne h.1 h.2.1
  have hlen : (ns.take s).length = s := by rw [List.length_take]; have := h.2.1; omega
  have rt : Rnd (ns.take s) := rnd_of_pow hne k1 (by rw [← e]; exact r)
  have ea : abt ns = Wd.pow (abt (ns.take s)) k := by
    conv => lhs; rw [e]
    exact abt_pow rt k1
  have hr := root_of_pow (prim_abt hne (prim_root h)) k1
  rw [← ea, abt_len, hlen] at hr
  have es := root_uniq h' hr
  refine ⟨es, ?_⟩
  rw [es, ea]
  obtain ⟨k, rfl⟩ : ∃ i, k = i + 1 := ⟨k - 1, by omega⟩
  show (abt (ns.take s) ++ Wd.pow (abt (ns.take s)) k).take s = _
  exact List.take_left' (by rw [abt_len, hlen])
theorem root_root {ns : List Int} {s s' : Nat} (h : IsRoot ns s) (h' : IsRoot (ns.take s) s') : s' = s := by
  have := root_uniq h' (prim_root h)
  rw [this, List.length_take]
  have := h.2.1
  omega
theorem rnd_root {ns : List Int} {s : Nat} (r : Rnd ns) (h : IsRoot ns s) : Rnd (ns.take s) := by
  obtain ⟨k, k1, e, el⟩ := root_pow h
  exact rnd_of_pow (take_ne h.1 h.2.1) k1 (by rw [← e]; exact r)
def IsPer (ns : List Int) (s : Nat) : Prop := ns.length % s = 0 ∧ Wd.pow (ns.take s) (ns.length / s) = ns
theorem per_turn {ns : List Int} {s : Nat} (h1 : 1 ≤ s) (h2 : s ≤ ns.length) (h : IsPer ns s) : turnAt ns s = ns := by
  have hk : 1 ≤ ns.length / s := Nat.div_pos h2 (by omega)
  have hlen : (ns.take s).length = s := by rw [List.length_take]; omega
  have := turnAt_pow (t := ns.take s) (k := ns.length / s) (j := s) hk (by omega)
  have e2 : turnAt (ns.take s) s = ns.take s := by
    have := turnAt_len (ns := ns.take s)
    rw [hlen] at this
    exact this
  rw [e2, h.2] at this
  exact this
theorem root_per {ns : List Int} {s : Nat} (h : IsRoot ns s) : IsPer ns s := by
  obtain ⟨k, k1, e, el⟩ := root_pow h
  have hs := h.1
  refine ⟨?_, ?_⟩
  · rw [← el]
    exact Nat.mul_mod_left _ _
  · have : ns.length / s = k := by rw [← el]; exact Nat.mul_div_cancel _ (by omega)
    rw [this]
    exact e.symm
theorem root_of_per {ns : List Int} {s : Nat} (h1 : 1 ≤ s) (h2 : s ≤ ns.length) (h : IsPer ns s) (no : ∀ j, 1 ≤ j → j < s → ¬ IsPer ns j) : IsRoot ns s := by
  have hne : ns ≠ [] := fun z => by
    rw [z] at h2
    simp at h2
    omega
  obtain ⟨r, hr⟩ := root_ex hne
  have t := per_turn h1 h2 h
  rcases Nat.lt_trichotomy r s with g | g | g
  · exact absurd (root_per hr) (no r hr.1 g)
  · rw [← g]
    exact hr
  · exact absurd t (hr.2.2.2 s h1 g)
end Tt
set_option maxRecDepth 100000
set_option maxHeartbeats 4000000
namespace Tt
open PySem L2
open LamX (ExtN)
theorem mate_ne (x : Int) : x ≠ Wd.mate x := by
  unfold Wd.mate
  split <;> omega
theorem rd_const {ns : List Int} (lt : Lt 2 ns) (r : Wd.Rd ns) {h : Int} (hh : ns.head? = some h) : ∀ x ∈ ns, x = h := by
  intro x hx
  obtain ⟨i, hi⟩ := List.getElem?_of_mem hx
  have key : ∀ (i : Nat) (x : Int), ns[i]? = some x → x = h := by
    intro i
    induction i with
    | zero =>
      intro x hx
      rw [List.head?_eq_getElem?] at hh
      rw [hh] at hx
      exact (Option.some.inj hx).symm
    | succ i ih =>
      intro x hx
      have il : i < ns.length := by
        have := (List.getElem?_eq_some_iff.mp hx).1
        omega
      have hy := List.getElem?_eq_getElem il
      have e := ih _ hy
      have n := r i _ x hy hx
      have l1 := lt x (List.mem_of_getElem? hx)
      have l2 := lt _ (List.mem_of_getElem? hy)
      unfold Wd.mate at n
      split at n <;> omega
  exact key i x hi
theorem some_ok {e : Int} {ns : List Int} (h2 : 2 ≤ e) (ev : e % 2 = 0) (lt : Lt e ns) (r : Wd.Rd ns) {a b : Int} (hh : ns.head? = some a) (hl : ns.getLast? = some b) : ∃ x, 0 ≤ x ∧ x < e ∧ x ≠ Wd.mate b ∧ x ≠ Wd.mate a := by
  have la := lt a (List.mem_of_mem_head? hh)
  have lb := lt b (List.mem_of_mem_getLast? hl)
  by_cases c : b = Wd.mate a
  · by_cases c2 : e = 2
    · subst c2
      have := rd_const lt r hh b (List.mem_of_mem_getLast? hl)
      exact absurd (this.symm.trans c) (mate_ne a)
    · have e4 : 4 ≤ e := by omega
      by_cases c3 : a < 2
      · refine ⟨2, by omega, by omega, ?_, ?_⟩
        · rw [c]
          unfold Wd.mate
          split <;> split <;> omega
        · unfold Wd.mate
          split <;> omega
      · refine ⟨0, by omega, by omega, ?_, ?_⟩
        · rw [c]
          unfold Wd.mate
          split <;> split <;> omega
        · unfold Wd.mate
          split <;> omega
  · exact ⟨b, lb.1, lb.2, mate_ne b, c⟩
theorem mate_mate {x : Int} : Wd.mate (Wd.mate x) = x := by
  unfold Wd.mate
  split <;> split <;> omega
def okE (ns : List Int) (last : Bool) (x : Int) : Bool := decide (ns.getLast? ≠ some (Wd.mate x)) && !(last && decide (ns.head? = some (Wd.mate x)))
theorem rd_snoc {ns : List Int} {x : Int} (r : Wd.Rd ns) (h : ns.getLast? ≠ some (Wd.mate x)) : Wd.Rd (ns ++ [x]) := by
  intro i a b ha hb
  rcases Nat.lt_or_ge (i + 1) ns.length with c | c
  · rw [List.getElem?_append_left (by omega)] at ha
    rw [List.getElem?_append_left c] at hb
    exact r i a b ha hb
  · have hb1 := (List.getElem?_eq_some_iff.mp hb).1
    rw [List.length_append] at hb1
    have e : i + 1 = ns.length := by
      have : ([x] : List Int).length = 1 := rfl
      omega
    rw [List.getElem?_append_right (by omega), e, Nat.sub_self] at hb
    rw [List.getElem?_append_left (by omega)] at ha
    have hb' : x = b := Option.some.inj hb
    subst hb'
    intro z
    apply h
    rw [List.getLast?_eq_getElem?, show ns.length - 1 = i by omega, ha, z, mate_mate]
theorem cr_snoc {ns : List Int} {x : Int} (r : Wd.Rd (ns ++ [x])) (h : ns.head? ≠ some (Wd.mate x)) : Wd.CR (ns ++ [x]) := by
  refine cr_of r fun z => ?_
  obtain ⟨z1, z2⟩ := z
  rw [List.getLast?_append] at z2
  have e : (([x] : List Int).getLast?.or ns.getLast?) = some x := rfl
  rw [e] at z2
  cases ns with
  | nil => simp at z1
  | cons a l =>
    apply h
    have z3 : some a = some (Wd.mate x) := z2
    exact z3
theorem ok_ex {e : Int} {ns : List Int} (h2 : 2 ≤ e) (ev : e % 2 = 0) (lt : Lt e ns) (r : Wd.Rd ns) (last : Bool) : ∃ x, 0 ≤ x ∧ x < e ∧ okE ns last x = true := by
  cases hh : ns.head? with
  | none =>
    have : ns = [] := List.head?_eq_none_iff.mp hh
    subst this
    exact ⟨0, by omega, by omega, by unfold okE; simp⟩
  | some a =>
    obtain ⟨b, hl⟩ : ∃ b, ns.getLast? = some b := by
      cases h : ns.getLast? with
      | none =>
        have : ns = [] := List.getLast?_eq_none_iff.mp h
        subst this
        cases hh
      | some b => exact ⟨b, rfl⟩
    obtain ⟨x, x0, x1, n1, n2⟩ := some_ok h2 ev lt r hh hl
    refine ⟨x, x0, x1, ?_⟩
    unfold okE
    rw [hh, hl]
    have m1 : ¬ b = Wd.mate x := fun z => n1 (by rw [z, mate_mate])
    have m2 : ¬ a = Wd.mate x := fun z => n2 (by rw [z, mate_mate])
    simp [m1, m2]
section
variable {P : Program} {w : World} {K : PySem.W.Frag} {mg : Str → Option Value} {base : Heap}
def spWord54 (K : PySem.W.Frag) : Sp := fun vs H Q _ => ∃ (D : Dw) (e : Int) (n : Nat), vs = [.ref D.d, .int e, .int (n : Int)] ∧ 2 ≤ e ∧ e ≤ 12 ∧ e % 2 = 0 ∧ n ≤ 60 ∧ DrOk D H ∧
  ∀ (ns : List Int) q H', ns.length = n → Lt e ns → Wd.CR ns → DrOk D H' → Kp D H H' → H' q = some (.tup (ns.map V.int)) → Q (.ref q) H'
theorem ok_l_word (T : Txt K mg) : FnOk P w K mg base CX0 4 T.l_word.a T.l_word.fd ["draw", "ends", "size"] (spWord54 K) := by
  refine T.l_word.F.ok sc_l_word (fun vs H Q E h => ?_) (fun cdv A outer s H vs Q E hr h => ?_)
  · obtain ⟨D, e, n, rfl, _⟩ := h
    rfl
  · obtain ⟨D, e, n, rfl, e2, e12, ev, hn, dr, k⟩ := h
    have hu := hu_of hr
    have nd := sc_l_word.nd
    refine ⟨_, (pss_cons (ps_set (i := 3) nd rfl (Or.inr rfl) (pe_lst pa_nil))
    (pss_cons (ps_for PassesOwn.never rfl (pi_range1 rfl T.zrange (pa_cons (pv 2) pa_nil)) (pg_name (i := 4) nd rfl (Or.inr rfl))
      (pss_cons (ps_setLc (i := 5) (own := [("end", 6)]) (g := gName 6) rfl nd rfl rfl (sw_true rfl rfl rfl (by decide +kernel)) (pi_range1 rfl T.zrange (pa_cons (pv 1) pa_nil)) (blkOk_by (own := [("end", 6)]) (N := N_l_word) (sc := defScope s_l_word) (by decide +kernel)) (fun _ _ _ _ _ => pg_name (i := 6) nd rfl (Or.inl rfl)) (fun _ _ _ _ _ => pts_one (PW.pt (pw_and (PW.pt (pw_or (pt_cmpR (op_eqDK (K := K) rfl hr.units) (pv 3) (pe_lst pa_nil) (nomark _)) (pw_or1 (pt_cmpR op_ne (pv 6) (pe_op op_xor (pe_ix (ix_listK (K := K) rfl) (pv 3) (pe_un un_neg pe_int) (fun _ _ => rfl)) pe_int) (nomark _))))) (pw_and1 (PW.pt (pw_or (pt_cmpR op_lt (pv 4) (pe_op op_sub (pv 2) pe_int) (nomark _)) (pw_or (pt_cmpR (op_eqDK (K := K) rfl hr.units) (pv 3) (pe_lst pa_nil) (nomark _)) (pw_or1 (pt_cmpR op_ne (pv 6) (pe_op op_xor (pe_ix (ix_listK (K := K) rfl) (pv 3) pe_int (fun _ _ => rfl)) pe_int) (nomark _)))))))))) (fun _ _ _ _ _ => (pv 6)))
      (pss_one (ps_expr (pe_bm PySem.F.plainAttrs_list PySem.F.slot_list_append PySem.F.type_list_append mt_append (pv 3) (pa_cons (pe_ifExp (pt_cmpR (op_neD hr.units) (pv 5) (pe_lst pa_nil) (nomark _)) (pe_call (ok_l_pick T) (hr.mono (by decide)) (by rfl) T.l_pick.g T.l_pick.k T.l_pick.b .nil pass0 (pa_cons (pv 0) (pa_cons (pv 5) pa_nil))) (pe_ix ix_list (pv 3) pe_int (fun _ _ => rfl))) pa_nil))))))
    (pss_one (ps_ret (pe_callTy call_tuple_of (by rfl) T.ztuple (by decide +kernel) (pa_cons (pv 3) pa_nil)))))), ?_⟩
    refine sqn ⟨(by show 0 ≤ sizeLine; decide), fun f hf => ?_⟩
    have d1 := dr.new (o := .lst []) hf
    have k1 : Kp D H (upd H f (.lst [])) := Kp.new hf
    have of : Off D f := dr.off hf
    have h1 : (upd H f (.lst [])) f = some (.lst (([] : List Int).map V.int)) := upd_same
    have hfN : ∀ b o, H b = some o → b ≠ f := fun b o hb => ne_of_none hb hf
    have kf : ∀ H3 o, Kp D H H3 → Kp D H (upd H3 f o) := fun H3 o k3 b u hb q1 q2 => by
      rw [upd_ne (hfN b u hb)]
      exact k3 b u hb q1 q2
    generalize upd H f (.lst []) = H1 at d1 k1 h1
    dsimp only
    refine sqn ⟨_, rfl, _, rfl, by omega, by omega, ?_⟩
    refine for_range (lo := 0) (n := ((n : Int)).toNat) (fun i σ H' => ∃ (fs : List Int) (v4 v5 v6 : Option V), σ = [some (.ref D.d), some (.int e), some (.int (n : Int)), some (.ref f), v4, v5, v6] ∧ H' f = some (.lst (fs.map V.int)) ∧ fs.length = i ∧ Lt e fs ∧ Wd.Rd fs ∧ (i = n → Wd.CR fs) ∧ DrOk D H' ∧ Kp D H H')
      ⟨[], _, _, _, rfl, h1, rfl, (fun x hx => by cases hx), Wd.rd_nil, fun _ => Wd.rd_nil, d1, k1⟩ ?_ ?_
    · rintro i σ H2 hi ⟨fs, v4, v5, v6, rfl, h2, lf, lt, rd, _, d2, k2⟩
      rw [Int.zero_add]
      have im : i < n := by omega
      refine sqn ⟨_, rfl, _, rfl, by omega, by omega, fun D1 hD1 => ?_⟩
      generalize hw : okE fs (decide (i + 1 = n)) = ok
      refine lc_range (lo := 0) (n := (e : Int).toNat) (fun j H4 => H4 D1 = some (.lst (((rgI j).filter ok).map V.int)) ∧ Same H2 H4) ⟨upd_same, same_new hD1⟩ ?_ ?_
      · rintro j H4 hj ⟨h4, s4⟩
        refine ⟨rfl, ?_⟩
        rw [Int.zero_add]
        have fl : ((rgI j).filter ok).length ≤ 12 := by
          refine Nat.le_trans (List.length_filter_le _ _) ?_
          rw [rgI_len]
          omega
        have ht : rgI (j + 1) = rgI j ++ [(j : Int)] := by
          unfold rgI
          rw [List.range_succ, List.map_append]
          rfl
        have h24 := s4 _ _ h2
        have fin : ∀ H3, Same H4 H3 → ok (j : Int) = true → ∃ acc, H3 D1 = some (.lst acc) ∧ acc.length < sizeLine ∧ ((upd H3 D1 (.lst (acc ++ [V.int (j : Int)]))) D1 = some (.lst (((rgI (j + 1)).filter ok).map V.int)) ∧ Same H2 (upd H3 D1 (.lst (acc ++ [V.int (j : Int)])))) := fun H3 s3 g => by
          refine ⟨_, s3 _ _ h4, by rw [List.length_map]; exact small1000 (by omega), ?_, fun q o hb => ?_⟩
          · rw [upd_same, ht, List.filter_append, List.map_append]
            rw [show [(j : Int)].filter ok = [(j : Int)] by simp [g]]
            rfl
          · rw [upd_ne (ne_of_none hb hD1)]
            exact s3 _ _ (s4 q o hb)
        have skip : ∀ H3, Same H4 H3 → ok (j : Int) = false → H3 D1 = some (.lst (((rgI (j + 1)).filter ok).map V.int)) ∧ Same H2 H3 := fun H3 s3 g => by
          refine ⟨?_, s4.trans s3⟩
          rw [ht, List.filter_append, show [(j : Int)].filter ok = [] by simp [g], List.append_nil]
          exact s3 _ _ h4
        have jr : (0 : Int) ≤ (j : Int) ∧ (j : Int) < 12 := ⟨by omega, by omega⟩
        refine ⟨_, rfl, (by show 0 ≤ sizeLine; decide), fun l1 hl1 => ?_⟩
        have s5 := same_new (o := .lst []) hl1
        have h25 := s5 _ _ h24
        have e5 : (upd H4 l1 (.lst [])) l1 = some (.lst []) := upd_same
        refine ⟨_, _, .lst (SqL.of h25) (dpAll_ints _ _), .lst (SqL.of e5) .nil, shapedAll_ints _, rfl, _, rfl, ?_⟩
        rw [eqv_nil]
        generalize upd H4 l1 (.lst []) = H5 at s5 h25 e5
        by_cases hn : fs = []
        · have okj : ok (j : Int) = true := by rw [← hw, hn]; unfold okE; simp
          rw [decide_eq_true hn]
          refine iteT (iteT ?_)
          refine ⟨_, rfl, _, rfl, _, _, rfl, rfl, _, _, rfl, rfl, _, rfl, ?_⟩
          refine ite2 (fun c => iteT ⟨_, rfl, fin _ s5 okj⟩) (fun c => ?_)
          refine ⟨_, rfl, (by show 0 ≤ sizeLine; decide), fun l2 hl2 => ?_⟩
          have s6 := same_new (o := .lst []) hl2
          refine ⟨_, _, .lst (SqL.of (s6 _ _ h25)) (dpAll_ints _ _), .lst (SqL.of upd_same) .nil, shapedAll_ints _, rfl, _, rfl, ?_⟩
          rw [eqv_nil, decide_eq_true hn]
          exact iteT (iteT ⟨_, rfl, fin _ (s5.trans s6) okj⟩)
        · rw [decide_eq_false hn]
          refine iteF ?_
          obtain ⟨b, hb, hat⟩ := atI_last hn
          have mb := lt b (List.mem_of_mem_getLast? hb)
          obtain ⟨a, ha, haa⟩ : ∃ a, fs.head? = some a ∧ atI (fs.map V.int) 0 = some (V.int a) := by
            cases fs with
            | nil => exact absurd rfl hn
            | cons a l => exact ⟨a, rfl, atI_nat (j := 0) rfl⟩
          have ma := lt a (List.mem_of_mem_head? ha)
          refine ⟨_, rfl, _, rfl, _, rfl, f, _, _, _, rfl, rfl, SqL.of h25, hat, ?_⟩
          refine ⟨_, _, rfl, rfl, rfl, _, rfl, ?_⟩
          have e1 : decide (V.int (j : Int) = V.int (Builtin.bitXor b 1)) = decide (b = Wd.mate (j : Int)) := by
            rw [xor_mate mb.1 (by omega), Bool.eq_iff_iff, decide_eq_true_iff, decide_eq_true_iff, V.int.injEq]
            constructor
            · intro z
              rw [z, mate_mate]
            · intro z
              rw [z, mate_mate]
          rw [e1]
          have okv : ok (j : Int) = (!decide (b = Wd.mate (j : Int)) && !(decide (i + 1 = n) && decide (a = Wd.mate (j : Int)))) := by
            rw [← hw]
            unfold okE
            rw [hb, ha]
            simp
          by_cases c1 : b = Wd.mate (j : Int)
          · rw [decide_eq_true c1] at okv ⊢
            refine iteF (skip _ s5 ?_)
            rw [okv]
            rfl
          · rw [decide_eq_false c1] at okv ⊢
            refine iteT ?_
            refine ⟨_, rfl, _, rfl, _, _, rfl, rfl, _, _, rfl, rfl, _, rfl, ?_⟩
            by_cases c2 : i + 1 = n
            · rw [decide_eq_true c2] at okv
              have cF : decide ((i : Int) < (n : Int) - 1) = false := decide_eq_false (by omega)
              rw [cF]
              refine iteF ?_
              refine ⟨_, rfl, (by show 0 ≤ sizeLine; decide), fun l2 hl2 => ?_⟩
              have s6 := same_new (o := .lst []) hl2
              have h26 := s6 _ _ h25
              refine ⟨_, _, .lst (SqL.of h26) (dpAll_ints _ _), .lst (SqL.of upd_same) .nil, shapedAll_ints _, rfl, _, rfl, ?_⟩
              rw [eqv_nil, decide_eq_false hn]
              refine iteF ?_
              refine ⟨_, rfl, _, rfl, f, _, _, _, rfl, rfl, SqL.of h26, haa, ?_⟩
              refine ⟨_, _, rfl, rfl, rfl, _, rfl, ?_⟩
              have e2 : decide (V.int (j : Int) = V.int (Builtin.bitXor a 1)) = decide (a = Wd.mate (j : Int)) := by
                rw [xor_mate ma.1 (by omega), Bool.eq_iff_iff, decide_eq_true_iff, decide_eq_true_iff, V.int.injEq]
                constructor
                · intro z
                  rw [z, mate_mate]
                · intro z
                  rw [z, mate_mate]
              rw [e2]
              by_cases c3 : a = Wd.mate (j : Int)
              · rw [decide_eq_true c3] at okv ⊢
                refine iteF (skip _ (s5.trans s6) ?_)
                rw [okv]
                rfl
              · rw [decide_eq_false c3] at okv ⊢
                refine iteT ⟨_, rfl, fin _ (s5.trans s6) ?_⟩
                rw [okv]
                rfl
            · rw [decide_eq_false c2] at okv
              have cT : decide ((i : Int) < (n : Int) - 1) = true := decide_eq_true (by omega)
              rw [cT]
              refine iteT ⟨_, rfl, fin _ s5 ?_⟩
              rw [okv]
              rfl
      rintro H4 ⟨h4, s4⟩
      have d4 := d2.same s4
      have k4 : Kp D H H4 := k2.trans (Kp.of s4)
      have h24 := s4 _ _ h2
      have oD1 : Off D D1 := d2.off hD1
      have hall : ∀ x, x ∈ (rgI e.toNat).filter ok ↔ (0 ≤ x ∧ x < e) ∧ ok x = true := fun x => by
        rw [List.mem_filter]
        unfold rgI
        rw [List.mem_map]
        constructor
        · rintro ⟨⟨y, hy, rfl⟩, g⟩
          have := List.mem_range.mp hy
          exact ⟨⟨by omega, by omega⟩, g⟩
        · rintro ⟨⟨x0, x1⟩, g⟩
          exact ⟨⟨x.toNat, List.mem_range.mpr (by omega), by omega⟩, g⟩
      have hlen : ((rgI e.toNat).filter ok).length ≤ 12 := by
        refine Nat.le_trans (List.length_filter_le _ _) ?_
        rw [rgI_len]
        omega
      have hex : (rgI e.toNat).filter ok ≠ [] := by
        obtain ⟨x, x0, x1, g⟩ := ok_ex e2 ev lt rd (decide (i + 1 = n))
        rw [hw] at g
        intro z
        have := (hall x).mpr ⟨⟨x0, x1⟩, g⟩
        rw [z] at this
        cases this
      generalize (rgI e.toNat).filter ok = os at h4 hall hlen hex
      dsimp only
      refine ⟨_, rfl, .inl ⟨rfl, _, SqL.of h24⟩, ?_⟩
      refine ⟨_, rfl, (by show 0 ≤ sizeLine; decide), fun l1 hl1 => ?_⟩
      have s5 := same_new (o := .lst []) hl1
      have h25 := s5 _ _ h24
      have h45 := s5 _ _ h4
      refine ⟨_, _, .lst (SqL.of h45) (dpAll_ints _ _), .lst (SqL.of upd_same) .nil, shapedAll_ints _, rfl, _, rfl, ?_⟩
      rw [eqv_nil, decide_eq_false hex]
      refine iteT ?_
      have d5 := d4.same s5
      have k5 : Kp D H (upd H4 l1 (.lst [])) := k4.trans (Kp.of s5)
      generalize upd H4 l1 (.lst []) = H5 at s5 h25 h45 d5 k5
      refine ⟨_, rfl, _, rfl, D, D1, _, rfl, .inl (SqL.of h45), oD1.2.1, by intro z; exact hex (List.map_eq_nil_iff.mp z), by rw [List.length_map]; omega, d5, fun m x H6 hx d6 k6 => ?_⟩
      obtain ⟨y, rfl, hy⟩ := ints_at hx
      obtain ⟨⟨y0, y1⟩, g⟩ := (hall y).mp (List.mem_of_getElem? hy)
      have h26 : H6 f = some (.lst (fs.map V.int)) := k6.at of h25
      refine ⟨f, _, _, rfl, rfl, h26, by rw [List.length_map]; exact small1000 (by omega), ?_⟩
      rw [← hw] at g
      unfold okE at g
      rw [Bool.and_eq_true] at g
      have rd2 : Wd.Rd (fs ++ [y]) := rd_snoc rd (of_decide_eq_true g.1)
      refine ⟨fs ++ [y], _, _, _, rfl, by rw [upd_same, List.map_append]; rfl, by rw [List.length_append, lf]; rfl, lt.app (fun x hx => by rw [List.mem_singleton.mp hx]; exact ⟨y0, y1⟩), rd2, fun en => cr_snoc rd2 fun z => ?_, d6.put of, kf _ _ (k5.trans k6)⟩
      have g2 := g.2
      rw [decide_eq_true en, z] at g2
      simp at g2
    · rintro σ H2 ⟨fs, v4, v5, v6, rfl, h2, lf, lt, rd, cr, d2, k2⟩
      have en : (n : Int).toNat = n := by omega
      rw [en] at lf cr
      dsimp only
      refine ⟨_, rfl, f, _, rfl, .inl ⟨SqL.of h2, fun q hq => ?_⟩⟩
      exact k fs q _ lf lt (cr rfl) (d2.new hq) (k2.trans (Kp.new hq)) upd_same
end
end Tt
set_option maxRecDepth 100000
set_option maxHeartbeats 4000000
namespace Tt
open PySem L2
open LamX (ExtN)
theorem closed_mem {ns : List Int} {x : Int} (h : x ∈ closedT ns) : x ∈ ns := by
  unfold closedT at h
  have h1 : x ∈ Wd.core ns := by
    by_cases hc : Wd.core ns = []
    · rw [hc, leastT_nil] at h
      cases h
    · obtain ⟨u, v, e1, e2⟩ := leastT_turn hc
      rw [e2] at h
      rw [e1]
      rcases List.mem_append.mp h with h | h
      · exact List.mem_append_right _ h
      · exact List.mem_append_left _ h
  have strip_mem : ∀ (n : Nat) (w : List Int), w.length ≤ n → ∀ y ∈ Wd.strip w, y ∈ w := by
    intro n
    induction n with
    | zero =>
      intro w hw y hy
      unfold Wd.strip at hy
      split at hy
      · omega
      · exact hy
    | succ n ih =>
      intro w hw y hy
      unfold Wd.strip at hy
      split at hy
      · have hl : ((w.drop 1).dropLast).length = w.length - 1 - 1 := by simp
        exact List.mem_of_mem_drop ((List.dropLast_sublist _).subset (ih _ (by omega) y hy))
      · exact hy
  exact Wd.mem_freed (strip_mem _ _ (Nat.le_refl _) x h1)
theorem rI_div {i j v : Int} {H : Hp} {Q : VK} (hv : i / j = v) (c : CDiv i j) (h : Q (.int v) H) : rI CDiv (fun i j => V.int (i / j)) (.int i) (.int j) H Q := ⟨i, j, rfl, rfl, c, by subst hv; exact h⟩
theorem rI0_add {i j v : Int} {H : Hp} {Q : VK} (hv : i + j = v) (h : Q (.int v) H) : rI0 (fun i j => V.int (i + j)) (.int i) (.int j) H Q := ⟨i, j, rfl, rfl, by subst hv; exact h⟩
theorem rI0_sub {i j v : Int} {H : Hp} {Q : VK} (hv : i - j = v) (h : Q (.int v) H) : rI0 (fun i j => V.int (i - j)) (.int i) (.int j) H Q := ⟨i, j, rfl, rfl, by subst hv; exact h⟩
theorem rI_mulV {i j v : Int} {C : Int → Int → Prop} {H : Hp} {Q : VK} (e : i * j = v) (c : C i j) (q : Q (.int v) H) : rI C (fun i j => .int (i * j)) (.int i) (.int j) H Q := ⟨i, j, rfl, rfl, c, by subst e; exact q⟩
theorem rd_one (x : Int) : Wd.Rd [x] := fun i a b ha hb => by
  cases i with
  | zero => cases hb
  | succ i => cases ha
section
variable {P : Program} {w : World} {K : PySem.W.Frag} {mg : Str → Option Value} {base : Heap}
theorem slK_to {xs : List V} {a : Addr} {H : Hp} {Q : VK} {n : Nat} (h : H a = some (.tup xs)) (q : ∀ b H', Same H H' → H' b = some (.tup (xs.take n)) → Q (.ref b) H') : rSlA K (.ref a) none (some (n : Int)) H Q :=
  slT_toB (SqT.of h) fun b H' s _ t => q b H' s (t h)
theorem catK {xs ys : List V} {a b : Addr} {H : Hp} {Q : VK} (ha : H a = some (.tup xs)) (hb : H b = some (.tup ys)) (hz : xs.length + ys.length ≤ sizeLine) (q : ∀ c H', Same H H' → H' c = some (.tup (xs ++ ys)) → Q (.ref c) H') : rCatA K (.ref a) (.ref b) H Q :=
  catA_B (SqT.of ha) (SqT.of hb) hz fun c H' s _ t => q c H' s (t ha hb)
theorem repK {xs : List V} {a : Addr} {k : Int} {H : Hp} {Q : VK} (h : H a = some (.tup xs)) (hne : xs ≠ []) (h1 : 1 ≤ k) (h2 : k ≤ 1000) (hz : xs.length ≤ 1000)
    (q : ∀ c H', Same H H' → H' c = some (.tup (List.replicate k.toNat xs).flatten) → Q (.ref c) H') : rRepA K (.ref a) (.int k) H Q :=
  ⟨a, k, xs, rfl, rfl, SqT.of h, hne, h1, h2, hz, fun e => q a H (fun _ _ z => z) (by subst e; simpa using h), fun _ p hp => q p _ (same_new hp) upd_same⟩
theorem repV (t : List Int) (n : Nat) : (List.replicate n (t.map V.int)).flatten = (Wd.pow t n).map V.int := by
  rw [← Wd.pow_rep, List.map_flatten, List.map_replicate]
def spAnyR54 (K : PySem.W.Frag) : Sp := fun vs H Q _ => ∃ (D : Dw) (e : Int) (m : Nat), vs = [.ref D.d, .int e, .int (m : Int)] ∧ 2 ≤ e ∧ e ≤ 12 ∧ e % 2 = 0 ∧ 1 ≤ m ∧ m ≤ 40 ∧ DrOk D H ∧
  ∀ (ns : List Int) q H', Rnd ns → ns.length ≤ 40 → Lt e ns → DrOk D H' → Kp D H H' → SqT K H' q (ns.map V.int) → Q (.ref q) H'
theorem ok_l_any_round (T : Txt K mg) : FnOk P w K mg base CX0 5 T.l_any_round.a T.l_any_round.fd ["draw", "ends", "most"] (spAnyR54 K) := by
  refine T.l_any_round.F.ok sc_l_any_round (fun vs H Q E h => ?_) (fun cdv A outer s H vs Q E hr h => ?_)
  · obtain ⟨D, e, m, rfl, _⟩ := h
    rfl
  · obtain ⟨D, e, m, rfl, e2, e12, ev, m1, m40, dr, k⟩ := h
    have nd := sc_l_any_round.nd
    refine ⟨_, (pss_cons (ps_par (i := 3) (j := 4) rfl nd rfl rfl (by decide) rfl rfl (pa_cons (pe_call (ok_l_take T) (hr.mono (by decide)) (by rfl) T.l_take.g T.l_take.k T.l_take.b .nil pass0 (pa_cons (pv 0) (pa_cons pe_int pa_nil))) (pa_cons (pe_op op_add pe_int (pe_call (ok_l_take T) (hr.mono (by decide)) (by rfl) T.l_take.g T.l_take.k T.l_take.b .nil pass0 (pa_cons (pv 0) (pa_cons (pv 2) pa_nil)))) pa_nil)) rfl)
    (pss_cons (ps_if (pt_cmpR op_eq (pv 3) pe_int (nomark _))
      (pss_one (ps_ret (pe_op op_repA (pe_tup (pa_cons (pe_call (ok_l_take T) (hr.mono (by decide)) (by rfl) T.l_take.g T.l_take.k T.l_take.b .nil pass0 (pa_cons (pv 0) (pa_cons (pv 1) pa_nil))) pa_nil)) (pv 4))))
      pss_nil)
    (pss_cons (ps_if (pt_cmpR op_eq (pv 3) pe_int (nomark _))
      (pss_cons (ps_set (i := 5) nd rfl (Or.inl rfl) (pe_call (ok_l_word T) (hr.mono (by decide)) (by rfl) T.l_word.g T.l_word.k T.l_word.b .nil pass0 (pa_cons (pv 0) (pa_cons (pv 1) (pa_cons (pe_op op_add pe_int (pe_call (ok_l_take T) (hr.mono (by decide)) (by rfl) T.l_take.g T.l_take.k T.l_take.b .nil pass0 (pa_cons (pv 0) (pa_cons (pe_callB (call_max2 rfl) (by rfl) T.zmax (by decide +kernel) (pa_cons pe_int (pa_cons (pe_op op_fdiv (pv 2) pe_int) pa_nil))) pa_nil)))) pa_nil)))))
      (pss_one (ps_ret (pe_call (ok_l_round T) (hr.mono (by decide)) (by rfl) T.l_round.g T.l_round.k T.l_round.b .nil pass0 (pa_cons (pe_op op_repA (pv 5) (pe_op op_add pe_int (pe_call (ok_l_take T) (hr.mono (by decide)) (by rfl) T.l_take.g T.l_take.k T.l_take.b .nil pass0 (pa_cons (pv 0) (pa_cons (pe_callB (call_max2 rfl) (by rfl) T.zmax (by decide +kernel) (pa_cons pe_int (pa_cons (pe_op op_fdiv (pv 2) (pe_callB call_len_seq (by rfl) T.zlen (by decide +kernel) (pa_cons (pv 5) pa_nil))) pa_nil))) pa_nil))))) pa_nil)))))
      pss_nil)
    (pss_one (ps_ret (pe_call (ok_l_round T) (hr.mono (by decide)) (by rfl) T.l_round.g T.l_round.k T.l_round.b .nil pass0 (pa_cons (pe_call (ok_l_word T) (hr.mono (by decide)) (by rfl) T.l_word.g T.l_word.k T.l_word.b .nil pass0 (pa_cons (pv 0) (pa_cons (pv 1) (pa_cons (pv 4) pa_nil)))) pa_nil))))))), ?_⟩
    refine sqn ⟨_, rfl, D, 6, rfl, by decide, by decide, dr, fun way H1 w0 w1 d1 k1 => ?_⟩
    refine tcn ⟨_, rfl, _, rfl, D, (m : Int), rfl, by omega, by omega, d1, fun t0 H2 h0 h1 d2 k2 => ?_⟩
    obtain ⟨t, rfl⟩ := Int.eq_ofNat_of_zero_le h0
    have hk2 := k1.trans k2
    refine rI0_add (v := ((1 + t : Nat) : Int)) (by omega) (nil_i ?_)
    generalize hM : 1 + t = M
    have M1 : 1 ≤ M := by omega
    have Mm : M ≤ m := by omega
    clear h0 h1 hM k1 k2
    refine ⟨_, _, rfl, ?_⟩
    have roundOf : ∀ (ns : List Int) (q2 : Addr) (H3 H4 : Hp), ns ≠ [] → Wd.CR ns → ns.length ≤ 40 → Lt e ns → DrOk D H3 → Kp D H H3 → Same H3 H4 → SqT K H4 q2 ((closedT ns).map V.int) → Q (.ref q2) H4 := fun ns q2 H3 H4 ne cr ln lt d3 k3 s4 h4 => by
      have nc : closedT ns ≠ [] := by
        rw [closed_cr cr]
        intro z
        exact ne ((turn_nil (leastT_turn ne)).mpr z)
      exact k (closedT ns) q2 H4 (rnd_closed nc) (Nat.le_trans (closedT_len ns) ln) (fun x hx => lt x (closed_mem hx)) (d3.same s4) (k3.trans (Kp.of s4)) h4
    have neOf : ∀ (ns : List Int) (n : Nat), 1 ≤ n → ns.length = n → ns ≠ [] := fun ns n h1 h2 z => by rw [z] at h2; simp at h2; omega
    have lt12 : ∀ ns : List Int, Lt e ns → ∀ x ∈ ns, 0 ≤ x ∧ x < 12 := fun ns lt x hx => by
      have := lt x hx
      omega
    dsimp only
    refine sqn ⟨_, rfl, rfl, _, rfl, ite2 (fun c => ?_) (fun c => ?_)⟩
    ·
      refine ⟨_, rfl, _, rfl, D, e, rfl, by omega, by omega, d2, fun x H3 x0 x1 d3 k3 => nil_i ?_⟩
      refine ⟨(by show 1 ≤ sizeLine; decide), fun c0 hc0 => ?_⟩
      have s4 := same_new (o := .tup [V.int x]) hc0
      have h4 : (upd H3 c0 (.tup [V.int x])) c0 = some (.tup ([x].map V.int)) := upd_same
      generalize upd H3 c0 (.tup [V.int x]) = H4 at s4 h4
      refine ⟨_, rfl, repK (K := K) h4 (by simp) (by omega) (by omega) (by simp) fun c1 H5 s5 h5 => ?_⟩
      rw [repV] at h5
      have e1 : ((M : Int)).toNat = M := by omega
      rw [e1] at h5
      have one : Wd.CR [x] := cr_of (rd_one x) fun z => by
        have := z.1
        simp at this
      have oneR : Rnd [x] := ⟨by simp, by rw [closed_cr one]; rfl⟩
      refine k (Wd.pow [x] M) c1 H5 (rnd_pow oneR M1) ?_ (fun y hy => ?_) ((d3.same s4).same s5) ((hk2.trans k3).trans (.of (s4.trans s5))) (SqT.of h5)
      · rw [Wd.pow_len]
        show M * 1 ≤ 40
        omega
      · rw [List.mem_singleton.mp (Wd.pow_mem hy)]
        exact ⟨x0, x1⟩
    dsimp only [tNext]
    refine sqn ⟨_, rfl, rfl, _, rfl, ite2 (fun c2 => ?_) (fun c2 => ?_)⟩
    · refine sqn ⟨_, rfl, _, rfl, _, rfl, _, rfl, ?_⟩
      refine ⟨(m : Int), 3, rfl, rfl, ⟨by decide, by decide⟩, ?_⟩
      have e3 : (m : Int) / 3 = ((m / 3 : Nat) : Int) := by omega
      refine ⟨1, ((m / 3 : Nat) : Int), by rw [← e3], ?_⟩
      refine ⟨D, _, rfl, by split <;> omega, by split <;> omega, d2, fun t0 H3 h0 h1 d3 k3 => ?_⟩
      have h2 : t0 < 1 ∨ t0 < m := by split at h1 <;> omega
      obtain ⟨t2, rfl⟩ := Int.eq_ofNat_of_zero_le h0
      refine rI0_add (v := ((1 + t2 : Nat) : Int)) (by omega) (nil_i ?_)
      refine ⟨D, e, 1 + t2, rfl, e2, e12, ev, by omega, d3, fun ps q5 H5 lp ltp cr d5 k5 h5 => ?_⟩
      have pne := neOf ps _ (by omega) lp
      have k25 := (hk2.trans k3).trans k5
      have lpb : ps.length ≤ m ∧ 1 ≤ ps.length := by omega
      clear k3 k5 d3
      dsimp only
      refine ⟨_, rfl, _, rfl, _, rfl, _, rfl, q5, _, rfl, .inr (SqT.of h5), ?_⟩
      refine rI_div (v := ((m / ps.length : Nat) : Int)) ?_ ⟨by rw [List.length_map]; omega, by rw [List.length_map]; omega⟩ (nil_i ?_)
      · rw [List.length_map]
        rfl
      refine ⟨_, _, rfl, ?_⟩
      have hdv : m / ps.length ≤ 40 := Nat.le_trans (Nat.div_le_self _ _) (by omega)
      refine nil_i ⟨D, _, rfl, by split <;> omega, by split <;> omega, d5, fun t3 H6 g0 g1 d6 k6 => ?_⟩
      have g2 : t3 < 1 ∨ t3 < ((m / ps.length : Nat) : Int) := by split at g1 <;> omega
      obtain ⟨t4, rfl⟩ := Int.eq_ofNat_of_zero_le g0
      refine rI0_add (v := ((1 + t4 : Nat) : Int)) (by omega) ?_
      have h6 := d5.tup k6 h5
      refine repK (K := K) h6 (fun z => pne (List.map_eq_nil_iff.mp z)) (by omega) (by omega) (by rw [List.length_map]; omega) fun c H7 s7 h7 => nil_i ?_
      rw [repV] at h7
      have e1 : (((1 + t4 : Nat) : Int)).toNat = 1 + t4 := by omega
      rw [e1] at h7
      have lw : (Wd.pow ps (1 + t4)).length ≤ 40 := by
        rw [Wd.pow_len]
        rcases g2 with g2 | g2
        · have : t4 = 0 := by omega
          subst this
          omega
        · have h3 : (1 + t4) * ps.length ≤ (m / ps.length) * ps.length := Nat.mul_le_mul_right _ (by omega)
          have := Nat.div_mul_le_self m ps.length
          omega
      have ltw : Lt e (Wd.pow ps (1 + t4)) := fun x hx => ltp x (Wd.pow_mem hx)
      refine ⟨c, _, rfl, SqT.of h7, by omega, lt12 _ ltw, fun q2 H8 s8 h8 => roundOf _ q2 H7 H8 (Wd.pow_ne pne (by omega)) ((Wd.cr_pow pne (by omega)).mpr cr) lw ltw (d6.same s7) ((k25.trans k6).trans (Kp.of s7)) s8 h8⟩
    · dsimp only [tNext]
      refine ⟨_, rfl, _, rfl, _, rfl, D, e, M, rfl, e2, e12, ev, by omega, d2, fun ps q5 H5 lp ltp cr d5 k5 h5 => nil_i ?_⟩
      refine ⟨q5, ps, rfl, SqT.of h5, by omega, lt12 _ ltp, fun q2 H8 s8 h8 => roundOf ps q2 H5 H8 (neOf ps _ M1 lp) cr (by omega) ltp d5 (hk2.trans k5) s8 h8⟩
end
end Tt
set_option maxRecDepth 100000
set_option maxHeartbeats 4000000
namespace Tt
open PySem L2
open LamX (ExtN)
section
variable {P : Program} {w : World} {K : PySem.W.Frag} {mg : Str → Option Value} {base : Heap}
def spSgs : Sp := fun vs H Q _ => vs = [] ∧ Q (.str sgS) H
theorem ok_l_signs (T : Txt K mg) : FnOk P w K mg base CX0 1 T.l_signs.a T.l_signs.fd [] spSgs := by
  refine T.l_signs.F.ok sc_l_signs (fun vs H Q E h => ?_) (fun cdv A outer s H vs Q E hr h => ?_)
  · obtain ⟨rfl, _⟩ := h
    rfl
  · obtain ⟨rfl, k⟩ := h
    refine ⟨_, (pss_one (ps_ret pe_str)), ?_⟩
    exact k
theorem sg_at {z : Int} (z0 : 0 ≤ z) (z1 : z < 12) : atI sgS.cps.toList z = some (code z) := by
  have h : ∀ k : Fin 12, atI sgS.cps.toList ((k.val : Nat) : Int) = some (code ((k.val : Nat) : Int)) := by decide
  obtain ⟨n, rfl⟩ := Int.eq_ofNat_of_zero_le z0
  exact h ⟨n, by omega⟩
theorem sg_len (ns : List Int) : ((ns.map sg1).map (·.length)).sum + (ns.map sg1).length * (Str.ofString "").length = ns.length := by
  have z : (Str.ofString "").length = 0 := by decide
  rw [z, Nat.mul_zero, Nat.add_zero, List.map_map]
  have : (ns.map ((fun x : Str => x.length) ∘ sg1)) = List.replicate ns.length 1 := by
    rw [List.eq_replicate_iff]
    refine ⟨List.length_map .., fun b hb => ?_⟩
    obtain ⟨x, _, rfl⟩ := List.mem_map.mp hb
    rfl
  rw [this, List.sum_replicate_nat]
  omega
theorem ok_l_spelled (T : Txt K mg) : FnOk P w K mg base CX0 2 T.l_spelled.a T.l_spelled.fd ["word_here"] (spSigns K) := by
  refine T.l_spelled.F.ok sc_l_spelled (fun vs H Q E h => ?_) (fun cdv A outer s H vs Q E hr h => ?_)
  · obtain ⟨t, ns, rfl, _⟩ := h
    rfl
  · obtain ⟨t, ns, rfl, ht, hn, lt, k⟩ := h
    have nd := sc_l_spelled.nd
    refine ⟨_, (pss_one (ps_ret (pe_join pe_str (pe_lc (own := [("letter", 1)]) (g := gName 1) rfl nd (pi_tup (pv 0)) (blkOk_by (own := [("letter", 1)]) (N := N_l_spelled) (sc := defScope s_l_spelled) (by decide +kernel)) (fun _ _ _ _ _ => pg_name (i := 1) nd rfl (Or.inl rfl)) (fun _ _ _ _ _ => pts_nil) (fun _ _ _ _ _ => (pe_ix ix_str (pe_call0 (ok_l_signs T) (hr.mono (by decide)) (by rfl) T.l_signs.g T.l_signs.k T.l_signs.b .nil pass0) (pv 1) (fun _ _ => rfl))))))), ?_⟩
    refine ⟨⟨_, rfl⟩, _, rfl, t, rfl, ⟨_, ht⟩, fun D hD => lc_tup (K := K) (a := t) (xs := ns.map V.int) (fun i H' => H' D = some (.lst (((ns.take i).map sg1).map V.str)) ∧ Same H H')
      ⟨upd_same, same_new hD⟩ (fun i H' _ z => same_seqT z.2 ht) ?_ ?_⟩
    · rintro i y H' hi ⟨h1, s1⟩
      obtain ⟨z, rfl, hz⟩ := ints_at hi
      obtain ⟨z0, z1⟩ := lt z (List.mem_of_getElem? hz)
      have hil : i < ns.length := (List.getElem?_eq_some_iff.mp hz).1
      refine ⟨rfl, yes_t ?_⟩
      refine ⟨rfl, ?_⟩
      refine ⟨_, rfl, sgS, z, code z, rfl, rfl, by decide, sg_at z0 z1, _, h1, ?_, ?_, fun b o hb => ?_⟩
      · rw [List.length_map, List.length_map, List.length_take]
        exact small1000 (by omega)
      · rw [upd_same, List.take_add_one, hz, List.map_append, List.map_append]
        rfl
      · rw [upd_ne (ne_of_none hb hD)]
        exact s1 b o hb
    · rintro H' ⟨h1, s1⟩
      rw [List.length_map, List.take_length] at h1
      refine ⟨_, D, ns.map sg1, rfl, rfl, .inl (SqL.of h1), ?_, ?_⟩
      · rw [sg_len]
        omega
      · rw [join_wr]
        exact k H' s1
end
end Tt
set_option maxRecDepth 100000
set_option maxHeartbeats 4000000
namespace Tt
open PySem L2
open LamX (ExtN)
theorem occ_sign {c : Nat} (h : c ∈ sgL) : ∃ rest, Builtin.Str.occurrences sgS ⟨#[c]⟩ 0 sgS.length 1 = sgL.idxOf c :: rest := by
  unfold sgL at h
  simp only [List.mem_cons, List.not_mem_nil, or_false] at h
  rcases h with rfl | rfl | rfl | rfl | rfl | rfl | rfl | rfl | rfl | rfl | rfl | rfl <;> exact ⟨[], by decide +kernel⟩
theorem mt_sgn {X : Cx} : MtR X "str.index" (fun x xs H Q => ∃ c : Nat, x = .str sgS ∧ xs = [.str ⟨#[c]⟩] ∧ c ∈ sgL ∧ Q (.int (sgL.idxOf c : Nat)) H) := by
  intro pins s σ H x xs v us Q I rx rs h
  obtain ⟨c, rfl, rfl, hc, q⟩ := h
  obtain ⟨t, rfl⟩ := rx
  obtain ⟨rest, ho⟩ := occ_sign hc
  obtain ⟨u1, rfl, ru⟩ := vals1 rs
  obtain ⟨t2, rfl⟩ := ru
  exact PySem.SC.index ho ⟨.int ((sgL.idxOf c : Nat) : Int), H, I.tok _, ⟨_, rfl⟩, q⟩
theorem cut_signs {e : Int} (e2 : 2 ≤ e) (e12 : e ≤ 12) : (cutS sgS none (some e)).cps.toList = sgL.take e.toNat := by
  have h : ∀ k : Fin 13, (cutS sgS none (some ((k.val : Nat) : Int))).cps.toList = sgL.take k.val := by decide +kernel
  obtain ⟨n, rfl⟩ := Int.eq_ofNat_of_zero_le (show 0 ≤ e by omega)
  exact h ⟨n, by omega⟩
theorem sgL_nodup : sgL.Nodup := by decide
theorem in_cut {e : Int} (e2 : 2 ≤ e) (e12 : e ≤ 12) (c : Nat) : decide (c ∈ (cutS sgS none (some e)).cps.toList) = match letOf c with | some l => decide (l < e) | none => false := by
  rw [cut_signs e2 e12]
  unfold letOf
  by_cases m : c ∈ sgL
  · rw [if_pos m]
    show _ = decide ((sgL.idxOf c : Int) < e)
    have hl : sgL.idxOf c < sgL.length := List.idxOf_lt_length_of_mem m
    have hg : sgL[sgL.idxOf c]? = some c := by rw [List.getElem?_eq_getElem hl, List.getElem_idxOf hl]
    rw [Bool.eq_iff_iff, decide_eq_true_iff, decide_eq_true_iff]
    constructor
    · intro h
      obtain ⟨i, hi⟩ := List.getElem?_of_mem h
      rw [List.getElem?_take] at hi
      split at hi
      · have : i = sgL.idxOf c := by
          have hi2 := (List.getElem?_eq_some_iff.mp hi)
          obtain ⟨hi3, hi4⟩ := hi2
          exact (List.getElem_inj (h₀ := hi3) (h₁ := hl) sgL_nodup).mp (by rw [hi4, List.getElem_idxOf hl])
        omega
      · cases hi
    · intro h
      refine List.mem_of_getElem? (i := sgL.idxOf c) ?_
      rw [List.getElem?_take, if_pos (by omega), hg]
  · rw [if_neg m]
    exact decide_eq_false fun h => m (List.mem_of_mem_take h)
def ltrs (cs : List Nat) : List Int := cs.map fun c => (letOf c).getD 0
theorem ltrs_snoc (cs : List Nat) {c : Nat} {l : Int} (h : letOf c = some l) : ltrs (cs ++ [c]) = ltrs cs ++ [l] := by
  unfold ltrs
  rw [List.map_append]
  simp [h]
theorem ltrs_len (cs : List Nat) : (ltrs cs).length = cs.length := List.length_map ..
theorem letV_at {z : Str} {i c : Nat} (h : z.cps[i]? = some c) : letV z i = letOf c := by
  unfold letV
  rw [h]
  rfl
theorem take_snoc {z : Str} {i c : Nat} (h : z.cps[i]? = some c) : z.cps.toList.take (i + 1) = z.cps.toList.take i ++ [c] := by
  rw [List.take_add_one]
  have : z.cps.toList[i]? = some c := by simpa using h
  rw [this]
  rfl
theorem idx_let {c : Nat} {l : Int} (h : letOf c = some l) : c ∈ sgL ∧ ((sgL.idxOf c : Nat) : Int) = l := by
  unfold letOf at h
  split at h
  · rename_i m
    exact ⟨m, Option.some.inj h⟩
  · cases h
section
variable {P : Program} {w : World} {K : PySem.W.Frag} {mg : Str → Option Value} {base : Heap}
inductive DueW (H : Hp) (W : List Int) (b : Bool) : V → Prop where
  | no (h : b = false) : DueW H W b (.int (W.length : Nat))
  | tup {q : Addr} (h : b = true) (hq : H q = some (.tup (W.map V.int))) : DueW H W b (.ref q)
def spLawWord (K : PySem.W.Frag) : Sp := fun vs H Q _ => ∃ (e : Int) (z : Str), vs = [.int e, .str z] ∧ 2 ≤ e ∧ e ≤ 12 ∧ z.length ≤ 1000 ∧
  ∀ v H', Same H H' → DueW H' (takeL e 200 false z.cps.toList []) (decide ((takeL e 200 false z.cps.toList []).length = z.length)) v → Q v H'
theorem ok_l_read_word (T : Txt K mg) : FnOk P w K mg base CX0 2 T.l_read_word.a T.l_read_word.fd ["ends", "text"] (spLawWord K) := by
  refine T.l_read_word.F.ok sc_l_read_word (fun vs H Q E h => ?_) (fun cdv A outer s H vs Q E hr h => ?_)
  · obtain ⟨e, z, rfl, _⟩ := h
    rfl
  · obtain ⟨e, z, rfl, e2, e12, hz, k⟩ := h
    have nd := sc_l_read_word.nd
    refine ⟨_, (pss_cons (ps_for PassesOwn.never rfl (pi_enumS (by rfl) T.zenumerate (pa_cons (pv 1) pa_nil)) (pg_tup rfl (pgs_cons (pg_name (i := 2) nd rfl (Or.inl rfl)) (pgs_cons (pg_name (i := 3) nd rfl (Or.inl rfl)) pgs_nil)))
      (pss_one (ps_if (PW.pt (pw_or (pt_cmpR op_eq (pv 2) pe_int (nomark _)) (pw_or1 (pt_cmpR op_notIn_sign (pv 3) (pe_slice sl_str (pe_call0 (ok_l_signs T) (hr.mono (by decide)) (by rfl) T.l_signs.g T.l_signs.k T.l_signs.b .nil pass0) po_none (po_some (pv 0))) rfl))))
        (pss_one (ps_ret (pv 2)))
        pss_nil)))
    (pss_one (ps_ret (pe_callTy call_tuple_of (by rfl) T.ztuple (by decide +kernel) (pa_cons (pe_lc (own := [("sign", 3)]) (g := gName 3) rfl nd (pi_str (pv 1)) (blkOk_by (own := [("sign", 3)]) (N := N_l_read_word) (sc := defScope s_l_read_word) (by decide +kernel)) (fun _ _ _ _ _ => pg_name (i := 3) nd rfl (Or.inl rfl)) (fun _ _ _ _ _ => pts_nil) (fun _ _ _ _ _ => (pe_m1 PySem.F.slot_str_index PySem.F.type_str_index mt_sgn (pe_call0 (ok_l_signs T) (hr.mono (by decide)) (by rfl) T.l_signs.g T.l_signs.k T.l_signs.b .nil pass0) (pv 3)))) pa_nil))))), ?_⟩
    generalize hW : takeL e 200 false z.cps.toList [] = W at k
    refine sqn ⟨_, rfl, z, rfl, ?_⟩
    refine for_it (walk_enumS (z := z)) (fun i σ H' => ∃ v2 v3 : Option V, σ = [some (.int e), some (.str z), v2, v3] ∧ Same H H' ∧ (∀ c ∈ z.cps.toList.take i, ∃ l, letOf c = some l ∧ l < e) ∧ takeL e 200 false (z.cps.toList.drop i) (ltrs (z.cps.toList.take i)) = W ∧ i ≤ 200)
      ⟨_, _, rfl, fun _ _ h => h, (fun c hc => by cases hc), hW, Nat.zero_le _⟩ (fun _ _ _ _ _ => trivial) ?_ ?_
    · rintro i y σ H1 H2 hi ⟨v2, v3, rfl, s1, al, tk, i200⟩ ⟨t, x1, x2, rfl, ht, rfl, ex1, ex2⟩
      cases ex1
      have ex2 : Option.map (fun c => V.str ⟨#[c]⟩) z.cps[i]? = some x2 := ex2
      cases hc : z.cps[i]? with
      | none => rw [hc] at ex2; cases ex2
      | some c =>
      rw [hc] at ex2
      cases ex2
      have s2 : Same H1 (upd H1 t (.tup [.int (i : Nat), .str ⟨#[c]⟩])) := same_new ht
      have iz : i < z.length := hi
      have lz : z.cps.toList.length = z.length := Array.length_toList
      have lt : (ltrs (z.cps.toList.take i)).length = i := by
        rw [ltrs_len, List.length_take]
        omega
      have hd := head_drop z i
      rw [letV_at hc] at hd
      refine ⟨t, _, rfl, SqT.of upd_same, rfl, _, _, rfl, _, _, rfl, rfl, ?_⟩
      have s12 := s1.trans s2
      generalize upd H1 t (.tup [.int (i : Nat), .str ⟨#[c]⟩]) = H2 at s12
      have stop : takeL e 200 false (z.cps.toList.drop i) (ltrs (z.cps.toList.take i)) = ltrs (z.cps.toList.take i) → Q (.int (i : Nat)) H2 := fun eq => by
        have e2 := eq.symm.trans tk
        have el : W.length = i := by rw [← e2, lt]
        have := k (.int ((W.length : Nat) : Int)) H2 s12 (.no (decide_eq_false (by omega)))
        rw [el] at this
        exact this
      refine ⟨_, rfl, rfl, _, rfl, ?_⟩
      by_cases c200 : i = 200
      · have eT : decide (V.int (i : Nat) = V.int 200) = true := decide_eq_true (by rw [c200]; rfl)
        rw [eT]
        refine iteT (iteT ⟨_, rfl, stop ?_⟩)
        cases el : letOf c with
        | none => exact takeL_none (by rw [hd, el])
        | some l => exact takeL_no (by rw [hd, el]) (by unfold goL; rw [lt, decide_eq_false (show ¬ i < 200 by omega)]; simp)
      have eF : decide (V.int (i : Nat) = V.int 200) = false := decide_eq_false fun z => c200 (by injection z with z; omega)
      rw [eF]
      refine iteF ?_
      refine ⟨_, rfl, rfl, noPart_i ⟨_, rfl, e, rfl, sgS, rfl, by decide, c, _, rfl, rfl, _, rfl, ?_⟩⟩
      rw [in_cut e2 e12]
      cases el : letOf c with
      | none =>
        refine iteT ⟨_, rfl, stop (takeL_none (by rw [hd, el]))⟩
      | some l =>
        show (if (!decide (l < e)) = true then _ else _)
        by_cases le : l < e
        · rw [decide_eq_true le]
          have g : goL e 200 false (ltrs (z.cps.toList.take i)) l = true := by
            unfold goL
            rw [lt, decide_eq_true le, decide_eq_true (show i < 200 by omega)]
            rfl
          refine iteF ⟨_, _, rfl, s12, ?_, ?_, by omega⟩
          · intro c' hc'
            rw [take_snoc hc] at hc'
            rcases List.mem_append.mp hc' with hc' | hc'
            · exact al c' hc'
            · rw [List.mem_singleton.mp hc']
              exact ⟨l, el, le⟩
          · rw [take_snoc hc, ltrs_snoc _ el, ← takeL_go (by rw [letV_at hc, el]) g]
            exact tk
        · rw [decide_eq_false le]
          refine iteT ⟨_, rfl, stop (takeL_no (by rw [hd, el]) (by unfold goL; rw [decide_eq_false le]; rfl))⟩
    · rintro σ H1 ⟨v2, v3, rfl, s1, al, tk, i200⟩
      have eW : ltrs z.cps.toList = W := by
        have hn : z.cps.toList.drop z.cps.size = [] := List.drop_of_length_le (by rw [Array.length_toList]; exact Nat.le_refl _)
        have ht : z.cps.toList.take z.cps.size = z.cps.toList := List.take_of_length_le (by rw [Array.length_toList]; exact Nat.le_refl _)
        rw [hn, ht] at tk
        exact tk
      have eL : W.length = z.length := by
        rw [← eW, ltrs_len, Array.length_toList]
        rfl
      have al2 : ∀ (i c : Nat), z.cps[i]? = some c → c ∈ sgL ∧ ((sgL.idxOf c : Nat) : Int) = (letOf c).getD 0 := fun i c hc => by
        obtain ⟨l, h1, _⟩ := al c (by
          rw [List.take_of_length_le (by rw [Array.length_toList]; exact Nat.le_refl _)]
          exact List.mem_of_getElem? (i := i) (by simpa using hc))
        rw [h1]
        exact idx_let h1
      clear tk al
      refine ⟨_, rfl, z, rfl, fun D hD => lc_it (walk_str (z := z)) (fun i H' => H' D = some (.lst ((ltrs (z.cps.toList.take i)).map V.int)) ∧ Same H1 H')
        ⟨upd_same, same_new hD⟩ (fun _ _ _ _ => trivial) ?_ ?_⟩
      · rintro i y H2 H3 hi ⟨h2, s2⟩ ⟨rfl, c, hc, rfl⟩
        obtain ⟨m, eq⟩ := al2 i c hc
        have iz : i < z.length := hi
        refine ⟨rfl, yes_t ?_⟩
        refine ⟨rfl, ⟨sgS, rfl⟩, _, rfl, c, rfl, rfl, m, _, h2, ?_, ?_, fun b o hb => ?_⟩
        · rw [List.length_map, ltrs_len, List.length_take]
          exact small1000 (by omega)
        · rw [upd_same, take_snoc hc, eq]
          unfold ltrs
          rw [List.map_append, List.map_append]
          rfl
        · rw [upd_ne (ne_of_none hb hD)]
          exact s2 b o hb
      · rintro H2 ⟨h2, s2⟩
        rw [List.take_of_length_le (by rw [Array.length_toList]; exact Nat.le_refl _), eW] at h2
        refine ⟨D, _, rfl, .inl ⟨SqL.of h2, fun q hq => ?_⟩⟩
        exact k (.ref q) _ ((s1.trans s2).trans (same_new hq)) (.tup (decide_eq_true eL) upd_same)
end
end Tt
set_option maxRecDepth 100000
set_option maxHeartbeats 4000000
namespace Tt
open PySem L2
open LamX (ExtN)
section
variable {P : Program} {w : World} {K : PySem.W.Frag} {mg : Str → Option Value} {base : Heap}
def spLawRound (K : PySem.W.Frag) : Sp := fun vs H Q _ => ∃ (e : Int) (z : Str), vs = [.int e, .str z] ∧ 2 ≤ e ∧ e ≤ 12 ∧ z.length ≤ 1000 ∧
  ∀ v H', Same H H' → DueW H' (takeL e 40 true z.cps.toList []) (isRd (takeL e 40 true z.cps.toList []) && decide ((takeL e 40 true z.cps.toList []).length = z.length)) v → Q v H'
theorem ok_l_read_round (T : Txt K mg) : FnOk P w K mg base CX0 4 T.l_read_round.a T.l_read_round.fd ["ends", "text"] (spLawRound K) := by
  refine T.l_read_round.F.ok sc_l_read_round (fun vs H Q E h => ?_) (fun cdv A outer s H vs Q E hr h => ?_)
  · obtain ⟨e, z, rfl, _⟩ := h
    rfl
  · obtain ⟨e, z, rfl, e2, e12, hz, k⟩ := h
    have nd := sc_l_read_round.nd
    refine ⟨_, (pss_cons (ps_set (i := 2) nd rfl (Or.inl rfl) (pe_lst pa_nil))
    (pss_cons (ps_for PassesOwn.never rfl (pi_enumS (by rfl) T.zenumerate (pa_cons (pv 1) pa_nil)) (pg_tup rfl (pgs_cons (pg_name (i := 3) nd rfl (Or.inl rfl)) (pgs_cons (pg_name (i := 4) nd rfl (Or.inl rfl)) pgs_nil)))
      (pss_cons (ps_if (PW.pt (pw_or (pt_cmpR op_eq (pv 3) pe_int (nomark _)) (pw_or (pt_cmpR op_notIn_sign (pv 4) (pe_slice sl_str (pe_call0 (ok_l_signs T) (hr.mono (by decide)) (by rfl) T.l_signs.g T.l_signs.k T.l_signs.b .nil pass0) po_none (po_some (pv 0))) rfl) (pw_or1 (PW.pt (pw_and (pt_cmpR (op_neD hr.units) (pv 2) (pe_lst pa_nil) (nomark _)) (pw_and1 (pt_cmpR op_eq (pe_ix ix_list (pv 2) (pe_un un_neg pe_int) (fun _ _ => rfl)) (pe_op op_xor (pe_m1 PySem.F.slot_str_index PySem.F.type_str_index mt_sgn (pe_call0 (ok_l_signs T) (hr.mono (by decide)) (by rfl) T.l_signs.g T.l_signs.k T.l_signs.b .nil pass0) (pv 4)) pe_int) (nomark _)))))))))
        (pss_one (ps_ret (pv 3)))
        pss_nil)
      (pss_one (ps_expr (pe_bm PySem.F.plainAttrs_list PySem.F.slot_list_append PySem.F.type_list_append mt_append (pv 2) (pa_cons (pe_m1 PySem.F.slot_str_index PySem.F.type_str_index mt_sgn (pe_call0 (ok_l_signs T) (hr.mono (by decide)) (by rfl) T.l_signs.g T.l_signs.k T.l_signs.b .nil pass0) (pv 4)) pa_nil))))))
    (pss_one (ps_ret (pe_ifExp (PW.pt (pw_and (pt_cmpR (op_neD hr.units) (pv 2) (pe_lst pa_nil) (nomark _)) (pw_and1 (pt_cmpR (op_eqD hr.units) (pe_call (ok_l_round T) (hr.mono (by decide)) (by rfl) T.l_round.g T.l_round.k T.l_round.b .nil pass0 (pa_cons (pe_callTy call_tuple_of (by rfl) T.ztuple (by decide +kernel) (pa_cons (pv 2) pa_nil)) pa_nil)) (pe_callTy call_tuple_of (by rfl) T.ztuple (by decide +kernel) (pa_cons (pv 2) pa_nil)) (nomark _))))) (pe_callTy call_tuple_of (by rfl) T.ztuple (by decide +kernel) (pa_cons (pv 2) pa_nil)) (pe_callB call_len (by rfl) T.zlen (by decide +kernel) (pa_cons (pv 1) pa_nil))))))), ?_⟩
    generalize hW : takeL e 40 true z.cps.toList [] = W at k
    have lW : Lt e W := hW ▸ takeL_lt _ [] fun x hx => by cases hx
    have nW : W.length ≤ 40 := hW ▸ takeL_most _ [] (Nat.zero_le _)
    refine sqn ⟨(by show 0 ≤ sizeLine; decide), fun f hf => ?_⟩
    have s0 : Same H (upd H f (.lst [])) := same_new hf
    dsimp only
    refine sqn ⟨_, rfl, z, rfl, ?_⟩
    refine for_it (walk_enumS (z := z)) (fun i σ H' => ∃ v3 v4 : Option V, σ = [some (.int e), some (.str z), some (.ref f), v3, v4] ∧ Same H H' ∧ H' f = some (.lst ((ltrs (z.cps.toList.take i)).map V.int)) ∧ Lt e (ltrs (z.cps.toList.take i)) ∧ takeL e 40 true (z.cps.toList.drop i) (ltrs (z.cps.toList.take i)) = W ∧ i ≤ 40)
      ⟨_, _, rfl, s0, upd_same, (fun c hc => by cases hc), hW, Nat.zero_le _⟩ (fun _ _ _ _ _ => trivial) ?_ ?_
    · rintro i y σ H1 H2 hi ⟨v3, v4, rfl, s1, h1, al, tk, i40⟩ ⟨t, x1, x2, rfl, ht, rfl, ex1, ex2⟩
      cases ex1
      have ex2 : Option.map (fun c => V.str ⟨#[c]⟩) z.cps[i]? = some x2 := ex2
      cases hc : z.cps[i]? with
      | none => rw [hc] at ex2; cases ex2
      | some c =>
      rw [hc] at ex2
      cases ex2
      have s2 : Same H1 (upd H1 t (.tup [.int (i : Nat), .str ⟨#[c]⟩])) := same_new ht
      have iz : i < z.length := hi
      have lz : z.cps.toList.length = z.length := Array.length_toList
      have lt : (ltrs (z.cps.toList.take i)).length = i := by
        rw [ltrs_len, List.length_take]
        omega
      have hd := head_drop z i
      rw [letV_at hc] at hd
      refine ⟨t, _, rfl, SqT.of upd_same, rfl, _, _, rfl, _, _, rfl, rfl, ?_⟩
      have s12 := s1.trans s2
      have h2 := s2 _ _ h1
      generalize upd H1 t (.tup [.int (i : Nat), .str ⟨#[c]⟩]) = H2 at s12 h2
      have stop : ∀ H3, Same H2 H3 → takeL e 40 true (z.cps.toList.drop i) (ltrs (z.cps.toList.take i)) = ltrs (z.cps.toList.take i) → Q (.int (i : Nat)) H3 := fun H3 s3 eq => by
        have e2 := eq.symm.trans tk
        have el : W.length = i := by rw [← e2, lt]
        have := k (.int ((W.length : Nat) : Int)) H3 (s12.trans s3) (.no (by rw [decide_eq_false (show ¬ W.length = z.length by omega), Bool.and_false]))
        rw [el] at this
        exact this
      dsimp only
      refine sq_r (fun σ' H3 => ∃ l, σ' = [some (.int e), some (.str z), some (.ref f), some (.int (i : Nat)), some (.str ⟨#[c]⟩)] ∧ Same H2 H3 ∧ letOf c = some l ∧ goL e 40 true (ltrs (z.cps.toList.take i)) l = true) (fun go => ?_) ?_
      · refine ⟨_, rfl, rfl, _, rfl, ?_⟩
        by_cases c40 : i = 40
        · have eT : decide (V.int (i : Nat) = V.int 40) = true := decide_eq_true (by rw [c40]; rfl)
          rw [eT]
          refine iteT (iteT ⟨_, rfl, stop _ (fun _ _ h => h) ?_⟩)
          cases el : letOf c with
          | none => exact takeL_none (by rw [hd, el])
          | some l => exact takeL_no (by rw [hd, el]) (by unfold goL; rw [lt, decide_eq_false (show ¬ i < 40 by omega)]; simp)
        have eF : decide (V.int (i : Nat) = V.int 40) = false := decide_eq_false fun z => c40 (by injection z with z; omega)
        rw [eF]
        refine iteF ?_
        refine ⟨_, rfl, rfl, noPart_i ⟨_, rfl, e, rfl, sgS, rfl, by decide, c, _, rfl, rfl, _, rfl, ?_⟩⟩
        have eI := in_cut e2 e12 c
        cases el : letOf c with
        | none =>
          rw [el] at eI
          have eG : decide (c ∈ (cutS sgS none (some e)).cps.toList) = false := eI
          rw [eG]
          refine iteT (iteT ⟨_, rfl, stop _ (fun _ _ h => h) (takeL_none (by rw [hd, el]))⟩)
        | some l =>
          have ll := letOf_lt el
          rw [el] at eI
          by_cases le : l < e
          · have eG : decide (c ∈ (cutS sgS none (some e)).cps.toList) = true := eI.trans (decide_eq_true le)
            rw [eG]
            refine iteF ?_
            refine ⟨_, rfl, (by show 0 ≤ sizeLine; decide), fun l1 hl1 => ?_⟩
            have s5 := same_new (o := .lst []) hl1
            have h25 := s5 _ _ h2
            refine ⟨_, _, .lst (SqL.of h25) (dpAll_ints _ _), .lst (SqL.of upd_same) .nil, shapedAll_ints _, rfl, _, rfl, ?_⟩
            rw [eqv_nil]
            generalize upd H2 l1 (.lst []) = H5 at s5 h25
            have gN : ∀ b, decide ((ltrs (z.cps.toList.take i)).getLast? = some (Wd.mate l)) = b → goL e 40 true (ltrs (z.cps.toList.take i)) l = !b := fun b hb => by
              unfold goL
              rw [lt, decide_eq_true le, decide_eq_true (show i < 40 by omega), hb]
              rfl
            by_cases hn : ltrs (z.cps.toList.take i) = []
            · rw [decide_eq_true hn]
              refine iteF (iteF (go _ _ ⟨l, rfl, s5, el, ?_⟩))
              rw [gN false (by rw [hn]; rfl)]
              rfl
            · rw [decide_eq_false hn]
              refine iteT ?_
              obtain ⟨b, hb, hat⟩ := atI_last hn
              obtain ⟨mi, eq⟩ := idx_let el
              refine ⟨_, rfl, _, rfl, f, _, _, _, rfl, rfl, SqL.of h25, hat, ?_⟩
              refine ⟨rfl, ⟨sgS, rfl⟩, _, rfl, c, rfl, rfl, mi, ?_⟩
              rw [eq]
              refine ⟨_, _, rfl, rfl, rfl, _, rfl, ?_⟩
              have ex : decide (V.int b = V.int (Builtin.bitXor l 1)) = decide ((ltrs (z.cps.toList.take i)).getLast? = some (Wd.mate l)) := by
                rw [xor_mate ll.1 ll.2.1, hb]
                simp
              rw [ex]
              by_cases cm : (ltrs (z.cps.toList.take i)).getLast? = some (Wd.mate l)
              · rw [decide_eq_true cm]
                refine iteT ⟨_, rfl, stop _ s5 (takeL_no (by rw [hd, el]) ?_)⟩
                rw [gN true (decide_eq_true cm)]
                rfl
              · rw [decide_eq_false cm]
                refine iteF (go _ _ ⟨l, rfl, s5, el, ?_⟩)
                rw [gN false (decide_eq_false cm)]
                rfl
          · have eG : decide (c ∈ (cutS sgS none (some e)).cps.toList) = false := eI.trans (decide_eq_false le)
            rw [eG]
            refine iteT (iteT ⟨_, rfl, stop _ (fun _ _ h => h) (takeL_no (by rw [hd, el]) (by unfold goL; rw [decide_eq_false le]; rfl))⟩)
      · rintro σ' H3 ⟨l, rfl, s3, el, g⟩
        obtain ⟨mi, eq⟩ := idx_let el
        have h3 := s3 _ _ h2
        refine ⟨_, rfl, .inl ⟨rfl, _, SqL.of h3⟩, ?_⟩
        refine ⟨rfl, ⟨sgS, rfl⟩, _, rfl, c, rfl, rfl, mi, ?_⟩
        rw [eq]
        have g' := g
        unfold goL at g'
        rw [Bool.and_eq_true, Bool.and_eq_true] at g'
        have gl := of_decide_eq_true g'.1.1
        have gi := of_decide_eq_true g'.1.2
        rw [lt] at gi
        have ll := letOf_lt el
        refine ⟨f, _, _, rfl, rfl, h3, by rw [List.length_map]; exact small1000 (by omega), _, _, rfl, fun b o hb => ?_, ?_, ?_, ?_, by omega⟩
        · rw [upd_ne (ne_of_none hb hf)]
          exact s3 _ _ (s12 b o hb)
        · rw [upd_same, take_snoc hc, ltrs_snoc _ el, List.map_append]
          rfl
        · rw [take_snoc hc, ltrs_snoc _ el]
          exact al.app fun x hx => by rw [List.mem_singleton.mp hx]; exact ⟨ll.1, gl⟩
        · rw [take_snoc hc, ltrs_snoc _ el, ← takeL_go (by rw [letV_at hc, el]) g]
          exact tk
    · rintro σ H1 ⟨v3, v4, rfl, s1, h1, al, tk, i40⟩
      have hn : z.cps.toList.drop z.cps.size = [] := List.drop_of_length_le (by rw [Array.length_toList]; exact Nat.le_refl _)
      have ht : z.cps.toList.take z.cps.size = z.cps.toList := List.take_of_length_le (by rw [Array.length_toList]; exact Nat.le_refl _)
      have eL : (ltrs z.cps.toList).length = z.length := by
        rw [ltrs_len, Array.length_toList]
        rfl
      rw [hn, ht] at tk
      rw [ht] at h1
      have tk : ltrs z.cps.toList = W := tk
      rw [tk] at h1 eL
      dsimp only
      refine ⟨_, rfl, (by show 0 ≤ sizeLine; decide), fun l1 hl1 => ?_⟩
      have s5 := same_new (o := .lst []) hl1
      have h5 := s5 _ _ h1
      refine ⟨_, _, .lst (SqL.of h5) (dpAll_ints _ _), .lst (SqL.of upd_same) .nil, shapedAll_ints _, rfl, _, rfl, ?_⟩
      rw [eqv_nil]
      generalize upd H1 l1 (.lst []) = H5 at s5 h5
      have s15 := s1.trans s5
      have no : isRd W = false → ∀ H6, Same H H6 → Q (.int (z.length : Nat)) H6 := fun hr H6 s6 => by
        have := k (.int ((W.length : Nat) : Int)) H6 s6 (.no (by rw [hr]; rfl))
        rw [eL] at this
        exact this
      by_cases hW0 : W = []
      · rw [decide_eq_true hW0]
        have big : (5000 : Nat) ≤ sizeLine := by decide
        refine iteF (iteF ⟨_, rfl, _, z.length, rfl, ⟨by omega, rfl⟩, ?_⟩)
        exact no (by unfold isRd; exact decide_eq_false fun q => q.1 hW0) _ s15
      · rw [decide_eq_false hW0]
        refine iteT ?_
        refine ⟨_, rfl, f, _, rfl, .inl ⟨SqL.of h5, fun t1 ht1 => ?_⟩⟩
        have s6 := same_new (o := .tup (W.map V.int)) ht1
        refine ⟨t1, W, rfl, SqT.of upd_same, by omega, (fun x hx => by have := lW x hx; omega), fun q2 H7 s7 hq2 => ?_⟩
        have h7 := s7 _ _ (s6 _ _ h5)
        refine ⟨_, rfl, f, _, rfl, .inl ⟨SqL.of h7, fun t3 ht3 => ?_⟩⟩
        have s8 := same_new (o := .tup (W.map V.int)) ht3
        have e8 := same_seqT s8 hq2
        refine ⟨_, _, .tup e8 (dpAll_ints _ _), .tup (SqT.of upd_same) (dpAll_ints _ _), shapedAll_ints _, shapedAll_ints _, ?_⟩
        have ev : PyData.eqv (.tuple ((closedT W).map PyData.int)) (.tuple (W.map PyData.int)) = isRd W := by
          rw [show PyData.eqv (.tuple ((closedT W).map PyData.int)) (.tuple (W.map PyData.int)) = decide (closedT W = W) from eqv_ints (closedT W) W]
          unfold isRd
          simp [hW0]
        rw [ev]
        have s18 := s15.trans (s6.trans (s7.trans s8))
        refine ⟨_, rfl, ?_⟩
        cases hr : isRd W with
        | false =>
          have big : (5000 : Nat) ≤ sizeLine := by decide
          exact iteF ⟨_, rfl, _, z.length, rfl, ⟨by omega, rfl⟩, no hr _ s18⟩
        | true =>
          refine iteT ⟨_, rfl, f, _, rfl, .inl ⟨SqL.of (s8 _ _ h7), fun q hq => ?_⟩⟩
          exact k (.ref q) _ (s18.trans (same_new hq)) (.tup (by rw [hr, decide_eq_true eL]; rfl) upd_same)
end
end Tt
set_option maxRecDepth 100000
set_option maxHeartbeats 4000000
namespace Tt
open PySem L2
open LamX (ExtN)
theorem let_inj {c c' : Nat} {l : Int} (h : letOf c = some l) (h' : letOf c' = some l) : c = c' := (letOf_lt h).2.2.symm.trans (letOf_lt h').2.2
theorem let_zero {c : Nat} {l : Int} (h : letOf c = some l) : l = 0 ↔ c = 97 := by
  have hz : letOf 97 = some 0 := by decide
  constructor
  · rintro rfl
    exact let_inj h hz
  · rintro rfl
    rw [hz] at h
    exact (Option.some.inj h).symm
theorem cutS_to {z : Str} {i : Nat} (h : i ≤ z.length) : (cutS z none (some (i : Int))).cps.toList = z.cps.toList.take i := by
  have e1 : HT.sIx z.length 0 none = 0 := rfl
  have e2 : HT.sIx z.length z.length (some (i : Int)) = i := by rw [HT.sIx_nat]; omega
  unfold cutS
  rw [e1, e2]
  simp
theorem cut_to_len (z : Str) (i : Nat) : (cutS z none (some (i : Int))).length = min i z.length := by
  have e1 : HT.sIx z.length 0 none = 0 := rfl
  have e2 : HT.sIx z.length z.length (some (i : Int)) = min i z.length := by rw [HT.sIx_nat]
  have hz : z.cps.size = z.length := rfl
  show (cutS z none (some (i : Int))).cps.size = _
  unfold cutS
  rw [e1, e2]
  simp [hz]
theorem cut_from_len (z : Str) (j : Nat) : (cutS z (some (j : Int)) none).length = z.length - j := by
  have e1 : HT.sIx z.length 0 (some (j : Int)) = min j z.length := by rw [HT.sIx_nat]
  have e2 : HT.sIx z.length z.length none = z.length := rfl
  have hz : z.cps.size = z.length := rfl
  show (cutS z (some (j : Int)) none).cps.size = _
  unfold cutS
  rw [e1, e2]
  simp [hz]
  omega
theorem app_len (a b : Str) : (a ++ b).length = a.length + b.length := by
  show (a.cps ++ b.cps).size = a.cps.size + b.cps.size
  simp
section
variable {P : Program} {w : World} {K : PySem.W.Frag} {mg : Str → Option Value} {base : Heap}
open Classical in
def spLawSkin (K : PySem.W.Frag) : Sp := fun vs H Q _ => ∃ (z : Str), vs = [.str z] ∧ z.length ≤ 1000 ∧
  ∀ v H', Same H H' → DueW H' (takeS z.cps.toList []) (decide (IsRow (takeS z.cps.toList []) ∧ (takeS z.cps.toList []).length = z.length)) v → Q v H'
open Classical in
theorem ok_l_read_skin (T : Txt K mg) : FnOk P w K mg base CX0 2 T.l_read_skin.a T.l_read_skin.fd ["text"] (spLawSkin K) := by
  refine T.l_read_skin.F.ok sc_l_read_skin (fun vs H Q E h => ?_) (fun cdv A outer s H vs Q E hr h => ?_)
  · obtain ⟨z, rfl, _⟩ := h
    rfl
  · obtain ⟨z, rfl, hz, k⟩ := h
    have nd := sc_l_read_skin.nd
    refine ⟨_, (pss_cons (ps_for PassesOwn.never rfl (pi_enumS (by rfl) T.zenumerate (pa_cons (pv 0) pa_nil)) (pg_tup rfl (pgs_cons (pg_name (i := 1) nd rfl (Or.inl rfl)) (pgs_cons (pg_name (i := 2) nd rfl (Or.inl rfl)) pgs_nil)))
      (pss_one (ps_if (PW.pt (pw_or (pt_cmpR op_notIn_sign (pv 2) (pe_call0 (ok_l_signs T) (hr.mono (by decide)) (by rfl) T.l_signs.g T.l_signs.k T.l_signs.b .nil pass0) rfl) (pw_or (pt_cmpR op_in_sign (pv 2) (pe_slice sl_str (pv 0) po_none (po_some (pv 1))) rfl) (pw_or1 (PW.pt (pw_and (pt_cmpR op_eq (pv 1) pe_int (nomark _)) (pw_and1 (pt_cmpR op_ne (pv 2) pe_str (nomark _)))))))))
        (pss_one (ps_ret (pv 1)))
        pss_nil)))
    (pss_cons (ps_set (i := 3) nd rfl (Or.inl rfl) (pe_callTy call_tuple_of (by rfl) T.ztuple (by decide +kernel) (pa_cons (pe_lc (own := [("sign", 2)]) (g := gName 2) rfl nd (pi_str (pv 0)) (blkOk_by (own := [("sign", 2)]) (N := N_l_read_skin) (sc := defScope s_l_read_skin) (by decide +kernel)) (fun _ _ _ _ _ => pg_name (i := 2) nd rfl (Or.inl rfl)) (fun _ _ _ _ _ => pts_nil) (fun _ _ _ _ _ => (pe_m1 PySem.F.slot_str_index PySem.F.type_str_index mt_sgn (pe_call0 (ok_l_signs T) (hr.mono (by decide)) (by rfl) T.l_signs.g T.l_signs.k T.l_signs.b .nil pass0) (pv 2)))) pa_nil)))
    (pss_one (ps_ret (pe_ifExp (PW.pt (pw_and (pt_cmpR (op_neD hr.units) (pv 3) (pe_tup pa_nil) (nomark _)) (pw_and (pt_cmpR (op_eqD hr.units) (pe_callB cr_sortedS2 (by rfl) T.zsorted (by decide +kernel) (pa_cons (pv 3) pa_nil)) (pe_listRg rfl (by rfl) T.zlist (prg_1 (by rfl) T.zrange (pe_callB call_len_seq (by rfl) T.zlen (by decide +kernel) (pa_cons (pv 3) pa_nil)))) (nomark _)) (pw_and1 (pt_cmpR op_eq (pe_op op_mod (pe_callB call_len_seq (by rfl) T.zlen (by decide +kernel) (pa_cons (pv 3) pa_nil)) pe_int) pe_int (nomark _)))))) (pv 3) (pe_callB call_len (by rfl) T.zlen (by decide +kernel) (pa_cons (pv 0) pa_nil))))))), ?_⟩
    generalize hW : takeS z.cps.toList [] = W at k
    have dW : Dst W := hW ▸ takeS_dst _ [] ⟨List.nodup_nil, fun x hx => by cases hx⟩
    have lz : z.cps.toList.length = z.length := Array.length_toList
    refine sqn ⟨_, rfl, z, rfl, ?_⟩
    refine for_it (walk_enumS (z := z)) (fun i σ H' => ∃ v1 v2 : Option V, σ = [some (.str z), v1, v2, none] ∧ Same H H' ∧ (∀ c ∈ z.cps.toList.take i, ∃ l, letOf c = some l) ∧ takeS (z.cps.toList.drop i) (ltrs (z.cps.toList.take i)) = W)
      ⟨_, _, rfl, fun _ _ h => h, (fun c hc => by cases hc), hW⟩ (fun _ _ _ _ _ => trivial) ?_ ?_
    · rintro i y σ H1 H2 hi ⟨v1, v2, rfl, s1, al, tk⟩ ⟨t, x1, x2, rfl, ht, rfl, ex1, ex2⟩
      cases ex1
      have ex2 : Option.map (fun c => V.str ⟨#[c]⟩) z.cps[i]? = some x2 := ex2
      cases hc : z.cps[i]? with
      | none => rw [hc] at ex2; cases ex2
      | some c =>
      rw [hc] at ex2
      cases ex2
      have s2 : Same H1 (upd H1 t (.tup [.int (i : Nat), .str ⟨#[c]⟩])) := same_new ht
      have iz : i < z.length := hi
      have lt : (ltrs (z.cps.toList.take i)).length = i := by
        rw [ltrs_len, List.length_take]
        omega
      have hd := head_drop z i
      rw [letV_at hc] at hd
      refine ⟨t, _, rfl, SqT.of upd_same, rfl, _, _, rfl, _, _, rfl, rfl, ?_⟩
      have s12 := s1.trans s2
      generalize upd H1 t (.tup [.int (i : Nat), .str ⟨#[c]⟩]) = H2 at s12
      have stop : takeS (z.cps.toList.drop i) (ltrs (z.cps.toList.take i)) = ltrs (z.cps.toList.take i) → Q (.int (i : Nat)) H2 := fun eq => by
        have e2 := eq.symm.trans tk
        have el : W.length = i := by rw [← e2, lt]
        have := k (.int ((W.length : Nat) : Int)) H2 s12 (.no (decide_eq_false fun q => by have := q.2; omega))
        rw [el] at this
        exact this
      refine ⟨_, rfl, rfl, c, sgS, rfl, rfl, _, rfl, ?_⟩
      rw [in_signs]
      cases el : letOf c with
      | none =>
        have nm : c ∉ sgL := fun m => by
          unfold letOf at el
          rw [if_pos m] at el
          cases el
        rw [decide_eq_false nm]
        exact iteT (iteT ⟨_, rfl, stop (takeS_none (by rw [hd, el]))⟩)
      | some l =>
        have ll := letOf_lt el
        rw [decide_eq_true (idx_let el).1]
        refine iteF ?_
        refine ⟨_, rfl, _, rfl, noPart_i ⟨_, rfl, (i : Int), rfl, z, rfl, ?_, c, _, rfl, rfl, _, rfl, ?_⟩⟩
        · have big : (5000 : Nat) ≤ sizeLine := by decide
          omega
        rw [cutS_to (by omega)]
        have em : c ∈ z.cps.toList.take i ↔ l ∈ ltrs (z.cps.toList.take i) := by
          unfold ltrs
          constructor
          · intro h
            exact List.mem_map.mpr ⟨c, h, by rw [el]; rfl⟩
          · intro h
            obtain ⟨c', h1, h2⟩ := List.mem_map.mp h
            obtain ⟨l', h3⟩ := al c' h1
            rw [h3] at h2
            have : l' = l := h2
            subst this
            rw [let_inj el h3]
            exact h1
        by_cases m : c ∈ z.cps.toList.take i
        · rw [decide_eq_true m]
          refine iteT (iteT ⟨_, rfl, stop (takeS_no (by rw [hd, el]) ?_)⟩)
          unfold goS
          rw [decide_eq_false (show ¬ l ∉ ltrs (z.cps.toList.take i) from fun q => q (em.mp m))]
          rfl
        · rw [decide_eq_false m]
          refine iteF ?_
          have next : goS (ltrs (z.cps.toList.take i)) l = true → ∃ v1 v2 : Option V, [some (.str z), some (.int (i : Nat)), some (.str ⟨#[c]⟩), none] = [some (.str z), v1, v2, none] ∧ Same H H2 ∧ (∀ c ∈ z.cps.toList.take (i + 1), ∃ l, letOf c = some l) ∧ takeS (z.cps.toList.drop (i + 1)) (ltrs (z.cps.toList.take (i + 1))) = W := fun g => by
            refine ⟨_, _, rfl, s12, fun c' hc' => ?_, ?_⟩
            · rw [take_snoc hc] at hc'
              rcases List.mem_append.mp hc' with hc' | hc'
              · exact al c' hc'
              · rw [List.mem_singleton.mp hc']
                exact ⟨l, el⟩
            · rw [take_snoc hc, ltrs_snoc _ el, ← takeS_go (by rw [letV_at hc, el]) g]
              exact tk
          have nl : l ∉ ltrs (z.cps.toList.take i) := fun q => m (em.mpr q)
          refine ⟨_, rfl, rfl, _, rfl, ?_⟩
          by_cases i0 : i = 0
          · have eT : decide (V.int (i : Nat) = V.int 0) = true := decide_eq_true (by rw [i0]; rfl)
            rw [eT]
            refine iteT ?_
            refine ⟨_, rfl, rfl, _, rfl, ?_⟩
            have ez : decide (V.str ⟨#[c]⟩ = V.str (Str.ofString "a")) = decide (l = 0) := by
              rw [Bool.eq_iff_iff, decide_eq_true_iff, decide_eq_true_iff, let_zero el]
              constructor
              · intro z
                have z2 : (⟨#[c]⟩ : Str) = ⟨#[97]⟩ := by injection z
                simpa using z2
              · rintro rfl
                rfl
            have ea : ltrs (z.cps.toList.take i) = [] := by rw [i0]; rfl
            by_cases l0 : l = 0
            · rw [ez, decide_eq_true l0]
              refine iteF (next ?_)
              unfold goS
              rw [decide_eq_true nl, decide_eq_true l0]
              simp
            · rw [ez, decide_eq_false l0]
              refine iteT ⟨_, rfl, stop (takeS_no (by rw [hd, el]) ?_)⟩
              unfold goS
              rw [decide_eq_false l0, ea]
              simp
          · have eF : decide (V.int (i : Nat) = V.int 0) = false := decide_eq_false fun z => i0 (by injection z with z; omega)
            rw [eF]
            refine iteF (iteF (next ?_))
            unfold goS
            have ne : ltrs (z.cps.toList.take i) ≠ [] := fun q => by rw [q] at lt; simp at lt; omega
            rw [decide_eq_true nl, decide_eq_true ne]
            rfl
    · rintro σ H1 ⟨v1, v2, rfl, s1, al, tk⟩
      have hn : z.cps.toList.drop z.cps.size = [] := List.drop_of_length_le (by rw [Array.length_toList]; exact Nat.le_refl _)
      have ht : z.cps.toList.take z.cps.size = z.cps.toList := List.take_of_length_le (by rw [Array.length_toList]; exact Nat.le_refl _)
      rw [hn, ht] at tk
      have eW : ltrs z.cps.toList = W := tk
      have eL : W.length = z.length := by
        rw [← eW, ltrs_len, Array.length_toList]
        rfl
      have al2 : ∀ (i c : Nat), z.cps[i]? = some c → c ∈ sgL ∧ ((sgL.idxOf c : Nat) : Int) = (letOf c).getD 0 := fun i c hc => by
        obtain ⟨l, h1⟩ := al c (by
          rw [ht]
          exact List.mem_of_getElem? (i := i) (by simpa using hc))
        rw [h1]
        exact idx_let h1
      clear tk al
      dsimp only
      refine sqn ⟨_, rfl, z, rfl, fun D hD => lc_it (walk_str (z := z)) (fun i H' => H' D = some (.lst ((ltrs (z.cps.toList.take i)).map V.int)) ∧ Same H1 H')
        ⟨upd_same, same_new hD⟩ (fun _ _ _ _ => trivial) ?_ ?_⟩
      · rintro i y H2 H3 hi ⟨h2, s2⟩ ⟨rfl, c, hc, rfl⟩
        obtain ⟨m, eq⟩ := al2 i c hc
        have iz : i < z.length := hi
        refine ⟨rfl, yes_t ?_⟩
        refine ⟨rfl, ⟨sgS, rfl⟩, _, rfl, c, rfl, rfl, m, _, h2, ?_, ?_, fun b o hb => ?_⟩
        · rw [List.length_map, ltrs_len, List.length_take]
          exact small1000 (by omega)
        · rw [upd_same, take_snoc hc, eq]
          unfold ltrs
          rw [List.map_append, List.map_append]
          rfl
        · rw [upd_ne (ne_of_none hb hD)]
          exact s2 b o hb
      · rintro H2 ⟨h2, s2⟩
        rw [ht, eW] at h2
        refine ⟨D, _, rfl, .inl ⟨SqL.of h2, fun q hq => ?_⟩⟩
        have s3 := same_new (o := .tup (W.map V.int)) hq
        have h3 : (upd H2 q (.tup (W.map V.int))) q = some (.tup (W.map V.int)) := upd_same
        have s13 := s1.trans (s2.trans s3)
        generalize upd H2 q (.tup (W.map V.int)) = H3 at s13 h3
        have no : ¬ IsRow W → ∀ H6, Same H H6 → Q (.int (z.length : Nat)) H6 := fun hr H6 s6 => by
          have := k (.int ((W.length : Nat) : Int)) H6 s6 (.no (decide_eq_false fun q => hr q.1))
          rw [eL] at this
          exact this
        have big : (5000 : Nat) ≤ sizeLine := by decide
        have dl := dW.len
        dsimp only
        refine ⟨_, rfl, (by show 0 ≤ sizeLine; decide), fun l1 hl1 => ?_⟩
        have s4 := same_new (o := .tup []) hl1
        have h4 := s4 _ _ h3
        refine ⟨_, _, .tup (SqT.of h4) (dpAll_ints _ W), .tup (SqT.of upd_same) .nil, shapedAll_ints _, rfl, _, rfl, ?_⟩
        rw [show PyData.eqv (.tuple (W.map PyData.int)) (.tuple []) = decide (W = []) from eqv_nil W]
        generalize upd H3 l1 (.tup []) = H4 at s4 h4
        have s14 := s13.trans s4
        by_cases hW0 : W = []
        · rw [decide_eq_true hW0]
          refine iteF (iteF ⟨_, rfl, _, z.length, rfl, ⟨by omega, rfl⟩, ?_⟩)
          refine no ?_ _ s14
          rintro ⟨n, n1, n6, pm⟩
          have := perm_len pm
          rw [hW0] at this
          simp at this
          omega
        · rw [decide_eq_false hW0]
          refine iteT ?_
          refine ⟨_, rfl, .inr ⟨q, W, rfl, SqT.of h4, fun ns' p2 pm2 pw hp2 => ?_⟩⟩
          have s5 := same_new (o := .lst (ns'.map V.int)) hp2
          have h5 := s5 _ _ h4
          refine ⟨_, rfl, q, _, rfl, .inr (SqT.of h5), _, rfl, RgOk.of_le (by omega) (by rw [List.length_map]; omega) (by omega) (by omega), fun r hr => ?_⟩
          have e1 : (upd (upd H4 p2 (.lst (ns'.map V.int))) r (.lst (rgV 0 ((W.map V.int).length : Int)))) r = some (.lst ((rgI W.length).map V.int)) := by
            rw [upd_same, rgV_rgI (by omega), List.length_map, Int.toNat_natCast]
          have s6 := same_new (o := .lst (rgV 0 ((W.map V.int).length : Int))) hr
          have e2 := upk (u := .lst (rgV 0 ((W.map V.int).length : Int))) hr (show (upd H4 p2 (.lst (ns'.map V.int))) p2 = some (.lst (ns'.map V.int)) from upd_same)
          refine ⟨_, _, .lst (SqL.of e2) (dpAll_ints _ ns'), .lst (SqL.of e1) (dpAll_ints _ _), shapedAll_ints _, shapedAll_ints _, _, rfl, ?_⟩
          rw [eqv_ints]
          have h6 := s6 _ _ h5
          have s16 := s14.trans (s5.trans s6)
          generalize upd (upd H4 p2 (.lst (ns'.map V.int))) r (.lst (rgV 0 ((W.map V.int).length : Int))) = H6 at h6 s16
          by_cases c : ns' = rgI W.length
          · rw [decide_eq_true c]
            refine iteT ?_
            refine ⟨_, rfl, q, _, rfl, .inr (SqT.of h6), _, _, rfl, rfl, (show (0 : Int) < 2 by decide), rfl, _, rfl, ?_⟩
            have ev : decide (V.int (((W.map V.int).length : Int) % 2) = V.int 0) = decide (W.length % 2 = 0) := by
              rw [List.length_map, Bool.eq_iff_iff, decide_eq_true_iff, decide_eq_true_iff, V.int.injEq]
              omega
            by_cases c2 : W.length % 2 = 0
            · have eT := ev.trans (decide_eq_true c2)
              refine (show (if decide (V.int (((W.map V.int).length : Int) % 2) = V.int 0) = true then _ else _) from ?_)
              rw [eT]
              have hrow : IsRow W := ⟨W.length / 2, by have : W.length ≠ 0 := fun z => hW0 (List.length_eq_zero_iff.mp z); omega, by omega, by
                rw [show 2 * (W.length / 2) = W.length by omega, ← c]
                exact pm2.symm⟩
              refine iteT ⟨_, rfl, k (.ref q) _ s16 (.tup (decide_eq_true ⟨hrow, eL⟩) h6)⟩
            · have eF := ev.trans (decide_eq_false c2)
              refine (show (if decide (V.int (((W.map V.int).length : Int) % 2) = V.int 0) = true then _ else _) from ?_)
              rw [eF]
              refine iteF ⟨_, rfl, _, z.length, rfl, ⟨by omega, rfl⟩, ?_⟩
              refine no ?_ _ s16
              rintro ⟨n, n1, n6, pm⟩
              have := perm_len pm
              omega
          · rw [decide_eq_false c]
            refine iteF (iteF ⟨_, rfl, _, z.length, rfl, ⟨by omega, rfl⟩, ?_⟩)
            refine no ?_ _ s16
            rintro ⟨n, n1, n6, pm⟩
            apply c
            rw [perm_len pm]
            exact perm_sorted pm2 pw pm
def spBent (K : PySem.W.Frag) : Sp := fun vs H Q _ => ∃ (D : Dw) (z : Str), vs = [.ref D.d, .str z] ∧ z.length ≤ 1000 ∧ DrOk D H ∧
  ∀ (z' : Str) H', z'.length ≤ z.length + 1 → DrOk D H' → Kp D H H' → Q (.str z') H'
theorem ok_l_bent (T : Txt K mg) : FnOk P w K mg base CX0 4 T.l_bent.a T.l_bent.fd ["draw", "text"] (spBent K) := by
  refine T.l_bent.F.ok sc_l_bent (fun vs H Q E h => ?_) (fun cdv A outer s H vs Q E hr h => ?_)
  · obtain ⟨D, z, rfl, _⟩ := h
    rfl
  · obtain ⟨D, z, rfl, hz, dr, k⟩ := h
    have nd := sc_l_bent.nd
    refine ⟨_, (pss_cons (ps_par (i := 2) (j := 3) rfl nd rfl rfl (by decide) rfl rfl (pa_cons (pe_call (ok_l_take T) (hr.mono (by decide)) (by rfl) T.l_take.g T.l_take.k T.l_take.b .nil pass0 (pa_cons (pv 0) (pa_cons (pe_op op_add (pe_callB call_len (by rfl) T.zlen (by decide +kernel) (pa_cons (pv 1) pa_nil)) pe_int) pa_nil))) (pa_cons (pe_call (ok_l_take T) (hr.mono (by decide)) (by rfl) T.l_take.g T.l_take.k T.l_take.b .nil pass0 (pa_cons (pv 0) (pa_cons pe_int pa_nil))) pa_nil)) rfl)
    (pss_cons (ps_set (i := 4) nd rfl (Or.inl rfl) (pe_call (ok_l_pick T) (hr.mono (by decide)) (by rfl) T.l_pick.g T.l_pick.k T.l_pick.b .nil pass0 (pa_cons (pv 0) (pa_cons (pe_op op_cat (pe_callTy (cr_listS rfl) (by rfl) T.zlist (by decide +kernel) (pa_cons pe_str pa_nil)) (pe_lst (pa_cons pe_str (pa_cons pe_str (pa_cons pe_str (pa_cons pe_str (pa_cons pe_str (pa_cons pe_str pa_nil)))))))) pa_nil))))
    (pss_cons (ps_if (pt_cmpR op_eq (pv 3) pe_int (nomark _))
      (pss_one (ps_ret (pe_op op_add_str (pe_slice sl_str (pv 1) po_none (po_some (pv 2))) (pe_slice sl_str (pv 1) (po_some (pe_op op_add (pv 2) pe_int)) po_none))))
      pss_nil)
    (pss_one (ps_ret (pe_op op_add_str (pe_op op_add_str (pe_slice sl_str (pv 1) po_none (po_some (pv 2))) (pv 4)) (pe_slice sl_str (pv 1) (po_some (pe_op op_add (pv 2) (pe_ifExp (pt_cmpR op_lt (pv 3) pe_int (nomark _)) pe_int pe_int))) po_none))))))), ?_⟩
    have big : (5000 : Nat) ≤ sizeLine := by decide
    refine sqn ⟨_, rfl, _, rfl, _, z.length, rfl, ⟨by omega, rfl⟩, ?_⟩
    refine ⟨_, _, rfl, rfl, D, _, rfl, by omega, by omega, dr, fun at0 H1 a0 a1 d1 k1 => ?_⟩
    refine ⟨_, rfl, D, 4, rfl, by decide, by decide, d1, fun way H2 w0 w1 d2 k2 => ?_⟩
    obtain ⟨i, rfl⟩ := Int.eq_ofNat_of_zero_le a0
    refine ⟨_, _, rfl, ?_⟩
    dsimp only
    refine sqn ⟨_, rfl, ?_⟩
    refine ⟨_, rfl, by decide, fun p1 hp1 => ?_⟩
    have n1 := same_new (o := .lst ((Str.ofString "aAbBcCdDeEfF").cps.toList.map fun c => V.str ⟨#[c]⟩)) hp1
    refine ⟨(by show 6 ≤ sizeLine; decide), fun p2 hp2 => ?_⟩
    have n2 := same_new (o := .lst [V.str (Str.ofString "g"), V.str (Str.ofString " "), V.str (Str.ofString "1"), V.str (Str.ofString "G"), V.str (Str.ofString "-"), V.str (Str.ofString "z")]) hp2
    refine ⟨p1, p2, _, _, rfl, rfl, n2 _ _ upd_same, upd_same, by decide, fun p3 hp3 => ?_⟩
    have d3 := ((d2.new (o := .lst ((Str.ofString "aAbBcCdDeEfF").cps.toList.map fun c => V.str ⟨#[c]⟩)) hp1).new (o := .lst [V.str (Str.ofString "g"), V.str (Str.ofString " "), V.str (Str.ofString "1"), V.str (Str.ofString "G"), V.str (Str.ofString "-"), V.str (Str.ofString "z")]) hp2)
    have off : p3 ≠ D.l := (d3.off hp3).2.1
    have n3 := same_new (o := .lst ((Str.ofString "aAbBcCdDeEfF").cps.toList.map (fun c => V.str ⟨#[c]⟩) ++ [V.str (Str.ofString "g"), V.str (Str.ofString " "), V.str (Str.ofString "1"), V.str (Str.ofString "G"), V.str (Str.ofString "-"), V.str (Str.ofString "z")])) hp3
    have d4 := d3.new (o := .lst ((Str.ofString "aAbBcCdDeEfF").cps.toList.map (fun c => V.str ⟨#[c]⟩) ++ [V.str (Str.ofString "g"), V.str (Str.ofString " "), V.str (Str.ofString "1"), V.str (Str.ofString "G"), V.str (Str.ofString "-"), V.str (Str.ofString "z")])) hp3
    have k4 := (k1.trans k2).trans (Kp.of (n1.trans (n2.trans n3)))
    refine ⟨D, p3, _, rfl, .inl (SqL.of upd_same), off, by simp, by decide, d4, fun m x H5 hx d5 k5 => ?_⟩
    have hone : ∀ v ∈ ((Str.ofString "aAbBcCdDeEfF").cps.toList.map (fun c => V.str ⟨#[c]⟩) ++ [V.str (Str.ofString "g"), V.str (Str.ofString " "), V.str (Str.ofString "1"), V.str (Str.ofString "G"), V.str (Str.ofString "-"), V.str (Str.ofString "z")]), ∃ y : Str, v = .str y ∧ y.length = 1 := by
      intro v hv
      rcases List.mem_append.mp hv with hv | hv
      · obtain ⟨c, _, rfl⟩ := List.mem_map.mp hv
        exact ⟨_, rfl, rfl⟩
      · simp only [List.mem_cons, List.not_mem_nil, or_false] at hv
        rcases hv with rfl | rfl | rfl | rfl | rfl | rfl <;> exact ⟨_, rfl, by decide⟩
    obtain ⟨y, rfl, hy⟩ := hone x (List.mem_of_getElem? hx)
    have k45 := k4.trans k5
    clear n1 n2 n3 d3 d4 k4 k5 off hone hx
    dsimp only
    refine sqn ⟨_, rfl, rfl, _, rfl, ite2 (fun c => ?_) (fun c => ?_)⟩
    · refine ⟨_, rfl, noPart_i ⟨_, rfl, (i : Int), rfl, z, rfl, by omega, ?_⟩⟩
      refine ⟨_, rfl, _, rfl, _, _, rfl, rfl, (i : Int) + 1, rfl, noPart_i ⟨z, rfl, by omega, ?_⟩⟩
      have e1 := cut_to_len z i
      have e2 : (cutS z (some ((i : Int) + 1)) none).length = z.length - (i + 1) := cut_from_len z (i + 1)
      refine ⟨_, _, rfl, rfl, by omega, ?_⟩
      exact k _ _ (by rw [app_len]; omega) d5 k45
    · dsimp only [tNext]
      refine ⟨_, rfl, noPart_i ⟨_, rfl, (i : Int), rfl, z, rfl, by omega, ?_⟩⟩
      refine ⟨_, rfl, _, _, rfl, rfl, by have := cut_to_len z i; omega, ?_⟩
      refine ⟨_, rfl, _, rfl, ?_⟩
      refine ⟨_, rfl, _, _, rfl, rfl, _, rfl, ite2 (fun c3 => ?_) (fun c3 => ?_)⟩
      · refine ⟨_, _, rfl, rfl, (i : Int) + 1, rfl, noPart_i ⟨z, rfl, by omega, ?_⟩⟩
        have e1 := cut_to_len z i
        have e2 : (cutS z (some ((i : Int) + 1)) none).length = z.length - (i + 1) := cut_from_len z (i + 1)
        have e3 := app_len (cutS z none (some (i : Int))) y
        refine ⟨_, _, rfl, rfl, by omega, ?_⟩
        exact k _ _ (by rw [app_len, app_len]; omega) d5 k45
      · refine ⟨_, _, rfl, rfl, (i : Int) + 0, rfl, noPart_i ⟨z, rfl, by omega, ?_⟩⟩
        rw [Int.add_zero]
        have e1 := cut_to_len z i
        have e2 : (cutS z (some ((i : Int))) none).length = z.length - i := cut_from_len z i
        have e3 := app_len (cutS z none (some (i : Int))) y
        refine ⟨_, _, rfl, rfl, by omega, ?_⟩
        exact k _ _ (by rw [app_len, app_len]; omega) d5 k45
end
end Tt
set_option maxRecDepth 100000
set_option maxHeartbeats 4000000
namespace L2
open PySem PySem.Spec PyProof.Rows
def dic01 : List (Key × V) := [(Sum.inl 0, .int 1), (Sum.inl 1, .int 0)]
def dicD : PyData := .dict [(.int 0, .int 1), (.int 1, .int 0)]
inductive Shw (K : PySem.W.Frag) (H : Hp) : V → Str → Prop where
  | non : Shw K H .non "None"
  | int {i : Int} (h : i.natAbs.log2 < 1920) : Shw K H (.int i) (Str.ofString (toString i))
  | str {x : Str} (h : (reprText x).length ≤ sizeLine) : Shw K H (.str x) (reprText x)
  | ref {a : Addr} {d : PyData} (h : Dp K H (.ref a) d) (h1 : d.showable = true) (h2 : d.hasDict = false) (h3 : d.depth ≤ 60) (h4 : d.shown.length ≤ sizeLine) : Shw K H (.ref a) d.shown
  | dic {a : Addr} (h : H a = some (.dK dic01)) : Shw K H (.ref a) dicD.shown
def rShowV (K : PySem.W.Frag) : List V → Hp → VK → Prop := fun xs H Q => ∃ x t, xs = [x] ∧ Shw K H x t ∧ Q (.str t) H
section
variable {X : Cx}
theorem call_showV (hg : X.A.guards = some []) (hu : X.A.units + 64 < cLine) : CallR X (.builtin "repr") (rShowV X.K) := by
  intro pins s σ H xs us Q I r h
  obtain ⟨x, t, rfl, hs, q⟩ := h
  obtain ⟨u, rfl, rx⟩ := vals1 r
  cases hs with
  | non =>
    cases (show u = Value.none from rx)
    exact PySem.P.repr_of_none ⟨.str "None", H, I.tok _, ⟨_, rfl⟩, q⟩
  | @int i h =>
    obtain ⟨t, e⟩ := (show ∃ t, u = Value.int i t from rx)
    subst e
    exact PySem.P.repr_of_int h ⟨.str (Str.ofString (toString i)), H, I.tok _, ⟨_, rfl⟩, q⟩
  | @str x h =>
    obtain ⟨t, e⟩ := (show ∃ t, u = Value.str x t from rx)
    subst e
    exact PySem.P.repr_of_str ⟨.str (reprText x), H, I.tok _, ⟨_, rfl⟩, q⟩ h
  | @ref a d h h1 h2 h3 h4 =>
    cases (show u = Value.ref a from rx)
    obtain ⟨as, rd⟩ := Dp.reads I d (.ref a) (.ref a) h rfl
    exact repr_of_reads' rd h1 (fun z => absurd (h2.symm.trans z) (by decide)) hg (by omega) (fun b o e => e) (fun h' u tk k => ⟨.str d.shown, H, I.kept (t' := tk) k, ⟨u, rfl⟩, q⟩) h4
  | @dic a h =>
    cases (show u = Value.ref a from rx)
    obtain ⟨hz, hsys, vs, kv, o, es, ep, e, ex, hd, ks, ps, nd⟩ := (show ObjOk X.prog X.w H s.heap a (.dK dic01) from I.hok a _ h)
    obtain ⟨as, rd, hno⟩ : ∃ as, Reads s.heap (.ref a) dicD as ∧ sysModules ∉ as := by
      unfold dic01 at kv
      cases kv with
      | @cons p q1 l k1 r1 kv =>
        cases kv with
        | @cons p2 q2 l2 k2 r2 kv =>
          cases kv
          obtain ⟨qa, qb⟩ := q1
          obtain ⟨qc, qd⟩ := q2
          obtain ⟨z1, z2⟩ := r1
          obtain ⟨z3, z4⟩ := r2
          cases z1
          cases z3
          obtain ⟨t1, z2⟩ := (show ∃ t, qb = Value.int 1 t from z2)
          obtain ⟨t2, z4⟩ := (show ∃ t, qd = Value.int 0 t from z4)
          subst z2
          subst z4
          generalize hl : es.toList = el at ps
          cases ps with
          | @cons e1 kv1 es1 kvs1 i1 v1 ps =>
            cases ps with
            | @cons e2 kv2 es2 kvs2 i2 v2 ps =>
              cases ps
              have hk1 : ∃ t, e1.key = Value.int 0 t := by
                rcases keyIs_shape (show keyIs (Sum.inl 0) e1.key = true from i1) with ⟨i, t, a1, a2⟩ | ⟨y, t, a1, a2⟩
                · cases a1
                  exact ⟨t, a2⟩
                · cases a1
              have hk2 : ∃ t, e2.key = Value.int 1 t := by
                rcases keyIs_shape (show keyIs (Sum.inl 1) e2.key = true from i2) with ⟨i, t, a1, a2⟩ | ⟨y, t, a1, a2⟩
                · cases a1
                  exact ⟨t, a2⟩
                · cases a1
              obtain ⟨t3, k3⟩ := hk1
              obtain ⟨t4, k4⟩ := hk2
              refine ⟨_, Reads.dict (as := [] ++ ([] ++ [])) (bs := [] ++ ([] ++ [])) e ex.1 hd ?_ ?_, ?_⟩
              · rw [hl]
                show ReadsAll s.heap [e1.key, e2.key] [.int 0, .int 1] _
                rw [k3, k4]
                exact .cons (.int 0 t3) (.cons (.int 1 t4) .nil)
              · rw [hl]
                show ReadsAll s.heap [e1.val, e2.val] [.int 1, .int 0] _
                rw [v1, v2]
                exact .cons (.int 1 t1) (.cons (.int 0 t2) .nil)
              · intro z
                simp at z
                rw [← z] at hsys
                simp at hsys
    exact repr_of_reads' rd (by decide +kernel) (fun _ => hno) hg (by have : dicD.depth ≤ 10 := (by decide +kernel); omega) (fun b o e => e) (fun h' u tk k => ⟨.str dicD.shown, H, I.kept (t' := tk) k, ⟨u, rfl⟩, q⟩) (by decide +kernel)
end
end L2
set_option maxRecDepth 100000
set_option maxHeartbeats 4000000
namespace LamX
open PySem PySem.Spec PyProof.Rows L2
section
variable {cs : Pins} {H G : Hp} {b : Addr} {u : HO}
theorem with_keep (un : ∀ b o, cs b = some o → H b = none) (e : H b = some u) : withP cs H b = some u := by
  rw [withP_no (cs_none un e)]
  exact e
theorem extN_with (un : ∀ b o, cs b = some o → H b = none) : ∀ b u, H b = some u → withP cs H b = some u := fun _ _ e => with_keep un e
theorem extN_no (un : ∀ b o, cs b = some o → H b = none) (e : ExtN (withP cs H) G) : ExtN H (noP cs G) := fun b u h t => by
  have c := cs_none un h
  rw [noP_no c]
  exact e b u (with_keep un h) t
theorem extN_noN (hp : HasP cs H) (e : ExtN H G) : ExtN (noP cs H) (noP cs G) := fun b u h t => by
  cases c : cs b with
  | some o => rw [noP_at c] at h; cases h
  | none =>
    rw [noP_no c] at h ⊢
    exact e b u h t
theorem tabs_with {Ts : List (Addr × Str)} (un : ∀ b o, cs b = some o → H b = none) (t : Tabs Ts H) : Tabs Ts (withP cs H) := t.ext (extN_with un)
theorem tabs_no {Ts : List (Addr × Str)} (hp : HasP cs G) (t : Tabs Ts G) : Tabs Ts (noP cs G) := fun p hp1 => by
  obtain ⟨ps, h1, h2, h3⟩ := t p hp1
  refine ⟨ps, ?_, h2, fun pos cv hc => ?_⟩
  · rw [noP_no (cs_noneH hp h1 fun o z => by unfold PinO at z; cases z)]
    exact h1
  · obtain ⟨c, e1, e2⟩ := h3 pos cv hc
    exact ⟨c, e1, by rw [noP_no (cs_noneH hp e2 fun o z => by unfold PinO CodeO at z; cases z)]; exact e2⟩
end
end LamX
namespace Tt
open PySem L2
open LamX (Tabs TabS TabB ExtN CodeO tLam Cal withP noP HasP Unp Pins PinsOf)
def jQ : Str := (("_law_refused" : Str) ++ ".<locals>.") ++ "<lambda>"
def wQ : Str := (("_law_words_right" : Str) ++ ".<locals>.") ++ "<lambda>"
def tQ : Str := (("_law_is_told" : Str) ++ ".<locals>.") ++ "<lambda>"
def bQ : Str := (("_law_is_begun" : Str) ++ ".<locals>.") ++ "<lambda>"
def lQ : Str := (("law" : Str) ++ ".<locals>.") ++ "<lambda>"
section
variable {X : Cx} {A : Around} {outer : List Env} {s : Shared} {H : Hp} {E : XK} {lsc : Scope} {fl co : Addr} {p p1 p2 p3 p4 pos : Pos}
theorem lb_told (hr : Room 9 (A.deeper (LamX.lamEnv X lsc s.heap.objs.size fl co))) (n0 : X.N[0]? = some ("work" : Str)) (n2 : X.N[2]? = some ("found" : Str)) (v0 : Vis lsc "work") (v2 : Vis lsc "found") (hline : (p1.endLine == pos.line) = true)
    (hbase : attributeBase (.Name "found" p) "append" (LamX.lamCx X A outer s H E lsc fl co).env (eval (.Name "found" p) (LamX.lamCx X A outer s H E lsc fl co).env) = eval (.Name "found" p) (LamX.lamCx X A outer s H E lsc fl co).env) :
    PE (LamX.lamCx X A outer s H E lsc fl co) (.Call (.Attribute (.Name "found" p) "append" p1) [.Call (.Name "work" p2) [] [] p3] [] pos) (tBM X.K "list" rAppend (tVar 2) (tCons (LamX.tCalV X 8 0 E) tNil)) :=
  pe_bm PySem.F.plainAttrs_list PySem.F.slot_list_append PySem.F.type_list_append mt_append (pv (X := LamX.lamCx X A outer s H E lsc fl co) 2 n2 v2) (pa_cons (LamX.pe_calV (X := LamX.lamCx X A outer s H E lsc fl co) hr n0 v0 (lamP (X := X) (A := A) (outer := outer) (s := s) (H := H) (E := E) (lsc := lsc) (fl := fl) (co := co))) pa_nil) hbase (hline := hline)
theorem lb_begun (hr : Room 9 (A.deeper (LamX.lamEnv X lsc s.heap.objs.size fl co))) (n1 : X.N[1]? = some ("work" : Str)) (n2 : X.N[2]? = some ("text" : Str)) (n4 : X.N[4]? = some ("k" : Str)) (v1 : Vis lsc "work") (v2 : Vis lsc "text") (v4 : Vis lsc "k") :
    PE (LamX.lamCx X A outer s H E lsc fl co) (.Call (.Name "work" p) [.Subscript (.Name "text" p1) (.Slice none (some (.Name "k" p2)) none p3) p4] [] pos) (LamX.tCalVN X 8 1 E (tCons (tSl rSlS (tVar 2) tNoPart (tPart (tVar 4))) tNil)) :=
  LamX.pe_calVN (X := LamX.lamCx X A outer s H E lsc fl co) hr n1 v1 (lamP (X := X) (A := A) (outer := outer) (s := s) (H := H) (E := E) (lsc := lsc) (fl := fl) (co := co)) (pa_cons (pe_slice sl_str (pv (X := LamX.lamCx X A outer s H E lsc fl co) 2 n2 v2) po_none (po_some (pv (X := LamX.lamCx X A outer s H E lsc fl co) 4 n4 v4))) pa_nil)
end
section
variable {P : Program} {w : World} {K : PySem.W.Frag} {mg : Str → Option Value} {base : Heap}
abbrev jTs (T : Txt K mg) : List (Addr × Str) := [(T.jP, jQ), (T.wP, wQ), (T.tP, tQ), (T.bP, bQ), (T.lP, lQ)]
structure TBs (T : Txt K mg) (base : Heap) : Prop where
  j : TabB base mg T.jc T.jP
  w : TabB base mg T.wc T.wP
  t : TabB base mg T.tc T.tP
  b : TabB base mg T.bc T.bP
  l : TabB base mg T.lc T.lP
theorem hu_j (T : Txt K mg) : ∀ p ∈ jTs T, p.1 = T.jP → p.2 = jQ := fun p hp hq => by
  simp only [List.mem_cons, List.not_mem_nil, or_false] at hp
  rcases hp with rfl | rfl | rfl | rfl | rfl
  · rfl
  · exact absurd hq.symm T.ne_jw
  · exact absurd hq.symm T.ne_jt
  · exact absurd hq.symm T.ne_jb
  · exact absurd hq.symm T.ne_jl
theorem hu_w (T : Txt K mg) : ∀ p ∈ jTs T, p.1 = T.wP → p.2 = wQ := fun p hp hq => by
  simp only [List.mem_cons, List.not_mem_nil, or_false] at hp
  rcases hp with rfl | rfl | rfl | rfl | rfl
  · exact absurd hq T.ne_jw
  · rfl
  · exact absurd hq.symm T.ne_wt
  · exact absurd hq.symm T.ne_wb
  · exact absurd hq.symm T.ne_wl
theorem hu_t (T : Txt K mg) : ∀ p ∈ jTs T, p.1 = T.tP → p.2 = tQ := fun p hp hq => by
  simp only [List.mem_cons, List.not_mem_nil, or_false] at hp
  rcases hp with rfl | rfl | rfl | rfl | rfl
  · exact absurd hq T.ne_jt
  · exact absurd hq T.ne_wt
  · rfl
  · exact absurd hq.symm T.ne_tb
  · exact absurd hq.symm T.ne_tl
theorem hu_b (T : Txt K mg) : ∀ p ∈ jTs T, p.1 = T.bP → p.2 = bQ := fun p hp hq => by
  simp only [List.mem_cons, List.not_mem_nil, or_false] at hp
  rcases hp with rfl | rfl | rfl | rfl | rfl
  · exact absurd hq T.ne_jb
  · exact absurd hq T.ne_wb
  · exact absurd hq T.ne_tb
  · rfl
  · exact absurd hq.symm T.ne_bl
theorem hu_l (T : Txt K mg) : ∀ p ∈ jTs T, p.1 = T.lP → p.2 = lQ := fun p hp hq => by
  simp only [List.mem_cons, List.not_mem_nil, or_false] at hp
  rcases hp with rfl | rfl | rfl | rfl | rfl
  · exact absurd hq T.ne_jl
  · exact absurd hq T.ne_wl
  · exact absurd hq T.ne_tl
  · exact absurd hq T.ne_bl
  · rfl
theorem takeS_head : ∀ (cs : List Nat) (acc : List Int), (acc = [] ∨ acc.head? = some 0) → (takeS cs acc = [] ∨ (takeS cs acc).head? = some 0)
  | [], acc, h => h
  | c :: cs, acc, h => by
    unfold takeS
    cases e : letOf c with
    | none => exact h
    | some l =>
      show ((if goS acc l = true then _ else acc) = [] ∨ (if goS acc l = true then _ else acc).head? = some 0)
      by_cases g : goS acc l = true
      · rw [if_pos g]
        refine takeS_head cs _ (.inr ?_)
        rcases h with h | h
        · subst h
          unfold goS at g
          have : l = 0 := by simpa using g
          rw [this]
          rfl
        · cases acc with
          | nil => cases h
          | cons a r => exact h
      · rw [if_neg g]
        exact h
theorem takeS_trn (cs : List Nat) : trn (takeS cs []) = takeS cs [] := by
  rcases takeS_head cs [] (.inl rfl) with h | h
  · rw [h]
    rfl
  · generalize takeS cs [] = W at h
    cases W with
    | nil => rfl
    | cons a r =>
      have : a = 0 := Option.some.inj h
      subst this
      unfold trn
      simp
open Classical in
def spRowTold (T : Txt K mg) : Sp := fun vs H Q E => ∃ (z : Str), vs = [.str z] ∧ z.length ≤ 5000 ∧
  ((IsRow (takeS z.cps.toList []) ∧ (takeS z.cps.toList []).length = z.length) → ∀ q H', Same H H' → FzT H' q ((takeS z.cps.toList []).map V.int) → Q (.ref q) H') ∧
  (¬ (IsRow (takeS z.cps.toList []) ∧ (takeS z.cps.toList []).length = z.length) → TextErr T (.int ((takeS z.cps.toList []).length : Nat)) H E)
theorem ok_l_row_told (T : Txt K mg) : FnOk P w K mg base (L2.CX P w) 8 T.l_row_told.a T.l_row_told.fd ["text"] (spRowTold T) := by
  refine T.l_row_told.F.okX sc_l_row_told (fun vs H Q E h => ?_) (fun cdv A outer s H vs Q E hr h => ?_)
  · obtain ⟨z, rfl, _⟩ := h
    rfl
  · obtain ⟨z, rfl, hz, k, ke⟩ := h
    have nd := sc_l_row_told.nd
    refine ⟨_, (pss_cons (ps_set (i := 1) nd rfl (Or.inl rfl) (pe_callS (ok_read_skin T) (hr.mono (by decide)) (by rfl) T.read_skin.g T.read_skin.k T.read_skin.b (fun σ => passAt (takes_of rfl rfl rfl rfl) σ) (pa_cons (pv 0) pa_nil)))
    (pss_one (ps_ret (pe_ifExp (pt_val (pe_callB call_isA (by rfl) T.zisinstance (by decide +kernel) (pa_cons (pv 1) (pa_cons (pe_glob (v := .ref T.Skin.C) rfl T.Skin.g rfl) pa_nil)))) (pe_fld (pv 1) rfl) pe_non)))), ?_⟩
    refine sqn ⟨_, rfl, _, rfl, .inr ⟨z, rfl, hz, fun h p H1 s1 sk => ?_, ke⟩⟩
    rw [takeS_trn] at sk
    obtain ⟨t, ht, hk⟩ := (SkAt.v sk).isi
    obtain ⟨dx, r, q, h1, h2, h3⟩ := id sk
    refine ⟨_, rfl, .inr ⟨_, _, t, _, true, rfl, .own T.Skin.C, ht, hk, _, rfl, iteT ?_⟩⟩
    exact ⟨_, rfl, p, T.Skin.C, dx, _, _, rfl, h1, T.Skin.c, nRow T, skF_row .., k h r H1 s1 h2⟩
end
end Tt
set_option maxRecDepth 100000
set_option maxHeartbeats 4000000
namespace Tt
open PySem L2
open LamX (ExtN)
theorem getLast_app_rd {acc : List Int} {l : Int} {ns : List Int} (r : Wd.Rd (acc ++ l :: ns)) : acc.getLast? ≠ some (Wd.mate l) := fun h => by
  have hne : acc ≠ [] := fun z => by rw [z] at h; cases h
  have hl : acc[acc.length - 1]? = some (Wd.mate l) := by rw [← List.getLast?_eq_getElem?]; exact h
  have lp : 0 < acc.length := List.length_pos_iff.mpr hne
  have h1 : (acc ++ l :: ns)[acc.length - 1]? = some (Wd.mate l) := by rw [List.getElem?_append_left (by omega)]; exact hl
  have h2 : (acc ++ l :: ns)[acc.length - 1 + 1]? = some l := by
    rw [List.getElem?_append_right (by omega), show acc.length - 1 + 1 - acc.length = 0 by omega]
    rfl
  exact r _ _ _ h1 h2 (Wd.mate_mate l).symm
theorem takeL_wrA {e : Int} {most : Nat} {free : Bool} (e12 : e ≤ 12) : ∀ (ns acc : List Int), Lt e ns → acc.length + ns.length ≤ most → (free = true → Wd.Rd (acc ++ ns)) → takeL e most free (ns.map code) acc = acc ++ ns
  | [], acc, _, _, _ => by rw [List.append_nil]; rfl
  | l :: ns, acc, lt, hl, rd => by
    have ll := lt l List.mem_cons_self
    have el : letOf (code l) = some l := letOf_code ll.1 (by omega)
    rw [List.length_cons] at hl
    have g : goL e most free acc l = true := by
      unfold goL
      rw [decide_eq_true ll.2, decide_eq_true (show acc.length < most by omega)]
      cases hf : free with
      | false => rfl
      | true =>
        rw [decide_eq_false (getLast_app_rd (rd hf))]
        rfl
    rw [List.map_cons]
    conv => lhs; unfold takeL
    rw [el]
    show (if goL e most free acc l = true then _ else _) = _
    rw [if_pos g]
    rw [takeL_wrA e12 ns (acc ++ [l]) (fun x hx => lt x (List.mem_cons_of_mem _ hx)) (by rw [List.length_append]; show acc.length + 1 + ns.length ≤ most; omega) (fun hf => by rw [List.append_assoc]; exact rd hf), List.append_assoc]
    rfl
theorem wr_cps (ns : List Int) : (wr ns).cps.toList = ns.map code := rfl
theorem wr_len (ns : List Int) : (wr ns).length = ns.length := by
  show (ns.map code).toArray.size = _
  simp
theorem takeL_wr {e : Int} {most : Nat} {free : Bool} {ns : List Int} (e12 : e ≤ 12) (lt : Lt e ns) (hl : ns.length ≤ most) (rd : free = true → Wd.Rd ns) : takeL e most free (wr ns).cps.toList [] = ns := by
  rw [wr_cps, takeL_wrA e12 ns [] lt (by rw [List.length_nil]; omega) rd]
  rfl
theorem takeL_grow {n : Int} {most : Nat} {free : Bool} : ∀ (cs : List Nat) (acc : List Int), ∃ more, takeL n most free cs acc = acc ++ more ∧ more.length ≤ cs.length
  | [], acc => ⟨[], by rw [List.append_nil]; rfl, Nat.le_refl _⟩
  | c :: cs, acc => by
    unfold takeL
    cases e : letOf c with
    | none => exact ⟨[], by rw [List.append_nil], Nat.zero_le _⟩
    | some l =>
      show ∃ more, (if goL n most free acc l = true then _ else acc) = acc ++ more ∧ _
      by_cases g : goL n most free acc l = true
      · rw [if_pos g]
        obtain ⟨m, h1, h2⟩ := takeL_grow cs (acc ++ [l])
        exact ⟨l :: m, by rw [h1, List.append_assoc]; rfl, by rw [List.length_cons, List.length_cons]; omega⟩
      · rw [if_neg g]
        exact ⟨[], by rw [List.append_nil], Nat.zero_le _⟩
theorem takeL_len {n : Int} {most : Nat} {free : Bool} (cs : List Nat) : (takeL n most free cs []).length ≤ cs.length := by
  obtain ⟨m, h1, h2⟩ := takeL_grow (n := n) (most := most) (free := free) cs []
  rw [h1, List.nil_append]
  exact h2
theorem takeL_pre {n : Int} {most : Nat} {free : Bool} : ∀ (cs : List Nat) (acc : List Int) (k : Nat), acc.length + k ≤ (takeL n most free cs acc).length → takeL n most free (cs.take k) acc = (takeL n most free cs acc).take (acc.length + k)
  | [], acc, k, h => by
    rw [List.take_nil]
    show acc = acc.take _
    rw [List.take_of_length_le (by omega)]
  | c :: cs, acc, 0, h => by
    obtain ⟨m, h1, _⟩ := takeL_grow (n := n) (most := most) (free := free) (c :: cs) acc
    rw [h1, Nat.add_zero, List.take_left, List.take_zero]
    rfl
  | c :: cs, acc, k + 1, h => by
    rw [List.take_succ_cons]
    unfold takeL at h ⊢
    cases e : letOf c with
    | none =>
      rw [e] at h
      have h' : acc.length + (k + 1) ≤ acc.length := h
      omega
    | some l =>
      rw [e] at h
      have h' : acc.length + (k + 1) ≤ (if goL n most free acc l = true then takeL n most free cs (acc ++ [l]) else acc).length := h
      show (if goL n most free acc l = true then takeL n most free (cs.take k) (acc ++ [l]) else acc) = (if goL n most free acc l = true then takeL n most free cs (acc ++ [l]) else acc).take _
      by_cases g : goL n most free acc l = true
      · rw [if_pos g] at h' ⊢
        rw [if_pos g]
        have e1 : (acc ++ [l]).length = acc.length + 1 := List.length_append
        have := takeL_pre (n := n) (most := most) (free := free) cs (acc ++ [l]) k (by rw [e1]; omega)
        rw [this, e1, show acc.length + 1 + k = acc.length + (k + 1) by omega]
      · rw [if_neg g] at h'
        omega
theorem takeL_beg {n : Int} {most : Nat} {free : Bool} {z : Str} {k : Nat} (h : k ≤ (takeL n most free z.cps.toList []).length) : (takeL n most free (cutS z none (some (k : Int))).cps.toList []).length = k ∧ (cutS z none (some (k : Int))).length = k := by
  have hz : (takeL n most free z.cps.toList []).length ≤ z.length := by
    have := takeL_len (n := n) (most := most) (free := free) z.cps.toList
    rw [Array.length_toList] at this
    exact this
  rw [cutS_to (by omega), takeL_pre z.cps.toList [] k (by rw [List.length_nil]; omega), cut_to_len]
  simp only [List.length_nil, Nat.zero_add, List.length_take]
  omega
theorem takeS_grow : ∀ (cs : List Nat) (acc : List Int), ∃ more, takeS cs acc = acc ++ more ∧ more.length ≤ cs.length
  | [], acc => ⟨[], by rw [List.append_nil]; rfl, Nat.le_refl _⟩
  | c :: cs, acc => by
    unfold takeS
    cases e : letOf c with
    | none => exact ⟨[], by rw [List.append_nil], Nat.zero_le _⟩
    | some l =>
      show ∃ more, (if goS acc l = true then _ else acc) = acc ++ more ∧ _
      by_cases g : goS acc l = true
      · rw [if_pos g]
        obtain ⟨m, h1, h2⟩ := takeS_grow cs (acc ++ [l])
        exact ⟨l :: m, by rw [h1, List.append_assoc]; rfl, by rw [List.length_cons, List.length_cons]; omega⟩
      · rw [if_neg g]
        exact ⟨[], by rw [List.append_nil], Nat.zero_le _⟩
theorem takeS_len (cs : List Nat) : (takeS cs []).length ≤ cs.length := by
  obtain ⟨m, h1, h2⟩ := takeS_grow cs []
  rw [h1, List.nil_append]
  exact h2
theorem takeS_pre : ∀ (cs : List Nat) (acc : List Int) (k : Nat), acc.length + k ≤ (takeS cs acc).length → takeS (cs.take k) acc = (takeS cs acc).take (acc.length + k)
  | [], acc, k, h => by
    rw [List.take_nil]
    show acc = acc.take _
    rw [List.take_of_length_le (by omega)]
  | c :: cs, acc, 0, h => by
    obtain ⟨m, h1, _⟩ := takeS_grow (c :: cs) acc
    rw [h1, Nat.add_zero, List.take_left, List.take_zero]
    rfl
  | c :: cs, acc, k + 1, h => by
    rw [List.take_succ_cons]
    unfold takeS at h ⊢
    cases e : letOf c with
    | none =>
      rw [e] at h
      have h' : acc.length + (k + 1) ≤ acc.length := h
      omega
    | some l =>
      rw [e] at h
      have h' : acc.length + (k + 1) ≤ (if goS acc l = true then takeS cs (acc ++ [l]) else acc).length := h
      show (if goS acc l = true then takeS (cs.take k) (acc ++ [l]) else acc) = (if goS acc l = true then takeS cs (acc ++ [l]) else acc).take _
      by_cases g : goS acc l = true
      · rw [if_pos g] at h' ⊢
        rw [if_pos g]
        have e1 : (acc ++ [l]).length = acc.length + 1 := List.length_append
        have := takeS_pre cs (acc ++ [l]) k (by rw [e1]; omega)
        rw [this, e1, show acc.length + 1 + k = acc.length + (k + 1) by omega]
      · rw [if_neg g] at h'
        omega
theorem takeS_beg {z : Str} {k : Nat} (h : k ≤ (takeS z.cps.toList []).length) : (takeS (cutS z none (some (k : Int))).cps.toList []).length = k ∧ (cutS z none (some (k : Int))).length = k := by
  have hz : (takeS z.cps.toList []).length ≤ z.length := by
    have := takeS_len z.cps.toList
    rw [Array.length_toList] at this
    exact this
  rw [cutS_to (by omega), takeS_pre z.cps.toList [] k (by rw [List.length_nil]; omega), cut_to_len]
  simp only [List.length_nil, Nat.zero_add, List.length_take]
  omega
theorem takeS_wrA : ∀ (ns acc : List Int), (∀ x ∈ ns, 0 ≤ x ∧ x < 12) → (acc ++ ns).Nodup → (acc ++ ns).head? = some 0 ∨ acc ++ ns = [] → takeS (ns.map code) acc = acc ++ ns
  | [], acc, _, _, _ => by rw [List.append_nil]; rfl
  | l :: ns, acc, lt, nd, hd => by
    have ll := lt l List.mem_cons_self
    have el : letOf (code l) = some l := letOf_code ll.1 (by omega)
    have g : goS acc l = true := by
      unfold goS
      have ni : l ∉ acc := fun z => by
        rw [List.nodup_append] at nd
        exact nd.2.2 l z l List.mem_cons_self rfl
      rw [decide_eq_true ni, Bool.true_and]
      cases acc with
      | nil =>
        rcases hd with hd | hd
        · have : l = 0 := Option.some.inj hd
          rw [this]
          rfl
        · cases hd
      | cons a acc => rfl
    rw [List.map_cons]
    conv => lhs; unfold takeS
    rw [el]
    show (if goS acc l = true then _ else _) = _
    rw [if_pos g]
    have e1 : acc ++ [l] ++ ns = acc ++ l :: ns := by rw [List.append_assoc]; rfl
    rw [takeS_wrA ns (acc ++ [l]) (fun x hx => lt x (List.mem_cons_of_mem _ hx)) (by rw [e1]; exact nd) (by rw [e1]; exact hd), e1]
theorem takeS_wr {ns : List Int} (lt : ∀ x ∈ ns, 0 ≤ x ∧ x < 12) (nd : ns.Nodup) (hd : ns.head? = some 0) : takeS (wr ns).cps.toList [] = ns := by
  rw [wr_cps, takeS_wrA ns [] lt nd (.inl hd)]
  rfl
end Tt
set_option maxRecDepth 100000
set_option maxHeartbeats 1000000
namespace Tt
open PySem L2
open LamX (Tabs TabS TabB ExtN CodeO tLam Cal withP noP HasP Unp Pins PinsOf)
section
variable {H : Hp} {l : Addr} {xs ys : List V}
theorem put_keep {b : Addr} {o : HO} (e : H l = some (.lst xs)) (h : H b = some o) (n : ∀ zs, o ≠ .lst zs) : upd H l (.lst ys) b = some o := by
  rw [upd_ne]
  · exact h
  · intro z
    subst z
    exact n xs (Option.some.inj (h.symm.trans e))
theorem sqT_putL {K : PySem.W.Frag} {a : Addr} {zs : List V} (h : SqT K H a zs) (e : H l = some (.lst xs)) : SqT K (upd H l (.lst ys)) a zs := by
  rcases h with (h | ⟨o, h⟩) | h
  · exact .inl (.inl (put_keep e h fun _ z => nomatch z))
  · exact .inl (.inr ⟨o, put_keep e h fun _ z => nomatch z⟩)
  · exact .inr h
end
theorem tabs_put {Ts : List (Addr × Str)} {H : Hp} {f : Addr} {xs : List V} {o : HO} (t : Tabs Ts H) (hf : H f = some (.lst xs)) : Tabs Ts (upd H f o) := fun p hp => by
  obtain ⟨ps, h1, h2, h3⟩ := t p hp
  refine ⟨ps, ?_, h2, fun pos cv hc => ?_⟩
  · rw [upd_ne]
    · exact h1
    · intro z
      rw [z, hf] at h1
      cases h1
  · obtain ⟨c, e1, e2⟩ := h3 pos cv hc
    refine ⟨c, e1, ?_⟩
    rw [upd_ne]
    · exact e2
    · intro z
      rw [z, hf] at e2
      cases e2
theorem extN_putF {H H' : Hp} {f : Addr} {o : HO} (e : ExtN H H') (n : ∀ u, H f = some u → ∃ ps, u = .tbl ps) : ExtN H (upd H' f o) := fun b u h t => by
  rw [upd_ne]
  · exact e b u h t
  · intro z
    rw [z] at h
    obtain ⟨ps, e2⟩ := n u h
    exact t ps e2
theorem shA : ∀ a : List Int, (∀ x ∈ a, 0 ≤ x ∧ x < 12) → PyData.showableAll (a.map PyData.int) = true
  | [], _ => rfl
  | x :: a, h => by
    have h1 := h x List.mem_cons_self
    have h2 : (decide (x.natAbs.log2 < 1920)) = true := by
      have : x.natAbs < 12 := by omega
      have : x.natAbs.log2 ≤ x.natAbs := Nat.log2_le_self _
      exact decide_eq_true (by omega)
    show (decide (x.natAbs.log2 < 1920) && PyData.showableAll (a.map PyData.int)) = true
    rw [h2, shA a fun y hy => h y (List.mem_cons_of_mem _ hy)]
    rfl
theorem hdA : ∀ a : List Int, PyData.hasDictAll (a.map PyData.int) = false
  | [] => rfl
  | x :: a => by
    show (false || PyData.hasDictAll (a.map PyData.int)) = false
    rw [hdA a]
    rfl
theorem dpA : ∀ a : List Int, PyData.depthAll (a.map PyData.int) = 0
  | [] => rfl
  | x :: a => by
    show max 0 (PyData.depthAll (a.map PyData.int)) = 0
    rw [dpA a]
    rfl
theorem digits2 {x : Int} (h0 : 0 ≤ x) (h1 : x < 12) : (PyData.shown (.int x)).length ≤ 2 := by
  have : x = 0 ∨ x = 1 ∨ x = 2 ∨ x = 3 ∨ x = 4 ∨ x = 5 ∨ x = 6 ∨ x = 7 ∨ x = 8 ∨ x = 9 ∨ x = 10 ∨ x = 11 := by omega
  rcases this with rfl | rfl | rfl | rfl | rfl | rfl | rfl | rfl | rfl | rfl | rfl | rfl <;> decide +kernel
theorem lenA : ∀ a : List Int, (∀ x ∈ a, 0 ≤ x ∧ x < 12) → ((PyData.shownAll (a.map PyData.int)).map (·.length)).sum ≤ 2 * a.length ∧ (PyData.shownAll (a.map PyData.int)).length = a.length
  | [], _ => ⟨Nat.le_refl _, rfl⟩
  | x :: a, h => by
    have h1 := h x List.mem_cons_self
    obtain ⟨i1, i2⟩ := lenA a fun y hy => h y (List.mem_cons_of_mem _ hy)
    have d := digits2 h1.1 h1.2
    constructor
    · show (PyData.shown (.int x)).length + ((PyData.shownAll (a.map PyData.int)).map (·.length)).sum ≤ 2 * (a.length + 1)
      omega
    · show (PyData.shownAll (a.map PyData.int)).length + 1 = a.length + 1
      omega
def wd1 (a : List Int) : PyData := .list [.tuple (a.map PyData.int)]
theorem len1 {a : List Int} (ha : ∀ x ∈ a, 0 ≤ x ∧ x < 12) (la : a.length ≤ 200) : (wd1 a).shown.length ≤ sizeLine := by
  have e : (wd1 a).shown = listText [tupleText (PyData.shownAll (a.map PyData.int))] := rfl
  rw [e]
  have h0 := listText_len_le [tupleText (PyData.shownAll (a.map PyData.int))]
  have h1 := tupleText_len_le (PyData.shownAll (a.map PyData.int))
  obtain ⟨a1, a2⟩ := lenA a ha
  have hz : (10000 : Nat) ≤ sizeLine := by decide
  simp only [List.map_cons, List.map_nil, List.sum_cons, List.sum_nil, List.length_cons, List.length_nil] at h0
  omega
theorem shw1 {K : PySem.W.Frag} {H : Hp} {l p : Addr} {a : List Int} (ha : ∀ x ∈ a, 0 ≤ x ∧ x < 12) (la : a.length ≤ 200) (hl : SqL K H l [.ref p]) (hp : SqT K H p (a.map V.int)) : Shw K H (.ref l) (wd1 a).shown := by
  refine .ref (.lst hl (.cons (.tup hp (dpAll_ints _ _)) .nil)) ?_ ?_ ?_ (len1 ha la)
  · show (PyData.showableAll (a.map PyData.int) && true) = true
    rw [shA a ha]
    rfl
  · show (PyData.hasDictAll (a.map PyData.int) || false) = false
    rw [hdA a]
    rfl
  · show max (PyData.depthAll (a.map PyData.int) + 1) 0 + 1 ≤ 60
    rw [dpA a]
    decide
section
variable {P : Program} {w : World} {K : PySem.W.Frag} {mg : Str → Option Value} {base : Heap}
theorem kTT : PySem.W.kitOne K (.type "tuple") (.type "tuple") = some true := rfl
theorem kII : PySem.W.kitOne K (.type "int") (.type "int") = some true := rfl
theorem isa {x : V} {S U : String} {b : Bool} {H : Hp} {Q : VK} (t : TyB K H x S) (k : PySem.W.kitOne K (.type S) (.type U) = some b) (q : Q (.bl b) H) : rIsA K [x, .ty U] H Q := .inr ⟨_, _, _, _, b, rfl, .ty _, Tt.TyB.x t, k, q⟩
theorem exm_T (T : Txt K mg) : PySem.W.exmOne K (.ref T.BadText.C) (.ref T.RoundError.C) = some true := PySem.W.exm_ref T.RoundError.ec.hs T.RoundError.ec.hd T.RoundError.ty T.sXR
def Works (T : Txt K mg) (W : List Int) (b : Bool) (rd : List V → XK → Hp → VK → Prop) (H : Hp) : Prop := ∀ (H' : Hp) (E : XK) (Q : VK), ExtN H H' →
  (b = true → ∀ q H'', Same H' H'' → SqT K H'' q (W.map V.int) → Q (.ref q) H'') → (b = false → TextErr T (.int (W.length : Nat)) H' E) → rd [] E H' Q
def spIsTold (T : Txt K mg) (P : Program) (w : World) (base : Heap) : Sp := fun vs H Q _ => ∃ (fl : Addr) (rd : List V → XK → Hp → VK → Prop) (due : V) (W : List Int) (b : Bool), vs = [.ref fl, due] ∧ Cal P w K mg base 8 rd H fl ∧ DueW H W b due ∧ W.length ≤ 200 ∧ (∀ x ∈ W, 0 ≤ x ∧ x < 12) ∧ Tabs (jTs T) H ∧ Works T W b rd H ∧
  ∀ H', ExtN H H' → Tabs (jTs T) H' → Q (.bl true) H'
theorem ok_l_is_told (T : Txt K mg) (TBj : TBs T base) : FnG P w K mg base CX0 12 T.l_is_told.a T.l_is_told.fd ["work", "due"] (spIsTold T P w base) := by
  have TB := TBj.t
  have hmT : (T.tP, tQ) ∈ jTs T := by simp
  have hu := hu_t T
  refine T.tF.okG sc_l_is_told (fun vs H Q E h => ?_) (fun A outer s H vs Q E hA hr h => ?_)
  · obtain ⟨fl, rd, due, W, b, rfl, _⟩ := h
    rfl
  · obtain ⟨fl, rd, due, W, b, rfl, cal, hd, wl, wr, tb, wk, k⟩ := h
    have nd := sc_l_is_told.nd
    have hg := hA
    refine ⟨_, (pss_cons (ps_set (i := 2) nd rfl (Or.inr rfl) (pe_lst pa_nil))
    (pss_cons (ps_set (i := 3) nd rfl (Or.inl rfl) (pe_caught (k := 9) T (by rfl) TB rfl hmT hu (hr.mono (by decide)) (LamX.lamS_by (sc := defScope s_l_is_told) (by decide +kernel)) rfl (fun _ _ _ _ _ => rfl) (fun _ _ _ _ _ _ _ hr => lb_told hr rfl rfl (Or.inr (Or.inr rfl)) (Or.inr (Or.inr rfl)) rfl (by rfl))))
    (pss_cons (ps_if (pt_val (pe_callB call_isA (by rfl) T.zisinstance (by decide +kernel) (pa_cons (pv 1) (pa_cons (pe_bltn (v := .ty "tuple") (by rfl) T.ztuple (by decide +kernel) rfl) pa_nil))))
      (pss_one (ps_ret (pe_and (pe_cmpR op_isN (pv 3) pe_non (nomark _)) (pe_one (pe_cmpR op_eq (pe_callB (call_showV hg hr.units) (by rfl) T.zrepr (by decide +kernel) (pa_cons (pv 2) pa_nil)) (pe_callB (call_showV hg hr.units) (by rfl) T.zrepr (by decide +kernel) (pa_cons (pe_lst (pa_cons (pv 1) pa_nil)) pa_nil)) (nomark _))))))
      pss_nil)
    (pss_one (ps_ret (pe_and (pe_callB call_isA (by rfl) T.zisinstance (by decide +kernel) (pa_cons (pv 3) (pa_cons (pe_glob (v := .ref T.BadText.C) rfl T.BadText.g rfl) pa_nil))) (pe_and (pe_cmpR op_eq (pe_callB (call_showV hg hr.units) (by rfl) T.zrepr (by decide +kernel) (pa_cons (pe_xfH (pv 3)) pa_nil)) (pe_callB (call_showV hg hr.units) (by rfl) T.zrepr (by decide +kernel) (pa_cons (pv 1) pa_nil)) (nomark _)) (pe_one (pe_cmpR (op_eqD hr.units) (pv 2) (pe_lst pa_nil) (nomark _)))))))))), ?_⟩
    refine sqn ⟨(by show 0 ≤ sizeLine; decide), fun f hf => ?_⟩
    have s1 := same_new (o := .lst []) hf
    have e1 : (upd H f (.lst [])) f = some (.lst []) := upd_same
    have t1 := tb.ext s1
    generalize upd H f (.lst []) = H1 at s1 e1 t1
    refine sqn ⟨t1, fun H2 x2 t2 => ?_⟩
    have x12 : ExtN H H2 := (ExtN.of s1).trans x2
    have e2 := x2 _ _ e1 (fun _ z => nomatch z)
    have kx : LamX.KeepX H H2 := .ext x12
    cases b with
    | true =>
      refine ⟨_, rfl, .inl ⟨rfl, _, SqL.of e2⟩, ⟨fl, rd, rfl, cal.keep kx, wk H2 _ _ x12 (fun _ q H3 s3 hq => ?_) (fun z => nomatch z)⟩⟩
      have e3 := s3 _ _ e2
      refine nil_i ⟨f, _, _, rfl, rfl, e3, (by show 0 < sizeLine; decide), ?_⟩
      have x13 : ExtN H H3 := x12.trans (.of s3)
      have x14 : ExtN H (upd H3 f (.lst ([] ++ [.ref q]))) := extN_putF x13 (fun u z => by rw [hf] at z; cases z)
      have t4 : Tabs (jTs T) (upd H3 f (.lst ([] ++ [.ref q]))) := tabs_put (t2.ext s3) e3
      have hq4 : SqT K (upd H3 f (.lst ([] ++ [.ref q]))) q (W.map V.int) := sqT_putL hq e3
      have e4 : (upd H3 f (.lst ([] ++ [.ref q]))) f = some (.lst [.ref q]) := upd_same
      generalize upd H3 f (.lst ([] ++ [.ref q])) = H4 at x14 t4 hq4 e4
      cases hd with
      | no hb => cases hb
      | @tup qd hb hqd =>
        have hqd4 := x14 _ _ hqd (fun _ z => nomatch z)
        dsimp only [gName]
        refine sqn ⟨_, rfl, isa (.tup (SqT.of hqd4)) kTT ⟨_, rfl, iteT ?_⟩⟩
        refine ⟨_, rfl, rfl, _, rfl, iteT ?_⟩
        refine ⟨_, rfl, _, _, rfl, shw1 wr wl (SqL.of e4) hq4, ?_⟩
        refine ⟨_, rfl, (by show 1 ≤ sizeLine; decide), fun l hl => ?_⟩
        have n5 := same_new (o := .lst [.ref qd]) hl
        have e5 : (upd H4 l (.lst [.ref qd])) l = some (.lst [.ref qd]) := upd_same
        refine nil_i ⟨_, _, rfl, shw1 wr wl (SqL.of e5) (SqT.of (n5 _ _ hqd4)), ?_⟩
        refine ⟨rfl, ?_⟩
        rw [decide_eq_true rfl]
        exact k _ (x14.trans (.of n5)) (t4.ext n5)
    | false =>
      refine ⟨_, rfl, .inl ⟨rfl, _, SqL.of e2⟩, ⟨fl, rd, rfl, cal.keep kx, wk H2 _ _ x12 (fun z => nomatch z) (fun _ d H3 s3 hd3 => ⟨exm_T T, fun a ha => ?_⟩)⟩⟩
      have ea : (upd H3 a (exh (.ref T.BadText.C) (some d) a)) a = some (exh (.ref T.BadText.C) (some d) a) := upd_same
      have s4 := s3.trans (same_new (o := exh (.ref T.BadText.C) (some d) a) ha)
      have ed := same_new (o := exh (.ref T.BadText.C) (some d) a) ha _ _ hd3
      generalize upd H3 a (exh (.ref T.BadText.C) (some d) a) = H4 at ea s4 ed
      have e4 := s4 _ _ e2
      have x14 : ExtN H H4 := x12.trans (.of s4)
      have t4 := t2.ext s4
      cases hd with
      | tup hb hqd => cases hb
      | no hb =>
        dsimp only [gName]
        refine sqn ⟨_, rfl, isa (.int _) T.kInT ⟨_, rfl, iteF ?_⟩⟩
        dsimp only [tNext]
        refine ⟨_, rfl, .inl ⟨a, T.BadText.C, some d, _, _, true, rfl, ea, .inr ⟨d, _, rfl, ed⟩, T.BadText.ec, .own T.BadText.C, T.kXX, _, rfl, iteT ?_⟩⟩
        have hlg : ((W.length : Int)).natAbs.log2 < 1920 := by
          have := Nat.log2_le_self ((W.length : Int)).natAbs
          omega
        refine ⟨_, rfl, a, T.BadText.C, d, _, _, rfl, ea, ed, T.BadText.xf, T.BadText.n, rfl, nil_i ⟨_, _, rfl, .int hlg, ?_⟩⟩
        refine ⟨_, rfl, nil_i ⟨_, _, rfl, .int hlg, rfl, _, rfl, ?_⟩⟩
        rw [decide_eq_true rfl]
        refine iteT ⟨_, rfl, (by show 0 ≤ sizeLine; decide), fun l hl => ?_⟩
        have n5 := same_new (o := .lst []) hl
        refine ⟨_, _, .lst (SqL.of (n5 _ _ e4)) .nil, .lst (SqL.of upd_same) .nil, rfl, rfl, ?_⟩
        exact k _ (x14.trans (.of n5)) (t4.ext n5)
end
end Tt
set_option maxRecDepth 100000
set_option maxHeartbeats 1000000
namespace Tt
open PySem L2
open LamX (Tabs TabS TabB ExtN CodeO tLam Cal withP noP HasP Unp Pins PinsOf)
theorem KpN.at {D : Dw} {H H' : Hp} {b : Addr} {o : HO} (k : KpN D H H') (dr : DrOk D H) (h : H b = some o) (n1 : ∀ kvs, o ≠ .dK kvs) (n2 : ∀ xs, o ≠ .lst xs) (n3 : ∀ ps, o ≠ .tbl ps) : H' b = some o := by
  obtain ⟨ls, cs, r, t, d⟩ := dr
  exact k _ _ h (d.dne h n1) (d.lne h n2) n3
theorem keepX_kpn {D : Dw} {H H' : Hp} (dr : DrOk D H) (k : KpN D H H') : LamX.KeepX H H' := fun b o h z => by
  rcases z with ⟨f, rfl⟩ | ⟨ob, u, rfl⟩ <;> exact k.at dr h (fun _ z => nomatch z) (fun _ z => nomatch z) (fun _ z => nomatch z)
section
variable {P : Program} {w : World} {K : PySem.W.Frag} {mg : Str → Option Value} {base : Heap}
def WorksB (T : Txt K mg) (D : Dw) (z : Str) (n : Nat) (rd : List V → XK → Hp → VK → Prop) (H : Hp) : Prop := ∀ (k : Nat), k ≤ n → ∀ (H' : Hp) (E : XK) (Q : VK), KpN D H H' →
  (∀ v H'', Same H' H'' → Q v H'') → TextErr T (.int (k : Nat)) H' E → rd [.str (cutS z none (some (k : Int)))] E H' Q
def spIsBegun (T : Txt K mg) (P : Program) (w : World) (base : Heap) : Sp := fun vs H Q _ => ∃ (D : Dw) (fl : Addr) (rd : List V → XK → Hp → VK → Prop) (z : Str) (n : Nat), vs = [.ref D.d, .ref fl, .str z, .int (n : Int)] ∧ DrOk D H ∧ Cal P w K mg base 8 rd H fl ∧ z.length ≤ 1000 ∧ n ≤ 200 ∧ Tabs (jTs T) H ∧ WorksB T D z n rd H ∧
  ∀ H', DrOk D H' → KpN D H H' → Tabs (jTs T) H' → Q (.bl true) H'
theorem ok_l_is_begun (T : Txt K mg) (TBj : TBs T base) : FnG P w K mg base CX0 12 T.l_is_begun.a T.l_is_begun.fd ["draw", "work", "text", "at"] (spIsBegun T P w base) := by
  have TB := TBj.b
  have hmT : (T.bP, bQ) ∈ jTs T := by simp
  have hu := hu_b T
  refine T.bF.okG sc_l_is_begun (fun vs H Q E h => ?_) (fun A outer s H vs Q E hA hr h => ?_)
  · obtain ⟨D, fl, rd, z, n, rfl, _⟩ := h
    rfl
  · obtain ⟨D, fl, rd, z, n, rfl, dr, cal, hz, hn, tb, wk, k⟩ := h
    have nd := sc_l_is_begun.nd
    have hg := hA
    refine ⟨_, (pss_cons (ps_for PassesOwn.never rfl (pi_list (pe_lst (pa_cons pe_int (pa_cons (pe_callB (call_max2 rfl) (by rfl) T.zmax (by decide +kernel) (pa_cons pe_int (pa_cons (pe_op op_sub (pv 3) pe_int) pa_nil))) (pa_cons (pv 3) (pa_cons (pe_call (ok_l_take T) (hr.mono (by decide)) (by rfl) T.l_take.g T.l_take.k T.l_take.b .nil pass0 (pa_cons (pv 0) (pa_cons (pe_op op_add (pv 3) pe_int) pa_nil))) pa_nil)))))) (pg_name (i := 4) nd rfl (Or.inr rfl))
      (pss_cons (ps_set (i := 5) nd rfl (Or.inl rfl) (pe_caught (k := 9) T (by rfl) TB rfl hmT hu (hr.mono (by decide)) (LamX.lamS_by (sc := defScope s_l_is_begun) (by decide +kernel)) rfl (fun _ _ _ _ _ => rfl) (fun _ _ _ _ _ _ _ hr => lb_begun hr rfl rfl rfl (Or.inr (Or.inr rfl)) (Or.inr (Or.inr rfl)) (Or.inr (Or.inr rfl)))))
      (pss_one (ps_if (PW.pt (pw_and (pt_cmpR op_notN (pv 5) pe_non (nomark _)) (pw_and1 (PW.pt (pw_or (pt_not (pt_val (pe_callB call_isA (by rfl) T.zisinstance (by decide +kernel) (pa_cons (pv 5) (pa_cons (pe_glob (v := .ref T.BadText.C) rfl T.BadText.g rfl) pa_nil))))) (pw_or1 (pt_cmpR op_ne (pe_callB (call_showV hg hr.units) (by rfl) T.zrepr (by decide +kernel) (pa_cons (pe_xfH (pv 5)) pa_nil)) (pe_callB (call_showV hg hr.units) (by rfl) T.zrepr (by decide +kernel) (pa_cons (pv 4) pa_nil)) (nomark _))))))))
        (pss_one (ps_ret pe_bl))
        pss_nil))))
    (pss_one (ps_ret pe_bl))), ?_⟩
    refine sqn ⟨_, rfl, ⟨_, _, rfl, rfl, ?_⟩⟩
    refine ⟨_, _, rfl, ?_⟩
    refine tcn ⟨_, rfl, ⟨_, rfl, ⟨_, rfl, ⟨_, _, rfl, rfl, D, _, rfl, by omega, by omega, dr, fun t0 H1 h0 h1 d1 k1 => nil_i ⟨(by show 4 ≤ sizeLine; decide), fun l hl => ?_⟩⟩⟩⟩⟩
    obtain ⟨t, rfl⟩ := Int.eq_ofNat_of_zero_le h0
    have d2 := fun o => d1.new (o := o) hl
    generalize hxs : ([_, _, _, _] : List V) = xs
    have all : ∀ v ∈ xs, ∃ k : Nat, k ≤ n ∧ v = .int (k : Int) := fun v hv => by
      rw [← hxs] at hv
      simp only [List.mem_cons, List.not_mem_nil, or_false] at hv
      rcases hv with rfl | rfl | rfl | rfl
      · exact ⟨0, Nat.zero_le _, rfl⟩
      · refine ⟨n - 1, by omega, ?_⟩
        congr 1
        split <;> omega
      · exact ⟨n, Nat.le_refl _, rfl⟩
      · exact ⟨t, by omega, rfl⟩
    clear hxs h0 h1
    have s2 := same_new (o := .lst xs) hl
    have el : (upd H1 l (.lst xs)) l = some (.lst xs) := upd_same
    have dd := d2 (.lst xs)
    have kk : KpN D H (upd H1 l (.lst xs)) := .of (k1.trans (Kp.of s2))
    have tt : Tabs (jTs T) (upd H1 l (.lst xs)) := (tabs_kp tb dr k1).ext s2
    have off : l ≠ D.d ∧ l ≠ D.l := by
      have := d1.off hl
      exact ⟨this.1, this.2.1⟩
    generalize upd H1 l (.lst xs) = H2 at el dd kk tt
    clear s2 d2 d1 k1 hl
    refine ⟨l, rfl, ⟨_, SqL.of el⟩, ?_⟩
    refine for_list (K := K) (a := l) (xs := xs) (fun i σ H' => (∃ v4 v5 : Option V, σ = [some (.ref D.d), some (.ref fl), some (.str z), some (.int (n : Int)), v4, v5]) ∧ KpN D H H' ∧ DrOk D H' ∧ Tabs (jTs T) H' ∧ H' l = some (.lst xs))
      ⟨⟨none, none, rfl⟩, kk, dd, tt, el⟩ (fun i σ H' _ z => SqL.of z.2.2.2.2) ?_ ?_
    · rintro i x σ H3 hi ⟨⟨v4, v5, rfl⟩, k3, d3, t3, e3⟩
      obtain ⟨m, hm, rfl⟩ := all x (List.mem_of_getElem? hi)
      dsimp only [gName]
      have hlg : ((m : Int)).natAbs.log2 < 1920 := by
        have := Nat.log2_le_self ((m : Int)).natAbs
        omega
      refine sqn ⟨t3, fun H4 x4 t4 => ?_⟩
      have k4 : KpN D H H4 := k3.trans (.ext x4)
      have d4 := drOk_ext d3 x4
      have e4 := x4 _ _ e3 (fun _ z => nomatch z)
      refine ⟨fl, rd, rfl, cal.keep (keepX_kpn dr k4), ?_⟩
      refine ⟨_, rfl, noPart_i ⟨_, rfl, (m : Int), rfl, z, rfl, (by have big : (5000 : Nat) ≤ sizeLine := by decide
                                                                    omega), nil_i ⟨.refl, ?_⟩⟩⟩
      refine wk m hm H4 _ _ k4 (fun v H5 s5 => ?_) (fun d H5 s5 hd5 => ⟨exm_T T, fun a ha => ?_⟩)
      · refine ⟨_, rfl, rfl, _, rfl, iteF (iteF ?_)⟩
        exact ⟨⟨_, _, rfl⟩, k4.trans (.of (Kp.of s5)), d4.same s5, t4.ext s5, s5 _ _ e4⟩
      · have ea : (upd H5 a (exh (.ref T.BadText.C) (some d) a)) a = some (exh (.ref T.BadText.C) (some d) a) := upd_same
        have s6 := s5.trans (same_new (o := exh (.ref T.BadText.C) (some d) a) ha)
        have ed := same_new (o := exh (.ref T.BadText.C) (some d) a) ha _ _ hd5
        generalize upd H5 a (exh (.ref T.BadText.C) (some d) a) = H6 at ea s6 ed
        refine ⟨_, rfl, rfl, _, rfl, iteT ?_⟩
        refine ⟨_, rfl, .inl ⟨a, T.BadText.C, some d, _, _, true, rfl, ea, .inr ⟨d, _, rfl, ed⟩, T.BadText.ec, .own T.BadText.C, T.kXX, _, rfl, iteF ?_⟩⟩
        refine ⟨_, rfl, a, T.BadText.C, d, _, _, rfl, ea, ed, T.BadText.xf, T.BadText.n, rfl, nil_i ⟨_, _, rfl, .int hlg, ?_⟩⟩
        refine ⟨_, rfl, nil_i ⟨_, _, rfl, .int hlg, rfl, _, rfl, ?_⟩⟩
        rw [decide_eq_true rfl]
        refine iteF ?_
        exact ⟨⟨_, _, rfl⟩, k4.trans (.of (Kp.of s6)), d4.same s6, t4.ext s6, s6 _ _ e4⟩
    · rintro σ H3 ⟨⟨v4, v5, rfl⟩, k3, d3, t3, e3⟩
      exact k H3 d3 k3 t3
end
end Tt
set_option maxRecDepth 100000
set_option maxHeartbeats 1000000
namespace Tt
open PySem L2
open LamX (Tabs TabS TabB ExtN CodeO tLam Cal withP noP HasP Unp Pins PinsOf IsLam IsLam1 rdP)
section
variable {cs : Pins} {H H' H2 : Hp}
theorem same_pin (hp : HasP cs H') (s : Same (noP cs H') H2) : Same H' (withP cs H2) := fun b o e => by
  cases c : cs b with
  | some ob =>
    rw [LamX.withP_at c]
    rw [hp b ob c] at e
    exact e
  | none =>
    rw [LamX.withP_no c]
    exact s b o (by rw [LamX.noP_no c]; exact e)
theorem sqT_with {K : PySem.W.Frag} {a : Addr} {xs : List V} (un : Unp cs H) (h : SqT K H a xs) : SqT K (withP cs H) a xs := by
  rcases h with (h | ⟨o, h⟩) | h
  · exact .inl (.inl (LamX.with_keep un h))
  · exact .inl (.inr ⟨o, LamX.with_keep un h⟩)
  · exact .inr h
theorem hasP_ext (x : ExtN (withP cs H) H') : HasP cs H' := fun b o c => x b _ (LamX.withP_at c) fun ps z => by unfold LamX.PinO at z; cases z
theorem DueW.pin {W : List Int} {b : Bool} {v : V} (un : ∀ b o, cs b = some o → H b = none) (h : DueW H W b v) : DueW (withP cs H) W b v := by
  cases h with
  | no h => exact .no h
  | tup h hq => exact .tup h (LamX.with_keep un hq)
theorem drOk_with {D : Dw} (un : ∀ b o, cs b = some o → H b = none) (h : DrOk D H) : DrOk D (withP cs H) := drOk_ext h fun b u e _ => LamX.with_keep un e
theorem hasP_kpn {D : Dw} (un : ∀ b o, cs b = some o → H b = none) (dr : DrOk D H) (x : KpN D (withP cs H) H') : HasP cs H' := fun b o c => by
  have no := un b o c
  obtain ⟨ls, ms, r, t, d⟩ := dr
  refine x b _ (LamX.withP_at c) (fun z => ?_) (fun z => ?_) fun ps z => by unfold LamX.PinO at z; cases z
  · rw [z, d.hd] at no
    cases no
  · rw [z, d.hl] at no
    cases no
theorem kpn_no {D : Dw} (un : ∀ b o, cs b = some o → H b = none) (x : KpN D (withP cs H) H') : KpN D H (noP cs H') := fun b u h n1 n2 t => by
  rw [LamX.noP_no (LamX.cs_none un h)]
  exact x b u (LamX.with_keep un h) n1 n2 t
theorem drOk_no {D : Dw} (hp : HasP cs H) (h : DrOk D H) : DrOk D (noP cs H) := by
  obtain ⟨ls, ms, r, t, d⟩ := h
  have nn : ∀ {b : Addr} {u : HO}, H b = some u → (∀ o, u ≠ LamX.PinO o) → noP cs H b = some u := fun {b u} e n => by
    rw [LamX.noP_no (LamX.cs_noneH hp e n)]
    exact e
  exact ⟨ls, ms, r, t, nn d.hd (fun o z => by unfold LamX.PinO at z; cases z), nn d.hl (fun o z => by unfold LamX.PinO at z; cases z), nn d.hc (fun o z => by unfold LamX.PinO at z; cases z), d.ne, d.nl, d.nc⟩
end
section
variable {K : PySem.W.Frag} {mg : Str → Option Value}
theorem works_pin (T : Txt K mg) {cs : Pins} {σ : L2.St} {H1 : Hp} {t : XK → TE} {W : List Int} {b : Bool} (un : ∀ b o, cs b = some o → H1 b = none)
    (ht : ∀ (H' : Hp) (E : XK) (Q : VK), ExtN H1 H' → (b = true → ∀ q H'', Same H' H'' → SqT K H'' q (W.map V.int) → Q (.ref q) H'') → (b = false → TextErr T (.int (W.length : Nat)) H' E) → t E σ H' Q) : Works T W b (rdP cs σ [] t) (withP cs H1) := by
  intro H' E Q x gd bad
  have hp := hasP_ext x
  refine ⟨rfl, ?_⟩
  rw [List.map_nil, List.append_nil]
  exact ht (noP cs H') _ _ (LamX.extN_no un x) (fun hb q H'' s hq un2 => gd hb q _ (same_pin hp s) (sqT_with un2 hq)) (fun hb d H'' s hd un2 => bad hb d _ (same_pin hp s) (LamX.with_keep un2 hd))
theorem worksB_pin (T : Txt K mg) {cs : Pins} {σ : L2.St} {H1 : Hp} {t : XK → TE} {D : Dw} {z : Str} {n : Nat} {a : Str} (un : ∀ b o, cs b = some o → H1 b = none) (dr : DrOk D H1)
    (ht : ∀ (k : Nat), k ≤ n → ∀ (H' : Hp) (E : XK) (Q : VK), KpN D H1 H' → (∀ v H'', Same H' H'' → Q v H'') → TextErr T (.int (k : Nat)) H' E → t E (σ ++ [some (.str (cutS z none (some (k : Int))))]) H' Q) : WorksB T D z n (rdP cs σ [a] t) (withP cs H1) := by
  intro k hk H' E Q x gd bad
  have hp := hasP_kpn un dr x
  refine ⟨rfl, ?_⟩
  exact ht k hk (noP cs H') _ _ (kpn_no un x) (fun v H'' s un2 => gd v _ (same_pin hp s)) (fun d H'' s hd un2 => bad d _ (same_pin hp s) (LamX.with_keep un2 hd))
end
def PostP (X : Cx) (sp : Sp) (σ : L2.St) (H1 : Hp) (vs : List V) (Q : VK) : Prop := ∀ cs, PinsOf X σ H1 cs → sp vs (withP cs H1) (fun v G => HasP cs G → Q v (noP cs G)) E0
theorem notp {X : Cx} {sp : Sp} {t : TA} {σ : L2.St} {H : Hp} {Q : Bool → Hp → Prop} (h : t σ H fun vs H1 => PostP X sp σ H1 vs (fun x H2 => ∃ c, x = .bl c ∧ Q (!c) H2)) : tNot (tB (tCallP X sp t)) σ H Q := h
theorem ifn_p {X : Cx} {sp : Sp} {t : TA} {a b : TS} {D : Ends} {σ : L2.St} {H : Hp} (h : t σ H fun vs H1 => PostP X sp σ H1 vs (fun x H2 => ∃ c, x = .bl c ∧ if (!c) = true then a D σ H2 else b D σ H2)) : tIfS (tNot (tB (tCallP X sp t))) a b D σ H := h
section
variable {X : Cx} {σ : L2.St} {H1 : Hp} {Q : VK} {q : Str} {t : XK → TE} {v due : V} {W : List Int} {b : Bool}
theorem told_pin (T : Txt X.K X.mg) (il : IsLam X 8 q t H1 v) (eq : X.env.qual ++ "<lambda>" = q) (hd : DueW H1 W b due) (wl : W.length ≤ 200) (wr : ∀ x ∈ W, 0 ≤ x ∧ x < 12) (tb : Tabs (jTs T) H1)
    (ht : ∀ (H' : Hp) (E : XK) (Q : VK), ExtN H1 H' → (b = true → ∀ q H'', Same H' H'' → SqT X.K H'' q (W.map V.int) → Q (.ref q) H'') → (b = false → TextErr T (.int (W.length : Nat)) H' E) → t E σ H' Q)
    (k : ∀ H', ExtN H1 H' → Tabs (jTs T) H' → Q (.bl true) H') : PostP X (spIsTold T X.prog X.w X.base) σ H1 [v, due] Q := by
  intro cs p
  obtain ⟨fl, rfl, cal⟩ := LamX.cal_lam il eq p
  exact ⟨fl, _, due, W, b, rfl, cal, hd.pin p.un, wl, wr, LamX.tabs_with p.un tb, works_pin T p.un ht, fun H' x t2 hp => k _ (LamX.extN_no p.un x) (LamX.tabs_no hp t2)⟩
theorem begun_pin (T : Txt X.K X.mg) {a : Str} {D : Dw} {z : Str} {n : Nat} (il : IsLam1 X a 8 q t H1 v) (eq : X.env.qual ++ "<lambda>" = q) (dr : DrOk D H1) (hz : z.length ≤ 1000) (hn : n ≤ 200) (tb : Tabs (jTs T) H1)
    (ht : ∀ (k : Nat), k ≤ n → ∀ (H' : Hp) (E : XK) (Q : VK), KpN D H1 H' → (∀ v H'', Same H' H'' → Q v H'') → TextErr T (.int (k : Nat)) H' E → t E (σ ++ [some (.str (cutS z none (some (k : Int))))]) H' Q)
    (k : ∀ H', DrOk D H' → KpN D H1 H' → Tabs (jTs T) H' → Q (.bl true) H') : PostP X (spIsBegun T X.prog X.w X.base) σ H1 [.ref D.d, v, .str z, .int (n : Int)] Q := by
  intro cs p
  obtain ⟨fl, rfl, cal⟩ := LamX.cal_lam1 il eq p
  exact ⟨D, fl, _, z, n, rfl, drOk_with p.un dr, cal, hz, hn, LamX.tabs_with p.un tb, worksB_pin T p.un dr ht, fun H' d2 x t2 hp => k _ (drOk_no hp d2) (kpn_no p.un x) (LamX.tabs_no hp t2)⟩
end
section
variable {X : Cx} {A : Around} {outer : List Env} {s : Shared} {H : Hp} {E : XK} {lsc : Scope} {fl co : Addr} {p p1 p2 p3 p4 pos : Pos} {as : List Str}
theorem lamPN : Passes (L2.CX X.prog X.w) (LamX.lamCxN X as A outer s H E lsc fl co) E := passes_call (takes_of rfl rfl rfl rfl) fun _ _ _ _ h => h
theorem lb_w1 (T : Txt X.K X.mg) (hr : Room 8 (A.deeper (LamX.lamEnv X lsc s.heap.objs.size fl co))) (n1 : X.N[1]? = some ("skin_here" : Str)) (n5 : X.N[5]? = some ("text" : Str)) (v1 : Vis lsc "skin_here") (v5 : Vis lsc "text") (hg : Gl (LamX.lamCx X A outer s H E lsc fl co) "read_word") :
    PE (LamX.lamCx X A outer s H E lsc fl co) (.Call (.Name "read_word" p) [.Name "skin_here" p1, .Name "text" p2] [] pos) (tCall (spReadWord T) [] E (tCons (tVar 1) (tCons (tVar 5) tNil))) :=
  pe_call (CX := L2.CX X.prog X.w) (ok_read_word T) (hr.mono (by decide)) hg T.read_word.g T.read_word.k T.read_word.b .nil lamP (pa_cons (pv (X := LamX.lamCx X A outer s H E lsc fl co) 1 n1 v1) (pa_cons (pv (X := LamX.lamCx X A outer s H E lsc fl co) 5 n5 v5) pa_nil))
theorem lb_w2 (T : Txt X.K X.mg) (hr : Room 8 (A.deeper (LamX.lamEnv X lsc s.heap.objs.size fl co))) (n1 : X.N[1]? = some ("skin_here" : Str)) (n5 : X.N[5]? = some ("text" : Str)) (v1 : Vis lsc "skin_here") (v5 : Vis lsc "text") (hg : Gl (LamX.lamCx X A outer s H E lsc fl co) "read_round") :
    PE (LamX.lamCx X A outer s H E lsc fl co) (.Call (.Name "read_round" p) [.Name "skin_here" p1, .Name "text" p2] [] pos) (tCall (spReadRd T) [] E (tCons (tVar 1) (tCons (tVar 5) tNil))) :=
  pe_call (CX := L2.CX X.prog X.w) (ok_read_round T) (hr.mono (by decide)) hg T.read_round.g T.read_round.k T.read_round.b .nil lamP (pa_cons (pv (X := LamX.lamCx X A outer s H E lsc fl co) 1 n1 v1) (pa_cons (pv (X := LamX.lamCx X A outer s H E lsc fl co) 5 n5 v5) pa_nil))
theorem lb_w3 (T : Txt X.K X.mg) (hr : Room 8 (A.deeper (LamX.lamEnv X lsc s.heap.objs.size fl co))) (n1 : (X.N ++ [("part" : Str)])[1]? = some ("skin_here" : Str)) (n11 : (X.N ++ [("part" : Str)])[11]? = some ("part" : Str)) (v1 : Vis lsc "skin_here") (v11 : Vis lsc "part") (hg : Gl (LamX.lamCxN X ["part"] A outer s H E lsc fl co) "read_round") :
    PE (LamX.lamCxN X ["part"] A outer s H E lsc fl co) (.Call (.Name "read_round" p) [.Name "skin_here" p1, .Name "part" p2] [] pos) (tCall (spReadRd T) [] E (tCons (tVar 1) (tCons (tVar 11) tNil))) :=
  pe_call (CX := L2.CX X.prog X.w) (ok_read_round T) (hr.mono (by decide)) hg T.read_round.g T.read_round.k T.read_round.b .nil lamPN (pa_cons (pv (X := LamX.lamCxN X ["part"] A outer s H E lsc fl co) 1 n1 v1) (pa_cons (pv (X := LamX.lamCxN X ["part"] A outer s H E lsc fl co) 11 n11 v11) pa_nil))
theorem lb_r1 (T : Txt X.K X.mg) (hr : Room 8 (A.deeper (LamX.lamEnv X lsc s.heap.objs.size fl co))) (n6 : X.N[6]? = some ("fresh" : Str)) (v6 : Vis lsc "fresh") (hg : Gl (LamX.lamCx X A outer s H E lsc fl co) "_law_row_told") :
    PE (LamX.lamCx X A outer s H E lsc fl co) (.Call (.Name "_law_row_told" p) [.Name "fresh" p1] [] pos) (tCall (spRowTold T) [] E (tCons (tVar 6) tNil)) :=
  pe_call (CX := L2.CX X.prog X.w) (ok_l_row_told T) (hr.mono (by decide)) hg T.l_row_told.g T.l_row_told.k T.l_row_told.b .nil lamP (pa_cons (pv (X := LamX.lamCx X A outer s H E lsc fl co) 6 n6 v6) pa_nil)
theorem lb_r2 (T : Txt X.K X.mg) (hr : Room 8 (A.deeper (LamX.lamEnv X lsc s.heap.objs.size fl co))) (n8 : (X.N ++ [("part" : Str)])[8]? = some ("part" : Str)) (v8 : Vis lsc "part") (hg : Gl (LamX.lamCxN X ["part"] A outer s H E lsc fl co) "read_skin") :
    PE (LamX.lamCxN X ["part"] A outer s H E lsc fl co) (.Call (.Name "read_skin" p) [.Name "part" p1] [] pos) (tCall (spReadSk T) [] E (tCons (tVar 8) tNil)) :=
  pe_call (CX := L2.CX X.prog X.w) (ok_read_skin T) (hr.mono (by decide)) hg T.read_skin.g T.read_skin.k T.read_skin.b .nil lamPN (pa_cons (pv (X := LamX.lamCxN X ["part"] A outer s H E lsc fl co) 8 n8 v8) pa_nil)
end
theorem sw_word_text {K : PySem.W.Frag} {mg : Str → Option Value} (T : Txt K mg) : Swaps T.word_text.fd "skin" "word" := T.word_text.F.swaps fun _ _ _ _ _ _ _ _ => rfl
theorem sw_read_word {K : PySem.W.Frag} {mg : Str → Option Value} (T : Txt K mg) : Swaps T.read_word.fd "skin" "text" := T.read_word.F.swaps fun _ _ _ _ _ _ _ _ => rfl
theorem sw_read_round {K : PySem.W.Frag} {mg : Str → Option Value} (T : Txt K mg) : Swaps T.read_round.fd "skin" "text" := T.read_round.F.swaps fun _ _ _ _ _ _ _ _ => rfl
end Tt
set_option maxRecDepth 100000
set_option maxHeartbeats 2000000
namespace Tt
open PySem L2
open LamX (Tabs TabS TabB ExtN CodeO tLam Cal withP noP HasP Unp Pins PinsOf IsLam IsLam1 rdP pe_lamV pe_lamV1)
theorem FzT.kpn {D : Dw} {H H' : Hp} {a : Addr} {xs : List V} (h : FzT H a xs) (dr : DrOk D H) (k : KpN D H H') : FzT H' a xs := by
  obtain ⟨o, a2, b2⟩ := h
  exact ⟨o, k.at dr a2 (fun _ z => nomatch z) (fun _ z => nomatch z) (fun _ z => nomatch z), b2⟩
theorem SkAt.kpn {K : PySem.W.Frag} {mg : Str → Option Value} {T : Txt K mg} {D : Dw} {H H' : Hp} {p : Addr} {row : List Int} (h : SkAt T H p row) (dr : DrOk D H) (k : KpN D H H') : SkAt T H' p row := by
  obtain ⟨dx, r, q, h1, ⟨o2, a2, b2⟩, ⟨o3, a3, b3⟩⟩ := h
  exact ⟨dx, r, q, k.at dr h1 (fun _ z => nomatch z) (fun _ z => nomatch z) (fun _ z => nomatch z), ⟨o2, k.at dr a2 (fun _ z => nomatch z) (fun _ z => nomatch z) (fun _ z => nomatch z), b2⟩, ⟨o3, k.at dr a3 (fun _ z => nomatch z) (fun _ z => nomatch z) (fun _ z => nomatch z), b3⟩⟩
theorem SqT.kpn {K : PySem.W.Frag} {D : Dw} {H H' : Hp} {a : Addr} {xs : List V} (h : SqT K H a xs) (dr : DrOk D H) (k : KpN D H H') : SqT K H' a xs := by
  rcases h with (h | ⟨o, h⟩) | h
  · exact .inl (.inl (k.at dr h (fun _ z => nomatch z) (fun _ z => nomatch z) (fun _ z => nomatch z)))
  · exact .inl (.inr ⟨o, k.at dr h (fun _ z => nomatch z) (fun _ z => nomatch z) (fun _ z => nomatch z)⟩)
  · exact .inr h
theorem repS_len (z : Str) (k : Nat) : (repS z k).length = k * z.length := by
  have h : ∀ k : Nat, ((List.replicate k z.cps.toList).flatten).length = k * z.cps.toList.length := fun k => by
    induction k with
    | zero => simp
    | succ k ih => rw [List.replicate_succ, List.flatten_cons, List.length_append, ih, Nat.succ_mul, Nat.add_comm]
  show (((List.replicate k z.cps.toList).flatten).toArray).size = _
  rw [List.size_toArray, h, Array.length_toList]
  rfl
theorem DueW.ext {W : List Int} {b : Bool} {v : V} {H H' : Hp} (h : DueW H W b v) (x : ExtN H H') : DueW H' W b v := by
  cases h with
  | no h => exact .no h
  | tup h hq => exact .tup h (x _ _ hq fun _ z => nomatch z)
section
variable {P : Program} {w : World} {K : PySem.W.Frag} {mg : Str → Option Value} {base : Heap}
def spWordsRight (T : Txt K mg) : Sp := fun vs H Q _ => ∃ (D : Dw) (p : Addr) (row : List Int) (n : Nat), vs = [.ref D.d, .ref p, .int (row.length : Int)] ∧ SkAt T H p row ∧ 1 ≤ n ∧ n ≤ 6 ∧ row.Perm (rgI (2 * n)) ∧ DrOk D H ∧ Tabs (jTs T) H ∧
  ∀ H', DrOk D H' → KpN D H H' → Tabs (jTs T) H' → Q (.bl true) H'
theorem ok_l_words_right (T : Txt K mg) (TBj : TBs T base) : FnG P w K mg base CX0 14 T.l_words_right.a T.l_words_right.fd ["draw", "skin_here", "ends"] (spWordsRight T) := by
  have TB := TBj.w
  have hmT : (T.wP, wQ) ∈ jTs T := by simp
  have hu := hu_w T
  refine T.wF.okG sc_l_words_right (fun vs H Q E h => ?_) (fun A outer s H vs Q E hA hr h => ?_)
  · obtain ⟨D, p, row, n, rfl, _⟩ := h
    rfl
  · obtain ⟨D, p, row, n, rfl, sk, n1, n6, pm, dr, tb, k⟩ := h
    have nd := sc_l_words_right.nd
    have hg := hA
    refine ⟨_, (pss_cons (ps_set (i := 3) nd rfl (Or.inl rfl) (pe_call (ok_l_pick T) (hr.mono (by decide)) (by rfl) T.l_pick.g T.l_pick.k T.l_pick.b .nil pass0 (pa_cons (pv 0) (pa_cons (pe_lst (pa_cons pe_int (pa_cons pe_int (pa_cons pe_int (pa_cons pe_int (pa_cons pe_int (pa_cons pe_int pa_nil))))))) pa_nil))))
    (pss_cons (ps_set (i := 4) nd rfl (Or.inl rfl) (pe_callTy call_tuple_of (by rfl) T.ztuple (by decide +kernel) (pa_cons (pe_lc (own := [("k", 10)]) (g := gName 10) rfl nd (pi_range1 rfl T.zrange (pa_cons (pv 3) pa_nil)) (blkOk_by (own := [("k", 10)]) (N := N_l_words_right) (sc := defScope s_l_words_right) (by decide +kernel)) (fun _ _ _ _ _ => pg_name (i := 10) nd rfl (Or.inl rfl)) (fun _ _ _ _ _ => pts_nil) (fun _ _ _ _ _ => (pe_call (ok_l_take T) (hr.mono (by decide)) (by rfl) T.l_take.g T.l_take.k T.l_take.b .nil pass0 (pa_cons (pv 0) (pa_cons (pv 2) pa_nil))))) pa_nil)))
    (pss_cons (ps_set (i := 5) nd rfl (Or.inr rfl) (pe_call (ok_word_text T) (hr.mono (by decide)) (by rfl) T.word_text.g T.word_text.k T.word_text.b .nil passF (pa_cons (pv 1) (pa_cons (pv 4) pa_nil))))
    (pss_cons (ps_if (PW.pt (pw_or (pt_cmpR op_ne (pv 5) (pe_call (ok_l_spelled T) (hr.mono (by decide)) (by rfl) T.l_spelled.g T.l_spelled.k T.l_spelled.b .nil pass0 (pa_cons (pv 4) pa_nil)) (nomark _)) (pw_or (pt_cmpR op_ne (pe_callSw (ok_word_text T) (hr.mono (by decide)) (by rfl) T.word_text.g T.word_text.k (sw_word_text T) passF (pv 4) (pv 1)) (pv 5) (nomark _)) (pw_or1 (pt_cmpR (op_neD hr.units) (pe_callSw (ok_read_word T) (hr.mono (by decide)) (by rfl) T.read_word.g T.read_word.k (sw_read_word T) passF (pv 5) (pv 1)) (pv 4) (nomark _))))))
      (pss_one (ps_ret pe_bl))
      pss_nil)
    (pss_cons (ps_set (i := 5) nd rfl (Or.inr rfl) (pe_call (ok_l_pick T) (hr.mono (by decide)) (by rfl) T.l_pick.g T.l_pick.k T.l_pick.b .nil pass0 (pa_cons (pv 0) (pa_cons (pe_lst (pa_cons (pv 5) (pa_cons (pe_call (ok_l_bent T) (hr.mono (by decide)) (by rfl) T.l_bent.g T.l_bent.k T.l_bent.b .nil pass0 (pa_cons (pv 0) (pa_cons (pv 5) pa_nil))) (pa_cons (pe_call (ok_l_bent T) (hr.mono (by decide)) (by rfl) T.l_bent.g T.l_bent.k T.l_bent.b .nil pass0 (pa_cons (pv 0) (pa_cons (pe_call (ok_l_bent T) (hr.mono (by decide)) (by rfl) T.l_bent.g T.l_bent.k T.l_bent.b .nil pass0 (pa_cons (pv 0) (pa_cons (pv 5) pa_nil))) pa_nil))) (pa_cons (pe_op op_add_str (pv 5) (pe_op op_repS pe_str pe_int)) pa_nil))))) pa_nil))))
    (pss_cons (ps_if (pt_not (pt_val (pe_callGP (ok_l_is_told T TBj) hg (hr.mono (by decide)) (by rfl) T.l_is_told.g T.l_is_told.k T.l_is_told.b (fun _ => rfl) (pa_cons (pe_lamV (q := wQ) (k := 8) TB rfl rfl hmT hu (LamX.lamS_by (sc := defScope s_l_words_right) (by decide +kernel)) rfl (fun _ _ _ _ _ => rfl) (fun _ _ _ _ _ _ _ hr => lb_w1 T hr rfl rfl (Or.inr (Or.inr rfl)) (Or.inr (Or.inr rfl)) (by rfl))) (pa_cons (pe_call (ok_l_read_word T) (hr.mono (by decide)) (by rfl) T.l_read_word.g T.l_read_word.k T.l_read_word.b .nil pass0 (pa_cons (pv 2) (pa_cons (pv 5) pa_nil))) pa_nil)))))
      (pss_one (ps_ret pe_bl))
      pss_nil)
    (pss_cons (ps_set (i := 6) nd rfl (Or.inl rfl) (pe_call (ok_l_any_round T) (hr.mono (by decide)) (by rfl) T.l_any_round.g T.l_any_round.k T.l_any_round.b .nil pass0 (pa_cons (pv 0) (pa_cons (pv 2) (pa_cons (pe_call (ok_l_pick T) (hr.mono (by decide)) (by rfl) T.l_pick.g T.l_pick.k T.l_pick.b .nil pass0 (pa_cons (pv 0) (pa_cons (pe_lst (pa_cons pe_int (pa_cons pe_int (pa_cons pe_int (pa_cons pe_int pa_nil))))) pa_nil))) pa_nil)))))
    (pss_cons (ps_set (i := 7) nd rfl (Or.inl rfl) (pe_call (ok_l_spelled T) (hr.mono (by decide)) (by rfl) T.l_spelled.g T.l_spelled.k T.l_spelled.b .nil pass0 (pa_cons (pv 6) pa_nil)))
    (pss_cons (ps_if (pt_cmpR (op_neD hr.units) (pe_callSw (ok_read_round T) (hr.mono (by decide)) (by rfl) T.read_round.g T.read_round.k (sw_read_round T) passF (pv 7) (pv 1)) (pv 6) (nomark _))
      (pss_one (ps_ret pe_bl))
      pss_nil)
    (pss_cons (ps_set (i := 8) nd rfl (Or.inl rfl) (pe_lst (pa_cons (pe_call (ok_l_bent T) (hr.mono (by decide)) (by rfl) T.l_bent.g T.l_bent.k T.l_bent.b .nil pass0 (pa_cons (pv 0) (pa_cons (pv 7) pa_nil))) (pa_cons (pe_call (ok_l_bent T) (hr.mono (by decide)) (by rfl) T.l_bent.g T.l_bent.k T.l_bent.b .nil pass0 (pa_cons (pv 0) (pa_cons (pe_call (ok_l_bent T) (hr.mono (by decide)) (by rfl) T.l_bent.g T.l_bent.k T.l_bent.b .nil pass0 (pa_cons (pv 0) (pa_cons (pv 7) pa_nil))) pa_nil))) (pa_cons (pe_op op_add_str (pe_slice sl_str (pv 7) (po_some pe_int) po_none) (pe_slice sl_str (pv 7) po_none (po_some pe_int))) (pa_cons pe_str (pa_cons (pe_op op_repS (pv 7) pe_int) (pa_cons (pe_op op_repS pe_str pe_int) (pa_cons (pe_op op_repS pe_str pe_int) pa_nil)))))))))
    (pss_cons (ps_for PassesOwn.never rfl (pi_list (pv 8)) (pg_name (i := 5) nd rfl (Or.inr rfl))
      (pss_cons (ps_set (i := 9) nd rfl (Or.inl rfl) (pe_call (ok_l_read_round T) (hr.mono (by decide)) (by rfl) T.l_read_round.g T.l_read_round.k T.l_read_round.b .nil pass0 (pa_cons (pv 2) (pa_cons (pv 5) pa_nil))))
      (pss_cons (ps_if (pt_not (pt_val (pe_callGP (ok_l_is_told T TBj) hg (hr.mono (by decide)) (by rfl) T.l_is_told.g T.l_is_told.k T.l_is_told.b (fun _ => rfl) (pa_cons (pe_lamV (q := wQ) (k := 8) TB rfl rfl hmT hu (LamX.lamS_by (sc := defScope s_l_words_right) (by decide +kernel)) rfl (fun _ _ _ _ _ => rfl) (fun _ _ _ _ _ _ _ hr => lb_w2 T hr rfl rfl (Or.inr (Or.inr rfl)) (Or.inr (Or.inr rfl)) (by rfl))) (pa_cons (pv 9) pa_nil)))))
        (pss_one (ps_ret pe_bl))
        pss_nil)
      (pss_one (ps_if (PW.pt (pw_and (pt_val (pe_callB call_isA (by rfl) T.zisinstance (by decide +kernel) (pa_cons (pv 9) (pa_cons (pe_bltn (v := .ty "int") (by rfl) T.zint (by decide +kernel) rfl) pa_nil)))) (pw_and1 (pt_not (pt_val (pe_callGP (ok_l_is_begun T TBj) hg (hr.mono (by decide)) (by rfl) T.l_is_begun.g T.l_is_begun.k T.l_is_begun.b (fun _ => rfl) (pa_cons (pv 0) (pa_cons (pe_lamV1 (a := "part") (q := wQ) (k := 8) TB rfl rfl hmT hu (LamX.lamSN_by (sc := defScope s_l_words_right) (by decide +kernel)) (show (("part") : Str) ∉ N_l_words_right by decide) rfl (fun _ _ _ _ _ _ => rfl) (fun _ _ _ _ _ _ _ hr => lb_w3 T hr rfl rfl (Or.inr (Or.inr rfl)) (Or.inl rfl) (by rfl))) (pa_cons (pv 5) (pa_cons (pv 9) pa_nil))))))))))
        (pss_one (ps_ret pe_bl))
        pss_nil)))))
    (pss_one (ps_ret pe_bl))))))))))))), ?_⟩
    have hlen := perm_len pm
    have h12 : (row.length ≤ 12 ∧ row.length % 2 = 0) := by omega
    generalize hN : row.length = N at h12
    have N2 : 2 ≤ N := by omega
    have big : (5000 : Nat) ≤ sizeLine := by decide
    refine sqn ⟨_, rfl, (by show 6 ≤ sizeLine; decide), fun l0 hl0 => nil_i ⟨D, l0, _, rfl, .inl (SqL.of upd_same), (dr.off hl0).2.1, by simp, (by show 6 < 1073741824; omega), dr.new hl0, fun i sz H1 hn d1 k1 => ?_⟩⟩
    have k01 : Kp D H H1 := (Kp.new hl0).trans k1
    obtain ⟨size, rfl, hsz⟩ : ∃ m : Nat, sz = .int (m : Int) ∧ m ≤ 200 := by
      have hx := List.mem_of_getElem? hn
      simp only [List.mem_cons, List.not_mem_nil, or_false] at hx
      rcases hx with rfl | rfl | rfl | rfl | rfl | rfl
      · exact ⟨0, rfl, by omega⟩
      · exact ⟨1, rfl, by omega⟩
      · exact ⟨5, rfl, by omega⟩
      · exact ⟨40, rfl, by omega⟩
      · exact ⟨199, rfl, by omega⟩
      · exact ⟨200, rfl, by omega⟩
    clear hn k1 hl0
    dsimp only [gName]
    refine sqn ⟨_, rfl, _, rfl, by omega, by omega, fun D1 hD1 => ?_⟩
    have off1 : Off D D1 := d1.off hD1
    refine lc_range (lo := 0) (fun i H' => ∃ ls : List Int, ls.length = i ∧ Lt (N : Int) ls ∧ H' D1 = some (.lst (ls.map V.int)) ∧ DrOk D H' ∧ Kp D H1 H')
      ⟨[], rfl, fun x h => absurd h (by simp), upd_same, d1.new hD1, Kp.new hD1⟩ ?_ ?_
    · rintro i H' hi ⟨ls, hls, hlt2, g1, d7, k7⟩
      refine ⟨rfl, yes_t ?_⟩
      refine ⟨_, rfl, _, rfl, D, (N : Int), rfl, by omega, by omega, d7, fun n H2 n0 n1 d8 k8 => ?_⟩
      refine ⟨_, k8.at off1 g1, by rw [List.length_map]; exact small1000 (by omega), ?_⟩
      refine ⟨ls ++ [n], by rw [List.length_append, hls]; rfl, hlt2.app fun x hx => by rw [List.mem_singleton.mp hx]; exact ⟨n0, n1⟩, ?_, d8.put off1, fun b o hb n1 n2 => ?_⟩
      · rw [upd_same, List.map_append]
        rfl
      · rw [upd_ne (ne_of_none hb hD1)]
        exact k8 _ _ (k7 _ _ hb n1 n2) n1 n2
    rintro H' ⟨ls, hls, ltl, g1, d2, k2⟩
    refine ⟨D1, _, rfl, .inl ⟨SqL.of g1, fun t ht => ?_⟩⟩
    have ll : ls.length ≤ 200 := by omega
    have s3 := same_new (o := .tup (ls.map V.int)) ht
    have e3 : (upd H' t (.tup (ls.map V.int))) t = some (.tup (ls.map V.int)) := upd_same
    have d3 := d2.same s3
    have k3 : Kp D H (upd H' t (.tup (ls.map V.int))) := k01.trans (k2.trans (.of s3))
    generalize upd H' t (.tup (ls.map V.int)) = H3 at e3 d3 k3
    clear g1 d2 k2 s3 ht off1 hD1 d1 k01
    have sk3 := sk.kp dr k3
    have lt12 : ∀ ns : List Int, Lt (N : Int) ns → Lt 12 ns := fun ns h x hx => by
      have := h x hx
      omega
    dsimp only [gName]
    refine sqn ⟨_, rfl, _, rfl, nil_i ⟨_, _, rfl, .inr ⟨p, row, rfl, sk3, by rw [hN]; exact h12, .inr ⟨t, ls, rfl, SqT.of e3, ll, by rw [hN]; exact ltl, fun H4 s4 => ?_⟩⟩⟩⟩
    have e4 := s4 _ _ e3
    have sk4 := sk3.same s4
    dsimp only [gName]
    refine sqn ⟨_, rfl, _, rfl, nil_i ⟨t, ls, rfl, SqT.of e4, ll, lt12 _ ltl, fun H5 s5 => ⟨rfl, _, rfl, ?_⟩⟩⟩
    rw [decide_eq_true rfl]
    have e5 := s5 _ _ e4
    have sk5 := sk4.same s5
    refine iteF ⟨_, rfl, _, rfl, nil_i ⟨_, _, rfl, .inr ⟨p, row, rfl, sk5, by rw [hN]; exact h12, .inr ⟨t, ls, rfl, SqT.of e5, ll, by rw [hN]; exact ltl, fun H6 s6 => ?_⟩⟩⟩⟩
    have e6 := s6 _ _ e5
    have sk6 := sk5.same s6
    refine ⟨_, rfl, rfl, _, rfl, ?_⟩
    rw [decide_eq_true rfl]
    have lw := wr_len ls
    have tk : takeL (row.length : Int) 200 false (wr ls).cps.toList [] = ls := takeL_wr (by omega) (by rw [hN]; exact ltl) ll (fun z => by cases z)
    refine iteF ⟨_, rfl, _, rfl, nil_i ⟨_, _, rfl, .inr ⟨p, row, rfl, sk6, by rw [hN]; exact h12, .inr ⟨wr ls, rfl, by omega, fun _ q H7 s7 hq => ?_, fun z => absurd (by rw [tk, lw]) z⟩⟩⟩⟩
    rw [tk] at hq
    have e7 := s7 _ _ e6
    refine ⟨_, rfl, _, _, .tup (SqT.of hq) (dpAll_ints _ _), .tup (SqT.of e7) (dpAll_ints _ _), shapedTup _, shapedTup _, _, rfl, ?_⟩
    rw [eqv_tups, decide_eq_true rfl]
    refine iteF ?_
    have s37 := s4.trans (s5.trans (s6.trans s7))
    have k7 := k3.trans (Kp.of s37)
    have d7 := d3.same s37
    clear e3 e4 e5 e6 e7 sk3 sk4 sk5 sk6 s4 s5 s6 s7 s37 hq d3 k3 tk
    dsimp only [gName, tNext]
    have lr : (repS (Str.ofString "a") (201 : Int).toNat).length = 201 := by decide +kernel
    have t7 := tabs_kp tb dr k7
    refine sqn ⟨_, rfl, _, rfl, _, rfl, _, rfl, nil_i ⟨D, _, rfl, by omega, d7, fun z1 H8 hz1 d8 k8 => ?_⟩⟩
    refine tcn ⟨_, rfl, tcn ⟨_, rfl, _, rfl, nil_i ⟨D, _, rfl, by omega, d8, fun z2 H9 hz2 d9 k9 => nil_i ⟨D, _, rfl, by omega, d9, fun z3 H10 hz3 d10 k10 => ?_⟩⟩⟩⟩
    refine tcn ⟨_, rfl, ⟨_, _, rfl, rfl, by decide, by decide, by decide, ⟨_, _, rfl, rfl, by rw [lr, lw]; omega, nil_i ?_⟩⟩⟩
    refine ⟨(by show 4 ≤ sizeLine; decide), fun l1 hl1 => nil_i ⟨D, l1, _, rfl, .inl (SqL.of upd_same), (d10.off hl1).2.1, by simp, (by show 4 < 1073741824; omega), d10.new hl1, fun j tx H11 hn d11 k11 => ?_⟩⟩
    obtain ⟨z, rfl, hz⟩ : ∃ z : Str, tx = .str z ∧ z.length ≤ 401 := by
      have hx := List.mem_of_getElem? hn
      simp only [List.mem_cons, List.not_mem_nil, or_false] at hx
      rcases hx with rfl | rfl | rfl | rfl
      · exact ⟨_, rfl, by omega⟩
      · exact ⟨_, rfl, by omega⟩
      · exact ⟨_, rfl, by omega⟩
      · exact ⟨_, rfl, by rw [app_len, lr, lw]; omega⟩
    have k11 : Kp D H H11 := k7.trans (k8.trans (k9.trans (k10.trans ((Kp.new hl1).trans k11))))
    have t11 := tabs_kp tb dr k11
    have sk11 := sk.kp dr k11
    clear hn hl1 k7 k8 k9 k10 d7 d8 d9 d10 hz1 hz2 hz3 t7 lr
    subst hN
    dsimp only [gName]
    refine sqn (ifn_p (tcn ⟨t11, fun v1 G1 x1 u1 il _ => tcn ⟨_, rfl, _, rfl, nil_i ⟨(row.length : Int), z, rfl, by omega, by omega, by omega, fun due H12 s12 dw => nil_i ?_⟩⟩⟩))
    refine told_pin T (il.ext (.of s12)) rfl dw (takeL_most _ [] (Nat.zero_le _)) (fun x hx => ?_) (u1.ext s12) (fun H' E' Q' xx good bad => ?_) (fun H13 x13 t13 => ?_)
    · have := takeL_lt _ [] (fun x hx => by cases hx) x hx
      omega
    · have sk' := skAt_ext (sk11) ((x1.trans (.of s12)).trans xx)
      exact ⟨_, rfl, _, rfl, nil_i ⟨_, _, rfl, .inr ⟨p, row, rfl, sk', h12, .inr ⟨z, rfl, by omega, fun he q H'' s hq => good (decide_eq_true he) q H'' s (SqT.of hq), fun hne => bad (decide_eq_false hne)⟩⟩⟩⟩
    refine ⟨_, rfl, iteF ?_⟩
    have x11 := (x1.trans (.of s12)).trans x13
    have k13 : KpN D H H13 := (KpN.of k11).trans (.ext x11)
    have d13 := drOk_ext d11 x11
    have sk13 := skAt_ext sk11 x11
    clear x1 u1 il s12 dw x13 x11 t11 sk11 k11 d11 hz
    dsimp only [gName, tNext]
    refine sqn ⟨_, rfl, tcn ⟨_, rfl, tcn ⟨_, rfl, (by show 4 ≤ sizeLine; decide), fun l2 hl2 => nil_i ⟨D, l2, _, rfl, .inl (SqL.of upd_same), (d13.off hl2).2.1, by simp, (by show 4 < 1073741824; omega), d13.new hl2, fun j2 mx H14 hn d14 k14 => nil_i ?_⟩⟩⟩⟩
    obtain ⟨m, rfl, m1, m40⟩ : ∃ m : Nat, mx = .int (m : Int) ∧ 1 ≤ m ∧ m ≤ 40 := by
      have hx := List.mem_of_getElem? hn
      simp only [List.mem_cons, List.not_mem_nil, or_false] at hx
      rcases hx with rfl | rfl | rfl | rfl
      · exact ⟨1, rfl, by omega, by omega⟩
      · exact ⟨4, rfl, by omega, by omega⟩
      · exact ⟨12, rfl, by omega, by omega⟩
      · exact ⟨40, rfl, by omega, by omega⟩
    have kp14 : Kp D H13 H14 := (Kp.new hl2).trans k14
    clear hn hl2 k14
    refine ⟨D, (row.length : Int), m, rfl, by omega, by omega, by omega, m1, m40, d14, fun ns q15 H15 rn nl ltn d15 k15 h15 => ?_⟩
    have k13' := kp14.trans k15
    have sk15 := sk13.kp d13 k13'
    dsimp only [gName]
    refine sqn ⟨_, rfl, nil_i ⟨q15, ns, rfl, h15, by omega, lt12 _ ltn, fun H16 s16 => ?_⟩⟩
    have sk16 := sk15.same s16
    have h16 := same_seqT s16 h15
    have lwn := wr_len ns
    have tk : takeL (row.length : Int) 40 true (wr ns).cps.toList [] = ns := takeL_wr (by omega) ltn nl (fun _ => rn.cr.rd)
    have rd : isRd ns = true := decide_eq_true rn
    dsimp only [gName]
    refine sqn ⟨_, rfl, _, rfl, nil_i ⟨_, _, rfl, .inr ⟨p, row, rfl, sk16, h12, .inr ⟨wr ns, rfl, by omega, fun _ q17 H17 s17 hq => ?_, fun z => absurd (by rw [tk, lwn]; exact ⟨rd, rfl⟩) z⟩⟩⟩⟩
    rw [tk] at hq
    refine ⟨_, rfl, _, _, .tup (SqT.of hq) (dpAll_ints _ _), .tup (same_seqT s17 h16) (dpAll_ints _ _), shapedTup _, shapedTup _, _, rfl, ?_⟩
    rw [eqv_tups, decide_eq_true rfl]
    refine iteF ?_
    have k17 : KpN D H H17 := k13.trans (.of (k13'.trans (Kp.of (s16.trans s17))))
    have d17 := d15.same (s16.trans s17)
    have t17 : Tabs (jTs T) H17 := (tabs_kp t13 d13 k13').ext (s16.trans s17)
    clear tk rd hq sk16 sk15 sk13 h15 h16 s16 s17 k13' k15 kp14 d13 d14 d15 t13 k13
    dsimp only [gName, tNext]
    refine sqn ⟨_, rfl, _, rfl, nil_i ⟨D, _, rfl, by omega, d17, fun z1 H18 hz1 d18 k18 => ?_⟩⟩
    refine tcn ⟨_, rfl, tcn ⟨_, rfl, _, rfl, nil_i ⟨D, _, rfl, by omega, d18, fun z2 H19 hz2 d19 k19 => nil_i ⟨D, _, rfl, by omega, d19, fun z3 H20 hz3 d20 k20 => ?_⟩⟩⟩⟩
    have k20' := k18.trans (k19.trans k20)
    clear k18 k19 k20 d18 d19
    refine tcn ⟨_, rfl, (1 : Int), rfl, noPart_i ⟨wr ns, rfl, by omega, ?_⟩⟩
    refine ⟨_, rfl, noPart_i ⟨(1 : Int), rfl, wr ns, rfl, by omega, ?_⟩⟩
    have c1 := cut_from_len (wr ns) 1
    have c2 := cut_to_len (wr ns) 1
    have c3 := app_len (cutS (wr ns) (some ((1 : Nat) : Int)) none) (cutS (wr ns) none (some ((1 : Nat) : Int)))
    refine ⟨_, _, rfl, rfl, (by show (cutS (wr ns) (some ((1 : Nat) : Int)) none).length + (cutS (wr ns) none (some ((1 : Nat) : Int))).length ≤ _; omega), ?_⟩
    refine tcn (tC_i ?_)
    refine tcn ⟨_, rfl, _, _, rfl, rfl, by decide, by decide, by omega, ?_⟩
    refine tcn ⟨_, _, rfl, rfl, by decide, by decide, by decide, ?_⟩
    refine tcn ⟨_, _, rfl, rfl, by decide, by decide, by decide, nil_i ?_⟩
    have r2 := repS_len (wr ns) 2
    have r40 : (repS (Str.ofString "a") (40 : Int).toNat).length = 40 := by decide +kernel
    have r41 : (repS (Str.ofString "a") (41 : Int).toNat).length = 41 := by decide +kernel
    refine ⟨(by show 7 ≤ sizeLine; decide), fun l3 hl3 => ?_⟩
    generalize hxs : ([_, _, _, _, _, _, _] : List V) = xs
    have all : ∀ v ∈ xs, ∃ z : Str, z.length ≤ 200 ∧ v = .str z := fun v hv => by
      rw [← hxs] at hv
      simp only [List.mem_cons, List.not_mem_nil, or_false] at hv
      rcases hv with rfl | rfl | rfl | rfl | rfl | rfl | rfl
      · exact ⟨_, by omega, rfl⟩
      · exact ⟨_, by omega, rfl⟩
      · exact ⟨cutS (wr ns) (some ((1 : Nat) : Int)) none ++ cutS (wr ns) none (some ((1 : Nat) : Int)), by omega, rfl⟩
      · exact ⟨_, by decide, rfl⟩
      · exact ⟨repS (wr ns) 2, by omega, rfl⟩
      · exact ⟨_, by omega, rfl⟩
      · exact ⟨_, by omega, rfl⟩
    clear hxs c1 c2 c3 r2 r40 r41 hz1 hz2 hz3
    have s21 := same_new (o := .lst xs) hl3
    have el : (upd H20 l3 (.lst xs)) l3 = some (.lst xs) := upd_same
    have d21 := d20.new (o := .lst xs) hl3
    have k21 : KpN D H (upd H20 l3 (.lst xs)) := k17.trans (.of (k20'.trans (Kp.of s21)))
    have t21 : Tabs (jTs T) (upd H20 l3 (.lst xs)) := (tabs_kp t17 d17 k20').ext s21
    have off : l3 ≠ D.d ∧ l3 ≠ D.l := by
      have := d20.off hl3
      exact ⟨this.1, this.2.1⟩
    generalize upd H20 l3 (.lst xs) = H21 at el d21 k21 t21
    clear s21 k20' d20 hl3 k17 d17 t17
    dsimp only [gName]
    refine sqn ⟨_, rfl, l3, rfl, ⟨_, SqL.of el⟩, ?_⟩
    refine for_list (K := K) (a := l3) (xs := xs) (fun i σ H' => (∃ v5 v9 : Option V, σ = [some (.ref D.d), some (.ref p), some (.int (row.length : Int)), some (.int (size : Int)), some (.ref t), v5, some (.ref q15), some (.str (wr ns)), some (.ref l3), v9, none]) ∧ KpN D H H' ∧ DrOk D H' ∧ Tabs (jTs T) H' ∧ H' l3 = some (.lst xs))
      ⟨⟨_, _, rfl⟩, k21, d21, t21, el⟩ (fun i σ H' _ z => SqL.of z.2.2.2.2) ?_ ?_
    · rintro i x σ H22 hi ⟨⟨v5, v9, rfl⟩, k22, d22, t22, e22⟩
      obtain ⟨z, hz, rfl⟩ := all x (List.mem_of_getElem? hi)
      dsimp only [gName]
      refine sqn ⟨_, rfl, _, rfl, nil_i ⟨(row.length : Int), z, rfl, by omega, by omega, by omega, fun due H23 s23 dw => ?_⟩⟩
      have k23 := k22.trans (.of (Kp.of s23))
      have d23 := d22.same s23
      have t23 := t22.ext s23
      have e23 := s23 _ _ e22
      clear k22 d22 t22 e22 s23 hi
      have sk23 := sk.kpn dr k23
      dsimp only [gName]
      have wl : (takeL (row.length : Int) 40 true z.cps.toList []).length ≤ 40 := takeL_most _ [] (Nat.zero_le _)
      have wr' : ∀ x ∈ takeL (row.length : Int) 40 true z.cps.toList [], 0 ≤ x ∧ x < 12 := fun x hx => by
        have := takeL_lt _ [] (fun x hx => by cases hx) x hx
        omega
      refine sqn (ifn_p (tcn ⟨t23, fun v1 G1 x1 u1 il _ => tcn ⟨_, rfl, nil_i ?_⟩⟩))
      refine told_pin T il rfl (dw.ext x1) (by omega) wr' u1 (fun H' E' Q' xx good bad => ?_) (fun H24 x24 t24 => ?_)
      · have sk' := skAt_ext sk23 (x1.trans xx)
        refine ⟨_, rfl, _, rfl, nil_i ⟨_, _, rfl, .inr ⟨p, row, rfl, sk', h12, .inr ⟨z, rfl, by omega, fun he q H'' s hq => good (by rw [he.1, decide_eq_true he.2]; rfl) q H'' s (SqT.of hq), fun hne => bad ?_⟩⟩⟩⟩
        cases c1 : isRd (takeL (row.length : Int) 40 true z.cps.toList []) with
        | false => rfl
        | true => exact decide_eq_false fun c2 => hne ⟨c1, c2⟩
      refine ⟨_, rfl, iteF ?_⟩
      have x14 := x1.trans x24
      have k24 := k23.trans (.ext x14)
      have d24 := drOk_ext d23 x14
      have e24 := x14 _ _ e23 (fun _ z => nomatch z)
      have dw24 := dw.ext x14
      clear x1 u1 il dw x24 x14 d23 t23 e23 sk23 k23
      have sk24 := sk.kpn dr k24
      dsimp only [gName, tNext]
      cases dw24 with
      | tup hb hq =>
        refine ⟨_, rfl, isa (.tup (SqT.of hq)) T.kTuI ⟨_, rfl, iteF (iteF ?_)⟩⟩
        exact ⟨⟨_, _, rfl⟩, k24, d24, t24, e24⟩
      | no hb =>
        refine ⟨_, rfl, isa (.int _) kII ⟨_, rfl, iteT ?_⟩⟩
        refine notp (tcn ⟨_, rfl, tcn ⟨t24, fun v1 G1 x1 u1 il _ => tcn ⟨_, rfl, tcn ⟨_, rfl, nil_i ?_⟩⟩⟩⟩)
        refine begun_pin (z := z) (n := (takeL (row.length : Int) 40 true z.cps.toList []).length) T il rfl (drOk_ext d24 x1) (by omega) (by omega) u1 (fun m hm H' E' Q' kk good bad => ?_) (fun H25 d25 kk t25 => ?_)
        · have sk' := SkAt.kpn (skAt_ext sk24 x1) (drOk_ext d24 x1) kk
          obtain ⟨b1, b2⟩ := takeL_beg hm
          refine ⟨_, rfl, _, rfl, nil_i ⟨_, _, rfl, .inr ⟨p, row, rfl, sk', h12, .inr ⟨_, rfl, by omega, fun he q H'' s hq => good _ _ s, fun hne => ?_⟩⟩⟩⟩
          rw [b1]
          exact bad
        · refine ⟨_, rfl, iteF ?_⟩
          have k25 := (k24.trans (.ext x1)).trans kk
          exact ⟨⟨_, _, rfl⟩, k25, d25, t25, kk _ _ (x1 _ _ e24 (fun _ z => nomatch z)) off.1 off.2 (fun _ z => nomatch z)⟩
    · rintro σ H22 ⟨⟨v5, v9, rfl⟩, k22, d22, t22, e22⟩
      exact k H22 d22 k22 t22
end
end Tt
set_option maxRecDepth 100000
set_option maxHeartbeats 2000000
namespace L2
open PySem PySem.Spec PyProof.Rows
theorem pe_xfHK {X : Cx} {K : PySem.W.Frag} (hK : X.K = K) {e : Expr} {te : TE} {pos : Pos} {n : Str} (he : PE X e te) (hb : attributeBase e n X.env (eval e X.env) = eval e X.env := by rfl) :
    PE X (.Attribute e n pos) (tXfH K n te) := by
  subst hK
  exact pe_xfH he hb
def g11 {α : Type} (us ws : List α) : List α := match us, ws with
  | [a], [b] => [a, b]
  | _, _ => []
theorem Fun.k11 {K : PySem.W.Frag} {x qual : Str} {st : Stmt} {f : Addr} {fd : FuncData} {a b : Str} (F : Fun K x qual st f fd)
    (h : ∀ (kV doc pm : Value) (an : Option Addr) (cdv ct u v : Value), bindArgs (PySem.W.fnOf x qual (defArgs st) (defBody st) (defScope st) .none kV doc pm an cdv ct) ⟨[u], [(b, v)]⟩ = pure [(a, u), (b, v)]) : KBinds K fd [a, b] [b] g11 g11 := by
  refine ⟨fun s us ws _ hl => ?_, fun {vs us zs ws} r1 r2 => ?_⟩
  · match us, ws, hl with
    | [u], [v], _ =>
      obtain ⟨oc, od, kV, doc, pm, an, cdv, ct, osl, rfl, lk, hcd⟩ := F.ex
      exact BindsTo.of_eq (h kV doc pm an cdv ct u v)
    | [], _, hl => cases hl
    | [_], [], hl => cases hl
    | [_], _ :: _ :: _, hl => cases hl
    | _ :: _ :: _, _, hl => cases hl
  · cases r1 with
    | nil => exact .nil
    | cons r1 r1' =>
      cases r1' with
      | cons _ _ => exact .nil
      | nil =>
        cases r2 with
        | nil => exact .nil
        | cons r2 r2' =>
          cases r2' with
          | cons _ _ => exact .nil
          | nil => exact .cons r1 (.cons r2 .nil)
end L2
namespace Tt
open PySem L2
open LamX (Tabs TabS TabB ExtN CodeO tLam)
theorem ifn_i {σ : L2.St} {H : Hp} {r : List V → Hp → VK → Prop} {t : TA} {a b : TS} {D : Ends} (h : t σ H fun xs H1 => r xs H1 fun x H2 => ∃ c, x = .bl c ∧ if (!c) = true then a D σ H2 else b D σ H2) : tIfS (tNot (tB (tCB r t))) a b D σ H := h
theorem kb_read_round {K : PySem.W.Frag} {mg : Str → Option Value} (T : Txt K mg) : KBinds K T.read_round.fd ["skin", "text"] ["text"] g11 g11 := T.read_round.F.k11 fun _ _ _ _ _ _ _ _ => rfl
section
variable {X : Cx} {A : Around} {outer : List Env} {s : Shared} {H : Hp} {E : XK} {lsc : Scope} {fl co : Addr} {p p1 p2 p3 p4 pos : Pos} {c c2 d : Nat}
theorem lb_j1 (T : Txt X.K X.mg) (hr : Room 8 (A.deeper (LamX.lamEnv X lsc s.heap.objs.size fl co))) (n1 : X.N[1]? = some ("skin_here" : Str)) (n3 : X.N[3]? = some ("bad" : Str)) (v1 : Vis lsc "skin_here") (v3 : Vis lsc "bad") (hg : Gl (LamX.lamCx X A outer s H E lsc fl co) "word_text") :
    PE (LamX.lamCx X A outer s H E lsc fl co) (.Call (.Name "word_text" p) [.Name "skin_here" p1, .Name "bad" p2] [] pos) (tCall (spWordText T) [] E (tCons (tVar 1) (tCons (tVar 3) tNil))) :=
  pe_call (CX := L2.CX X.prog X.w) (ok_word_text T) (hr.mono (by decide)) hg T.word_text.g T.word_text.k T.word_text.b .nil lamP (pa_cons (pv (X := LamX.lamCx X A outer s H E lsc fl co) 1 n1 v1) (pa_cons (pv (X := LamX.lamCx X A outer s H E lsc fl co) 3 n3 v3) pa_nil))
theorem lb_j2 (T : Txt X.K X.mg) (hr : Room 8 (A.deeper (LamX.lamEnv X lsc s.heap.objs.size fl co))) (n1 : X.N[1]? = some ("skin_here" : Str)) (n4 : X.N[4]? = some ("no" : Str)) (v1 : Vis lsc "skin_here") (v4 : Vis lsc "no") (hg : Gl (LamX.lamCx X A outer s H E lsc fl co) "read_word") :
    PE (LamX.lamCx X A outer s H E lsc fl co) (.Call (.Name "read_word" p) [.Name "skin_here" p1, .Name "no" p2] [] pos) (tCall (spReadWord T) [] E (tCons (tVar 1) (tCons (tVar 4) tNil))) :=
  pe_call (CX := L2.CX X.prog X.w) (ok_read_word T) (hr.mono (by decide)) hg T.read_word.g T.read_word.k T.read_word.b .nil lamP (pa_cons (pv (X := LamX.lamCx X A outer s H E lsc fl co) 1 n1 v1) (pa_cons (pv (X := LamX.lamCx X A outer s H E lsc fl co) 4 n4 v4) pa_nil))
theorem lb_j3 (T : Txt X.K X.mg) (hr : Room 8 (A.deeper (LamX.lamEnv X lsc s.heap.objs.size fl co))) (n1 : X.N[1]? = some ("skin_here" : Str)) (n4 : X.N[4]? = some ("no" : Str)) (v1 : Vis lsc "skin_here") (v4 : Vis lsc "no") (hg : Gl (LamX.lamCx X A outer s H E lsc fl co) "read_round") :
    PE (LamX.lamCx X A outer s H E lsc fl co) (.Call (.Name "read_round" p) [.Name "skin_here" p1] [⟨some "text", .Name "no" p2, p3⟩] pos) (tCallK (spReadRd T) g11 E (tCons (tVar 1) tNil) (tCons (tVar 4) tNil)) :=
  L2.pe_callK (CX := L2.CX X.prog X.w) (ok_read_round T) (hr.mono (by decide)) hg T.read_round.g T.read_round.k (kb_read_round T) lamP (pa_cons (pv (X := LamX.lamCx X A outer s H E lsc fl co) 1 n1 v1) pa_nil) (pk_cons (pv (X := LamX.lamCx X A outer s H E lsc fl co) 4 n4 v4) pk_nil)
theorem lb_j4 (T : Txt X.K X.mg) (hr : Room 8 (A.deeper (LamX.lamEnv X lsc s.heap.objs.size fl co))) (n4 : X.N[4]? = some ("no" : Str)) (v4 : Vis lsc "no") (hg : Gl (LamX.lamCx X A outer s H E lsc fl co) "read_skin") :
    PE (LamX.lamCx X A outer s H E lsc fl co) (.Call (.Name "read_skin" p) [.Name "no" p2] [] pos) (tCall (spReadSk T) [] E (tCons (tVar 4) tNil)) :=
  pe_call (CX := L2.CX X.prog X.w) (ok_read_skin T) (hr.mono (by decide)) hg T.read_skin.g T.read_skin.k T.read_skin.b .nil lamP (pa_cons (pv (X := LamX.lamCx X A outer s H E lsc fl co) 4 n4 v4) pa_nil)
theorem lb_j5 (T : Txt X.K X.mg) (hr : Room 8 (A.deeper (LamX.lamEnv X lsc s.heap.objs.size fl co))) (n3 : X.N[3]? = some ("bad" : Str)) (v3 : Vis lsc "bad") (hg : Gl (LamX.lamCx X A outer s H E lsc fl co) "word_text") :
    PE (LamX.lamCx X A outer s H E lsc fl co) (.Call (.Name "word_text" p) [.Constant .none c p1, .Name "bad" p2] [] pos) (tCall (spWordText T) [] E (tCons (tC .non) (tCons (tVar 3) tNil))) :=
  pe_call (CX := L2.CX X.prog X.w) (ok_word_text T) (hr.mono (by decide)) hg T.word_text.g T.word_text.k T.word_text.b .nil lamP (pa_cons pe_non (pa_cons (pv (X := LamX.lamCx X A outer s H E lsc fl co) 3 n3 v3) pa_nil))
theorem lb_j6 (T : Txt X.K X.mg) (hr : Room 8 (A.deeper (LamX.lamEnv X lsc s.heap.objs.size fl co))) (hg : Gl (LamX.lamCx X A outer s H E lsc fl co) "skin_text") :
    PE (LamX.lamCx X A outer s H E lsc fl co) (.Call (.Name "skin_text" p) [.Tuple [.Constant (.int 0) c p1, .Constant (.int 1) c2 p2] d p3] [] pos) (tCall (spSkinText T) [] E (tCons (tTup (tCons (tC (.int 0)) (tCons (tC (.int 1)) tNil))) tNil)) :=
  pe_call (CX := L2.CX X.prog X.w) (ok_skin_text T) (hr.mono (by decide)) hg T.skin_text.g T.skin_text.k T.skin_text.b .nil lamP (pa_cons (pe_tup (pa_cons pe_int (pa_cons pe_int pa_nil))) pa_nil)
theorem lb_j7 (T : Txt X.K X.mg) (hr : Room 8 (A.deeper (LamX.lamEnv X lsc s.heap.objs.size fl co))) (n4 : X.N[4]? = some ("no" : Str)) (v4 : Vis lsc "no") (hg : Gl (LamX.lamCx X A outer s H E lsc fl co) "read_word") :
    PE (LamX.lamCx X A outer s H E lsc fl co) (.Call (.Name "read_word" p) [.Constant .none c p1, .Name "no" p2] [] pos) (tCall (spReadWord T) [] E (tCons (tC .non) (tCons (tVar 4) tNil))) :=
  pe_call (CX := L2.CX X.prog X.w) (ok_read_word T) (hr.mono (by decide)) hg T.read_word.g T.read_word.k T.read_word.b .nil lamP (pa_cons pe_non (pa_cons (pv (X := LamX.lamCx X A outer s H E lsc fl co) 4 n4 v4) pa_nil))
theorem lb_j8 (T : Txt X.K X.mg) (hr : Room 8 (A.deeper (LamX.lamEnv X lsc s.heap.objs.size fl co))) (n4 : X.N[4]? = some ("no" : Str)) (v4 : Vis lsc "no") (hg : Gl (LamX.lamCx X A outer s H E lsc fl co) "read_round") :
    PE (LamX.lamCx X A outer s H E lsc fl co) (.Call (.Name "read_round" p) [.Constant (.str "a") c p1, .Name "no" p2] [] pos) (tCall (spReadRd T) [] E (tCons (tC (.str "a")) (tCons (tVar 4) tNil))) :=
  pe_call (CX := L2.CX X.prog X.w) (ok_read_round T) (hr.mono (by decide)) hg T.read_round.g T.read_round.k T.read_round.b .nil lamP (pa_cons pe_str (pa_cons (pv (X := LamX.lamCx X A outer s H E lsc fl co) 4 n4 v4) pa_nil))
end
end Tt
set_option maxRecDepth 100000
set_option maxHeartbeats 4000000
namespace L2
open PySem PySem.Spec PyProof.Rows
section
variable {X : Cx}
def Back (X : Cx) (s : Shared) (G : Hp) (scope : Scope) (ce : Env) (fp : List Addr) (pins : List (Addr × Obj)) (σ : St) : Prop :=
  ∀ (qs : List (Addr × Obj)) (τ : St) (G' : Hp) (s' : Shared), Inv (X.blk s G scope ce fp) qs τ G' s' → Inv X pins σ G' s'
theorem pe_lcI {el tg iter : Expr} {ifs : List Expr} {scope : Scope} {own : List (Str × Nat)} {pos : Pos} {wi : TI} {g : TG} {tt : St → TT} {tl : TE} (calm : X.calm = true) (hN : X.N.Nodup) (it0 : PI X tg iter wi) (ok : BlkOk X.N X.env.scope scope own)
    (rg : ∀ (s : Shared) (H : Hp) (C : Addr) (cl : List (Str × Addr)) (fp : List Addr), PG (X.blk s H scope (compEnvC scope cl C X.env) fp) tg g)
    (rt : ∀ (s : Shared) (H : Hp) (C : Addr) (cl : List (Str × Addr)) (fp : List Addr) (pins : List (Addr × Obj)) (σ : St), Back X s H scope (compEnvC scope cl C X.env) fp pins σ → PTs (X.blk s H scope (compEnvC scope cl C X.env) fp) ifs (tt σ))
    (rl : ∀ (s : Shared) (H : Hp) (C : Addr) (cl : List (Str × Addr)) (fp : List Addr), PE (X.blk s H scope (compEnvC scope cl C X.env) fp) el tl) (fold : ∀ x, foldedSetIterable iter X.env x = pure x := by intro _; rfl) :
    PE X (.ListComp el [⟨tg, iter, ifs, 0⟩] scope pos) (fun σ H Q => tLc wi g (tt σ) tl (own.map (·.2)) σ H Q) := by
  refine ⟨fun pins s σ H Q I hyp => ?_⟩
  rw [eval_ListComp]
  have capt : ∀ y ∈ scope.names, y.2 = .free → ∃ c, X.env.cells.lookup y.1 = some c := fun y hy e => (ok.free y hy e).elim (fun k => I.ok.has _ (.inl k)) fun k => I.ok.has _ (.inr k)
  refine wpAny_comprehension_free rfl fold (closure_ok capt) ok.kind (fun y hy e => by rw [ok.uniq y hy, e]) (thn (it0.run pins s σ H _ I hyp) fun xv sa ha => thn ha fun iv sb hb => ?_)
  obtain ⟨it, fp, tn, J, G, ev, IG, T, stb, fb, want⟩ := hb
  subst ev
  refine wpAny_newObj_type (newEnv_comp ?_) (by show 0 ≤ sizeLine; decide)
  generalize hD : sb.heap.objs.size = D
  obtain ⟨W, ⟨m0, w0⟩, turn⟩ := want D (IG.hok.fresh (Nat.le_of_eq hD))
  generalize hsc : ({ sb with heap := sb.heap.push { cls := .type "list", data := .seq ([] : List Value).toArray } } : Shared) = sc
  have hc : sc.heap = sb.heap.push { cls := .type "list", data := .seq ([] : List Value).toArray } := by rw [← hsc]
  have IC : Inv X pins σ (upd G D (.lst [])) sc := by
    rw [← hsc]
    refine IG.laid (t' := sb.toks) (fun b o e => Heap.get?_push_of_some _ e) (Nat.le_of_eq hD) ?_
    rw [← hD]
    exact ⟨Nat.zero_le _, [], 0, .nil, Heap.get?_push_size _ rfl⟩
  have under : ∀ b ∈ fp, b < sb.heap.objs.size := fun b hb => let ⟨_, e, _⟩ := T.obj _ _ stb b hb; Heap.lt_size e
  have fc : ∀ b ∈ fp, FpOk X pins (upd G D (.lst [])) b ∧ b < sc.heap.objs.size := fun b hb => by
    have lt := under b hb
    refine ⟨⟨(upd_ne (hD ▸ Nat.ne_of_lt lt)).trans (fb b hb).1, (fb b hb).2⟩, ?_⟩
    rw [hc, Heap.size_push]
    exact Nat.lt_succ_of_lt lt
  have stc : tn 0 sc.heap := T.keep _ _ _ stb fun b _ o e => hc ▸ Heap.get?_push_of_some _ e
  have ID := block_start IC ok hN fc
  have backI : Back X sc (upd G D (.lst [])) scope (compEnvC scope (cellsFrom (sc.heap.objs.size + 1) scope.names (cloFrom X.env.cells scope.names [])) sc.heap.objs.size X.env) fp pins σ := fun qs τ G' s' J' =>
    IC.call' (ch := fp) J'.os J'.base J'.hok J'.bare fun b hb => let ⟨f, _⟩ := fc b hb; ⟨f.2.2.2.1, f.2.1, f.2.2.2.2.1, f.2.2.2.2.2⟩
  have pg := rg sc (upd G D (.lst [])) sc.heap.objs.size (cellsFrom (sc.heap.objs.size + 1) scope.names (cloFrom X.env.cells scope.names [])) fp
  have pt := rt sc (upd G D (.lst [])) sc.heap.objs.size (cellsFrom (sc.heap.objs.size + 1) scope.names (cloFrom X.env.cells scope.names [])) fp pins σ backI
  have pl := rl sc (upd G D (.lst [])) sc.heap.objs.size (cellsFrom (sc.heap.objs.size + 1) scope.names (cloFrom X.env.cells scope.names [])) fp
  show codeAny _ _ (.compStart (.ListComp el [⟨tg, iter, ifs, 0⟩] scope pos) 0 (.ref it) (.ref D) (compEnvC scope (cellsFrom (sc.heap.objs.size + 1) scope.names (cloFrom X.env.cells scope.names [])) sc.heap.objs.size X.env)) (compPost (model X.prog X.w) X.A X.xe _ _ (.ref D) sc.heap.objs.size) { sc with heap := pushCells (sc.heap.push { cls := .type "dict", data := .dict #[] }) scope.names }
  have away : ∀ b ∈ fp, (upd G D (.lst [])) b = none := fun b hb => (fc b hb).1.1
  generalize hce : compEnvC scope (cellsFrom (sc.heap.objs.size + 1) scope.names (cloFrom X.env.cells scope.names [])) sc.heap.objs.size X.env = ce at ID pg pt pl ⊢
  have loc : ce.locals = sc.heap.objs.size := by subst hce; rfl
  clear backI
  generalize hG1 : upd G D (.lst []) = G1 at IC ID pg pt pl w0 away fc
  generalize hsd : ({ sc with heap := pushCells (sc.heap.push { cls := .type "dict", data := .dict #[] }) scope.names } : Shared) = sd at ID ⊢
  have std : tn 0 sd.heap := T.keep _ _ _ stc fun b _ o e => hsd ▸ pushCells_keeps _ _ _ _ (Heap.get?_push_of_some _ e)
  have pinned : ∀ {τ : St} {G' : Hp} {s' : Shared}, Inv (X.blk sc G1 scope ce fp) [] τ G' s' → (∀ b ∈ fp, G' b = none) → ∀ b ∈ fp, FpOk (X.blk sc G1 scope ce fp) [] G' b := fun {τ G' s'} J' hn b hb =>
    ⟨hn b hb, (J'.ok.exf b hb).1, J'.ok.exfs b hb, .inl hb, fun x c e => (J'.ok.exf b hb).2 x c e, fun p hp => absurd (show p ∈ ([] : List (Addr × Obj)) ++ [] from hp) (by simp)⟩
  have loop : codeAny (model X.prog X.w) X.A (.compLoop (.ListComp el [⟨tg, iter, ifs, 0⟩] scope pos) 0 (.ref it) (.ref D) ce) (compPost (model X.prog X.w) X.A X.xe none (EP X pins σ Q) (.ref D) sc.heap.objs.size) sd := by
    refine compLoop_any (fun n s' => ∃ i G', Inv (X.blk sc G1 scope ce fp) [] (wipe σ (own.map (·.2))) G' s' ∧ (∀ b ∈ fp, G' b = none) ∧ tn i s'.heap ∧ W i n G') ?_ m0 ⟨0, G1, ID, away, std, w0⟩
    rintro n se ⟨i, G5, IE, ne, ste, we⟩
    rcases turn i n G5 we with ⟨stop, fin⟩ | ⟨more, Nx, down, step⟩
    · refine thnF (T.done (X.blk sc G1 scope ce fp) rfl rfl rfl calm i [] se _ G5 (fun _ _ => False) IE (pinned IE ne) ste stop) fun r sf ⟨er, IF⟩ => ?_
      subst er
      have back : Inv X pins σ G5 sf := IC.call' (ch := fp) IF.os IF.base IF.hok IF.bare fun b hb => let ⟨f, _⟩ := fc b hb; ⟨f.2.2.2.1, f.2.1, f.2.2.2.2.1, f.2.2.2.2.2⟩
      have nl : G5 sc.heap.objs.size = none := loc ▸ (show G5 ce.locals = none from IF.free)
      obtain ⟨m, hn, _⟩ := IF.loc
      have ns : sf.heap.Ns sc.heap.objs.size m := loc ▸ (show sf.heap.Ns ce.locals m from hn)
      obtain ⟨f0, f1, f2, f3, f4, f5⟩ := IC.fpOk (Nat.le_refl _) nl
      exact ⟨m, ns, fun h2 same => ⟨.ref D, G5, back.turned (t' := sf.toks) (fun b o nb e => (same.2 b nb).trans e) f0 f1 f3 f4 f5, rfl, fin⟩⟩
    · refine thnF (T.item (X.blk sc G1 scope ce fp) rfl rfl rfl calm i [] se _ G5 (fun _ _ => False) IE (pinned IE ne) ste more) fun r sf ⟨u, er, hf⟩ => ?_
      subst er
      refine thnF hf fun _ sg ⟨x, G7, I7, r7, y7, st7, n7⟩ => ?_
      have obs := T.obj _ _ st7
      refine thnF (pg.run _ sg _ G7 x u _ (I7.pinned (pinned I7 n7) obs) r7 (step x G7 y7)) fun _ sh ⟨τ, G8, I8, same8, q8⟩ => ?_
      refine thnF (pt.run _ sh τ G8 _ I8 q8) fun b si ⟨G9, I9, q9⟩ => ?_
      have next : ∀ {s' : Shared} {G' : Hp}, Inv (X.blk sc G1 scope ce fp) ([] ++ pinsAt fp sg.heap) τ G' s' → Nx G' → ∃ m, m < n ∧ ∃ i G', Inv (X.blk sc G1 scope ce fp) [] (wipe σ (own.map (·.2))) G' s' ∧ (∀ b ∈ fp, G' b = none) ∧ tn i s'.heap ∧ W i m G' := fun {s' G'} J' nx => by
        obtain ⟨m', lt, w'⟩ := down G' nx
        have kept : ∀ b ∈ fp, ∀ o, sg.heap.get? b = some o → s'.heap.get? b = some o ∧ G' b = none := fun b hb o e => by
          have p := J'.pin (b, o) (List.mem_append_right _ (List.mem_append_right _ (mem_pinsAt hb e)))
          exact ⟨p.1, p.2.1⟩
        refine ⟨m', lt, i + 1, G', (J'.unpinned (pins := [])).weak (by rw [← same8, wipe_length]) (fun j v e => (wipe_some (same8.symm ▸ e)).1), fun b hb => ?_, T.keep _ _ _ st7 fun b hb o e => (kept b hb o e).1, w'⟩
        obtain ⟨o, e, _⟩ := obs b hb
        exact (kept b hb o e).2
      cases b with
      | false => exact next I9 q9
      | true =>
        refine thnF (pl.run _ si τ G9 _ I9 q9) fun z1 sj ⟨yl, Ga, Ia, ra, acc, eD, small, nx⟩ => ?_
        exact app_ok (X := X.blk sc G1 scope ce fp) Ia eD small ra fun sl Il => next Il nx
  exact codeAny_compStart_list loop (T.self X.A 0 _ _ _ std loop)
theorem call_isAK {K : PySem.W.Frag} (h : X.K = K) : CallR X (.builtin "isinstance") (rIsA K) := by
  subst h
  exact call_isA
end
end L2
namespace LamX
open PySem PySem.Spec PyProof.Rows L2
def tCallLamI (X : Cx) (σ0 : L2.St) (k : Nat) (q : Str) (TT : (XK → Hp → VK → Prop) → Hp → VK → Prop) (te : TE) : TE := fun τ H Q => te τ H fun v G => ∃ t : XK → TE, IsLam X k q t G v ∧ TT (fun E H' Q' => t E σ0 H' Q') G Q
theorem pe_callLamI {X : Cx} {s0 : Shared} {H0 : Hp} {scope : Scope} {ce : Env} {fp : List Addr} {ps0 : List (Addr × Obj)} {σ0 : L2.St} {TT : (XK → Hp → VK → Prop) → Hp → VK → Prop} {x a q : Str} {g : Addr} {k : Nat} {pg : Arguments} {bg : List Stmt} {sg : Scope} {dV kV doc pm cdv ct oc : Value} {an od : Option Addr} {osl : Array (Option Value)} {names : List Str}
    {e : Expr} {te : TE} {p pos : Pos} (bk : Back X s0 H0 scope ce fp ps0 σ0) (he : PE (X.blk s0 H0 scope ce fp) e te) (hg : Gl (X.blk s0 H0 scope ce fp) x) (hm : X.mg x = some (.ref g)) (hk : PySem.W.keepIn X.K (.ref g) = true)
    (lk : X.K.lookup g = some ⟨oc, od, .func (PySem.W.fnOf x x pg bg sg dV kV doc pm an cdv ct), osl⟩) (hcg : PySem.W.codeIn X.K cdv x = true) (hb : L2.Binds X.K (PySem.W.fnOf x x pg bg sg dV kV doc pm an cdv ct) [a] []) (Sg : FnScope names [a] sg) (at_ : names[0]? = some a) (vis : Vis sg a)
    (gives : GivesToV X names x sg g cdv bg a TT) (eq : X.env.qual ++ "<lambda>" = q) (hr : Room (k + 2) X.A)
    (hs : starEach [e] ce = [(false, eval e ce)] := by rfl)
    (n0 : (x == ("__debug__" : Str)) = false := by decide) (n1 : (a == ("__debug__" : Str)) = false := by decide) (n2 : (a == ("__classdict__" : Str)) = false := by decide) (hpl : (backTo pos (starEach ([] : List Expr) ce)).any (·.1) = false := by rfl) :
    PE (X.blk s0 H0 scope ce fp) (.Call (.Name x p) [e] [] pos) (tCallLamI X σ0 k q TT te) := by
  subst eq
  refine ⟨fun pins s τ H Q I hyp => ?_⟩
  refine wpAny_Call_Name_kw (ld_glob I hg hm ?_ n0)
  refine PySem.W.callWith_K (h₀ := X.base) I.ok.mod.kin hk ?_ hs hpl
  rw [hs]
  refine Calls.spliced_cons (thn (he.run pins s τ H _ I hyp) fun u s' ⟨v, G, J, ru, t, ⟨fl, co, o, ev, f1, f2, fc⟩, want⟩ => ?_)
  subst ev
  obtain rfl : u = Value.ref fl := ru
  obtain ⟨ps, bd, lsc, rfl, L, noArgs, body⟩ := f2.ex
  refine Calls.spliced_nil ⟨J.kIn, ?_⟩
  have J0 := bk _ _ _ _ J
  have run : codeAny (model X.prog X.w) X.A (.call (.ref g) ⟨[.ref fl], []⟩) (CR C8.CX0 X.stack X.prog X.w G s' Q C8.E0) s' := by
    refine run_ofS (N := names) (ps := [a]) (us := [.ref fl]) (vs := [.ref fl]) lk hcg Sg hr J0.env0 (hb s' [.ref fl] J0.kIn rfl) (.cons rfl .nil) rfl fun hr' => ?_
    obtain ⟨t', ht', hq'⟩ := gives fl s' G Q (fun E G' Q' => t E σ0 G' Q') (fun G => G fl = some (LamO fl co (X.env.qual ++ "<lambda>") ps bd lsc (cloFrom X.env.cells lsc.names [])) ∧ G co = some (CodeO co (X.env.qual ++ "<lambda>")))
      (fun W pn xe Ew p1 p2 tk wish => ⟨fun pz sz τ2 G2 Q2 J2 hyp2 => (act_known (i := 0) J0 L (fun _ _ => noArgs _ _ _ _ _) tk wish hr' (fun E A outer s H room => body A outer s H E room) at_ vis n1 n2).run pz sz τ2 G2 Q2 J2 ⟨hyp2.1, hyp2.2.1.1, hyp2.2.1.2, hyp2.2.2⟩⟩) ⟨f1, fc⟩ want
    exact ⟨t', ht'.nox, hq'⟩
  refine wpAny_call (codeAny_mono run fun r s2 q => ?_)
  match r with
  | .error e => exact (show False from q).elim
  | .ok (.ret u) => exact J.after q
  | .ok .next => exact False.elim q
  | .ok .brk => exact False.elim q
  | .ok .cont => exact False.elim q
end LamX
set_option maxRecDepth 100000
set_option maxHeartbeats 2000000
namespace Tt
open PySem L2
open LamX (Tabs TabS TabB ExtN CodeO tLam)
def Ever (D : Dw) (G : Hp) (Z : Hp → Prop) : Prop := ∀ H, KpN D G H → Z H
theorem Ever.go {D : Dw} {G G' : Hp} {Z : Hp → Prop} (h : Ever D G Z) (k : KpN D G G') : Ever D G' Z := fun H k2 => h H (k.trans k2)
def Es (C : Addr) (nm : Str) (H : Hp) (xs : List V) : Prop := ∀ v ∈ xs, ∃ a d, v = .ref a ∧ H a = some (exh (.ref C) (some d) a) ∧ H d = some (.xd [(nm, .non)])
theorem exh_tbl {cls : Value} {d : Option Addr} {a : Addr} (ps : Array Value) : exh cls d a ≠ .tbl ps := fun z => by
  unfold exh at z
  cases z
theorem exh_lst {cls : Value} {d : Option Addr} {a : Addr} (zs : List V) : exh cls d a ≠ .lst zs := fun z => by
  unfold exh at z
  cases z
section
variable {C : Addr} {nm : Str} {H H' : Hp} {xs : List V}
theorem Es.ext (h : Es C nm H xs) (e : ExtN H H') : Es C nm H' xs := fun v hv => by
  obtain ⟨a, d, h0, h1, h2⟩ := h v hv
  exact ⟨a, d, h0, e _ _ h1 exh_tbl, e _ _ h2 fun _ z => nomatch z⟩
theorem Es.put {l : Addr} {zs : List V} {o : HO} (h : Es C nm H xs) (e : H l = some (.lst zs)) : Es C nm (upd H l o) xs := fun v hv => by
  obtain ⟨a, d, h0, h1, h2⟩ := h v hv
  refine ⟨a, d, h0, ?_, ?_⟩
  · rw [upd_ne]
    · exact h1
    · intro z
      rw [z, e] at h1
      exact exh_lst _ (Option.some.inj h1).symm
  · rw [upd_ne]
    · exact h2
    · intro z
      rw [z, e] at h2
      cases h2
theorem Es.one {a d : Addr} (h1 : H a = some (exh (.ref C) (some d) a)) (h2 : H d = some (.xd [(nm, .non)])) : Es C nm H [.ref a] := fun v hv => by
  rw [List.mem_singleton.mp hv]
  exact ⟨a, d, rfl, h1, h2⟩
theorem Es.app {ys : List V} (h : Es C nm H xs) (g : Es C nm H ys) : Es C nm H (xs ++ ys) := fun v hv => (List.mem_append.mp hv).elim (h v) (g v)
end
theorem extN_fresh {H H' : Hp} {f : Addr} (e : ExtN H H') (n : H' f = none) : ∀ u, H f = some u → ∃ ps, u = .tbl ps := fun u h => Classical.byContradiction fun z => by
  have := e f u h fun ps q => z ⟨ps, q⟩
  rw [n] at this
  cases this
section
variable {P : Program} {w : World} {K : PySem.W.Frag} {mg : Str → Option Value} {base : Heap}
theorem exm_S (T : Txt K mg) : PySem.W.exmOne K (.ref T.BadSkin.C) (.ref T.RoundError.C) = some true := PySem.W.exm_ref T.RoundError.ec.hs T.RoundError.ec.hd T.RoundError.ty T.sSR
theorem exm_W (T : Txt K mg) : PySem.W.exmOne K (.ref T.BadWord.C) (.ref T.RoundError.C) = some true := PySem.W.exm_ref T.RoundError.ec.hs T.RoundError.ec.hd T.RoundError.ty T.sWR
theorem app_step {T : Txt K mg} {C wl : Addr} {nm : Str} {xs : List V} {rd : XK → TE} {rest : TS} {D : Ends} {σ : L2.St} {H G : Hp} (h5 : σ[5]? = some (some (.ref wl))) (ew : H wl = some (.lst xs)) (nw : ∀ u, G wl = some u → ∃ ps, u = .tbl ps) (x : ExtN G H) (t : Tabs (jTs T) H) (es : Es C nm H xs) (hl : xs.length ≤ 10) (hx : PySem.W.exmOne K (.ref C) (.ref T.RoundError.C) = some true)
    (rd1 : ∀ (H1 : Hp) (E : XK) (Q : VK), ExtN G H1 → (∀ d H2, Same H1 H2 → H2 d = some (.xd [(nm, .non)]) → E (.ref C) (some d) H2) → rd E σ H1 Q)
    (next : ∀ (ys : List V) (H2 : Hp), ys.length = xs.length + 1 → H2 wl = some (.lst ys) → ExtN G H2 → Tabs (jTs T) H2 → Es C nm H2 ys → rest D σ H2) :
    tSeq (tDrop (tBM K "list" rAppend (tVar 5) (tCons (tLam (jTs T) (TTc K T.RoundError.C) rd) tNil))) rest D σ H := by
  refine sqn ⟨_, h5, .inl ⟨rfl, _, SqL.of ew⟩, t, fun H1 x1 t1 => rd1 H1 _ _ (x.trans x1) fun d H2 s2 hd => ⟨hx, fun a ha => ?_⟩⟩
  have s3 := s2.trans (same_new (o := exh (.ref C) (some d) a) ha)
  have ea : (upd H2 a (exh (.ref C) (some d) a)) a = some (exh (.ref C) (some d) a) := upd_same
  have ed := same_new (o := exh (.ref C) (some d) a) ha _ _ hd
  have e3 := s3 _ _ (x1 _ _ ew (fun _ z => nomatch z))
  have es3 := (es.ext x1).ext (.of s3)
  have x3 := (x.trans x1).trans (.of s3)
  have t3 := t1.ext s3
  generalize upd H2 a (exh (.ref C) (some d) a) = H3 at ea ed e3 es3 x3 t3
  refine nil_i ⟨wl, _, _, rfl, rfl, e3, (by have big : (5000 : Nat) ≤ sizeLine := by decide
                                            omega), ?_⟩
  exact next (xs ++ [.ref a]) _ (by simp) upd_same (extN_putF x3 nw) (tabs_put t3 e3) ((es3.app (Es.one ea ed)).put e3)
theorem ift_op {r : R2} {ta tb : TE} {a b : TS} {D : Ends} {σ : L2.St} {H : Hp} (h : ta σ H fun x H1 => tb σ H1 fun y H2 => r x y H2 fun v H3 => ∃ c, v = .bl c ∧ if c = true then a D σ H3 else b D σ H3) : tIfS (tTest (tOp r ta tb)) a b D σ H := h
theorem ret_op {r : R2} {ta tb : TE} {D : Ends} {σ : L2.St} {H : Hp} (h : ta σ H fun x H1 => tb σ H1 fun y H2 => r x y H2 D.rt) : tRet (tOp r ta tb) D σ H := h
theorem lc_no {C wl : Addr} {nm : Str} {ys : List V} {H : Hp} {Q : VK} {v0 v1 v2 v3 v4 v6 : Option V} (ec : ExcC K C) (kc : PySem.W.kitOne K (.ref C) (.ref C) = some true) (xf : XfC K C) (nn : PySem.W.findIn K (.ref C) nm = some none) (es : Es C nm H ys) (ew : H wl = some (.lst ys))
    (k : ∀ D H', H' D = some (.lst []) → Same H H' → Q (.ref D) H') :
    tLc (iList K (tVar 5)) (gName 6) (tOr (tNot (tB (tCB (rIsA K) (tCons (tVar 6) (tCons (tC (.ref C)) tNil))))) (tTest (tOp (fun x y H Q => y = V.non ∧ Q (V.bl !decide (x = V.non)) H) (tXfH K nm (tVar 6)) (tC V.non)))) (tC (V.int 1)) [6] [v0, v1, v2, v3, v4, some (.ref wl), v6] H Q := by
  refine ⟨_, rfl, wl, rfl, ⟨_, SqL.of ew⟩, fun D1 hD1 => lc_list (K := K) (a := wl) (xs := ys) (fun i H' => H' D1 = some (.lst []) ∧ Same H H') ⟨upd_same, same_new hD1⟩ (fun i H' _ z => SqL.of (z.2 _ _ ew)) ?_ ?_⟩
  · rintro i y H' hi ⟨h1, s1⟩
    obtain ⟨a, d, rfl, ha, hd⟩ := es y (List.mem_of_getElem? hi)
    refine ⟨rfl, ?_⟩
    refine ⟨_, rfl, .inl ⟨a, C, some d, _, _, true, rfl, s1 _ _ ha, .inr ⟨d, _, rfl, s1 _ _ hd⟩, ec, .own C, kc, _, rfl, iteF ?_⟩⟩
    refine ⟨_, rfl, a, C, d, _, .non, rfl, s1 _ _ ha, s1 _ _ hd, xf, nn, by simp, rfl, _, rfl, ?_⟩
    exact iteF ⟨h1, s1⟩
  · rintro H' ⟨h1, s1⟩
    exact k D1 H' h1 s1
def spRefused (T : Txt K mg) : Sp := fun vs H Q _ => ∃ (D : Dw) (p : Addr) (row : List Int) (n : Nat), vs = [.ref D.d, .ref p, .int (row.length : Int)] ∧ SkAt T H p row ∧ 1 ≤ n ∧ n ≤ 6 ∧ row.Perm (rgI (2 * n)) ∧ DrOk D H ∧ Tabs (jTs T) H ∧
  ∀ H', DrOk D H' → KpN D H H' → Tabs (jTs T) H' → Q (.bl true) H'
theorem ok_l_refused (T : Txt K mg) (TBj : TBs T base) : FnG P w K mg base CX0 11 T.l_refused.a T.l_refused.fd ["draw", "skin_here", "ends"] (spRefused T) := by
  have TB := TBj.j
  have hmT : (T.jP, jQ) ∈ jTs T := by simp
  have hu := hu_j T
  refine T.jF.okG sc_l_refused (fun vs H Q E h => ?_) (fun A outer s H vs Q E hA hr h => ?_)
  · obtain ⟨D, p, row, n, rfl, _⟩ := h
    rfl
  · obtain ⟨D, p, row, n, rfl, sk, n1, n6, pm, dr, tb, k⟩ := h
    have nd := sc_l_refused.nd
    have hg := hA
    have hu2 := hu_of hr
    refine ⟨_, (pss_cons (ps_asg (pe_tup (pa_cons (pe_call (ok_l_pick T) (hr.mono (by decide)) (by rfl) T.l_pick.g T.l_pick.k T.l_pick.b .nil pass0 (pa_cons (pv 0) (pa_cons (pe_lst (pa_cons pe_non (pa_cons pe_int (pa_cons (pe_lst (pa_cons pe_int pa_nil)) (pa_cons (pe_tup (pa_cons (pv 2) pa_nil)) (pa_cons (pe_tup (pa_cons (pe_un un_neg pe_int) pa_nil)) (pa_cons (pe_tup (pa_cons pe_bl pa_nil)) (pa_cons pe_str (pa_cons (pe_op op_repA (pe_tup (pa_cons pe_int pa_nil)) pe_int) pa_nil))))))))) pa_nil))) (pa_cons (pe_call (ok_l_pick T) (hr.mono (by decide)) (by rfl) T.l_pick.g T.l_pick.k T.l_pick.b .nil pass0 (pa_cons (pv 0) (pa_cons (pe_lst (pa_cons pe_non (pa_cons pe_int (pa_cons (pe_lst (pa_cons pe_str pa_nil)) (pa_cons (pe_tup (pa_cons pe_str pa_nil)) (pa_cons pe_bl pa_nil)))))) pa_nil))) pa_nil))) (pg_tup rfl (pgs_cons (pg_name (i := 3) nd rfl (Or.inr rfl)) (pgs_cons (pg_name (i := 4) nd rfl (Or.inr rfl)) pgs_nil))))
    (pss_cons (ps_if (pt_not (pt_val (pe_callB call_isA (by rfl) T.zisinstance (by decide +kernel) (pa_cons (pe_caught (k := 8) T (by rfl) TB rfl hmT hu (hr.mono (by decide)) (LamX.lamS_by (sc := defScope s_l_refused) (by decide +kernel)) rfl (fun _ _ _ _ _ => rfl) (fun _ _ _ _ _ _ _ hr => lb_j1 T hr rfl rfl (Or.inr (Or.inr rfl)) (Or.inr (Or.inr rfl)) (by rfl))) (pa_cons (pe_glob (v := .ref T.BadWord.C) rfl T.BadWord.g rfl) pa_nil)))))
      (pss_one (ps_ret pe_bl))
      pss_nil)
    (pss_cons (ps_set (i := 5) nd rfl (Or.inl rfl) (pe_lst (pa_cons (pe_caught (k := 8) T (by rfl) TB rfl hmT hu (hr.mono (by decide)) (LamX.lamS_by (sc := defScope s_l_refused) (by decide +kernel)) rfl (fun _ _ _ _ _ => rfl) (fun _ _ _ _ _ _ _ hr => lb_j2 T hr rfl rfl (Or.inr (Or.inr rfl)) (Or.inr (Or.inr rfl)) (by rfl))) pa_nil)))
    (pss_cons (ps_expr (pe_bm PySem.F.plainAttrs_list PySem.F.slot_list_append PySem.F.type_list_append mt_append (pv 5) (pa_cons (pe_caught (k := 8) T (by rfl) TB rfl hmT hu (hr.mono (by decide)) (LamX.lamS_by (sc := defScope s_l_refused) (by decide +kernel)) rfl (fun _ _ _ _ _ => rfl) (fun _ _ _ _ _ _ _ hr => lb_j3 T hr rfl rfl (Or.inr (Or.inr rfl)) (Or.inr (Or.inr rfl)) (by rfl))) pa_nil)))
    (pss_cons (ps_expr (pe_bm PySem.F.plainAttrs_list PySem.F.slot_list_append PySem.F.type_list_append mt_append (pv 5) (pa_cons (pe_caught (k := 8) T (by rfl) TB rfl hmT hu (hr.mono (by decide)) (LamX.lamS_by (sc := defScope s_l_refused) (by decide +kernel)) rfl (fun _ _ _ _ _ => rfl) (fun _ _ _ _ _ _ _ hr => lb_j4 T hr rfl (Or.inr (Or.inr rfl)) (by rfl))) pa_nil)))
    (pss_cons (ps_if (pt_cmpR (op_neD hr.units) (pe_lc (own := [("error", 6)]) (g := gName 6) rfl nd (pi_list (pv 5)) (blkOk_by (own := [("error", 6)]) (N := N_l_refused) (sc := defScope s_l_refused) (by decide +kernel)) (fun _ _ _ _ _ => pg_name (i := 6) nd rfl (Or.inl rfl)) (fun _ _ _ _ _ => pts_one (PW.pt (pw_or (pt_not (pt_val (pe_callB (call_isAK (K := K) rfl) (by rfl) T.zisinstance (by decide +kernel) (pa_cons (pv 6) (pa_cons (pe_glob (v := .ref T.BadText.C) rfl T.BadText.g rfl) pa_nil))))) (pw_or1 (pt_cmpR op_notN (pe_xfHK (K := K) rfl (pv 6)) pe_non (nomark _)))))) (fun _ _ _ _ _ => pe_int)) (pe_lst pa_nil) (nomark _))
      (pss_one (ps_ret pe_bl))
      pss_nil)
    (pss_cons (ps_set (i := 5) nd rfl (Or.inl rfl) (pe_lst (pa_cons (pe_caught (k := 8) T (by rfl) TB rfl hmT hu (hr.mono (by decide)) (LamX.lamS_by (sc := defScope s_l_refused) (by decide +kernel)) rfl (fun _ _ _ _ _ => rfl) (fun _ _ _ _ _ _ _ hr => lb_j5 T hr rfl (Or.inr (Or.inr rfl)) (by rfl))) pa_nil)))
    (pss_cons (ps_expr (pe_bm PySem.F.plainAttrs_list PySem.F.slot_list_append PySem.F.type_list_append mt_append (pv 5) (pa_cons (pe_caught (k := 8) T (by rfl) TB rfl hmT hu (hr.mono (by decide)) (LamX.lamS_by (sc := defScope s_l_refused) (by decide +kernel)) rfl (fun _ _ _ _ _ => rfl) (fun _ _ _ _ _ _ _ hr => lb_j6 T hr (by rfl))) pa_nil)))
    (pss_cons (ps_expr (pe_bm PySem.F.plainAttrs_list PySem.F.slot_list_append PySem.F.type_list_append mt_append (pv 5) (pa_cons (pe_caught (k := 8) T (by rfl) TB rfl hmT hu (hr.mono (by decide)) (LamX.lamS_by (sc := defScope s_l_refused) (by decide +kernel)) rfl (fun _ _ _ _ _ => rfl) (fun _ _ _ _ _ _ _ hr => lb_j7 T hr rfl (Or.inr (Or.inr rfl)) (by rfl))) pa_nil)))
    (pss_cons (ps_expr (pe_bm PySem.F.plainAttrs_list PySem.F.slot_list_append PySem.F.type_list_append mt_append (pv 5) (pa_cons (pe_caught (k := 8) T (by rfl) TB rfl hmT hu (hr.mono (by decide)) (LamX.lamS_by (sc := defScope s_l_refused) (by decide +kernel)) rfl (fun _ _ _ _ _ => rfl) (fun _ _ _ _ _ _ _ hr => lb_j8 T hr rfl (Or.inr (Or.inr rfl)) (by rfl))) pa_nil)))
    (pss_one (ps_ret (pe_cmpR (op_eqD hr.units) (pe_lc (own := [("error", 6)]) (g := gName 6) rfl nd (pi_list (pv 5)) (blkOk_by (own := [("error", 6)]) (N := N_l_refused) (sc := defScope s_l_refused) (by decide +kernel)) (fun _ _ _ _ _ => pg_name (i := 6) nd rfl (Or.inl rfl)) (fun _ _ _ _ _ => pts_one (PW.pt (pw_or (pt_not (pt_val (pe_callB (call_isAK (K := K) rfl) (by rfl) T.zisinstance (by decide +kernel) (pa_cons (pv 6) (pa_cons (pe_glob (v := .ref T.BadSkin.C) rfl T.BadSkin.g rfl) pa_nil))))) (pw_or1 (pt_cmpR op_notN (pe_xfHK (K := K) rfl (pv 6)) pe_non (nomark _)))))) (fun _ _ _ _ _ => pe_int)) (pe_lst pa_nil) (nomark _)))))))))))))), ?_⟩
    have hlen := perm_len pm
    have h12 : (row.length ≤ 12 ∧ row.length % 2 = 0) := by omega
    refine sqn ⟨_, rfl, tcn (tlst (tcn (tC_i (tcn (tC_i (tcn ⟨(by show 1 ≤ sizeLine; decide), fun b1 hb1 => ?_⟩))))))⟩
    have of1 := dr.off hb1
    have e1 : (upd H b1 (.lst [.int 0])) b1 = some (.lst [.int 0]) := upd_same
    have s1 : Same H (upd H b1 (.lst [.int 0])) := same_new hb1
    generalize upd H b1 (.lst [.int 0]) = H1 at e1 s1
    refine tcn ⟨_, rfl, (by show 1 ≤ sizeLine; decide), fun b2 hb2 => ?_⟩
    have e2 : (upd H1 b2 (.tup [.int (row.length : Int)])) b2 = some (.tup [.int (row.length : Int)]) := upd_same
    have s2 : Same H1 (upd H1 b2 (.tup [.int (row.length : Int)])) := same_new hb2
    generalize upd H1 b2 (.tup [.int (row.length : Int)]) = H2 at e2 s2
    refine tcn ⟨1, rfl, (by show 1 ≤ sizeLine; decide), fun b3 hb3 => ?_⟩
    have e3 : (upd H2 b3 (.tup [.int (-1)])) b3 = some (.tup [.int (-1)]) := upd_same
    have s3 : Same H2 (upd H2 b3 (.tup [.int (-1)])) := same_new hb3
    generalize upd H2 b3 (.tup [.int (-1)]) = H3 at e3 s3
    refine tcn ⟨(by show 1 ≤ sizeLine; decide), fun b4 hb4 => ?_⟩
    have e4 : (upd H3 b4 (.tup [.bl true])) b4 = some (.tup [.bl true]) := upd_same
    have s4 : Same H3 (upd H3 b4 (.tup [.bl true])) := same_new hb4
    generalize upd H3 b4 (.tup [.bl true]) = H4 at e4 s4
    refine tcn (tC_i (tcn ⟨(by show 1 ≤ sizeLine; decide), fun z hz => tC_i ⟨z, 201, [.int 0], rfl, rfl, SqT.of upd_same, by simp, by omega, by omega, by decide, fun e => absurd e (by decide), fun _ b5 hb5 => nil_i ?_⟩⟩))
    have e5 : (upd (upd H4 z (.tup [.int 0])) b5 (.tup (List.replicate (201 : Int).toNat [V.int 0]).flatten)) b5 = some (.tup (List.replicate (201 : Int).toNat [V.int 0]).flatten) := upd_same
    have s5 : Same H4 (upd (upd H4 z (.tup [.int 0])) b5 (.tup (List.replicate (201 : Int).toNat [V.int 0]).flatten)) := (same_new hz).trans (same_new hb5)
    generalize upd (upd H4 z (.tup [.int 0])) b5 (.tup (List.replicate (201 : Int).toNat [V.int 0]).flatten) = H5 at e5 s5
    have s15 := s2.trans (s3.trans (s4.trans s5))
    have d5 := dr.same (s1.trans s15)
    refine ⟨(by show 8 ≤ sizeLine; decide), fun l2 hl2 => nil_i ⟨D, l2, _, rfl, .inl (SqL.of upd_same), (d5.off hl2).2.1, by simp, (by show 8 < 1073741824; omega), d5.new hl2, fun i bad H6 hn d6 k6 => ?_⟩⟩
    have k56 : Kp D H5 H6 := (Kp.new hl2).trans k6
    have fbd : Ever D H6 fun H' => WV K 200 row H' bad false := fun H' kk => by
      have hx := List.mem_of_getElem? hn
      have e1' := k56.at of1 (s15 _ _ e1)
      have e2' := k56.seqT d5 (SqT.of (K := K) ((s3.trans (s4.trans s5)) _ _ e2))
      have e3' := k56.seqT d5 (SqT.of (K := K) ((s4.trans s5) _ _ e3))
      have e4' := k56.seqT d5 (SqT.of (K := K) (s5 _ _ e4))
      have e5' := k56.seqT d5 (SqT.of (K := K) e5)
      simp only [List.mem_cons, List.not_mem_nil, or_false] at hx
      rcases hx with rfl | rfl | rfl | rfl | rfl | rfl | rfl | rfl
      · exact .non .non rfl
      · exact .non (.int 5) rfl
      · exact .non (.lst (SqL.of (kk _ _ e1' of1.1 of1.2.1 fun _ z => nomatch z))) rfl
      · have w := WV.tup (m := 200) (row := row) (Tt.SqT.kpn e2' d6 kk) (by show 1 < 1000; omega) (fun y hy => by
          rw [List.mem_singleton.mp hy]
          exact ⟨_, .int _⟩)
        have e : (decide ((([V.int (row.length : Int)] : List V).length : Int) ≤ 200) && ([V.int (row.length : Int)] : List V).all (inB 0 (hiE row))) = false := by
          have : inB 0 (hiE row) (.int (row.length : Int)) = false := by
            show (decide (0 ≤ (row.length : Int)) && decide ((row.length : Int) ≤ 2 * ((row.length / 2 : Nat) : Int) - 1)) = false
            rw [decide_eq_false (p := (row.length : Int) ≤ 2 * ((row.length / 2 : Nat) : Int) - 1) (by omega), Bool.and_false]
          rw [List.all_cons, this, Bool.false_and, Bool.and_false]
        rw [e] at w
        exact w
      · exact WV.tup (m := 200) (row := row) (Tt.SqT.kpn e3' d6 kk) (by show 1 < 1000; omega) (fun y hy => by
          rw [List.mem_singleton.mp hy]
          exact ⟨_, .int _⟩)
      · exact WV.tup (m := 200) (row := row) (Tt.SqT.kpn e4' d6 kk) (by show 1 < 1000; omega) (fun y hy => by
          rw [List.mem_singleton.mp hy]
          exact ⟨_, .bl _⟩)
      · exact .non (.str _) rfl
      · have l201 : (List.replicate (201 : Int).toNat [V.int 0]).flatten.length = 201 := by decide +kernel
        have w := WV.tup (m := 200) (row := row) (Tt.SqT.kpn e5' d6 kk) (by rw [l201]; omega) (fun y hy => by
          obtain ⟨l, hl, hy⟩ := List.mem_flatten.mp hy
          rw [List.eq_of_mem_replicate hl] at hy
          rw [List.mem_singleton.mp hy]
          exact ⟨_, .int _⟩)
        rw [l201, decide_eq_false (p := ((201 : Nat) : Int) ≤ 200) (by omega), Bool.false_and] at w
        exact w
    have k06 : Kp D H H6 := (Kp.of (s1.trans s15)).trans k56
    clear hn k6 hl2 e1 e2 e3 e4 e5 of1 s1 s2 s3 s4 s5 s15 d5 hz hb1 hb2 hb3 hb4 hb5 k56
    refine tcn ⟨_, rfl, tcn (tlst (tcn (tC_i (tcn (tC_i (tcn ⟨(by show 1 ≤ sizeLine; decide), fun c1 hc1 => ?_⟩))))))⟩
    have of1 := d6.off hc1
    have e1 : (upd H6 c1 (.lst [.str (Str.ofString "a")])) c1 = some (.lst [.str (Str.ofString "a")]) := upd_same
    have s1 : Same H6 (upd H6 c1 (.lst [.str (Str.ofString "a")])) := same_new hc1
    generalize upd H6 c1 (.lst [.str (Str.ofString "a")]) = H7 at e1 s1
    refine tcn ⟨(by show 1 ≤ sizeLine; decide), fun c2 hc2 => ?_⟩
    have e2 : (upd H7 c2 (.tup [.str (Str.ofString "a")])) c2 = some (.tup [.str (Str.ofString "a")]) := upd_same
    have s2 : Same H7 (upd H7 c2 (.tup [.str (Str.ofString "a")])) := same_new hc2
    generalize upd H7 c2 (.tup [.str (Str.ofString "a")]) = H8 at e2 s2
    have d8 := d6.same (s1.trans s2)
    refine tcn (tC_i (nil_i ⟨(by show 5 ≤ sizeLine; decide), fun l3 hl3 => nil_i ⟨D, l3, _, rfl, .inl (SqL.of upd_same), (d8.off hl3).2.1, by simp, (by show 5 < 1073741824; omega), d8.new hl3, fun j no H9 hn d9 k9 => ?_⟩⟩))
    have k89 : Kp D H8 H9 := (Kp.new hl3).trans k9
    have fno : Ever D H9 fun H' => ∃ S, TyB K H' no S ∧ decide (S = "str") = false := fun H' kk => by
      have hx := List.mem_of_getElem? hn
      have e1' := k89.at of1 (s2 _ _ e1)
      have e2' := k89.seqT d8 (SqT.of (K := K) e2)
      simp only [List.mem_cons, List.not_mem_nil, or_false] at hx
      rcases hx with rfl | rfl | rfl | rfl | rfl
      · exact ⟨_, .non, rfl⟩
      · exact ⟨_, .int 5, rfl⟩
      · exact ⟨_, .lst (SqL.of (kk _ _ e1' of1.1 of1.2.1 fun _ z => nomatch z)), rfl⟩
      · exact ⟨_, .tup (Tt.SqT.kpn e2' d9 kk), rfl⟩
      · exact ⟨_, .bl true, rfl⟩
    have k09 : Kp D H H9 := k06.trans ((Kp.of (s1.trans s2)).trans k89)
    have fbd' : Ever D H9 fun H' => WV K 200 row H' bad false := fbd.go (.of ((Kp.of (s1.trans s2)).trans k89))
    clear hn k9 hl3 hc1 hc2 e1 e2 of1 s1 s2 d8 k89 fbd k06 d6
    refine nil_i ⟨(by show 2 ≤ sizeLine; decide), fun tp htp => ⟨tp, _, rfl, SqT.of upd_same, rfl, _, _, rfl, _, _, rfl, rfl, ?_⟩⟩
    have k0g : Kp D H (upd H9 tp (.tup [bad, no])) := k09.trans (Kp.new htp)
    have fbd : Ever D (upd H9 tp (.tup [bad, no])) fun H' => WV K 200 row H' bad false := fbd'.go (.of (Kp.new htp))
    have fno2 : Ever D (upd H9 tp (.tup [bad, no])) fun H' => ∃ S, TyB K H' no S ∧ decide (S = "str") = false := fno.go (.of (Kp.new htp))
    have dg := d9.new (o := .tup [bad, no]) htp
    generalize upd H9 tp (.tup [bad, no]) = G at k0g fbd fno2 dg
    clear fno fbd' k09 htp d9
    have skG := sk.kp dr k0g
    have tG := tabs_kp tb dr k0g
    dsimp only
    have J1 : ∀ (v5 v6 : Option V) (H' : Hp) (E' : XK) (Q' : VK), ExtN G H' → (∀ H'', Same H' H'' → E' (.ref T.BadWord.C) none H'') → tCall (spWordText T) [] E' (tCons (tVar 1) (tCons (tVar 3) tNil)) [some (.ref D.d), some (.ref p), some (.int (row.length : Int)), some bad, some no, v5, v6] H' Q' := fun v5 v6 H' E' Q' x e =>
      ⟨_, rfl, _, rfl, nil_i ⟨_, _, rfl, .inr ⟨p, row, rfl, skAt_ext skG x, h12, .inl ⟨fbd H' (.ext x), e⟩⟩⟩⟩
    have tx : ∀ (H' : Hp) (E' : XK) (kk : Str → Prop), ExtN G H' → TextErr T .non H' E' → TxV T no H' E' kk := fun H' E' kk x e => by
      obtain ⟨S, ty, hS⟩ := fno2 H' (.ext x)
      exact .inl ⟨S, ty, hS, e⟩
    have J2 : ∀ (v5 v6 : Option V) (H' : Hp) (E' : XK) (Q' : VK), ExtN G H' → TextErr T .non H' E' → tCall (spReadWord T) [] E' (tCons (tVar 1) (tCons (tVar 4) tNil)) [some (.ref D.d), some (.ref p), some (.int (row.length : Int)), some bad, some no, v5, v6] H' Q' := fun v5 v6 H' E' Q' x e =>
      ⟨_, rfl, _, rfl, nil_i ⟨_, _, rfl, .inr ⟨p, row, rfl, skAt_ext skG x, h12, tx H' E' _ x e⟩⟩⟩
    have J3 : ∀ (v5 v6 : Option V) (H' : Hp) (E' : XK) (Q' : VK), ExtN G H' → TextErr T .non H' E' → tCallK (spReadRd T) g11 E' (tCons (tVar 1) tNil) (tCons (tVar 4) tNil) [some (.ref D.d), some (.ref p), some (.int (row.length : Int)), some bad, some no, v5, v6] H' Q' := fun v5 v6 H' E' Q' x e =>
      ⟨_, rfl, nil_i ⟨_, rfl, nil_i ⟨_, _, rfl, .inr ⟨p, row, rfl, skAt_ext skG x, h12, tx H' E' _ x e⟩⟩⟩⟩
    have J4 : ∀ (v5 v6 : Option V) (H' : Hp) (E' : XK) (Q' : VK), ExtN G H' → TextErr T .non H' E' → tCall (spReadSk T) [] E' (tCons (tVar 4) tNil) [some (.ref D.d), some (.ref p), some (.int (row.length : Int)), some bad, some no, v5, v6] H' Q' := fun v5 v6 H' E' Q' x e =>
      ⟨_, rfl, nil_i ⟨_, rfl, tx H' E' _ x e⟩⟩
    have J5 : ∀ (v5 v6 : Option V) (H' : Hp) (E' : XK) (Q' : VK), ExtN G H' → SkErr T H' E' → tCall (spWordText T) [] E' (tCons (tC .non) (tCons (tVar 3) tNil)) [some (.ref D.d), some (.ref p), some (.int (row.length : Int)), some bad, some no, v5, v6] H' Q' := fun v5 v6 H' E' Q' x e =>
      ⟨_, rfl, nil_i ⟨_, _, rfl, .inl ⟨.ty .non T.kSN, e⟩⟩⟩
    have J6 : ∀ (v5 v6 : Option V) (H' : Hp) (E' : XK) (Q' : VK), ExtN G H' → (∀ H'', Same H' H'' → SkErr T H'' E') → tCall (spSkinText T) [] E' (tCons (tTup (tCons (tC (.int 0)) (tCons (tC (.int 1)) tNil))) tNil) [some (.ref D.d), some (.ref p), some (.int (row.length : Int)), some bad, some no, v5, v6] H' Q' := fun v5 v6 H' E' Q' x e =>
      ⟨(by show 2 ≤ sizeLine; decide), fun u hu => nil_i ⟨_, rfl, .inl ⟨.ty (.tup (SqT.of upd_same)) T.kST, e _ (same_new hu)⟩⟩⟩
    have J7 : ∀ (v5 v6 : Option V) (H' : Hp) (E' : XK) (Q' : VK), ExtN G H' → SkErr T H' E' → tCall (spReadWord T) [] E' (tCons (tC .non) (tCons (tVar 4) tNil)) [some (.ref D.d), some (.ref p), some (.int (row.length : Int)), some bad, some no, v5, v6] H' Q' := fun v5 v6 H' E' Q' x e =>
      ⟨_, rfl, nil_i ⟨_, _, rfl, .inl ⟨.ty .non T.kSN, e⟩⟩⟩
    have J8 : ∀ (v5 v6 : Option V) (H' : Hp) (E' : XK) (Q' : VK), ExtN G H' → SkErr T H' E' → tCall (spReadRd T) [] E' (tCons (tC (.str "a")) (tCons (tVar 4) tNil)) [some (.ref D.d), some (.ref p), some (.int (row.length : Int)), some bad, some no, v5, v6] H' Q' := fun v5 v6 H' E' Q' x e =>
      ⟨_, rfl, nil_i ⟨_, _, rfl, .inl ⟨.ty (.str _) T.kSY, e⟩⟩⟩
    clear fbd fno2 tx skG
    refine sqn (ifn_i (tcn ⟨tG, fun G1 x1 t1 => J1 none none G1 _ _ x1 fun G2 s2 => ⟨exm_W T, fun a ha => ?_⟩⟩))
    have s3 := s2.trans (same_new (o := exh (.ref T.BadWord.C) none a) ha)
    refine .inl ⟨a, T.BadWord.C, none, _, _, true, rfl, upd_same, .inl rfl, T.BadWord.ec, .own T.BadWord.C, T.kWW, _, rfl, iteF ?_⟩
    have x3 := x1.trans (.of s3)
    have t3 := t1.ext s3
    generalize upd G2 a (exh (.ref T.BadWord.C) none a) = G3 at s3 x3 t3
    clear x1 t1 s2 s3 ha J1
    dsimp only [tNext]
    refine sqn (tlst (tcn ⟨t3, fun G4 x4 t4 => J2 none none G4 _ _ (x3.trans x4) fun d1 G5 s5 hd1 => ⟨exm_T T, fun a1 ha1 => nil_i ⟨(by show 1 ≤ sizeLine; decide), fun wl hwl => ?_⟩⟩⟩))
    have ea1 : (upd G5 a1 (exh (.ref T.BadText.C) (some d1) a1)) a1 = some (exh (.ref T.BadText.C) (some d1) a1) := upd_same
    have n5 := same_new (o := exh (.ref T.BadText.C) (some d1) a1) ha1
    have ed1 := n5 _ _ hd1
    have x5 := ((x3.trans x4).trans (.of s5)).trans (.of n5)
    have t5 := (t4.ext s5).ext n5
    generalize upd G5 a1 (exh (.ref T.BadText.C) (some d1) a1) = G6 at ea1 ed1 x5 t5 hwl
    clear n5 s5 hd1 ha1 x4 t4 x3 t3 J2
    have fw := extN_fresh x5 hwl
    have n7 := same_new (o := .lst [.ref a1]) hwl
    have ew : (upd G6 wl (.lst [.ref a1])) wl = some (.lst [.ref a1]) := upd_same
    have es : Es T.BadText.C "at" (upd G6 wl (.lst [.ref a1])) [.ref a1] := (Es.one ea1 ed1).ext (.of n7)
    have x7 := x5.trans (.of n7)
    have t7 := t5.ext n7
    generalize upd G6 wl (.lst [.ref a1]) = G7 at ew es x7 t7
    clear n7 ea1 ed1 x5 t5 hwl
    dsimp only [gName]
    refine app_step rfl ew fw x7 t7 es (by show 1 ≤ 10; omega) (exm_T T) (fun H1 E1 Q1 x e => J3 _ _ H1 E1 Q1 x e) fun ys G8 hl8 ew8 x8 t8 es8 => ?_
    refine app_step rfl ew8 fw x8 t8 es8 (by rw [hl8]; show 1 + 1 ≤ 10; omega) (exm_T T) (fun H1 E1 Q1 x e => J4 _ _ H1 E1 Q1 x e) fun zs G9 hl9 ew9 x9 t9 es9 => ?_
    clear es8 t8 x8 ew8 es t7 x7 ew J3 J4 fw
    refine sqn (ift_op (lc_no T.BadText.ec T.kXX T.BadText.xf T.BadText.n es9 ew9 fun D1 H1 h1 s1 => ?_))
    refine ⟨(by show 0 ≤ sizeLine; decide), fun l4 hl4 => ?_⟩
    have n2 := same_new (o := .lst []) hl4
    refine ⟨_, _, .lst (SqL.of (n2 _ _ h1)) .nil, .lst (SqL.of upd_same) .nil, rfl, rfl, _, rfl, ?_⟩
    refine iteF ?_
    have x10 := x9.trans (.of (s1.trans n2))
    have t10 := t9.ext (s1.trans n2)
    generalize upd H1 l4 (.lst []) = G10 at x10 t10
    clear n2 h1 s1 hl4 x9 t9 ew9 es9
    dsimp only [tNext]
    refine sqn (tlst (tcn ⟨t10, fun G4 x4 t4 => J5 _ _ G4 _ _ (x10.trans x4) fun d1 G5 s5 hd1 => ⟨exm_S T, fun a1 ha1 => nil_i ⟨(by show 1 ≤ sizeLine; decide), fun wl hwl => ?_⟩⟩⟩))
    have ea1 : (upd G5 a1 (exh (.ref T.BadSkin.C) (some d1) a1)) a1 = some (exh (.ref T.BadSkin.C) (some d1) a1) := upd_same
    have n5 := same_new (o := exh (.ref T.BadSkin.C) (some d1) a1) ha1
    have ed1 := n5 _ _ hd1
    have x5 := ((x10.trans x4).trans (.of s5)).trans (.of n5)
    have t5 := (t4.ext s5).ext n5
    generalize upd G5 a1 (exh (.ref T.BadSkin.C) (some d1) a1) = G6 at ea1 ed1 x5 t5 hwl
    clear n5 s5 hd1 ha1 x4 t4 x10 t10 J5
    have fw := extN_fresh x5 hwl
    have n7 := same_new (o := .lst [.ref a1]) hwl
    have ew : (upd G6 wl (.lst [.ref a1])) wl = some (.lst [.ref a1]) := upd_same
    have es : Es T.BadSkin.C "part" (upd G6 wl (.lst [.ref a1])) [.ref a1] := (Es.one ea1 ed1).ext (.of n7)
    have x7 := x5.trans (.of n7)
    have t7 := t5.ext n7
    generalize upd G6 wl (.lst [.ref a1]) = G7 at ew es x7 t7
    clear n7 ea1 ed1 x5 t5 hwl
    dsimp only [gName]
    refine app_step rfl ew fw x7 t7 es (by show 1 ≤ 10; omega) (exm_S T) (fun H1 E1 Q1 x e => J6 _ _ H1 E1 Q1 x fun H'' s d H2 s2 hd => e d H2 (s.trans s2) hd) fun ys G8 hl8 ew8 x8 t8 es8 => ?_
    refine app_step rfl ew8 fw x8 t8 es8 (by rw [hl8]; show 1 + 1 ≤ 10; omega) (exm_S T) (fun H1 E1 Q1 x e => J7 _ _ H1 E1 Q1 x e) fun zs G9 hl9 ew9 x9 t9 es9 => ?_
    refine app_step rfl ew9 fw x9 t9 es9 (by rw [hl9, hl8]; show 1 + 1 + 1 ≤ 10; omega) (exm_S T) (fun H1 E1 Q1 x e => J8 _ _ H1 E1 Q1 x e) fun ws G10 hl10 ew10 x10 t10 es10 => ?_
    clear es8 t8 x8 ew8 es t7 x7 ew J6 J7 J8 fw es9 t9 x9 ew9
    refine ret_op (lc_no T.BadSkin.ec T.kSkSk T.BadSkin.xf T.BadSkin.n es10 ew10 fun D1 H1 h1 s1 => ?_)
    refine ⟨(by show 0 ≤ sizeLine; decide), fun l4 hl4 => ?_⟩
    have n2 := same_new (o := .lst []) hl4
    refine ⟨_, _, .lst (SqL.of (n2 _ _ h1)) .nil, .lst (SqL.of upd_same) .nil, rfl, rfl, ?_⟩
    have xe := x10.trans (.of (s1.trans n2))
    exact k _ (drOk_ext dg xe) ((KpN.of k0g).trans (.ext xe)) (t10.ext (s1.trans n2))
end
end Tt
set_option maxRecDepth 100000
set_option maxHeartbeats 4000000
namespace L2
open PySem PySem.Spec PyProof.Rows
def tTupF (t : TA) : TE := fun σ H Q => t σ H fun xs H1 => xs.length ≤ sizeLine ∧ NwT H1 xs Q
section
variable {X : Cx} {es : List Expr} {t : TA} {pos : Pos}
theorem pe_tupF {x1} (h : PA X es t) : PE X (.Tuple es x1 pos) (tTupF t) := by
  refine ⟨fun pins s σ H Q I hq => ?_⟩
  refine wpAny_Tuple_spliced (thn (h.run pos pins s σ H _ I hq) fun us s1 ⟨xs, H1, I1, r, z, q⟩ => ⟨by rw [← r.length]; exact z, ?_⟩)
  have hf : H1 s1.heap.objs.size = none := I1.hok.fresh (Nat.le_refl _)
  refine ⟨.ref s1.heap.objs.size, _, I1.laid (t' := s1.toks) (fun b u e => Heap.get?_push_of_some _ e) (Nat.le_refl _) ?_, rfl, q _ { cls := .type "tuple", data := .seq us.toArray } hf rfl⟩
  exact ⟨Heap.get?_push_size _ rfl, z, us, r, IsTup.new _ _⟩
end
end L2
set_option maxRecDepth 100000
set_option maxHeartbeats 2000000
namespace Tt
open PySem L2
open LamX (Tabs TabS TabB ExtN CodeO tLam Cal withP noP HasP Unp Pins PinsOf IsLam IsLam1 rdP pe_lamV pe_lamV1)
theorem sw_skin_text {K : PySem.W.Frag} {mg : Str → Option Value} (T : Txt K mg) : Swaps1 T.skin_text.fd "skin" := T.skin_text.F.swaps1 fun _ _ _ _ _ _ _ => rfl
theorem sw_read_skin {K : PySem.W.Frag} {mg : Str → Option Value} (T : Txt K mg) : Swaps1 T.read_skin.fd "text" := T.read_skin.F.swaps1 fun _ _ _ _ _ _ _ => rfl
theorem ift_i {c : TT} {a b : TS} {D : Ends} {σ : L2.St} {H : Hp} (h : c σ H fun x H1 => if x = true then a D σ H1 else b D σ H1) : tIfS c a b D σ H := h
theorem tor_i {a b : TT} {σ : L2.St} {H : Hp} {Q : Bool → Hp → Prop} (h : a σ H fun x H1 => if x = true then Q true H1 else b σ H1 Q) : tOr a b σ H Q := h
theorem dcT {p : Prop} {i : Decidable p} (h : p) : @decide p i = true := @decide_eq_true p i h
theorem dcF {p : Prop} {i : Decidable p} (h : ¬ p) : @decide p i = false := @decide_eq_false p i h
theorem trn_self {row : List Int} (h : row.idxOf 0 = 0) : trn row = row := by
  unfold trn
  rw [h]
  simp
theorem row_nodup {n : Nat} {row : List Int} (pm : row.Perm (rgI n)) : row.Nodup := pm.nodup_iff.mpr (by
  unfold rgI
  exact List.pairwise_map.mpr (List.nodup_range.imp fun h => by omega))
section
variable {P : Program} {w : World} {K : PySem.W.Frag} {mg : Str → Option Value} {base : Heap}
theorem law_body (T : Txt K mg) (TBw : TabB base mg T.wc T.wP) (TBt : TabB base mg T.tc T.tP) (TBb : TabB base mg T.bc T.bP) (TB : TabB base mg T.lc T.lP) (TBj0 : TabB base mg T.jc T.jP) {A : Around} {outer : List Env} {s : Shared} {H : Hp} {E : XK} {Q : VK} {a : Addr} {zs : List Int} (hA : A.guards = some []) (hr : Room 14 (A.deeper (PyProof.Rows.envOfC "law" (defScope s_law) s.heap.objs.size T.law.a (.ref T.lc))))
    (hs : SqL K H a (zs.map V.int)) (hl : zs.length ≤ 63) (tb : Tabs (jTs T) H) (k : ∀ H', Q (.bl true) H') :
    ∃ t, PSs (cxOf CX0 P w K mg base N_law "law" (defScope s_law) T.law.a (.ref T.lc) A outer s H E).nox (defBody s_law) t ∧ t { nx := fun _ H' => Q .non H', rt := Q } (L2.start N_law [.ref a]) H := by
  have nd := sc_law.nd
  have TBj : TBs T base := ⟨TBj0, TBw, TBt, TBb, TB⟩
  have hg : (cxOf CX0 P w K mg base N_law "law" (defScope s_law) T.law.a (.ref T.lc) A outer s H E).nox.A.guards = some [] := hA
  have hmT : (T.lP, lQ) ∈ jTs T := by simp
  have hu := hu_l T
  have big : (5000 : Nat) ≤ sizeLine := by decide
  refine ⟨_, (pss_cons (ps_set (i := 1) nd rfl (Or.inl rfl) (pe_call (ok_l_begun T) (hr.mono (by decide)) (by rfl) T.l_begun.g T.l_begun.k T.l_begun.b .nil pass0 (pa_cons (pv 0) pa_nil)))
    (pss_cons (ps_for PassesOwn.never rfl (pi_range1 rfl T.zrange (pa_cons (pe_op op_add pe_int (pe_callB (call_min2 rfl) (by rfl) T.zmin (by decide +kernel) (pa_cons (pe_callB call_len_seq (by rfl) T.zlen (by decide +kernel) (pa_cons (pv 0) pa_nil)) (pa_cons pe_int pa_nil)))) pa_nil)) (pg_name (i := 2) nd rfl (Or.inl rfl))
      (pss_cons (ps_set (i := 3) nd rfl (Or.inl rfl) (pe_call (ok_l_row T) (hr.mono (by decide)) (by rfl) T.l_row.g T.l_row.k T.l_row.b .nil pass0 (pa_cons (pv 1) (pa_cons pe_int pa_nil))))
      (pss_cons (ps_par (i := 4) (j := 5) rfl nd rfl rfl (by decide) rfl rfl (pa_cons (pe_make T.Skin.kk (ok_Skin_init T) (hr.mono (by decide)) (by rfl) T.Skin.g T.Skin.b .nil passF (pa_cons (pv 3) pa_nil)) (pa_cons (pe_call (ok_l_spelled T) (hr.mono (by decide)) (by rfl) T.l_spelled.g T.l_spelled.k T.l_spelled.b .nil pass0 (pa_cons (pv 3) pa_nil)) pa_nil)) rfl)
      (pss_cons (ps_if (PW.pt (pw_or (pt_cmpR op_ne (pe_call (ok_skin_text T) (hr.mono (by decide)) (by rfl) T.skin_text.g T.skin_text.k T.skin_text.b .nil passF (pa_cons (pv 4) pa_nil)) (pv 5) (nomark _)) (pw_or (pt_cmpR op_ne (pe_callSw1 (ok_skin_text T) (hr.mono (by decide)) (by rfl) T.skin_text.g T.skin_text.k (sw_skin_text T) passF (pv 4)) (pv 5) (nomark _)) (pw_or1 (pt_not (pt_cmpR (op_eqO (ok_Skin_eq T) T.eqM.i T.eqM.n T.eqM.b (hr.mono (by decide)) pass0) (pe_callSw1 (ok_read_skin T) (hr.mono (by decide)) (by rfl) T.read_skin.g T.read_skin.k (sw_read_skin T) passF (pv 5)) (pv 4) (nomark _)))))))
        (pss_one (ps_ret pe_bl))
        pss_nil)
      (pss_cons (ps_for PassesOwn.never rfl (pi_list (pe_lst (pa_cons (pv 5) (pa_cons (pe_call (ok_l_bent T) (hr.mono (by decide)) (by rfl) T.l_bent.g T.l_bent.k T.l_bent.b .nil pass0 (pa_cons (pv 1) (pa_cons (pv 5) pa_nil))) (pa_cons (pe_call (ok_l_bent T) (hr.mono (by decide)) (by rfl) T.l_bent.g T.l_bent.k T.l_bent.b .nil pass0 (pa_cons (pv 1) (pa_cons (pe_call (ok_l_bent T) (hr.mono (by decide)) (by rfl) T.l_bent.g T.l_bent.k T.l_bent.b .nil pass0 (pa_cons (pv 1) (pa_cons (pv 5) pa_nil))) pa_nil))) (pa_cons (pe_slice sl_str (pv 5) po_none (po_some (pe_call (ok_l_take T) (hr.mono (by decide)) (by rfl) T.l_take.g T.l_take.k T.l_take.b .nil pass0 (pa_cons (pv 1) (pa_cons (pe_op op_add (pe_callB call_len (by rfl) T.zlen (by decide +kernel) (pa_cons (pv 5) pa_nil)) pe_int) pa_nil))))) (pa_cons (pe_op op_add_str (pv 5) pe_str) pa_nil))))))) (pg_name (i := 6) nd rfl (Or.inr rfl))
        (pss_cons (ps_set (i := 7) nd rfl (Or.inl rfl) (pe_call (ok_l_read_skin T) (hr.mono (by decide)) (by rfl) T.l_read_skin.g T.l_read_skin.k T.l_read_skin.b .nil pass0 (pa_cons (pv 6) pa_nil)))
        (pss_one (ps_if (PW.pt (pw_or (pt_not (pt_val (pe_callGP (ok_l_is_told T TBj) hg (hr.mono (by decide)) (by rfl) T.l_is_told.g T.l_is_told.k T.l_is_told.b (fun _ => rfl) (pa_cons (pe_lamV (q := lQ) (k := 8) TB rfl rfl hmT hu (LamX.lamS_by (sc := defScope s_law) (by decide +kernel)) rfl (fun _ _ _ _ _ => rfl) (fun _ _ _ _ _ _ _ hr => lb_r1 T hr rfl (Or.inr (Or.inr rfl)) (by rfl))) (pa_cons (pv 7) pa_nil))))) (pw_or1 (PW.pt (pw_and (pt_val (pe_callB call_isA (by rfl) T.zisinstance (by decide +kernel) (pa_cons (pv 7) (pa_cons (pe_bltn (v := .ty "int") (by rfl) T.zint (by decide +kernel) rfl) pa_nil)))) (pw_and1 (pt_not (pt_val (pe_callGP (ok_l_is_begun T TBj) hg (hr.mono (by decide)) (by rfl) T.l_is_begun.g T.l_is_begun.k T.l_is_begun.b (fun _ => rfl) (pa_cons (pv 1) (pa_cons (pe_lamV1 (a := "part") (q := lQ) (k := 8) TB rfl rfl hmT hu (LamX.lamSN_by (sc := defScope s_law) (by decide +kernel)) (show (("part") : Str) ∉ N_law by decide) rfl (fun _ _ _ _ _ _ => rfl) (fun _ _ _ _ _ _ _ hr => lb_r2 T hr rfl (Or.inl rfl) (by rfl))) (pa_cons (pv 6) (pa_cons (pv 7) pa_nil)))))))))))))
          (pss_one (ps_ret pe_bl))
          pss_nil))))
      (pss_one (ps_if (PW.pt (pw_or (pt_not (pt_val (pe_callG (ok_l_words_right T TBj) hg (hr.mono (by decide)) (by rfl) T.l_words_right.g T.l_words_right.k T.l_words_right.b .nil pass0 (pa_cons (pv 1) (pa_cons (pv 4) (pa_cons (pe_callB call_len_seq (by rfl) T.zlen (by decide +kernel) (pa_cons (pv 3) pa_nil)) pa_nil)))))) (pw_or1 (pt_not (pt_val (pe_callG (ok_l_refused T TBj) hg (hr.mono (by decide)) (by rfl) T.l_refused.g T.l_refused.k T.l_refused.b .nil pass0 (pa_cons (pv 1) (pa_cons (pv 4) (pa_cons (pe_callB call_len_seq (by rfl) T.zlen (by decide +kernel) (pa_cons (pv 3) pa_nil)) pa_nil)))))))))
        (pss_one (ps_ret pe_bl))
        pss_nil)))))))
    (pss_one (ps_ret (pe_cmpR (op_eqD hr.units) (pe_call (ok_read_word T) (hr.mono (by decide)) (by rfl) T.read_word.g T.read_word.k T.read_word.b .nil passF (pa_cons (pe_make T.Skin.kk (ok_Skin_init T) (hr.mono (by decide)) (by rfl) T.Skin.g T.Skin.b .nil passF (pa_cons (pe_tupF (pa_cons pe_int (pa_cons pe_int pa_nil))) pa_nil)) (pa_cons pe_str pa_nil))) (pe_tup pa_nil) (nomark _)))))), ?_⟩
  refine ⟨_, rfl, a, zs, rfl, hs, hl, fun D H1 d1 s1 => ?_⟩
  have tb1 := tb.ext s1
  have hs1 : SqL K H1 a (zs.map V.int) := Same.seq s1 hs
  refine sqn ⟨_, rfl, a, _, rfl, .inl hs1, _, _, rfl, _, _, rfl, rfl, _, rfl, ?_, ?_, ?_⟩
  · split <;> omega
  · split <;> omega
  refine for_range (lo := 0) (fun i σ H' => ∃ v2 v3 v4 v5 v6 v7 : Option V, σ = [some (.ref a), some (.ref D.d), v2, v3, v4, v5, v6, v7] ∧ DrOk D H' ∧ Tabs (jTs T) H') ⟨none, none, none, none, none, none, rfl, d1, tb1⟩ ?_ ?_
  · rintro i0' σ H2 hi ⟨v2, v3, v4, v5, v6, v7, rfl, d2, t2⟩
    refine sqn ⟨_, rfl, D, 6, rfl, by decide, by decide, d2, fun n row t H3 n1 n6 pm i0 d3 k3 fz => ?_⟩
    have n6 : n ≤ 6 := by omega
    have t3 := tabs_kp t2 d2 k3
    clear d2 t2 k3
    have hlen := perm_len pm
    have h12 : (row.length ≤ 12 ∧ row.length % 2 = 0) := by omega
    have lt12 : Lt 12 row := fun x hx => by
      have := (perm_mem pm).mp hx
      omega
    dsimp only [gName]
    refine sqn ⟨_, rfl, fun p dx hp hdx ne => ?_⟩
    have sA : Same H3 (upd (upd H3 dx (.own p)) p (.ins T.Skin.C dx [])) := (same_new hdx).trans (same_new (by rw [upd_ne ne.symm]; exact hp))
    refine ⟨p, dx, _, rfl, upd_same, .inr ⟨t, n, row, rfl, .inr (FzT.same fz sA), n1, n6, pm, fun H4 sk kp => ⟨rfl, ?_⟩⟩⟩
    have s4 : Same H3 H4 := fun b o hb => kp b o (sA b o hb) (ne_of_none hb hp)
    rw [trn_self i0] at sk
    have d4 := d3.same s4
    have t4 := t3.ext s4
    have fz4 := FzT.same fz s4
    clear sA kp hp hdx ne d3 t3 fz s4
    refine tcn ⟨_, rfl, nil_i ⟨t, row, rfl, fz4.sq, by omega, lt12, fun H5 s5 => nil_i ⟨_, _, rfl, ?_⟩⟩⟩
    have sk5 := sk.same s5
    have fz5 := FzT.same fz4 s5
    dsimp only
    refine sqn ⟨_, rfl, nil_i ⟨_, rfl, .inr ⟨p, row, rfl, sk5, h12, lt12, fun H6 s6 => ⟨_, rfl, rfl, _, rfl, ?_⟩⟩⟩⟩
    rw [decide_eq_true rfl]
    have sk6 := sk5.same s6
    refine iteF ⟨_, rfl, nil_i ⟨_, rfl, .inr ⟨p, row, rfl, sk6, h12, lt12, fun H7 s7 => ⟨_, rfl, rfl, _, rfl, ?_⟩⟩⟩⟩
    rw [decide_eq_true rfl]
    have sk7 := sk6.same s7
    have lw := wr_len row
    have hd : row.head? = some 0 := by
      have m0 : (0 : Int) ∈ row := (perm_mem pm).mpr (by omega)
      have := (idx_at m0).1
      rw [i0] at this
      rw [List.head?_eq_getElem?]
      exact this
    have tk : takeS (wr row).cps.toList [] = row := takeS_wr lt12 (row_nodup pm) hd
    have isr : IsRow row := ⟨n, n1, n6, pm⟩
    refine iteF ⟨_, rfl, nil_i ⟨_, rfl, .inr ⟨wr row, rfl, by omega, fun _ p2 H8 s8 sk2 => ?_, fun z => absurd (by rw [tk, lw]; exact ⟨isr, rfl⟩) z⟩⟩⟩
    rw [tk, trn_self i0] at sk2
    have sk8 := sk7.same s8
    obtain ⟨dx2, r2, q2, b1, b2, b3⟩ := id sk2
    refine ⟨_, rfl, p2, dx2, _, rfl, b1, Tt.EqV.y (T := T) (row := row) (.skin sk8), p2, row, _, _, rfl, sk2, .skin sk8, _, rfl, ?_⟩
    rw [decide_eq_true rfl]
    refine iteF ?_
    have s48 := s5.trans (s6.trans (s7.trans s8))
    have d8 := d4.same s48
    have t8 := t4.ext s48
    have fz8 := FzT.same fz4 s48
    clear sk2 b1 b2 b3 sk sk5 sk6 sk7 s5 s6 s7 s8 s48 d4 t4 fz4 fz5 tk isr hd
    dsimp only [tNext]
    have skN : ∀ {H' : Hp}, KpN D H8 H' → SkAt T H' p row := fun k => SkAt.kpn sk8 d8 k
    have fzN : ∀ {H' : Hp}, KpN D H8 H' → FzT H' t (row.map V.int) := fun k => FzT.kpn fz8 d8 k
    refine sqn ⟨_, rfl, ?_⟩
    refine tcn ⟨_, rfl, _, rfl, nil_i ⟨D, _, rfl, by omega, d8, fun z1 H9 hz1 d9 k9 => ?_⟩⟩
    refine tcn ⟨_, rfl, tcn ⟨_, rfl, _, rfl, nil_i ⟨D, _, rfl, by omega, d9, fun z2 H10 hz2 d10 k10 => nil_i ⟨D, _, rfl, by omega, d10, fun z3 H11 hz3 d11 k11 => ?_⟩⟩⟩⟩
    refine tcn ⟨_, rfl, noPart_i ⟨_, rfl, tcn ⟨_, rfl, nil_i ⟨_, (wr row).length, rfl, ⟨by omega, rfl⟩, ⟨_, _, rfl, rfl, nil_i ⟨D, _, rfl, by omega, by omega, d11, fun m H12 m0 m1 d12 k12 => ?_⟩⟩⟩⟩⟩⟩
    obtain ⟨m, rfl⟩ := Int.eq_ofNat_of_zero_le m0
    refine ⟨_, rfl, wr row, rfl, by omega, ?_⟩
    refine tcn ⟨_, rfl, ⟨_, _, rfl, rfl, by show (wr row).length + 1 ≤ _; omega, nil_i ⟨(by show 5 ≤ sizeLine; decide), fun l3 hl3 => ?_⟩⟩⟩
    have c2 := cut_to_len (wr row) m
    have c3 := app_len (wr row) (Str.ofString "a")
    have c4 : (Str.ofString "a").length = 1 := by decide
    generalize hxs : ([_, _, _, _, _] : List V) = xs
    have all : ∀ v ∈ xs, ∃ z : Str, z.length ≤ 200 ∧ v = .str z := fun v hv => by
      rw [← hxs] at hv
      simp only [List.mem_cons, List.not_mem_nil, or_false] at hv
      rcases hv with rfl | rfl | rfl | rfl | rfl
      · exact ⟨_, by omega, rfl⟩
      · exact ⟨_, by omega, rfl⟩
      · exact ⟨_, by omega, rfl⟩
      · exact ⟨cutS (wr row) none (some (m : Int)), by omega, rfl⟩
      · exact ⟨wr row ++ Str.ofString "a", by omega, rfl⟩
    clear hxs c2 c3 c4 hz1 hz2 hz3
    have s21 := same_new (o := .lst xs) hl3
    have el : (upd H12 l3 (.lst xs)) l3 = some (.lst xs) := upd_same
    have d21 := d12.new (o := .lst xs) hl3
    have kk := k9.trans (k10.trans (k11.trans k12))
    have k21 : KpN D H8 (upd H12 l3 (.lst xs)) := .of (kk.trans (Kp.of s21))
    have t21 : Tabs (jTs T) (upd H12 l3 (.lst xs)) := (tabs_kp t8 d8 kk).ext s21
    have off : l3 ≠ D.d ∧ l3 ≠ D.l := by
      have := d12.off hl3
      exact ⟨this.1, this.2.1⟩
    generalize upd H12 l3 (.lst xs) = H21 at el d21 k21 t21
    clear s21 kk k9 k10 k11 k12 d9 d10 d11 d12 hl3
    refine ⟨l3, rfl, ⟨_, SqL.of el⟩, ?_⟩
    refine for_list (K := K) (a := l3) (xs := xs) (fun i σ H' => (∃ v2 v6 v7 : Option V, σ = [some (.ref a), some (.ref D.d), v2, some (.ref t), some (.ref p), some (.str (wr row)), v6, v7]) ∧ KpN D H8 H' ∧ DrOk D H' ∧ Tabs (jTs T) H' ∧ H' l3 = some (.lst xs))
      ⟨⟨_, _, _, rfl⟩, k21, d21, t21, el⟩ (fun i σ H' _ z => SqL.of z.2.2.2.2) ?_ ?_
    · rintro i x σ H22 hi ⟨⟨v2, v6, v7, rfl⟩, k22, d22, t22, e22⟩
      obtain ⟨z, hz, rfl⟩ := all x (List.mem_of_getElem? hi)
      dsimp only [gName]
      refine sqn ⟨_, rfl, nil_i ⟨z, rfl, by omega, fun due H23 s23 dw => ?_⟩⟩
      have k23 := k22.trans (.of (Kp.of s23))
      have d23 := d22.same s23
      have t23 := t22.ext s23
      have e23 := s23 _ _ e22
      clear k22 d22 t22 e22 s23 hi
      dsimp only [gName]
      have dst : Dst (takeS z.cps.toList []) := takeS_dst _ [] ⟨List.nodup_nil, fun x hx => by cases hx⟩
      have wl := dst.len
      refine ift_i (tor_i (notp (tcn ⟨t23, fun v1 G1 x1 u1 il _ => tcn ⟨_, rfl, nil_i ?_⟩⟩)))
      refine told_pin T il rfl (dw.ext x1) (by omega) dst.2 u1 (fun H' E' Q' xx good bad => ?_) (fun H24 x24 t24 => ?_)
      · exact ⟨_, rfl, nil_i ⟨z, rfl, by omega, fun he q H'' s fz => good (dcT he) q H'' s fz.sq, fun hne => bad (dcF hne)⟩⟩
      refine ⟨_, rfl, iteF ?_⟩
      have x14 := x1.trans x24
      have k24 := k23.trans (.ext x14)
      have d24 := drOk_ext d23 x14
      have e24 := x14 _ _ e23 (fun _ z => nomatch z)
      have dw24 := dw.ext x14
      clear x1 u1 il dw x24 x14 d23 t23 e23 k23
      cases dw24 with
      | tup hb hq =>
        refine ⟨_, rfl, isa (.tup (SqT.of hq)) T.kTuI ⟨_, rfl, iteF (iteF ?_)⟩⟩
        exact ⟨⟨_, _, _, rfl⟩, k24, d24, t24, e24⟩
      | no hb =>
        refine ⟨_, rfl, isa (.int _) kII ⟨_, rfl, iteT ?_⟩⟩
        refine notp (tcn ⟨_, rfl, tcn ⟨t24, fun v1 G1 x1 u1 il _ => tcn ⟨_, rfl, tcn ⟨_, rfl, nil_i ?_⟩⟩⟩⟩)
        refine begun_pin (z := z) (n := (takeS z.cps.toList []).length) T il rfl (drOk_ext d24 x1) (by omega) (by omega) u1 (fun m hm H' E' Q' kk good bad => ?_) (fun H25 d25 kk t25 => ?_)
        · obtain ⟨b1, b2⟩ := takeS_beg hm
          refine ⟨_, rfl, nil_i ⟨_, rfl, .inr ⟨_, rfl, by omega, fun he p H'' s sk => good _ _ s, fun hne => ?_⟩⟩⟩
          rw [b1]
          exact bad
        · refine ⟨_, rfl, iteF ?_⟩
          have k25 := (k24.trans (.ext x1)).trans kk
          exact ⟨⟨_, _, _, rfl⟩, k25, d25, t25, kk _ _ (x1 _ _ e24 (fun _ z => nomatch z)) off.1 off.2 (fun _ z => nomatch z)⟩
    · rintro σ H22 ⟨⟨v2, v6, v7, rfl⟩, k22, d22, t22, e22⟩
      dsimp only
      refine ⟨_, rfl, _, rfl, _, rfl, t, _, rfl, .inr (fzN k22).sq, nil_i ?_⟩
      rw [List.length_map]
      refine ⟨D, p, row, n, rfl, skN k22, n1, n6, pm, d22, t22, fun H23 d23 k23 t23 => ⟨_, rfl, iteF ?_⟩⟩
      have k23' := k22.trans k23
      refine ⟨_, rfl, _, rfl, _, rfl, t, _, rfl, .inr (fzN k23').sq, nil_i ?_⟩
      rw [List.length_map]
      refine ⟨D, p, row, n, rfl, skN k23', n1, n6, pm, d23, t23, fun H24 d24 k24 t24 => ⟨_, rfl, iteF ?_⟩⟩
      exact ⟨_, _, _, _, _, _, rfl, d24, t24⟩
  · rintro σ H2 ⟨v2, v3, v4, v5, v6, v7, rfl, d2, t2⟩
    dsimp only
    refine ret_op (tcn ⟨(by show 2 ≤ sizeLine; decide), fun t ob ht hob => ?_⟩)
    have s1' : Same H2 (upd H2 t (.frz ob (.tup [.int 0, .int 1]))) := same_new ht
    have ft : FzT (upd H2 t (.frz ob (.tup [.int 0, .int 1]))) t (([0, 1] : List Int).map V.int) := FzT.new hob
    generalize upd H2 t (.frz ob (.tup [.int 0, .int 1])) = H3 at s1' ft
    refine fun p dx hp hdx ne => ?_
    have sA : Same H3 (upd (upd H3 dx (.own p)) p (.ins T.Skin.C dx [])) := (same_new hdx).trans (same_new (by rw [upd_ne ne.symm]; exact hp))
    have pm2 : ([0, 1] : List Int).Perm (rgI (2 * 1)) := List.Perm.refl _
    refine ⟨p, dx, _, rfl, upd_same, .inr ⟨t, 1, [0, 1], rfl, .inr (FzT.same ft sA), by omega, by omega, pm2, fun H4 sk kp => ⟨rfl, ?_⟩⟩⟩
    rw [show trn ([0, 1] : List Int) = [0, 1] from rfl] at sk
    refine tcn (tC_i (nil_i ⟨_, _, rfl, .inr ⟨p, [0, 1], rfl, sk, ⟨by decide, by decide⟩, .inr ⟨_, rfl, by decide, fun _ q H5 s5 hq => ?_, fun z => absurd (by decide) z⟩⟩⟩))
    refine ⟨(by show 0 ≤ sizeLine; decide), fun u hu => ?_⟩
    have hq2 := same_new (o := .tup []) hu _ _ hq
    refine ⟨_, _, .tup (SqT.of hq2) (dpAll_ints _ _), .tup (SqT.of upd_same) .nil, shapedTup _, rfl, ?_⟩
    exact k _
end
end Tt
set_option maxRecDepth 100000
set_option maxHeartbeats 4000000
namespace Tt
open PySem PySem.Spec PyProof.Rows L2
open LamX (TabB)
def firstH (a : Addr) (ts : List (Addr × Addr)) (u : Option HO) : Hp := fun b => if b = a then u else if b ∈ ts.map (·.2) then some (.tbl #[]) else none
theorem firstH_a {a : Addr} {ts : List (Addr × Addr)} {u : Option HO} : firstH a ts u a = u := if_pos rfl
theorem firstH_t {a t : Addr} {ts : List (Addr × Addr)} {u : Option HO} (n : t ≠ a) (h : t ∈ ts.map (·.2)) : firstH a ts u t = some (.tbl #[]) := (if_neg n).trans (if_pos h)
theorem firstH_o {a b : Addr} {ts : List (Addr × Addr)} {u : Option HO} (n : b ≠ a) (m : b ∉ ts.map (·.2)) : firstH a ts u b = none := (if_neg n).trans (if_neg m)
theorem law_run {P : Program} {w : World} {K : PySem.W.Frag} {mg mb : Str → Option Value} {fa a : Addr} {ts : List (Addr × Addr)} {s₁ : Shared} {vs : List Value} {ns : List Int}
    (KX : K.In s₁.heap) (hg : s₁.heap.Ns mainGlobals mg) (hb : s₁.heap.Ns builtinsNs mb) (hbb : ∀ x : Str, x ≠ "__name__" → mb x = bootBuiltins x) (lim : s₁.heap.NoLimit) (gens : s₁.gens = #[])
    (hts : ∀ p ∈ ts, s₁.heap.get? p.2 = some { cls := .none, data := .fields #[] } ∧ K.lookup p.2 = none ∧ PySem.W.CodeHd s₁.heap p.1 p.2)
    (bmain : ∃ (bm : Addr) (ob : Obj), mg "__builtins__" = some (.ref bm) ∧ bm ≠ builtinsNs ∧ s₁.heap.get? bm = some ob ∧ ob.cls = .type "module" ∧ ob.dict = some builtinsNs ∧ ob.data = .plain)
    (ha : s₁.heap.get? a = some { cls := .type "list", data := .seq vs.toArray }) (hi : IntsAre vs ns) (hl : ns.length ≤ sizeLine)
    (run : ∀ (base : Heap) (H : Hp), (∀ p ∈ ts, TabB base mg p.1 p.2) → Env0 P w K mg base callerA [] s₁ H → (∀ p ∈ ts, H p.2 = some (.tbl #[])) → SqL K H a (ns.map V.int) → codeAny (model P w) callerA (.call (.ref fa) ⟨[.ref a], []⟩) (CR CX0 [] P w H s₁ (fun v _ => v = .bl true) E0) s₁) :
    codeAny (model P w) callerA (.call (.ref fa) ⟨[.ref a], []⟩) (fun r s' => r = .ok (.ret (.bool true)) ∧ OldK s₁.heap s'.heap ∧ s'.os = s₁.os ∧ AllBare s'.gens) s₁ := by
  have rv := vals_ints hi
  have mem : ∀ {t : Addr}, t ∈ ts.map (·.2) → ∃ c, (c, t) ∈ ts := fun {t} h => by
    obtain ⟨⟨c, t'⟩, h1, rfl⟩ := List.mem_map.mp h
    exact ⟨c, h1⟩
  have nta : ∀ t ∈ ts.map (·.2), t ≠ a := fun t ht z => by
    obtain ⟨c, hc⟩ := mem ht
    have h1 := (hts _ hc).1
    rw [z, ha] at h1
    have z' : Data.seq vs.toArray _ = Data.fields #[] := congrArg Obj.data (Option.some.inj h1)
    cases z'
  obtain ⟨u, hu, hS, hK⟩ : ∃ u : Option HO, (u = none ∨ u = some (.frz { cls := .type "list", data := .seq vs.toArray } (.lst (ns.map V.int)))) ∧ SqL K (firstH a ts u) a (ns.map V.int) ∧ (u ≠ none → K.lookup a = none) := by
    cases hk : K.lookup a with
    | none => exact ⟨_, .inr rfl, .inl (.inr ⟨_, firstH_a⟩), fun _ => rfl⟩
    | some o =>
      have e := KX a o hk
      rw [ha] at e
      cases e
      exact ⟨none, .inl rfl, .inr ⟨_, vs.toArray, _, hk, rfl, rfl, rfl, by rw [List.size_toArray, hi.length]; exact hl, by simpa using rv⟩, fun z => absurd rfl z⟩
  have hT : ∀ t ∈ ts.map (·.2), firstH a ts u t = some (.tbl #[]) := fun t ht => firstH_t (nta t ht) ht
  have look : ∀ b x, firstH a ts u b = some x → (b = a ∧ u = some x) ∨ (b ∈ ts.map (·.2) ∧ x = .tbl #[]) := fun b x e => by
    by_cases h1 : b = a
    · subst h1
      exact .inl ⟨rfl, firstH_a.symm.trans e⟩
    · by_cases h2 : b ∈ ts.map (·.2)
      · rw [hT b h2] at e
        exact .inr ⟨h2, (Option.some.inj e).symm⟩
      · rw [firstH_o h1 h2] at e
        cases e
  generalize hH : firstH a ts u = H at hS hT look
  have free : ∀ {b : Addr} {o : Obj}, s₁.heap.get? b = some o → (∀ vs n, o.data ≠ .seq vs n) → o.data ≠ .fields #[] → H b = none := fun {b o} e h1 h2 => by
    cases q : H b with
    | none => rfl
    | some x =>
      rcases look b x q with ⟨rfl, _⟩ | ⟨hb, _⟩
      · rw [ha] at e
        cases e
        exact (h1 _ _ rfl).elim
      · obtain ⟨c, hc⟩ := mem hb
        rw [(hts _ hc).1] at e
        cases e
        exact (h2 rfl).elim
  have dict : ∀ {b : Addr} {m : Str → Option Value}, s₁.heap.Ns b m → (hidT s₁.heap H).Ns b m := fun {b m} ⟨o, es, ep, e, d, r⟩ =>
    ⟨o, es, ep, hidT_get e (free e (fun _ _ z => by rw [d] at z; cases z) (fun z => by rw [d] at z; cases z)), d, r⟩
  have kin : K.In (hidT s₁.heap H) := fun b o e => hidT_get (KX b o e) (by
    cases q : H b with
    | none => rfl
    | some x =>
      rcases look b x q with ⟨rfl, hx⟩ | ⟨hb, _⟩
      · rw [hK (by rw [hx]; simp)] at e
        cases e
      · obtain ⟨c, hc⟩ := mem hb
        rw [(hts _ hc).2.1] at e
        cases e)
  have mod : L2.Mod K mg (hidT s₁.heap H) := ⟨kin, dict hg, ⟨mb, dict hb, hbb⟩, let ⟨mc, h1, h2⟩ := lim; ⟨mc, dict h1, h2⟩⟩
  have TB : ∀ p ∈ ts, TabB (hidT s₁.heap H) mg p.1 p.2 := fun p hp => by
    obtain ⟨ht, nt, C⟩ := hts p hp
    refine ⟨?_, ?_, fun z => ?_⟩
    · obtain ⟨o, us, file, tf, flags, tg, inF, text, tt, e1, r1, r2, r3, rest⟩ := C
      refine ⟨o, us, file, tf, flags, tg, inF, text, tt, hidT_get e1 (free e1 (fun _ _ z => by rw [r2] at z; cases z) fun z => ?_), r1, r2, r3, rest⟩
      rw [r2] at z
      cases z
      simp at r3
    · obtain ⟨bm, ob, b1, b2, b3, b4, b5, b6⟩ := bmain
      refine ⟨bm, ob, b1, b2, fun q => ?_, fun q => ?_, hidT_get b3 (free b3 (fun _ _ z => by rw [b6] at z; cases z) (fun z => by rw [b6] at z; cases z)), b4, b5, b6⟩
      · obtain ⟨o, es, ep, e, hd, _⟩ := hg
        rw [q, e] at b3
        cases b3
        rw [hd] at b6
        cases b6
      · rw [q, ht] at b3
        cases b3
        cases b6
    · obtain ⟨o, es, ep, e, hd, _⟩ := hg
      rw [z, ht] at e
      cases e
      cases hd
  have hok : HOk P w H s₁.heap := fun b x e => by
    rcases look b x e with ⟨rfl, hx⟩ | ⟨hb, rfl⟩
    · rcases hu with rfl | rfl
      · cases hx
      · cases hx
        exact ⟨ha, by rw [List.length_map]; exact hl, vs, _, rv, ha⟩
    · obtain ⟨c, hc⟩ := mem hb
      exact (hts _ hc).1
  have e0 : Env0 P w K mg (hidT s₁.heap H) callerA [] s₁ H := ⟨rfl, mod, fun b o e => of_hidT e, Nat.le_of_eq (hidT_size _ _), trivial, fun b hb => absurd (show b ∈ ([] : List Addr) from hb) (by simp), hok, .of_eq gens⟩
  refine codeAny_mono (run _ H TB e0 (fun p hp => hT _ (List.mem_map_of_mem hp)) hS) fun r s' h => ?_
  match r, h with
  | .error e, h => exact (show False from h).elim
  | .ok .next, h => exact (show False from h).elim
  | .ok .brk, h => exact (show False from h).elim
  | .ok .cont, h => exact (show False from h).elim
  | .ok (.ret v'), h =>
    obtain ⟨v, H', os, bare, un, hok', rr, rfl⟩ := h
    obtain rfl : v' = Value.bool true := rr
    have ends : ∀ t ∈ ts.map (·.2), ∃ more : Array Value, s'.heap.get? t = some { cls := .none, data := .fields more } := fun t ht => by
      obtain ⟨more, e3⟩ := un.tbls t #[] (hT t ht)
      have e4 : s'.heap.get? t = some { cls := .none, data := .fields (#[] ++ more) } := hok' t _ e3
      rw [Array.empty_append] at e4
      exact ⟨more, e4⟩
    have stay : ∀ b o, b ∉ ts.map (·.2) → s₁.heap.get? b = some o → s'.heap.get? b = some o := fun b o nb e => by
      cases q : H b with
      | none => exact un.keep b o e q (fun z => absurd (show b ∈ ([] : List Addr) from z) (by simp)) (by simp)
      | some x =>
        rcases look b x q with ⟨rfl, hx⟩ | ⟨hb, _⟩
        · rcases hu with rfl | rfl
          · cases hx
          · cases hx
            obtain ⟨e1, _⟩ := hok b _ q
            obtain ⟨e2, _⟩ := hok' b _ (un.frzs b _ _ q)
            rw [e] at e1
            cases e1
            exact e2
        · exact absurd hb nb
    refine ⟨rfl, ⟨fun b o e => ?_, fun b o e => ?_⟩, os, bare⟩
    · by_cases nb : b ∈ ts.map (·.2)
      · obtain ⟨c, hc⟩ := mem nb
        obtain ⟨ht, nt, C⟩ := hts _ hc
        obtain ⟨more, e4⟩ := ends b nb
        have ht' : s₁.heap.get? b = some { cls := .none, data := .fields #[] } := ht
        rw [ht'] at e
        cases e
        exact .inr (.inl ⟨(C.tab ht).isCodeTable, rfl, #[], more, rfl, by rw [Array.empty_append]; exact e4⟩)
      · exact .inl (stay b o nb e)
    · by_cases nb : b ∈ ts.map (·.2)
      · obtain ⟨more, e4⟩ := ends b nb
        exact ⟨_, e4⟩
      · exact ⟨o, stay b o nb e⟩
end Tt
set_option maxRecDepth 100000
set_option maxHeartbeats 4000000
namespace Tt
open PySem PySem.Spec PyProof.Rows L2
open LamX (TabB)
theorem all_mk {K : PySem.W.Frag} {h : Heap} {mg : Str → Option Value} {fa jc jP wc wP tc tP bc bP lc lP : Addr} (X : K.In h) (G : h.Ns mainGlobals mg) (hfa : mg "law" = some (.ref fa))
    {C_RoundError : Addr}
    {C_BadSkin : Addr}
    {od_BadSkin an_BadSkin : Option Addr} {sl_BadSkin : Array (Option Value)} {oc_BadSkin kV_BadSkin dc_BadSkin pm_BadSkin cd_BadSkin ct_BadSkin : Value} {f_BadSkin : Addr}
    {nm_BadSkin qn_BadSkin : Str} {N_BadSkin : Addr} {bs_BadSkin bm_BadSkin : List Value} {sn_BadSkin : List Str} {sb_BadSkin : List Value} {ab_BadSkin : Bool} {co_BadSkin : Option Bool} {dd_BadSkin : Option Addr} {m0_BadSkin m1_BadSkin m2_BadSkin m3_BadSkin m5_BadSkin : Option Value}
    {C_BadText : Addr}
    {od_BadText an_BadText : Option Addr} {sl_BadText : Array (Option Value)} {oc_BadText kV_BadText dc_BadText pm_BadText cd_BadText ct_BadText : Value} {f_BadText : Addr}
    {nm_BadText qn_BadText : Str} {N_BadText : Addr} {bs_BadText bm_BadText : List Value} {sn_BadText : List Str} {sb_BadText : List Value} {ab_BadText : Bool} {co_BadText : Option Bool} {dd_BadText : Option Addr} {m0_BadText m1_BadText m2_BadText m3_BadText m5_BadText : Option Value}
    {C_BadWord : Addr}
    {od_is_number an_is_number : Option Addr} {sl_is_number : Array (Option Value)} {oc_is_number kV_is_number dc_is_number pm_is_number cd_is_number ct_is_number : Value} {f_is_number : Addr}
    {od_is_within an_is_within : Option Addr} {sl_is_within : Array (Option Value)} {oc_is_within kV_is_within dc_is_within pm_is_within cd_is_within ct_is_within : Value} {f_is_within : Addr}
    {od_is_tuple an_is_tuple : Option Addr} {sl_is_tuple : Array (Option Value)} {oc_is_tuple kV_is_tuple dc_is_tuple pm_is_tuple cd_is_tuple ct_is_tuple : Value} {f_is_tuple : Addr}
    {od_is_list an_is_list : Option Addr} {sl_is_list : Array (Option Value)} {oc_is_list kV_is_list dc_is_list pm_is_list cd_is_list ct_is_list : Value} {f_is_list : Addr}
    {od_is_row an_is_row : Option Addr} {sl_is_row : Array (Option Value)} {oc_is_row kV_is_row dc_is_row pm_is_row cd_is_row ct_is_row : Value} {f_is_row : Addr}
    {C_Skin : Addr}
    {od_Skin an_Skin : Option Addr} {sl_Skin : Array (Option Value)} {oc_Skin kV_Skin dc_Skin pm_Skin cd_Skin ct_Skin : Value} {f_Skin : Addr}
    {od_check_skin an_check_skin : Option Addr} {sl_check_skin : Array (Option Value)} {oc_check_skin kV_check_skin dc_check_skin pm_check_skin cd_check_skin ct_check_skin : Value} {f_check_skin : Addr}
    {od_is_end an_is_end : Option Addr} {sl_is_end : Array (Option Value)} {oc_is_end kV_is_end dc_is_end pm_is_end cd_is_end ct_is_end : Value} {f_is_end : Addr}
    {od_least_turn an_least_turn : Option Addr} {sl_least_turn : Array (Option Value)} {oc_least_turn kV_least_turn dc_least_turn pm_least_turn cd_least_turn ct_least_turn : Value} {f_least_turn : Addr}
    {od_is_any_word an_is_any_word : Option Addr} {sl_is_any_word : Array (Option Value)} {oc_is_any_word kV_is_any_word dc_is_any_word pm_is_any_word cd_is_any_word ct_is_any_word : Value} {f_is_any_word : Addr}
    {od_has_letters an_has_letters : Option Addr} {sl_has_letters : Array (Option Value)} {oc_has_letters kV_has_letters dc_has_letters pm_has_letters cd_has_letters ct_has_letters : Value} {f_has_letters : Addr}
    {od_check_word an_check_word : Option Addr} {sl_check_word : Array (Option Value)} {oc_check_word kV_check_word dc_check_word pm_check_word cd_check_word ct_check_word : Value} {f_check_word : Addr}
    {od_cut_free an_cut_free : Option Addr} {sl_cut_free : Array (Option Value)} {oc_cut_free kV_cut_free dc_cut_free pm_cut_free cd_cut_free ct_cut_free : Value} {f_cut_free : Addr}
    {od_closed_letters an_closed_letters : Option Addr} {sl_closed_letters : Array (Option Value)} {oc_closed_letters kV_closed_letters dc_closed_letters pm_closed_letters cd_closed_letters ct_closed_letters : Value} {f_closed_letters : Addr}
    {od_closed_up an_closed_up : Option Addr} {sl_closed_up : Array (Option Value)} {oc_closed_up kV_closed_up dc_closed_up pm_closed_up cd_closed_up ct_closed_up : Value} {f_closed_up : Addr}
    {od_is_fit_round an_is_fit_round : Option Addr} {sl_is_fit_round : Array (Option Value)} {oc_is_fit_round kV_is_fit_round dc_is_fit_round pm_is_fit_round cd_is_fit_round ct_is_fit_round : Value} {f_is_fit_round : Addr}
    {C_Reader : Addr}
    {od_Reader an_Reader : Option Addr} {sl_Reader : Array (Option Value)} {oc_Reader kV_Reader dc_Reader pm_Reader cd_Reader ct_Reader : Value} {f_Reader : Addr}
    {od_signs_of an_signs_of : Option Addr} {sl_signs_of : Array (Option Value)} {oc_signs_of kV_signs_of dc_signs_of pm_signs_of cd_signs_of ct_signs_of : Value} {f_signs_of : Addr}
    {od_word_text an_word_text : Option Addr} {sl_word_text : Array (Option Value)} {oc_word_text kV_word_text dc_word_text pm_word_text cd_word_text ct_word_text : Value} {f_word_text : Addr}
    {od_skin_text an_skin_text : Option Addr} {sl_skin_text : Array (Option Value)} {oc_skin_text kV_skin_text dc_skin_text pm_skin_text cd_skin_text ct_skin_text : Value} {f_skin_text : Addr}
    {od_read_word an_read_word : Option Addr} {sl_read_word : Array (Option Value)} {oc_read_word kV_read_word dc_read_word pm_read_word cd_read_word ct_read_word : Value} {f_read_word : Addr}
    {od_read_round an_read_round : Option Addr} {sl_read_round : Array (Option Value)} {oc_read_round kV_read_round dc_read_round pm_read_round cd_read_round ct_read_round : Value} {f_read_round : Addr}
    {od_read_skin an_read_skin : Option Addr} {sl_read_skin : Array (Option Value)} {oc_read_skin kV_read_skin dc_read_skin pm_read_skin cd_read_skin ct_read_skin : Value} {f_read_skin : Addr}
    {od_l_begun an_l_begun : Option Addr} {sl_l_begun : Array (Option Value)} {oc_l_begun kV_l_begun dc_l_begun pm_l_begun cd_l_begun ct_l_begun : Value} {f_l_begun : Addr}
    {od_l_mixed an_l_mixed : Option Addr} {sl_l_mixed : Array (Option Value)} {oc_l_mixed kV_l_mixed dc_l_mixed pm_l_mixed cd_l_mixed ct_l_mixed : Value} {f_l_mixed : Addr}
    {od_l_take an_l_take : Option Addr} {sl_l_take : Array (Option Value)} {oc_l_take kV_l_take dc_l_take pm_l_take cd_l_take ct_l_take : Value} {f_l_take : Addr}
    {od_l_pick an_l_pick : Option Addr} {sl_l_pick : Array (Option Value)} {oc_l_pick kV_l_pick dc_l_pick pm_l_pick cd_l_pick ct_l_pick : Value} {f_l_pick : Addr}
    {od_l_shuffled an_l_shuffled : Option Addr} {sl_l_shuffled : Array (Option Value)} {oc_l_shuffled kV_l_shuffled dc_l_shuffled pm_l_shuffled cd_l_shuffled ct_l_shuffled : Value} {f_l_shuffled : Addr}
    {od_l_caught an_l_caught : Option Addr} {sl_l_caught : Array (Option Value)} {oc_l_caught kV_l_caught dc_l_caught pm_l_caught cd_l_caught ct_l_caught : Value} {f_l_caught : Addr}
    {od_l_turned an_l_turned : Option Addr} {sl_l_turned : Array (Option Value)} {oc_l_turned kV_l_turned dc_l_turned pm_l_turned cd_l_turned ct_l_turned : Value} {f_l_turned : Addr}
    {od_l_row an_l_row : Option Addr} {sl_l_row : Array (Option Value)} {oc_l_row kV_l_row dc_l_row pm_l_row cd_l_row ct_l_row : Value} {f_l_row : Addr}
    {od_l_free an_l_free : Option Addr} {sl_l_free : Array (Option Value)} {oc_l_free kV_l_free dc_l_free pm_l_free cd_l_free ct_l_free : Value} {f_l_free : Addr}
    {od_l_round an_l_round : Option Addr} {sl_l_round : Array (Option Value)} {oc_l_round kV_l_round dc_l_round pm_l_round cd_l_round ct_l_round : Value} {f_l_round : Addr}
    {od_l_word an_l_word : Option Addr} {sl_l_word : Array (Option Value)} {oc_l_word kV_l_word dc_l_word pm_l_word cd_l_word ct_l_word : Value} {f_l_word : Addr}
    {od_l_any_round an_l_any_round : Option Addr} {sl_l_any_round : Array (Option Value)} {oc_l_any_round kV_l_any_round dc_l_any_round pm_l_any_round cd_l_any_round ct_l_any_round : Value} {f_l_any_round : Addr}
    {od_l_signs an_l_signs : Option Addr} {sl_l_signs : Array (Option Value)} {oc_l_signs kV_l_signs dc_l_signs pm_l_signs cd_l_signs ct_l_signs : Value} {f_l_signs : Addr}
    {od_l_spelled an_l_spelled : Option Addr} {sl_l_spelled : Array (Option Value)} {oc_l_spelled kV_l_spelled dc_l_spelled pm_l_spelled cd_l_spelled ct_l_spelled : Value} {f_l_spelled : Addr}
    {od_l_read_word an_l_read_word : Option Addr} {sl_l_read_word : Array (Option Value)} {oc_l_read_word kV_l_read_word dc_l_read_word pm_l_read_word cd_l_read_word ct_l_read_word : Value} {f_l_read_word : Addr}
    {od_l_read_round an_l_read_round : Option Addr} {sl_l_read_round : Array (Option Value)} {oc_l_read_round kV_l_read_round dc_l_read_round pm_l_read_round cd_l_read_round ct_l_read_round : Value} {f_l_read_round : Addr}
    {od_l_read_skin an_l_read_skin : Option Addr} {sl_l_read_skin : Array (Option Value)} {oc_l_read_skin kV_l_read_skin dc_l_read_skin pm_l_read_skin cd_l_read_skin ct_l_read_skin : Value} {f_l_read_skin : Addr}
    {od_l_bent an_l_bent : Option Addr} {sl_l_bent : Array (Option Value)} {oc_l_bent kV_l_bent dc_l_bent pm_l_bent cd_l_bent ct_l_bent : Value} {f_l_bent : Addr}
    {od_l_is_told an_l_is_told : Option Addr} {sl_l_is_told : Array (Option Value)} {oc_l_is_told kV_l_is_told dc_l_is_told pm_l_is_told ct_l_is_told : Value} {f_l_is_told : Addr}
    {od_l_is_begun an_l_is_begun : Option Addr} {sl_l_is_begun : Array (Option Value)} {oc_l_is_begun kV_l_is_begun dc_l_is_begun pm_l_is_begun ct_l_is_begun : Value} {f_l_is_begun : Addr}
    {od_l_row_told an_l_row_told : Option Addr} {sl_l_row_told : Array (Option Value)} {oc_l_row_told kV_l_row_told dc_l_row_told pm_l_row_told cd_l_row_told ct_l_row_told : Value} {f_l_row_told : Addr}
    {od_l_words_right an_l_words_right : Option Addr} {sl_l_words_right : Array (Option Value)} {oc_l_words_right kV_l_words_right dc_l_words_right pm_l_words_right ct_l_words_right : Value} {f_l_words_right : Addr}
    {od_l_refused an_l_refused : Option Addr} {sl_l_refused : Array (Option Value)} {oc_l_refused kV_l_refused dc_l_refused pm_l_refused ct_l_refused : Value} {f_l_refused : Addr}
    {od_law an_law : Option Addr} {sl_law : Array (Option Value)} {oc_law kV_law dc_law pm_law ct_law : Value} {f_law : Addr}
    {tkMOST_LETTERS : Tok}
    {tkMOST_IN_ROUND : Tok}
    {tkLETTER_SIGNS : Tok}
    {od_eqM an_eqM : Option Addr} {sl_eqM : Array (Option Value)} {oc_eqM kV_eqM dc_eqM pm_eqM cd_eqM ct_eqM : Value} {f_eqM : Addr}
    {od_mSign an_mSign : Option Addr} {sl_mSign : Array (Option Value)} {oc_mSign kV_mSign dc_mSign pm_mSign cd_mSign ct_mSign : Value} {f_mSign : Addr}
    {od_mEnd an_mEnd : Option Addr} {sl_mEnd : Array (Option Value)} {oc_mEnd kV_mEnd dc_mEnd pm_mEnd cd_mEnd ct_mEnd : Value} {f_mEnd : Addr}
    {od_mCheck an_mCheck : Option Addr} {sl_mCheck : Array (Option Value)} {oc_mCheck kV_mCheck dc_mCheck pm_mCheck cd_mCheck ct_mCheck : Value} {f_mCheck : Addr}
    {od_mLetter an_mLetter : Option Addr} {sl_mLetter : Array (Option Value)} {oc_mLetter kV_mLetter dc_mLetter pm_mLetter cd_mLetter ct_mLetter : Value} {f_mLetter : Addr}
    {od_mLetters an_mLetters : Option Addr} {sl_mLetters : Array (Option Value)} {oc_mLetters kV_mLetters dc_mLetters pm_mLetters cd_mLetters ct_mLetters : Value} {f_mLetters : Addr}
    {od_mRound an_mRound : Option Addr} {sl_mRound : Array (Option Value)} {oc_mRound kV_mRound dc_mRound pm_mRound cd_mRound ct_mRound : Value} {f_mRound : Addr}
    {dV_mRound : Value}
    {od_mSkin an_mSkin : Option Addr} {sl_mSkin : Array (Option Value)} {oc_mSkin kV_mSkin dc_mSkin pm_mSkin cd_mSkin ct_mSkin : Value} {f_mSkin : Addr}
    (hn0 : PySem.W.specialIn K (.builtin "object.__class__") "__get__" = some (some (.builtin "getset_descriptor.__get__")))
    (ht0 : PySem.W.takesIn K (.builtin "object.__class__") = some true)
    (a_RoundError : PySem.W.nsIn K mainGlobals "RoundError" = some (some (.ref C_RoundError)))
    (k_RoundError : PySem.W.keepIn K (.ref C_RoundError) = true)
    (q_RoundError : PySem.W.excIn K C_RoundError [.type "ValueError", .type "Exception", .type "BaseException", .type "object"] "ValueError.__new__" = true)
    (ty_RoundError : PySem.W.typeIn K (.ref C_RoundError) = some (.type "type"))
    (ga_RoundError : PySem.W.findIn K (.ref C_RoundError) "__getattribute__" = some (some (.builtin "BaseException.__getattribute__")))
    (gg_RoundError : PySem.W.findIn K (.ref C_RoundError) "__getattr__" = some none)
    (ex_RoundError : PySem.W.subIn K (.ref C_RoundError) (.type "BaseException") = some true)
    (hd_RoundError : PySem.W.hasDictIn K C_RoundError = true)
    (ca_RoundError : PySem.W.findIn K (.ref C_RoundError) "__class__" = some (some (.builtin "object.__class__")))
    (mo_RoundError : PySem.W.mroIn K C_RoundError (.type "object") = some true)
    (a_BadSkin : PySem.W.nsIn K mainGlobals "BadSkin" = some (some (.ref C_BadSkin)))
    (x_BadSkin : K.lookup C_BadSkin = some (excClassObj nm_BadSkin qn_BadSkin C_BadSkin N_BadSkin bs_BadSkin bm_BadSkin true sn_BadSkin sb_BadSkin ab_BadSkin co_BadSkin dd_BadSkin m0_BadSkin m1_BadSkin m2_BadSkin m3_BadSkin m5_BadSkin "ValueError.__new__"))
    (rv_BadSkin : PySem.HandSPX.refsVE bm_BadSkin = true)
    (sa_BadSkin : PySem.W.findIn K (.ref C_BadSkin) "__setattr__" = some (some (.builtin "object.__setattr__")))
    (ty_BadSkin : PySem.W.typeIn K (.ref C_BadSkin) = some (.type "type"))
    (kc_BadSkin : PySem.W.keepIn K (.ref C_BadSkin) = true)
    (i_BadSkin : PySem.W.findIn K (.ref C_BadSkin) "__init__" = some (some (.ref f_BadSkin)))
    (t_BadSkin : PySem.W.typeIn K (.ref f_BadSkin) = some (.type "function"))
    (l_BadSkin : K.lookup f_BadSkin = some ⟨oc_BadSkin, od_BadSkin, .func (PySem.W.fnOf "__init__" "BadSkin.__init__" (defArgs s_BadSkin_init) (defBody s_BadSkin_init) (defScope s_BadSkin_init) .none kV_BadSkin dc_BadSkin pm_BadSkin an_BadSkin cd_BadSkin ct_BadSkin), sl_BadSkin⟩)
    (c_BadSkin : PySem.W.codeIn K cd_BadSkin "BadSkin.__init__" = true)
    (k_BadSkin : PySem.W.keepIn K (.ref f_BadSkin) = true)
    (nf_BadSkin : PySem.W.findIn K (.ref C_BadSkin) "part" = some none)
    (ga_BadSkin : PySem.W.findIn K (.ref C_BadSkin) "__getattribute__" = some (some (.builtin "BaseException.__getattribute__")))
    (gg_BadSkin : PySem.W.findIn K (.ref C_BadSkin) "__getattr__" = some none)
    (ex_BadSkin : PySem.W.subIn K (.ref C_BadSkin) (.type "BaseException") = some true)
    (hd_BadSkin : PySem.W.hasDictIn K C_BadSkin = true)
    (ca_BadSkin : PySem.W.findIn K (.ref C_BadSkin) "__class__" = some (some (.builtin "object.__class__")))
    (mo_BadSkin : PySem.W.mroIn K C_BadSkin (.type "object") = some true)
    (a_BadText : PySem.W.nsIn K mainGlobals "BadText" = some (some (.ref C_BadText)))
    (x_BadText : K.lookup C_BadText = some (excClassObj nm_BadText qn_BadText C_BadText N_BadText bs_BadText bm_BadText true sn_BadText sb_BadText ab_BadText co_BadText dd_BadText m0_BadText m1_BadText m2_BadText m3_BadText m5_BadText "ValueError.__new__"))
    (rv_BadText : PySem.HandSPX.refsVE bm_BadText = true)
    (sa_BadText : PySem.W.findIn K (.ref C_BadText) "__setattr__" = some (some (.builtin "object.__setattr__")))
    (ty_BadText : PySem.W.typeIn K (.ref C_BadText) = some (.type "type"))
    (kc_BadText : PySem.W.keepIn K (.ref C_BadText) = true)
    (i_BadText : PySem.W.findIn K (.ref C_BadText) "__init__" = some (some (.ref f_BadText)))
    (t_BadText : PySem.W.typeIn K (.ref f_BadText) = some (.type "function"))
    (l_BadText : K.lookup f_BadText = some ⟨oc_BadText, od_BadText, .func (PySem.W.fnOf "__init__" "BadText.__init__" (defArgs s_BadText_init) (defBody s_BadText_init) (defScope s_BadText_init) .none kV_BadText dc_BadText pm_BadText an_BadText cd_BadText ct_BadText), sl_BadText⟩)
    (c_BadText : PySem.W.codeIn K cd_BadText "BadText.__init__" = true)
    (k_BadText : PySem.W.keepIn K (.ref f_BadText) = true)
    (nf_BadText : PySem.W.findIn K (.ref C_BadText) "at" = some none)
    (ga_BadText : PySem.W.findIn K (.ref C_BadText) "__getattribute__" = some (some (.builtin "BaseException.__getattribute__")))
    (gg_BadText : PySem.W.findIn K (.ref C_BadText) "__getattr__" = some none)
    (ex_BadText : PySem.W.subIn K (.ref C_BadText) (.type "BaseException") = some true)
    (hd_BadText : PySem.W.hasDictIn K C_BadText = true)
    (ca_BadText : PySem.W.findIn K (.ref C_BadText) "__class__" = some (some (.builtin "object.__class__")))
    (mo_BadText : PySem.W.mroIn K C_BadText (.type "object") = some true)
    (a_BadWord : PySem.W.nsIn K mainGlobals "BadWord" = some (some (.ref C_BadWord)))
    (k_BadWord : PySem.W.keepIn K (.ref C_BadWord) = true)
    (q_BadWord : PySem.W.excIn K C_BadWord [.type "ValueError", .type "Exception", .type "BaseException", .type "object"] "ValueError.__new__" = true)
    (ty_BadWord : PySem.W.typeIn K (.ref C_BadWord) = some (.type "type"))
    (ga_BadWord : PySem.W.findIn K (.ref C_BadWord) "__getattribute__" = some (some (.builtin "BaseException.__getattribute__")))
    (gg_BadWord : PySem.W.findIn K (.ref C_BadWord) "__getattr__" = some none)
    (ex_BadWord : PySem.W.subIn K (.ref C_BadWord) (.type "BaseException") = some true)
    (hd_BadWord : PySem.W.hasDictIn K C_BadWord = true)
    (ca_BadWord : PySem.W.findIn K (.ref C_BadWord) "__class__" = some (some (.builtin "object.__class__")))
    (mo_BadWord : PySem.W.mroIn K C_BadWord (.type "object") = some true)
    (a_is_number : PySem.W.nsIn K mainGlobals "is_number" = some (some (.ref f_is_number)))
    (l_is_number : K.lookup f_is_number = some ⟨oc_is_number, od_is_number, .func (PySem.W.fnOf "is_number" "is_number" (defArgs s_is_number) (defBody s_is_number) (defScope s_is_number) .none kV_is_number dc_is_number pm_is_number an_is_number cd_is_number ct_is_number), sl_is_number⟩)
    (c_is_number : PySem.W.codeIn K cd_is_number "is_number" = true)
    (k_is_number : PySem.W.keepIn K (.ref f_is_number) = true)
    (a_is_within : PySem.W.nsIn K mainGlobals "is_within" = some (some (.ref f_is_within)))
    (l_is_within : K.lookup f_is_within = some ⟨oc_is_within, od_is_within, .func (PySem.W.fnOf "is_within" "is_within" (defArgs s_is_within) (defBody s_is_within) (defScope s_is_within) .none kV_is_within dc_is_within pm_is_within an_is_within cd_is_within ct_is_within), sl_is_within⟩)
    (c_is_within : PySem.W.codeIn K cd_is_within "is_within" = true)
    (k_is_within : PySem.W.keepIn K (.ref f_is_within) = true)
    (a_is_tuple : PySem.W.nsIn K mainGlobals "is_tuple" = some (some (.ref f_is_tuple)))
    (l_is_tuple : K.lookup f_is_tuple = some ⟨oc_is_tuple, od_is_tuple, .func (PySem.W.fnOf "is_tuple" "is_tuple" (defArgs s_is_tuple) (defBody s_is_tuple) (defScope s_is_tuple) .none kV_is_tuple dc_is_tuple pm_is_tuple an_is_tuple cd_is_tuple ct_is_tuple), sl_is_tuple⟩)
    (c_is_tuple : PySem.W.codeIn K cd_is_tuple "is_tuple" = true)
    (k_is_tuple : PySem.W.keepIn K (.ref f_is_tuple) = true)
    (a_is_list : PySem.W.nsIn K mainGlobals "is_list" = some (some (.ref f_is_list)))
    (l_is_list : K.lookup f_is_list = some ⟨oc_is_list, od_is_list, .func (PySem.W.fnOf "is_list" "is_list" (defArgs s_is_list) (defBody s_is_list) (defScope s_is_list) .none kV_is_list dc_is_list pm_is_list an_is_list cd_is_list ct_is_list), sl_is_list⟩)
    (c_is_list : PySem.W.codeIn K cd_is_list "is_list" = true)
    (k_is_list : PySem.W.keepIn K (.ref f_is_list) = true)
    (a_is_row : PySem.W.nsIn K mainGlobals "is_row" = some (some (.ref f_is_row)))
    (l_is_row : K.lookup f_is_row = some ⟨oc_is_row, od_is_row, .func (PySem.W.fnOf "is_row" "is_row" (defArgs s_is_row) (defBody s_is_row) (defScope s_is_row) .none kV_is_row dc_is_row pm_is_row an_is_row cd_is_row ct_is_row), sl_is_row⟩)
    (c_is_row : PySem.W.codeIn K cd_is_row "is_row" = true)
    (k_is_row : PySem.W.keepIn K (.ref f_is_row) = true)
    (a_Skin : PySem.W.nsIn K mainGlobals "Skin" = some (some (.ref C_Skin)))
    (i_Skin : PySem.W.findIn K (.ref C_Skin) "__init__" = some (some (.ref f_Skin)))
    (fn_Skin : PySem.W.isFn K (.ref f_Skin) = true)
    (l_Skin : K.lookup f_Skin = some ⟨oc_Skin, od_Skin, .func (PySem.W.fnOf "__init__" "Skin.__init__" (defArgs s_Skin_init) (defBody s_Skin_init) (defScope s_Skin_init) .none kV_Skin dc_Skin pm_Skin an_Skin cd_Skin ct_Skin), sl_Skin⟩)
    (c_Skin : PySem.W.codeIn K cd_Skin "Skin.__init__" = true)
    (k_Skin : PySem.W.keepIn K (.ref f_Skin) = true)
    (pg_Skin : PySem.W.plainGet K C_Skin Str.empty = true)
    (hd_Skin : PySem.W.hasDictIn K C_Skin = true)
    (po_Skin : PySem.W.plainOver K C_Skin = true)
    (sa_Skin : PySem.W.findIn K (.ref C_Skin) "__setattr__" = some (some (.builtin "object.__setattr__")))
    (mk_Skin : PySem.W.makesIn K C_Skin = true)
    (kc_Skin : PySem.W.keepIn K (.ref C_Skin) = true)
    (ca_Skin : PySem.W.findIn K (.ref C_Skin) "__class__" = some (some (.builtin "object.__class__")))
    (mo_Skin : PySem.W.mroIn K C_Skin (.type "object") = some true)
    (n_Skin_row : PySem.W.findIn K (.ref C_Skin) "row" = some none)
    (n_Skin_bands : PySem.W.findIn K (.ref C_Skin) "bands" = some none)
    (n_Skin_places : PySem.W.findIn K (.ref C_Skin) "places" = some none)
    (a_check_skin : PySem.W.nsIn K mainGlobals "check_skin" = some (some (.ref f_check_skin)))
    (l_check_skin : K.lookup f_check_skin = some ⟨oc_check_skin, od_check_skin, .func (PySem.W.fnOf "check_skin" "check_skin" (defArgs s_check_skin) (defBody s_check_skin) (defScope s_check_skin) .none kV_check_skin dc_check_skin pm_check_skin an_check_skin cd_check_skin ct_check_skin), sl_check_skin⟩)
    (c_check_skin : PySem.W.codeIn K cd_check_skin "check_skin" = true)
    (k_check_skin : PySem.W.keepIn K (.ref f_check_skin) = true)
    (a_is_end : PySem.W.nsIn K mainGlobals "is_end" = some (some (.ref f_is_end)))
    (l_is_end : K.lookup f_is_end = some ⟨oc_is_end, od_is_end, .func (PySem.W.fnOf "is_end" "is_end" (defArgs s_is_end) (defBody s_is_end) (defScope s_is_end) .none kV_is_end dc_is_end pm_is_end an_is_end cd_is_end ct_is_end), sl_is_end⟩)
    (c_is_end : PySem.W.codeIn K cd_is_end "is_end" = true)
    (k_is_end : PySem.W.keepIn K (.ref f_is_end) = true)
    (a_least_turn : PySem.W.nsIn K mainGlobals "least_turn" = some (some (.ref f_least_turn)))
    (l_least_turn : K.lookup f_least_turn = some ⟨oc_least_turn, od_least_turn, .func (PySem.W.fnOf "least_turn" "least_turn" (defArgs s_least_turn) (defBody s_least_turn) (defScope s_least_turn) .none kV_least_turn dc_least_turn pm_least_turn an_least_turn cd_least_turn ct_least_turn), sl_least_turn⟩)
    (c_least_turn : PySem.W.codeIn K cd_least_turn "least_turn" = true)
    (k_least_turn : PySem.W.keepIn K (.ref f_least_turn) = true)
    (a_is_any_word : PySem.W.nsIn K mainGlobals "is_any_word" = some (some (.ref f_is_any_word)))
    (l_is_any_word : K.lookup f_is_any_word = some ⟨oc_is_any_word, od_is_any_word, .func (PySem.W.fnOf "is_any_word" "is_any_word" (defArgs s_is_any_word) (defBody s_is_any_word) (defScope s_is_any_word) .none kV_is_any_word dc_is_any_word pm_is_any_word an_is_any_word cd_is_any_word ct_is_any_word), sl_is_any_word⟩)
    (c_is_any_word : PySem.W.codeIn K cd_is_any_word "is_any_word" = true)
    (k_is_any_word : PySem.W.keepIn K (.ref f_is_any_word) = true)
    (a_has_letters : PySem.W.nsIn K mainGlobals "has_letters" = some (some (.ref f_has_letters)))
    (l_has_letters : K.lookup f_has_letters = some ⟨oc_has_letters, od_has_letters, .func (PySem.W.fnOf "has_letters" "has_letters" (defArgs s_has_letters) (defBody s_has_letters) (defScope s_has_letters) .none kV_has_letters dc_has_letters pm_has_letters an_has_letters cd_has_letters ct_has_letters), sl_has_letters⟩)
    (c_has_letters : PySem.W.codeIn K cd_has_letters "has_letters" = true)
    (k_has_letters : PySem.W.keepIn K (.ref f_has_letters) = true)
    (a_check_word : PySem.W.nsIn K mainGlobals "check_word" = some (some (.ref f_check_word)))
    (l_check_word : K.lookup f_check_word = some ⟨oc_check_word, od_check_word, .func (PySem.W.fnOf "check_word" "check_word" (defArgs s_check_word) (defBody s_check_word) (defScope s_check_word) .none kV_check_word dc_check_word pm_check_word an_check_word cd_check_word ct_check_word), sl_check_word⟩)
    (c_check_word : PySem.W.codeIn K cd_check_word "check_word" = true)
    (k_check_word : PySem.W.keepIn K (.ref f_check_word) = true)
    (a_cut_free : PySem.W.nsIn K mainGlobals "cut_free" = some (some (.ref f_cut_free)))
    (l_cut_free : K.lookup f_cut_free = some ⟨oc_cut_free, od_cut_free, .func (PySem.W.fnOf "cut_free" "cut_free" (defArgs s_cut_free) (defBody s_cut_free) (defScope s_cut_free) .none kV_cut_free dc_cut_free pm_cut_free an_cut_free cd_cut_free ct_cut_free), sl_cut_free⟩)
    (c_cut_free : PySem.W.codeIn K cd_cut_free "cut_free" = true)
    (k_cut_free : PySem.W.keepIn K (.ref f_cut_free) = true)
    (a_closed_letters : PySem.W.nsIn K mainGlobals "closed_letters" = some (some (.ref f_closed_letters)))
    (l_closed_letters : K.lookup f_closed_letters = some ⟨oc_closed_letters, od_closed_letters, .func (PySem.W.fnOf "closed_letters" "closed_letters" (defArgs s_closed_letters) (defBody s_closed_letters) (defScope s_closed_letters) .none kV_closed_letters dc_closed_letters pm_closed_letters an_closed_letters cd_closed_letters ct_closed_letters), sl_closed_letters⟩)
    (c_closed_letters : PySem.W.codeIn K cd_closed_letters "closed_letters" = true)
    (k_closed_letters : PySem.W.keepIn K (.ref f_closed_letters) = true)
    (a_closed_up : PySem.W.nsIn K mainGlobals "closed_up" = some (some (.ref f_closed_up)))
    (l_closed_up : K.lookup f_closed_up = some ⟨oc_closed_up, od_closed_up, .func (PySem.W.fnOf "closed_up" "closed_up" (defArgs s_closed_up) (defBody s_closed_up) (defScope s_closed_up) .none kV_closed_up dc_closed_up pm_closed_up an_closed_up cd_closed_up ct_closed_up), sl_closed_up⟩)
    (c_closed_up : PySem.W.codeIn K cd_closed_up "closed_up" = true)
    (k_closed_up : PySem.W.keepIn K (.ref f_closed_up) = true)
    (a_is_fit_round : PySem.W.nsIn K mainGlobals "is_fit_round" = some (some (.ref f_is_fit_round)))
    (l_is_fit_round : K.lookup f_is_fit_round = some ⟨oc_is_fit_round, od_is_fit_round, .func (PySem.W.fnOf "is_fit_round" "is_fit_round" (defArgs s_is_fit_round) (defBody s_is_fit_round) (defScope s_is_fit_round) .none kV_is_fit_round dc_is_fit_round pm_is_fit_round an_is_fit_round cd_is_fit_round ct_is_fit_round), sl_is_fit_round⟩)
    (c_is_fit_round : PySem.W.codeIn K cd_is_fit_round "is_fit_round" = true)
    (k_is_fit_round : PySem.W.keepIn K (.ref f_is_fit_round) = true)
    (a_Reader : PySem.W.nsIn K mainGlobals "Reader" = some (some (.ref C_Reader)))
    (i_Reader : PySem.W.findIn K (.ref C_Reader) "__init__" = some (some (.ref f_Reader)))
    (fn_Reader : PySem.W.isFn K (.ref f_Reader) = true)
    (l_Reader : K.lookup f_Reader = some ⟨oc_Reader, od_Reader, .func (PySem.W.fnOf "__init__" "Reader.__init__" (defArgs s_Reader_init) (defBody s_Reader_init) (defScope s_Reader_init) .none kV_Reader dc_Reader pm_Reader an_Reader cd_Reader ct_Reader), sl_Reader⟩)
    (c_Reader : PySem.W.codeIn K cd_Reader "Reader.__init__" = true)
    (k_Reader : PySem.W.keepIn K (.ref f_Reader) = true)
    (pg_Reader : PySem.W.plainGet K C_Reader Str.empty = true)
    (hd_Reader : PySem.W.hasDictIn K C_Reader = true)
    (po_Reader : PySem.W.plainOver K C_Reader = true)
    (sa_Reader : PySem.W.findIn K (.ref C_Reader) "__setattr__" = some (some (.builtin "object.__setattr__")))
    (mk_Reader : PySem.W.makesIn K C_Reader = true)
    (kc_Reader : PySem.W.keepIn K (.ref C_Reader) = true)
    (ca_Reader : PySem.W.findIn K (.ref C_Reader) "__class__" = some (some (.builtin "object.__class__")))
    (mo_Reader : PySem.W.mroIn K C_Reader (.type "object") = some true)
    (n_Reader_text : PySem.W.findIn K (.ref C_Reader) "text" = some none)
    (n_Reader_at : PySem.W.findIn K (.ref C_Reader) "at" = some none)
    (a_signs_of : PySem.W.nsIn K mainGlobals "signs_of" = some (some (.ref f_signs_of)))
    (l_signs_of : K.lookup f_signs_of = some ⟨oc_signs_of, od_signs_of, .func (PySem.W.fnOf "signs_of" "signs_of" (defArgs s_signs_of) (defBody s_signs_of) (defScope s_signs_of) .none kV_signs_of dc_signs_of pm_signs_of an_signs_of cd_signs_of ct_signs_of), sl_signs_of⟩)
    (c_signs_of : PySem.W.codeIn K cd_signs_of "signs_of" = true)
    (k_signs_of : PySem.W.keepIn K (.ref f_signs_of) = true)
    (a_word_text : PySem.W.nsIn K mainGlobals "word_text" = some (some (.ref f_word_text)))
    (l_word_text : K.lookup f_word_text = some ⟨oc_word_text, od_word_text, .func (PySem.W.fnOf "word_text" "word_text" (defArgs s_word_text) (defBody s_word_text) (defScope s_word_text) .none kV_word_text dc_word_text pm_word_text an_word_text cd_word_text ct_word_text), sl_word_text⟩)
    (c_word_text : PySem.W.codeIn K cd_word_text "word_text" = true)
    (k_word_text : PySem.W.keepIn K (.ref f_word_text) = true)
    (a_skin_text : PySem.W.nsIn K mainGlobals "skin_text" = some (some (.ref f_skin_text)))
    (l_skin_text : K.lookup f_skin_text = some ⟨oc_skin_text, od_skin_text, .func (PySem.W.fnOf "skin_text" "skin_text" (defArgs s_skin_text) (defBody s_skin_text) (defScope s_skin_text) .none kV_skin_text dc_skin_text pm_skin_text an_skin_text cd_skin_text ct_skin_text), sl_skin_text⟩)
    (c_skin_text : PySem.W.codeIn K cd_skin_text "skin_text" = true)
    (k_skin_text : PySem.W.keepIn K (.ref f_skin_text) = true)
    (a_read_word : PySem.W.nsIn K mainGlobals "read_word" = some (some (.ref f_read_word)))
    (l_read_word : K.lookup f_read_word = some ⟨oc_read_word, od_read_word, .func (PySem.W.fnOf "read_word" "read_word" (defArgs s_read_word) (defBody s_read_word) (defScope s_read_word) .none kV_read_word dc_read_word pm_read_word an_read_word cd_read_word ct_read_word), sl_read_word⟩)
    (c_read_word : PySem.W.codeIn K cd_read_word "read_word" = true)
    (k_read_word : PySem.W.keepIn K (.ref f_read_word) = true)
    (a_read_round : PySem.W.nsIn K mainGlobals "read_round" = some (some (.ref f_read_round)))
    (l_read_round : K.lookup f_read_round = some ⟨oc_read_round, od_read_round, .func (PySem.W.fnOf "read_round" "read_round" (defArgs s_read_round) (defBody s_read_round) (defScope s_read_round) .none kV_read_round dc_read_round pm_read_round an_read_round cd_read_round ct_read_round), sl_read_round⟩)
    (c_read_round : PySem.W.codeIn K cd_read_round "read_round" = true)
    (k_read_round : PySem.W.keepIn K (.ref f_read_round) = true)
    (a_read_skin : PySem.W.nsIn K mainGlobals "read_skin" = some (some (.ref f_read_skin)))
    (l_read_skin : K.lookup f_read_skin = some ⟨oc_read_skin, od_read_skin, .func (PySem.W.fnOf "read_skin" "read_skin" (defArgs s_read_skin) (defBody s_read_skin) (defScope s_read_skin) .none kV_read_skin dc_read_skin pm_read_skin an_read_skin cd_read_skin ct_read_skin), sl_read_skin⟩)
    (c_read_skin : PySem.W.codeIn K cd_read_skin "read_skin" = true)
    (k_read_skin : PySem.W.keepIn K (.ref f_read_skin) = true)
    (a_l_begun : PySem.W.nsIn K mainGlobals "_law_begun" = some (some (.ref f_l_begun)))
    (l_l_begun : K.lookup f_l_begun = some ⟨oc_l_begun, od_l_begun, .func (PySem.W.fnOf "_law_begun" "_law_begun" (defArgs s_l_begun) (defBody s_l_begun) (defScope s_l_begun) .none kV_l_begun dc_l_begun pm_l_begun an_l_begun cd_l_begun ct_l_begun), sl_l_begun⟩)
    (c_l_begun : PySem.W.codeIn K cd_l_begun "_law_begun" = true)
    (k_l_begun : PySem.W.keepIn K (.ref f_l_begun) = true)
    (a_l_mixed : PySem.W.nsIn K mainGlobals "_law_mixed" = some (some (.ref f_l_mixed)))
    (l_l_mixed : K.lookup f_l_mixed = some ⟨oc_l_mixed, od_l_mixed, .func (PySem.W.fnOf "_law_mixed" "_law_mixed" (defArgs s_l_mixed) (defBody s_l_mixed) (defScope s_l_mixed) .none kV_l_mixed dc_l_mixed pm_l_mixed an_l_mixed cd_l_mixed ct_l_mixed), sl_l_mixed⟩)
    (c_l_mixed : PySem.W.codeIn K cd_l_mixed "_law_mixed" = true)
    (k_l_mixed : PySem.W.keepIn K (.ref f_l_mixed) = true)
    (a_l_take : PySem.W.nsIn K mainGlobals "_law_take" = some (some (.ref f_l_take)))
    (l_l_take : K.lookup f_l_take = some ⟨oc_l_take, od_l_take, .func (PySem.W.fnOf "_law_take" "_law_take" (defArgs s_l_take) (defBody s_l_take) (defScope s_l_take) .none kV_l_take dc_l_take pm_l_take an_l_take cd_l_take ct_l_take), sl_l_take⟩)
    (c_l_take : PySem.W.codeIn K cd_l_take "_law_take" = true)
    (k_l_take : PySem.W.keepIn K (.ref f_l_take) = true)
    (a_l_pick : PySem.W.nsIn K mainGlobals "_law_pick" = some (some (.ref f_l_pick)))
    (l_l_pick : K.lookup f_l_pick = some ⟨oc_l_pick, od_l_pick, .func (PySem.W.fnOf "_law_pick" "_law_pick" (defArgs s_l_pick) (defBody s_l_pick) (defScope s_l_pick) .none kV_l_pick dc_l_pick pm_l_pick an_l_pick cd_l_pick ct_l_pick), sl_l_pick⟩)
    (c_l_pick : PySem.W.codeIn K cd_l_pick "_law_pick" = true)
    (k_l_pick : PySem.W.keepIn K (.ref f_l_pick) = true)
    (a_l_shuffled : PySem.W.nsIn K mainGlobals "_law_shuffled" = some (some (.ref f_l_shuffled)))
    (l_l_shuffled : K.lookup f_l_shuffled = some ⟨oc_l_shuffled, od_l_shuffled, .func (PySem.W.fnOf "_law_shuffled" "_law_shuffled" (defArgs s_l_shuffled) (defBody s_l_shuffled) (defScope s_l_shuffled) .none kV_l_shuffled dc_l_shuffled pm_l_shuffled an_l_shuffled cd_l_shuffled ct_l_shuffled), sl_l_shuffled⟩)
    (c_l_shuffled : PySem.W.codeIn K cd_l_shuffled "_law_shuffled" = true)
    (k_l_shuffled : PySem.W.keepIn K (.ref f_l_shuffled) = true)
    (a_l_caught : PySem.W.nsIn K mainGlobals "_law_caught" = some (some (.ref f_l_caught)))
    (l_l_caught : K.lookup f_l_caught = some ⟨oc_l_caught, od_l_caught, .func (PySem.W.fnOf "_law_caught" "_law_caught" (defArgs s_l_caught) (defBody s_l_caught) (defScope s_l_caught) .none kV_l_caught dc_l_caught pm_l_caught an_l_caught cd_l_caught ct_l_caught), sl_l_caught⟩)
    (c_l_caught : PySem.W.codeIn K cd_l_caught "_law_caught" = true)
    (k_l_caught : PySem.W.keepIn K (.ref f_l_caught) = true)
    (a_l_turned : PySem.W.nsIn K mainGlobals "_law_turned" = some (some (.ref f_l_turned)))
    (l_l_turned : K.lookup f_l_turned = some ⟨oc_l_turned, od_l_turned, .func (PySem.W.fnOf "_law_turned" "_law_turned" (defArgs s_l_turned) (defBody s_l_turned) (defScope s_l_turned) .none kV_l_turned dc_l_turned pm_l_turned an_l_turned cd_l_turned ct_l_turned), sl_l_turned⟩)
    (c_l_turned : PySem.W.codeIn K cd_l_turned "_law_turned" = true)
    (k_l_turned : PySem.W.keepIn K (.ref f_l_turned) = true)
    (a_l_row : PySem.W.nsIn K mainGlobals "_law_row" = some (some (.ref f_l_row)))
    (l_l_row : K.lookup f_l_row = some ⟨oc_l_row, od_l_row, .func (PySem.W.fnOf "_law_row" "_law_row" (defArgs s_l_row) (defBody s_l_row) (defScope s_l_row) .none kV_l_row dc_l_row pm_l_row an_l_row cd_l_row ct_l_row), sl_l_row⟩)
    (c_l_row : PySem.W.codeIn K cd_l_row "_law_row" = true)
    (k_l_row : PySem.W.keepIn K (.ref f_l_row) = true)
    (a_l_free : PySem.W.nsIn K mainGlobals "_law_free" = some (some (.ref f_l_free)))
    (l_l_free : K.lookup f_l_free = some ⟨oc_l_free, od_l_free, .func (PySem.W.fnOf "_law_free" "_law_free" (defArgs s_l_free) (defBody s_l_free) (defScope s_l_free) .none kV_l_free dc_l_free pm_l_free an_l_free cd_l_free ct_l_free), sl_l_free⟩)
    (c_l_free : PySem.W.codeIn K cd_l_free "_law_free" = true)
    (k_l_free : PySem.W.keepIn K (.ref f_l_free) = true)
    (a_l_round : PySem.W.nsIn K mainGlobals "_law_round" = some (some (.ref f_l_round)))
    (l_l_round : K.lookup f_l_round = some ⟨oc_l_round, od_l_round, .func (PySem.W.fnOf "_law_round" "_law_round" (defArgs s_l_round) (defBody s_l_round) (defScope s_l_round) .none kV_l_round dc_l_round pm_l_round an_l_round cd_l_round ct_l_round), sl_l_round⟩)
    (c_l_round : PySem.W.codeIn K cd_l_round "_law_round" = true)
    (k_l_round : PySem.W.keepIn K (.ref f_l_round) = true)
    (a_l_word : PySem.W.nsIn K mainGlobals "_law_word" = some (some (.ref f_l_word)))
    (l_l_word : K.lookup f_l_word = some ⟨oc_l_word, od_l_word, .func (PySem.W.fnOf "_law_word" "_law_word" (defArgs s_l_word) (defBody s_l_word) (defScope s_l_word) .none kV_l_word dc_l_word pm_l_word an_l_word cd_l_word ct_l_word), sl_l_word⟩)
    (c_l_word : PySem.W.codeIn K cd_l_word "_law_word" = true)
    (k_l_word : PySem.W.keepIn K (.ref f_l_word) = true)
    (a_l_any_round : PySem.W.nsIn K mainGlobals "_law_any_round" = some (some (.ref f_l_any_round)))
    (l_l_any_round : K.lookup f_l_any_round = some ⟨oc_l_any_round, od_l_any_round, .func (PySem.W.fnOf "_law_any_round" "_law_any_round" (defArgs s_l_any_round) (defBody s_l_any_round) (defScope s_l_any_round) .none kV_l_any_round dc_l_any_round pm_l_any_round an_l_any_round cd_l_any_round ct_l_any_round), sl_l_any_round⟩)
    (c_l_any_round : PySem.W.codeIn K cd_l_any_round "_law_any_round" = true)
    (k_l_any_round : PySem.W.keepIn K (.ref f_l_any_round) = true)
    (a_l_signs : PySem.W.nsIn K mainGlobals "_law_signs" = some (some (.ref f_l_signs)))
    (l_l_signs : K.lookup f_l_signs = some ⟨oc_l_signs, od_l_signs, .func (PySem.W.fnOf "_law_signs" "_law_signs" (defArgs s_l_signs) (defBody s_l_signs) (defScope s_l_signs) .none kV_l_signs dc_l_signs pm_l_signs an_l_signs cd_l_signs ct_l_signs), sl_l_signs⟩)
    (c_l_signs : PySem.W.codeIn K cd_l_signs "_law_signs" = true)
    (k_l_signs : PySem.W.keepIn K (.ref f_l_signs) = true)
    (a_l_spelled : PySem.W.nsIn K mainGlobals "_law_spelled" = some (some (.ref f_l_spelled)))
    (l_l_spelled : K.lookup f_l_spelled = some ⟨oc_l_spelled, od_l_spelled, .func (PySem.W.fnOf "_law_spelled" "_law_spelled" (defArgs s_l_spelled) (defBody s_l_spelled) (defScope s_l_spelled) .none kV_l_spelled dc_l_spelled pm_l_spelled an_l_spelled cd_l_spelled ct_l_spelled), sl_l_spelled⟩)
    (c_l_spelled : PySem.W.codeIn K cd_l_spelled "_law_spelled" = true)
    (k_l_spelled : PySem.W.keepIn K (.ref f_l_spelled) = true)
    (a_l_read_word : PySem.W.nsIn K mainGlobals "_law_read_word" = some (some (.ref f_l_read_word)))
    (l_l_read_word : K.lookup f_l_read_word = some ⟨oc_l_read_word, od_l_read_word, .func (PySem.W.fnOf "_law_read_word" "_law_read_word" (defArgs s_l_read_word) (defBody s_l_read_word) (defScope s_l_read_word) .none kV_l_read_word dc_l_read_word pm_l_read_word an_l_read_word cd_l_read_word ct_l_read_word), sl_l_read_word⟩)
    (c_l_read_word : PySem.W.codeIn K cd_l_read_word "_law_read_word" = true)
    (k_l_read_word : PySem.W.keepIn K (.ref f_l_read_word) = true)
    (a_l_read_round : PySem.W.nsIn K mainGlobals "_law_read_round" = some (some (.ref f_l_read_round)))
    (l_l_read_round : K.lookup f_l_read_round = some ⟨oc_l_read_round, od_l_read_round, .func (PySem.W.fnOf "_law_read_round" "_law_read_round" (defArgs s_l_read_round) (defBody s_l_read_round) (defScope s_l_read_round) .none kV_l_read_round dc_l_read_round pm_l_read_round an_l_read_round cd_l_read_round ct_l_read_round), sl_l_read_round⟩)
    (c_l_read_round : PySem.W.codeIn K cd_l_read_round "_law_read_round" = true)
    (k_l_read_round : PySem.W.keepIn K (.ref f_l_read_round) = true)
    (a_l_read_skin : PySem.W.nsIn K mainGlobals "_law_read_skin" = some (some (.ref f_l_read_skin)))
    (l_l_read_skin : K.lookup f_l_read_skin = some ⟨oc_l_read_skin, od_l_read_skin, .func (PySem.W.fnOf "_law_read_skin" "_law_read_skin" (defArgs s_l_read_skin) (defBody s_l_read_skin) (defScope s_l_read_skin) .none kV_l_read_skin dc_l_read_skin pm_l_read_skin an_l_read_skin cd_l_read_skin ct_l_read_skin), sl_l_read_skin⟩)
    (c_l_read_skin : PySem.W.codeIn K cd_l_read_skin "_law_read_skin" = true)
    (k_l_read_skin : PySem.W.keepIn K (.ref f_l_read_skin) = true)
    (a_l_bent : PySem.W.nsIn K mainGlobals "_law_bent" = some (some (.ref f_l_bent)))
    (l_l_bent : K.lookup f_l_bent = some ⟨oc_l_bent, od_l_bent, .func (PySem.W.fnOf "_law_bent" "_law_bent" (defArgs s_l_bent) (defBody s_l_bent) (defScope s_l_bent) .none kV_l_bent dc_l_bent pm_l_bent an_l_bent cd_l_bent ct_l_bent), sl_l_bent⟩)
    (c_l_bent : PySem.W.codeIn K cd_l_bent "_law_bent" = true)
    (k_l_bent : PySem.W.keepIn K (.ref f_l_bent) = true)
    (a_l_is_told : PySem.W.nsIn K mainGlobals "_law_is_told" = some (some (.ref f_l_is_told)))
    (l_l_is_told : K.lookup f_l_is_told = some ⟨oc_l_is_told, od_l_is_told, .func (PySem.W.fnOf "_law_is_told" "_law_is_told" (defArgs s_l_is_told) (defBody s_l_is_told) (defScope s_l_is_told) .none kV_l_is_told dc_l_is_told pm_l_is_told an_l_is_told (.ref tc) ct_l_is_told), sl_l_is_told⟩)
    (c_l_is_told : PySem.W.codeIn K (.ref tc) "_law_is_told" = true)
    (k_l_is_told : PySem.W.keepIn K (.ref f_l_is_told) = true)
    (a_l_is_begun : PySem.W.nsIn K mainGlobals "_law_is_begun" = some (some (.ref f_l_is_begun)))
    (l_l_is_begun : K.lookup f_l_is_begun = some ⟨oc_l_is_begun, od_l_is_begun, .func (PySem.W.fnOf "_law_is_begun" "_law_is_begun" (defArgs s_l_is_begun) (defBody s_l_is_begun) (defScope s_l_is_begun) .none kV_l_is_begun dc_l_is_begun pm_l_is_begun an_l_is_begun (.ref bc) ct_l_is_begun), sl_l_is_begun⟩)
    (c_l_is_begun : PySem.W.codeIn K (.ref bc) "_law_is_begun" = true)
    (k_l_is_begun : PySem.W.keepIn K (.ref f_l_is_begun) = true)
    (a_l_row_told : PySem.W.nsIn K mainGlobals "_law_row_told" = some (some (.ref f_l_row_told)))
    (l_l_row_told : K.lookup f_l_row_told = some ⟨oc_l_row_told, od_l_row_told, .func (PySem.W.fnOf "_law_row_told" "_law_row_told" (defArgs s_l_row_told) (defBody s_l_row_told) (defScope s_l_row_told) .none kV_l_row_told dc_l_row_told pm_l_row_told an_l_row_told cd_l_row_told ct_l_row_told), sl_l_row_told⟩)
    (c_l_row_told : PySem.W.codeIn K cd_l_row_told "_law_row_told" = true)
    (k_l_row_told : PySem.W.keepIn K (.ref f_l_row_told) = true)
    (a_l_words_right : PySem.W.nsIn K mainGlobals "_law_words_right" = some (some (.ref f_l_words_right)))
    (l_l_words_right : K.lookup f_l_words_right = some ⟨oc_l_words_right, od_l_words_right, .func (PySem.W.fnOf "_law_words_right" "_law_words_right" (defArgs s_l_words_right) (defBody s_l_words_right) (defScope s_l_words_right) .none kV_l_words_right dc_l_words_right pm_l_words_right an_l_words_right (.ref wc) ct_l_words_right), sl_l_words_right⟩)
    (c_l_words_right : PySem.W.codeIn K (.ref wc) "_law_words_right" = true)
    (k_l_words_right : PySem.W.keepIn K (.ref f_l_words_right) = true)
    (a_l_refused : PySem.W.nsIn K mainGlobals "_law_refused" = some (some (.ref f_l_refused)))
    (l_l_refused : K.lookup f_l_refused = some ⟨oc_l_refused, od_l_refused, .func (PySem.W.fnOf "_law_refused" "_law_refused" (defArgs s_l_refused) (defBody s_l_refused) (defScope s_l_refused) .none kV_l_refused dc_l_refused pm_l_refused an_l_refused (.ref jc) ct_l_refused), sl_l_refused⟩)
    (c_l_refused : PySem.W.codeIn K (.ref jc) "_law_refused" = true)
    (k_l_refused : PySem.W.keepIn K (.ref f_l_refused) = true)
    (a_law : PySem.W.nsIn K mainGlobals "law" = some (some (.ref f_law)))
    (l_law : K.lookup f_law = some ⟨oc_law, od_law, .func (PySem.W.fnOf "law" "law" (defArgs s_law) (defBody s_law) (defScope s_law) .none kV_law dc_law pm_law an_law (.ref lc) ct_law), sl_law⟩)
    (c_law : PySem.W.codeIn K (.ref lc) "law" = true)
    (k_law : PySem.W.keepIn K (.ref f_law) = true)
    (zabs : PySem.W.nsIn K mainGlobals "abs" = some none)
    (zall : PySem.W.nsIn K mainGlobals "all" = some none)
    (zenumerate : PySem.W.nsIn K mainGlobals "enumerate" = some none)
    (zint : PySem.W.nsIn K mainGlobals "int" = some none)
    (zisinstance : PySem.W.nsIn K mainGlobals "isinstance" = some none)
    (zlen : PySem.W.nsIn K mainGlobals "len" = some none)
    (zlist : PySem.W.nsIn K mainGlobals "list" = some none)
    (zmax : PySem.W.nsIn K mainGlobals "max" = some none)
    (zmin : PySem.W.nsIn K mainGlobals "min" = some none)
    (zrange : PySem.W.nsIn K mainGlobals "range" = some none)
    (zrepr : PySem.W.nsIn K mainGlobals "repr" = some none)
    (zsorted : PySem.W.nsIn K mainGlobals "sorted" = some none)
    (zstr : PySem.W.nsIn K mainGlobals "str" = some none)
    (ztuple : PySem.W.nsIn K mainGlobals "tuple" = some none)
    (ztype : PySem.W.nsIn K mainGlobals "type" = some none)
    (c_MOST_LETTERS : PySem.W.nsIn K mainGlobals "MOST_LETTERS" = some (some (.int 200 tkMOST_LETTERS)))
    (c_MOST_IN_ROUND : PySem.W.nsIn K mainGlobals "MOST_IN_ROUND" = some (some (.int 40 tkMOST_IN_ROUND)))
    (c_LETTER_SIGNS : PySem.W.nsIn K mainGlobals "LETTER_SIGNS" = some (some (.str "aAbBcCdDeEfF" tkLETTER_SIGNS)))
    (kSS : PySem.W.kitOne K (.ref C_Skin) (.ref C_Skin) = some true)
    (kST : PySem.W.kitOne K (.type "tuple") (.ref C_Skin) = some false)
    (kSN : PySem.W.kitOne K (.type "NoneType") (.ref C_Skin) = some false)
    (kSY : PySem.W.kitOne K (.type "str") (.ref C_Skin) = some false)
    (kWW : PySem.W.kitOne K (.ref C_BadWord) (.ref C_BadWord) = some true)
    (sWR : PySem.W.subIn K (.ref C_BadWord) (.ref C_RoundError) = some true)
    (kSkSk : PySem.W.kitOne K (.ref C_BadSkin) (.ref C_BadSkin) = some true)
    (sSR : PySem.W.subIn K (.ref C_BadSkin) (.ref C_RoundError) = some true)
    (kXX : PySem.W.kitOne K (.ref C_BadText) (.ref C_BadText) = some true)
    (sXR : PySem.W.subIn K (.ref C_BadText) (.ref C_RoundError) = some true)
    (kInT : PySem.W.kitOne K (.type "int") (.type "tuple") = some false)
    (kTuI : PySem.W.kitOne K (.type "tuple") (.type "int") = some false)
    (i_eqM : PySem.W.findIn K (.ref C_Skin) "__eq__" = some (some (.ref f_eqM)))
    (fn_eqM : PySem.W.isFn K (.ref f_eqM) = true)
    (l_eqM : K.lookup f_eqM = some ⟨oc_eqM, od_eqM, .func (PySem.W.fnOf "__eq__" "Skin.__eq__" (defArgs s_Skin_eq) (defBody s_Skin_eq) (defScope s_Skin_eq) .none kV_eqM dc_eqM pm_eqM an_eqM cd_eqM ct_eqM), sl_eqM⟩)
    (c_eqM : PySem.W.codeIn K cd_eqM "Skin.__eq__" = true)
    (k_eqM : PySem.W.keepIn K (.ref f_eqM) = true)
    (i_mSign : PySem.W.findIn K (.ref C_Reader) "sign" = some (some (.ref f_mSign)))
    (fn_mSign : PySem.W.isFn K (.ref f_mSign) = true)
    (l_mSign : K.lookup f_mSign = some ⟨oc_mSign, od_mSign, .func (PySem.W.fnOf "sign" "Reader.sign" (defArgs s_Reader_sign) (defBody s_Reader_sign) (defScope s_Reader_sign) .none kV_mSign dc_mSign pm_mSign an_mSign cd_mSign ct_mSign), sl_mSign⟩)
    (c_mSign : PySem.W.codeIn K cd_mSign "Reader.sign" = true)
    (k_mSign : PySem.W.keepIn K (.ref f_mSign) = true)
    (i_mEnd : PySem.W.findIn K (.ref C_Reader) "is_ended" = some (some (.ref f_mEnd)))
    (fn_mEnd : PySem.W.isFn K (.ref f_mEnd) = true)
    (l_mEnd : K.lookup f_mEnd = some ⟨oc_mEnd, od_mEnd, .func (PySem.W.fnOf "is_ended" "Reader.is_ended" (defArgs s_Reader_is_ended) (defBody s_Reader_is_ended) (defScope s_Reader_is_ended) .none kV_mEnd dc_mEnd pm_mEnd an_mEnd cd_mEnd ct_mEnd), sl_mEnd⟩)
    (c_mEnd : PySem.W.codeIn K cd_mEnd "Reader.is_ended" = true)
    (k_mEnd : PySem.W.keepIn K (.ref f_mEnd) = true)
    (i_mCheck : PySem.W.findIn K (.ref C_Reader) "check" = some (some (.ref f_mCheck)))
    (fn_mCheck : PySem.W.isFn K (.ref f_mCheck) = true)
    (l_mCheck : K.lookup f_mCheck = some ⟨oc_mCheck, od_mCheck, .func (PySem.W.fnOf "check" "Reader.check" (defArgs s_Reader_check) (defBody s_Reader_check) (defScope s_Reader_check) .none kV_mCheck dc_mCheck pm_mCheck an_mCheck cd_mCheck ct_mCheck), sl_mCheck⟩)
    (c_mCheck : PySem.W.codeIn K cd_mCheck "Reader.check" = true)
    (k_mCheck : PySem.W.keepIn K (.ref f_mCheck) = true)
    (i_mLetter : PySem.W.findIn K (.ref C_Reader) "letter" = some (some (.ref f_mLetter)))
    (fn_mLetter : PySem.W.isFn K (.ref f_mLetter) = true)
    (l_mLetter : K.lookup f_mLetter = some ⟨oc_mLetter, od_mLetter, .func (PySem.W.fnOf "letter" "Reader.letter" (defArgs s_Reader_letter) (defBody s_Reader_letter) (defScope s_Reader_letter) .none kV_mLetter dc_mLetter pm_mLetter an_mLetter cd_mLetter ct_mLetter), sl_mLetter⟩)
    (c_mLetter : PySem.W.codeIn K cd_mLetter "Reader.letter" = true)
    (k_mLetter : PySem.W.keepIn K (.ref f_mLetter) = true)
    (i_mLetters : PySem.W.findIn K (.ref C_Reader) "read_letters" = some (some (.ref f_mLetters)))
    (fn_mLetters : PySem.W.isFn K (.ref f_mLetters) = true)
    (l_mLetters : K.lookup f_mLetters = some ⟨oc_mLetters, od_mLetters, .func (PySem.W.fnOf "read_letters" "Reader.read_letters" (defArgs s_Reader_read_letters) (defBody s_Reader_read_letters) (defScope s_Reader_read_letters) .none kV_mLetters dc_mLetters pm_mLetters an_mLetters cd_mLetters ct_mLetters), sl_mLetters⟩)
    (c_mLetters : PySem.W.codeIn K cd_mLetters "Reader.read_letters" = true)
    (k_mLetters : PySem.W.keepIn K (.ref f_mLetters) = true)
    (i_mRound : PySem.W.findIn K (.ref C_Reader) "read_round" = some (some (.ref f_mRound)))
    (fn_mRound : PySem.W.isFn K (.ref f_mRound) = true)
    (l_mRound : K.lookup f_mRound = some ⟨oc_mRound, od_mRound, .func (PySem.W.fnOf "read_round" "Reader.read_round" (defArgs s_Reader_read_round) (defBody s_Reader_read_round) (defScope s_Reader_read_round) dV_mRound kV_mRound dc_mRound pm_mRound an_mRound cd_mRound ct_mRound), sl_mRound⟩)
    (c_mRound : PySem.W.codeIn K cd_mRound "Reader.read_round" = true)
    (k_mRound : PySem.W.keepIn K (.ref f_mRound) = true)
    (d_mRound : dflI K dV_mRound 40 = true)
    (i_mSkin : PySem.W.findIn K (.ref C_Reader) "read_skin" = some (some (.ref f_mSkin)))
    (fn_mSkin : PySem.W.isFn K (.ref f_mSkin) = true)
    (l_mSkin : K.lookup f_mSkin = some ⟨oc_mSkin, od_mSkin, .func (PySem.W.fnOf "read_skin" "Reader.read_skin" (defArgs s_Reader_read_skin) (defBody s_Reader_read_skin) (defScope s_Reader_read_skin) .none kV_mSkin dc_mSkin pm_mSkin an_mSkin cd_mSkin ct_mSkin), sl_mSkin⟩)
    (c_mSkin : PySem.W.codeIn K cd_mSkin "Reader.read_skin" = true)
    (k_mSkin : PySem.W.keepIn K (.ref f_mSkin) = true)
    (tgj : h.get? jP = some { cls := .none, data := .fields #[] }) (tcj : PySem.W.CodeHd h jc jP) (njj : K.lookup jP = none) (tgw : h.get? wP = some { cls := .none, data := .fields #[] }) (tcw : PySem.W.CodeHd h wc wP) (njw : K.lookup wP = none) (tgt : h.get? tP = some { cls := .none, data := .fields #[] }) (tct : PySem.W.CodeHd h tc tP) (njt : K.lookup tP = none) (tgb : h.get? bP = some { cls := .none, data := .fields #[] }) (tcb : PySem.W.CodeHd h bc bP) (njb : K.lookup bP = none) (tgl : h.get? lP = some { cls := .none, data := .fields #[] }) (tcl : PySem.W.CodeHd h lc lP) (njl : K.lookup lP = none) (ne_jw : jP ≠ wP) (ne_jt : jP ≠ tP) (ne_jb : jP ≠ bP) (ne_jl : jP ≠ lP) (ne_wt : wP ≠ tP) (ne_wb : wP ≠ bP) (ne_wl : wP ≠ lP) (ne_tb : tP ≠ bP) (ne_tl : tP ≠ lP) (ne_bl : bP ≠ lP) :
    ∃ T : Txt K mg, fa = T.law.a ∧ (h.get? T.jP = some { cls := .none, data := .fields #[] } ∧ K.lookup T.jP = none ∧ PySem.W.CodeHd h T.jc T.jP) ∧ (h.get? T.wP = some { cls := .none, data := .fields #[] } ∧ K.lookup T.wP = none ∧ PySem.W.CodeHd h T.wc T.wP) ∧ (h.get? T.tP = some { cls := .none, data := .fields #[] } ∧ K.lookup T.tP = none ∧ PySem.W.CodeHd h T.tc T.tP) ∧ (h.get? T.bP = some { cls := .none, data := .fields #[] } ∧ K.lookup T.bP = none ∧ PySem.W.CodeHd h T.bc T.bP) ∧ (h.get? T.lP = some { cls := .none, data := .fields #[] } ∧ K.lookup T.lP = none ∧ PySem.W.CodeHd h T.lc T.lP) := by
  have no_Skin : ∀ f ∈ (["row", "bands", "places"] : List Str), NoAttr K C_Skin f := fun f hf => by
      simp only [List.mem_cons, List.not_mem_nil, or_false] at hf
      rcases hf with rfl | rfl | rfl
      · exact n_Skin_row
      · exact n_Skin_bands
      · exact n_Skin_places
  have no_Reader : ∀ f ∈ (["text", "at"] : List Str), NoAttr K C_Reader f := fun f hf => by
      simp only [List.mem_cons, List.not_mem_nil, or_false] at hf
      rcases hf with rfl | rfl
      · exact n_Reader_text
      · exact n_Reader_at
  have e := hfa.symm.trans (PySem.W.mg_of X G a_law)
  cases e
  refine ⟨{
    RoundError := ⟨C_RoundError, PySem.W.mg_of X G a_RoundError, k_RoundError, q_RoundError, ty_RoundError, ⟨ga_RoundError, gg_RoundError, ex_RoundError, hd_RoundError, ca_RoundError, hn0, ht0, mo_RoundError⟩⟩,
    BadSkin := ⟨C_BadSkin, f_BadSkin, _, PySem.W.mg_of X G a_BadSkin, ⟨⟨_, _, _, _, _, _, _, _, _, _, _, _, _, _, _, x_BadSkin, rv_BadSkin⟩, sa_BadSkin, ex_BadSkin, ty_BadSkin, kc_BadSkin⟩, i_BadSkin, t_BadSkin, fun_mk (st := s_BadSkin_init) l_BadSkin c_BadSkin k_BadSkin, (fun_mk (st := s_BadSkin_init) l_BadSkin c_BadSkin k_BadSkin).binds (ps := ["self", "part"]) (fun _ _ _ _ _ _ us hl => match us, hl with | [_, _], _ => rfl), nf_BadSkin, ⟨ga_BadSkin, gg_BadSkin, ex_BadSkin, hd_BadSkin⟩, ⟨ga_BadSkin, gg_BadSkin, ex_BadSkin, hd_BadSkin, ca_BadSkin, hn0, ht0, mo_BadSkin⟩⟩,
    BadText := ⟨C_BadText, f_BadText, _, PySem.W.mg_of X G a_BadText, ⟨⟨_, _, _, _, _, _, _, _, _, _, _, _, _, _, _, x_BadText, rv_BadText⟩, sa_BadText, ex_BadText, ty_BadText, kc_BadText⟩, i_BadText, t_BadText, fun_mk (st := s_BadText_init) l_BadText c_BadText k_BadText, (fun_mk (st := s_BadText_init) l_BadText c_BadText k_BadText).binds (ps := ["self", "at"]) (fun _ _ _ _ _ _ us hl => match us, hl with | [_, _], _ => rfl), nf_BadText, ⟨ga_BadText, gg_BadText, ex_BadText, hd_BadText⟩, ⟨ga_BadText, gg_BadText, ex_BadText, hd_BadText, ca_BadText, hn0, ht0, mo_BadText⟩⟩,
    BadWord := ⟨C_BadWord, PySem.W.mg_of X G a_BadWord, k_BadWord, q_BadWord, ty_BadWord, ⟨ga_BadWord, gg_BadWord, ex_BadWord, hd_BadWord, ca_BadWord, hn0, ht0, mo_BadWord⟩⟩,
    is_number := ⟨f_is_number, _, fun_mk (st := s_is_number) l_is_number c_is_number k_is_number, PySem.W.mg_of X G a_is_number, (fun_mk (st := s_is_number) l_is_number c_is_number k_is_number).binds (ps := ["thing"]) (fun _ _ _ _ _ _ us hl => match us, hl with | [_], _ => rfl)⟩,
    is_within := ⟨f_is_within, _, fun_mk (st := s_is_within) l_is_within c_is_within k_is_within, PySem.W.mg_of X G a_is_within, (fun_mk (st := s_is_within) l_is_within c_is_within k_is_within).binds (ps := ["thing", "low", "high"]) (fun _ _ _ _ _ _ us hl => match us, hl with | [_, _, _], _ => rfl)⟩,
    is_tuple := ⟨f_is_tuple, _, fun_mk (st := s_is_tuple) l_is_tuple c_is_tuple k_is_tuple, PySem.W.mg_of X G a_is_tuple, (fun_mk (st := s_is_tuple) l_is_tuple c_is_tuple k_is_tuple).binds (ps := ["thing"]) (fun _ _ _ _ _ _ us hl => match us, hl with | [_], _ => rfl)⟩,
    is_list := ⟨f_is_list, _, fun_mk (st := s_is_list) l_is_list c_is_list k_is_list, PySem.W.mg_of X G a_is_list, (fun_mk (st := s_is_list) l_is_list c_is_list k_is_list).binds (ps := ["thing"]) (fun _ _ _ _ _ _ us hl => match us, hl with | [_], _ => rfl)⟩,
    is_row := ⟨f_is_row, _, fun_mk (st := s_is_row) l_is_row c_is_row k_is_row, PySem.W.mg_of X G a_is_row, (fun_mk (st := s_is_row) l_is_row c_is_row k_is_row).binds (ps := ["row"]) (fun _ _ _ _ _ _ us hl => match us, hl with | [_], _ => rfl)⟩,
    Skin := ⟨C_Skin, f_Skin, _, PySem.W.mg_of X G a_Skin, ⟨pg_Skin, hd_Skin, po_Skin, sa_Skin⟩, no_Skin, ⟨mk_Skin, i_Skin, fn_Skin, kc_Skin⟩, fun_mk (st := s_Skin_init) l_Skin c_Skin k_Skin, (fun_mk (st := s_Skin_init) l_Skin c_Skin k_Skin).binds (ps := ["self", "row"]) (fun _ _ _ _ _ _ us hl => match us, hl with | [_, _], _ => rfl), ca_Skin, hn0, ht0, mo_Skin⟩,
    check_skin := ⟨f_check_skin, _, fun_mk (st := s_check_skin) l_check_skin c_check_skin k_check_skin, PySem.W.mg_of X G a_check_skin, (fun_mk (st := s_check_skin) l_check_skin c_check_skin k_check_skin).binds (ps := ["skin"]) (fun _ _ _ _ _ _ us hl => match us, hl with | [_], _ => rfl)⟩,
    is_end := ⟨f_is_end, _, fun_mk (st := s_is_end) l_is_end c_is_end k_is_end, PySem.W.mg_of X G a_is_end, (fun_mk (st := s_is_end) l_is_end c_is_end k_is_end).binds (ps := ["skin", "thing"]) (fun _ _ _ _ _ _ us hl => match us, hl with | [_, _], _ => rfl)⟩,
    least_turn := ⟨f_least_turn, _, fun_mk (st := s_least_turn) l_least_turn c_least_turn k_least_turn, PySem.W.mg_of X G a_least_turn, (fun_mk (st := s_least_turn) l_least_turn c_least_turn k_least_turn).binds (ps := ["word"]) (fun _ _ _ _ _ _ us hl => match us, hl with | [_], _ => rfl)⟩,
    is_any_word := ⟨f_is_any_word, _, fun_mk (st := s_is_any_word) l_is_any_word c_is_any_word k_is_any_word, PySem.W.mg_of X G a_is_any_word, (fun_mk (st := s_is_any_word) l_is_any_word c_is_any_word k_is_any_word).binds (ps := ["skin", "thing"]) (fun _ _ _ _ _ _ us hl => match us, hl with | [_, _], _ => rfl)⟩,
    has_letters := ⟨f_has_letters, _, fun_mk (st := s_has_letters) l_has_letters c_has_letters k_has_letters, PySem.W.mg_of X G a_has_letters, (fun_mk (st := s_has_letters) l_has_letters c_has_letters k_has_letters).binds (ps := ["skin", "thing", "most"]) (fun _ _ _ _ _ _ us hl => match us, hl with | [_, _, _], _ => rfl)⟩,
    check_word := ⟨f_check_word, _, fun_mk (st := s_check_word) l_check_word c_check_word k_check_word, PySem.W.mg_of X G a_check_word, (fun_mk (st := s_check_word) l_check_word c_check_word k_check_word).binds (ps := ["skin", "word"]) (fun _ _ _ _ _ _ us hl => match us, hl with | [_, _], _ => rfl)⟩,
    cut_free := ⟨f_cut_free, _, fun_mk (st := s_cut_free) l_cut_free c_cut_free k_cut_free, PySem.W.mg_of X G a_cut_free, (fun_mk (st := s_cut_free) l_cut_free c_cut_free k_cut_free).binds (ps := ["word"]) (fun _ _ _ _ _ _ us hl => match us, hl with | [_], _ => rfl)⟩,
    closed_letters := ⟨f_closed_letters, _, fun_mk (st := s_closed_letters) l_closed_letters c_closed_letters k_closed_letters, PySem.W.mg_of X G a_closed_letters, (fun_mk (st := s_closed_letters) l_closed_letters c_closed_letters k_closed_letters).binds (ps := ["word"]) (fun _ _ _ _ _ _ us hl => match us, hl with | [_], _ => rfl)⟩,
    closed_up := ⟨f_closed_up, _, fun_mk (st := s_closed_up) l_closed_up c_closed_up k_closed_up, PySem.W.mg_of X G a_closed_up, (fun_mk (st := s_closed_up) l_closed_up c_closed_up k_closed_up).binds (ps := ["word"]) (fun _ _ _ _ _ _ us hl => match us, hl with | [_], _ => rfl)⟩,
    is_fit_round := ⟨f_is_fit_round, _, fun_mk (st := s_is_fit_round) l_is_fit_round c_is_fit_round k_is_fit_round, PySem.W.mg_of X G a_is_fit_round, (fun_mk (st := s_is_fit_round) l_is_fit_round c_is_fit_round k_is_fit_round).binds (ps := ["skin", "thing"]) (fun _ _ _ _ _ _ us hl => match us, hl with | [_, _], _ => rfl)⟩,
    Reader := ⟨C_Reader, f_Reader, _, PySem.W.mg_of X G a_Reader, ⟨pg_Reader, hd_Reader, po_Reader, sa_Reader⟩, no_Reader, ⟨mk_Reader, i_Reader, fn_Reader, kc_Reader⟩, fun_mk (st := s_Reader_init) l_Reader c_Reader k_Reader, (fun_mk (st := s_Reader_init) l_Reader c_Reader k_Reader).binds (ps := ["self", "text"]) (fun _ _ _ _ _ _ us hl => match us, hl with | [_, _], _ => rfl), ca_Reader, hn0, ht0, mo_Reader⟩,
    signs_of := ⟨f_signs_of, _, fun_mk (st := s_signs_of) l_signs_of c_signs_of k_signs_of, PySem.W.mg_of X G a_signs_of, (fun_mk (st := s_signs_of) l_signs_of c_signs_of k_signs_of).binds (ps := ["letters"]) (fun _ _ _ _ _ _ us hl => match us, hl with | [_], _ => rfl)⟩,
    word_text := ⟨f_word_text, _, fun_mk (st := s_word_text) l_word_text c_word_text k_word_text, PySem.W.mg_of X G a_word_text, (fun_mk (st := s_word_text) l_word_text c_word_text k_word_text).binds (ps := ["skin", "word"]) (fun _ _ _ _ _ _ us hl => match us, hl with | [_, _], _ => rfl)⟩,
    skin_text := ⟨f_skin_text, _, fun_mk (st := s_skin_text) l_skin_text c_skin_text k_skin_text, PySem.W.mg_of X G a_skin_text, (fun_mk (st := s_skin_text) l_skin_text c_skin_text k_skin_text).binds (ps := ["skin"]) (fun _ _ _ _ _ _ us hl => match us, hl with | [_], _ => rfl)⟩,
    read_word := ⟨f_read_word, _, fun_mk (st := s_read_word) l_read_word c_read_word k_read_word, PySem.W.mg_of X G a_read_word, (fun_mk (st := s_read_word) l_read_word c_read_word k_read_word).binds (ps := ["skin", "text"]) (fun _ _ _ _ _ _ us hl => match us, hl with | [_, _], _ => rfl)⟩,
    read_round := ⟨f_read_round, _, fun_mk (st := s_read_round) l_read_round c_read_round k_read_round, PySem.W.mg_of X G a_read_round, (fun_mk (st := s_read_round) l_read_round c_read_round k_read_round).binds (ps := ["skin", "text"]) (fun _ _ _ _ _ _ us hl => match us, hl with | [_, _], _ => rfl)⟩,
    read_skin := ⟨f_read_skin, _, fun_mk (st := s_read_skin) l_read_skin c_read_skin k_read_skin, PySem.W.mg_of X G a_read_skin, (fun_mk (st := s_read_skin) l_read_skin c_read_skin k_read_skin).binds (ps := ["text"]) (fun _ _ _ _ _ _ us hl => match us, hl with | [_], _ => rfl)⟩,
    l_begun := ⟨f_l_begun, _, fun_mk (st := s_l_begun) l_l_begun c_l_begun k_l_begun, PySem.W.mg_of X G a_l_begun, (fun_mk (st := s_l_begun) l_l_begun c_l_begun k_l_begun).binds (ps := ["script"]) (fun _ _ _ _ _ _ us hl => match us, hl with | [_], _ => rfl)⟩,
    l_mixed := ⟨f_l_mixed, _, fun_mk (st := s_l_mixed) l_l_mixed c_l_mixed k_l_mixed, PySem.W.mg_of X G a_l_mixed, (fun_mk (st := s_l_mixed) l_l_mixed c_l_mixed k_l_mixed).binds (ps := ["draw"]) (fun _ _ _ _ _ _ us hl => match us, hl with | [_], _ => rfl)⟩,
    l_take := ⟨f_l_take, _, fun_mk (st := s_l_take) l_l_take c_l_take k_l_take, PySem.W.mg_of X G a_l_take, (fun_mk (st := s_l_take) l_l_take c_l_take k_l_take).binds (ps := ["draw", "amount"]) (fun _ _ _ _ _ _ us hl => match us, hl with | [_, _], _ => rfl)⟩,
    l_pick := ⟨f_l_pick, _, fun_mk (st := s_l_pick) l_l_pick c_l_pick k_l_pick, PySem.W.mg_of X G a_l_pick, (fun_mk (st := s_l_pick) l_l_pick c_l_pick k_l_pick).binds (ps := ["draw", "some"]) (fun _ _ _ _ _ _ us hl => match us, hl with | [_, _], _ => rfl)⟩,
    l_shuffled := ⟨f_l_shuffled, _, fun_mk (st := s_l_shuffled) l_l_shuffled c_l_shuffled k_l_shuffled, PySem.W.mg_of X G a_l_shuffled, (fun_mk (st := s_l_shuffled) l_l_shuffled c_l_shuffled k_l_shuffled).binds (ps := ["draw", "some"]) (fun _ _ _ _ _ _ us hl => match us, hl with | [_, _], _ => rfl)⟩,
    l_caught := ⟨f_l_caught, _, fun_mk (st := s_l_caught) l_l_caught c_l_caught k_l_caught, PySem.W.mg_of X G a_l_caught, (fun_mk (st := s_l_caught) l_l_caught c_l_caught k_l_caught).binds (ps := ["work"]) (fun _ _ _ _ _ _ us hl => match us, hl with | [_], _ => rfl)⟩,
    l_turned := ⟨f_l_turned, _, fun_mk (st := s_l_turned) l_l_turned c_l_turned k_l_turned, PySem.W.mg_of X G a_l_turned, (fun_mk (st := s_l_turned) l_l_turned c_l_turned k_l_turned).binds (ps := ["row_here"]) (fun _ _ _ _ _ _ us hl => match us, hl with | [_], _ => rfl)⟩,
    l_row := ⟨f_l_row, _, fun_mk (st := s_l_row) l_l_row c_l_row k_l_row, PySem.W.mg_of X G a_l_row, (fun_mk (st := s_l_row) l_l_row c_l_row k_l_row).binds (ps := ["draw", "most"]) (fun _ _ _ _ _ _ us hl => match us, hl with | [_, _], _ => rfl)⟩,
    l_free := ⟨f_l_free, _, fun_mk (st := s_l_free) l_l_free c_l_free k_l_free, PySem.W.mg_of X G a_l_free, (fun_mk (st := s_l_free) l_l_free c_l_free k_l_free).binds (ps := ["word_here"]) (fun _ _ _ _ _ _ us hl => match us, hl with | [_], _ => rfl)⟩,
    l_round := ⟨f_l_round, _, fun_mk (st := s_l_round) l_l_round c_l_round k_l_round, PySem.W.mg_of X G a_l_round, (fun_mk (st := s_l_round) l_l_round c_l_round k_l_round).binds (ps := ["word_here"]) (fun _ _ _ _ _ _ us hl => match us, hl with | [_], _ => rfl)⟩,
    l_word := ⟨f_l_word, _, fun_mk (st := s_l_word) l_l_word c_l_word k_l_word, PySem.W.mg_of X G a_l_word, (fun_mk (st := s_l_word) l_l_word c_l_word k_l_word).binds (ps := ["draw", "ends", "size"]) (fun _ _ _ _ _ _ us hl => match us, hl with | [_, _, _], _ => rfl)⟩,
    l_any_round := ⟨f_l_any_round, _, fun_mk (st := s_l_any_round) l_l_any_round c_l_any_round k_l_any_round, PySem.W.mg_of X G a_l_any_round, (fun_mk (st := s_l_any_round) l_l_any_round c_l_any_round k_l_any_round).binds (ps := ["draw", "ends", "most"]) (fun _ _ _ _ _ _ us hl => match us, hl with | [_, _, _], _ => rfl)⟩,
    l_signs := ⟨f_l_signs, _, fun_mk (st := s_l_signs) l_l_signs c_l_signs k_l_signs, PySem.W.mg_of X G a_l_signs, (fun_mk (st := s_l_signs) l_l_signs c_l_signs k_l_signs).binds (ps := []) (fun _ _ _ _ _ _ us hl => match us, hl with | [], _ => rfl)⟩,
    l_spelled := ⟨f_l_spelled, _, fun_mk (st := s_l_spelled) l_l_spelled c_l_spelled k_l_spelled, PySem.W.mg_of X G a_l_spelled, (fun_mk (st := s_l_spelled) l_l_spelled c_l_spelled k_l_spelled).binds (ps := ["word_here"]) (fun _ _ _ _ _ _ us hl => match us, hl with | [_], _ => rfl)⟩,
    l_read_word := ⟨f_l_read_word, _, fun_mk (st := s_l_read_word) l_l_read_word c_l_read_word k_l_read_word, PySem.W.mg_of X G a_l_read_word, (fun_mk (st := s_l_read_word) l_l_read_word c_l_read_word k_l_read_word).binds (ps := ["ends", "text"]) (fun _ _ _ _ _ _ us hl => match us, hl with | [_, _], _ => rfl)⟩,
    l_read_round := ⟨f_l_read_round, _, fun_mk (st := s_l_read_round) l_l_read_round c_l_read_round k_l_read_round, PySem.W.mg_of X G a_l_read_round, (fun_mk (st := s_l_read_round) l_l_read_round c_l_read_round k_l_read_round).binds (ps := ["ends", "text"]) (fun _ _ _ _ _ _ us hl => match us, hl with | [_, _], _ => rfl)⟩,
    l_read_skin := ⟨f_l_read_skin, _, fun_mk (st := s_l_read_skin) l_l_read_skin c_l_read_skin k_l_read_skin, PySem.W.mg_of X G a_l_read_skin, (fun_mk (st := s_l_read_skin) l_l_read_skin c_l_read_skin k_l_read_skin).binds (ps := ["text"]) (fun _ _ _ _ _ _ us hl => match us, hl with | [_], _ => rfl)⟩,
    l_bent := ⟨f_l_bent, _, fun_mk (st := s_l_bent) l_l_bent c_l_bent k_l_bent, PySem.W.mg_of X G a_l_bent, (fun_mk (st := s_l_bent) l_l_bent c_l_bent k_l_bent).binds (ps := ["draw", "text"]) (fun _ _ _ _ _ _ us hl => match us, hl with | [_, _], _ => rfl)⟩,
    l_is_told := ⟨f_l_is_told, _, fun_mk (st := s_l_is_told) l_l_is_told c_l_is_told k_l_is_told, PySem.W.mg_of X G a_l_is_told, (fun_mk (st := s_l_is_told) l_l_is_told c_l_is_told k_l_is_told).binds (ps := ["work", "due"]) (fun _ _ _ _ _ _ us hl => match us, hl with | [_, _], _ => rfl)⟩,
    l_is_begun := ⟨f_l_is_begun, _, fun_mk (st := s_l_is_begun) l_l_is_begun c_l_is_begun k_l_is_begun, PySem.W.mg_of X G a_l_is_begun, (fun_mk (st := s_l_is_begun) l_l_is_begun c_l_is_begun k_l_is_begun).binds (ps := ["draw", "work", "text", "at"]) (fun _ _ _ _ _ _ us hl => match us, hl with | [_, _, _, _], _ => rfl)⟩,
    l_row_told := ⟨f_l_row_told, _, fun_mk (st := s_l_row_told) l_l_row_told c_l_row_told k_l_row_told, PySem.W.mg_of X G a_l_row_told, (fun_mk (st := s_l_row_told) l_l_row_told c_l_row_told k_l_row_told).binds (ps := ["text"]) (fun _ _ _ _ _ _ us hl => match us, hl with | [_], _ => rfl)⟩,
    l_words_right := ⟨f_l_words_right, _, fun_mk (st := s_l_words_right) l_l_words_right c_l_words_right k_l_words_right, PySem.W.mg_of X G a_l_words_right, (fun_mk (st := s_l_words_right) l_l_words_right c_l_words_right k_l_words_right).binds (ps := ["draw", "skin_here", "ends"]) (fun _ _ _ _ _ _ us hl => match us, hl with | [_, _, _], _ => rfl)⟩,
    l_refused := ⟨f_l_refused, _, fun_mk (st := s_l_refused) l_l_refused c_l_refused k_l_refused, PySem.W.mg_of X G a_l_refused, (fun_mk (st := s_l_refused) l_l_refused c_l_refused k_l_refused).binds (ps := ["draw", "skin_here", "ends"]) (fun _ _ _ _ _ _ us hl => match us, hl with | [_, _, _], _ => rfl)⟩,
    law := ⟨fa, _, fun_mk (st := s_law) l_law c_law k_law, PySem.W.mg_of X G a_law, (fun_mk (st := s_law) l_law c_law k_law).binds (ps := ["script"]) (fun _ _ _ _ _ _ us hl => match us, hl with | [_], _ => rfl)⟩,
    zabs := PySem.W.mg_none_of X G zabs,
    zall := PySem.W.mg_none_of X G zall,
    zenumerate := PySem.W.mg_none_of X G zenumerate,
    zint := PySem.W.mg_none_of X G zint,
    zisinstance := PySem.W.mg_none_of X G zisinstance,
    zlen := PySem.W.mg_none_of X G zlen,
    zlist := PySem.W.mg_none_of X G zlist,
    zmax := PySem.W.mg_none_of X G zmax,
    zmin := PySem.W.mg_none_of X G zmin,
    zrange := PySem.W.mg_none_of X G zrange,
    zrepr := PySem.W.mg_none_of X G zrepr,
    zsorted := PySem.W.mg_none_of X G zsorted,
    zstr := PySem.W.mg_none_of X G zstr,
    ztuple := PySem.W.mg_none_of X G ztuple,
    ztype := PySem.W.mg_none_of X G ztype,
    v_MOST_LETTERS := .int 200 tkMOST_LETTERS,
    c_MOST_LETTERS := PySem.W.mg_of X G c_MOST_LETTERS,
    r_MOST_LETTERS := ⟨_, rfl⟩,
    v_MOST_IN_ROUND := .int 40 tkMOST_IN_ROUND,
    c_MOST_IN_ROUND := PySem.W.mg_of X G c_MOST_IN_ROUND,
    r_MOST_IN_ROUND := ⟨_, rfl⟩,
    v_LETTER_SIGNS := .str "aAbBcCdDeEfF" tkLETTER_SIGNS,
    c_LETTER_SIGNS := PySem.W.mg_of X G c_LETTER_SIGNS,
    r_LETTER_SIGNS := ⟨_, rfl⟩,
    kSS := kSS,
    kST := kST,
    kSN := kSN,
    kSY := kSY,
    kWW := kWW,
    sWR := sWR,
    kSkSk := kSkSk,
    sSR := sSR,
    kXX := kXX,
    sXR := sXR,
    kInT := kInT,
    kTuI := kTuI,
    eqM := ⟨f_eqM, _, fun_mk (st := s_Skin_eq) l_eqM c_eqM k_eqM, i_eqM, fn_eqM, (fun_mk (st := s_Skin_eq) l_eqM c_eqM k_eqM).binds (ps := ["self", "other"]) (fun _ _ _ _ _ _ us hl => match us, hl with | [_, _], _ => rfl)⟩,
    mSign := ⟨f_mSign, _, fun_mk (st := s_Reader_sign) l_mSign c_mSign k_mSign, i_mSign, fn_mSign, (fun_mk (st := s_Reader_sign) l_mSign c_mSign k_mSign).binds (ps := ["self"]) (fun _ _ _ _ _ _ us hl => match us, hl with | [_], _ => rfl)⟩,
    mEnd := ⟨f_mEnd, _, fun_mk (st := s_Reader_is_ended) l_mEnd c_mEnd k_mEnd, i_mEnd, fn_mEnd, (fun_mk (st := s_Reader_is_ended) l_mEnd c_mEnd k_mEnd).binds (ps := ["self"]) (fun _ _ _ _ _ _ us hl => match us, hl with | [_], _ => rfl)⟩,
    mCheck := ⟨f_mCheck, _, fun_mk (st := s_Reader_check) l_mCheck c_mCheck k_mCheck, i_mCheck, fn_mCheck, (fun_mk (st := s_Reader_check) l_mCheck c_mCheck k_mCheck).binds (ps := ["self", "is_right"]) (fun _ _ _ _ _ _ us hl => match us, hl with | [_, _], _ => rfl)⟩,
    mLetter := ⟨f_mLetter, _, fun_mk (st := s_Reader_letter) l_mLetter c_mLetter k_mLetter, i_mLetter, fn_mLetter, (fun_mk (st := s_Reader_letter) l_mLetter c_mLetter k_mLetter).binds (ps := ["self"]) (fun _ _ _ _ _ _ us hl => match us, hl with | [_], _ => rfl)⟩,
    mLetters := ⟨f_mLetters, _, fun_mk (st := s_Reader_read_letters) l_mLetters c_mLetters k_mLetters, i_mLetters, fn_mLetters, (fun_mk (st := s_Reader_read_letters) l_mLetters c_mLetters k_mLetters).binds (ps := ["self", "many_ends", "most", "is_free"]) (fun _ _ _ _ _ _ us hl => match us, hl with | [_, _, _, _], _ => rfl)⟩,
    mRound := ⟨f_mRound, _, (funD_mk (st := s_Reader_read_round) l_mRound c_mRound k_mRound d_mRound), i_mRound, fn_mRound, (funD_mk (st := s_Reader_read_round) l_mRound c_mRound k_mRound d_mRound).binds1 (ps := ["self", "skin", "most"]) 2 0 (by simp) rfl (fun _ _ _ _ _ _ _ us its h1 h2 => match us, its, h1, h2 with | [_, _], [_], _, _ => ⟨_, rfl, rfl⟩)⟩,
    mSkin := ⟨f_mSkin, _, fun_mk (st := s_Reader_read_skin) l_mSkin c_mSkin k_mSkin, i_mSkin, fn_mSkin, (fun_mk (st := s_Reader_read_skin) l_mSkin c_mSkin k_mSkin).binds (ps := ["self"]) (fun _ _ _ _ _ _ us hl => match us, hl with | [_], _ => rfl)⟩,
    jc := jc,
    jP := jP,
    jF := ⟨_, _, _, _, _, _, _, _, rfl, l_l_refused, c_l_refused⟩,
    wc := wc,
    wP := wP,
    wF := ⟨_, _, _, _, _, _, _, _, rfl, l_l_words_right, c_l_words_right⟩,
    tc := tc,
    tP := tP,
    tF := ⟨_, _, _, _, _, _, _, _, rfl, l_l_is_told, c_l_is_told⟩,
    bc := bc,
    bP := bP,
    bF := ⟨_, _, _, _, _, _, _, _, rfl, l_l_is_begun, c_l_is_begun⟩,
    lc := lc,
    lP := lP,
    lF := ⟨_, _, _, _, _, _, _, _, rfl, l_law, c_law⟩,
    ne_jw := ne_jw,
    ne_jt := ne_jt,
    ne_jb := ne_jb,
    ne_jl := ne_jl,
    ne_wt := ne_wt,
    ne_wb := ne_wb,
    ne_wl := ne_wl,
    ne_tb := ne_tb,
    ne_tl := ne_tl,
    ne_bl := ne_bl }, rfl, ⟨tgj, njj, tcj⟩, ⟨tgw, njw, tcw⟩, ⟨tgt, njt, tct⟩, ⟨tgb, njb, tcb⟩, ⟨tgl, njl, tcl⟩⟩
theorem walk_law {l : PySem.W.OpenLaw} {q : Program} {loose : List Str} {XP : (Str → Option Value) → Heap → Prop} {YP : World → Heap → Prop} {d : DefRec} {K : Params → PySem.W.Frag} (hn : l.most = some 63) (hdf : d.params.defaults = [])
    (hY : ∀ (w : World) (h : Heap), YP w h → (K w.params).In h)
    (F : ∀ (w : World) (mg : Str → Option Value) (fa : Addr) (h : Heap), YP w h → (K w.params).In h → h.Ns mainGlobals mg → mg d.name = some (.ref fa) →
      ∃ T : Txt (K w.params) mg, fa = T.law.a ∧ (h.get? T.jP = some { cls := .none, data := .fields #[] } ∧ (K w.params).lookup T.jP = none ∧ PySem.W.CodeHd h T.jc T.jP) ∧ (h.get? T.wP = some { cls := .none, data := .fields #[] } ∧ (K w.params).lookup T.wP = none ∧ PySem.W.CodeHd h T.wc T.wP) ∧ (h.get? T.tP = some { cls := .none, data := .fields #[] } ∧ (K w.params).lookup T.tP = none ∧ PySem.W.CodeHd h T.tc T.tP) ∧ (h.get? T.bP = some { cls := .none, data := .fields #[] } ∧ (K w.params).lookup T.bP = none ∧ PySem.W.CodeHd h T.bc T.bP) ∧ (h.get? T.lP = some { cls := .none, data := .fields #[] } ∧ (K w.params).lookup T.lP = none ∧ PySem.W.CodeHd h T.lc T.lP)) :
    PySem.W.WalkO q loose XP YP l.row.toRowW d [] (fun f vs => PySem.call f vs) := by
  refine Att.attach_callB hn hdf fun w s₀ s₁ mg mb fa o pm cd doc a vs ns G Y ho hd hcd hmg hobj hints hlen hbits hg => ?_
  have KX := hY w _ Y
  obtain ⟨T, rfl, h_j, h_w, h_t, h_b, h_l⟩ := F w mg fa _ Y KX G.T.g hmg
  refine law_run (ts := [(T.jc, T.jP), (T.wc, T.wP), (T.tc, T.tP), (T.bc, T.bP), (T.lc, T.lP)]) KX G.T.g G.T.b G.T.builtins G.T.nolimit hg (fun p hp => ?_) G.T.bmain hobj hints (Nat.le_trans hlen (by decide)) fun base H TB e0 hT hS => ?_
  · simp only [List.mem_cons, List.not_mem_nil, or_false] at hp
    rcases hp with rfl | rfl | rfl | rfl | rfl
    · exact h_j
    · exact h_w
    · exact h_t
    · exact h_b
    · exact h_l
  have htb : LamX.Tabs (jTs T) H := fun p hp => by
    simp only [List.mem_cons, List.not_mem_nil, or_false] at hp
    rcases hp with rfl | rfl | rfl | rfl | rfl
    · exact LamX.TabS.nil (hT (T.jc, T.jP) (List.mem_cons_self))
    · exact LamX.TabS.nil (hT (T.wc, T.wP) (List.mem_cons_of_mem _ (List.mem_cons_self)))
    · exact LamX.TabS.nil (hT (T.tc, T.tP) (List.mem_cons_of_mem _ (List.mem_cons_of_mem _ (List.mem_cons_self))))
    · exact LamX.TabS.nil (hT (T.bc, T.bP) (List.mem_cons_of_mem _ (List.mem_cons_of_mem _ (List.mem_cons_of_mem _ (List.mem_cons_self)))))
    · exact LamX.TabS.nil (hT (T.lc, T.lP) (List.mem_cons_of_mem _ (List.mem_cons_of_mem _ (List.mem_cons_of_mem _ (List.mem_cons_of_mem _ (List.mem_cons_self))))))
  obtain ⟨oc, od, kV, doc', pm', an, ct, osl, e, lk, hc⟩ := T.lF.ex
  have hb := T.law.b s₁ [.ref a] KX rfl
  rw [e] at lk hb
  refine LamX.run_ofS (N := N_law) (ps := ["script"]) (k := 14) (us := [.ref a]) (vs := [.ref a]) lk hc sc_law ⟨rfl, by decide, by decide⟩ e0 hb (.cons rfl .nil) rfl fun hr' => ?_
  obtain ⟨t, h1, h2⟩ := law_body (w := w) (base := base) (E := E0) (outer := []) (Q := fun v _ => v = .bl true) T (TB (T.wc, T.wP) (List.mem_cons_of_mem _ (List.mem_cons_self))) (TB (T.tc, T.tP) (List.mem_cons_of_mem _ (List.mem_cons_of_mem _ (List.mem_cons_self)))) (TB (T.bc, T.bP) (List.mem_cons_of_mem _ (List.mem_cons_of_mem _ (List.mem_cons_of_mem _ (List.mem_cons_self))))) (TB (T.lc, T.lP) (List.mem_cons_of_mem _ (List.mem_cons_of_mem _ (List.mem_cons_of_mem _ (List.mem_cons_of_mem _ (List.mem_cons_self)))))) (TB (T.jc, T.jP) (List.mem_cons_self)) (A := callerA) (s := s₁) rfl hr' hS hlen htb (fun _ => rfl)
  exact ⟨t, h1.nox, h2⟩
end Tt
open PySem PySem.W PyProof.Rows in
set_option maxRecDepth 100000 in
set_option maxHeartbeats 0 in
theorem PySem.Challenge.cw_tautrounds_k54_texts_of_words_and_skins_holds : PySem.Challenge.rw_tautrounds_k54_texts_of_words_and_skins.Holds := by
  w_on; o_law; k_head; (case hw => w_witness2)
  k_fill
  refine' Tt.walk_law (l := PySem.Challenge.rw_tautrounds_k54_texts_of_words_and_skins) rfl rfl (fun w h Y => PySem.W.km_in_of Y) ?F
  case F =>
    intro w mg fa h Y KX G hmg
    refine' Tt.all_mk KX G hmg ?hn0 ?ht0 ?a_RoundError ?k_RoundError ?q_RoundError ?ty_RoundError ?ga_RoundError ?gg_RoundError ?ex_RoundError ?hd_RoundError ?ca_RoundError ?mo_RoundError ?a_BadSkin ?x_BadSkin ?rv_BadSkin ?sa_BadSkin ?ty_BadSkin ?kc_BadSkin ?i_BadSkin ?t_BadSkin ?l_BadSkin ?c_BadSkin ?k_BadSkin ?nf_BadSkin ?ga_BadSkin ?gg_BadSkin ?ex_BadSkin ?hd_BadSkin ?ca_BadSkin ?mo_BadSkin ?a_BadText ?x_BadText ?rv_BadText ?sa_BadText ?ty_BadText ?kc_BadText ?i_BadText ?t_BadText ?l_BadText ?c_BadText ?k_BadText ?nf_BadText ?ga_BadText ?gg_BadText ?ex_BadText ?hd_BadText ?ca_BadText ?mo_BadText ?a_BadWord ?k_BadWord ?q_BadWord ?ty_BadWord ?ga_BadWord ?gg_BadWord ?ex_BadWord ?hd_BadWord ?ca_BadWord ?mo_BadWord ?a_is_number ?l_is_number ?c_is_number ?k_is_number ?a_is_within ?l_is_within ?c_is_within ?k_is_within ?a_is_tuple ?l_is_tuple ?c_is_tuple ?k_is_tuple ?a_is_list ?l_is_list ?c_is_list ?k_is_list ?a_is_row ?l_is_row ?c_is_row ?k_is_row ?a_Skin ?i_Skin ?fn_Skin ?l_Skin ?c_Skin ?k_Skin ?pg_Skin ?hd_Skin ?po_Skin ?sa_Skin ?mk_Skin ?kc_Skin ?ca_Skin ?mo_Skin ?n_Skin_row ?n_Skin_bands ?n_Skin_places ?a_check_skin ?l_check_skin ?c_check_skin ?k_check_skin ?a_is_end ?l_is_end ?c_is_end ?k_is_end ?a_least_turn ?l_least_turn ?c_least_turn ?k_least_turn ?a_is_any_word ?l_is_any_word ?c_is_any_word ?k_is_any_word ?a_has_letters ?l_has_letters ?c_has_letters ?k_has_letters ?a_check_word ?l_check_word ?c_check_word ?k_check_word ?a_cut_free ?l_cut_free ?c_cut_free ?k_cut_free ?a_closed_letters ?l_closed_letters ?c_closed_letters ?k_closed_letters ?a_closed_up ?l_closed_up ?c_closed_up ?k_closed_up ?a_is_fit_round ?l_is_fit_round ?c_is_fit_round ?k_is_fit_round ?a_Reader ?i_Reader ?fn_Reader ?l_Reader ?c_Reader ?k_Reader ?pg_Reader ?hd_Reader ?po_Reader ?sa_Reader ?mk_Reader ?kc_Reader ?ca_Reader ?mo_Reader ?n_Reader_text ?n_Reader_at ?a_signs_of ?l_signs_of ?c_signs_of ?k_signs_of ?a_word_text ?l_word_text ?c_word_text ?k_word_text ?a_skin_text ?l_skin_text ?c_skin_text ?k_skin_text ?a_read_word ?l_read_word ?c_read_word ?k_read_word ?a_read_round ?l_read_round ?c_read_round ?k_read_round ?a_read_skin ?l_read_skin ?c_read_skin ?k_read_skin ?a_l_begun ?l_l_begun ?c_l_begun ?k_l_begun ?a_l_mixed ?l_l_mixed ?c_l_mixed ?k_l_mixed ?a_l_take ?l_l_take ?c_l_take ?k_l_take ?a_l_pick ?l_l_pick ?c_l_pick ?k_l_pick ?a_l_shuffled ?l_l_shuffled ?c_l_shuffled ?k_l_shuffled ?a_l_caught ?l_l_caught ?c_l_caught ?k_l_caught ?a_l_turned ?l_l_turned ?c_l_turned ?k_l_turned ?a_l_row ?l_l_row ?c_l_row ?k_l_row ?a_l_free ?l_l_free ?c_l_free ?k_l_free ?a_l_round ?l_l_round ?c_l_round ?k_l_round ?a_l_word ?l_l_word ?c_l_word ?k_l_word ?a_l_any_round ?l_l_any_round ?c_l_any_round ?k_l_any_round ?a_l_signs ?l_l_signs ?c_l_signs ?k_l_signs ?a_l_spelled ?l_l_spelled ?c_l_spelled ?k_l_spelled ?a_l_read_word ?l_l_read_word ?c_l_read_word ?k_l_read_word ?a_l_read_round ?l_l_read_round ?c_l_read_round ?k_l_read_round ?a_l_read_skin ?l_l_read_skin ?c_l_read_skin ?k_l_read_skin ?a_l_bent ?l_l_bent ?c_l_bent ?k_l_bent ?a_l_is_told ?l_l_is_told ?c_l_is_told ?k_l_is_told ?a_l_is_begun ?l_l_is_begun ?c_l_is_begun ?k_l_is_begun ?a_l_row_told ?l_l_row_told ?c_l_row_told ?k_l_row_told ?a_l_words_right ?l_l_words_right ?c_l_words_right ?k_l_words_right ?a_l_refused ?l_l_refused ?c_l_refused ?k_l_refused ?a_law ?l_law ?c_law ?k_law ?zabs ?zall ?zenumerate ?zint ?zisinstance ?zlen ?zlist ?zmax ?zmin ?zrange ?zrepr ?zsorted ?zstr ?ztuple ?ztype ?c_MOST_LETTERS ?c_MOST_IN_ROUND ?c_LETTER_SIGNS ?kSS ?kST ?kSN ?kSY ?kWW ?sWR ?kSkSk ?sSR ?kXX ?sXR ?kInT ?kTuI ?i_eqM ?fn_eqM ?l_eqM ?c_eqM ?k_eqM ?i_mSign ?fn_mSign ?l_mSign ?c_mSign ?k_mSign ?i_mEnd ?fn_mEnd ?l_mEnd ?c_mEnd ?k_mEnd ?i_mCheck ?fn_mCheck ?l_mCheck ?c_mCheck ?k_mCheck ?i_mLetter ?fn_mLetter ?l_mLetter ?c_mLetter ?k_mLetter ?i_mLetters ?fn_mLetters ?l_mLetters ?c_mLetters ?k_mLetters ?i_mRound ?fn_mRound ?l_mRound ?c_mRound ?k_mRound ?d_mRound ?i_mSkin ?fn_mSkin ?l_mSkin ?c_mSkin ?k_mSkin ?tgj ?tcj ?njj ?tgw ?tcw ?njw ?tgt ?tct ?njt ?tgb ?tcb ?njb ?tgl ?tcl ?njl ?ne_jw ?ne_jt ?ne_jb ?ne_jl ?ne_wt ?ne_wb ?ne_wl ?ne_tb ?ne_tl ?ne_bl
    (case hn0 => k_is)
    (case ht0 => k_is)
    (case a_RoundError => k_is)
    (case k_RoundError => k_is)
    (case q_RoundError => k_exc)
    (case ty_RoundError => k_is)
    (case ga_RoundError => k_is)
    (case gg_RoundError => k_is)
    (case ex_RoundError => k_is)
    (case hd_RoundError => k_is)
    (case ca_RoundError => k_is)
    (case mo_RoundError => k_is)
    (case a_BadSkin => k_is)
    (case x_BadSkin => k_is)
    (case rv_BadSkin => decide +kernel)
    (case sa_BadSkin => k_is)
    (case ty_BadSkin => k_is)
    (case kc_BadSkin => k_is)
    (case i_BadSkin => k_is)
    (case t_BadSkin => k_is)
    (case l_BadSkin => k_is)
    (case c_BadSkin => k_is)
    (case k_BadSkin => k_is)
    (case nf_BadSkin => k_is)
    (case ga_BadSkin => k_is)
    (case gg_BadSkin => k_is)
    (case ex_BadSkin => k_is)
    (case hd_BadSkin => k_is)
    (case ca_BadSkin => k_is)
    (case mo_BadSkin => k_is)
    (case a_BadText => k_is)
    (case x_BadText => k_is)
    (case rv_BadText => decide +kernel)
    (case sa_BadText => k_is)
    (case ty_BadText => k_is)
    (case kc_BadText => k_is)
    (case i_BadText => k_is)
    (case t_BadText => k_is)
    (case l_BadText => k_is)
    (case c_BadText => k_is)
    (case k_BadText => k_is)
    (case nf_BadText => k_is)
    (case ga_BadText => k_is)
    (case gg_BadText => k_is)
    (case ex_BadText => k_is)
    (case hd_BadText => k_is)
    (case ca_BadText => k_is)
    (case mo_BadText => k_is)
    (case a_BadWord => k_is)
    (case k_BadWord => k_is)
    (case q_BadWord => k_exc)
    (case ty_BadWord => k_is)
    (case ga_BadWord => k_is)
    (case gg_BadWord => k_is)
    (case ex_BadWord => k_is)
    (case hd_BadWord => k_is)
    (case ca_BadWord => k_is)
    (case mo_BadWord => k_is)
    (case a_is_number => k_is)
    (case l_is_number => k_is)
    (case c_is_number => k_is)
    (case k_is_number => k_is)
    (case a_is_within => k_is)
    (case l_is_within => k_is)
    (case c_is_within => k_is)
    (case k_is_within => k_is)
    (case a_is_tuple => k_is)
    (case l_is_tuple => k_is)
    (case c_is_tuple => k_is)
    (case k_is_tuple => k_is)
    (case a_is_list => k_is)
    (case l_is_list => k_is)
    (case c_is_list => k_is)
    (case k_is_list => k_is)
    (case a_is_row => k_is)
    (case l_is_row => k_is)
    (case c_is_row => k_is)
    (case k_is_row => k_is)
    (case a_Skin => k_is)
    (case i_Skin => k_is)
    (case fn_Skin => k_is)
    (case l_Skin => k_is)
    (case c_Skin => k_is)
    (case k_Skin => k_is)
    (case pg_Skin => k_is)
    (case hd_Skin => k_is)
    (case po_Skin => k_is)
    (case sa_Skin => k_is)
    (case mk_Skin => k_is)
    (case kc_Skin => k_is)
    (case ca_Skin => k_is)
    (case mo_Skin => k_is)
    (case n_Skin_row => k_is)
    (case n_Skin_bands => k_is)
    (case n_Skin_places => k_is)
    (case a_check_skin => k_is)
    (case l_check_skin => k_is)
    (case c_check_skin => k_is)
    (case k_check_skin => k_is)
    (case a_is_end => k_is)
    (case l_is_end => k_is)
    (case c_is_end => k_is)
    (case k_is_end => k_is)
    (case a_least_turn => k_is)
    (case l_least_turn => k_is)
    (case c_least_turn => k_is)
    (case k_least_turn => k_is)
    (case a_is_any_word => k_is)
    (case l_is_any_word => k_is)
    (case c_is_any_word => k_is)
    (case k_is_any_word => k_is)
    (case a_has_letters => k_is)
    (case l_has_letters => k_is)
    (case c_has_letters => k_is)
    (case k_has_letters => k_is)
    (case a_check_word => k_is)
    (case l_check_word => k_is)
    (case c_check_word => k_is)
    (case k_check_word => k_is)
    (case a_cut_free => k_is)
    (case l_cut_free => k_is)
    (case c_cut_free => k_is)
    (case k_cut_free => k_is)
    (case a_closed_letters => k_is)
    (case l_closed_letters => k_is)
    (case c_closed_letters => k_is)
    (case k_closed_letters => k_is)
    (case a_closed_up => k_is)
    (case l_closed_up => k_is)
    (case c_closed_up => k_is)
    (case k_closed_up => k_is)
    (case a_is_fit_round => k_is)
    (case l_is_fit_round => k_is)
    (case c_is_fit_round => k_is)
    (case k_is_fit_round => k_is)
    (case a_Reader => k_is)
    (case i_Reader => k_is)
    (case fn_Reader => k_is)
    (case l_Reader => k_is)
    (case c_Reader => k_is)
    (case k_Reader => k_is)
    (case pg_Reader => k_is)
    (case hd_Reader => k_is)
    (case po_Reader => k_is)
    (case sa_Reader => k_is)
    (case mk_Reader => k_is)
    (case kc_Reader => k_is)
    (case ca_Reader => k_is)
    (case mo_Reader => k_is)
    (case n_Reader_text => k_is)
    (case n_Reader_at => k_is)
    (case a_signs_of => k_is)
    (case l_signs_of => k_is)
    (case c_signs_of => k_is)
    (case k_signs_of => k_is)
    (case a_word_text => k_is)
    (case l_word_text => k_is)
    (case c_word_text => k_is)
    (case k_word_text => k_is)
    (case a_skin_text => k_is)
    (case l_skin_text => k_is)
    (case c_skin_text => k_is)
    (case k_skin_text => k_is)
    (case a_read_word => k_is)
    (case l_read_word => k_is)
    (case c_read_word => k_is)
    (case k_read_word => k_is)
    (case a_read_round => k_is)
    (case l_read_round => k_is)
    (case c_read_round => k_is)
    (case k_read_round => k_is)
    (case a_read_skin => k_is)
    (case l_read_skin => k_is)
    (case c_read_skin => k_is)
    (case k_read_skin => k_is)
    (case a_l_begun => k_is)
    (case l_l_begun => k_is)
    (case c_l_begun => k_is)
    (case k_l_begun => k_is)
    (case a_l_mixed => k_is)
    (case l_l_mixed => k_is)
    (case c_l_mixed => k_is)
    (case k_l_mixed => k_is)
    (case a_l_take => k_is)
    (case l_l_take => k_is)
    (case c_l_take => k_is)
    (case k_l_take => k_is)
    (case a_l_pick => k_is)
    (case l_l_pick => k_is)
    (case c_l_pick => k_is)
    (case k_l_pick => k_is)
    (case a_l_shuffled => k_is)
    (case l_l_shuffled => k_is)
    (case c_l_shuffled => k_is)
    (case k_l_shuffled => k_is)
    (case a_l_caught => k_is)
    (case l_l_caught => k_is)
    (case c_l_caught => k_is)
    (case k_l_caught => k_is)
    (case a_l_turned => k_is)
    (case l_l_turned => k_is)
    (case c_l_turned => k_is)
    (case k_l_turned => k_is)
    (case a_l_row => k_is)
    (case l_l_row => k_is)
    (case c_l_row => k_is)
    (case k_l_row => k_is)
    (case a_l_free => k_is)
    (case l_l_free => k_is)
    (case c_l_free => k_is)
    (case k_l_free => k_is)
    (case a_l_round => k_is)
    (case l_l_round => k_is)
    (case c_l_round => k_is)
    (case k_l_round => k_is)
    (case a_l_word => k_is)
    (case l_l_word => k_is)
    (case c_l_word => k_is)
    (case k_l_word => k_is)
    (case a_l_any_round => k_is)
    (case l_l_any_round => k_is)
    (case c_l_any_round => k_is)
    (case k_l_any_round => k_is)
    (case a_l_signs => k_is)
    (case l_l_signs => k_is)
    (case c_l_signs => k_is)
    (case k_l_signs => k_is)
    (case a_l_spelled => k_is)
    (case l_l_spelled => k_is)
    (case c_l_spelled => k_is)
    (case k_l_spelled => k_is)
    (case a_l_read_word => k_is)
    (case l_l_read_word => k_is)
    (case c_l_read_word => k_is)
    (case k_l_read_word => k_is)
    (case a_l_read_round => k_is)
    (case l_l_read_round => k_is)
    (case c_l_read_round => k_is)
    (case k_l_read_round => k_is)
    (case a_l_read_skin => k_is)
    (case l_l_read_skin => k_is)
    (case c_l_read_skin => k_is)
    (case k_l_read_skin => k_is)
    (case a_l_bent => k_is)
    (case l_l_bent => k_is)
    (case c_l_bent => k_is)
    (case k_l_bent => k_is)
    (case a_l_is_told => k_is)
    (case l_l_is_told => k_is)
    (case c_l_is_told => k_is)
    (case k_l_is_told => k_is)
    (case a_l_is_begun => k_is)
    (case l_l_is_begun => k_is)
    (case c_l_is_begun => k_is)
    (case k_l_is_begun => k_is)
    (case a_l_row_told => k_is)
    (case l_l_row_told => k_is)
    (case c_l_row_told => k_is)
    (case k_l_row_told => k_is)
    (case a_l_words_right => k_is)
    (case l_l_words_right => k_is)
    (case c_l_words_right => k_is)
    (case k_l_words_right => k_is)
    (case a_l_refused => k_is)
    (case l_l_refused => k_is)
    (case c_l_refused => k_is)
    (case k_l_refused => k_is)
    (case a_law => k_is)
    (case l_law => k_is)
    (case c_law => k_is)
    (case k_law => k_is)
    (case zabs => k_is)
    (case zall => k_is)
    (case zenumerate => k_is)
    (case zint => k_is)
    (case zisinstance => k_is)
    (case zlen => k_is)
    (case zlist => k_is)
    (case zmax => k_is)
    (case zmin => k_is)
    (case zrange => k_is)
    (case zrepr => k_is)
    (case zsorted => k_is)
    (case zstr => k_is)
    (case ztuple => k_is)
    (case ztype => k_is)
    (case c_MOST_LETTERS => k_is)
    (case c_MOST_IN_ROUND => k_is)
    (case c_LETTER_SIGNS => k_is)
    (case kSS => kit_is)
    (case kST => kit_is)
    (case kSN => kit_is)
    (case kSY => kit_is)
    (case kWW => kit_is)
    (case sWR => k_is)
    (case kSkSk => kit_is)
    (case sSR => k_is)
    (case kXX => kit_is)
    (case sXR => k_is)
    (case kInT => kit_is)
    (case kTuI => kit_is)
    (case i_eqM => k_is)
    (case fn_eqM => k_is)
    (case l_eqM => k_is)
    (case c_eqM => k_is)
    (case k_eqM => k_is)
    (case i_mSign => k_is)
    (case fn_mSign => k_is)
    (case l_mSign => k_is)
    (case c_mSign => k_is)
    (case k_mSign => k_is)
    (case i_mEnd => k_is)
    (case fn_mEnd => k_is)
    (case l_mEnd => k_is)
    (case c_mEnd => k_is)
    (case k_mEnd => k_is)
    (case i_mCheck => k_is)
    (case fn_mCheck => k_is)
    (case l_mCheck => k_is)
    (case c_mCheck => k_is)
    (case k_mCheck => k_is)
    (case i_mLetter => k_is)
    (case fn_mLetter => k_is)
    (case l_mLetter => k_is)
    (case c_mLetter => k_is)
    (case k_mLetter => k_is)
    (case i_mLetters => k_is)
    (case fn_mLetters => k_is)
    (case l_mLetters => k_is)
    (case c_mLetters => k_is)
    (case k_mLetters => k_is)
    (case i_mRound => k_is)
    (case fn_mRound => k_is)
    (case l_mRound => k_is)
    (case c_mRound => k_is)
    (case k_mRound => k_is)
    (case d_mRound => first | kernel_rfl | rfl)
    (case i_mSkin => k_is)
    (case fn_mSkin => k_is)
    (case l_mSkin => k_is)
    (case c_mSkin => k_is)
    (case k_mSkin => k_is)
    (case tgj => exact PySem.W.km_tabs_of Y _ (List.mem_cons_self))
    (case tcj => exact PySem.W.codeHd_of_K KX (by kernel_rfl))
    (case njj => first | kernel_rfl | rfl)
    (case tgw => exact PySem.W.km_tabs_of Y _ (List.mem_cons_of_mem _ (List.mem_cons_self)))
    (case tcw => exact PySem.W.codeHd_of_K KX (by kernel_rfl))
    (case njw => first | kernel_rfl | rfl)
    (case tgt => exact PySem.W.km_tabs_of Y _ (List.mem_cons_of_mem _ (List.mem_cons_of_mem _ (List.mem_cons_of_mem _ (List.mem_cons_self)))))
    (case tct => exact PySem.W.codeHd_of_K KX (by kernel_rfl))
    (case njt => first | kernel_rfl | rfl)
    (case tgb => exact PySem.W.km_tabs_of Y _ (List.mem_cons_of_mem _ (List.mem_cons_of_mem _ (List.mem_cons_self))))
    (case tcb => exact PySem.W.codeHd_of_K KX (by kernel_rfl))
    (case njb => first | kernel_rfl | rfl)
    (case tgl => exact PySem.W.km_tabs_of Y _ (List.mem_cons_of_mem _ (List.mem_cons_of_mem _ (List.mem_cons_of_mem _ (List.mem_cons_of_mem _ (List.mem_cons_self))))))
    (case tcl => exact PySem.W.codeHd_of_K KX (by kernel_rfl))
    (case njl => first | kernel_rfl | rfl)
    (case ne_jw => first | decide | decide +kernel | (intro z; cases z))
    (case ne_jt => first | decide | decide +kernel | (intro z; cases z))
    (case ne_jb => first | decide | decide +kernel | (intro z; cases z))
    (case ne_jl => first | decide | decide +kernel | (intro z; cases z))
    (case ne_wt => first | decide | decide +kernel | (intro z; cases z))
    (case ne_wb => first | decide | decide +kernel | (intro z; cases z))
    (case ne_wl => first | decide | decide +kernel | (intro z; cases z))
    (case ne_tb => first | decide | decide +kernel | (intro z; cases z))
    (case ne_tl => first | decide | decide +kernel | (intro z; cases z))
    (case ne_bl => first | decide | decide +kernel | (intro z; cases z))
