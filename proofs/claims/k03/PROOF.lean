import PyProof.Rows.All
import Wide.All
import OpenK.AllK
import Wide.FinOn
import HandS.ForMost
import HandS.ForExc
import HandS.More
import HandS.TupAny
import HandS.Conv
import HandS.Style
import HandS.Strs
import HandS.SortInts
import HandS.Sort
import HandS.DeepEq
import HandS.RaiseMore
import HandS.Lambda
import HandS.EndTab
import HandS.IsInst
import HandS.ExcIs
import HandS.ExcField
import HandS.ExcInit
import HandS.ExcValue
import HandS.CallLocal
import HandS.CallSlots
import HandS.Nested
import PyProof.ReprRoads
import PyProof.ReprLen
import KE.DataMinMax
import KE.SortData
import PyProof.SumAny
import KE.GoesMore
import HandS.Iter
import HandS.Walk
import HandS.SlotsOwn
import HandS.TupMul
import PyProof.CallFns
import HandS.Deep
import PySem.Challenge.RW_tautrounds_k03_whole_renamed_and_least_s
import HandS.SetFor
import HandS.Remove
import HandS.WordsDict
import HandS.Small
import HandS.EndBits
import KE.KNest
import KE.KNestM
import KE.RegKIsAll
set_option Elab.async false
set_option linter.all false
set_option maxRecDepth 100000
set_option maxHeartbeats 4000000
namespace SrtO
open PySem PyProof.Rows Srt
section
variable {prog : Program} {w : World} {A : Around} {E : Value → Shared → Prop} {s : Shared}
theorem tt_collect_tup {l : Addr} {vs : List Value} {Q : List Value → Shared → Prop} (hl : IsTup s.heap l vs.toArray)
    (h : Q vs { s with heap := (s.heap.push (seqObj "list" #[] 0)).update s.heap.objs.size (Obj.mapSeq (· ++ vs.toArray)) }) (hsz : vs.length ≤ sizeLine) :
    wpAny (model prog w) A (collect (.ref l)) Q E s := by
  obtain ⟨o, ho, hc, n, hd⟩ := id hl
  unfold collect
  refine wpAny_bind (wpAny_runValue (codeAny_builtin entry_proto_collect' ?_))
  show wpAny _ _ (do again (.builtin "list.__iadd__" ⟨[← newList [], .ref l], []⟩)) _ _ s
  refine wpAny_bind (wpAny_newList (wpAny_pure ⟨Code.quiet_builtin _ (by decide +kernel), codeAny_builtin entry_list_iadd' ?_⟩))
  show wpAny _ _ (Builtin.List.listExtendWith (.ref s.heap.objs.size) (.ref l) (.ref s.heap.objs.size)) _ _ { s with heap := s.heap.push (seqObj "list" #[] 0) }
  unfold Builtin.List.listExtendWith
  have ho' : (s.heap.push (seqObj "list" #[] 0)).get? l = some o := Heap.get?_push_of_some _ ho
  refine wpAny_bind (wpAny_typeOf (T := "tuple") ⟨o, ho', hc⟩ ?_)
  have ht : (Value.type "tuple" == Value.type "tuple") = true := by rfl
  rw [if_pos (by rw [ht]; simp)]
  refine wpAny_bind (listItems_at ho' hd ?_)
  refine wpAny_bind (listItems_at (xs := #[]) (n := 0) (Heap.get?_push_size _ rfl) rfl ?_)
  rw [if_neg (by simp)]
  refine wpAny_bind (listUpdate_at (xs := #[]) (n := 0) (Heap.get?_push_size _ rfl) rfl ?_ (Nat.zero_le _) (by show (#[] ++ vs.toArray).size ≤ sizeLine + 1; simp only [Array.size_append, List.size_toArray, List.length_nil]; omega))
  refine wpAny_pure ?_
  show wpAny (model prog w) A (do
      let o ← load s.heap.objs.size
      match o.data with
      | .seq xs _ => pure xs.toList
      | _ => unsupported "internal:collect") Q E { s with heap := (s.heap.push (seqObj "list" #[] 0)).update s.heap.objs.size (Obj.mapSeq (· ++ vs.toArray)) }
  refine wpAny_bind (wpAny_load (get?_update_seq (Heap.get?_push_size _ rfl) _) ?_)
  show wpAny _ _ (pure ((#[] : Array Value) ++ vs.toArray).toList) Q E _
  rw [show ((#[] : Array Value) ++ vs.toArray).toList = vs by simp]
  exact wpAny_pure h
theorem tt_sorted_tup {l : Addr} {vs : List Value} {ltv : Value → Value → Bool} {Q : Value → Shared → Prop} (O : Swo ltv) (hl : IsTup s.heap l vs.toArray) (hz : vs.length ≤ sizeLine)
    (hS : 2 ≤ vs.length → ∀ (h₁ : Heap) (a : Addr), h₁.get? a = some (seqObj "list" vs.toArray 0) → (∀ b o, s.heap.get? b = some o → b ≠ a ∧ h₁.get? b = some o) → SortableO prog w A.in1.in1 { s with heap := h₁ } a vs ltv)
    (h : ∀ out : List Value, Srtd ltv out → Stb ltv out vs → Q (.ref (s.heap.objs.size + 1)) { s with heap := sortedAll s.heap vs out.toArray }) :
    wpAny (model prog w) A (call (.builtin "sorted") [.ref l]) Q E s := by
  refine Calls.call_function_entry kind_sorted plain_sorted entry_sorted (args_sorted1 _) ?_
  unfold Builtin.«sorted»
  refine wpAny_bind (m := checkCount "sorted" 1 1 _) (wpAny_pure ?_)
  refine wpAny_bind (tt_collect_tup hl ?_ hz)
  refine wpAny_bind (wpAny_newList ?_ hz)
  have hsz : ((s.heap.push (seqObj "list" #[] 0)).update s.heap.objs.size (Obj.mapSeq (· ++ vs.toArray))).objs.size = s.heap.objs.size + 1 := by
    rw [Heap.size_update, size_push']
  have hoL : (((s.heap.push (seqObj "list" #[] 0)).update s.heap.objs.size (Obj.mapSeq (· ++ vs.toArray))).push (seqObj "list" vs.toArray 0)).get? (s.heap.objs.size + 1) = some (seqObj "list" vs.toArray 0) := by
    rw [← hsz]; exact Heap.get?_push_size _ rfl
  have keep : ∀ b o, s.heap.get? b = some o → b ≠ s.heap.objs.size + 1 ∧ (((s.heap.push (seqObj "list" #[] 0)).update s.heap.objs.size (Obj.mapSeq (· ++ vs.toArray))).push (seqObj "list" vs.toArray 0)).get? b = some o := fun b o q => by
    have hlt : b < s.heap.objs.size := Heap.lt_size q
    refine ⟨Nat.ne_of_lt (Nat.lt_succ_of_lt hlt), Heap.get?_push_of_some _ ?_⟩
    rw [Heap.get?_update_ne _ _ _ _ (Nat.ne_of_lt hlt)]
    exact Heap.get?_push_of_some _ q
  show wpAny _ _ _ _ _ { s with heap := ((s.heap.push (seqObj "list" #[] 0)).update s.heap.objs.size (Obj.mapSeq (· ++ vs.toArray))).push (seqObj "list" vs.toArray 0) }
  rw [hsz]
  refine wpAny_bind (wpAny_holding (wpAny_call_entry slot_list_sort ⟨_, hoL, rfl⟩ entry_list_sort (list_sort_ord O hoL hz (fun h2 => hS h2 _ _ hoL keep) fun out hs hb => ⟨_, rfl, ?_⟩) (args_list_sort _)))
  exact wpAny_pure ⟨_, rfl, h out hs hb⟩
end
end SrtO
namespace L2
open PySem PySem.Spec PyProof.Rows
section
variable {X : Cx}
def rSortedIT (K : PySem.W.Frag) : List V → Hp → VK → Prop := fun vs H Q => ∃ (a : Addr) (ns : List Int), vs = [V.ref a] ∧ SqT K H a (ns.map V.int) ∧
  ∀ (ns' : List Int) (p : Addr), ns'.Perm ns → ns'.Pairwise (· ≤ ·) → H p = none → Q (.ref p) (upd H p (.lst (ns'.map V.int)))
theorem cr_sortedIT : CallR X (.builtin "sorted") (rSortedIT X.K) := by
  intro pins s σ H vs us Q I r h
  obtain ⟨a, ns, rfl, hs, q⟩ := h
  obtain ⟨its, rv, hl, hz⟩ := I.tuple hs
  rw [Vals.ref1 r]
  have hi := rv.ints
  refine SrtO.tt_sorted_tup SrtO.swo_int hl (by rw [← rv.length]; exact hz) (fun h2 h₁ a' _ _ => SrtO.ints_sortable hi h2) fun out h1 h2 => ?_
  obtain ⟨k1, k2, k3⟩ := SrtO.ints_out hi h1 h2
  obtain ⟨ep, he'⟩ := PyProof.Rows.sortedAll_at s.heap its out.toArray
  have hlen : ((out.map SrtO.iv).map V.int).length ≤ sizeLine := by
    rw [List.length_map, k2.length_eq]
    rw [List.length_map] at hz
    exact hz
  exact ⟨.ref _, upd H (s.heap.objs.size + 1) (.lst ((out.map SrtO.iv).map V.int)), I.laid (t' := s.toks) (fun _ _ => PyProof.Rows.sortedAll_old) (Nat.le_succ _) ⟨hlen, out, ep, vals_of_ints k1, he'⟩, rfl, q _ _ k2 k3 (I.hok.fresh (Nat.le_succ _))⟩
def rSortedS2 (K : PySem.W.Frag) : List V → Hp → VK → Prop := fun vs H Q => rSortedI K vs H Q ∨ rSortedIT K vs H Q
theorem cr_sortedS2 : CallR X (.builtin "sorted") (rSortedS2 X.K) := by
  intro pins s σ H vs us Q I r h
  rcases h with h | h
  · exact cr_sortedI pins s σ H vs us Q I r h
  · exact cr_sortedIT pins s σ H vs us Q I r h
theorem mt_tup_indexI : MtR X "tuple.index" (fun x xs H Q => ∃ p, ∃ ys : List Int, ∃ z j, x = .ref p ∧ xs = [.int z] ∧ SqT X.K H p (ys.map V.int) ∧ ys[j]? = some z ∧ (∀ m, m < j → ys[m]? ≠ some z) ∧ Q (.int (j : Nat)) H) := by
  intro pins s σ H x xs v us Q I rx rs h
  obtain ⟨p, ys, z, j, rfl, rfl, hq, hy, hno, q⟩ := h
  cases rx
  obtain ⟨u, rfl, t, rfl⟩ := vals1 rs
  obtain ⟨its, r, pl, hz⟩ := I.tuple hq
  obtain ⟨⟨cls, dd, dt, sl⟩, ho, hc, n, hd⟩ := pl
  simp only at hc hd
  subst hc
  subst hd
  have hl : its.toArray.size = ys.length := by rw [List.size_toArray, ← r.length, List.length_map]
  have hj : j < its.toArray.size := by rw [hl]; exact (List.getElem?_eq_some_iff.mp hy).1
  have at' : ∀ (m : Nat) (hm : m < its.toArray.size), ∃ y t', ys[m]? = some y ∧ its.toArray[m] = Value.int y t' := fun m hm => by
    have hm' : m < ys.length := by rw [← hl]; exact hm
    obtain ⟨w, hw, t', hw'⟩ := r.get (i := m) (x := .int ys[m]) (by simp [hm'])
    refine ⟨ys[m], t', List.getElem?_eq_getElem hm', ?_⟩
    have e := (List.getElem?_eq_some_iff.mp hw).2
    rw [← hw', ← e]
    simp
  have flat : ∀ ys : List Int, (ys.map V.int).all flatV = true := fun ys => by
    induction ys with
    | nil => rfl
    | cons a b ih => rw [List.map_cons, List.all_cons, ih]; rfl
  refine call_meets PySem.F.slot_tuple_index ⟨_, ho, rfl⟩ PySem.F.entry_tuple_index (PySem.F.args_tuple_index_2 _ _) (TI.tuple_indexAt p its.toArray n dd sl (.int z t) (eqU (.int z)) j hj ?_ ?_)
    ⟨ho, fun w hw => mem_eqAt (x := .int z) ⟨t, rfl⟩ rfl r (flat ys) w (by simpa using hw), ⟨.int (j : Nat), H, I.tok _, ⟨_, rfl⟩, q⟩⟩
  · obtain ⟨y, t', h1, h2⟩ := at' j hj
    rw [hy] at h1
    cases h1
    rw [h2]
    show (z == z) = true
    exact beq_self_eq_true z
  · intro m hm hmj
    obtain ⟨y, t', h1, h2⟩ := at' m hm
    rw [h2]
    show (y == z) = false
    exact beq_eq_false_iff_ne.mpr fun e => hno m hmj (by rw [h1, e])
end
end L2
set_option maxRecDepth 100000
set_option maxHeartbeats 4000000
namespace HT
open PySem PySem.Spec PyProof.Rows
section
variable {prog : Program} {w : World} {A : Around} {E : Value → Shared → Prop} {s : Shared}
theorem tt_adjust_rev (n : Nat) : Builtin.Slice.sliceAdjust none none (-1) (n : Int) = ((n : Int) - 1, -1) := by
  unfold Builtin.Slice.sliceAdjust
  simp only [show (-1 : Int) < 0 by decide, if_true]
theorem tt_places_rev (n : Nat) : Builtin.Slice.slicePlaces ((n : Int) - 1) (-1) (-1) = n := by
  unfold Builtin.Slice.slicePlaces
  simp only [show ¬ ((-1 : Int) > 0) by decide, if_false, Int.neg_neg, Int.ediv_one]
  split <;> omega
theorem tt_applied_rev {sl : Addr} {vs : Value} {n : Nat} {Q : Int × Int × Nat → Shared → Prop} (hs : s.heap.IsSliceOf sl .none .none vs) (ps : IsPart vs (some (-1)))
    (h : Q ((n : Int) - 1, -1, n) s) : wpAny (model prog w) A (Builtin.Slice.sliceApplied (.ref sl) (pure (n : Int))) Q E s := by
  obtain ⟨os, hos, hcs, hds⟩ := id hs
  unfold Builtin.Slice.sliceApplied Builtin.Slice.sliceFields
  refine wpAny_bind (wpAny_bind (wpAny_field hos hds (x := .none) rfl (wpAny_bind (wpAny_field hos hds (x := .none) rfl (wpAny_bind (wpAny_field hos hds (x := vs) rfl (wpAny_pure ?_)))))))
  refine wpAny_bind (slicePart_ ps ?_)
  show wpAny _ _ (if ((-1 : Int) == 0) = true then _ else _) _ _ s
  rw [if_neg (by decide)]
  refine wpAny_bind (slicePart_ .none (wpAny_bind (slicePart_ .none (wpAny_bind (wpAny_pure ?_)))))
  show wpAny _ _ (match Builtin.Slice.sliceAdjust none none (-1) (n : Int) with | (lo, hi) => pure (lo, (-1 : Int), Builtin.Slice.slicePlaces lo hi (-1))) _ _ s
  rw [tt_adjust_rev n]
  show wpAny _ _ (pure ((n : Int) - 1, (-1 : Int), Builtin.Slice.slicePlaces ((n : Int) - 1) (-1) (-1))) _ _ s
  rw [tt_places_rev n]
  exact wpAny_pure h
theorem tt_fm {α β : Type} {f g : α → Option β} : ∀ {l : List α}, (∀ x ∈ l, f x = g x) → l.filterMap f = l.filterMap g
  | [], _ => rfl
  | a :: l, h => by
    rw [List.filterMap_cons, List.filterMap_cons, h a List.mem_cons_self, tt_fm fun x hx => h x (List.mem_cons_of_mem _ hx)]
theorem tt_pick_rev (xs : Array Value) : ((List.range xs.size).filterMap fun (m : Nat) => xs[(((xs.size : Int) - 1) + (m : Int) * (-1)).toNat]?).toArray = xs.toList.reverse.toArray := by
  have e : (List.range xs.size).filterMap (fun (m : Nat) => xs[(((xs.size : Int) - 1) + (m : Int) * (-1)).toNat]?) = xs.toList.reverse := by
    have h1 : ∀ m ∈ List.range xs.size, xs[(((xs.size : Int) - 1) + (m : Int) * (-1)).toNat]? = some (xs.toList.reverse.getD m .none) := fun m hm => by
      have hm := List.mem_range.mp hm
      have e1 : (((xs.size : Int) - 1) + (m : Int) * (-1)).toNat = xs.size - 1 - m := by omega
      rw [e1, List.getD_eq_getElem?_getD, List.getElem?_reverse (by simpa using hm)]
      have e2 : xs.size - 1 - m < xs.size := by omega
      simp [e2]
    have h2 : (List.range xs.size).filterMap (fun (m : Nat) => xs[(((xs.size : Int) - 1) + (m : Int) * (-1)).toNat]?) = (List.range xs.size).map fun m => xs.toList.reverse.getD m .none := by
      rw [← List.filterMap_eq_map]
      exact tt_fm h1
    rw [h2]
    refine List.ext_getElem? fun i => ?_
    rw [List.getElem?_map]
    by_cases hi : i < xs.size
    · rw [List.getElem?_range hi]
      have : i < xs.toList.reverse.length := by simpa using hi
      rw [List.getElem?_eq_getElem this]
      simp [List.getD_eq_getElem?_getD, List.getElem?_eq_getElem this]
    · rw [List.getElem?_eq_none (by simpa using hi), List.getElem?_eq_none (by simpa using hi)]
      rfl
  rw [e]
theorem tt_getItem_tuple_rev {t sl : Addr} {items : Array Value} {vs : Value} {Q : Value → Shared → Prop} (ht : IsTup s.heap t items) (hs : s.heap.IsSliceOf sl .none .none vs) (ps : IsPart vs (some (-1)))
    (h : Q (.ref s.heap.objs.size) { s with heap := s.heap.push { cls := .type "tuple", data := .seq items.toList.reverse.toArray } })
    (hsz : items.size ≤ sizeLine) : wpAny (model prog w) A (getItem (.ref t) (.ref sl)) Q E s := by
  have htake : sizeOk (.seq items.toList.reverse.toArray) := by
    show items.toList.reverse.toArray.size ≤ sizeLine
    rw [List.size_toArray, List.length_reverse, Array.length_toList]
    exact hsz
  obtain ⟨os, hos, hcs, hds⟩ := id hs
  have hTs : s.TypeIs (.ref sl) "slice" := ⟨os, hos, hcs⟩
  unfold getItem
  try with_reducible refine wpAny_holding ?_
  first | refine wpAny_bind (wpAny_pure ?_) | skip
  refine wpAny_bind (wpAny_sequenceKey ht.typeIs (by decide) ?_)
  refine wpAny_bind (wpAny_callSpecial?_slot (name := Str.ofString "__getitem__") ht.typeIs PyProof.Rows.slot_tuple_getitem
    (wpAny_call_entry PyProof.Rows.slot_tuple_getitem ht.typeIs entry_tuple_getitem ?_ (args_tuple_getitem _ _)))
  show wpAny _ _ (Builtin.Tuple.tupleItemsOf (.ref t) >>= _) _ _ s
  refine wpAny_bind (tupleItemsOf_ ht ?_)
  refine wpAny_bind (wpAny_typeOf hTs ?_)
  rw [if_pos (by decide)]
  refine wpAny_bind (tt_applied_rev hs ps ?_)
  have hno : ¬ (((items.size : Int) - 1 == 0 && (-1 : Int) == 1 && items.size == items.size) = true) := by
    intro q
    rw [Bool.and_eq_true, Bool.and_eq_true] at q
    exact absurd q.1.2 (by decide)
  show wpAny _ _ (if ((items.size : Int) - 1 == 0 && (-1 : Int) == 1 && items.size == items.size) = true then _ else _) _ _ s
  rw [if_neg hno, tt_pick_rev]
  first
    | exact wpAny_bind (m := Builtin.Tuple.tupleExact _) (wpAny_newObj_type (wpAny_pure ⟨_, rfl, wpAny_pure h⟩) htake)
    | exact wpAny_bind (m := Builtin.Tuple.tupleExact _) (wpAny_newObj_type (wpAny_bind (wpAny_pure (wpAny_pure ⟨_, rfl, wpAny_pure h⟩))) htake)
    | exact wpAny_bind (wpAny_bind (m := Builtin.Tuple.tupleExact _) (wpAny_newObj_type (wpAny_pure (wpAny_pure ⟨_, rfl, wpAny_pure h⟩)) htake))
    | exact wpAny_bind (wpAny_bind (m := Builtin.Tuple.tupleExact _) (wpAny_newObj_type (wpAny_pure ⟨_, rfl, wpAny_pure h⟩) htake))
end
end HT
namespace L2
open PySem PySem.Spec PyProof.Rows
section
variable {X : Cx}
def tRevT (K : PySem.W.Frag) (te : TE) : TE := fun σ H Q => te σ H fun x H1 => ∃ a xs, x = .ref a ∧ SqT K H1 a xs ∧ ∀ p, H1 p = none → Q (.ref p) (upd H1 p (.tup xs.reverse))
theorem pe_revT {e : Expr} {te : TE} {k : Nat} {p1 p2 p3 pos : Pos} (he : PE X e te) : PE X (.Subscript e (.Slice none none (some (.UnaryOp .USub (.Constant (.int 1) k p1) p2)) p3) pos) (tRevT X.K te) := by
  refine ⟨fun pins s σ H Q I h => ?_⟩
  refine Subscript_ (thn (he.run pins s σ H _ I h) fun v s1 ⟨x, H1, I1, r1, q1⟩ => ?_)
  obtain ⟨a, xs, ex, hx, q⟩ := q1
  subst ex
  cases r1
  have hst : PO X (some (.UnaryOp .USub (.Constant (.int 1) k p1) p2)) (tPart (tUn (rU fun i => .int (-i)) (tC (.int 1)))) := po_some (pe_un un_neg pe_int)
  refine wpAny_Slice (wpAny_pure ?_)
  refine wpAny_pure ?_
  refine thn (hst.run pins s1 σ H1 (fun o H4 => o = some (-1) ∧ H4 = H1) I1 ⟨1, rfl, -1, rfl, rfl, rfl⟩) fun vs s4 ⟨o, H4, I4, ps, eo, e4⟩ => ?_
  subst eo e4
  have I5 : Inv X pins σ H4 { s4 with heap := s4.heap.push { cls := .type "slice", data := .fields #[.none, .none, vs] } } := I4.kept (t' := s4.toks) fun b ob q => Heap.get?_push_of_some _ q
  obtain ⟨its, r, ht, hz⟩ := I5.tuple hx
  have hlen := r.length
  show wpAny (model X.prog X.w) X.A (subscriptTail e (.Slice none none (some (.UnaryOp .USub (.Constant (.int 1) k p1) p2)) p3) (.ref a) (.ref s4.heap.objs.size)) (EP X pins σ Q) X.xe { s4 with heap := s4.heap.push { cls := .type "slice", data := .fields #[.none, .none, vs] } }
  refine tail_any (ops := [.ref a, .ref s4.heap.objs.size]) ht.typeIs (PyProof.Rows.slot_tuple_getitem.lookup) ?_ (by with_unfolding_all rfl)
  refine HT.tt_getItem_tuple_rev ht (Heap.IsSliceOf.new _ .none .none vs) ps ?_ (by rw [List.size_toArray]; omega)
  refine ⟨.ref _, _, I5.laid (t' := s4.toks) (o := .tup xs.reverse) (fun b ob q => Heap.get?_push_of_some _ q) (Nat.le_refl _) ?_, rfl, q _ (I5.hok.fresh (Nat.le_refl _))⟩
  exact ⟨by rw [List.length_reverse]; exact hz, _, r.reverse, IsTup.new _ _⟩
end
section
variable {X : Cx} {K : PySem.W.Frag}
theorem ix_listK (h : X.K = K) : IxR X (rIxL K) := by subst h; exact ix_list
theorem ix_tupK (h : X.K = K) : IxR X (rIxT K) := by subst h; exact ix_tup
theorem call_len_seqK (h : X.K = K) : CallR X (.builtin "len") (fun xs H Q => ∃ p ys, xs = [.ref p] ∧ (SqL K H p ys ∨ SqT K H p ys) ∧ Q (.int ys.length) H) := by subst h; exact call_len_seq
theorem op_in_seqK (h : X.K = K) : OpR X (compareOp .In) (rIn K false) := by subst h; exact op_in_seq
theorem op_notIn_seqK (h : X.K = K) : OpR X (compareOp .NotIn) (rIn K true) := by subst h; exact op_notIn_seq
theorem op_eqDK (h : X.K = K) (hu : X.A.units + 64 < cLine) : OpR X (compareOp .Eq) (rEqD K) := by subst h; exact op_eqD hu
theorem op_neDK (h : X.K = K) (hu : X.A.units + 64 < cLine) : OpR X (compareOp .NotEq) (rNeD K) := by subst h; exact op_neD hu
theorem op_catAK (h : X.K = K) : OpR X (binaryOp .Add) (rCatA K) := by subst h; exact op_catA
theorem sl_listK (h : X.K = K) : SlR X (rSlL K) := by subst h; exact sl_list
theorem sl_tupAK (h : X.K = K) : SlR X (rSlA K) := by subst h; exact sl_tupA
theorem call_tuple_ofK (h : X.K = K) : CallR X (.type "tuple") (fun xs H Q => ∃ p ys, xs = [.ref p] ∧ ((SqL K H p ys ∧ ∀ l, H l = none → Q (.ref l) (upd H l (.tup ys))) ∨ (SqT K H p ys ∧ Q (.ref p) H))) := by subst h; exact call_tuple_of
theorem call_list_ofK (h : X.K = K) : CallR X (.type "list") (fun xs H Q => ∃ p ys, xs = [.ref p] ∧ (SqL K H p ys ∨ SqT K H p ys) ∧ ∀ l, H l = none → Q (.ref l) (upd H l (.lst ys))) := by subst h; exact call_list_of
theorem call_type1K (h : X.K = K) : CallR X (.type "type") (rTyp K) := by subst h; exact call_type1
theorem pe_fldK {e : Expr} {ta : TE} {f : Str} {pos : Pos} (h : X.K = K) (he : PE X e ta) (hb : attributeBase e f X.env (eval e X.env) = eval e X.env) : PE X (.Attribute e f pos) (tFld K ta f) := by subst h; exact pe_fld he hb
theorem mt_tup_indexIK (h : X.K = K) : MtR X "tuple.index" (fun x xs H Q => ∃ p, ∃ ys : List Int, ∃ z j, x = .ref p ∧ xs = [.int z] ∧ SqT K H p (ys.map V.int) ∧ ys[j]? = some z ∧ (∀ m, m < j → ys[m]? ≠ some z) ∧ Q (.int (j : Nat)) H) := by subst h; exact mt_tup_indexI
theorem pe_bmK {T name id : String} {r : V → List V → Hp → VK → Prop} {o e : Expr} {es : List Expr} {to : TE} {t : TA} {apos cpos : Pos} (hk : X.K = K) (pa : PlainAttrs T) (slot : Slot T name id) (hty : typeOf (.builtin id) = pure (.type "method_descriptor")) (hm : MtR X id r) (ho : PE X o to) (ha : PA X (e :: es) t)
    (hbase : attributeBase o name X.env (eval o X.env) = eval o X.env := by rfl)
    (hfew : ((backTo cpos (starEach (e :: es) X.env)).all (fun x => !x.1) && (backToKw cpos (keywordEach [] X.env)).all (fun x => x.1.isSome)
      && decide ((e :: es).length + ([] : List Keyword).length + (if ([] : List Keyword).isEmpty then 0 else 1) < 30)) = true := by rfl)
    (hline : (apos.endLine == cpos.line) = true := by rfl) (hpl : (backTo cpos (starEach es X.env)).any (·.1) = false := by rfl) (hs : starEach (e :: es) X.env = (false, eval e X.env) :: starEach es X.env := by rfl) :
    PE X (.Call (.Attribute o name apos) (e :: es) [] cpos) (tBM K T r to t) := by
  subst hk
  first
    | exact pe_bm pa slot hty hm ho ha hbase hfew hline hpl hs
    | exact pe_bm pa slot hty hm ho ha hbase hfew hline hs hpl
    | exact pe_bm pa slot hty hm ho ha hbase hfew hline
    | exact pe_bm pa slot hty hm ho ha
end
end L2
set_option maxRecDepth 100000
set_option maxHeartbeats 4000000
namespace PySem.W
open PySem PySem.Spec PySem.Calls PyProof.Rows
section
variable {prog : Program} {w : World} {A : Around} {E : Value → Shared → Prop} {s : Shared} {K : Frag} {x D : Addr} {ox : Obj}
theorem tt_findObj_data {C : Addr} {od : Option Obj} {name : Str} {a g : Value} (hc : (clsIn K C).isSome = true) (ha : findIn K (.ref C) name = some (some a)) (hg : specialIn K a "__get__" = some (some g)) (ht : takesIn K a = some true) : findObj K C od name = some (.bind g a) := by
  obtain ⟨cd, hc⟩ := Option.isSome_iff_exists.mp hc
  unfold findObj
  rw [hc, Option.bind_some, ha, Option.bind_some]
  simp [hg, ht]
theorem tt_kin_classE {od : Option Obj} {Q : Option Value → Shared → Prop} (hga : findIn K (.ref D) "__getattribute__" = some (some (.builtin "BaseException.__getattribute__"))) (hgt : findIn K (.ref D) "__getattr__" = some none) (hsub : subIn K (.ref D) (.type "BaseException") = some true)
    (hdct : hasDictIn K D = true) (ha : findIn K (.ref D) "__class__" = some (some (.builtin "object.__class__")))
    (hn : specialIn K (.builtin "object.__class__") "__get__" = some (some (.builtin "getset_descriptor.__get__"))) (htk : takesIn K (.builtin "object.__class__") = some true) (hm : mroIn K D (.type "object") = some true)
    (X : K.In s.heap) (I : InstAt s.heap x ox D od) (h : Q (some (.ref D)) { s with toks := s.toks + 1 }) : wpAny (model prog w) A (getAttr? (.ref x) "__class__") Q E s := by
  have hf : findObj K D od "__class__" = some (.bind (.builtin "getset_descriptor.__get__") (.builtin "object.__class__")) := tt_findObj_data (by obtain ⟨cd, hc, _⟩ := any_some hdct; rw [hc]; rfl) ha hn htk
  obtain ⟨hp, g, d, t, os⟩ := s
  have L0 := I.type (M := model prog w)
  have L1 := looks_findIn (M := model prog w) X hga
  have L2 := looks_findIn (M := model prog w) X hgt
  have L3 := looks_find (M := model prog w) X I hf
  have sub : Looks (model prog w) hp (isInstance (.ref x) (.type "BaseException")) true := L0.andThen (looks_subIn X hsub)
  have hx0 : (false && onTheHeap (Value.builtin "BaseException.__getattribute__")) = false := rfl
  have hx2 : (Value.builtin "BaseException.__getattribute__" == Value.builtin "object.__getattribute__") = false := by decide +kernel
  have hx1 : (onTheHeap (Value.ref D) && Value.builtin "BaseException.__getattribute__" == Value.builtin "object.__getattribute__") = false := by rw [hx2]; rfl
  unfold getAttr? getAttrBy? getAttrBy
  refine wpAny_bind (wpAny_mkText (wpAny_bind (wpAny_attempt (wpAny_holding (wpAny_bind (L0.at (wpAny_bind (L1.at ?_))))))))
  show wpAny _ _ (if (onTheHeap (Value.ref D) && Value.builtin "BaseException.__getattribute__" == Value.builtin "object.__getattribute__") = true then _ else _) _ _ _
  rw [hx1, if_neg Bool.false_ne_true]
  unfold getAttrByItsOwn hookBefore
  refine wpAny_bind ?_
  rw [if_pos (show onTheHeap (Value.ref D) = true from rfl)]
  refine L2.at ?_
  refine wpAny_bind (wpAny_attempt (wpAny_holding ?_))
  unfold callGetattribute
  rw [hx0, if_neg Bool.false_ne_true]
  unfold boundAndCalled
  rw [PySem.F.excAttr_ValueError.ga.bind (.ref x)]
  refine wpAny_bind (wpAny_pure ?_)
  show wpAny _ _ (call (.builtin "BaseException.__getattribute__") [.ref x, .str "__class__" t]) _ _ _
  refine wpAny_call (codeAny_call_builtin PySem.F.excAttr_ValueError.ga.plain PySem.F.entry_bexc_ga ?_)
  refine @check_slot (model prog w) _ _ ⟨hp, g, d, t + 1, os⟩ "BaseException.__getattribute__" "BaseException" "__getattribute__" (.ref x) [.str "__class__" t] [] _ (by decide +kernel) (by decide +kernel) sub (PySem.F.args_bexc_ga (.ref x) (.str "__class__" t)) ?_
  unfold Builtin.«object.__getattribute__»
  refine wpAny_bind (wpAny_of_eq (a := ((Value.ref x : Value), [Value.str "__class__" t])) (by first | rfl | (simp only [slotArgs]; rfl)) ?_)
  refine wpAny_bind (wpAny_pure (wpAny_bind (L0.at (wpAny_bind (L3.at ?_)))))
  show wpAny _ _ (holding [Value.builtin "object.__class__"] (call (.builtin "getset_descriptor.__get__") [.builtin "object.__class__", .ref x, .ref D]) >>= ret) _ _ _
  refine wpAny_bind (wpAny_holding (wpAny_call (class_get (s := ⟨hp, g, d, t + 1, os⟩) (ox := ox) (od := od) X I hm ?_)))
  refine wpAny_pure ?_
  show wpAny _ _ (handedOut (.ref D)) _ _ _
  rw [handedOut_of (v := .ref D) rfl]
  first
    | exact wpAny_pure (wpAny_pure h)
    | exact wpAny_pure h
    | exact wpAny_pure (wpAny_bind (wpAny_pure (wpAny_pure h)))
theorem tt_kitx_exc {od : Option Obj} (hga : findIn K (.ref D) "__getattribute__" = some (some (.builtin "BaseException.__getattribute__"))) (hgt : findIn K (.ref D) "__getattr__" = some none) (hsub : subIn K (.ref D) (.type "BaseException") = some true) (hdct : hasDictIn K D = true) (ha : findIn K (.ref D) "__class__" = some (some (.builtin "object.__class__")))
    (hn : specialIn K (.builtin "object.__class__") "__get__" = some (some (.builtin "getset_descriptor.__get__"))) (htk : takesIn K (.builtin "object.__class__") = some true) (hm : mroIn K D (.type "object") = some true) :
    KitX K (.ref x) (.ref D) (fun h => InstAt h x ox D od) where
  ty := fun _ _ _ I => I.type
  it := fun _ _ X _ => by
    obtain ⟨cdD, hcD, _⟩ := any_some hdct
    unfold clsIn at hcD
    split at hcD
    · rename_i c' d' cd' sl' ho
      intro A' Q' E' s' k q
      unfold isType loadHead
      exact wpAny_bind (wpAny_loadPart (k _ _ (X _ _ ho)) (wpAny_pure q))
    · cases hcD
  ne := fun h tp dd its n sl X htp => by
    obtain ⟨cdD, hcD, _⟩ := any_some hdct
    refine Bool.eq_false_iff.mpr fun q => ?_
    have e : D = tp := Value.ref.inj (beq_iff_eq.mp q)
    subst e
    unfold clsIn at hcD
    split at hcD
    · rename_i c' d' cd' sl' ho
      have z := (X _ _ ho).symm.trans htp
      cases z
    · cases hcD
  ca := fun X I k => tt_kin_classE hga hgt hsub hdct ha hn htk hm X I k
end
end PySem.W
namespace L2
open PySem PySem.Spec PyProof.Rows
def exh (cls : Value) (d : Option Addr) (a : Addr) : HO := .ext fun h => ∃ (oe : Obj) (vs : Array Value), h.get? a = some oe ∧ Zc cls d oe ∧ oe.data = .fields vs
theorem exh_ok {P : Program} {w : World} {H : Hp} {h : Heap} {a : Addr} {cls : Value} {d : Option Addr} {oe : Obj} {vs : Array Value} (e : h.get? a = some oe) (z : Zc cls d oe) (hd : oe.data = .fields vs) : ObjOk P w H h a (exh cls d a) :=
  ⟨⟨oe, vs, e, z, hd⟩, ⟨oe, e⟩, fun _ _ ⟨o, v, q, r⟩ k => ⟨o, v, k o q, r⟩⟩
theorem exh_at {P : Program} {w : World} {H : Hp} {h : Heap} {a : Addr} {cls : Value} {d : Option Addr} (hok : HOk P w H h) (e : H a = some (exh cls d a)) : ∃ (oe : Obj) (vs : Array Value), h.get? a = some oe ∧ Zc cls d oe ∧ oe.data = .fields vs := by
  have x : ObjOk P w H h a (.ext fun h => ∃ (oe : Obj) (vs : Array Value), h.get? a = some oe ∧ Zc cls d oe ∧ oe.data = .fields vs) := hok a _ e
  exact x.1
def XdOk (H : Hp) (d : Option Addr) : Prop := d = none ∨ ∃ (dd : Addr) (fs : List (Str × V)), d = some dd ∧ H dd = some (.xd fs)
section
variable {X : Cx} {pins : List (Addr × Obj)} {σ : St} {H : Hp} {s : Shared}
theorem exh_inst {a D : Addr} {d : Option Addr} (I : Inv X pins σ H s) (e : H a = some (exh (.ref D) d a)) (hd : XdOk H d) : ∃ (oe : Obj) (od : Option Obj), PySem.W.InstAt s.heap a oe D od := by
  obtain ⟨⟨oc, odc, oda, osl⟩, vs, h1, ⟨h2, h3⟩, h4⟩ := exh_at I.hok e
  dsimp only at h2 h3 h4
  subst h2 h3 h4
  rcases hd with rfl | ⟨dd, fs, rfl, ed⟩
  · exact ⟨_, none, ⟨h1, rfl, rfl, trivial⟩⟩
  · have hx : ObjOk X.prog X.w H s.heap dd (.xd fs) := I.hok dd _ ed
    obtain ⟨mA, ⟨o, _, _, ho, _⟩, _⟩ := hx
    exact ⟨_, some o, ⟨h1, rfl, rfl, ho⟩⟩
def rIsH (K : PySem.W.Frag) : List V → Hp → VK → Prop := fun xs H Q => ∃ (a D : Addr) (d : Option Addr) (c : V) (cv : Value) (b : Bool), xs = [.ref a, c] ∧ H a = some (exh (.ref D) d a) ∧ XdOk H d ∧ ExcC K D ∧ ClsV c cv ∧ PySem.W.kitOne K (.ref D) cv = some b ∧ Q (.bl b) H
theorem call_isH : CallR X (.builtin "isinstance") (rIsH X.K) := by
  intro pins s σ H xs us Q I r h
  obtain ⟨a, D, d, c, cv, b, rfl, ea, hd, C, hc, e, q⟩ := h
  cases r with
  | cons rx rr =>
    cases rr with
    | cons rt rr =>
      cases rr
      cases rx
      have ec := hc.eq rt
      subst ec
      obtain ⟨oe, od, J⟩ := exh_inst I ea hd
      exact PySem.W.kia_one (PySem.W.tt_kitx_exc C.hg C.hk C.hs C.hd C.ha C.hn C.ht C.hm) I.kIn J e (fun z => nomatch z) fun tk => ⟨.bl b, H, I.kept (t' := tk) fun _ _ z => z, rfl, q⟩
def rIsA (K : PySem.W.Frag) : List V → Hp → VK → Prop := fun xs H Q => rIsH K xs H Q ∨ rIsi K xs H Q
theorem call_isA : CallR X (.builtin "isinstance") (rIsA X.K) := by
  intro pins s σ H xs us Q I r h
  rcases h with h | h
  · exact call_isH pins s σ H xs us Q I r h
  · exact call_isi pins s σ H xs us Q I r h
def tXfH (K : PySem.W.Frag) (n : Str) (te : TE) : TE := fun σ H Q => te σ H fun x H1 => ∃ (a C dd : Addr) (fs : List (Str × V)) (v : V), x = .ref a ∧ H1 a = some (exh (.ref C) (some dd) a) ∧ H1 dd = some (.xd fs) ∧ XfC K C ∧ PySem.W.findIn K (.ref C) n = some none ∧ fs.lookup n = some v ∧ Q v H1
theorem pe_xfH {e : Expr} {te : TE} {pos : Pos} {n : Str} (he : PE X e te) (hb : attributeBase e n X.env (eval e X.env) = eval e X.env := by rfl) :
    PE X (.Attribute e n pos) (tXfH X.K n te) := by
  refine ⟨fun pins s σ H Q I h => ?_⟩
  refine attr_of hb (thn (he.run pins s σ H _ I h) fun u s1 hh => ?_)
  obtain ⟨x, H1, I1, rx, a, C, dd, fs, v, ex, ea, ed, T, hno, l, q⟩ := hh
  subst ex
  obtain rfl : u = Value.ref a := rx
  obtain ⟨oe, vs, ha, hz, hd⟩ := exh_at I1.hok ea
  have hx : ObjOk X.prog X.w H1 s1.heap dd (.xd fs) := I1.hok dd _ ed
  obtain ⟨mA, hns, hr⟩ := hx
  obtain ⟨od, ho, hl⟩ := lookIn_ns hns
  obtain ⟨u, hu, ru⟩ := RelO.some_of (v := v) (o := mA n) (by rw [← l]; exact hr n)
  have J : PySem.W.InstAt s1.heap a oe C (some od) := ⟨ha, hz.1, by unfold PySem.W.notCls; rw [hd] <;> rfl, by rw [hz.2]; exact ho⟩
  exact HandSPX.exc_get I1.kIn J T.ga T.gg T.exC (PySem.W.findObj_own T.hdC hno rfl (by rw [hl, hu])) (handed_of ru) ⟨v, H1, I1.tok _, ru, q⟩
theorem Inv.adopt {a : Addr} {o : Obj} {φ : Heap → Prop} (I : Inv X pins σ H s) (he : s.heap.get? a = some o) (na : H a = none) (n0 : X.s_0.heap.get? a = none) (nL : a ≠ X.env.locals) (np : ∀ p ∈ X.pn ++ pins, p.1 ≠ a)
    (nc : ∀ x c, X.env.cells.lookup x = some c → c ≠ a) (ok : ObjOk X.prog X.w (upd H a (.ext φ)) s.heap a (.ext φ)) : Inv X pins σ (upd H a (.ext φ)) s := by
  refine ⟨I.ok, I.os, I.bare, ⟨I.base.keep, I.base.slot, fun b u q n hx => ?_, I.base.there, fun b xs q => ?_, fun b u v q => ?_, fun b ps q => ?_⟩, I.loc, I.cell, ?_, fun x c e => ?_, fun p hp => ?_, fun b u e => ?_, I.len⟩
  · rw [upd_ne (fun z => by rw [z, n0] at q; cases q)]
    exact I.base.free b u q n hx
  · have z := I.base.tups b xs q
    rw [upd_ne (ne_of_none z na)]
    exact z
  · have z := I.base.frzs b u v q
    rw [upd_ne (ne_of_none z na)]
    exact z
  · obtain ⟨m, z⟩ := I.base.tbls b ps q
    exact ⟨m, by rw [upd_ne (ne_of_none z na)]; exact z⟩
  · rw [upd_ne nL.symm]
    exact I.free
  · rw [upd_ne (nc x c e)]
    exact I.freeC x c e
  · obtain ⟨e1, e2, e3⟩ := I.pin p hp
    exact ⟨e1, by rw [upd_ne (np p hp)]; exact e2, e3⟩
  · by_cases hb : b = a
    · subst hb
      rw [upd_same] at e
      cases e
      exact ok
    · rw [upd_ne hb] at e
      exact (I.hok b u e).stay (fun c v _ q => q) (fun c q => by rw [upd_ne (ne_of_none q na)]; exact q) fun c xs q => by rw [upd_ne (ne_of_none q na)]; exact q
end
end L2
set_option maxRecDepth 100000
set_option maxHeartbeats 4000000
namespace L2
open PySem PySem.Spec PyProof.Rows
def wKeep (K : PySem.W.Frag) (c : Value) (i : Nat) (ts : Addr → Value → Option Addr → TS) (Wout : WX) (D : Ends) : WX := fun cls d σ H =>
  ∃ b, PySem.W.exmOne K cls c = some b ∧ (b = true → ∀ a, H a = none → ts a cls d { nx := fun σ' H' => H' a = none ∧ D.nx (σ'.set i none) (upd H' a (exh cls d a)), rt := fun _ _ => False, bk := fun _ _ => False, ct := fun _ _ => False } (σ.set i (some (.ref a))) H) ∧
    (b = false → Wout cls d σ H)
section
variable {X : Cx} {x n : Str} {c : Value} {i : Nat} {body suite : List Stmt} {b₀ : Stmt} {np pos pos' : Pos} {tb : WX → TS} {ts : Addr → Value → Option Addr → TS} {Wout : WX}
theorem ps_try_keep (hs : X.stack = X.env :: X.outer) (hf : X.env.frame = some X.env.locals) (hex : X.ex = []) (hN : X.N.Nodup) (hi : X.N[i]? = some n) (hln : X.env.kindOf n = some .local) (hc : Names X x c) (tk : Takes X Wout)
    (hb : ∀ (W : WX) (pn : List (Addr × Obj)) (xe : Value → Shared → Prop), Takes (X.tr pn xe) W → PassesOwn (model X.prog X.w) X.A X.env xe → PSs (X.tr pn xe) body (tb W))
    (hsu : ∀ (a : Addr) (oe : Obj) (cls : Value) (d : Option Addr) (pn : List (Addr × Obj)), Zc cls d oe → (∃ vs, oe.data = .fields vs) → PSs (X.suite a ((a, oe) :: pn)) (b₀ :: suite) (ts a cls d)) :
    PS X (.Try body [.ExceptHandler (some (.Name x np)) (some n) (b₀ :: suite) pos'] [] [] pos) (fun D σ H => tb (wKeep X.K c i ts Wout D) D σ H) := by
  refine ⟨fun pins s σ H D I h => ?_⟩
  have ok := I.ok
  have hfr : X.A.frames = some (X.env :: X.outer) := by rw [ok.frames, hs]
  have hloc : Loc X.env.scope n := .inl hln
  refine wpAny_Try_except ?_
  refine wpAny_mono ((hb (wKeep X.K c i ts Wout D) (X.pn ++ pins) (fun e s₁ => wpAny (model X.prog X.w) X.A (noteFrame e X.env) (fun _ s₂ => wpAny (model X.prog X.w) X.A (setFlight e none) (fun _ s₃ =>
    wpAny (model X.prog X.w) X.A (handleBy e X.env [.ExceptHandler (some (.Name x np)) (some n) (b₀ :: suite) pos']) (SP X pins D) X.xe s₃) X.xe s₂) X.xe s₁) (fun u s' xx => ?_) PassesOwn.looking).run [] s σ H D (I.toTry _) h) (fun f s1 hsp => ?_) (fun e s1 he => he)
  ·
    obtain ⟨a, B, sI, pins', σ', H', cls, d, rfl, J', nb, up, sky, na, os, ag, b, hb1, hyes, hno⟩ := xx
    have J : Inv X pins σ' H' sI := J'.ofTry ok
    have sky' : Sky B (X.env :: X.outer) a (Zc cls d) X.env.locals s'.heap := by rw [← hs]; exact sky
    show wpAny (model X.prog X.w) X.A (noteFrame (.ref a) X.env) _ _ _
    refine Sky.land Zc.steady hfr hf sky' fun h3 fl3 up3 => ?_
    have J3 : Inv X pins σ' H' { s' with heap := h3 } := J.landed nb fl3.1 (up.trans up3) os ag
    obtain ⟨oe3, vs3, he3, hz3, hd3⟩ := fl3.there
    have notFr : ∀ {h : Heap} {o : Obj} {vs : Array Value}, h.FunFrames B (X.env :: X.outer) → h.get? a = some o → o.data = .fields vs → a ∉ frs (X.env :: X.outer) := fun {h o vs} ff e dd hm => by
      obtain ⟨_, o', e', hnf⟩ := ff.mem hm
      rw [e] at e'; cases e'
      exact hnf _ dd
    have nfr := notFr fl3.2.2.1 he3 hd3
    have nL : a ≠ X.env.locals := fun z => nfr (List.mem_filterMap.mpr ⟨X.env, List.mem_cons_self, by rw [hf, z]⟩)
    have nF : a ∉ X.fs := fun hm => by
      obtain ⟨e, he, q⟩ := List.mem_filterMap.mp hm
      exact nfr (List.mem_filterMap.mpr ⟨e, List.mem_cons_of_mem _ he, q⟩)
    have nB : B.get? a = none := fl3.2.1
    have nfr' : a ∉ frs X.stack := by rw [hs]; exact nfr
    have nI : sI.heap.get? a = none := by
      cases q : sI.heap.get? a with
      | none => rfl
      | some o =>
        have z := nb a o q nfr'
        rw [nB] at z
        cases z
    have n0 : X.s_0.heap.get? a = none := by
      cases q : X.s_0.heap.get? a with
      | none => rfl
      | some o =>
        obtain ⟨o', q'⟩ := J.base.there a o q (by rw [hex]; exact fun z => nomatch z)
        rw [nI] at q'
        cases q'
    have npin : ∀ p ∈ X.pn ++ pins, p.1 ≠ a := fun p hp z => by
      obtain ⟨e, _⟩ := J.pin p hp
      rw [z, nI] at e
      cases e
    have S3 := J3.suite he3 hd3 na nL nF
    refine wpAny_handleBy_cons (codeAny_handlers_test ?_) (by intro q; cases q)
    have LT : PySem.W.Looks (model X.prog X.w) h3 (typeOf (.ref a)) cls := fun A Q E s k q => wpAny_typeOf_ref (k _ _ he3) (by rw [hz3.1]; exact q)
    have LM := PySem.W.exm_one (M := model X.prog X.w) (J3.kIn) LT hb1
    have test : ∀ {Q : Value → Shared → Prop} {E : Value → Shared → Prop}, Q c { s' with heap := h3 } → wpAny (model X.prog X.w) (X.A.mark (some (.ref a))) (eval (.Name x np) X.env) Q E { s' with heap := h3 } := fun {Q E} q => by
      obtain ⟨hg, hdbg, hm | ⟨hm, hv, hnn⟩⟩ := hc
      · exact ld_glob (X := X.suite a ((a, oe3) :: (X.pn ++ pins))) S3 hg hm q hdbg
      · exact ld_blt (X := X.suite a ((a, oe3) :: (X.pn ++ pins))) S3 hg hm hv q hnn hdbg
    refine test (LM.here ?_)
    cases b with
    | true =>
      refine codeAny_handlers_suite_as ?_
      refine HandSPX.lands_againZ fl3 fun h4 fl4 up4 => ?_
      have J4 : Inv X pins σ' H' { s' with heap := h4 } := J.landed nb fl4.1 ((up.trans up3).trans up4) os ag
      obtain ⟨oe4, vs4, he4, hz4, hd4⟩ := fl4.there
      have S4 := J4.suite he4 hd4 na nL nF
      refine store_ok (X := X.suite a ((a, oe4) :: (X.pn ++ pins))) (v := .ref a) S4 hN hi hloc rfl (fun s5 S5 => ?_) (.inr hln)
      refine wpAny_mono ((hsu a oe4 cls d (X.pn ++ pins) hz4 ⟨_, hd4⟩).run [] s5 _ H' _ S5 (hyes rfl a na)) (fun f s6 hsp => ?_) (fun _ _ z => False.elim z)
      cases f with
      | next =>
        obtain ⟨σ6, H6, S6, n6, q6⟩ := hsp
        obtain ⟨he6, _⟩ := S6.pin (a, oe4) (List.mem_append.mpr (.inl List.mem_cons_self))
        have J6 : Inv X pins σ6 H6 s6 := S6.unsuite ok
        have nc : ∀ y c, X.env.cells.lookup y = some c → c ≠ a := fun y c e z => by
          obtain ⟨v, o, ho, hv⟩ := J6.cell y c e
          rw [z, he6] at ho
          cases ho
          rw [hd4] at hv
          cases hv
        have J7 : Inv X pins σ6 (upd H6 a (exh cls d a)) s6 := J6.adopt he6 n6 n0 nL npin nc (exh_ok he6 hz4 hd4)
        exact gone_ok J7 hN hi hln fun s7 J8 => ⟨_, _, J8, q6⟩
      | brk =>
        obtain ⟨σ6, H6, S6, q6⟩ := hsp
        exact False.elim q6
      | cont =>
        obtain ⟨σ6, H6, S6, q6⟩ := hsp
        exact False.elim q6
      | ret u =>
        obtain ⟨v6, σ6, H6, S6, r6, q6⟩ := hsp
        exact False.elim q6
    | false =>
      show wpAny _ X.A (handleBy (.ref a) X.env []) _ _ _
      refine wpAny_handleBy_nil ?_
      obtain ⟨k1, k2, k3, oe, vs, T, oT, ts', he, hz, hd, h1, hr⟩ := id fl3
      unfold PySem.passOn
      refine wpAny_bind (wpAny_field he hd h1 ?_)
      rw [if_neg (show ¬ ((Value.ref T == Value.none) = true) from by simp)]
      have fin : wpAny (model X.prog X.w) X.A (setFlight (.ref a) X.env.frame) (fun _ s4 => wpAny (model X.prog X.w) X.A (throw (.ref a) : Sem Flow) (SP X pins D) X.xe s4) X.xe { s' with heap := h3 } := by
        rw [hf]
        refine HandSPX.setFlight_upZ fl3 fun h4 hh4 up4 => wpAny_throw (tk _ _ ?_)
        exact ⟨a, B, sI, pins, σ', H', cls, d, rfl, J, nb, (up.trans up3).trans up4, .inr (.inr (by rw [hs]; exact hh4)), na, os, ag, hno rfl⟩
      first
        | exact wpAny_bind (wpAny_pure (wpAny_bind fin))
        | exact wpAny_bind fin
  · cases f with
    | next =>
      obtain ⟨σ', H', J', q⟩ := hsp
      exact wpAny_execs_nil ⟨σ', H', J'.ofTry ok, q⟩
    | brk =>
      obtain ⟨σ', H', J', q⟩ := hsp
      exact ⟨σ', H', J'.ofTry ok, q⟩
    | cont =>
      obtain ⟨σ', H', J', q⟩ := hsp
      exact ⟨σ', H', J'.ofTry ok, q⟩
    | ret u =>
      obtain ⟨v, σ', H', J', r, q⟩ := hsp
      exact ⟨v, σ', H', J'.ofTry ok, r, q⟩
end
end L2
set_option maxRecDepth 100000
set_option maxHeartbeats 4000000
namespace LamX
open PySem PySem.Spec PyProof.Rows L2
section
variable {X : Cx} {pins : List (Addr × Obj)} {σ : L2.St} {H : Hp} {s : Shared}
theorem tt_act {CXg : CXT} {Eg : XK} {names : List Str} {qg : Str} {sg : Scope} {g fl co : Addr} {cdg pm ctv : Value} {ps : Arguments} {bd : Expr} {lsc : Scope} {k i : Nat} {a : Str} {pn : List (Addr × Obj)} {xe : Value → Shared → Prop} {W : WX} {Ew : L2.St → XK} {rd : XK → TE} {p1 p2 : Pos}
    (I : Inv X pins σ H s) (L : LamS X.env.scope lsc) (h1 : s.heap.get? fl = some (PySem.W.kla_obj "<lambda>" (X.env.qual ++ "<lambda>") ps bd lsc (cloFrom X.env.cells lsc.names []) pm co ctv)) (h2 : H fl = none) (h3 : fl ∉ frs X.stack)
    (noArgs : bindArgs (PySem.W.kla_fn "<lambda>" (X.env.qual ++ "<lambda>") ps bd lsc (cloFrom X.env.cells lsc.names []) pm (.ref co) ctv) ⟨[], []⟩ = pure [])
    (tk : Takes ((cxOf CXg X.prog X.w X.K X.mg X.base names qg sg g cdg X.A X.stack s H Eg).tr pn xe) W) (wish : ∀ τ cls d H', Ew τ cls d H' → W cls d τ H') (room : Room (k + 1) (X.A.deeper (envOfC qg sg s.heap.objs.size g cdg)))
    (body : ∀ (E : XK) (A : Around) (outer : List Env) (s : Shared) (H : Hp), Room k (A.deeper (lamEnv X lsc s.heap.objs.size fl co)) → PE (lamCx X A outer s H E lsc fl co) bd (rd E))
    (at_ : names[i]? = some a) (vis : Vis sg a) (n1 : (a == ("__debug__" : Str)) = false) (n2 : (a == ("__classdict__" : Str)) = false) :
    PE ((cxOf CXg X.prog X.w X.K X.mg X.base names qg sg g cdg X.A X.stack s H Eg).tr pn xe) (.Call (.Name a p1) [] [] p2)
      (fun τ G Q => τ[i]? = some (some (.ref fl)) ∧ G co = some (CodeO co (X.env.qual ++ "<lambda>")) ∧ rd (Ew τ) σ G Q) := by
  refine ⟨fun pz sz τ G Q J hyp => ?_⟩
  obtain ⟨slot, code, want⟩ := hyp
  have load := (pe_var (pos := p1) (i := i) at_ vis n1 n2).run pz sz τ G (fun v G' => v = .ref fl ∧ G' = G) J ⟨.ref fl, slot, rfl, rfl⟩
  refine wpAny_Call_Name_kw (thn load fun u s1 ⟨v, G', J1, ru, ev, eG⟩ => ?_)
  subst ev eG
  obtain rfl : u = Value.ref fl := ru
  have here : s1.heap.get? fl = some (PySem.W.kla_obj "<lambda>" (X.env.qual ++ "<lambda>") ps bd lsc (cloFrom X.env.cells lsc.names []) pm co ctv) := J1.base.keep fl _ h1 h2 h3 (fun z => nomatch (show fl ∈ ([] : List Addr) from z))
  refine PySem.W.callWith_F0 ⟨_, _, _, _, here⟩ ?_
  have since : Un (frs X.stack) [] H G' s.heap s1.heap := J1.base
  obtain ⟨⟨oc, fields, tok, ho, hf, hq⟩, _, _⟩ := J1.hok co _ code
  have run : codeAny (model X.prog X.w) (X.A.deeper (envOfC qg sg s.heap.objs.size g cdg)) (.call (.ref fl) ⟨[], []⟩) (CR (L2.CX X.prog X.w) (envOfC qg sg s.heap.objs.size g cdg :: X.stack) X.prog X.w G' s1 Q (Ew τ)) s1 := by
    refine PySem.W.kla_callFunE room.depth here rfl L.co L.gen rfl ⟨co, oc, fields, tok, rfl, ho, hf, hq⟩ ?_
    rw [noArgs]
    refine wpAny_pure (wpAny_newFunctionEnv (fun y hy => (L.own y hy).2) (fun y hy => absurd hy (by simp)) (fun h' ns but => ⟨J1.nolimit.fresh _ but, ?_⟩) L.kind)
    have stays : ∀ b o, s1.heap.get? b = some o → h'.get? b = some o := fun b o e => but.extBut b o (Nat.ne_of_lt (Heap.lt_size e)) (Heap.get?_push_of_some _ e)
    have start : Inv (lamCx X (X.A.deeper (envOfC qg sg s.heap.objs.size g cdg)) (envOfC qg sg s.heap.objs.size g cdg :: X.stack) s1 G' (Ew τ) lsc fl co) [] σ G' { s1 with heap := h', toks := s1.toks + ([] : List (Str × Value)).length } :=
      lam_start2 I L J1.env0 room.hd since ns stays
    show codeAny _ _ (.expr bd (lamEnv X lsc s1.heap.objs.size fl co)) _ _
    refine PySem.W.kla_codeExpr (wpAny_mono ((body (Ew τ) _ _ s1 G' (room.deeper _)).run [] _ _ G' Q start want) (fun v s' ⟨x, G2, J2, rx, q⟩ => ?_) fun e s' q => q)
    exact ⟨x, G2, J2.os, J2.bare, J2.base, J2.hok, rx, q⟩
  refine wpAny_call (codeAny_mono run fun r s' q => ?_)
  match r with
  | .error e => exact tk e s' (XE.of_call J1 (fun cls d G2 z => wish τ cls d G2 z) q)
  | .ok (.ret u) => exact J1.after q
  | .ok .next => exact False.elim q
  | .ok .brk => exact False.elim q
  | .ok .cont => exact False.elim q
end
def GivesToS (X : Cx) (names : List Str) (x : Str) (sg : Scope) (g : Addr) (cdg : Value) (bg : List Stmt) (a : Str) (q : Str) (TT : (XK → Hp → VK → Prop) → Hp → VK → Prop) : Prop :=
  ∀ (fl co : Addr) (s : Shared) (H : Hp) (Q : VK) (tl : XK → Hp → VK → Prop),
    (∀ (W : WX) (pn : List (Addr × Obj)) (xe : Value → Shared → Prop) (Ew : L2.St → XK) (p1 p2 : Pos), Takes ((cxOf C8.CX0 X.prog X.w X.K X.mg X.base names x sg g cdg X.A X.stack s H C8.E0).tr pn xe) W → (∀ τ cls d H', Ew τ cls d H' → W cls d τ H') →
      PE ((cxOf C8.CX0 X.prog X.w X.K X.mg X.base names x sg g cdg X.A X.stack s H C8.E0).tr pn xe) (.Call (.Name a p1) [] [] p2) (fun τ G Q => τ[0]? = some (some (.ref fl)) ∧ G co = some (CodeO co q) ∧ tl (Ew τ) G Q)) →
    H co = some (CodeO co q) → TT tl H Q →
    ∃ t, PSs (cxOf C8.CX0 X.prog X.w X.K X.mg X.base names x sg g cdg X.A X.stack s H C8.E0).nox bg t ∧ t { nx := fun _ H' => Q .non H', rt := Q } (L2.start names [.ref fl]) H
section
variable {X : Cx}
theorem tt_lamcall {T : List (Addr × Str)} {TT : (XK → Hp → VK → Prop) → Hp → VK → Prop} {x a : Str} {g c P : Addr} {k : Nat} {pg : Arguments} {bg : List Stmt} {sg : Scope} {dV kV doc pm cdv ct oc : Value} {an od : Option Addr} {osl : Array (Option Value)} {names : List Str}
    {ps : Arguments} {bd : Expr} {lsc : Scope} {t : XK → TE} {p lpos pos : Pos} (hg : Gl X x) (hm : X.mg x = some (.ref g)) (hk : PySem.W.keepIn X.K (.ref g) = true)
    (lk : X.K.lookup g = some ⟨oc, od, .func (PySem.W.fnOf x x pg bg sg dV kV doc pm an cdv ct), osl⟩) (hcg : PySem.W.codeIn X.K cdv x = true) (hb : L2.Binds X.K (PySem.W.fnOf x x pg bg sg dV kV doc pm an cdv ct) [a] []) (Sg : FnScope names [a] sg) (at_ : names[0]? = some a) (vis : Vis sg a)
    (hG : GivesToS X names x sg g cdv bg a (X.env.qual ++ "<lambda>") TT)
    (TB : TabB X.base X.mg c P) (hcode : X.env.code = .ref c) (hmT : (P, X.env.qual ++ "<lambda>") ∈ T) (hu : ∀ p ∈ T, p.1 = P → p.2 = X.env.qual ++ "<lambda>") (hr : Room (k + 2) X.A) (L : LamS X.env.scope lsc) (hdef : defaultsOf ps X.env = ([], []))
    (noArgs : ∀ (q : Str) (cl : List (Str × Addr)) (pm cv ctv : Value), bindArgs (PySem.W.kla_fn "<lambda>" q ps bd lsc cl pm cv ctv) ⟨[], []⟩ = pure [])
    (body : ∀ (A : Around) (outer : List Env) (s : Shared) (H : Hp) (E : XK) (fl co : Addr), Room k (A.deeper (lamEnv X lsc s.heap.objs.size fl co)) → PE (lamCx X A outer s H E lsc fl co) bd (t E))
    (n0 : (x == ("__debug__" : Str)) = false := by decide) (n1 : (a == ("__debug__" : Str)) = false := by decide) (n2 : (a == ("__classdict__" : Str)) = false := by decide) :
    PE X (.Call (.Name x p) [.Lambda ps bd lsc lpos] [] pos) (tLam T TT t) := by
  refine ⟨fun pins s σ H Q I hyp => ?_⟩
  obtain ⟨tabs, want⟩ := hyp
  refine wpAny_Call_Name_kw (ld_glob I hg hm ?_ n0)
  refine PySem.W.callWith_K (h₀ := X.base) I.ok.mod.kin hk ?_ (by rfl) (by rfl)
  show wpAny _ _ (spliced ((false, eval (.Lambda ps bd lsc lpos) X.env) :: backTo pos (starEach [] X.env))) _ _ s
  refine Calls.spliced_cons (lam_make2 I TB hcode hmT hu tabs hdef (L.has I.ok) fun fl co pm' ctv G s' J eN tabs' f1 f2 f3 fc => ?_)
  refine Calls.spliced_nil ⟨J.kIn, ?_⟩
  have run : codeAny (model X.prog X.w) X.A (.call (.ref g) ⟨[.ref fl], []⟩) (CR C8.CX0 X.stack X.prog X.w G s' Q C8.E0) s' := by
    refine run_ofS (N := names) (ps := [a]) (us := [.ref fl]) (vs := [.ref fl]) lk hcg Sg hr J.env0 (hb s' [.ref fl] J.kIn rfl) (.cons rfl .nil) rfl fun hr' => ?_
    obtain ⟨t', ht', hq'⟩ := hG fl co s' G Q (fun E G' Q' => t E σ G' Q') (fun W pn xe Ew p1 p2 tk wish => tt_act (i := 0) J L f1 f2 f3 (noArgs _ _ _ _ _) tk wish hr' (fun E A outer s H room => body A outer s H E fl co room) at_ vis n1 n2) fc (want G eN tabs')
    exact ⟨t', ht'.nox, hq'⟩
  refine wpAny_call (codeAny_mono run fun r s2 q => ?_)
  match r with
  | .error e => exact (show False from q).elim
  | .ok (.ret u) => exact J.after q
  | .ok .next => exact False.elim q
  | .ok .brk => exact False.elim q
  | .ok .cont => exact False.elim q
end
end LamX
set_option maxRecDepth 100000
set_option maxHeartbeats 4000000
namespace L2
open PySem PySem.Spec PyProof.Rows HT
section
variable {X : Cx} {K : PySem.W.Frag}
def FzT (H : Hp) (a : Addr) (xs : List V) : Prop := ∃ ob : Obj, H a = some (.frz ob (.tup xs)) ∧ ob.dict = none
theorem FzT.sq {H : Hp} {a : Addr} {xs : List V} (h : FzT H a xs) : SqT K H a xs := by
  obtain ⟨ob, h, _⟩ := h
  exact .inl (.inr ⟨ob, h⟩)
theorem FzT.new {H : Hp} {p : Addr} {ob : Obj} {xs : List V} (h : ob.dict = none) : FzT (upd H p (.frz ob (.tup xs))) p xs := ⟨ob, upd_same, h⟩
def NwT (H : Hp) (xs : List V) (Q : VK) : Prop := ∀ (p : Addr) (ob : Obj), H p = none → ob.dict = none → Q (.ref p) (upd H p (.frz ob (.tup xs)))
def rTupF (K : PySem.W.Frag) : List V → Hp → VK → Prop := fun xs H Q => ∃ p ys, xs = [.ref p] ∧ ((SqL K H p ys ∧ NwT H ys Q) ∨ (SqT K H p ys ∧ Q (.ref p) H))
theorem call_tuple_ofF : CallR X (.type "tuple") (rTupF X.K) := by
  intro pins s σ H xs us Q I r h
  obtain ⟨p, ys, rfl, h⟩ := h
  obtain ⟨u, rfl, rx⟩ := vals1 r
  cases rx
  rcases h with ⟨hq, q⟩ | ⟨hq, q⟩
  · obtain ⟨its, rv, pl, hz⟩ := I.list hq
    have hn := rv.length
    refine call_tuple_list pl.isList (fun h' kp => ?_) (by simp only [List.size_toArray] <;> omega)
    have J : Inv X pins σ H { s with heap := h' } := I.kept (t' := s.toks) kp
    have J2 : Inv X pins σ (upd H h'.objs.size (.frz { cls := .type "tuple", data := .seq its.toArray } (.tup ys))) { s with heap := h'.push { cls := .type "tuple", data := .seq its.toArray } } :=
      J.laid (t' := s.toks) (fun b o e => Heap.get?_push_of_some _ e) (Nat.le_refl _) ⟨Heap.get?_push_size _ rfl, hz, its, rv, IsTup.new _ _⟩
    exact ⟨.ref h'.objs.size, _, J2, rfl, q _ _ (J.hok.fresh (Nat.le_refl _)) rfl⟩
  · obtain ⟨its, rv, pl, hz⟩ := I.tuple hq
    exact call_tuple_same pl ⟨.ref p, H, I, rfl, q⟩
def rCatF (K : PySem.W.Frag) : R2 := fun x y H Q => ∃ a b xs ys, x = .ref a ∧ y = .ref b ∧ SqT K H a xs ∧ SqT K H b ys ∧ xs ≠ [] ∧ xs.length + ys.length ≤ sizeLine ∧
  (ys = [] → Q (.ref a) H) ∧ (ys ≠ [] → NwT H (xs ++ ys) Q)
theorem op_catF : OpR X (binaryOp .Add) (rCatF X.K) := by
  intro pins s σ H x y v u Q I rx ry h
  obtain ⟨a, b, xs, ys, rfl, rfl, ha, hb, hx, hz, q1, q2⟩ := h
  cases rx
  cases ry
  obtain ⟨its, r1, p1, _⟩ := I.tuple ha
  obtain ⟨its2, r2, p2, _⟩ := I.tuple hb
  refine HT.cat_tup p1 p2 (fun z => hx (r1.nil_iff.mp z)) (fun z => ⟨.ref a, H, I, rfl, q1 (r2.nil_iff.mp z)⟩) (fun z => ?_) (by rw [← r1.length, ← r2.length]; exact hz)
  refine ⟨.ref s.heap.objs.size, _, I.laid (t' := s.toks) (fun b ob q => Heap.get?_push_of_some _ q) (Nat.le_refl _) ?_, rfl, q2 (fun w => z (r2.nil_iff.mpr w)) _ { cls := .type "tuple", data := .seq (its ++ its2).toArray } (I.hok.fresh (Nat.le_refl _)) rfl⟩
  exact ⟨Heap.get?_push_size _ rfl, by rw [List.length_append]; exact hz, _, r1.append r2, IsTup.new _ _⟩
def tyF (K : PySem.W.Frag) (T : String) (x : V) (H : Hp) : Prop := tyV K T x H ∨ (T = "tuple" ∧ ∃ p xs, x = .ref p ∧ FzT H p xs)
theorem tyF_is {pins : List (Addr × Obj)} {σ : St} {H : Hp} {s : Shared} {T : String} {x : V} {v : Value} (I : Inv X pins σ H s) (r : RelV x v) (ty : tyF X.K T x H) :
    s.TypeIs v T ∧ ∀ a, v = .ref a → ∃ ob, s.heap.get? a = some ob ∧ ob.dict = none := by
  rcases ty with ty | ⟨rfl, p, xs, rfl, ob, h, hd⟩
  · exact tyV_is I r ty
  · cases r
    obtain ⟨e, _, its, _, o, e2, hc, _⟩ := (show ObjOk X.prog X.w H s.heap p (.frz ob (.tup xs)) from I.hok p _ h)
    rw [e] at e2
    cases e2
    refine ⟨⟨ob, e, hc⟩, fun a z => ?_⟩
    cases z
    exact ⟨ob, e, hd⟩
def tBMF (K : PySem.W.Frag) (T : String) (r : V → List V → Hp → VK → Prop) (to : TE) (t : TA) : TE := fun σ H Q => to σ H fun x H1 => tyF K T x H1 ∧ t σ H1 fun xs H2 => r x xs H2 Q
variable {o e : Expr} {es : List Expr} {to : TE} {t : TA} {name : Str} {apos cpos : Pos} {T id : String} {r : V → List V → Hp → VK → Prop}
theorem pe_bmF (pa : PlainAttrs T) (slot : Slot T name id) (hty : typeOf (.builtin id) = pure (.type "method_descriptor")) (hm : MtR X id r) (ho : PE X o to) (ha : PA X (e :: es) t)
    (hbase : attributeBase o name X.env (eval o X.env) = eval o X.env := by rfl)
    (hfew : ((backTo cpos (starEach (e :: es) X.env)).all (fun x => !x.1) && (backToKw cpos (keywordEach [] X.env)).all (fun x => x.1.isSome)
      && decide ((e :: es).length + ([] : List Keyword).length + (if ([] : List Keyword).isEmpty then 0 else 1) < 30)) = true := by rfl)
    (hline : (apos.endLine == cpos.line) = true := by rfl) (hs : starEach (e :: es) X.env = (false, eval e X.env) :: starEach es X.env := by rfl) (hplain : (backTo cpos (starEach es X.env)).any (·.1) = false := by rfl) :
    PE X (.Call (.Attribute o name apos) (e :: es) [] cpos) (tBMF X.K T r to t) := by
  refine ⟨fun pins s σ H Q I h => ?_⟩
  refine wpAny_Call_method_late hbase hfew hline rfl (thn (ho.run pins s σ H _ I h) fun v s1 ⟨x, H1, I1, r1, ty, q1⟩ => ?_)
  obtain ⟨h1, h2⟩ := tyF_is I1 r1 ty
  refine ⟨T, id, pa, slot, hty, h1, h2, ?_⟩
  have hA := ha.run cpos pins s1 σ H1 _ I1 q1
  rw [hs] at hA ⊢
  refine Calls.callWith_builtin (by show (false || (backTo cpos (starEach es X.env)).any (·.1)) = false; rw [hplain] <;> rfl) (Calls.evalArgs_plain ?_)
  exact thn hA fun us s2 ⟨vs, H2, I2, r2, q2⟩ => hm pins s2 σ H2 x vs v us Q I2 r1 r2 q2
theorem pe_bmFK (hk : X.K = K) (pa : PlainAttrs T) (slot : Slot T name id) (hty : typeOf (.builtin id) = pure (.type "method_descriptor")) (hm : MtR X id r) (ho : PE X o to) (ha : PA X (e :: es) t)
    (hbase : attributeBase o name X.env (eval o X.env) = eval o X.env := by rfl)
    (hfew : ((backTo cpos (starEach (e :: es) X.env)).all (fun x => !x.1) && (backToKw cpos (keywordEach [] X.env)).all (fun x => x.1.isSome)
      && decide ((e :: es).length + ([] : List Keyword).length + (if ([] : List Keyword).isEmpty then 0 else 1) < 30)) = true := by rfl)
    (hline : (apos.endLine == cpos.line) = true := by rfl) (hs : starEach (e :: es) X.env = (false, eval e X.env) :: starEach es X.env := by rfl) (hplain : (backTo cpos (starEach es X.env)).any (·.1) = false := by rfl) :
    PE X (.Call (.Attribute o name apos) (e :: es) [] cpos) (tBMF K T r to t) := by
  subst hk
  exact pe_bmF pa slot hty hm ho ha hbase hfew hline hs hplain
end
end L2
set_option maxRecDepth 100000
set_option maxHeartbeats 4000000
namespace L2
open PySem PySem.Spec PyProof.Rows
def Swaps (fd : FuncData) (a b : Str) : Prop := ∀ (s : Shared) (v u : Value), BindsTo s fd ⟨[], [(b, v), (a, u)]⟩ [(a, u), (b, v)]
theorem Fun.swaps {K : PySem.W.Frag} {x qual : Str} {st : Stmt} {f : Addr} {fd : FuncData} {a b : Str} (F : Fun K x qual st f fd)
    (h : ∀ (kV doc pm : Value) (an : Option Addr) (cdv ct v u : Value), bindArgs (PySem.W.fnOf x qual (defArgs st) (defBody st) (defScope st) .none kV doc pm an cdv ct) ⟨[], [(b, v), (a, u)]⟩ = pure [(a, u), (b, v)]) : Swaps fd a b := by
  obtain ⟨oc, od, kV, doc, pm, an, cdv, ct, osl, rfl, lk, hcd⟩ := F.ex
  exact fun s v u => BindsTo.of_eq (h kV doc pm an cdv ct v u)
def tSw (sp : Sp) (E : XK) (t1 t2 : TE) : TE := fun σ H Q => tCons t1 (tCons t2 tNil) σ H fun zs H2 => sp zs.reverse H2 Q E
section
variable {X : Cx} {CX : CXT} {k : Nat} {f : Addr} {fd : FuncData} {a b : Str} {sp : Sp} {E : XK} {x : Str} {p p1 p2 pos : Pos} {e1 e2 : Expr} {t1 t2 : TE}
theorem run_sw {pins : List (Addr × Obj)} {σ : St} {H : Hp} {s : Shared} {Q : VK} {v u : V} {v' u' : Value} (F : FnOk X.prog X.w X.K X.mg X.base CX k f fd [a, b] sp) (hr : Room k X.A) (hb : Swaps fd a b) (hx : Passes CX X E)
    (I : Inv X pins σ H s) (r1 : RelV v v') (r2 : RelV u u') (h : sp [u, v] H Q E) : wpAny (model X.prog X.w) X.A (call (.ref f) [] [(b, v'), (a, u')]) (EP X pins σ Q) X.xe s := by
  refine wpAny_call (codeAny_mono (F.run X.A X.stack s H ⟨[], [(b, v'), (a, u')]⟩ [u', v'] [u, v] Q E hr I.env0 (hb s v' u') (.cons r2 (.cons r1 .nil)) h) fun r s' hq => ?_)
  cases r with
  | error e => exact hx pins σ H s e s' I hq
  | ok fl =>
    cases fl with
    | ret u => exact I.after hq
    | next => exact False.elim hq
    | brk => exact False.elim hq
    | cont => exact False.elim hq
theorem pe_callSw (F : FnOk X.prog X.w X.K X.mg X.base CX k f fd [a, b] sp) (hr : Room k X.A) (hg : Gl X x) (hm : X.mg x = some (.ref f)) (hk : PySem.W.keepIn X.K (.ref f) = true) (hb : Swaps fd a b) (hx : Passes CX X E)
    (h1 : PE X e1 t1) (h2 : PE X e2 t2) (hdb : (x == ("__debug__" : Str)) = false := by decide)
    (hall : (backToKw pos (keywordEach [⟨some b, e1, p1⟩, ⟨some a, e2, p2⟩] X.env)).all (·.1.isSome) = true := by rfl) (hks : (backToKw pos (keywordEach [⟨some b, e1, p1⟩, ⟨some a, e2, p2⟩] X.env)).filterMap (·.1) = [b, a] := by rfl)
    (hpl : ((backTo pos (starEach [] X.env)).any (·.1) || (backToKw pos (keywordEach [⟨some b, e1, p1⟩, ⟨some a, e2, p2⟩] X.env)).any (·.1.isNone)) = false := by rfl) :
    PE X (.Call (.Name x p) [] [⟨some b, e1, p1⟩, ⟨some a, e2, p2⟩] pos) (tSw sp E t1 t2) := by
  refine ⟨fun pins s σ H Q I h => ?_⟩
  refine wpAny_Call_Name_kw (ld_glob I hg hm ?_ hdb)
  refine PySem.W.callWith_KW0 (h₀ := X.base) I.ok.mod.kin hk hall ?_ hpl
  refine thn ((pk_cons h1 (pk_cons h2 pk_nil)).run pos pins s σ H _ I h) fun ws s2 ⟨zs, H2, J, rz, q⟩ => ⟨J.kIn, ?_⟩
  rw [hks]
  have hl := F.len _ _ _ _ q
  rw [List.length_reverse] at hl
  cases rz with
  | nil => exact absurd hl (by simp)
  | cons r1 rz =>
    cases rz with
    | nil => exact absurd hl (by simp)
    | cons r2 rz =>
      cases rz with
      | nil => exact run_sw F hr hb hx J r1 r2 q
      | cons r3 rz => exact absurd hl (by simp)
end
end L2
set_option maxRecDepth 100000
set_option maxHeartbeats 4000000
namespace L2
open PySem PySem.Spec PyProof.Rows
section
variable {X : Cx}
def rShow (K : PySem.W.Frag) : List V → Hp → VK → Prop := fun xs H Q => ∃ (a : Addr) (d : PyData), xs = [.ref a] ∧ Dp K H (.ref a) d ∧ d.showable = true ∧ d.hasDict = false ∧ d.depth ≤ 60 ∧ d.shown.length ≤ sizeLine ∧ Q (.str d.shown) H
theorem call_show (hg : X.A.guards = some []) (hu : X.A.units + 64 < cLine) : CallR X (.builtin "repr") (rShow X.K) := by
  intro pins s σ H xs us Q I r h
  obtain ⟨a, d, rfl, hd, h1, h2, h3, h4, q⟩ := h
  obtain ⟨u, rfl, rx⟩ := vals1 r
  cases rx
  obtain ⟨as, rd⟩ := Dp.reads I d (.ref a) (.ref a) hd rfl
  exact repr_of_reads' rd h1 (fun z => absurd (h2.symm.trans z) (by decide)) hg (by omega) (fun b o e => e) (fun h' u tk k => ⟨.str d.shown, H, I.kept (t' := tk) k, ⟨u, rfl⟩, q⟩) h4
end
end L2
set_option maxRecDepth 100000
set_option maxHeartbeats 4000000
namespace L2
open PySem PySem.Spec PyProof.Rows
open PySem.W (alike alikeAll minD min_list_data)
def rowD (m : List Int) : PyData := .tuple (m.map PyData.int)
theorem alike_ints : ∀ a b : List Int, alikeAll (a.map PyData.int) (b.map PyData.int) = true
  | [], _ => by simp [alikeAll]
  | _ :: _, [] => by simp [alikeAll]
  | x :: a, y :: b => by
    show (alike (.int x) (.int y) && alikeAll (a.map PyData.int) (b.map PyData.int)) = true
    rw [alike_ints a b]
    rfl
theorem depth_ints : ∀ a : List Int, PyData.depthAll (a.map PyData.int) = 0
  | [] => rfl
  | x :: a => by
    show max 0 (PyData.depthAll (a.map PyData.int)) = 0
    rw [depth_ints a]
    rfl
theorem depth_rows : ∀ rs : List (List Int), PyData.depthAll (rs.map rowD) ≤ 1
  | [] => Nat.zero_le _
  | r :: rs => by
    show max (PyData.depthAll (r.map PyData.int) + 1) (PyData.depthAll (rs.map rowD)) ≤ 1
    rw [depth_ints r]
    have := depth_rows rs
    omega
theorem rowD_inj {a b : List Int} (h : rowD a = rowD b) : a = b := by
  unfold rowD at h
  injection h with h
  induction a generalizing b with
  | nil =>
    cases b with
    | nil => rfl
    | cons y b => cases h
  | cons x a ih =>
    cases b with
    | nil => cases h
    | cons y b =>
      rw [List.map_cons, List.map_cons] at h
      injection h with h1 h2
      injection h1 with h1
      rw [h1, ih h2]
theorem pair_at {α β : Type} {F : α → β → Prop} : ∀ {l : List α} {k : List β}, Paired F l k → ∀ {i : Nat} {a : α} {b : β}, l[i]? = some a → k[i]? = some b → F a b
  | _, _, .nil, i, a, b, h, _ => by simp at h
  | _, _, .cons r _, 0, a, b, h, g => by
    simp at h g
    subst h
    subst g
    exact r
  | _, _, .cons _ t, i + 1, a, b, h, g => pair_at t (by simpa using h) (by simpa using g)
section
variable {X : Cx}
theorem dpAll_intsL {K : PySem.W.Frag} (H : Hp) : ∀ ls : List Int, DpAll K H (ls.map V.int) (ls.map PyData.int)
  | [] => .nil
  | a :: l => .cons (.int a) (dpAll_intsL H l)
theorem dpAll_rows {K : PySem.W.Frag} {H : Hp} : ∀ {ps : List Addr} {rows : List (List Int)}, Paired (fun p m => SqT K H p (m.map V.int)) ps rows → DpAll K H (ps.map V.ref) (rows.map rowD)
  | _, _, .nil => .nil
  | _, _, .cons h t => .cons (.tup h (dpAll_intsL H _)) (dpAll_rows t)
def rMinT (K : PySem.W.Frag) : List V → Hp → VK → Prop := fun vs H Q => ∃ (l : Addr) (ps : List Addr) (r0 : List Int) (rs : List (List Int)), vs = [.ref l] ∧ SqL K H l (ps.map V.ref) ∧ Paired (fun p m => SqT K H p (m.map V.int)) ps (r0 :: rs) ∧
  ∀ (i : Nat) (p : Addr), ps[i]? = some p → (∀ m, (r0 :: rs)[i]? = some m → rowD m = minD (rowD r0) (rs.map rowD)) → Q (.ref p) H
theorem cr_minT (hc : X.calm = true) (hu : X.A.units + 64 < cLine) : CallR X (.builtin "min") (rMinT X.K) := by
  intro pins s σ H vs us Q I r h
  obtain ⟨l, ps, r0, rs, rfl, hs, hp, q⟩ := h
  obtain ⟨its, rv, hl, _⟩ := I.list hs
  rw [Vals.ref1 r]
  obtain ⟨as, hr⟩ := Dp.readsAll I _ _ its (dpAll_rows hp) rv
  have hd := depth_rows (r0 :: rs)
  refine min_list_data (I.ok.hd hc) hl.isList (x := rowD r0) (xs := rs.map rowD) (as := as) hr ⟨fun x hx y hy => ?_, fun x hx => ?_⟩ (by show X.A.units + 1 + PyData.depthAll ((r0 :: rs).map rowD) < cLine; omega) fun i v h' tk bs hv hm hk => ?_
  · obtain ⟨a, _, rfl⟩ := List.mem_map.mp (show x ∈ (r0 :: rs).map rowD from hx)
    obtain ⟨b, _, rfl⟩ := List.mem_map.mp (show y ∈ (r0 :: rs).map rowD from hy)
    exact alike_ints a b
  · obtain ⟨a, _, rfl⟩ := List.mem_map.mp (show x ∈ (r0 :: rs).map rowD from hx)
    exact fun z => by cases z
  · have hv' : its[i]? = some v := by simpa using hv
    have hi : i < ps.length := by
      have h1 := (List.getElem?_eq_some_iff.mp hv').1
      have h2 := rv.length
      rw [List.length_map] at h2
      omega
    obtain ⟨v2, e2, rel⟩ := rv.get (i := i) (x := V.ref ps[i]) (by simp [hi])
    rw [hv'] at e2
    cases e2
    obtain rfl : v = .ref ps[i] := rel
    refine ⟨.ref ps[i], H, I.kept (t' := tk) hk, rfl, q i ps[i] (List.getElem?_eq_getElem hi) fun m hm2 => ?_⟩
    obtain ⟨as0, r0'⟩ := Dp.reads I (rowD m) (.ref ps[i]) (.ref ps[i]) (.tup (pair_at hp (List.getElem?_eq_getElem hi) hm2) (dpAll_intsL H m)) rfl
    exact (reads_det (fun b o e _ => hk b o e) r0' hm).1.symm
end
end L2
set_option maxRecDepth 100000
set_option maxHeartbeats 4000000
namespace L2
open PySem PySem.Spec PyProof.Rows
def Swaps3 (fd : FuncData) (a b c : Str) : Prop := ∀ (s : Shared) (v u z : Value), BindsTo s fd ⟨[], [(c, v), (b, u), (a, z)]⟩ [(a, z), (b, u), (c, v)]
theorem Fun.swaps3 {K : PySem.W.Frag} {x qual : Str} {st : Stmt} {f : Addr} {fd : FuncData} {a b c : Str} (F : Fun K x qual st f fd)
    (h : ∀ (kV doc pm : Value) (an : Option Addr) (cdv ct v u z : Value), bindArgs (PySem.W.fnOf x qual (defArgs st) (defBody st) (defScope st) .none kV doc pm an cdv ct) ⟨[], [(c, v), (b, u), (a, z)]⟩ = pure [(a, z), (b, u), (c, v)]) : Swaps3 fd a b c := by
  obtain ⟨oc, od, kV, doc, pm, an, cdv, ct, osl, rfl, lk, hcd⟩ := F.ex
  exact fun s v u z => BindsTo.of_eq (h kV doc pm an cdv ct v u z)
def tSw3 (sp : Sp) (E : XK) (t1 t2 t3 : TE) : TE := fun σ H Q => tCons t1 (tCons t2 (tCons t3 tNil)) σ H fun zs H2 => sp zs.reverse H2 Q E
section
variable {X : Cx} {CX : CXT} {k : Nat} {f : Addr} {fd : FuncData} {a b c : Str} {sp : Sp} {E : XK} {x : Str} {p p1 p2 p3 pos : Pos} {e1 e2 e3 : Expr} {t1 t2 t3 : TE}
theorem run_sw3 {pins : List (Addr × Obj)} {σ : St} {H : Hp} {s : Shared} {Q : VK} {v u z : V} {v' u' z' : Value} (F : FnOk X.prog X.w X.K X.mg X.base CX k f fd [a, b, c] sp) (hr : Room k X.A) (hb : Swaps3 fd a b c) (hx : Passes CX X E)
    (I : Inv X pins σ H s) (r1 : RelV v v') (r2 : RelV u u') (r3 : RelV z z') (h : sp [z, u, v] H Q E) : wpAny (model X.prog X.w) X.A (call (.ref f) [] [(c, v'), (b, u'), (a, z')]) (EP X pins σ Q) X.xe s := by
  refine wpAny_call (codeAny_mono (F.run X.A X.stack s H ⟨[], [(c, v'), (b, u'), (a, z')]⟩ [z', u', v'] [z, u, v] Q E hr I.env0 (hb s v' u' z') (.cons r3 (.cons r2 (.cons r1 .nil))) h) fun r s' hq => ?_)
  cases r with
  | error e => exact hx pins σ H s e s' I hq
  | ok fl =>
    cases fl with
    | ret u => exact I.after hq
    | next => exact False.elim hq
    | brk => exact False.elim hq
    | cont => exact False.elim hq
theorem pe_callSw3 (F : FnOk X.prog X.w X.K X.mg X.base CX k f fd [a, b, c] sp) (hr : Room k X.A) (hg : Gl X x) (hm : X.mg x = some (.ref f)) (hk : PySem.W.keepIn X.K (.ref f) = true) (hb : Swaps3 fd a b c) (hx : Passes CX X E)
    (h1 : PE X e1 t1) (h2 : PE X e2 t2) (h3 : PE X e3 t3) (hdb : (x == ("__debug__" : Str)) = false := by decide)
    (hall : (backToKw pos (keywordEach [⟨some c, e1, p1⟩, ⟨some b, e2, p2⟩, ⟨some a, e3, p3⟩] X.env)).all (·.1.isSome) = true := by rfl) (hks : (backToKw pos (keywordEach [⟨some c, e1, p1⟩, ⟨some b, e2, p2⟩, ⟨some a, e3, p3⟩] X.env)).filterMap (·.1) = [c, b, a] := by rfl)
    (hpl : ((backTo pos (starEach [] X.env)).any (·.1) || (backToKw pos (keywordEach [⟨some c, e1, p1⟩, ⟨some b, e2, p2⟩, ⟨some a, e3, p3⟩] X.env)).any (·.1.isNone)) = false := by rfl) :
    PE X (.Call (.Name x p) [] [⟨some c, e1, p1⟩, ⟨some b, e2, p2⟩, ⟨some a, e3, p3⟩] pos) (tSw3 sp E t1 t2 t3) := by
  refine ⟨fun pins s σ H Q I h => ?_⟩
  refine wpAny_Call_Name_kw (ld_glob I hg hm ?_ hdb)
  refine PySem.W.callWith_KW0 (h₀ := X.base) I.ok.mod.kin hk hall ?_ hpl
  refine thn ((pk_cons h1 (pk_cons h2 (pk_cons h3 pk_nil))).run pos pins s σ H _ I h) fun ws s2 ⟨zs, H2, J, rz, q⟩ => ⟨J.kIn, ?_⟩
  rw [hks]
  have hl := F.len _ _ _ _ q
  rw [List.length_reverse] at hl
  cases rz with
  | nil => exact absurd hl (by simp)
  | cons r1 rz =>
    cases rz with
    | nil => exact absurd hl (by simp)
    | cons r2 rz =>
      cases rz with
      | nil => exact absurd hl (by simp)
      | cons r3 rz =>
        cases rz with
        | nil => exact run_sw3 F hr hb hx J r1 r2 r3 q
        | cons r4 rz => exact absurd hl (by simp)
end
end L2
namespace Wd
def mate (x : Int) : Int := if x % 2 = 0 then x + 1 else x - 1
theorem mate_mate (x : Int) : mate (mate x) = x := by unfold mate; split <;> split <;> omega
theorem mate_eq {a b : Int} : b = mate a ↔ a = mate b := ⟨fun h => by rw [h, mate_mate], fun h => by rw [h, mate_mate]⟩
theorem mate_range {n x : Int} (h0 : 0 ≤ x) (h1 : x < 2 * n) : 0 ≤ mate x ∧ mate x < 2 * n := by unfold mate; split <;> omega
def push (st : List Int) (x : Int) : List Int := if st.getLast? = some (mate x) then st.dropLast else st ++ [x]
def freed (w : List Int) : List Int := w.foldl push []
def undo (w : List Int) : List Int := w.reverse.map mate
def Rd (st : List Int) : Prop := ∀ i a b, st[i]? = some a → st[i + 1]? = some b → b ≠ mate a
theorem rd_nil : Rd [] := fun i a b h => by simp at h
theorem last_get {st : List Int} {a : Int} : st.getLast? = some a ↔ st ≠ [] ∧ st[st.length - 1]? = some a := by
  rw [List.getLast?_eq_getElem?]
  constructor
  · intro h
    refine ⟨fun e => ?_, h⟩
    subst e
    simp at h
  · exact fun h => h.2
theorem rd_push {st : List Int} {x : Int} (h : Rd st) : Rd (push st x) := by
  unfold push
  split
  · intro i a b h1 h2
    have e1 : i + 1 < st.dropLast.length := (List.getElem?_eq_some_iff.mp h2).1
    rw [List.length_dropLast] at e1
    rw [List.getElem?_dropLast, if_pos (by omega)] at h1
    rw [List.getElem?_dropLast, if_pos (by omega)] at h2
    exact h i a b h1 h2
  · rename_i hn
    intro i a b h1 h2
    have e1 : i + 1 < (st ++ [x]).length := (List.getElem?_eq_some_iff.mp h2).1
    rw [List.length_append, List.length_singleton] at e1
    by_cases hi : i + 1 < st.length
    · rw [List.getElem?_append_left (by omega)] at h1
      rw [List.getElem?_append_left hi] at h2
      exact h i a b h1 h2
    · have ei : i + 1 = st.length := by omega
      rw [List.getElem?_append_left (by omega)] at h1
      rw [List.getElem?_append_right (by omega)] at h2
      have e0 : i + 1 - st.length = 0 := by omega
      rw [e0] at h2
      have hb : x = b := by simpa using h2
      subst hb
      intro z
      apply hn
      rw [last_get]
      refine ⟨fun e => by rw [e] at ei; simp at ei, ?_⟩
      have e2 : st.length - 1 = i := by omega
      rw [e2, h1, mate_eq.mp z]
theorem snoc_of_last {st : List Int} {a : Int} (h : st.getLast? = some a) : st.dropLast ++ [a] = st := by
  have hne := (last_get.mp h).1
  have e := List.dropLast_concat_getLast hne
  have e2 : st.getLast hne = a := by
    rw [List.getLast?_eq_some_getLast hne] at h
    exact Option.some.inj h
  rw [e2] at e
  exact e
theorem push_push {st : List Int} {x : Int} (h : Rd st) : push (push st (mate x)) x = st := by
  unfold push
  split
  · rename_i h1
    rw [mate_mate] at h1
    have e := snoc_of_last h1
    have n : ¬ st.dropLast.getLast? = some (mate x) := by
      intro z
      obtain ⟨z1, z2⟩ := last_get.mp z
      have l0 : 0 < st.dropLast.length := List.length_pos_iff.mpr z1
      have hl : st.dropLast.length = st.length - 1 := List.length_dropLast
      have g1 : st[st.dropLast.length - 1]? = some (mate x) := by
        rw [← z2, List.getElem?_dropLast, if_pos (by omega)]
      have g2 : st[st.dropLast.length - 1 + 1]? = some x := by
        have := (last_get.mp h1).2
        have e3 : st.dropLast.length - 1 + 1 = st.length - 1 := by omega
        rw [e3]
        exact this
      exact h _ _ _ g1 g2 (mate_mate x).symm
    rw [if_neg n, e]
  · rename_i h1
    rw [if_pos (by simp), List.dropLast_concat]
theorem rd_fold : ∀ (w : List Int) {st : List Int}, Rd st → Rd (w.foldl push st)
  | [], _, h => h
  | a :: w, _, h => rd_fold w (rd_push h)
theorem snoc_ind {P : List Int → Prop} (h0 : P []) (h1 : ∀ l a, P l → P (l ++ [a])) (l : List Int) : P l := by
  have h : ∀ r : List Int, P r.reverse := by
    intro r
    induction r with
    | nil => exact h0
    | cons a r ih => rw [List.reverse_cons]; exact h1 _ _ ih
  have := h l.reverse
  rwa [List.reverse_reverse] at this
theorem fold_freed {st : List Int} (h : Rd st) (b : List Int) : b.foldl push st = (freed b).foldl push st := by
  induction b using snoc_ind with
  | h0 => rfl
  | h1 l a ih =>
    have e : freed (l ++ [a]) = push (freed l) a := by unfold freed; rw [List.foldl_append]; rfl
    rw [e, List.foldl_append, ih]
    show push ((freed l).foldl push st) a = _
    by_cases c : (freed l).getLast? = some (mate a)
    · have e2 := snoc_of_last c
      unfold push
      rw [if_pos c]
      show push ((freed l).foldl push st) a = _
      conv => lhs; rw [← e2, List.foldl_append]
      exact push_push (rd_fold _ h)
    · have e2 : push (freed l) a = freed l ++ [a] := by unfold push; rw [if_neg c]
      rw [e2, List.foldl_append]
      rfl
theorem rd_freed (w : List Int) : Rd (freed w) := rd_fold w rd_nil
theorem freed_freed (w : List Int) : freed (freed w) = freed w := (fold_freed rd_nil w).symm
theorem freed_app (a b : List Int) : freed (a ++ b) = freed (freed a ++ freed b) := by
  have e1 : freed (a ++ b) = (freed b).foldl push (freed a) := by
    unfold freed
    rw [List.foldl_append]
    exact fold_freed (rd_fold a rd_nil) b
  have e2 : freed (freed a ++ freed b) = (freed b).foldl push (freed a) := by
    show (freed a ++ freed b).foldl push [] = _
    rw [List.foldl_append]
    show (freed b).foldl push (freed (freed a)) = _
    rw [freed_freed]
  rw [e1, e2]
theorem undo_cons (a : Int) (w : List Int) : undo (a :: w) = undo w ++ [mate a] := by
  unfold undo
  rw [List.reverse_cons, List.map_append]
  rfl
theorem fold_undo : ∀ (w : List Int) {st : List Int}, Rd st → (w ++ undo w).foldl push st = st
  | [], _, _ => rfl
  | a :: w, st, h => by
    rw [undo_cons, List.cons_append, List.foldl_cons, ← List.append_assoc, List.foldl_append, fold_undo w (rd_push h)]
    show push (push st a) (mate a) = st
    have := push_push (x := mate a) h
    rw [mate_mate] at this
    exact this
theorem freed_undo (w : List Int) : freed (w ++ undo w) = [] := fold_undo w rd_nil
theorem freed_cut (u v : List Int) (b : Int) : freed (u ++ mate b :: b :: v) = freed (u ++ v) := by
  unfold freed
  rw [List.foldl_append, List.foldl_append, List.foldl_cons, List.foldl_cons, push_push (rd_fold u rd_nil)]
theorem freed_of_rd (w : List Int) : Rd w → freed w = w := by
  induction w using snoc_ind with
  | h0 => intro _; rfl
  | h1 l a ih =>
    intro h
    have hl : Rd l := fun i x y h1 h2 => h i x y (by rw [List.getElem?_append_left (List.getElem?_eq_some_iff.mp h1).1]; exact h1) (by rw [List.getElem?_append_left (List.getElem?_eq_some_iff.mp h2).1]; exact h2)
    have e : freed (l ++ [a]) = push (freed l) a := by unfold freed; rw [List.foldl_append]; rfl
    rw [e, ih hl]
    unfold push
    rw [if_neg]
    intro z
    obtain ⟨z1, z2⟩ := last_get.mp z
    have l0 : 0 < l.length := List.length_pos_iff.mpr z1
    refine h (l.length - 1) (mate a) a (by rw [List.getElem?_append_left (by omega)]; exact z2) ?_ (mate_mate a).symm
    have e3 : l.length - 1 + 1 = l.length := by omega
    rw [e3, List.getElem?_append_right (Nat.le_refl _)]
    simp
theorem mem_push {st : List Int} {x y : Int} (h : y ∈ push st x) : y ∈ st ∨ y = x := by
  unfold push at h
  split at h
  · exact .inl (List.dropLast_subset _ h)
  · simpa using h
theorem mem_fold : ∀ (w : List Int) {st : List Int} {y : Int}, y ∈ w.foldl push st → y ∈ st ∨ y ∈ w
  | [], _, _, h => .inl h
  | a :: w, _, y, h => by
    rcases mem_fold w h with h | h
    · rcases mem_push h with h | h
      · exact .inl h
      · exact .inr (by rw [h]; exact List.mem_cons_self)
    · exact .inr (List.mem_cons_of_mem _ h)
theorem mem_freed {w : List Int} {y : Int} (h : y ∈ freed w) : y ∈ w := by
  rcases mem_fold w h with h | h
  · cases h
  · exact h
theorem len_push (st : List Int) (x : Int) : (push st x).length ≤ st.length + 1 := by
  unfold push
  split
  · rw [List.length_dropLast]; omega
  · rw [List.length_append]; simp
theorem len_fold : ∀ (w : List Int) (st : List Int), (w.foldl push st).length ≤ st.length + w.length
  | [], _ => by simp
  | a :: w, st => by
    have h1 := len_fold w (push st a)
    have h2 := len_push st a
    rw [List.foldl_cons, List.length_cons]
    omega
theorem len_freed (w : List Int) : (freed w).length ≤ w.length := by
  have h := len_fold w []
  show (w.foldl push []).length ≤ _
  simp only [List.length_nil, Nat.zero_add] at h
  exact h
theorem freed_snoc (w : List Int) (a : Int) : freed (w ++ [a]) = push (freed w) a := by unfold freed; rw [List.foldl_append]; rfl
theorem undo_len (w : List Int) : (undo w).length = w.length := by unfold undo; rw [List.length_map, List.length_reverse]
end Wd
set_option maxRecDepth 100000
set_option maxHeartbeats 4000000
namespace L2
open PySem PySem.Spec PyProof.Rows
def Swaps1 (fd : FuncData) (a : Str) : Prop := ∀ (s : Shared) (z : Value), BindsTo s fd ⟨[], [(a, z)]⟩ [(a, z)]
theorem Fun.swaps1 {K : PySem.W.Frag} {x qual : Str} {st : Stmt} {f : Addr} {fd : FuncData} {a : Str} (F : Fun K x qual st f fd)
    (h : ∀ (kV doc pm : Value) (an : Option Addr) (cdv ct z : Value), bindArgs (PySem.W.fnOf x qual (defArgs st) (defBody st) (defScope st) .none kV doc pm an cdv ct) ⟨[], [(a, z)]⟩ = pure [(a, z)]) : Swaps1 fd a := by
  obtain ⟨oc, od, kV, doc, pm, an, cdv, ct, osl, rfl, lk, hcd⟩ := F.ex
  exact fun s z => BindsTo.of_eq (h kV doc pm an cdv ct z)
def tSw1 (sp : Sp) (E : XK) (t1 : TE) : TE := fun σ H Q => tCons t1 tNil σ H fun zs H2 => sp zs.reverse H2 Q E
section
variable {X : Cx} {CX : CXT} {k : Nat} {f : Addr} {fd : FuncData} {a : Str} {sp : Sp} {E : XK} {x : Str} {p p1 pos : Pos} {e1 : Expr} {t1 : TE}
theorem run_sw1 {pins : List (Addr × Obj)} {σ : St} {H : Hp} {s : Shared} {Q : VK} {z : V} {z' : Value} (F : FnOk X.prog X.w X.K X.mg X.base CX k f fd [a] sp) (hr : Room k X.A) (hb : Swaps1 fd a) (hx : Passes CX X E)
    (I : Inv X pins σ H s) (r1 : RelV z z') (h : sp [z] H Q E) : wpAny (model X.prog X.w) X.A (call (.ref f) [] [(a, z')]) (EP X pins σ Q) X.xe s := by
  refine wpAny_call (codeAny_mono (F.run X.A X.stack s H ⟨[], [(a, z')]⟩ [z'] [z] Q E hr I.env0 (hb s z') (.cons r1 .nil) h) fun r s' hq => ?_)
  cases r with
  | error e => exact hx pins σ H s e s' I hq
  | ok fl =>
    cases fl with
    | ret u => exact I.after hq
    | next => exact False.elim hq
    | brk => exact False.elim hq
    | cont => exact False.elim hq
theorem pe_callSw1 (F : FnOk X.prog X.w X.K X.mg X.base CX k f fd [a] sp) (hr : Room k X.A) (hg : Gl X x) (hm : X.mg x = some (.ref f)) (hk : PySem.W.keepIn X.K (.ref f) = true) (hb : Swaps1 fd a) (hx : Passes CX X E)
    (h1 : PE X e1 t1) (hdb : (x == ("__debug__" : Str)) = false := by decide)
    (hall : (backToKw pos (keywordEach [⟨some a, e1, p1⟩] X.env)).all (·.1.isSome) = true := by rfl) (hks : (backToKw pos (keywordEach [⟨some a, e1, p1⟩] X.env)).filterMap (·.1) = [a] := by rfl)
    (hpl : ((backTo pos (starEach [] X.env)).any (·.1) || (backToKw pos (keywordEach [⟨some a, e1, p1⟩] X.env)).any (·.1.isNone)) = false := by rfl) :
    PE X (.Call (.Name x p) [] [⟨some a, e1, p1⟩] pos) (tSw1 sp E t1) := by
  refine ⟨fun pins s σ H Q I h => ?_⟩
  refine wpAny_Call_Name_kw (ld_glob I hg hm ?_ hdb)
  refine PySem.W.callWith_KW0 (h₀ := X.base) I.ok.mod.kin hk hall ?_ hpl
  refine thn ((pk_cons h1 pk_nil).run pos pins s σ H _ I h) fun ws s2 ⟨zs, H2, J, rz, q⟩ => ⟨J.kIn, ?_⟩
  rw [hks]
  have hl := F.len _ _ _ _ q
  rw [List.length_reverse] at hl
  cases rz with
  | nil => exact absurd hl (by simp)
  | cons r1 rz =>
    cases rz with
    | nil => exact run_sw1 F hr hb hx J r1 q
    | cons r4 rz => exact absurd hl (by simp)
end
theorem dataLe_tups {β : Type} (x : β → List Int) : PySem.W.dataLe false (fun b => rowD (x b)) = fun p q => decide (x p ≤ x q) := by
  funext p q
  have e := congrFun (congrFun (PySem.W.dataLe_rows x) p) q
  rw [← e]
  show (!PySem.W.dataLt (.tuple ((x q).map PyData.int)) (.tuple ((x p).map PyData.int))) = !PySem.W.dataLt (.list ((x q).map PyData.int)) (.list ((x p).map PyData.int))
  rw [PySem.W.dataLt_tuple, PySem.W.dataLt_list]
def rSortT (K : PySem.W.Frag) : List V → Hp → VK → Prop := fun vs H Q => ∃ (l : Addr) (bs : List (Addr × List Int)), vs = [.ref l] ∧ SqL K H l (bs.map fun b => V.ref b.1) ∧ (∀ b ∈ bs, b.2 ≠ [] ∧ SqT K H b.1 (b.2.map V.int)) ∧
  ∀ (bs' : List (Addr × List Int)) (p : Addr), bs'.Perm bs → bs'.Pairwise (fun a b => a.2 ≤ b.2) → H p = none → Q (.ref p) (upd H p (.lst (bs'.map fun b => V.ref b.1)))
theorem each_of {R : Value → Addr × List Int → Prop} (h : ∀ b : Addr × List Int, R (.ref b.1) b) : ∀ {bs : List (Addr × List Int)} {its : List Value}, Vals (bs.map fun b => V.ref b.1) its → PySem.W.EachIs R its bs
  | [], _, r => by
    cases r
    exact .nil
  | b :: bs, _, r => by
    cases r with
    | cons r1 r2 =>
      obtain rfl := r1
      exact .cons (h b) (each_of h r2)
theorem vals_each : ∀ {bs : List (Addr × List Int)} {its : List Value}, PySem.W.EachIs (fun v (b : Addr × List Int) => v = .ref b.1) its bs → Vals (bs.map fun b => V.ref b.1) its
  | _, _, .nil => .nil
  | _, _, .cons h t => by
    subst h
    exact .cons rfl (vals_each t)
section
variable {X : Cx}
theorem cr_sortedT (hu : X.A.units + 64 < cLine) : CallR X (.builtin "sorted") (rSortT X.K) := by
  intro pins s σ H vs us Q I r h
  obtain ⟨l, bs, rfl, hs, hb, q⟩ := h
  obtain ⟨its, rv, hl, hz⟩ := I.list hs
  rw [Vals.ref1 r]
  have lb : bs.length ≤ sizeLine := by rw [List.length_map] at hz; exact hz
  refine PySem.W.sorted_data (R := fun v (b : Addr × List Int) => v = .ref b.1) (enc := fun b => rowD b.2) hl.isList (each_of (fun _ => rfl) rv) ?_ ?_ ?_ lb (fun b _ => ?_) fun out ho eo => ?_
  · have e1 : PySem.W.EachIs (fun v (b : Addr × List Int) => v = .ref b.1) its bs := each_of (fun _ => rfl) rv
    refine (PySem.W.each_mem e1).mono fun v b ⟨e, hm⟩ => ?_
    subst e
    obtain ⟨as, r2⟩ := Dp.reads I (rowD b.2) (.ref b.1) (.ref b.1) (.tup (hb b hm).2 (dpAll_intsL H b.2)) rfl
    exact ⟨as, r2⟩
  · exact PySem.W.AllAlike.of fun b b' => PySem.W.alike_ints b.2 b'.2
  · refine .inl fun d hd => ?_
    obtain ⟨b, hm, rfl⟩ := List.mem_map.mp hd
    cases e : b.2 with
    | nil => exact absurd e (hb b hm).1
    | cons x m => exact ⟨.int x, m.map PyData.int, by show rowD _ = _; first | rfl | (rw [e]; rfl)⟩
  · have hd : (rowD b.2).depth = 1 := by
      show PyData.depthAll (b.2.map PyData.int) + 1 = 1
      rw [PySem.W.depth_ints]
    rw [hd]
    omega
  · obtain ⟨ep, he'⟩ := PyProof.Rows.sortedAll_at s.heap its out.toArray
    have hp := List.mergeSort_perm bs (PySem.W.dataLe false fun b : Addr × List Int => rowD b.2)
    have hw : (bs.mergeSort (PySem.W.dataLe false fun b : Addr × List Int => rowD b.2)).Pairwise (fun a b => a.2 ≤ b.2) := by
      rw [dataLe_tups (fun b : Addr × List Int => b.2)]
      refine (List.pairwise_mergeSort (le := fun p q : Addr × List Int => decide (p.2 ≤ q.2)) (fun a b c h1 h2 => ?_) (fun a b => ?_) bs).imp fun h => of_decide_eq_true h
      · exact decide_eq_true (List.le_trans (of_decide_eq_true h1) (of_decide_eq_true h2))
      · rcases List.le_total a.2 b.2 with h | h
        · rw [decide_eq_true h]
          rfl
        · rw [decide_eq_true h, Bool.or_true]
    have hv := vals_each eo
    have hlen : ((bs.mergeSort (PySem.W.dataLe false fun b : Addr × List Int => rowD b.2)).map fun b => V.ref b.1).length ≤ sizeLine := by
      rw [List.length_map, hp.length_eq]
      exact lb
    exact ⟨.ref _, upd H (s.heap.objs.size + 1) (.lst _), I.laid (t' := s.toks) (fun _ _ => PyProof.Rows.sortedAll_old) (Nat.le_succ _) ⟨hlen, out, ep, hv, he'⟩, rfl, q _ _ hp hw (I.hok.fresh (Nat.le_succ _))⟩
end
end L2
set_option maxRecDepth 100000
set_option maxHeartbeats 4000000
namespace SmT
open PySem PySem.Spec PyProof.Rows HT
theorem args_sum2 (a b : Value) : PySem.argsOk "sum" ⟨[a, b], []⟩ := by unfold PySem.argsOk; kernel_rfl
section
variable {prog : Program} {w : World} {A : Around} {R : Result → Shared → Prop}
def cat (ts : List (Addr × List Value)) (i : Nat) : List Value := ((ts.take i).map (·.2)).flatten
theorem cat_next {ts : List (Addr × List Value)} {i : Nat} {p : Addr × List Value} (h : ts[i]? = some p) : cat ts (i + 1) = cat ts i ++ p.2 := by
  unfold cat
  rw [List.take_add_one, h]
  simp
theorem cat_len (ts : List (Addr × List Value)) (i : Nat) : (cat ts i).length ≤ (cat ts ts.length).length := by
  unfold cat
  rw [List.take_length]
  have e : ((ts.take i).map (·.2)).flatten ++ ((ts.drop i).map (·.2)).flatten = (ts.map (·.2)).flatten := by
    rw [← List.flatten_append, ← List.map_append, List.take_append_drop]
  rw [← e, List.length_append]
  omega
def At (h0 : Heap) (t0 : Addr) (ts : List (Addr × List Value)) (i : Nat) (a : Addr) : Prop := (i = 0 ∧ a = t0) ∨ (i = 1 ∧ ∃ p, ts[0]? = some p ∧ a = p.1) ∨ (2 ≤ i ∧ h0.get? a = none)
theorem loop {it l S t0 : Addr} {ts : List (Addr × List Value)} {h0 : Heap} (hh : A.handled = none) (hli : l ≠ it) (hSi : S ≠ it) (hSl : S ≠ l) (n1 : h0.get? it = none) (n2 : h0.get? S = none)
    (ht0 : IsTup h0 t0 #[]) (hts : ∀ p ∈ ts, IsTup h0 p.1 p.2.toArray ∧ p.2 ≠ []) (hz : (cat ts ts.length).length ≤ sizeLine) :
    ∀ (k i : Nat) (s : Shared) (acc : Addr) (c : Nat), ts.length - i = k → i ≤ ts.length → s.heap.IsListIter it l i → s.heap.IsList l (ts.map fun p => Value.ref p.1).toArray →
    s.heap.get? S = some { cls := .type "list", dict := none, data := .seq #[.ref acc] c, slots := #[] } → (∀ b o, h0.get? b = some o → s.heap.get? b = some o) → At h0 t0 ts i acc → IsTup s.heap acc (cat ts i).toArray → acc ≠ it → acc ≠ S →
    (∀ (h' : Heap) (tk : Tok) (a : Addr), (∀ b o, h0.get? b = some o → h'.get? b = some o) → At h0 t0 ts ts.length a → IsTup h' a (cat ts ts.length).toArray → R (.ok (.ret (.ref a))) { s with heap := h', toks := tk }) →
    codeAny (model prog w) A (.builtin "sum.loop" ⟨[.ref it, .ref S, rawInt 2, rawInt 0], []⟩) R s := by
  have W := (PySem.Walks.list (prog := prog) (w := w) (A := A.in1) hh it l hli (ts.map fun p => Value.ref p.1).toArray).toS
  have eN : ((ts.map fun p => Value.ref p.1).toArray).size = ts.length := by simp
  rw [eN] at W
  intro k
  induction k with
  | zero =>
    intro i s acc c hk hi hit hl hS old ha htu na nS hR
    have hin : i = ts.length := by omega
    subst hin
    refine PySem.codeAny_builtin PySem.F.entry_sum_loop ?_
    rw [Around.under_plainId PySem.F.plain_sum_loop _]
    show wpAny _ A.in1 (seqItems? (.ref S) >>= _) _ _ s
    refine wpAny_bind (PySem.wpAny_seqItems hS rfl ?_)
    show wpAny _ A.in1 (tryCatch (pyNext (.ref it)) _ >>= _) _ _ s
    refine wpAny_bind (wpAny_tryCatch (W.done s _ _ ⟨hit, hl⟩ fun s' hm => ?_))
    refine wpAny_pure ?_
    rw [PySem.Moved.eq_with hm]
    have keep : ∀ b o, b ≠ it → s.heap.get? b = some o → s'.heap.get? b = some o := fun b o hb e => hm.heap b o (by simpa using hb) e
    exact hR s'.heap s'.toks acc (fun b o e => keep b o (fun z => by rw [z, n1] at e; cases e) (old b o e)) ha (by
      obtain ⟨o, ho, r⟩ := htu
      exact ⟨o, keep _ _ na ho, r⟩)
  | succ k ih =>
    intro i s acc c hk hi hit hl hS old ha htu na nS hR
    have hlt : i < ts.length := by omega
    obtain ⟨p, hp⟩ : ∃ p, ts[i]? = some p := ⟨_, List.getElem?_eq_getElem hlt⟩
    obtain ⟨tp, pne⟩ := hts p (List.mem_of_getElem? hp)
    refine PySem.codeAny_builtin PySem.F.entry_sum_loop ?_
    rw [Around.under_plainId PySem.F.plain_sum_loop _]
    show wpAny _ A.in1 (seqItems? (.ref S) >>= _) _ _ s
    refine wpAny_bind (PySem.wpAny_seqItems hS rfl ?_)
    show wpAny _ A.in1 (tryCatch (pyNext (.ref it)) _ >>= _) _ _ s
    refine wpAny_bind (wpAny_tryCatch (W.item i s _ _ hlt ⟨hit, hl⟩ fun v s' hP hst' hm => ?_))
    have ev : v = .ref p.1 := by
      have h2 : ((ts.map fun p => Value.ref p.1).toArray)[i]? = some v := hP
      rw [List.getElem?_toArray, List.getElem?_map, hp] at h2
      exact (Option.some.inj h2).symm
    subst ev
    rw [PySem.Moved.eq_with hm]
    have keep : ∀ b o, b ≠ it → s.heap.get? b = some o → s'.heap.get? b = some o := fun b o hb e => hm.heap b o (by simpa using hb) e
    have hS' := keep _ _ hSi hS
    have old' : ∀ b o, h0.get? b = some o → s'.heap.get? b = some o := fun b o e => keep b o (fun z => by rw [z, n1] at e; cases e) (old b o e)
    have htu' : IsTup s'.heap acc (cat ts i).toArray := by
      obtain ⟨o, ho, r⟩ := htu
      exact ⟨o, keep _ _ na ho, r⟩
    have tp' : IsTup s'.heap p.1 p.2.toArray := by
      obtain ⟨o, ho, r⟩ := tp
      exact ⟨o, old' _ _ ho, r⟩
    obtain ⟨hit', hl'⟩ := hst'
    generalize s'.heap = h1 at keep hS' old' htu' tp' hit' hl'
    generalize s'.toks = t1
    clear hm hP
    have hpn : h0.get? p.1 ≠ none := by
      obtain ⟨o, ho, r⟩ := tp
      rw [ho]
      exact fun z => nomatch z
    have pit : p.1 ≠ it := fun z => hpn (by rw [z]; exact n1)
    have pS : p.1 ≠ S := fun z => hpn (by rw [z]; exact n2)
    have add : ∀ (E : Value → Shared → Prop), wpAny (model prog w) A.in1 (binaryOp .Add (.ref acc) (.ref p.1)) (fun v s2 => ∃ (r : Addr) (h2 : Heap), v = .ref r ∧ s2 = { s with heap := h2, toks := t1 } ∧ (∀ b o, h1.get? b = some o → h2.get? b = some o) ∧
        At h0 t0 ts (i + 1) r ∧ IsTup h2 r (cat ts (i + 1)).toArray ∧ r ≠ it ∧ r ≠ S) E { s with heap := h1, toks := t1 } := fun E => by
      have en := cat_next hp
      by_cases hw : cat ts i = []
      · rw [hw, List.nil_append] at en
        rw [hw] at htu'
        refine L2.cat_tup0 htu' tp' ⟨p.1, h1, rfl, rfl, fun _ _ e => e, ?_, by rw [en]; exact tp', pit, pS⟩
        have i0 : i = 0 := by
          refine Classical.byContradiction fun z => ?_
          obtain ⟨q, hq⟩ : ∃ q, ts[0]? = some q := ⟨_, List.getElem?_eq_getElem (by omega)⟩
          have e2 : cat ts i = q.2 ++ (((ts.take i).drop 1).map (·.2)).flatten := by
            unfold cat
            cases ts with
            | nil => simp at hq
            | cons a m =>
              have : a = q := by simpa using hq
              subst this
              cases i with
              | zero => exact absurd rfl z
              | succ i => simp
          rw [e2] at hw
          exact (hts q (List.mem_of_getElem? hq)).2 (List.append_eq_nil_iff.mp hw).1
        subst i0
        exact .inr (.inl ⟨rfl, p, hp, rfl⟩)
      · have sz := cat_len ts (i + 1)
        rw [en, List.length_append] at sz
        refine cat_tup htu' tp' hw (fun z => absurd z pne) (fun _ => ⟨h1.objs.size, _, rfl, rfl, fun b o e => Heap.get?_push_of_some _ e, .inr (.inr ⟨?_, ?_⟩), ?_, ?_, ?_⟩) (by omega)
        · refine Classical.byContradiction fun z => ?_
          have i0 : i = 0 := by omega
          subst i0
          exact hw rfl
        · cases e : h0.get? h1.objs.size with
          | none => rfl
          | some o => exact absurd (Heap.lt_size (old' _ _ e)) (Nat.lt_irrefl _)
        · rw [en]
          exact IsTup.new _ _
        · obtain ⟨o, ho, _⟩ := hit'
          exact fun z => absurd (Heap.lt_size ho) (by rw [← z]; exact Nat.lt_irrefl _)
        · exact fun z => absurd (Heap.lt_size hS') (by rw [← z]; exact Nat.lt_irrefl _)
    show wpAny _ A.in1 ((holding [Value.ref p.1] (binaryOp .Add (.ref acc) (.ref p.1))).attempt >>= _) _ _ _
    refine wpAny_bind (wpAny_attempt (wpAny_holding (wpAny_mono (add _) (fun v s2 hv => ?_) fun _ _ e => e)))
    obtain ⟨r, h2, rfl, rfl, k2, at2, tu2, rit, rS⟩ := hv
    have hS2 := k2 _ _ hS'
    show wpAny _ A.in1 (updateSeq S (fun _ => #[Value.ref r]) >>= _) _ _ _
    refine wpAny_bind (PySem.wpAny_updateSeq hS2 rfl ?_)
    have hS3 := Heap.get?_update_self (Obj.mapSeq fun _ => #[Value.ref r]) hS2 rfl
    refine wpAny_bind (PySem.wpAny_letGo ?_)
    refine wpAny_bind (PySem.wpAny_updateSeq hS3 rfl (wpAny_pure ⟨plainId_quiet PySem.F.plain_sum_loop _, ?_⟩))
    have up : ∀ b o, b ≠ S → h2.get? b = some o → (((h2.update S (Obj.mapSeq fun _ => #[Value.ref r])).update S (Obj.mapSeq fun _ => #[Value.ref r]))).get? b = some o := fun b o hb e =>
      (Heap.get?_update_other _ _ (fun h : S = b => hb h.symm)).trans ((Heap.get?_update_other _ _ (fun h : S = b => hb h.symm)).trans e)
    refine ih (i + 1) { s with heap := _, toks := t1 } r _ (by omega) hlt ?_ ?_ (Heap.get?_update_self _ hS3 rfl) (fun b o e => ?_) at2 ?_ rit rS fun h' tk a q1 q2 q3 => hR h' tk a q1 q2 q3
    · obtain ⟨o, ho, q⟩ := hit'
      exact ⟨o, up _ _ (fun z => hSi z.symm) (k2 _ _ ho), q⟩
    · obtain ⟨o, ho, q⟩ := hl'
      exact ⟨o, up _ _ (fun z => hSl z.symm) (k2 _ _ ho), q⟩
    · exact up _ _ (fun z => by rw [z, n2] at e; cases e) (k2 _ _ (old' _ _ e))
    · obtain ⟨o, ho, q⟩ := tu2
      exact ⟨o, up _ _ rS ho, q⟩
end
end SmT
set_option maxRecDepth 100000
set_option maxHeartbeats 4000000
namespace SmT
open PySem PySem.Spec PyProof.Rows HT
section
variable {prog : Program} {w : World} {A : Around} {E : Value → Shared → Prop} {s : Shared}
theorem call_sumT {l t0 : Addr} {ts : List (Addr × List Value)} {Q : Value → Shared → Prop} (hh : A.handled = none) (hl : s.heap.IsList l (ts.map fun p => Value.ref p.1).toArray)
    (ht0 : IsTup s.heap t0 #[]) (hts : ∀ p ∈ ts, IsTup s.heap p.1 p.2.toArray ∧ p.2 ≠ []) (hz : (cat ts ts.length).length ≤ sizeLine)
    (h : ∀ (h' : Heap) (tk : Tok) (a : Addr), (∀ b o, s.heap.get? b = some o → h'.get? b = some o) → At s.heap t0 ts ts.length a → IsTup h' a (cat ts ts.length).toArray → Q (.ref a) { s with heap := h', toks := tk }) :
    wpAny (model prog w) A (call (.builtin "sum") [.ref l, .ref t0]) Q E s := by
  have tT : ∀ {h' : Heap} {tk : Tok}, (∀ b o, s.heap.get? b = some o → h'.get? b = some o) → Shared.TypeIs { s with heap := h', toks := tk } (.ref t0) "tuple" := fun k => by
    obtain ⟨o, ho, hc, _⟩ := ht0
    exact ⟨o, k _ _ ho, hc⟩
  refine call_function_tree PySem.F.kind_sum PySem.F.plain_sum PySem.F.entry_sum (args_sum2 _ _) ?_
  unfold Builtin.«sum»
  simp only [List.length_cons, List.length_nil]
  rw [if_neg (by decide)]
  refine wpAny_bind (wpAny_of_eq (show Builtin.Builtins.bindParams "sum" ["start"] 0 ⟨[.ref t0], []⟩ = pure [some (.ref t0)] from rfl) ?_)
  refine wpAny_bind (PySem.wpAny_pyIter_list hl ?_)
  refine wpAny_bind (wpAny_pure ?_)
  have k1 : ∀ b o, s.heap.get? b = some o → (s.heap.push { cls := .type "list_iterator", data := .fields #[.ref l, .int 0 0] }).get? b = some o := fun b o e => Heap.get?_push_of_some _ e
  have hI : (s.heap.push { cls := .type "list_iterator", data := .fields #[.ref l, .int 0 0] }).get? s.heap.objs.size = some { cls := .type "list_iterator", data := .fields #[.ref l, .int 0 0] } := Heap.get?_push_size _ rfl
  have sz : (s.heap.push { cls := .type "list_iterator", data := .fields #[.ref l, .int 0 0] }).objs.size = s.heap.objs.size + 1 := Heap.size_push ..
  generalize hh1 : s.heap.push { cls := .type "list_iterator", data := .fields #[.ref l, .int 0 0] } = h1 at k1 hI sz
  simp only [List.forIn_cons, List.forIn_nil]
  refine wpAny_bind (wpAny_bind (wpAny_bind (wpAny_isInstance (T := "tuple") (b := false) (tT (tk := s.toks) k1) PySem.F.sub_tuple_str ?_)))
  simp only [Bool.false_eq_true, if_false]
  refine wpAny_pure (wpAny_bind (wpAny_bind (wpAny_isInstance (T := "tuple") (b := false) (tT (tk := s.toks) k1) PySem.F.sub_tuple_bytes ?_)))
  simp only [Bool.false_eq_true, if_false]
  refine wpAny_pure (wpAny_bind (wpAny_bind (wpAny_isInstance (T := "tuple") (b := false) (tT (tk := s.toks) k1) PySem.F.sub_tuple_bytearray ?_)))
  simp only [Bool.false_eq_true, if_false]
  refine wpAny_pure (wpAny_pure ?_)
  refine wpAny_bind (wpAny_newObj_type ?_)
  have ll : l < s.heap.objs.size := by obtain ⟨o, ho, _⟩ := hl; exact Heap.lt_size ho
  have none1 : ∀ b, s.heap.objs.size ≤ b → s.heap.get? b = none := fun b hb => by
    cases e : s.heap.get? b with
    | none => rfl
    | some o => exact absurd (Heap.lt_size e) (Nat.not_lt.mpr hb)
  have t0l : t0 < s.heap.objs.size := by obtain ⟨o, ho, _⟩ := ht0; exact Heap.lt_size ho
  have k2 : ∀ b o, s.heap.get? b = some o → (h1.push { cls := .type "list", data := .seq #[.ref t0] }).get? b = some o := fun b o e => Heap.get?_push_of_some _ (k1 _ _ e)
  refine wpAny_pure ⟨plainId_quiet PySem.F.plain_sum_loop _, loop (it := s.heap.objs.size) (l := l) (S := h1.objs.size) (t0 := t0) (ts := ts) (h0 := s.heap) hh (Nat.ne_of_lt ll) (by rw [sz]; exact Nat.succ_ne_self _) (by rw [sz]; exact Nat.ne_of_gt (Nat.lt_succ_of_lt ll)) (none1 _ (Nat.le_refl _)) (none1 _ (by rw [sz]; exact Nat.le_succ _)) ht0 hts hz
    _ 0 _ t0 _ rfl (Nat.zero_le _) ?_ ?_ (Heap.get?_push_size _ rfl) k2 (.inl ⟨rfl, rfl⟩) ?_ (Nat.ne_of_lt t0l) (by rw [sz]; exact Nat.ne_of_lt (Nat.lt_succ_of_lt t0l)) fun h' tk a q1 q2 q3 => h h' tk a q1 q2 q3⟩
  · exact ⟨_, Heap.get?_push_of_some _ hI, rfl, rfl⟩
  · obtain ⟨o, ho, q⟩ := hl
    exact ⟨o, k2 _ _ ho, q⟩
  · obtain ⟨o, ho, q⟩ := ht0
    exact ⟨o, k2 _ _ ho, by simpa [cat] using q⟩
end
end SmT
namespace L2
open PySem PySem.Spec PyProof.Rows HT
def rSumT (K : PySem.W.Frag) : List V → Hp → VK → Prop := fun vs H Q => ∃ (l t0 : Addr) (bs : List (Addr × List V)), vs = [.ref l, .ref t0] ∧ SqL K H l (bs.map fun b => V.ref b.1) ∧ SqT K H t0 [] ∧ (∀ b ∈ bs, b.2 ≠ [] ∧ SqT K H b.1 b.2) ∧ ((bs.map (·.2)).flatten).length ≤ sizeLine ∧
  ∀ a H', Same H H' → SqT K H' a (bs.map (·.2)).flatten → Q (.ref a) H'
section
variable {X : Cx}
theorem tups_of {pins : List (Addr × Obj)} {σ : St} {H : Hp} {s : Shared} (I : Inv X pins σ H s) : ∀ (bs : List (Addr × List V)), (∀ b ∈ bs, b.2 ≠ [] ∧ SqT X.K H b.1 b.2) →
    ∃ ts : List (Addr × List Value), ts.map (·.1) = bs.map (·.1) ∧ (∀ p ∈ ts, IsTup s.heap p.1 p.2.toArray ∧ p.2 ≠ []) ∧ Vals (bs.map (·.2)).flatten (ts.map (·.2)).flatten
  | [], _ => ⟨[], rfl, fun _ h => absurd h (by simp), .nil⟩
  | b :: bs, h => by
    obtain ⟨h1, h2⟩ := h b List.mem_cons_self
    obtain ⟨ts, e1, e2, e3⟩ := tups_of I bs fun c hc => h c (List.mem_cons_of_mem _ hc)
    obtain ⟨its, r1, p1, _⟩ := I.tuple h2
    refine ⟨(b.1, its) :: ts, by rw [List.map_cons, List.map_cons, e1], fun p hp => ?_, ?_⟩
    · rcases List.mem_cons.mp hp with rfl | hp
      · exact ⟨p1, fun (z : its = []) => h1 (by have hl := r1.length; rw [z] at hl; exact List.length_eq_zero_iff.mp hl)⟩
      · exact e2 p hp
    · rw [List.map_cons, List.map_cons, List.flatten_cons, List.flatten_cons]
      exact r1.append e3
theorem cr_sumT (hc : X.calm = true) : CallR X (.builtin "sum") (rSumT X.K) := by
  intro pins s σ H vs us Q I r h
  obtain ⟨l, t0, bs, rfl, hs, ht, hb, hz, q⟩ := h
  obtain ⟨its, rv, hl, _⟩ := I.list hs
  obtain ⟨it0, r0, p0, _⟩ := I.tuple ht
  cases r0
  obtain ⟨ts, e1, e2, e3⟩ := tups_of I bs hb
  obtain ⟨u1, u2, rfl, ru1, ru2⟩ := vals2 r
  cases ru1
  cases ru2
  have eL : its = ts.map fun p => Value.ref p.1 := by
    have h1 : ts.map (fun p => Value.ref p.1) = (ts.map (·.1)).map Value.ref := by rw [List.map_map]; rfl
    rw [h1, e1]
    refine refs_at ?_
    rw [List.map_map]
    exact rv
  have eC : SmT.cat ts ts.length = (ts.map (·.2)).flatten := by
    unfold SmT.cat
    rw [List.take_length]
  rw [eL] at hl
  refine SmT.call_sumT (I.ok.hd hc) hl.isList p0 e2 (by rw [eC, ← e3.length]; exact hz) fun h' tk a k1 at1 tu => ?_
  rw [eC] at tu
  have hI := I.kept (t' := tk) k1
  have len : ts.length = bs.length := by
    have := congrArg List.length e1
    rw [List.length_map, List.length_map] at this
    exact this
  rcases at1 with ⟨n0, rfl⟩ | ⟨n1, p, hp, rfl⟩ | ⟨_, hn⟩
  · refine ⟨.ref a, H, hI, rfl, q a H (fun _ _ e => e) ?_⟩
    have : bs = [] := List.length_eq_zero_iff.mp (by omega)
    rw [this]
    exact ht
  · refine ⟨.ref p.1, H, hI, rfl, q p.1 H (fun _ _ e => e) ?_⟩
    cases bs with
    | nil =>
      rw [n1] at len
      exact absurd len (by simp)
    | cons b m =>
      have m0 : m = [] := List.length_eq_zero_iff.mp (by rw [List.length_cons] at len; omega)
      subst m0
      have ep : p.1 = b.1 := by
        cases ts with
        | nil => simp at hp
        | cons c k =>
          have : c = p := by simpa using hp
          subst this
          exact (List.cons.inj e1).1
      rw [ep]
      simpa using (hb b List.mem_cons_self).2
  · refine ⟨.ref a, upd H a (.tup (bs.map (·.2)).flatten), I.laidN (t' := tk) k1 hn (I.hok.gone hn) ⟨hz, _, e3, tu⟩, rfl, q a _ (fun b o e => ?_) (.inl (.inl (upd_same)))⟩
    rw [upd_ne (ne_of_none e (I.hok.gone hn))]
    exact e
end
end L2
set_option maxRecDepth 100000
set_option maxHeartbeats 4000000
namespace EnT
open PySem PySem.Spec PyProof.Rows
open AutoSeq1 (wpAny_loadPart')
theorem meets_newT (l : Addr) (items : Array Value) (n : Nat) (dct : Option Addr) (sl : Array (Option Value)) :
    Meets (Builtin.«enumerate.__new__» ⟨[.type "enumerate", .ref l], []⟩) (fun _ R s => s.heap.get? l = some { cls := .type "tuple", dict := dct, data := .seq items n, slots := sl } ∧
      R (.ok (.ret (.ref (s.heap.push { cls := .type "tuple_iterator", data := .fields #[.ref l, .int 0 0] }).objs.size)))
        { s with heap := (s.heap.push { cls := .type "tuple_iterator", data := .fields #[.ref l, .int 0 0] }).push { cls := .type "enumerate", data := .fields #[.none, .bool false, .ref s.heap.objs.size, rawInt 0, .none, .none] } }) :=
  .of_wp fun prog w A R s h => by
    obtain ⟨hp, g, d, tk, os⟩ := s; obtain ⟨hl, h⟩ := h
    have hsub := PySem.sub_enumerate
    have hL : Heap.IsTuple (Shared.heap ⟨hp, g, d, tk, os⟩) l items := ⟨_, hl, rfl, n, rfl⟩
    wp_walk using wpAny_loadPart' hl
    refine wpAny_stack_any fun st => wpAny_pure ?_
    split
    · rename_i c _ _ _ _ _
      cases (c == Value.type "enumerate")
      · wp_walk using wpAny_loadPart' hl, PySem.wpAny_pyIter_tuple hL
        exact ⟨_, rfl, h⟩
      · wp_walk using wpAny_loadPart' hl, PySem.wpAny_pyIter_tuple hL
        exact ⟨_, rfl, h⟩
    · wp_walk using wpAny_loadPart' hl, PySem.wpAny_pyIter_tuple hL
      exact ⟨_, rfl, h⟩
section
variable {prog : Program} {w : World} {A : Around} {E : Value → Shared → Prop} {s : Shared}
theorem call_enumT {l : Addr} {items : Array Value} {Q : Value → Shared → Prop} (hL : s.heap.IsTuple l items)
    (h : ∀ h', IsEnum h' (s.heap.objs.size + 1) s.heap.objs.size 0 .none → h'.IsTupleIter s.heap.objs.size l 0 → h'.objs.size = s.heap.objs.size + 2 →
      (∀ b o, s.heap.get? b = some o → h'.get? b = some o) → Q (.ref (s.heap.objs.size + 1)) { s with heap := h' }) :
    wpAny (model prog w) A (call (.type "enumerate") [.ref l]) Q E s := by
  obtain ⟨⟨c, dct, dt, sl⟩, hl, hc, n, hd⟩ := hL
  replace hc : c = .type "tuple" := hc
  replace hd : dt = .seq items n := hd
  subst hc hd
  refine callType_new PySem.F.called_enumerate (by decide) (PySem.F.typeCall_enumerate_1 _) (PySem.F.newCall_enumerate_1 _) (fun obj => PySem.F.args_object_init_2 obj _) PySem.F.entry_enumerate_new
    (meets_newT l items n dct sl) ⟨hl, ?_⟩
  have hz : (s.heap.push { cls := .type "tuple_iterator", data := .fields #[.ref l, .int 0 0] }).objs.size = s.heap.objs.size + 1 := Heap.size_push ..
  show _ ∧ _
  rw [hz]
  have he : IsEnum ((s.heap.push { cls := .type "tuple_iterator", data := .fields #[.ref l, .int 0 0] }).push
      { cls := .type "enumerate", data := .fields #[.none, .bool false, .ref s.heap.objs.size, rawInt 0, .none, .none] }) (s.heap.objs.size + 1) s.heap.objs.size 0 .none := by
    have := Heap.get?_push_size (s.heap.push { cls := .type "tuple_iterator", data := .fields #[.ref l, .int 0 0] })
      (o := { cls := .type "enumerate", data := .fields #[.none, .bool false, .ref s.heap.objs.size, rawInt 0, .none, .none] }) rfl
    rw [hz] at this; exact this
  refine ⟨⟨_, he, rfl⟩, h _ he ⟨_, Heap.get?_push_of_some _ (Heap.get?_push_size _ rfl), rfl, rfl⟩ (by rw [Heap.size_push, hz]) fun b o x => Heap.get?_push_of_some _ (Heap.get?_push_of_some _ x)⟩
end
end EnT
namespace L2
open PySem PySem.Spec PyProof.Rows HT
def Iteu (K : PySem.W.Frag) (a : Addr) : It :=
  ⟨fun i H => ∃ (xs : List V) (x : V), SqT K H a xs ∧ xs[i]? = some x, fun i H v H' => ∃ T x, v = .ref T ∧ H T = none ∧ H' = upd H T (.tup [.int (i : Nat), x]) ∧ ∀ xs, SqT K H a xs → xs[i]? = some x, fun i H => ∃ xs : List V, SqT K H a xs ∧ xs.length ≤ i⟩
theorem tuple_of {h : Heap} {a : Addr} {items : Array Value} (x : IsTup h a items) : h.IsTuple a items := by
  obtain ⟨o, ho, hc, n, hd⟩ := x
  exact ⟨o, ho, hc, n, hd⟩
theorem turn_enumU {P : Program} {w : World} {K : PySem.W.Frag} {elts : List Expr} {kk : Nat} {tpos : Pos} (a e it : Addr) :
    Turn P w K (.Tuple elts kk tpos) (Iteu K a) [e, it] e (fun i h => (∃ old, IsEnum h e it ((i : Nat) : Int) old) ∧ h.IsTupleIter it a i ∧ e ≠ it) where
  mem := by simp
  obj := fun i h st b hb => by
    obtain ⟨⟨old, he⟩, ⟨o, ho, hc, hd⟩, _⟩ := st
    have e' : b = e ∨ b = it := by simpa using hb
    rcases e' with z | z
    · rw [z]; exact ⟨_, he, fun v q => nomatch q⟩
    · rw [z]; exact ⟨o, ho, fun v q => by rw [hd] at q; cases q⟩
  keep := fun i h h' st k => let ⟨⟨old, he⟩, hi, hne⟩ := st; ⟨⟨old, k e (by simp) _ he⟩, hi.at fun o q => k it (by simp) o q, hne⟩
  item := by
    intro X hP hw hK hc i pins s σ H E I hf st hg
    subst hP hw hK
    obtain ⟨⟨old, he⟩, hit, hne⟩ := st
    obtain ⟨xs, x, hq, hx⟩ := hg
    obtain ⟨its, rv, p, hz⟩ := I.tuple hq
    obtain ⟨u, hu, ru⟩ := rv.get hx
    have hel : e < s.heap.objs.size := Heap.lt_size he
    have hil : it < s.heap.objs.size := by obtain ⟨_, q, _⟩ := hit; exact Heap.lt_size q
    have pt := tuple_of p
    have hai : a ≠ it := fun z => by
      obtain ⟨o, ho, hc, _⟩ := hit
      obtain ⟨o2, ho2, hc2, _⟩ := pt
      rw [z, ho] at ho2
      cases ho2
      rw [hc] at hc2
      exact absurd hc2 (by simp)
    have hae : a ≠ e := fun z => by
      obtain ⟨o2, ho2, hc2, _⟩ := pt
      rw [z, he] at ho2
      cases ho2
      exact absurd hc2 (by simp)
    have hi : i < its.toArray.size := by
      rw [List.size_toArray]
      exact (List.getElem?_eq_some_iff.mp hu).1
    refine PySem.wpAny_pyNext_enum_itemD (PySem.Draws.tuple (prog := X.prog) (w := X.w) (A := X.A.in1) (I.ok.hd hc) it a hai its.toArray) he ⟨hit, pt⟩ hi hne (by simpa using ⟨hne, fun z => hae z.symm⟩) fun x' h' tk hP ho hst' hT hsz hk => ?_
    have ex : x' = u := by
      have hP' : its.toArray[i]? = some x' := hP
      rw [List.getElem?_toArray, hu] at hP'
      exact (Option.some.inj hP').symm
    subst ex
    obtain ⟨hit', _⟩ := hst'
    refine ⟨_, rfl, wpAny_letOwnedTupleGo_enum (s := { s with heap := h', toks := tk + 1 }) ho fun h'' he' sb => ?_⟩
    have hT2 : h''.get? s.heap.objs.size = some { cls := .type "tuple", data := .seq #[.int i tk, x'] } := (sb.2 _ (Nat.ne_of_gt hel)).trans hT
    have new : ObjOk X.prog X.w (upd H s.heap.objs.size (.tup [.int (i : Nat), x])) h'' s.heap.objs.size (.tup [.int (i : Nat), x]) :=
      ⟨by show 2 ≤ sizeLine; decide, [.int i tk, x'], .cons ⟨_, rfl⟩ (.cons ru .nil), ⟨_, hT2, rfl, _, rfl⟩⟩
    have I1 : Inv X pins σ (upd H s.heap.objs.size (.tup [.int (i : Nat), x])) { s with heap := h'', toks := tk + 1 } :=
      I.turnedNew (ch := [e, it]) (fun b ob hb q => (sb.2 b (fun z => hb (by simp [z]))).trans (hk b ob (fun z => hb (by simp [z])) (fun z => hb (by simp [z])) q)) hf (Nat.le_refl _) new
    refine ⟨.ref s.heap.objs.size, _, I1, rfl, ⟨_, x, rfl, I.hok.fresh (Nat.le_refl _), rfl, fun ys hy => by rw [I.tuple_inj hy hq]; exact hx⟩, ⟨⟨x', ?_⟩, hit'.at fun o q => (sb.2 it (Ne.symm hne)).trans q, hne⟩, fun b hb => ?_⟩
    · have e1 : ((i + 1 : Nat) : Int) = (i : Int) + 1 := by omega
      rw [e1]; exact he'
    · have hb' : b < s.heap.objs.size := by
        have e' : b = e ∨ b = it := by simpa using hb
        rcases e' with z | z
        · rw [z]; exact hel
        · rw [z]; exact hil
      rw [upd_ne (Nat.ne_of_lt hb')]
      exact (hf b hb).1
  done := by
    intro X hP hw hK hc i pins s σ H E I hf st hg
    subst hP hw hK
    obtain ⟨⟨old, he⟩, hit, hne⟩ := st
    obtain ⟨xs, hq, hx⟩ := hg
    obtain ⟨its, rv, p, hz⟩ := I.tuple hq
    obtain ⟨f0, f1, f2, f3, f4, f5⟩ := hf it (by simp)
    have hl := rv.length
    have pt := tuple_of p
    have hT : s.TypeIs (.ref e) "enumerate" := ⟨_, he, rfl⟩
    unfold pyNext
    refine wpAny_bind (wpAny_attempt (PySem.wpAny_callSpecial?_slot (name := Str.ofString "__next__") hT PySem.F.slot_enumerate_next
      (PySem.wpAny_call_entry PySem.F.slot_enumerate_next hT PySem.F.entry_enumerate_next ?_ (PySem.F.args_enumerate_next_1 _))))
    show wpAny _ _ (field (.ref e) 2 >>= _) _ _ _
    refine wpAny_bind (PySem.wpAny_field he rfl (x := .ref it) rfl ?_)
    refine wpAny_bind (PySem.wpAny_nextOf_tuple_end (I.ok.hd hc) hit pt (by simp; omega) fun h' x eb hx' => ?_)
    obtain ⟨o, ho, hc'⟩ := hx'
    refine wpAny_bind (wpAny_isInstance (T := "StopIteration") (b := true) ⟨o, ho, hc'⟩ PySem.isSubtype_stop ?_)
    exact wpAny_pure ⟨rfl, I.turned (t' := s.toks) (fun b o hb q => eb b o hb q) f0 f1 f3 f4 f5⟩
  self := fun A i s Q E st h => let ⟨⟨_, he⟩, _⟩ := st; wpAny_pyIter_enum he h
def iEnumU (K : PySem.W.Frag) (ta : TA) : TI := fun σ H R => ta σ H fun vs H1 => ∃ a xs, vs = [.ref a] ∧ SqT K H1 a xs ∧ R (Iteu K a) H1
theorem pi_enumU {X : Cx} {e : Expr} {ta : TA} {p pos tpos : Pos} {elts : List Expr} {kk : Nat} (hg : Gl X "enumerate") (hm : X.mg "enumerate" = none) (ha : PA X [e] ta) (hs : starEach [e] X.env = [(false, eval e X.env)] := by rfl) :
    PI X (.Tuple elts kk tpos) (.Call (.Name "enumerate" p) [e] [] pos) (iEnumU X.K ta) := by
  refine ⟨fun pins s σ H R I h => ?_⟩
  refine Call_ (ld_blt I hg hm boot_enumerate (PyProof.Rows.callWith_type1 (thn (ha.run pos pins s σ H _ I h) fun us s1 ⟨vs, H1, I1, r1, q1⟩ => ?_) hs rfl))
  obtain ⟨a, xs, ex, hq, q⟩ := q1
  subst ex
  cases r1 with
  | cons r rr =>
    cases rr
    cases r
    obtain ⟨its, rv, p', hz⟩ := I1.tuple hq
    refine EnT.call_enumT (tuple_of p') fun h' he hit hsz hk => wpAny_pyIter_enum he ?_
    have I2 : Inv X pins σ H1 { s1 with heap := h' } := I1.kept (t' := s1.toks) hk
    refine ⟨s1.heap.objs.size + 1, [s1.heap.objs.size + 1, s1.heap.objs.size], _, _, H1, rfl, I2, turn_enumU a (s1.heap.objs.size + 1) s1.heap.objs.size, ⟨⟨.none, he⟩, hit, Nat.succ_ne_self _⟩, fun b hb => ?_, q⟩
    have e' : b = s1.heap.objs.size + 1 ∨ b = s1.heap.objs.size := by simpa using hb
    have hle : s1.heap.objs.size ≤ b := by
      rcases e' with z | z
      · rw [z]; exact Nat.le_add_right _ _
      · rw [z]; exact Nat.le_refl _
    exact I1.fpOk hle (I1.hok.fresh hle)
theorem walk_enumU {K : PySem.W.Frag} {a : Addr} {xs : List V} : Walk (Iteu K a) xs.length (fun H => SqT K H a xs) (YPair (fun i => some (.int (i : Nat))) (fun i => xs[i]?)) := by
  refine ⟨fun i _ hi q => ⟨xs, xs[i], q, by simp [hi]⟩, fun _ q => ⟨xs, q, Nat.le_refl _⟩, fun i H v H' _ q y => ?_⟩
  obtain ⟨T, x, h1, h2, h3, h4⟩ := y
  exact ⟨T, .int (i : Nat), x, h1, h2, h3, rfl, h4 xs q⟩
end L2
set_option maxRecDepth 100000
set_option maxHeartbeats 4000000
namespace L2
open PySem PySem.Spec PyProof.Rows HT
open PySem.W (alike alikeAll minD min_list_data)
section
variable {X : Cx}
def tRevTF (K : PySem.W.Frag) (te : TE) : TE := fun σ H Q => te σ H fun x H1 => ∃ a xs, x = .ref a ∧ SqT K H1 a xs ∧ NwT H1 xs.reverse Q
theorem pe_revTF {e : Expr} {te : TE} {k : Nat} {p1 p2 p3 pos : Pos} (he : PE X e te) : PE X (.Subscript e (.Slice none none (some (.UnaryOp .USub (.Constant (.int 1) k p1) p2)) p3) pos) (tRevTF X.K te) := by
  refine ⟨fun pins s σ H Q I h => ?_⟩
  refine Subscript_ (thn (he.run pins s σ H _ I h) fun v s1 ⟨x, H1, I1, r1, q1⟩ => ?_)
  obtain ⟨a, xs, ex, hx, q⟩ := q1
  subst ex
  cases r1
  have hst : PO X (some (.UnaryOp .USub (.Constant (.int 1) k p1) p2)) (tPart (tUn (rU fun i => .int (-i)) (tC (.int 1)))) := po_some (pe_un un_neg pe_int)
  refine wpAny_Slice (wpAny_pure ?_)
  refine wpAny_pure ?_
  refine thn (hst.run pins s1 σ H1 (fun o H4 => o = some (-1) ∧ H4 = H1) I1 ⟨1, rfl, -1, rfl, rfl, rfl⟩) fun vs s4 ⟨o, H4, I4, ps, eo, e4⟩ => ?_
  subst eo e4
  have I5 : Inv X pins σ H4 { s4 with heap := s4.heap.push { cls := .type "slice", data := .fields #[.none, .none, vs] } } := I4.kept (t' := s4.toks) fun b ob q => Heap.get?_push_of_some _ q
  obtain ⟨its, r, ht, hz⟩ := I5.tuple hx
  have hlen := r.length
  show wpAny (model X.prog X.w) X.A (subscriptTail e (.Slice none none (some (.UnaryOp .USub (.Constant (.int 1) k p1) p2)) p3) (.ref a) (.ref s4.heap.objs.size)) (EP X pins σ Q) X.xe { s4 with heap := s4.heap.push { cls := .type "slice", data := .fields #[.none, .none, vs] } }
  refine tail_any (ops := [.ref a, .ref s4.heap.objs.size]) ht.typeIs (PyProof.Rows.slot_tuple_getitem.lookup) ?_ (by with_unfolding_all rfl)
  refine HT.tt_getItem_tuple_rev ht (Heap.IsSliceOf.new _ .none .none vs) ps ?_ (by rw [List.size_toArray]; omega)
  refine ⟨.ref _, _, I5.laid (t' := s4.toks) (o := .frz { cls := .type "tuple", data := .seq its.reverse.toArray } (.tup xs.reverse)) (fun b ob q => Heap.get?_push_of_some _ q) (Nat.le_refl _) ?_, rfl, q _ _ (I5.hok.fresh (Nat.le_refl _)) rfl⟩
  refine ⟨?_, by rw [List.length_reverse]; exact hz, _, r.reverse, ?_⟩
  · first
      | exact Heap.get?_push_size _ rfl
      | (simp; exact Heap.get?_push_size _ rfl)
  · first
      | exact IsTup.new _ _
      | (simp; exact IsTup.new _ _)
def lstD (m : List Int) : PyData := .list (m.map PyData.int)
theorem depth_lsts : ∀ rs : List (List Int), PyData.depthAll (rs.map lstD) ≤ 1
  | [] => Nat.zero_le _
  | r :: rs => by
    show max (PyData.depthAll (r.map PyData.int) + 1) (PyData.depthAll (rs.map lstD)) ≤ 1
    rw [depth_ints r]
    have := depth_lsts rs
    omega
theorem lstD_inj {a b : List Int} (h : lstD a = lstD b) : a = b := by
  have h2 : rowD a = rowD b := by
    unfold lstD at h
    injection h with h
    unfold rowD
    rw [h]
  exact rowD_inj h2
theorem dpAll_lsts {K : PySem.W.Frag} {H : Hp} : ∀ {ps : List Addr} {rows : List (List Int)}, Paired (fun p m => SqL K H p (m.map V.int)) ps rows → DpAll K H (ps.map V.ref) (rows.map lstD)
  | _, _, .nil => .nil
  | _, _, .cons h t => .cons (.lst h (dpAll_intsL H _)) (dpAll_lsts t)
def rMinL (K : PySem.W.Frag) : List V → Hp → VK → Prop := fun vs H Q => ∃ (l : Addr) (ps : List Addr) (r0 : List Int) (rs : List (List Int)), vs = [.ref l] ∧ SqL K H l (ps.map V.ref) ∧ Paired (fun p m => SqL K H p (m.map V.int)) ps (r0 :: rs) ∧
  ∀ (i : Nat) (p : Addr), ps[i]? = some p → (∀ m, (r0 :: rs)[i]? = some m → lstD m = minD (lstD r0) (rs.map lstD)) → Q (.ref p) H
theorem cr_minL (hc : X.calm = true) (hu : X.A.units + 64 < cLine) : CallR X (.builtin "min") (rMinL X.K) := by
  intro pins s σ H vs us Q I r h
  obtain ⟨l, ps, r0, rs, rfl, hs, hp, q⟩ := h
  obtain ⟨its, rv, hl, _⟩ := I.list hs
  rw [Vals.ref1 r]
  obtain ⟨as, hr⟩ := Dp.readsAll I _ _ its (dpAll_lsts hp) rv
  have hd := depth_lsts (r0 :: rs)
  refine min_list_data (I.ok.hd hc) hl.isList (x := lstD r0) (xs := rs.map lstD) (as := as) hr ⟨fun x hx y hy => ?_, fun x hx => ?_⟩ (by show X.A.units + 1 + PyData.depthAll ((r0 :: rs).map lstD) < cLine; omega) fun i v h' tk bs hv hm hk => ?_
  · obtain ⟨a, _, rfl⟩ := List.mem_map.mp (show x ∈ (r0 :: rs).map lstD from hx)
    obtain ⟨b, _, rfl⟩ := List.mem_map.mp (show y ∈ (r0 :: rs).map lstD from hy)
    exact L2.alike_ints a b
  · obtain ⟨a, _, rfl⟩ := List.mem_map.mp (show x ∈ (r0 :: rs).map lstD from hx)
    exact fun z => by cases z
  · have hv' : its[i]? = some v := by simpa using hv
    have hi : i < ps.length := by
      have h1 := (List.getElem?_eq_some_iff.mp hv').1
      have h2 := rv.length
      rw [List.length_map] at h2
      omega
    obtain ⟨v2, e2, rel⟩ := rv.get (i := i) (x := V.ref ps[i]) (by simp [hi])
    rw [hv'] at e2
    cases e2
    obtain rfl : v = .ref ps[i] := rel
    refine ⟨.ref ps[i], H, I.kept (t' := tk) hk, rfl, q i ps[i] (List.getElem?_eq_getElem hi) fun m hm2 => ?_⟩
    obtain ⟨as0, r0'⟩ := Dp.reads I (lstD m) (.ref ps[i]) (.ref ps[i]) (.lst (pair_at hp (List.getElem?_eq_getElem hi) hm2) (dpAll_intsL H m)) rfl
    exact (reads_det (fun b o e _ => hk b o e) r0' hm).1.symm
end
end L2
set_option maxRecDepth 100000
set_option maxHeartbeats 4000000
namespace L2
open PySem PySem.Spec PyProof.Rows
structure MetAt (K : PySem.W.Frag) (x qual : Str) (st : Stmt) (ps : List Str) (C : Addr) where
  a : Addr
  fd : FuncData
  F : Fun K x qual st a fd
  i : PySem.W.findIn K (.ref C) x = some (some (.ref a))
  n : PySem.W.isFn K (.ref a) = true
  b : Binds K fd ps []
inductive EqY (K : PySem.W.Frag) (H : Hp) (C : Addr) : V → Prop where
  | int (i : Int) : EqY K H C (.int i)
  | ins {b dy : Addr} {fs : List (Str × V)} (h : H b = some (.ins C dy fs)) : EqY K H C (.ref b)
  | lst {b : Addr} {xs : List V} (h : SqL K H b xs) : EqY K H C (.ref b)
  | tup {b : Addr} {xs : List V} (h : SqT K H b xs) : EqY K H C (.ref b)
theorem eo_sub {K : PySem.W.Frag} {C : Addr} {T : String} {l : List String} (e : fastBuiltinMro T = some (l.map Value.type)) : PySem.W.notFirst K C (.type T) = true := by
  have h : PySem.W.subIn K (.type T) (.ref C) = some false := by
    show (fastBuiltinMro T).map (·.contains (.ref C)) = some false
    rw [e]
    show some ((l.map Value.type).contains (.ref C)) = some false
    congr 1
    induction l with
    | nil => rfl
    | cons a l ih => 
      clear e
      show (((Value.ref C) == Value.type a) || (l.map Value.type).contains (.ref C)) = false
      have z : ∀ l : List String, (l.map Value.type).contains (.ref C) = false := fun l => by
        induction l with
        | nil => rfl
        | cons b l ih2 => exact (Bool.or_eq_false_iff.mpr ⟨rfl, ih2⟩)
      exact Bool.or_eq_false_iff.mpr ⟨rfl, z l⟩
  unfold PySem.W.notFirst
  rw [h]
  exact Bool.or_true _
theorem eo_at {M : Model} {h : Heap} {a : Addr} {o : Obj} (ho : h.get? a = some o) : PySem.W.Looks M h (typeOf (.ref a)) o.cls := (PySem.W.Looks.ld ho).andThen .now
theorem EqY.looks {X : Cx} {pins : List (Addr × Obj)} {σ : St} {H : Hp} {s : Shared} {C : Addr} {y : V} {u : Value} (h : EqY X.K H C y) (I : Inv X pins σ H s) (r : RelV y u) :
    ∃ tb, (∀ M : Model, PySem.W.Looks M s.heap (typeOf u) tb) ∧ PySem.W.notFirst X.K C tb = true := by
  cases h with
  | int i =>
    obtain ⟨t, e⟩ := (show ∃ t, u = Value.int i t from r)
    subst e
    exact ⟨.type "int", fun M => .of_pure rfl, eo_sub (l := ["int", "object"]) (by decide +kernel)⟩
  | ins h =>
    cases (show u = Value.ref _ from r)
    obtain ⟨mB, J', _⟩ := ins_get I.hok h
    obtain ⟨od', J', _⟩ := J'.look
    exact ⟨.ref C, fun M => J'.type, by simp [PySem.W.notFirst]⟩
  | lst h =>
    cases (show u = Value.ref _ from r)
    obtain ⟨its, rl, pl, hz⟩ := I.list h
    obtain ⟨o, n, ho, hc, _⟩ := pl
    exact ⟨.type "list", fun M => hc ▸ eo_at ho, eo_sub (l := ["list", "object"]) (by decide +kernel)⟩
  | tup h =>
    cases (show u = Value.ref _ from r)
    obtain ⟨its, rl, ⟨o, ho, hc, pl⟩, hz⟩ := I.tuple h
    exact ⟨.type "tuple", fun M => hc ▸ eo_at ho, eo_sub (l := ["tuple", "object"]) (by decide +kernel)⟩
def rEqO (K : PySem.W.Frag) (C : Addr) (sp : Sp) (E : XK) : R2 := fun x y H Q => ∃ a dx fs, x = .ref a ∧ H a = some (.ins C dx fs) ∧ EqY K H C y ∧ sp [x, y] H Q E
section
variable {X : Cx} {CX : CXT} {k : Nat} {C f : Addr} {fd : FuncData} {ps : List Str} {sp : Sp} {E : XK}
theorem eo_run {A : Around} {pins : List (Addr × Obj)} {σ : St} {H : Hp} {s : Shared} {x y : V} {u v : Value} {Q : VK} (F : FnOk X.prog X.w X.K X.mg X.base CX k f fd ps sp) (hb : Binds X.K fd ps []) (hx : Passes CX X E) (hr : Room k A) (hf : A.frames = X.A.frames)
    (I : Inv X pins σ H s) (rx : RelV x u) (ry : RelV y v) (h : sp [x, y] H Q E) : wpAny (model X.prog X.w) A (call (.ref f) [u, v]) (EP X pins σ Q) X.xe s := by
  have e0 : Env0 X.prog X.w X.K X.mg X.base A X.stack s H := by
    have e := I.env0
    exact ⟨by rw [hf]; exact e.frames, e.mod, e.bs, e.bsz, e.funs, e.frf, e.hok, e.bare⟩
  have hl := F.len _ _ _ _ h
  refine wpAny_call (codeAny_mono (F.run A X.stack s H ⟨[u, v], []⟩ [u, v] [x, y] Q E hr e0 (by
    have := hb s [u, v] I.kIn (by simpa using hl)
    simpa using this) (.cons rx (.cons ry .nil)) h) fun r s' hq => ?_)
  cases r with
  | error e => exact hx pins σ H s e s' I hq
  | ok fl =>
    cases fl with
    | ret w => exact I.after hq
    | next => exact False.elim hq
    | brk => exact False.elim hq
    | cont => exact False.elim hq
theorem op_eqO (F : FnOk X.prog X.w X.K X.mg X.base CX k f fd ps sp) (hs : PySem.W.findIn X.K (.ref C) "__eq__" = some (some (.ref f))) (hfn : PySem.W.isFn X.K (.ref f) = true) (hb : Binds X.K fd ps []) (hr : Room k X.A) (hx : Passes CX X E) :
    OpR X (compareOp .Eq) (rEqO X.K C sp E) := by
  intro pins s σ H x y v u Q I rx ry h
  obtain ⟨a, dx, fs, rfl, ha, hy, q⟩ := h
  cases (show v = Value.ref a from rx)
  obtain ⟨mA, J, _⟩ := ins_get I.hok ha
  obtain ⟨od, J, _⟩ := J.look
  obtain ⟨tb, lk, nf⟩ := hy.looks I ry
  obtain ⟨m, hF⟩ := I.fr
  show wpAny (model X.prog X.w) X.A (richCompare .Eq (.ref a) u) (EP X pins σ Q) X.xe s
  refine PySem.W.cmp_K (op := .Eq) (tb := tb) hr.units0 hF I.ok.mod.kin J (lk _) nf hs hfn ?_
  refine wpAny_mono (eo_run F hb hx hr rfl I (show RelV (.ref a) (.ref a) from rfl) ry q) (fun w s' z => ?_) fun _ _ x => x
  obtain ⟨z', H', I', rz, qz⟩ := z
  exact SlX.cmpback rz ⟨z', H', I', rz, qz⟩
end
end L2
namespace EoN
open PySem PySem.Spec PyProof.Rows PySem.SeqAt
section
variable {M : Model} {prog : Program} {w : World} {A : Around} {E : Value → Shared → Prop} {s : Shared} {K : PySem.W.Frag} {x C f : Addr} {ox : Obj} {od : Option Obj} {b : Value}
theorem entry_ne {Q : Fin → Shared → Prop} (hu : A.units < cLine) (X : K.In s.heap) (I : PySem.W.InstAt s.heap x ox C od) (hs : PySem.W.findIn K (.ref C) "__eq__" = some (some (.ref f))) (hf : PySem.W.isFn K (.ref f) = true)
    (hcall : wpAny (model prog w) A (call (.ref f) [.ref x, b]) (fun v s' => ∃ c, v = .bool c ∧ Q (.done (.ret (.bool (!c)))) s') E s) :
    wpAny (model prog w) A (Builtin.«object.__ne__» ⟨[.ref x, b], []⟩) Q E s := by
  unfold Builtin.«object.__ne__»
  repeat (first
    | with_reducible refine wpAny_cRoomFor hu ?_
    | (refine wpAny_bind (m := callSpecialIfBound? (.ref x) (Str.ofString "__eq__") [b])
        (PySem.W.ifBound_K X I hs hf (wpAny_mono hcall (fun r s' hr => by
          obtain ⟨c, rfl, hq⟩ := hr
          repeat (first | exact hq | exact wpAny_pure hq | exact wpAny_truthy_bool hq | (refine wpAny_bind (m := truthy (.bool _)) (wpAny_truthy_bool ?_)) | wp_step)) fun _ _ e => e)))
    | wp_step)
theorem call_ne {Q : Value → Shared → Prop} (hu : A.in1.units < cLine) (X : K.In s.heap) (I : PySem.W.InstAt s.heap x ox C od) (hm : PySem.W.mroIn K C (.type "object") = some true) (hs : PySem.W.findIn K (.ref C) "__eq__" = some (some (.ref f))) (hf : PySem.W.isFn K (.ref f) = true)
    (hcall : wpAny (model prog w) A.in1 (call (.ref f) [.ref x, b]) (fun v s' => ∃ c, v = .bool c ∧ Q (.bool (!c)) s') E s) :
    wpAny (model prog w) A (call (.builtin "object.__ne__") [.ref x, b]) Q E s :=
  wpAny_call (codeAny_call_builtin F.cmp_object.ne.plain F.cmpEntry_ne (PySem.W.check_slot F.cmpKind_ne F.cmpSplit_ne (I.type.andThen (PySem.W.looks_mroIn X hm)) (F.cmpArgs_ne _ _) (entry_ne hu X I hs hf hcall)))
theorem ifBound_ne {args : List Value} {Q : Option Value → Shared → Prop} (X : K.In s.heap) (I : PySem.W.InstAt s.heap x ox C od) (hs : PySem.W.findIn K (.ref C) "__ne__" = some (some (.builtin "object.__ne__")))
    (h : wpAny M A (call (.builtin "object.__ne__") (.ref x :: args)) (fun v => Q (some v)) E s) : wpAny M A (callSpecialIfBound? (.ref x) "__ne__" args) Q E s := by
  simp only [callSpecialIfBound?, bindSpecialIfBound?]
  refine wpAny_holding (wpAny_bind (wpAny_bind (wpAny_bind (I.type.here ((PySem.W.looks_findIn X hs).here ?_)))))
  refine wpAny_bind (wpAny_askSetting (wpAny_ite ?_))
  have fin : wpAny M A (call (.builtin "object.__ne__") ([.ref x] ++ args) >>= fun v => pure (some v)) Q E s := wpAny_bind (wpAny_mono h (fun v s' h' => wpAny_pure h') fun _ _ h' => h')
  split
  · exact wpAny_bind (wpAny_of_eq (F.cmp_object.ne.bind _) (wpAny_pure (by exact fin)))
  · exact wpAny_tryCatch (wpAny_bind (wpAny_of_eq (F.cmp_object.ne.bind _) (wpAny_pure (by exact fin))))
theorem rc_ne {y : Value} {tb : Value} {Q : Value → Shared → Prop} (hu : A.units < cLine) (hu1 : A.in1.units < cLine) (X : K.In s.heap) (I : PySem.W.InstAt s.heap x ox C od) (hb : PySem.W.Looks (model prog w) s.heap (typeOf y) tb) (hn : PySem.W.notFirst K C tb = true)
    (hm : PySem.W.mroIn K C (.type "object") = some true) (hne : PySem.W.findIn K (.ref C) "__ne__" = some (some (.builtin "object.__ne__"))) (hs : PySem.W.findIn K (.ref C) "__eq__" = some (some (.ref f))) (hf : PySem.W.isFn K (.ref f) = true)
    (hcall : wpAny (model prog w) A.in1 (call (.ref f) [.ref x, y]) (fun v s' => ∃ c, v = .bool c ∧ Q (.bool (!c)) s') E s) : wpAny (model prog w) A (richCompare .NotEq (.ref x) y) Q E s := by
  have one : wpAny (model prog w) A (tryCompare (.ref x) "__ne__" y) (fun r s' => ∃ v, r = some v ∧ Q v s') E s := by
    unfold tryCompare
    refine wpAny_bind (ifBound_ne X I hne (call_ne hu1 X I hm hs hf (wpAny_mono hcall (fun v s' hv => ?_) fun _ _ e => e)))
    obtain ⟨c, rfl, hq⟩ := hv
    exact ⟨c, rfl, wpAny_pure ⟨_, rfl, hq⟩⟩
  unfold richCompare
  simp only [oneThing_ref]
  refine wpAny_holding (wpAny_bind (wpAny_cRoomFor hu ?_))
  refine wpAny_bind (I.type.here (wpAny_bind (hb.here ?_)))
  split
  · rename_i q
    have e : PySem.W.subIn K tb (.ref C) = some false := by
      rcases Bool.or_eq_true_iff.mp hn with e | e
      · rw [beq_iff_eq.mp e] at q; simp at q
      · exact beq_iff_eq.mp e
    refine wpAny_bind ((PySem.W.looks_subIn X e).here ?_)
    simp only [Bool.false_eq_true, if_false]
    refine wpAny_bind (wpAny_mono one (fun r s' z => ?_) fun _ _ e => e)
    obtain ⟨v, rfl, hq⟩ := z
    exact wpAny_pure hq
  · refine wpAny_bind (wpAny_pure ?_)
    simp only [Bool.false_eq_true, if_false]
    refine wpAny_bind (wpAny_mono one (fun r s' z => ?_) fun _ _ e => e)
    obtain ⟨v, rfl, hq⟩ := z
    exact wpAny_pure hq
end
end EoN
namespace L2
open PySem PySem.Spec PyProof.Rows
def rNeO (K : PySem.W.Frag) (C : Addr) (sp : Sp) (E : XK) : R2 := fun x y H Q => ∃ a dx fs, x = .ref a ∧ H a = some (.ins C dx fs) ∧ EqY K H C y ∧ sp [x, y] H (fun v H' => ∃ c, v = .bl c ∧ Q (.bl (!c)) H') E
section
variable {X : Cx} {CX : CXT} {k : Nat} {C f : Addr} {fd : FuncData} {ps : List Str} {sp : Sp} {E : XK}
theorem op_neO (F : FnOk X.prog X.w X.K X.mg X.base CX k f fd ps sp) (hs : PySem.W.findIn X.K (.ref C) "__eq__" = some (some (.ref f))) (hfn : PySem.W.isFn X.K (.ref f) = true) (hb : Binds X.K fd ps [])
    (hne : PySem.W.findIn X.K (.ref C) "__ne__" = some (some (.builtin "object.__ne__"))) (hm : PySem.W.mroIn X.K C (.type "object") = some true) (hr : Room (k + 1) X.A) (hx : Passes CX X E) : OpR X (compareOp .NotEq) (rNeO X.K C sp E) := by
  intro pins s σ H x y v u Q I rx ry h
  obtain ⟨a, dx, fs, rfl, ha, hy, q⟩ := h
  cases (show v = Value.ref a from rx)
  obtain ⟨mA, J, _⟩ := ins_get I.hok ha
  obtain ⟨od, J, _⟩ := J.look
  obtain ⟨tb, lk, nf⟩ := hy.looks I ry
  have hr1 : Room k X.A.in1 := hr.in1
  show wpAny (model X.prog X.w) X.A (richCompare .NotEq (.ref a) u) (EP X pins σ Q) X.xe s
  refine EoN.rc_ne hr.units0 hr1.units0 I.kIn J (lk _) nf hm hne hs hfn ?_
  refine wpAny_mono (eo_run F hb hx hr1 rfl I (show RelV (.ref a) (.ref a) from rfl) ry q) (fun w s' z => ?_) fun _ _ x => x
  obtain ⟨z', H', I', rz, c, ez, qz⟩ := z
  subst ez
  cases (show w = Value.bool c from rz)
  exact ⟨c, rfl, .bl (!c), H', I', rfl, qz⟩
end
end L2
set_option maxRecDepth 100000
set_option maxHeartbeats 4000000
namespace L2
open PySem PySem.Spec PyProof.Rows
theorem tuple_mulS (l : Addr) (items : Array Value) (n : Nat) (dd : Option Addr) (sl : Array (Option Value)) (x : Int) (u : Tok) (c0 : (decide (x < -(2 ^ 63)) || decide (x ≥ 2 ^ 63)) = false) (c1 : (items.isEmpty || x == 1) = true) :
    Meets (Builtin.«tuple.__mul__» ⟨[.ref l, .int x u], []⟩) (fun _ R s => s.heap.get? l = some { cls := .type "tuple", dict := dd, data := .seq items n, slots := sl } ∧ R (.ok (.ret (Value.ref l))) s) :=
  .of_wp fun prog w A R s h => by
    obtain ⟨hp, g, d, tk, os⟩ := s
    obtain ⟨hl, h⟩ := h
    have f1 := AutoSeq1.idx_int
    wp_walk using wpAny_loadPart' hl
    repeat (first
      | (refine wpAny_ite_false (decide_eq_false (by rw [c0]; exact Bool.false_ne_true)) ?_; wp_walk using wpAny_loadPart' hl)
      | (refine wpAny_ite_true (decide_eq_true (by rw [c1])) ?_; wp_walk using wpAny_loadPart' hl)
      | (refine wpAny_ite_true c1 ?_; wp_walk using wpAny_loadPart' hl))
    exact ⟨_, rfl, h⟩
def rRepA (K : PySem.W.Frag) : R2 := fun x y H Q => ∃ l k xs, x = .ref l ∧ y = .int k ∧ SqT K H l xs ∧ xs ≠ [] ∧ 1 ≤ k ∧ k ≤ 1000 ∧ xs.length ≤ 1000 ∧ (k = 1 → Q (.ref l) H) ∧ (2 ≤ k → ∀ p, H p = none → Q (.ref p) (upd H p (.tup (List.replicate k.toNat xs).flatten)))
section
variable {X : Cx} {K : PySem.W.Frag}
theorem op_repA : OpR X (binaryOp .Mult) (rRepA X.K) := by
  intro pins s σ H x y v u Q I rx ry h
  obtain ⟨l, k, xs, rfl, rfl, hT, hne, h1, h2, hz, q1, q2⟩ := h
  by_cases hk : k = 1
  · subst hk
    cases rx
    obtain ⟨t, rfl⟩ := ry
    obtain ⟨its, r, ⟨⟨cls, dd, data, sl⟩, ho, hc, n, hd⟩, hs⟩ := I.tuple hT
    simp only at hc hd
    subst hc hd
    refine wpAny_binaryOp_repeat_ref (T := "tuple") (U := "int") (by decide) ⟨_, ho, rfl⟩ (fun s' => typeIs_int s' 1 t) noFill_tuple_mul F.fills_int_mul F.slot_int_rmul repeat_tuple F.slot_int_index.lookup
      (call_meets F.slot_int_rmul (typeIs_int s 1 t) F.entry_int_rmul (F.args_int_rmul_2 _ _) (int_rmul_tuple 1 t l its.toArray n dd sl)
        ⟨ho, rfl, ⟨_, ho, rfl⟩, call_meets F.slot_tuple_mul ⟨_, ho, rfl⟩ F.entry_tuple_mul (F.args_tuple_mul_2 _ _) (tuple_mulS l its.toArray n dd sl 1 t (by decide) (by simp)) ⟨ho, ?_⟩⟩)
    exact ⟨.ref l, H, I, rfl, q1 rfl⟩
  · exact op_repT pins s σ H _ _ v u Q I rx ry ⟨l, k, xs, rfl, rfl, hT, hne, by omega, h2, hz, q2 (by omega)⟩
theorem op_repAK (h : X.K = K) : OpR X (binaryOp .Mult) (rRepA K) := by subst h; exact op_repA
def rShowS : List V → Hp → VK → Prop := fun xs H Q => ∃ x, xs = [.str x] ∧ (reprText x).length ≤ sizeLine ∧ Q (.str (reprText x)) H
theorem call_showS : CallR X (.builtin "repr") rShowS := by
  intro pins s σ H xs us Q I r h
  obtain ⟨x, rfl, hz, q⟩ := h
  obtain ⟨u, rfl, rx⟩ := vals1 r
  obtain ⟨t, rfl⟩ := rx
  exact PySem.P.repr_of_str ⟨.str (reprText x), H, I.tok _, ⟨_, rfl⟩, q⟩ hz
def rInDT (K : PySem.W.Frag) : R2 := fun x y H Q => ∃ d ds, Dp K H x d ∧ Dp K H y (.tuple ds) ∧ SeqAt.shaped d = true ∧ SeqAt.shaped (.list ds) = true ∧ Q (.bl (ds.any fun z => PyData.eqv z d)) H
theorem op_inDT (hu : X.A.units + 65 < cLine) : OpR X (compareOp .In) (rInDT X.K) := by
  intro pins s σ H x y v u Q I rx ry h
  obtain ⟨d, ds, hd, he, sd, se, q⟩ := h
  obtain ⟨as, r1⟩ := Dp.reads I d x v hd rx
  obtain ⟨bs, r2⟩ := Dp.reads I (.tuple ds) y u he ry
  exact SeqAt.in_tuple_reads r2 r1 (SeqAt.canLay_of_shaped se) (SeqAt.canLay_of_shaped sd) (room_in_shaped sd hu) ⟨.bl _, H, I, rfl, q⟩
theorem Room.units65 {k : Nat} {A : Around} (r : Room k A) : A.units + 65 < cLine := by
  have := r.un
  omega
end
end L2
set_option maxRecDepth 100000
set_option maxHeartbeats 4000000
namespace L2
open PySem PySem.Spec PyProof.Rows
def dic01 : List (Key × V) := [(Sum.inl 0, .int 1), (Sum.inl 1, .int 0)]
def dicD : PyData := .dict [(.int 0, .int 1), (.int 1, .int 0)]
inductive Shw (K : PySem.W.Frag) (H : Hp) : V → Str → Prop where
  | non : Shw K H .non "None"
  | int {i : Int} (h : i.natAbs.log2 < 1920) : Shw K H (.int i) (Str.ofString (toString i))
  | str {x : Str} (h : (reprText x).length ≤ sizeLine) : Shw K H (.str x) (reprText x)
  | ref {a : Addr} {d : PyData} (h : Dp K H (.ref a) d) (h1 : d.showable = true) (h2 : d.hasDict = false) (h3 : d.depth ≤ 60) (h4 : d.shown.length ≤ sizeLine) : Shw K H (.ref a) d.shown
  | dic {a : Addr} (h : H a = some (.dK dic01)) : Shw K H (.ref a) dicD.shown
def rShowV (K : PySem.W.Frag) : List V → Hp → VK → Prop := fun xs H Q => ∃ x t, xs = [x] ∧ Shw K H x t ∧ Q (.str t) H
section
variable {X : Cx}
theorem call_showV (hg : X.A.guards = some []) (hu : X.A.units + 64 < cLine) : CallR X (.builtin "repr") (rShowV X.K) := by
  intro pins s σ H xs us Q I r h
  obtain ⟨x, t, rfl, hs, q⟩ := h
  obtain ⟨u, rfl, rx⟩ := vals1 r
  cases hs with
  | non =>
    cases (show u = Value.none from rx)
    exact PySem.P.repr_of_none ⟨.str "None", H, I.tok _, ⟨_, rfl⟩, q⟩
  | @int i h =>
    obtain ⟨t, e⟩ := (show ∃ t, u = Value.int i t from rx)
    subst e
    exact PySem.P.repr_of_int h ⟨.str (Str.ofString (toString i)), H, I.tok _, ⟨_, rfl⟩, q⟩
  | @str x h =>
    obtain ⟨t, e⟩ := (show ∃ t, u = Value.str x t from rx)
    subst e
    exact PySem.P.repr_of_str ⟨.str (reprText x), H, I.tok _, ⟨_, rfl⟩, q⟩ h
  | @ref a d h h1 h2 h3 h4 =>
    cases (show u = Value.ref a from rx)
    obtain ⟨as, rd⟩ := Dp.reads I d (.ref a) (.ref a) h rfl
    exact repr_of_reads' rd h1 (fun z => absurd (h2.symm.trans z) (by decide)) hg (by omega) (fun b o e => e) (fun h' u tk k => ⟨.str d.shown, H, I.kept (t' := tk) k, ⟨u, rfl⟩, q⟩) h4
  | @dic a h =>
    cases (show u = Value.ref a from rx)
    obtain ⟨hz, hsys, vs, kv, o, es, ep, e, ex, hd, ks, ps, nd⟩ := (show ObjOk X.prog X.w H s.heap a (.dK dic01) from I.hok a _ h)
    obtain ⟨as, rd, hno⟩ : ∃ as, Reads s.heap (.ref a) dicD as ∧ sysModules ∉ as := by
      unfold dic01 at kv
      cases kv with
      | @cons p q1 l k1 r1 kv =>
        cases kv with
        | @cons p2 q2 l2 k2 r2 kv =>
          cases kv
          obtain ⟨qa, qb⟩ := q1
          obtain ⟨qc, qd⟩ := q2
          obtain ⟨z1, z2⟩ := r1
          obtain ⟨z3, z4⟩ := r2
          cases z1
          cases z3
          obtain ⟨t1, z2⟩ := (show ∃ t, qb = Value.int 1 t from z2)
          obtain ⟨t2, z4⟩ := (show ∃ t, qd = Value.int 0 t from z4)
          subst z2
          subst z4
          generalize hl : es.toList = el at ps
          cases ps with
          | @cons e1 kv1 es1 kvs1 i1 v1 ps =>
            cases ps with
            | @cons e2 kv2 es2 kvs2 i2 v2 ps =>
              cases ps
              have hk1 : ∃ t, e1.key = Value.int 0 t := by
                rcases keyIs_shape (show keyIs (Sum.inl 0) e1.key = true from i1) with ⟨i, t, a1, a2⟩ | ⟨y, t, a1, a2⟩
                · cases a1
                  exact ⟨t, a2⟩
                · cases a1
              have hk2 : ∃ t, e2.key = Value.int 1 t := by
                rcases keyIs_shape (show keyIs (Sum.inl 1) e2.key = true from i2) with ⟨i, t, a1, a2⟩ | ⟨y, t, a1, a2⟩
                · cases a1
                  exact ⟨t, a2⟩
                · cases a1
              obtain ⟨t3, k3⟩ := hk1
              obtain ⟨t4, k4⟩ := hk2
              refine ⟨_, Reads.dict (as := [] ++ ([] ++ [])) (bs := [] ++ ([] ++ [])) e ex.1 hd ?_ ?_, ?_⟩
              · rw [hl]
                show ReadsAll s.heap [e1.key, e2.key] [.int 0, .int 1] _
                rw [k3, k4]
                exact .cons (.int 0 t3) (.cons (.int 1 t4) .nil)
              · rw [hl]
                show ReadsAll s.heap [e1.val, e2.val] [.int 1, .int 0] _
                rw [v1, v2]
                exact .cons (.int 1 t1) (.cons (.int 0 t2) .nil)
              · intro z
                simp at z
                rw [← z] at hsys
                simp at hsys
    exact repr_of_reads' rd (by decide +kernel) (fun _ => hno) hg (by have : dicD.depth ≤ 10 := (by decide +kernel); omega) (fun b o e => e) (fun h' u tk k => ⟨.str dicD.shown, H, I.kept (t' := tk) k, ⟨u, rfl⟩, q⟩) (by decide +kernel)
end
end L2
set_option maxRecDepth 100000
set_option maxHeartbeats 4000000
namespace Tt
open PySem L2
structure DefAt (K : PySem.W.Frag) (mg : Str → Option Value) (x : Str) (st : Stmt) (ps : List Str) where
  a : Addr
  fd : FuncData
  F : Fun K x x st a fd
  g : mg x = some (.ref a)
  b : Binds K fd ps []
theorem DefAt.k {K : PySem.W.Frag} {mg : Str → Option Value} {x : Str} {st : Stmt} {ps : List Str} (d : DefAt K mg x st ps) : PySem.W.keepIn K (.ref d.a) = true := d.F.kp
structure Ex0 (K : PySem.W.Frag) (mg : Str → Option Value) (x : Str) where
  C : Addr
  g : mg x = some (.ref C)
  k : PySem.W.keepIn K (.ref C) = true
  q : PySem.W.excIn K C [.type "ValueError", .type "Exception", .type "BaseException", .type "object"] "ValueError.__new__" = true
  ty : PySem.W.typeIn K (.ref C) = some (.type "type")
  ec : ExcC K C
structure Ex1 (K : PySem.W.Frag) (mg : Str → Option Value) (x qual : Str) (st : Stmt) (ps : List Str) (field : Str) where
  C : Addr
  fI : Addr
  fd : FuncData
  g : mg x = some (.ref C)
  o : OexC K C
  i : PySem.W.findIn K (.ref C) "__init__" = some (some (.ref fI))
  t : PySem.W.typeIn K (.ref fI) = some (.type "function")
  F : Fun K "__init__" qual st fI fd
  b : Binds K fd ps []
  n : PySem.W.findIn K (.ref C) field = some none
  xf : XfC K C
  ec : ExcC K C
structure ClsAt (K : PySem.W.Frag) (mg : Str → Option Value) (x qual : Str) (st : Stmt) (ps : List Str) (attrs : List Str) where
  C : Addr
  fI : Addr
  fd : FuncData
  g : mg x = some (.ref C)
  c : Cls K C
  n : ∀ f ∈ attrs, NoAttr K C f
  kk : Mk K C fI
  F : Fun K "__init__" qual st fI fd
  b : Binds K fd ps []
  ha : PySem.W.findIn K (.ref C) "__class__" = some (some (.builtin "object.__class__"))
  hn : PySem.W.specialIn K (.builtin "object.__class__") "__get__" = some (some (.builtin "getset_descriptor.__get__"))
  ht : PySem.W.takesIn K (.builtin "object.__class__") = some true
  hm : PySem.W.mroIn K C (.type "object") = some true
structure FunC (K : PySem.W.Frag) (x qual : Str) (st : Stmt) (f : Addr) (fd : FuncData) (cdv : Value) : Prop where
  ex : ∃ (oc : Value) (od : Option Addr) (kV doc pm : Value) (an : Option Addr) (ct : Value) (osl : Array (Option Value)),
    fd = PySem.W.fnOf x qual (defArgs st) (defBody st) (defScope st) .none kV doc pm an cdv ct ∧ K.lookup f = some ⟨oc, od, .func fd, osl⟩ ∧ PySem.W.codeIn K cdv qual = true
theorem FunC.ok {P : Program} {w : World} {K : PySem.W.Frag} {mg : Str → Option Value} {base : Heap} {x qual : Str} {st : Stmt} {f : Addr} {fd : FuncData} {cdv : Value} {N ps : List Str} {k : Nat} {sp : Sp} (F : FunC K x qual st f fd cdv) (S : FnScope N ps (defScope st)) (len : ∀ vs H Q E, sp vs H Q E → vs.length = ps.length)
    (body : ∀ (A : Around) (outer : List Env) (s : Shared) (H : Hp) (vs : List V) (Q : VK) (E : XK), Room k (A.deeper (PyProof.Rows.envOfC qual (defScope st) s.heap.objs.size f cdv)) → sp vs H Q E →
      ∃ t, PSs (cxOf CX0 P w K mg base N qual (defScope st) f cdv A outer s H E).nox (defBody st) t ∧ t { nx := fun _ H' => Q .non H', rt := Q } (L2.start N vs) H) : FnOk P w K mg base CX0 (k + 1) f fd ps sp := by
  obtain ⟨oc, od, kV, doc, pm, an, ct, osl, rfl, lk, hc⟩ := F.ex
  refine fn_of lk hc S len fun A outer s H vs Q E hr h => ?_
  obtain ⟨t, h1, h2⟩ := body A outer s H vs Q E hr h
  exact ⟨t, h1.nox, h2⟩
def top (i : Nat) : Stmt := PySem.Challenge.pw_tautrounds_k03_whole_renamed_and_least_s.main.body.getD i (.Pass ⟨0, 0, 0, 0⟩)
abbrev s_BadNumber_init : Stmt := inClass (top 2) 0
abbrev N_BadNumber_init : List Str := ["self", "part"]
theorem sc_BadNumber_init : FnScope N_BadNumber_init ["self", "part"] (defScope s_BadNumber_init) := ⟨rfl, rfl, rfl, by decide +kernel, rfl, by decide +kernel, by decide +kernel⟩
abbrev s_BadSkin_init : Stmt := inClass (top 3) 0
abbrev N_BadSkin_init : List Str := ["self", "part"]
theorem sc_BadSkin_init : FnScope N_BadSkin_init ["self", "part"] (defScope s_BadSkin_init) := ⟨rfl, rfl, rfl, by decide +kernel, rfl, by decide +kernel, by decide +kernel⟩
abbrev s_is_number : Stmt := top 5
abbrev N_is_number : List Str := ["thing"]
theorem sc_is_number : FnScope N_is_number ["thing"] (defScope s_is_number) := ⟨rfl, rfl, rfl, by decide +kernel, rfl, by decide +kernel, by decide +kernel⟩
abbrev s_is_tuple : Stmt := top 6
abbrev N_is_tuple : List Str := ["thing"]
theorem sc_is_tuple : FnScope N_is_tuple ["thing"] (defScope s_is_tuple) := ⟨rfl, rfl, rfl, by decide +kernel, rfl, by decide +kernel, by decide +kernel⟩
abbrev s_is_list : Stmt := top 7
abbrev N_is_list : List Str := ["thing"]
theorem sc_is_list : FnScope N_is_list ["thing"] (defScope s_is_list) := ⟨rfl, rfl, rfl, by decide +kernel, rfl, by decide +kernel, by decide +kernel⟩
abbrev s_is_row : Stmt := top 9
abbrev N_is_row : List Str := ["row", "end"]
theorem sc_is_row : FnScope N_is_row ["row"] (defScope s_is_row) := ⟨rfl, rfl, rfl, by decide +kernel, rfl, by decide +kernel, by decide +kernel⟩
abbrev s_Skin_init : Stmt := inClass (top 10) 0
abbrev N_Skin_init : List Str := ["self", "row", "start", "end"]
theorem sc_Skin_init : FnScope N_Skin_init ["self", "row"] (defScope s_Skin_init) := ⟨rfl, rfl, rfl, by decide +kernel, rfl, by decide +kernel, by decide +kernel⟩
abbrev s_Skin_eq : Stmt := inClass (top 10) 1
abbrev N_Skin_eq : List Str := ["self", "other"]
theorem sc_Skin_eq : FnScope N_Skin_eq ["self", "other"] (defScope s_Skin_eq) := ⟨rfl, rfl, rfl, by decide +kernel, rfl, by decide +kernel, by decide +kernel⟩
abbrev s_check_skin : Stmt := top 11
abbrev N_check_skin : List Str := ["skin"]
theorem sc_check_skin : FnScope N_check_skin ["skin"] (defScope s_check_skin) := ⟨rfl, rfl, rfl, by decide +kernel, rfl, by decide +kernel, by decide +kernel⟩
abbrev s_end_behind : Stmt := top 12
abbrev N_end_behind : List Str := ["skin", "end", "steps"]
theorem sc_end_behind : FnScope N_end_behind ["skin", "end", "steps"] (defScope s_end_behind) := ⟨rfl, rfl, rfl, by decide +kernel, rfl, by decide +kernel, by decide +kernel⟩
abbrev s_least_turn : Stmt := top 13
abbrev N_least_turn : List Str := ["word", "many", "one", "other", "alike", "first", "second", "start"]
theorem sc_least_turn : FnScope N_least_turn ["word"] (defScope s_least_turn) := ⟨rfl, rfl, rfl, by decide +kernel, rfl, by decide +kernel, by decide +kernel⟩
abbrev s_rim_from : Stmt := top 14
abbrev N_rim_from : List Str := ["skin", "start", "rim", "end"]
theorem sc_rim_from : FnScope N_rim_from ["skin", "start"] (defScope s_rim_from) := ⟨rfl, rfl, rfl, by decide +kernel, rfl, by decide +kernel, by decide +kernel⟩
abbrev s_rims : Stmt := top 15
abbrev N_rims : List Str := ["skin", "found", "left", "rim", "end"]
theorem sc_rims : FnScope N_rims ["skin"] (defScope s_rims) := ⟨rfl, rfl, rfl, by decide +kernel, rfl, by decide +kernel, by decide +kernel⟩
abbrev s_mirrored : Stmt := top 16
abbrev N_mirrored : List Str := ["skin"]
theorem sc_mirrored : FnScope N_mirrored ["skin"] (defScope s_mirrored) := ⟨rfl, rfl, rfl, by decide +kernel, rfl, by decide +kernel, by decide +kernel⟩
abbrev s_is_renaming : Stmt := top 17
abbrev N_is_renaming : List Str := ["skin", "letters", "end"]
theorem sc_is_renaming : FnScope N_is_renaming ["skin", "letters"] (defScope s_is_renaming) := ⟨rfl, rfl, rfl, by decide +kernel, rfl, by decide +kernel, by decide +kernel⟩
abbrev s_renamed : Stmt := top 18
abbrev N_renamed : List Str := ["skin", "letters", "end"]
theorem sc_renamed : FnScope N_renamed ["skin", "letters"] (defScope s_renamed) := ⟨rfl, rfl, rfl, by decide +kernel, rfl, by decide +kernel, by decide +kernel⟩
abbrev s_row_read_from : Stmt := top 19
abbrev N_row_read_from : List Str := ["skin", "start", "names", "at", "end"]
theorem sc_row_read_from : FnScope N_row_read_from ["skin", "start"] (defScope s_row_read_from) := ⟨rfl, rfl, rfl, by decide +kernel, rfl, by decide +kernel, by decide +kernel⟩
abbrev s_least_skin : Stmt := top 20
abbrev N_least_skin : List Str := ["skin", "start"]
theorem sc_least_skin : FnScope N_least_skin ["skin"] (defScope s_least_skin) := ⟨rfl, rfl, rfl, by decide +kernel, rfl, by decide +kernel, by decide +kernel⟩
abbrev s_l_begun : Stmt := top 22
abbrev N_l_begun : List Str := ["script", "large", "grain"]
theorem sc_l_begun : FnScope N_l_begun ["script"] (defScope s_l_begun) := ⟨rfl, rfl, rfl, by decide +kernel, rfl, by decide +kernel, by decide +kernel⟩
abbrev s_l_mixed : Stmt := top 23
abbrev N_l_mixed : List Str := ["draw", "turn", "found", "great", "blend", "grain"]
theorem sc_l_mixed : FnScope N_l_mixed ["draw"] (defScope s_l_mixed) := ⟨rfl, rfl, rfl, by decide +kernel, rfl, by decide +kernel, by decide +kernel⟩
abbrev s_l_take : Stmt := top 24
abbrev N_l_take : List Str := ["draw", "amount", "found"]
theorem sc_l_take : FnScope N_l_take ["draw", "amount"] (defScope s_l_take) := ⟨rfl, rfl, rfl, by decide +kernel, rfl, by decide +kernel, by decide +kernel⟩
abbrev s_l_pick : Stmt := top 25
abbrev N_l_pick : List Str := ["draw", "some"]
theorem sc_l_pick : FnScope N_l_pick ["draw", "some"] (defScope s_l_pick) := ⟨rfl, rfl, rfl, by decide +kernel, rfl, by decide +kernel, by decide +kernel⟩
abbrev s_l_shuffled : Stmt := top 26
abbrev N_l_shuffled : List Str := ["draw", "some", "left", "found"]
theorem sc_l_shuffled : FnScope N_l_shuffled ["draw", "some"] (defScope s_l_shuffled) := ⟨rfl, rfl, rfl, by decide +kernel, rfl, by decide +kernel, by decide +kernel⟩
abbrev s_l_caught : Stmt := top 27
abbrev N_l_caught : List Str := ["work", "caught", "error"]
theorem sc_l_caught : FnScope N_l_caught ["work"] (defScope s_l_caught) := ⟨rfl, rfl, rfl, by decide +kernel, rfl, by decide +kernel, by decide +kernel⟩
abbrev s_l_number_error : Stmt := top 28
abbrev N_l_number_error : List Str := ["error", "part"]
theorem sc_l_number_error : FnScope N_l_number_error ["error", "part"] (defScope s_l_number_error) := ⟨rfl, rfl, rfl, by decide +kernel, rfl, by decide +kernel, by decide +kernel⟩
abbrev s_l_skin_error : Stmt := top 29
abbrev N_l_skin_error : List Str := ["error"]
theorem sc_l_skin_error : FnScope N_l_skin_error ["error"] (defScope s_l_skin_error) := ⟨rfl, rfl, rfl, by decide +kernel, rfl, by decide +kernel, by decide +kernel⟩
abbrev s_l_mate : Stmt := top 30
abbrev N_l_mate : List Str := ["end"]
theorem sc_l_mate : FnScope N_l_mate ["end"] (defScope s_l_mate) := ⟨rfl, rfl, rfl, by decide +kernel, rfl, by decide +kernel, by decide +kernel⟩
abbrev s_l_turned : Stmt := top 31
abbrev N_l_turned : List Str := ["line", "at"]
theorem sc_l_turned : FnScope N_l_turned ["line"] (defScope s_l_turned) := ⟨rfl, rfl, rfl, by decide +kernel, rfl, by decide +kernel, by decide +kernel⟩
abbrev s_l_row : Stmt := top 32
abbrev N_l_row : List Str := ["draw", "most"]
theorem sc_l_row : FnScope N_l_row ["draw", "most"] (defScope s_l_row) := ⟨rfl, rfl, rfl, by decide +kernel, rfl, by decide +kernel, by decide +kernel⟩
abbrev s_l_least_turn : Stmt := top 33
abbrev N_l_least_turn : List Str := ["word_here", "at"]
theorem sc_l_least_turn : FnScope N_l_least_turn ["word_here"] (defScope s_l_least_turn) := ⟨rfl, rfl, rfl, by decide +kernel, rfl, by decide +kernel, by decide +kernel⟩
abbrev s_l_undone : Stmt := top 34
abbrev N_l_undone : List Str := ["word_here", "letter"]
theorem sc_l_undone : FnScope N_l_undone ["word_here"] (defScope s_l_undone) := ⟨rfl, rfl, rfl, by decide +kernel, rfl, by decide +kernel, by decide +kernel⟩
abbrev s_l_rims : Stmt := top 35
abbrev N_l_rims : List Str := ["line", "many", "left", "found", "spot", "word_here", "end"]
theorem sc_l_rims : FnScope N_l_rims ["line"] (defScope s_l_rims) := ⟨rfl, rfl, rfl, by decide +kernel, rfl, by decide +kernel, by decide +kernel⟩
abbrev s_l_letters : Stmt := top 36
abbrev N_l_letters : List Str := ["draw", "many", "bands", "found", "band", "side"]
theorem sc_l_letters : FnScope N_l_letters ["draw", "many"] (defScope s_l_letters) := ⟨rfl, rfl, rfl, by decide +kernel, rfl, by decide +kernel, by decide +kernel⟩
abbrev s_l_put : Stmt := top 37
abbrev N_l_put : List Str := ["line", "letters_here", "end"]
theorem sc_l_put : FnScope N_l_put ["line", "letters_here"] (defScope s_l_put) := ⟨rfl, rfl, rfl, by decide +kernel, rfl, by decide +kernel, by decide +kernel⟩
abbrev s_l_named : Stmt := top 38
abbrev N_l_named : List Str := ["line", "names", "end", "many"]
theorem sc_l_named : FnScope N_l_named ["line"] (defScope s_l_named) := ⟨rfl, rfl, rfl, by decide +kernel, rfl, by decide +kernel, by decide +kernel⟩
abbrev s_l_least : Stmt := top 39
abbrev N_l_least : List Str := ["line", "at"]
theorem sc_l_least : FnScope N_l_least ["line"] (defScope s_l_least) := ⟨rfl, rfl, rfl, by decide +kernel, rfl, by decide +kernel, by decide +kernel⟩
abbrev s_l_renamings : Stmt := top 40
abbrev N_l_renamings : List Str := ["many", "found", "lap", "longer", "some", "end"]
theorem sc_l_renamings : FnScope N_l_renamings ["many"] (defScope s_l_renamings) := ⟨rfl, rfl, rfl, by decide +kernel, rfl, by decide +kernel, by decide +kernel⟩
abbrev s_l_is_renaming : Stmt := top 41
abbrev N_l_is_renaming : List Str := ["thing", "many", "item", "end"]
theorem sc_l_is_renaming : FnScope N_l_is_renaming ["thing", "many"] (defScope s_l_is_renaming) := ⟨rfl, rfl, rfl, by decide +kernel, rfl, by decide +kernel, by decide +kernel⟩
abbrev s_l_judged : Stmt := top 42
abbrev N_l_judged : List Str := ["draw", "skin", "letters_here", "at", "bent", "moved", "odd", "thing", "found", "shown", "error"]
theorem sc_l_judged : FnScope N_l_judged ["draw", "skin", "letters_here"] (defScope s_l_judged) := ⟨rfl, rfl, rfl, by decide +kernel, rfl, by decide +kernel, by decide +kernel⟩
abbrev s_l_renamed_right : Stmt := top 43
abbrev N_l_renamed_right : List Str := ["draw", "skin", "letters_here", "due", "told", "words", "back", "end", "rim"]
theorem sc_l_renamed_right : FnScope N_l_renamed_right ["draw", "skin"] (defScope s_l_renamed_right) := ⟨rfl, rfl, rfl, by decide +kernel, rfl, by decide +kernel, by decide +kernel⟩
abbrev s_law : Stmt := top 44
abbrev N_law : List Str := ["script", "draw", "turn", "line", "skin", "due", "other", "no", "error", "some"]
theorem sc_law : FnScope N_law ["script"] (defScope s_law) := ⟨rfl, rfl, rfl, by decide +kernel, rfl, by decide +kernel, by decide +kernel⟩
structure Txt (K : PySem.W.Frag) (mg : Str → Option Value) where
  RoundError : Ex0 K mg "RoundError"
  BadNumber : Ex1 K mg "BadNumber" "BadNumber.__init__" s_BadNumber_init ["self", "part"] "part"
  BadSkin : Ex1 K mg "BadSkin" "BadSkin.__init__" s_BadSkin_init ["self", "part"] "part"
  is_number : DefAt K mg "is_number" s_is_number ["thing"]
  is_tuple : DefAt K mg "is_tuple" s_is_tuple ["thing"]
  is_list : DefAt K mg "is_list" s_is_list ["thing"]
  is_row : DefAt K mg "is_row" s_is_row ["row"]
  Skin : ClsAt K mg "Skin" "Skin.__init__" s_Skin_init ["self", "row"] ["row", "bands", "places"]
  check_skin : DefAt K mg "check_skin" s_check_skin ["skin"]
  end_behind : DefAt K mg "end_behind" s_end_behind ["skin", "end", "steps"]
  least_turn : DefAt K mg "least_turn" s_least_turn ["word"]
  rim_from : DefAt K mg "_rim_from" s_rim_from ["skin", "start"]
  rims : DefAt K mg "rims" s_rims ["skin"]
  mirrored : DefAt K mg "mirrored" s_mirrored ["skin"]
  is_renaming : DefAt K mg "is_renaming" s_is_renaming ["skin", "letters"]
  renamed : DefAt K mg "renamed" s_renamed ["skin", "letters"]
  row_read_from : DefAt K mg "_row_read_from" s_row_read_from ["skin", "start"]
  least_skin : DefAt K mg "least_skin" s_least_skin ["skin"]
  l_begun : DefAt K mg "_law_begun" s_l_begun ["script"]
  l_mixed : DefAt K mg "_law_mixed" s_l_mixed ["draw"]
  l_take : DefAt K mg "_law_take" s_l_take ["draw", "amount"]
  l_pick : DefAt K mg "_law_pick" s_l_pick ["draw", "some"]
  l_shuffled : DefAt K mg "_law_shuffled" s_l_shuffled ["draw", "some"]
  l_caught : DefAt K mg "_law_caught" s_l_caught ["work"]
  l_number_error : DefAt K mg "_law_number_error" s_l_number_error ["error", "part"]
  l_skin_error : DefAt K mg "_law_skin_error" s_l_skin_error ["error"]
  l_mate : DefAt K mg "_law_mate" s_l_mate ["end"]
  l_turned : DefAt K mg "_law_turned" s_l_turned ["line"]
  l_row : DefAt K mg "_law_row" s_l_row ["draw", "most"]
  l_least_turn : DefAt K mg "_law_least_turn" s_l_least_turn ["word_here"]
  l_undone : DefAt K mg "_law_undone" s_l_undone ["word_here"]
  l_rims : DefAt K mg "_law_rims" s_l_rims ["line"]
  l_letters : DefAt K mg "_law_letters" s_l_letters ["draw", "many"]
  l_put : DefAt K mg "_law_put" s_l_put ["line", "letters_here"]
  l_named : DefAt K mg "_law_named" s_l_named ["line"]
  l_least : DefAt K mg "_law_least" s_l_least ["line"]
  l_renamings : DefAt K mg "_law_renamings" s_l_renamings ["many"]
  l_is_renaming : DefAt K mg "_law_is_renaming" s_l_is_renaming ["thing", "many"]
  l_judged : DefAt K mg "_law_judged" s_l_judged ["draw", "skin", "letters_here"]
  l_renamed_right : DefAt K mg "_law_renamed_right" s_l_renamed_right ["draw", "skin"]
  law : DefAt K mg "law" s_law ["script"]
  zabs : mg "abs" = none
  zall : mg "all" = none
  zbool : mg "bool" = none
  zint : mg "int" = none
  zisinstance : mg "isinstance" = none
  zlen : mg "len" = none
  zlist : mg "list" = none
  zmin : mg "min" = none
  zrange : mg "range" = none
  zrepr : mg "repr" = none
  zsorted : mg "sorted" = none
  ztuple : mg "tuple" = none
  ztype : mg "type" = none
  kSS : PySem.W.kitOne K (.ref Skin.C) (.ref Skin.C) = some true
  kST : PySem.W.kitOne K (.type "tuple") (.ref Skin.C) = some false
  kSN : PySem.W.kitOne K (.type "NoneType") (.ref Skin.C) = some false
  kSL : PySem.W.kitOne K (.type "list") (.ref Skin.C) = some false
  kSI : PySem.W.kitOne K (.type "int") (.ref Skin.C) = some false
  kSkSk : PySem.W.kitOne K (.ref BadSkin.C) (.ref BadSkin.C) = some true
  kSY : PySem.W.kitOne K (.type "str") (.ref Skin.C) = some false
  sSR : PySem.W.subIn K (.ref BadSkin.C) (.ref RoundError.C) = some true
  kNN : PySem.W.kitOne K (.ref BadNumber.C) (.ref BadNumber.C) = some true
  sNR : PySem.W.subIn K (.ref BadNumber.C) (.ref RoundError.C) = some true
  kNoL : PySem.W.kitOne K (.type "NoneType") (.type "list") = some false
  kInL : PySem.W.kitOne K (.type "int") (.type "list") = some false
  kStL : PySem.W.kitOne K (.type "str") (.type "list") = some false
  kDiL : PySem.W.kitOne K (.type "dict") (.type "list") = some false
  kTuL : PySem.W.kitOne K (.type "tuple") (.type "list") = some false
  kNoT : PySem.W.kitOne K (.type "NoneType") (.type "tuple") = some false
  kInT : PySem.W.kitOne K (.type "int") (.type "tuple") = some false
  kStT : PySem.W.kitOne K (.type "str") (.type "tuple") = some false
  kDiT : PySem.W.kitOne K (.type "dict") (.type "tuple") = some false
  kBoI : PySem.W.kitOne K (.type "bool") (.type "int") = some true
  kNoI : PySem.W.kitOne K (.type "NoneType") (.type "int") = some false
  kStI : PySem.W.kitOne K (.type "str") (.type "int") = some false
  kTuI : PySem.W.kitOne K (.type "tuple") (.type "int") = some false
  kLiI : PySem.W.kitOne K (.type "list") (.type "int") = some false
  kInB : PySem.W.kitOne K (.type "int") (.type "bool") = some false
  eqM : MetAt K "__eq__" "Skin.__eq__" s_Skin_eq ["self", "other"] Skin.C
  neO : PySem.W.findIn K (.ref Skin.C) "__ne__" = some (some (.builtin "object.__ne__"))
  jc : Addr
  jP : Addr
  jF : FunC K "_law_judged" "_law_judged" s_l_judged l_judged.a l_judged.fd (.ref jc)
  lc : Addr
  lP : Addr
  lF : FunC K "law" "law" s_law law.a law.fd (.ref lc)
  ne : jP ≠ lP
structure Dw where
  d : Addr
  l : Addr
  c : Addr
def drK (D : Dw) (r t : Int) : List (Key × V) := [(Sum.inr "large", .ref D.l), (Sum.inr "rest", .int r), (Sum.inr "cells", .ref D.c), (Sum.inr "turn", .int t)]
structure DrAt (D : Dw) (H : Hp) (ls cs : List Int) (r t : Int) : Prop where
  hd : H D.d = some (.dK (drK D r t))
  hl : H D.l = some (.lst (ls.map V.int))
  hc : H D.c = some (.lst (cs.map V.int))
  ne : D.l ≠ D.c
  nl : ls.length ≤ 63
  nc : cs.length ≤ 63
def DrOk (D : Dw) (H : Hp) : Prop := ∃ ls cs r t, DrAt D H ls cs r t
def Kp (D : Dw) (H H' : Hp) : Prop := ∀ b o, H b = some o → b ≠ D.d → b ≠ D.l → H' b = some o
theorem Kp.refl {D : Dw} {H : Hp} : Kp D H H := fun _ _ h _ _ => h
theorem Kp.trans {D : Dw} {H H1 H2 : Hp} (a : Kp D H H1) (b : Kp D H1 H2) : Kp D H H2 := fun c o h n m => b c o (a c o h n m) n m
theorem Kp.of {D : Dw} {H H' : Hp} (a : Same H H') : Kp D H H' := fun c o h _ _ => a c o h
theorem Kp.new {D : Dw} {H : Hp} {p : Addr} {o : HO} (h : H p = none) : Kp D H (upd H p o) := fun c u e _ _ => by
  rw [upd_ne (ne_of_none e h)]
  exact e
theorem DrAt.dne {D : Dw} {H : Hp} {ls cs : List Int} {r t : Int} (h : DrAt D H ls cs r t) {b : Addr} {o : HO} (e : H b = some o) (n : ∀ kvs, o ≠ .dK kvs) : b ≠ D.d := fun z => by
  rw [z, h.hd] at e
  exact n _ (Option.some.inj e).symm
theorem DrAt.lne {D : Dw} {H : Hp} {ls cs : List Int} {r t : Int} (h : DrAt D H ls cs r t) {b : Addr} {o : HO} (e : H b = some o) (n : ∀ xs, o ≠ .lst xs) : b ≠ D.l := fun z => by
  rw [z, h.hl] at e
  exact n _ (Option.some.inj e).symm
theorem DrAt.new {D : Dw} {H : Hp} {ls cs : List Int} {r t : Int} (h : DrAt D H ls cs r t) {p : Addr} {o : HO} (n : H p = none) : DrAt D (upd H p o) ls cs r t :=
  ⟨by rw [upd_ne (ne_of_none h.hd n)]; exact h.hd, by rw [upd_ne (ne_of_none h.hl n)]; exact h.hl, by rw [upd_ne (ne_of_none h.hc n)]; exact h.hc, h.ne, h.nl, h.nc⟩
theorem DrAt.same {D : Dw} {H H' : Hp} {ls cs : List Int} {r t : Int} (h : DrAt D H ls cs r t) (s : Same H H') : DrAt D H' ls cs r t := ⟨s _ _ h.hd, s _ _ h.hl, s _ _ h.hc, h.ne, h.nl, h.nc⟩
theorem DrAt.nelc {D : Dw} {H : Hp} {ls cs : List Int} {r t : Int} (h : DrAt D H ls cs r t) : D.l ≠ D.d := h.dne h.hl (fun _ z => nomatch z)
theorem DrAt.necd {D : Dw} {H : Hp} {ls cs : List Int} {r t : Int} (h : DrAt D H ls cs r t) : D.c ≠ D.d := h.dne h.hc (fun _ z => nomatch z)
theorem DrAt.put {D : Dw} {H : Hp} {ls cs : List Int} {r t r' t' : Int} (h : DrAt D H ls cs r t) : DrAt D (upd H D.d (.dK (drK D r' t'))) ls cs r' t' :=
  ⟨upd_same, by rw [upd_ne h.nelc]; exact h.hl, by rw [upd_ne h.necd]; exact h.hc, h.ne, h.nl, h.nc⟩
theorem Kp.put {D : Dw} {H : Hp} {o : HO} : Kp D H (upd H D.d o) := fun b u e n _ => by rw [upd_ne n]; exact e
theorem Kp.putl {D : Dw} {H : Hp} {o : HO} : Kp D H (upd H D.l o) := fun b u e _ n => by rw [upd_ne n]; exact e
theorem DrAt.pop {D : Dw} {H : Hp} {ls cs ls' : List Int} {r t : Int} (h : DrAt D H ls cs r t) (n : ls'.length ≤ 63) : DrAt D (upd H D.l (.lst (ls'.map V.int))) ls' cs r t :=
  ⟨by rw [upd_ne h.nelc.symm]; exact h.hd, upd_same, by rw [upd_ne h.ne.symm]; exact h.hc, h.ne, n, h.nc⟩
theorem val_large (D : Dw) (r t : Int) : valV (drK D r t) (Sum.inr "large") = some (.ref D.l) := rfl
theorem val_rest (D : Dw) (r t : Int) : valV (drK D r t) (Sum.inr "rest") = some (.int r) := rfl
theorem val_cells (D : Dw) (r t : Int) : valV (drK D r t) (Sum.inr "cells") = some (.ref D.c) := rfl
theorem val_turn (D : Dw) (r t : Int) : valV (drK D r t) (Sum.inr "turn") = some (.int t) := rfl
theorem put_rest (D : Dw) (r t r' : Int) : putK (drK D r t) (Sum.inr "rest") (.int r') = drK D r' t := rfl
theorem put_turn (D : Dw) (r t t' : Int) : putK (drK D r t) (Sum.inr "turn") (.int t') = drK D r t' := rfl
end Tt
set_option maxRecDepth 100000
set_option maxHeartbeats 4000000
namespace Tt
open PySem L2
local macro_rules | `(tactic| walk_at "v") => `(tactic| refine ⟨_, rfl, ?_⟩)
local macro_rules | `(tactic| walk_at "ii") => `(tactic| refine ⟨_, _, rfl, rfl, ?_⟩)
section
variable {P : Program} {w : World} {K : PySem.W.Frag} {mg : Str → Option Value} {base : Heap}
def spMixed : Sp := fun vs H Q _ => ∃ D : Dw, vs = [.ref D.d] ∧ DrOk D H ∧ ∀ z H', DrOk D H' → Kp D H H' → Q (.int z) H'
theorem ok_l_mixed (T : Txt K mg) : FnOk P w K mg base CX0 1 T.l_mixed.a T.l_mixed.fd ["draw"] spMixed := by
  refine T.l_mixed.F.ok sc_l_mixed (fun vs H Q E h => ?_) (fun cdv A outer s H vs Q E hr h => ?_)
  · obtain ⟨D, rfl, _⟩ := h
    rfl
  · obtain ⟨D, rfl, ⟨ls, cs, r, t, dr⟩, k⟩ := h
    have hu := hu_of hr
    have nd := sc_l_mixed.nd
    refine ⟨_, pss_cons (ps_dput hu (pv 0) pe_str (pe_op op_add (pe_dget hu (pv 0) pe_str (fun _ _ => rfl)) pe_int) rfl)
      (pss_cons (ps_par (i := 1) (j := 2) rfl nd rfl rfl (by decide) rfl rfl (pa_cons (pe_callTy call_int1 (by rfl) T.zint (by decide +kernel) (pa_cons (pe_dget hu (pv 0) pe_str (fun _ _ => rfl)) pa_nil)) (pa_cons pe_int pa_nil)) rfl)
      (pss_cons (ps_for PassesOwn.never rfl (pi_list (pe_lst (pa_cons pe_int (pa_cons pe_int (pa_cons pe_int pa_nil))))) (pg_name (i := 3) nd rfl (Or.inl rfl))
        (pss_cons (ps_set (i := 4) nd rfl (Or.inl rfl) (pe_op op_mod (pe_op op_add (pe_op op_mul (pv 1) pe_int) (pe_op op_fdiv (pv 3) pe_int)) (pv 3)))
        (pss_cons (ps_for PassesOwn.never rfl (pi_list (pe_dget hu (pv 0) pe_str (fun _ _ => rfl))) (pg_name (i := 5) nd rfl (Or.inl rfl))
          (pss_one (ps_set (i := 4) nd rfl (Or.inl rfl) (pe_op op_mod (pe_op op_add (pe_op op_mul (pv 4) pe_int) (pe_callTy call_int1 (by rfl) T.zint (by decide +kernel) (pa_cons (pv 5) pa_nil))) (pv 3)))))
        (pss_one (ps_set (i := 2) nd rfl (Or.inl rfl) (pe_op op_add (pe_op op_mul (pv 2) pe_int) (pe_op op_mod (pe_op op_pow (pv 4) pe_int) (pv 3))))))))
      (pss_one (ps_ret (pv 2))))), ?_⟩
    refine ⟨_, rfl, _, _, rfl, DGet.k (k := Sum.inr "turn") dr.hd, _, _, rfl, rfl, _, rfl, _, _, rfl, DPut.k (k := Sum.inr "turn") dr.hd (small1000 (by show 4 ≤ 1000; decide)), ?_⟩
    have dr1 : DrAt D (upd H D.d (.dK (drK D r (t + 1)))) ls cs r (t + 1) := dr.put
    have k1 : Kp D H (upd H D.d (.dK (drK D r (t + 1)))) := Kp.put
    generalize hH1 : upd H D.d (.dK (drK D r (t + 1))) = H1 at dr1 k1
    have eH1 : upd H D.d (.dK (putK (drK D r t) (Sum.inr "turn") (.int (t + 1)))) = H1 := hH1
    rw [eH1]
    refine ⟨_, rfl, _, _, rfl, DGet.k (k := Sum.inr "turn") dr1.hd, .inl ⟨_, rfl, ?_⟩⟩
    refine ⟨_, _, rfl, ?_⟩
    refine ⟨(by show 3 ≤ sizeLine; decide), fun p hp => ?_⟩
    have dr2 := dr1.new (o := .lst [.int 2147483629, .int 2147483587, .int 2147483579]) hp
    have k2 : Kp D H1 (upd H1 p (.lst [.int 2147483629, .int 2147483587, .int 2147483579])) := Kp.new hp
    refine ⟨p, rfl, ⟨_, SqL.of upd_same⟩, ?_⟩
    have hp2 : (upd H1 p (.lst [.int 2147483629, .int 2147483587, .int 2147483579])) p = some (.lst [.int 2147483629, .int 2147483587, .int 2147483579]) := upd_same
    generalize upd H1 p (.lst [.int 2147483629, .int 2147483587, .int 2147483579]) = H2 at dr2 k2 hp2
    refine for_list (K := K) (a := p) (xs := [.int 2147483629, .int 2147483587, .int 2147483579]) (fun i σ H' => H' = H2 ∧ ∃ f v3 v4 v5, σ = [some (.ref D.d), some (.int (t + 1)), some (.int f), v3, v4, v5])
      ⟨rfl, 0, _, _, _, rfl⟩ (fun i σ H' _ q => by rw [q.1]; exact SqL.of hp2) ?_ ?_
    · rintro i x σ H' hi ⟨rfl, f, v3, v4, v5, rfl⟩
      obtain ⟨g, rfl, g0, g1⟩ : ∃ g : Int, x = .int g ∧ 0 < g ∧ g < 2147483648 := by
        match i, hi with
        | 0, hi => exact ⟨_, (Option.some.inj hi).symm, by decide, by decide⟩
        | 1, hi => exact ⟨_, (Option.some.inj hi).symm, by decide, by decide⟩
        | 2, hi => exact ⟨_, (Option.some.inj hi).symm, by decide, by decide⟩
      refine ⟨_, rfl, _, _, rfl, rfl, .inr ⟨by decide, by decide⟩, _, rfl, _, _, rfl, rfl, ⟨by decide, by decide⟩, _, _, rfl, rfl, _, rfl, _, _, rfl, rfl, g0, ?_⟩
      refine ⟨_, rfl, _, _, rfl, DGet.k (k := Sum.inr "cells") dr2.hd, _, rfl, ⟨_, SqL.of dr2.hc⟩, ?_⟩
      refine for_list (K := K) (a := D.c) (xs := cs.map V.int) (fun i σ H'' => H'' = H' ∧ ∃ b v5, (0 ≤ b ∧ b < g) ∧ σ = [some (.ref D.d), some (.int (t + 1)), some (.int f), some (.int g), some (.int b), v5])
        ⟨rfl, _, _, ⟨Int.emod_nonneg _ (by omega), Int.emod_lt_of_pos _ g0⟩, rfl⟩ (fun i σ H'' _ q => by rw [q.1]; exact SqL.of dr2.hc) ?_ ?_
      · rintro j y σ H'' hj ⟨rfl, b, v5, hb, rfl⟩
        obtain ⟨z, rfl⟩ : ∃ z, y = V.int z := by
          rw [List.getElem?_map] at hj
          cases e : cs[j]? with
          | none => rw [e] at hj; cases hj
          | some z => rw [e] at hj; exact ⟨z, (Option.some.inj hj).symm⟩
        refine ⟨_, rfl, _, _, rfl, rfl, .inr ⟨by decide, by decide⟩, _, rfl, .inl ⟨_, rfl, _, _, rfl, rfl, _, rfl, _, _, rfl, rfl, g0, ?_⟩⟩
        exact ⟨rfl, _, _, ⟨Int.emod_nonneg _ (by omega), Int.emod_lt_of_pos _ g0⟩, rfl⟩
      · rintro σ H'' ⟨rfl, b, v5, hb, rfl⟩
        refine ⟨_, rfl, _, _, rfl, rfl, .inr ⟨by decide, by decide⟩, _, rfl, _, _, rfl, rfl, ⟨by decide, by decide, by omega⟩, _, rfl, _, _, rfl, rfl, g0, _, _, rfl, rfl, ?_⟩
        exact ⟨rfl, _, _, _, _, rfl⟩
    · rintro σ H' ⟨rfl, f, v3, v4, v5, rfl⟩
      refine ⟨_, rfl, ?_⟩
      exact k _ _ ⟨_, _, _, _, dr2⟩ (k1.trans k2)
end
end Tt
set_option maxRecDepth 100000
set_option maxHeartbeats 4000000
namespace Tt
open PySem L2
section
variable {P : Program} {w : World} {K : PySem.W.Frag} {mg : Str → Option Value} {base : Heap}
theorem dpAll_ints (H : Hp) : ∀ ls : List Int, DpAll K H (ls.map V.int) (ls.map PyData.int)
  | [] => .nil
  | a :: l => .cons (.int a) (dpAll_ints H l)
theorem shapedAll_ints : ∀ ls : List Int, SeqAt.shaped (.list (ls.map PyData.int)) = true
  | [] => by first | rfl | decide
  | a :: l => by
    have h := shapedAll_ints l
    first | exact h | (simp [SeqAt.shaped] at h ⊢) | trace_state
theorem eqv_nil (ls : List Int) : PyData.eqv (.list (ls.map PyData.int)) (.list []) = decide (ls = []) := by
  cases ls with
  | nil => rfl
  | cons a l => simp [PyData.eqv] <;> rfl
theorem yes_t {σ : L2.St} {H : Hp} {A B : Hp → Prop} (h : A H) : tYes σ H (fun b H3 => if b = true then A H3 else B H3) := by
  show if true = true then A H else B H
  rw [if_pos rfl]
  exact h
theorem ints_at {cs : List Int} {j : Nat} {y : V} (hj : (cs.map V.int)[j]? = some y) : ∃ z, y = V.int z ∧ cs[j]? = some z := by
  rw [List.getElem?_map] at hj
  cases e : cs[j]? with
  | none => rw [e] at hj; cases hj
  | some z => rw [e] at hj; exact ⟨z, (Option.some.inj hj).symm, rfl⟩
def spTake : Sp := fun vs H Q _ => ∃ (D : Dw) (m : Int), vs = [.ref D.d, .int m] ∧ 0 < m ∧ m < 1073741824 ∧ DrOk D H ∧ ∀ n H', 0 ≤ n → n < m → DrOk D H' → Kp D H H' → Q (.int n) H'
theorem ok_l_take (T : Txt K mg) : FnOk P w K mg base CX0 2 T.l_take.a T.l_take.fd ["draw", "amount"] spTake := by
  refine T.l_take.F.ok sc_l_take (fun vs H Q E h => ?_) (fun cdv A outer s H vs Q E hr h => ?_)
  · obtain ⟨D, m, rfl, _⟩ := h
    rfl
  · obtain ⟨D, m, rfl, m0, m1, ⟨ls, cs, r, t, dr⟩, k⟩ := h
    have hu := hu_of hr
    have nd := sc_l_take.nd
    refine ⟨_, (pss_cons (ps_if (pt_cmpR op_eq (pe_dget hu (pv 0) pe_str (fun _ _ => rfl)) pe_int (nomark _))
      (pss_one (ps_dput hu (pv 0) pe_str (pe_ifExp (pt_cmpR (op_neD hr.units) (pe_dget hu (pv 0) pe_str (fun _ _ => rfl)) (pe_lst pa_nil) (nomark _)) (pe_bm PySem.F.plainAttrs_list PySem.F.slot_list_pop PySem.F.type_list_pop mt_popAt (pe_dget hu (pv 0) pe_str (fun _ _ => rfl)) (pa_cons pe_int pa_nil)) (pe_call (ok_l_mixed T) (hr.mono (by decide)) (by rfl) T.l_mixed.g T.l_mixed.k T.l_mixed.b .nil pass0 (pa_cons (pv 0) pa_nil))) rfl))
      pss_nil)
    (pss_cons (ps_set (i := 2) nd rfl (Or.inl rfl) (pe_op op_mod (pe_callTy call_int1 (by rfl) T.zint (by decide +kernel) (pa_cons (pe_dget hu (pv 0) pe_str (fun _ _ => rfl)) pa_nil)) (pv 1)))
    (pss_cons (ps_dput hu (pv 0) pe_str (pe_op op_fdiv (pe_callTy call_int1 (by rfl) T.zint (by decide +kernel) (pa_cons (pe_dget hu (pv 0) pe_str (fun _ _ => rfl)) pa_nil)) (pv 1)) rfl)
    (pss_one (ps_ret (pv 2)))))), ?_⟩
    refine ⟨_, rfl, _, _, rfl, DGet.k (k := Sum.inr "rest") dr.hd, rfl, _, rfl, ?_⟩
    have fin : ∀ r' ls' cs' t' H', DrAt D H' ls' cs' r' t' → Kp D H H' → tSeq (tAsg (tOp (rI (fun _ j => 0 < j) fun i j => .int (i % j)) (tCB (fun xs H Q => (∃ i, xs = [.int i] ∧ Q (.int i) H) ∨ ∃ k, xs = [.bl k] ∧ Q (.int (if k then 1 else 0)) H) (tCons (tDGet (tVar 0) (tC (.str "rest"))) tNil)) (tVar 1)) (gName 2))
        (tSeq (sDPut (tVar 0) (tC (.str "rest")) (tOp (rI CDiv fun i j => .int (i / j)) (tCB (fun xs H Q => (∃ i, xs = [.int i] ∧ Q (.int i) H) ∨ ∃ k, xs = [.bl k] ∧ Q (.int (if k then 1 else 0)) H) (tCons (tDGet (tVar 0) (tC (.str "rest"))) tNil)) (tVar 1))) (tRet (tVar 2))) { nx := fun _ H' => Q .non H', rt := Q } [some (.ref D.d), some (.int m), none] H' := by
      intro r' ls' cs' t' H' d' k'
      refine ⟨_, rfl, _, _, rfl, DGet.k (k := Sum.inr "rest") d'.hd, .inl ⟨_, rfl, _, rfl, _, _, rfl, rfl, m0, ?_⟩⟩
      refine ⟨_, rfl, _, _, rfl, DGet.k (k := Sum.inr "rest") d'.hd, .inl ⟨_, rfl, _, rfl, _, _, rfl, rfl, ⟨m0, m1⟩, _, rfl, _, _, rfl, DPut.k (k := Sum.inr "rest") d'.hd (small1000 (by show 4 ≤ 1000; decide)), ?_⟩⟩
      refine ⟨_, rfl, k _ _ (Int.emod_nonneg _ (by omega)) (Int.emod_lt_of_pos _ m0) ⟨ls', cs', r' / m, t', ?_⟩ (k'.trans ?_)⟩
      · exact d'.put
      · exact Kp.put
    refine ite2 (fun _ => ?_) (fun _ => fin r ls cs t H dr Kp.refl)
    refine ⟨_, rfl, _, _, rfl, DGet.k (k := Sum.inr "large") dr.hd, (by show 0 ≤ sizeLine; decide), fun p hp => ?_⟩
    have dr1 := dr.new (o := .lst []) hp
    have k1 : Kp D H (upd H p (.lst [])) := Kp.new hp
    refine ⟨_, _, .lst (SqL.of dr1.hl) (dpAll_ints _ ls), .lst (SqL.of upd_same) .nil, shapedAll_ints ls, rfl, _, rfl, ?_⟩
    rw [eqv_nil]
    cases ls with
    | nil =>
      refine iteF ?_
      refine ⟨_, rfl, D, rfl, ⟨_, _, _, _, dr1⟩, fun z H2 ⟨ls2, cs2, r2, t2, d2⟩ k2 => ?_⟩
      refine ⟨_, rfl, _, _, rfl, DPut.k (k := Sum.inr "rest") d2.hd (small1000 (by show 4 ≤ 1000; decide)), ?_⟩
      exact fin z ls2 cs2 t2 _ (d2.put : DrAt D (upd H2 D.d (.dK (drK D z t2))) ls2 cs2 z t2) ((k1.trans k2).trans Kp.put)
    | cons a l =>
      refine iteT ?_
      refine ⟨_, rfl, _, _, rfl, DGet.k (k := Sum.inr "large") dr1.hd, .inl ⟨rfl, _, SqL.of dr1.hl⟩, D.l, _, 0, 0, _, rfl, rfl, dr1.hl, by decide, by decide, by simp [seqIndex?], rfl, ?_⟩
      have d2 : DrAt D (upd (upd H p (.lst [])) D.l (.lst (l.map V.int))) l cs r t := dr1.pop (Nat.le_trans (Nat.le_succ _) dr.nl)
      refine ⟨_, rfl, _, _, rfl, DPut.k (k := Sum.inr "rest") d2.hd (small1000 (by show 4 ≤ 1000; decide)), ?_⟩
      exact fin a l cs t _ (d2.put : DrAt D (upd _ D.d (.dK (drK D a t))) l cs a t) ((k1.trans Kp.putl).trans Kp.put)
def spPick (K : PySem.W.Frag) : Sp := fun vs H Q _ => ∃ (D : Dw) (p : Addr) (xs : List V), vs = [.ref D.d, .ref p] ∧ (SqL K H p xs ∨ SqT K H p xs) ∧ p ≠ D.l ∧ xs ≠ [] ∧ xs.length < 1073741824 ∧ DrOk D H ∧
  ∀ (i : Nat) x H', xs[i]? = some x → DrOk D H' → Kp D H H' → Q x H'
theorem Kp.seqL {D : Dw} {H H' : Hp} {p : Addr} {xs : List V} (k : Kp D H H') (dr : DrOk D H) (n : p ≠ D.l) (h : SqL K H p xs) : SqL K H' p xs := by
  obtain ⟨ls, cs, r, t, d⟩ := dr
  rcases h with (h | ⟨o, h⟩) | h
  · exact .inl (.inl (k _ _ h (d.dne h fun _ z => nomatch z) n))
  · exact .inl (.inr ⟨o, k _ _ h (d.dne h fun _ z => nomatch z) n⟩)
  · exact .inr h
theorem Kp.seqT {D : Dw} {H H' : Hp} {p : Addr} {xs : List V} (k : Kp D H H') (dr : DrOk D H) (h : SqT K H p xs) : SqT K H' p xs := by
  obtain ⟨ls, cs, r, t, d⟩ := dr
  rcases h with (h | ⟨o, h⟩) | h
  · exact .inl (.inl (k _ _ h (d.dne h fun _ z => nomatch z) (d.lne h fun _ z => nomatch z)))
  · exact .inl (.inr ⟨o, k _ _ h (d.dne h fun _ z => nomatch z) (d.lne h fun _ z => nomatch z)⟩)
  · exact .inr h
theorem ok_l_pick (T : Txt K mg) : FnOk P w K mg base CX0 3 T.l_pick.a T.l_pick.fd ["draw", "some"] (spPick K) := by
  refine T.l_pick.F.ok sc_l_pick (fun vs H Q E h => ?_) (fun cdv A outer s H vs Q E hr h => ?_)
  · obtain ⟨D, p, xs, rfl, _⟩ := h
    rfl
  · obtain ⟨D, p, xs, rfl, hs, np, ne, ln, dr, k⟩ := h
    have hu := hu_of hr
    have nd := sc_l_pick.nd
    refine ⟨_, (pss_one (ps_ret (pe_ix (IxR.or ix_list ix_tup) (pv 1) (pe_call (ok_l_take T) (hr.mono (by decide)) (by rfl) T.l_take.g T.l_take.k T.l_take.b .nil pass0 (pa_cons (pv 0) (pa_cons (pe_callB call_len_seq (by rfl) T.zlen (by decide +kernel) (pa_cons (pv 1) pa_nil)) pa_nil))) (fun _ _ => rfl)))), ?_⟩
    have l0 : 0 < xs.length := List.length_pos_iff.mpr ne
    refine ⟨_, rfl, _, rfl, _, rfl, p, xs, rfl, hs, D, (xs.length : Int), rfl, by omega, by omega, dr, fun n H' n0 n1 dr' k' => ?_⟩
    obtain ⟨m, rfl⟩ := Int.eq_ofNat_of_zero_le n0
    have hn : m < xs.length := by omega
    have hat : atI xs (m : Int) = some xs[m] := atI_nat (List.getElem?_eq_getElem hn)
    have fin : Q xs[m] H' := k m _ H' (List.getElem?_eq_getElem hn) dr' k'
    rcases hs with hs | hs
    · exact .inl ⟨p, xs, m, _, rfl, rfl, k'.seqL dr np hs, hat, fin⟩
    · exact .inr ⟨p, xs, m, _, rfl, rfl, k'.seqT dr hs, hat, fin⟩
def spBegun (K : PySem.W.Frag) : Sp := fun vs H Q _ => ∃ (a : Addr) (ns : List Int), vs = [.ref a] ∧ SqL K H a (ns.map V.int) ∧ ns.length ≤ 63 ∧ ∀ (D : Dw) H', DrOk D H' → Same H H' → Q (.ref D.d) H'
theorem ok_l_begun (T : Txt K mg) : FnOk P w K mg base CX0 1 T.l_begun.a T.l_begun.fd ["script"] (spBegun K) := by
  refine T.l_begun.F.ok sc_l_begun (fun vs H Q E h => ?_) (fun cdv A outer s H vs Q E hr h => ?_)
  · obtain ⟨a, ns, rfl, _⟩ := h
    rfl
  · obtain ⟨a, ns, rfl, hs, hl, k⟩ := h
    have hu := hu_of hr
    have nd := sc_l_begun.nd
    refine ⟨_, (pss_cons (ps_setLc (i := 1) (own := [("grain", 2)]) (g := gName 2) rfl nd rfl rfl (sw_true rfl rfl rfl (by decide +kernel)) (pi_list (pv 0)) (blkOk_by (own := [("grain", 2)]) (N := N_l_begun) (sc := defScope s_l_begun) (by decide +kernel)) (fun _ _ _ _ _ => pg_name (i := 2) nd rfl (Or.inl rfl)) (fun _ _ _ _ _ => pts_one (pt_cmpR op_ge (pe_callB call_abs (by rfl) T.zabs (by decide +kernel) (pa_cons (pv 2) pa_nil)) (pe_op op_pow pe_int pe_int) (nomark _))) (fun _ _ _ _ _ => (pe_op op_sub (pe_callB call_abs (by rfl) T.zabs (by decide +kernel) (pa_cons (pv 2) pa_nil)) (pe_op op_pow pe_int pe_int))))
    (pss_one (ps_ret (pe_disp (pps_cons pe_str (pv 1) (pps_cons pe_str pe_int (pps_cons pe_str (pe_lc (own := [("grain", 2)]) (g := gName 2) rfl nd (pi_list (pv 0)) (blkOk_by (own := [("grain", 2)]) (N := N_l_begun) (sc := defScope s_l_begun) (by decide +kernel)) (fun _ _ _ _ _ => pg_name (i := 2) nd rfl (Or.inl rfl)) (fun _ _ _ _ _ => pts_nil) (fun _ _ _ _ _ => (pe_callB call_abs (by rfl) T.zabs (by decide +kernel) (pa_cons (pv 2) pa_nil)))) (pps_cons pe_str pe_int pps_nil)))) (by rfl) (by rfl) (fun z => by cases z) (by decide))))), ?_⟩
    refine ⟨_, rfl, a, rfl, ⟨_, hs⟩, fun D1 hD1 => lc_list (K := K) (a := a) (xs := ns.map V.int) (fun i H' => ∃ ls : List Int, ls.length ≤ i ∧ H' D1 = some (.lst (ls.map V.int)) ∧ Same H H')
      ⟨[], Nat.le_refl _, upd_same, fun b o e => by rw [upd_ne (ne_of_none e hD1)]; exact e⟩ (fun i H' _ ⟨_, _, _, s⟩ => s.seq hs) ?_ ?_⟩
    · rintro i y H' hi ⟨ls, hls, h1, s1⟩
      obtain ⟨z, rfl, hz⟩ := ints_at hi
      have hi63 : i < ns.length := (List.getElem?_eq_some_iff.mp hz).1
      refine ⟨rfl, _, rfl, _, rfl, _, _, rfl, rfl, ⟨by decide, by decide, by decide⟩, _, _, rfl, rfl, _, rfl, ?_⟩
      refine ite2 (fun _ => ?_) (fun _ => ⟨ls, by omega, h1, s1⟩)
      refine ⟨_, rfl, _, rfl, _, _, rfl, rfl, ⟨by decide, by decide, by decide⟩, _, _, rfl, rfl, _, h1, ?_, ?_⟩
      · rw [List.length_map]
        exact small1000 (by omega)
      · refine ⟨ls ++ [(if z < 0 then -z else z) - 10 ^ (18 : Int).toNat], by rw [List.length_append]; show ls.length + 1 ≤ i + 1; omega, ?_, ?_⟩
        · rw [upd_same, List.map_append]
          rfl
        · intro b o e
          have e1 := s1 b o e
          rw [upd_ne (ne_of_none e hD1)]
          exact e1
    · rintro H1 ⟨ls, hls, h1, s1⟩
      rw [List.length_map] at hls
      refine fun p hp => ?_
      refine ⟨_, rfl, ?_⟩
      have s2 : Same H (upd H1 p (.dK [])) := fun b o e => by rw [upd_ne (ne_of_none (s1 b o e) hp)]; exact s1 b o e
      refine ⟨_, rfl, a, rfl, ⟨_, s2.seq hs⟩, fun D2 hD2 => lc_list (K := K) (a := a) (xs := ns.map V.int) (fun i H' => ∃ cs : List Int, cs.length ≤ i ∧ H' D2 = some (.lst (cs.map V.int)) ∧ Same (upd H1 p (.dK [])) H')
        ⟨[], Nat.le_refl _, upd_same, fun b o e => by rw [upd_ne (ne_of_none e hD2)]; exact e⟩ (fun i H' _ ⟨_, _, _, s⟩ => s.seq (s2.seq hs)) ?_ ?_⟩
      · rintro i y H' hi ⟨cs, hcs, h2, s3⟩
        obtain ⟨z, rfl, hz⟩ := ints_at hi
        have hi63 : i < ns.length := (List.getElem?_eq_some_iff.mp hz).1
        refine ⟨rfl, yes_t ?_⟩
        refine ⟨_, rfl, _, rfl, _, h2, by rw [List.length_map]; exact small1000 (by omega), ?_⟩
        refine ⟨cs ++ [if z < 0 then -z else z], by rw [List.length_append]; show cs.length + 1 ≤ i + 1; omega, ?_, ?_⟩
        · rw [upd_same, List.map_append]
          rfl
        · intro b o e
          rw [upd_ne (ne_of_none e hD2)]
          exact s3 b o e
      · rintro H2 ⟨cs, hcs, h2, s3⟩
        rw [List.length_map] at hcs
        have hp2 : H2 p = some (.dK []) := s3 _ _ upd_same
        have nDp : D2 ≠ p := fun z => by rw [z, upd_same] at hD2; cases hD2
        have nD1p : D1 ≠ p := ne_of_none h1 hp
        have h12 : H2 D1 = some (.lst (ls.map V.int)) := s3 _ _ (by rw [upd_ne nD1p]; exact h1)
        have nD12 : D1 ≠ D2 := fun z => by
          rw [← z, upd_ne nD1p, h1] at hD2
          cases hD2
        refine ⟨hp2, drK ⟨p, D1, D2⟩ 0 0, rfl, by show 4 ≤ 15; decide, ?_⟩
        refine k ⟨p, D1, D2⟩ _ ⟨ls, cs, 0, 0, ⟨upd_same, by rw [upd_ne nD1p]; exact h12, by rw [upd_ne nDp]; exact h2, nD12, by omega, by omega⟩⟩ ?_
        intro b o e
        rw [upd_ne (ne_of_none (s1 b o e) hp)]
        exact s3 _ _ (s2 b o e)
end
end Tt
set_option maxRecDepth 100000
set_option maxHeartbeats 4000000
namespace Tt
open PySem L2
section
variable {P : Program} {w : World} {K : PySem.W.Frag} {mg : Str → Option Value} {base : Heap}
def Off (D : Dw) (b : Addr) : Prop := b ≠ D.d ∧ b ≠ D.l ∧ b ≠ D.c
theorem DrOk.off {D : Dw} {H : Hp} {b : Addr} (h : DrOk D H) (n : H b = none) : Off D b := by
  obtain ⟨ls, cs, r, t, d⟩ := h
  exact ⟨(ne_of_none d.hd n).symm, (ne_of_none d.hl n).symm, (ne_of_none d.hc n).symm⟩
theorem DrOk.new {D : Dw} {H : Hp} {p : Addr} {o : HO} (h : DrOk D H) (n : H p = none) : DrOk D (upd H p o) := by
  obtain ⟨ls, cs, r, t, d⟩ := h
  exact ⟨ls, cs, r, t, d.new n⟩
theorem DrOk.put {D : Dw} {H : Hp} {p : Addr} {o : HO} (h : DrOk D H) (n : Off D p) : DrOk D (upd H p o) := by
  obtain ⟨ls, cs, r, t, d⟩ := h
  exact ⟨ls, cs, r, t, ⟨by rw [upd_ne n.1.symm]; exact d.hd, by rw [upd_ne n.2.1.symm]; exact d.hl, by rw [upd_ne n.2.2.symm]; exact d.hc, d.ne, d.nl, d.nc⟩⟩
theorem DrOk.same {D : Dw} {H H' : Hp} (h : DrOk D H) (s : Same H H') : DrOk D H' := by
  obtain ⟨ls, cs, r, t, d⟩ := h
  exact ⟨ls, cs, r, t, d.same s⟩
theorem Kp.at {D : Dw} {H H' : Hp} {b : Addr} {o : HO} (k : Kp D H H') (n : Off D b) (h : H b = some o) : H' b = some o := k b o h n.1 n.2.1
theorem DrOk.tup {D : Dw} {H H' : Hp} {b : Addr} {xs : List V} (h : DrOk D H) (k : Kp D H H') (e : H b = some (.tup xs)) : H' b = some (.tup xs) := by
  obtain ⟨ls, cs, r, t, d⟩ := h
  exact k b _ e (d.dne e fun _ z => nomatch z) (d.lne e fun _ z => nomatch z)
theorem perm_erase : ∀ {l : List Int} {i : Nat} {a : Int}, l[i]? = some a → (a :: l.eraseIdx i).Perm l
  | [], _, _, h => by simp at h
  | b :: l, 0, a, h => by
    have e : b = a := by simpa using h
    subst e
    exact List.Perm.refl _
  | b :: l, i + 1, a, h => by
    have h' : l[i]? = some a := by simpa using h
    rw [List.eraseIdx_cons_succ]
    exact (List.Perm.swap b a _).trans ((perm_erase h').cons b)
theorem eraseIdx_mapI : ∀ (l : List Int) (i : Nat), (l.map V.int).eraseIdx i = (l.eraseIdx i).map V.int
  | [], _ => rfl
  | _ :: _, 0 => rfl
  | a :: l, i + 1 => by
    rw [List.map_cons, List.eraseIdx_cons_succ, eraseIdx_mapI l i, List.eraseIdx_cons_succ, List.map_cons]
theorem eqv_list_nil (H : Hp) : ∀ {xs : List V} {ds : List PyData}, DpAll K H xs ds → (PyData.eqv (.list ds) (.list []) = decide (xs = []))
  | [], _, .nil => rfl
  | _ :: _, _, .cons _ _ => by simp [PyData.eqv] <;> rfl
def spShuf (K : PySem.W.Frag) : Sp := fun vs H Q _ => ∃ (D : Dw) (p : Addr) (ns : List Int), vs = [.ref D.d, .ref p] ∧ (SqL K H p (ns.map V.int) ∨ SqT K H p (ns.map V.int)) ∧ ns.length ≤ 1000 ∧ DrOk D H ∧
  ∀ (ns' : List Int) q H', ns'.Perm ns → DrOk D H' → Kp D H H' → H q = none → H' q = some (.lst (ns'.map V.int)) → Q (.ref q) H'
theorem ok_l_shuffled (T : Txt K mg) : FnOk P w K mg base CX0 3 T.l_shuffled.a T.l_shuffled.fd ["draw", "some"] (spShuf K) := by
  refine T.l_shuffled.F.ok sc_l_shuffled (fun vs H Q E h => ?_) (fun cdv A outer s H vs Q E hr h => ?_)
  · obtain ⟨D, p, ns, rfl, _⟩ := h
    rfl
  · obtain ⟨D, p, ns, rfl, hs, hl, dr, k⟩ := h
    have hu := hu_of hr
    have nd := sc_l_shuffled.nd
    refine ⟨_, (pss_cons (ps_par (i := 2) (j := 3) rfl nd rfl rfl (by decide) rfl rfl (pa_cons (pe_callTy call_list_of (by rfl) T.zlist (by decide +kernel) (pa_cons (pv 1) pa_nil)) (pa_cons (pe_lst pa_nil) pa_nil)) rfl)
    (pss_cons (ps_while PassesOwn.never (pt_cmpR (op_neD hr.units) (pv 2) (pe_lst pa_nil) (nomark _))
      (pss_one (ps_expr (pe_bm PySem.F.plainAttrs_list PySem.F.slot_list_append PySem.F.type_list_append mt_append (pv 3) (pa_cons (pe_bm PySem.F.plainAttrs_list PySem.F.slot_list_pop PySem.F.type_list_pop mt_popAt (pv 2) (pa_cons (pe_call (ok_l_take T) (hr.mono (by decide)) (by rfl) T.l_take.g T.l_take.k T.l_take.b .nil pass0 (pa_cons (pv 0) (pa_cons (pe_callB call_len_seq (by rfl) T.zlen (by decide +kernel) (pa_cons (pv 2) pa_nil)) pa_nil))) pa_nil)) pa_nil)))))
    (pss_one (ps_ret (pv 3))))), ?_⟩
    refine ⟨_, rfl, p, _, rfl, hs, fun l hl0 => ⟨(by show 0 ≤ sizeLine; decide), fun q hq => ⟨_, _, rfl, ?_⟩⟩⟩
    have d1 := (dr.new (o := .lst (ns.map V.int)) hl0).new (o := .lst []) hq
    have k1 : Kp D H (upd (upd H l (.lst (ns.map V.int))) q (.lst [])) := (Kp.new hl0).trans (Kp.new hq)
    have nlq : l ≠ q := ne_of_none upd_same hq
    have nl : Off D l := dr.off hl0
    have nq : Off D q := (dr.new (o := .lst (ns.map V.int)) hl0).off hq
    have hqH : H q = none := by rw [upd_ne nlq.symm] at hq; exact hq
    have a1 : (upd (upd H l (.lst (ns.map V.int))) q (.lst [])) l = some (.lst (ns.map V.int)) := by rw [upd_ne nlq]; exact upd_same
    have a2 : (upd (upd H l (.lst (ns.map V.int))) q (.lst [])) q = some (.lst []) := upd_same
    generalize upd (upd H l (.lst (ns.map V.int))) q (.lst []) = H1 at d1 k1 a1 a2
    refine while_by (fun σ H' => ∃ (le fo : List Int), σ = [some (.ref D.d), some (.ref p), some (.ref l), some (.ref q)] ∧ H' l = some (.lst (le.map V.int)) ∧ H' q = some (.lst (fo.map V.int)) ∧ (fo ++ le).Perm ns ∧ DrOk D H' ∧ Kp D H H')
      (fun σ H' => match H' l with | some (.lst xs) => xs.length | _ => 0) ⟨ns, [], rfl, a1, a2, List.Perm.refl _, d1, k1⟩ ?_ ?_
    · rintro σ H' ⟨le, fo, rfl, h1, h2, pm, dr', k'⟩
      have hlen : fo.length + le.length = ns.length := by rw [← pm.length_eq, List.length_append]
      refine ⟨_, rfl, (by show 0 ≤ sizeLine; decide), fun e he => ?_⟩
      have e1 : (upd H' e (.lst [])) l = some (.lst (le.map V.int)) := by rw [upd_ne (ne_of_none h1 he)]; exact h1
      have e2 : (upd H' e (.lst [])) q = some (.lst (fo.map V.int)) := by rw [upd_ne (ne_of_none h2 he)]; exact h2
      have d2 : DrOk D (upd H' e (.lst [])) := dr'.new he
      have k2 : Kp D H (upd H' e (.lst [])) := k'.trans (Kp.new he)
      refine ⟨_, _, .lst (SqL.of e1) (dpAll_ints _ le), .lst (SqL.of upd_same) .nil, shapedAll_ints le, rfl, _, rfl, ?_⟩
      rw [eqv_nil]
      refine ite2 (fun c => ?_) (fun c => ?_)
      · have hne : le ≠ [] := by simpa using c
        have l0 : 0 < le.length := List.length_pos_iff.mpr hne
        refine ⟨_, rfl, .inl ⟨rfl, _, SqL.of e2⟩, _, rfl, .inl ⟨rfl, _, SqL.of e1⟩, _, rfl, _, rfl, l, _, rfl, .inl (SqL.of e1), D, _, rfl, ?_⟩
        rw [List.length_map]
        refine ⟨by omega, by omega, d2, fun n H3 n0 n1 d3 k3 => ?_⟩
        obtain ⟨m, rfl⟩ := Int.eq_ofNat_of_zero_le n0
        have hm : m < le.length := by omega
        have f1 : H3 l = some (.lst (le.map V.int)) := k3.at nl e1
        have f2 : H3 q = some (.lst (fo.map V.int)) := k3.at nq e2
        refine ⟨l, _, _, m, V.int le[m], rfl, rfl, f1, by omega, by omega, ?_, ?_, ?_⟩
        · rw [List.length_map]
          have e0 : ¬ ((m : Int) < 0) := by omega
          simp [seqIndex?, e0, hm]
        · rw [List.getElem?_map, List.getElem?_eq_getElem hm]
          rfl
        · have nlq' : q ≠ l := nlq.symm
          have g2 : (upd H3 l (.lst ((le.map V.int).eraseIdx m))) q = some (.lst (fo.map V.int)) := by rw [upd_ne nlq']; exact f2
          refine ⟨q, _, _, rfl, rfl, g2, by rw [List.length_map]; exact small1000 (by omega), ?_⟩
          have ee : (le.map V.int).eraseIdx m = (le.eraseIdx m).map V.int := eraseIdx_mapI le m
          refine ⟨⟨le.eraseIdx m, fo ++ [le[m]], rfl, ?_, ?_, ?_, ?_, ?_⟩, ?_⟩
          · rw [upd_ne nlq, upd_same, ee]
          · rw [upd_same, List.map_append]
            rfl
          · refine List.Perm.trans ?_ pm
            rw [List.append_assoc]
            exact (perm_erase (List.getElem?_eq_getElem hm)).append_left fo
          · exact (d3.put nl).put nq
          · intro b o hb n1 n2
            have hbl : b ≠ l := ne_of_none hb hl0
            have hbq : b ≠ q := ne_of_none hb hqH
            rw [upd_ne hbq, upd_ne hbl]
            exact k3 _ _ (k2 _ _ hb n1 n2) n1 n2
          · show (match (upd (upd H3 l _) q _) l with | some (.lst xs) => xs.length | _ => 0) < (match H' l with | some (.lst xs) => xs.length | _ => 0)
            rw [upd_ne nlq, upd_same, h1, ee]
            show ((le.eraseIdx m).map V.int).length < (le.map V.int).length
            rw [List.length_map, List.length_map, List.length_eraseIdx_of_lt hm]
            omega
      · have hne : le = [] := by simpa using c
        subst hne
        refine ⟨_, rfl, ?_⟩
        rw [List.append_nil] at pm
        exact k fo q _ pm d2 k2 hqH e2
    · rintro σ H Q Q' hq ⟨v, h1, h2, h3⟩
      exact ⟨v, h1, h2, fun p hp => by obtain ⟨d, e, a1, a2, a3, a4, b, eb, h⟩ := h3 p hp; exact ⟨d, e, a1, a2, a3, a4, b, eb, hq _ _ h⟩⟩
end
end Tt
set_option maxRecDepth 100000
set_option maxHeartbeats 4000000
namespace Tt
open PySem L2
section
variable {P : Program} {w : World} {K : PySem.W.Frag} {mg : Str → Option Value} {base : Heap}
theorem xor_mate {x : Int} (h0 : 0 ≤ x) (h1 : x < 12) : Builtin.bitXor x 1 = Wd.mate x := by
  have h : ∀ n : Fin 12, Builtin.bitXor ((n.val : Nat) : Int) 1 = Wd.mate ((n.val : Nat) : Int) := by decide
  obtain ⟨n, rfl⟩ := Int.eq_ofNat_of_zero_le h0
  exact h ⟨n, by omega⟩
theorem same_new {H : Hp} {p : Addr} {o : HO} (n : H p = none) : Same H (upd H p o) := fun b u e => by
  rw [upd_ne (ne_of_none e n)]
  exact e
theorem ints_get {st : List Int} {i : Nat} {a : Int} (h : st[i]? = some a) : (st.map V.int)[i]? = some (V.int a) := by rw [List.getElem?_map, h]; rfl
theorem atI_last {st : List Int} (h : st ≠ []) : ∃ a, st.getLast? = some a ∧ atI (st.map V.int) (-1) = some (V.int a) := by
  have l0 : 0 < st.length := List.length_pos_iff.mpr h
  have hl : st.length - 1 < st.length := by omega
  refine ⟨st[st.length - 1], by rw [List.getLast?_eq_getElem?, List.getElem?_eq_getElem hl], ?_⟩
  unfold atI
  have e : ixN (st.map V.int).length (-1) = some (st.length - 1) := by
    rw [List.length_map]
    unfold ixN
    simp
    omega
  rw [e]
  exact ints_get (List.getElem?_eq_getElem hl)
theorem same_seqT {K : PySem.W.Frag} {H H' : Hp} {a : Addr} {xs : List V} (e : Same H H') (h : SqT K H a xs) : SqT K H' a xs := by
  rcases h with (h | ⟨o, h⟩) | h
  · exact .inl (.inl (e _ _ h))
  · exact .inl (.inr ⟨o, e _ _ h⟩)
  · exact .inr h
end
end Tt
set_option maxRecDepth 100000
set_option maxHeartbeats 4000000
namespace Tt
open PySem L2
section
variable {P : Program} {w : World} {K : PySem.W.Frag} {mg : Str → Option Value} {base : Heap}
def rgI (n : Nat) : List Int := (List.range n).map fun (i : Nat) => (i : Int)
theorem rgV_rgI {n : Int} (h : 0 ≤ n) : rgV 0 n = (rgI n.toNat).map V.int := by
  unfold rgV rgI
  rw [List.map_map, Int.sub_zero]
  exact List.map_congr_left fun a _ => by show V.int (0 + (a : Nat)) = _; rw [Int.zero_add]; rfl
theorem rgI_len (n : Nat) : (rgI n).length = n := by unfold rgI; rw [List.length_map, List.length_range]
def spRow (K : PySem.W.Frag) : Sp := fun vs H Q _ => ∃ (D : Dw) (m : Int), vs = [.ref D.d, .int m] ∧ 0 < m ∧ m ≤ 6 ∧ DrOk D H ∧
  ∀ (n : Nat) (row : List Int) q H', 1 ≤ n → (n : Int) ≤ m → row.Perm (rgI (2 * n)) → DrOk D H' → Kp D H H' → FzT H' q (row.map V.int) → Q (.ref q) H'
theorem ok_l_row (T : Txt K mg) : FnOk P w K mg base CX0 4 T.l_row.a T.l_row.fd ["draw", "most"] (spRow K) := by
  refine T.l_row.F.ok sc_l_row (fun vs H Q E h => ?_) (fun cdv A outer s H vs Q E hr h => ?_)
  · obtain ⟨D, m, rfl, _⟩ := h
    rfl
  · obtain ⟨D, m, rfl, m0, m6, dr, k⟩ := h
    have nd := sc_l_row.nd
    refine ⟨_, (pss_one (ps_ret (pe_callTy call_tuple_ofF (by rfl) T.ztuple (by decide +kernel) (pa_cons (pe_call (ok_l_shuffled T) (hr.mono (by decide)) (by rfl) T.l_shuffled.g T.l_shuffled.k T.l_shuffled.b .nil pass0 (pa_cons (pv 0) (pa_cons (pe_listRg rfl (by rfl) T.zlist (prg_1 (by rfl) T.zrange (pe_op op_add pe_int (pe_op op_mul pe_int (pe_call (ok_l_take T) (hr.mono (by decide)) (by rfl) T.l_take.g T.l_take.k T.l_take.b .nil pass0 (pa_cons (pv 0) (pa_cons (pv 1) pa_nil))))))) pa_nil))) pa_nil)))), ?_⟩
    refine ⟨_, rfl, _, rfl, _, rfl, D, m, rfl, m0, by omega, dr, fun n H1 n0 n1 d1 k1 => ?_⟩
    refine ⟨_, _, rfl, rfl, .inl ⟨by decide, by decide⟩, _, _, rfl, rfl, _, rfl, RgOk.of_le (by omega) (by omega) (by omega) (by omega), fun l hl => ?_⟩
    obtain ⟨j, rfl⟩ := Int.eq_ofNat_of_zero_le n0
    have ej : (2 + 2 * (j : Int)).toNat = 2 * (j + 1) := by omega
    rw [rgV_rgI (by omega), ej] 
    have d2 := d1.new (o := .lst ((rgI (2 * (j + 1))).map V.int)) hl
    refine ⟨D, l, rgI (2 * (j + 1)), rfl, .inl (SqL.of upd_same), by rw [rgI_len]; omega, d2, fun ns' q H3 pm d3 k3 hq h3 => ?_⟩
    refine ⟨q, _, rfl, .inl ⟨SqL.of h3, fun t ob ht hd => ?_⟩⟩
    exact k (j + 1) ns' t _ (by omega) (by omega) pm (d3.new ht) ((k1.trans (Kp.new hl)).trans (k3.trans (Kp.new ht))) (FzT.new hd)
end
end Tt
set_option maxRecDepth 100000
set_option maxHeartbeats 4000000
namespace Tt
open PySem L2
def lenAt (i : Nat) : L2.St → Hp → Nat := fun σ H' => match σ[i]? with
  | some (some (V.ref f)) => (match H' f with
    | some (HO.lst xs) => 1000 - xs.length
    | _ => 0)
  | _ => 0
theorem lenAt_of {i : Nat} {σ : L2.St} {H : Hp} {f : Addr} {xs : List V} (h : σ[i]? = some (some (.ref f))) (e : H f = some (.lst xs)) : lenAt i σ H = 1000 - xs.length := by
  unfold lenAt
  rw [h]
  show (match H f with | some (HO.lst xs) => 1000 - xs.length | _ => 0) = _
  rw [e]
def lenOf (i : Nat) : L2.St → Hp → Nat := fun σ H' => match σ[i]? with
  | some (some (V.ref f)) => (match H' f with
    | some (HO.lst xs) => xs.length
    | _ => 0)
  | _ => 0
theorem lenOf_of {i : Nat} {σ : L2.St} {H : Hp} {f : Addr} {xs : List V} (h : σ[i]? = some (some (.ref f))) (e : H f = some (.lst xs)) : lenOf i σ H = xs.length := by
  unfold lenOf
  rw [h]
  show (match H f with | some (HO.lst xs) => xs.length | _ => 0) = _
  rw [e]
theorem upk {H : Hp} {p b : Addr} {o u : HO} (n : H p = none) (h : H b = some o) : (upd H p u) b = some o := by
  rw [upd_ne (ne_of_none h n)]
  exact h
theorem cut_to (xs : List V) {n : Nat} (h : n ≤ xs.length) : cutV xs none (some (n : Int)) = xs.take n := by
  unfold cutV
  have e : HT.sIx xs.length xs.length (some (n : Int)) = n := by rw [HT.sIx_nat]; omega
  have e0 : HT.sIx xs.length 0 none = 0 := rfl
  rw [e, e0]
  simp
theorem cut_from (xs : List V) {n : Nat} : cutV xs (some (n : Int)) none = xs.drop n := by
  unfold cutV
  have e : HT.sIx xs.length 0 (some (n : Int)) = min n xs.length := HT.sIx_nat ..
  have e0 : HT.sIx xs.length xs.length none = xs.length := rfl
  rw [e, e0, List.take_of_length_le (by rw [List.length_drop]; omega)]
  by_cases h : n ≤ xs.length
  · rw [Nat.min_eq_left h]
  · rw [Nat.min_eq_right (by omega), List.drop_eq_nil_of_le (Nat.le_refl _), List.drop_eq_nil_of_le (by omega)]
section
variable {P : Program} {w : World} {K : PySem.W.Frag} {mg : Str → Option Value} {base : Heap}
def Lt (e : Int) (ns : List Int) : Prop := ∀ x ∈ ns, 0 ≤ x ∧ x < e
theorem Lt.app {e : Int} {a b : List Int} (ha : Lt e a) (hb : Lt e b) : Lt e (a ++ b) := fun x hx => (List.mem_append.mp hx).elim (ha x) (hb x)
theorem Lt.take {e : Int} {a : List Int} (ha : Lt e a) (n : Nat) : Lt e (a.take n) := fun x hx => ha x (List.mem_of_mem_take hx)
theorem Lt.drop {e : Int} {a : List Int} (ha : Lt e a) (n : Nat) : Lt e (a.drop n) := fun x hx => ha x (List.mem_of_mem_drop hx)
theorem Lt.undo {e : Int} {a : List Int} (ev : e % 2 = 0) (ha : Lt e a) : Lt e (Wd.undo a) := fun x hx => by
  unfold Wd.undo at hx
  obtain ⟨y, hy, rfl⟩ := List.mem_map.mp hx
  have h := ha y (by simpa using hy)
  have hb := Wd.mate_range (n := e / 2) h.1 (by omega)
  exact ⟨hb.1, by omega⟩
end
end Tt
set_option maxRecDepth 100000
set_option maxHeartbeats 4000000
namespace Tt
open PySem L2
open LamX (GivesToS CodeO)
def TTc (K : PySem.W.Frag) (RE : Addr) : (XK → Hp → VK → Prop) → Hp → VK → Prop := fun tl H Q =>
  tl (fun cls d H' => PySem.W.exmOne K cls (.ref RE) = some true ∧ ∀ a, H' a = none → Q (.ref a) (upd H' a (exh cls d a))) H (fun _ H' => Q .non H')
theorem caught_gives {X : Cx} {q : Str} {cdg : Value} {g RE : Addr} (hme : X.mg "RoundError" = some (.ref RE)) :
    GivesToS X N_l_caught "_law_caught" (defScope s_l_caught) g cdg (defBody s_l_caught) "work" q (TTc X.K RE) := by
  intro f c' s H Q tl act hc h
  have nd := sc_l_caught.nd
  refine ⟨_, pss_cons (ps_set (i := 1) nd rfl (Or.inl rfl) pe_non)
    (pss_cons (ps_try_keep (X := (cxOf C8.CX0 X.prog X.w X.K X.mg X.base N_l_caught "_law_caught" (defScope s_l_caught) g cdg X.A X.stack s H C8.E0).nox) (c := .ref RE) (i := 2)
      (tb := fun W D σ H => ∃ Ew : L2.St → XK, (∀ τ cls d H', Ew τ cls d H' → W cls d τ H') ∧ σ[0]? = some (some (.ref f)) ∧ H c' = some (CodeO c' q) ∧ tl (Ew σ) H (fun _ H' => D.nx σ H'))
      rfl rfl rfl nd rfl rfl ⟨rfl, by decide, .inl hme⟩ LamX.takes0 (fun W pn xe tk _ => ?_) (fun a oe cls d pn _ _ => pss_one (ps_set (i := 1) nd rfl (Or.inl rfl) (pv 2))))
    (pss_one (ps_ret (pv 1)))), ?_⟩
  · refine ⟨fun pins s' σ H' D I h' => ?_⟩
    obtain ⟨Ew, hW, h1, h2, h3⟩ := h'
    exact (pss_one (ps_expr (act W pn xe Ew _ _ tk hW))).run pins s' σ H' D I ⟨h1, h2, h3⟩
  · refine ⟨fun τ cls d H' => τ = [some (.ref f), some .non, none] ∧ PySem.W.exmOne X.K cls (.ref RE) = some true ∧ ∀ a, H' a = none → Q (.ref a) (upd H' a (exh cls d a)), ?_, rfl, hc, ?_⟩
    · rintro τ cls d H' ⟨rfl, h1, h2⟩
      refine ⟨true, h1, fun _ a ha => ?_, fun z => nomatch z⟩
      exact ⟨_, rfl, ha, _, rfl, h2 a ha⟩
    · have e1 : (fun (cls : Value) (d : Option Addr) (H' : Hp) => ([some (.ref f), some .non, none] : L2.St) = [some (.ref f), some .non, none] ∧ PySem.W.exmOne X.K cls (.ref RE) = some true ∧ ∀ a, H' a = none → Q (.ref a) (upd H' a (exh cls d a))) =
          fun cls d H' => PySem.W.exmOne X.K cls (.ref RE) = some true ∧ ∀ a, H' a = none → Q (.ref a) (upd H' a (exh cls d a)) :=
        funext fun cls => funext fun d => funext fun H' => propext ⟨fun z => z.2, fun z => ⟨rfl, z⟩⟩
      have e2 : (fun (_ : V) (H' : Hp) => ∃ v, ([some (.ref f), some .non, none] : L2.St)[1]? = some (some v) ∧ Q v H') = fun _ H' => Q .non H' :=
        funext fun _ => funext fun H' => propext ⟨fun ⟨v, h1, h2⟩ => by cases h1; exact h2, fun z => ⟨_, rfl, z⟩⟩
      have h' : tl (fun (cls : Value) (d : Option Addr) (H' : Hp) => ([some (.ref f), some .non, none] : L2.St) = [some (.ref f), some .non, none] ∧ PySem.W.exmOne X.K cls (.ref RE) = some true ∧ ∀ a, H' a = none → Q (.ref a) (upd H' a (exh cls d a))) H
          (fun (_ : V) (H' : Hp) => ∃ v, ([some (.ref f), some .non, none] : L2.St)[1]? = some (some v) ∧ Q v H') := by
        rw [e1, e2]
        exact h
      exact h'
end Tt
set_option maxRecDepth 100000
set_option maxHeartbeats 4000000
namespace Tt
open PySem L2
section
variable {P : Program} {w : World} {K : PySem.W.Frag} {mg : Str → Option Value} {base : Heap}
theorem passF {P : Program} {w : World} {X : Cx} : Passes (L2.CX P w) X (fun _ _ _ => False) := fun _ _ _ _ _ _ _ h => by
  obtain ⟨_, _, _, _, _, _, _, _, _, _, _, _, z⟩ := h
  exact z.elim
def inB (lo hi : Int) : V → Bool
  | .int i => decide (lo ≤ i) && decide (i ≤ hi)
  | _ => false
def isI : V → Bool
  | .int _ => true
  | _ => false
theorem TyB.isI {H : Hp} {x : V} {S : String} (t : TyB K H x S) : decide (S = "int") = isI x := by cases t <;> rfl
theorem TyB.isT {H : Hp} {x : V} {S : String} (t : TyB K H x S) : (∃ a xs, x = .ref a ∧ SqT K H a xs ∧ S = "tuple") ∨ decide (S = "tuple") = false := by
  cases t with
  | tup h => exact .inl ⟨_, _, rfl, h, rfl⟩
  | _ => exact .inr rfl
def spNumber (K : PySem.W.Frag) : Sp := fun vs H Q _ => ∃ (x : V) (S : String), vs = [x] ∧ TyB K H x S ∧ Q (.bl (isI x)) H
theorem ok_is_number (T : Txt K mg) : FnOk P w K mg base CX0 1 T.is_number.a T.is_number.fd ["thing"] (spNumber K) := by
  refine T.is_number.F.ok sc_is_number (fun vs H Q E h => ?_) (fun cdv A outer s H vs Q E hr h => ?_)
  · obtain ⟨x, S, rfl, _⟩ := h
    rfl
  · obtain ⟨x, S, rfl, t, k⟩ := h
    refine ⟨_, (pss_one (ps_ret (pe_cmpR op_isTyB (pe_callTy call_type1 (by rfl) T.ztype (by decide +kernel) (pa_cons (pv 0) pa_nil)) (pe_bltn (v := .ty "int") (by rfl) T.zint (by decide +kernel) rfl) (nomark _)))), ?_⟩
    refine ⟨x, rfl, x, S, rfl, t, _, _, rfl, rfl, ?_⟩
    rw [← TyB.isI t] at k
    exact k
def spTuple (K : PySem.W.Frag) : Sp := fun vs H Q _ => ∃ (x : V) (S : String), vs = [x] ∧ TyB K H x S ∧ Q (.bl (decide (S = "tuple"))) H
theorem ok_is_tuple (T : Txt K mg) : FnOk P w K mg base CX0 1 T.is_tuple.a T.is_tuple.fd ["thing"] (spTuple K) := by
  refine T.is_tuple.F.ok sc_is_tuple (fun vs H Q E h => ?_) (fun cdv A outer s H vs Q E hr h => ?_)
  · obtain ⟨x, S, rfl, _⟩ := h
    rfl
  · obtain ⟨x, S, rfl, t, k⟩ := h
    refine ⟨_, (pss_one (ps_ret (pe_cmpR op_isTyB (pe_callTy call_type1 (by rfl) T.ztype (by decide +kernel) (pa_cons (pv 0) pa_nil)) (pe_bltn (v := .ty "tuple") (by rfl) T.ztuple (by decide +kernel) rfl) (nomark _)))), ?_⟩
    exact ⟨x, rfl, x, S, rfl, t, _, _, rfl, rfl, k⟩
def spList (K : PySem.W.Frag) : Sp := fun vs H Q _ => ∃ (x : V) (S : String), vs = [x] ∧ TyB K H x S ∧ Q (.bl (decide (S = "list") || decide (S = "tuple"))) H
theorem ok_is_list (T : Txt K mg) : FnOk P w K mg base CX0 2 T.is_list.a T.is_list.fd ["thing"] (spList K) := by
  refine T.is_list.F.ok sc_is_list (fun vs H Q E h => ?_) (fun cdv A outer s H vs Q E hr h => ?_)
  · obtain ⟨x, S, rfl, _⟩ := h
    rfl
  · obtain ⟨x, S, rfl, t, k⟩ := h
    refine ⟨_, (pss_one (ps_ret (pe_or (pe_cmpR op_isTyB (pe_callTy call_type1 (by rfl) T.ztype (by decide +kernel) (pa_cons (pv 0) pa_nil)) (pe_bltn (v := .ty "list") (by rfl) T.zlist (by decide +kernel) rfl) (nomark _)) (pe_one (pe_call (ok_is_tuple T) (hr.mono (by decide)) (by rfl) T.is_tuple.g T.is_tuple.k T.is_tuple.b .nil pass0 (pa_cons (pv 0) pa_nil)))))), ?_⟩
    refine ⟨x, rfl, x, S, rfl, t, _, _, rfl, rfl, _, rfl, ?_⟩
    refine ite2 (fun c => ?_) (fun c => ?_)
    · rw [c] at k
      exact k
    · have c' : decide (S = "list") = false := by simpa using c
      rw [c', Bool.false_or] at k
      exact ⟨x, rfl, x, S, rfl, t, k⟩
def skF (r q : Addr) (n : Int) : List (Str × V) := [("row", .ref r), ("bands", .int n), ("places", .ref q)]
def places (row : List Int) : List Int := (List.range row.length).map fun (e : Nat) => (((row.idxOf (e : Int) : Nat)) : Int)
def SkAt (T : Txt K mg) (H : Hp) (p : Addr) (row : List Int) : Prop := ∃ dx r q, H p = some (.ins T.Skin.C dx (skF r q (row.length / 2 : Nat))) ∧ FzT H r (row.map V.int) ∧ FzT H q ((places row).map V.int)
theorem FzT.same {H H' : Hp} {a : Addr} {xs : List V} (h : FzT H a xs) (s : Same H H') : FzT H' a xs := by
  obtain ⟨ob, h1, h2⟩ := h
  exact ⟨ob, s _ _ h1, h2⟩
theorem FzT.kp {D : Dw} {H H' : Hp} {a : Addr} {xs : List V} (h : FzT H a xs) (dr : DrOk D H) (k : Kp D H H') : FzT H' a xs := by
  obtain ⟨ob, h1, h2⟩ := h
  obtain ⟨ls, cs, rr, t, d⟩ := dr
  exact ⟨ob, k _ _ h1 (d.dne h1 fun _ z => nomatch z) (d.lne h1 fun _ z => nomatch z), h2⟩
theorem SkAt.same {T : Txt K mg} {H H' : Hp} {p : Addr} {row : List Int} (h : SkAt T H p row) (s : Same H H') : SkAt T H' p row := by
  obtain ⟨dx, r, q, h1, h2, h3⟩ := h
  exact ⟨dx, r, q, s _ _ h1, FzT.same h2 s, FzT.same h3 s⟩
theorem SkAt.kp {T : Txt K mg} {D : Dw} {H H' : Hp} {p : Addr} {row : List Int} (h : SkAt T H p row) (dr : DrOk D H) (k : Kp D H H') : SkAt T H' p row := by
  obtain ⟨dx, r, q, h1, h2, h3⟩ := h
  obtain ⟨ls, cs, rr, t, d⟩ := id dr
  exact ⟨dx, r, q, k _ _ h1 (d.dne h1 fun _ z => nomatch z) (d.lne h1 fun _ z => nomatch z), FzT.kp h2 dr k, FzT.kp h3 dr k⟩
theorem skF_row (r q : Addr) (n : Int) : (skF r q n).lookup ("row" : Str) = some (V.ref r) := rfl
theorem skF_bands (r q : Addr) (n : Int) : (skF r q n).lookup ("bands" : Str) = some (V.int n) := rfl
theorem nRow (T : Txt K mg) : NoAttr K T.Skin.C "row" := T.Skin.n _ (by decide)
theorem nBands (T : Txt K mg) : NoAttr K T.Skin.C "bands" := T.Skin.n _ (by decide)
theorem nPlaces (T : Txt K mg) : NoAttr K T.Skin.C "places" := T.Skin.n _ (by decide)
inductive SkV (T : Txt K mg) (H : Hp) : V → Bool → Prop where
  | skin {p dx : Addr} {fs : List (Str × V)} (h : H p = some (.ins T.Skin.C dx fs)) : SkV T H (.ref p) true
  | ty {x : V} {S : String} (t : TyB K H x S) (h : PySem.W.kitOne K (.type S) (.ref T.Skin.C) = some false) : SkV T H x false
theorem TyB.x {H : Hp} {x : V} {S : String} (t : TyB K H x S) : TyX K H x (.type S) := by
  cases t with
  | non => exact .base .non
  | bl b => exact .base (.bl b)
  | int i => exact .base (.int i)
  | str x => exact .base (.str x)
  | byt b => exact .byt b
  | lst h =>
    rcases h with (h | ⟨o, h⟩) | ⟨o, its, n, h1, h2, _⟩
    · exact .base (.lst h)
    · exact .base (.frz h)
    · exact .kList h1 h2
  | tup h =>
    rcases h with (h | ⟨o, h⟩) | ⟨o, its, n, h1, h2, _⟩
    · exact .base (.tup h)
    · exact .fTuple h
    · exact .kTuple h1 h2
  | dK h => exact .base (.dK h)
theorem SkAt.v {T : Txt K mg} {H : Hp} {p : Addr} {row : List Int} (h : SkAt T H p row) : SkV T H (.ref p) true := by
  obtain ⟨dx, r, q, h1, _⟩ := h
  exact .skin h1
theorem SkV.isi {T : Txt K mg} {H : Hp} {v : V} {b : Bool} (h : SkV T H v b) : ∃ t, TyX K H v t ∧ PySem.W.kitOne K t (.ref T.Skin.C) = some b := by
  cases h with
  | skin h => exact ⟨_, .base (.ins h T.Skin.c T.Skin.ha T.Skin.hn T.Skin.ht T.Skin.hm), T.kSS⟩
  | ty t h => exact ⟨_, Tt.TyB.x t, h⟩
def SkErr (T : Txt K mg) (H : Hp) (E : XK) : Prop := ∀ d H', Same H H' → H' d = some (.xd [("part", .non)]) → E (.ref T.BadSkin.C) (some d) H'
def spExI (T : Txt K mg) : Sp := fun vs H Q _ => ∃ (a : Addr) (v : V), vs = [.ref a, v] ∧ H a = some (exo a T.BadSkin.C none) ∧
  ∀ dx, H dx = none → dx ≠ a → Q .non (upd (upd H dx (exd dx [("part", v)])) a (exo a T.BadSkin.C (some dx)))
theorem ok_BadSkin_init (T : Txt K mg) : FnOk P w K mg base CX0 1 T.BadSkin.fI T.BadSkin.fd ["self", "part"] (spExI T) := by
  refine T.BadSkin.F.ok sc_BadSkin_init (fun vs H Q E h => ?_) (fun cdv A outer s H vs Q E hr h => ?_)
  · obtain ⟨a, v, rfl, _⟩ := h
    rfl
  · obtain ⟨a, v, rfl, ha, k⟩ := h
    refine ⟨_, (pss_one (ps_ost (pv 0) (pv 1))), ?_⟩
    exact ⟨v, rfl, _, rfl, a, T.BadSkin.C, rfl, T.BadSkin.o, T.BadSkin.n, .inl ⟨ha, fun dx n ne => k dx n ne⟩⟩
def spCheckSkin (T : Txt K mg) : Sp := fun vs H Q E => ∃ (v : V) (b : Bool), vs = [v] ∧ SkV T H v b ∧ (b = true → Q .non H) ∧ (b = false → SkErr T H E)
theorem ok_check_skin (T : Txt K mg) : FnOk P w K mg base (L2.CX P w) 3 T.check_skin.a T.check_skin.fd ["skin"] (spCheckSkin T) := by
  refine T.check_skin.F.okX sc_check_skin (fun vs H Q E h => ?_) (fun cdv A outer s H vs Q E hr h => ?_)
  · obtain ⟨v, b, rfl, _⟩ := h
    rfl
  · obtain ⟨v, b, rfl, hv, kT, kF⟩ := h
    refine ⟨_, (pss_one (ps_if (pt_not (pt_val (pe_callB call_isA (by rfl) T.zisinstance (by decide +kernel) (pa_cons (pv 0) (pa_cons (pe_glob (v := .ref T.Skin.C) rfl T.Skin.g rfl) pa_nil)))))
      (pss_one (ps_raise rfl (takes_of rfl rfl rfl rfl) (pmk_oex T.BadSkin.o T.BadSkin.i T.BadSkin.t (ok_BadSkin_init T) (hr.mono (by decide)) T.BadSkin.b .nil pass0 (by rfl) T.BadSkin.g (pa_cons pe_non pa_nil))))
      pss_nil)), ?_⟩
    obtain ⟨t, ht, hk⟩ := hv.isi
    refine ⟨v, rfl, .inr ⟨v, _, t, _, b, rfl, .own T.Skin.C, ht, hk, b, rfl, ?_⟩⟩
    cases b with
    | true => exact iteF (kT rfl)
    | false =>
      refine iteT ⟨(by show 1 ≤ 1000; decide), fun a ha => ?_⟩
      refine ⟨a, .non, rfl, upd_same, fun dx ndx ne => ⟨rfl, dx, ([("part", V.non)] : List (Str × V)), upd_same, ?_, ?_, ?_⟩⟩
      · rw [upd_ne ne, upd_same]
      · rw [upd_ne ne] at ndx
        exact ndx
      · have ndx' : H dx = none := by rw [upd_ne ne] at ndx; exact ndx
        refine kF rfl dx _ (fun b o hb => ?_) upd_same
        have nb : b ≠ a := ne_of_none hb ha
        have nb2 : b ≠ dx := ne_of_none hb ndx'
        rw [upd_ne nb2, del_ne nb, upd_ne nb, upd_ne nb2, upd_ne nb]
        exact hb
end
end Tt
set_option maxRecDepth 100000
set_option maxHeartbeats 4000000
namespace Tt
open PySem L2
section
variable {P : Program} {w : World} {K : PySem.W.Frag} {mg : Str → Option Value} {base : Heap}
theorem eqv_ints : ∀ a b : List Int, PyData.eqv (.list (a.map PyData.int)) (.list (b.map PyData.int)) = decide (a = b)
  | [], [] => rfl
  | [], _ :: _ => by simp [PyData.eqv] <;> rfl
  | _ :: _, [] => by simp [PyData.eqv] <;> rfl
  | x :: a, y :: b => by
    have h := eqv_ints a b
    simp [PyData.eqv, PyData.eqvAll] at h ⊢
    rw [h]
    rfl
theorem perm_sorted {n : Nat} {ns' ns : List Int} (h : ns'.Perm ns) (p : ns'.Pairwise (· ≤ ·)) (q : ns.Perm (rgI n)) : ns' = rgI n := by
  refine List.Perm.eq_of_pairwise (fun a b _ _ h1 h2 => Int.le_antisymm h1 h2) p ?_ (h.trans q)
  unfold rgI
  rw [List.pairwise_map]
  exact List.pairwise_lt_range.imp fun {a b} h => by show (a : Int) ≤ b; omega
theorem perm_len {n : Nat} {row : List Int} (h : row.Perm (rgI n)) : row.length = n := by rw [h.length_eq, rgI_len]
theorem perm_mem {n : Nat} {row : List Int} (h : row.Perm (rgI n)) {x : Int} : x ∈ row ↔ 0 ≤ x ∧ x < n := by
  rw [h.mem_iff]
  unfold rgI
  rw [List.mem_map]
  constructor
  · rintro ⟨a, ha, rfl⟩
    have := List.mem_range.mp ha
    omega
  · rintro ⟨h0, h1⟩
    exact ⟨x.toNat, List.mem_range.mpr (by omega), by omega⟩
theorem turn_perm (row : List Int) (s : Nat) : (row.drop s ++ row.take s).Perm row := by
  have h : (row.drop s ++ row.take s).Perm (row.take s ++ row.drop s) := List.perm_append_comm
  rw [List.take_append_drop] at h
  exact h
theorem idx_at {row : List Int} {x : Int} (h : x ∈ row) : row[row.idxOf x]? = some x ∧ ∀ m, m < row.idxOf x → row[m]? ≠ some x := by
  have hl : row.idxOf x < row.length := List.idxOf_lt_length_of_mem h
  refine ⟨by rw [List.getElem?_eq_getElem hl, List.getElem_idxOf hl], fun m hm e => ?_⟩
  obtain ⟨h1, h2⟩ := List.getElem?_eq_some_iff.mp e
  exact absurd h2 (by simpa using List.not_of_lt_findIdx (xs := row) (p := (· == x)) (i := m) hm)
theorem slT_from {xs : List V} {a : Addr} {H : Hp} {Q : VK} {n : Nat} (hx : 0 < xs.length) (h : SqT K H a xs) (q0 : n = 0 → Q (.ref a) H) (q1 : n ≠ 0 → ∀ p, H p = none → Q (.ref p) (upd H p (.tup (xs.drop n)))) : rSlA K (.ref a) (some (n : Int)) none H Q := by
  refine ⟨a, xs, rfl, h, fun z => q0 ?_, fun nz p hp => ?_⟩
  · rw [HT.sIx_nat] at z
    omega
  · rw [cut_from]
    refine q1 (fun e => nz ?_) p hp
    subst e
    exact ⟨by rw [HT.sIx_nat]; omega, rfl⟩
theorem slT_to {xs : List V} {a : Addr} {H : Hp} {Q : VK} {n : Nat} (hx : n < xs.length) (h : SqT K H a xs) (q1 : ∀ p, H p = none → Q (.ref p) (upd H p (.tup (xs.take n)))) : rSlA K (.ref a) none (some (n : Int)) H Q := by
  refine ⟨a, xs, rfl, h, fun z => ?_, fun _ p hp => ?_⟩
  · rw [HT.sIx_nat] at z
    exfalso
    omega
  · rw [cut_to _ (by omega)]
    exact q1 p hp
theorem noPart_i {σ : L2.St} {H : Hp} {Q : Option Int → Hp → Prop} (h : Q none H) : tNoPart σ H Q := h
def tTurned (K : PySem.W.Frag) (i j : Nat) : TE := tOp (rCatF K) (tCB (rTupF K) (tCons (tSl (rSlA K) (tVar i) (tPart (tVar j)) tNoPart) tNil)) (tCB (rTupF K) (tCons (tSl (rSlA K) (tVar i) tNoPart (tPart (tVar j))) tNil))
theorem row_turned {σ : L2.St} {H : Hp} {Q : VK} {t : Addr} {i j st : Nat} {row : List Int} (h1 : σ[i]? = some (some (.ref t))) (h2 : σ[j]? = some (some (.int (st : Nat)))) (ht : FzT H t (row.map V.int)) (hst : st < row.length) (hl : row.length ≤ 12)
    (k : ∀ (r : Addr) (H4 : Hp), Same H H4 → FzT H4 r ((row.drop st ++ row.take st).map V.int) → Q (.ref r) H4) : tTurned K i j σ H Q := by
  have hx : 0 < (row.map V.int).length := by rw [List.length_map]; omega
  have hd : ((row.drop st).map V.int) ≠ [] := fun z => by
    have := congrArg List.length z
    rw [List.length_map, List.length_drop] at this
    simp at this
    omega
  have hz : ((row.drop st).map V.int).length + ((row.take st).map V.int).length ≤ sizeLine := by
    rw [List.length_map, List.length_map, List.length_drop, List.length_take]
    have : (12 : Nat) ≤ sizeLine := by decide
    omega
  have step : ∀ (a : Addr) (H2 : Hp), Same H H2 → SqT K H2 a ((row.drop st).map V.int) → (st = 0 → a = t) →
      tCB (rTupF K) (tCons (tSl (rSlA K) (tVar i) tNoPart (tPart (tVar j))) tNil) σ H2 fun y H3 => rCatF K (.ref a) y H3 Q := by
    intro a H2 s2 ha hat
    refine ⟨_, h1, noPart_i ⟨_, h2, st, rfl, ?_⟩⟩
    refine slT_to (K := K) (by rw [List.length_map]; exact hst) (FzT.same ht s2).sq (fun b hb => ?_)
    have e1 : (upd H2 b (.tup ((row.map V.int).take st))) b = some (.tup ((row.take st).map V.int)) := by rw [upd_same, List.map_take]
    have s3 : Same H2 (upd H2 b (.tup ((row.map V.int).take st))) := same_new hb
    refine ⟨b, _, rfl, .inr ⟨SqT.of e1, ?_⟩⟩
    refine ⟨a, b, _, _, rfl, rfl, same_seqT s3 ha, SqT.of e1, hd, hz, fun z => ?_, fun z r ob hr hob => ?_⟩
    · have z0 : st = 0 := by
        have := congrArg List.length z
        rw [List.length_map, List.length_take, List.length_nil] at this
        omega
      subst z0
      rw [hat rfl]
      refine k t _ (s2.trans s3) ?_
      rw [show List.drop 0 row ++ List.take 0 row = row by simp]
      exact FzT.same (FzT.same ht s2) s3
    · refine k r _ ((s2.trans s3).trans (same_new hr)) ?_
      rw [List.map_append]
      exact FzT.new hob
  refine ⟨_, h1, _, h2, st, rfl, noPart_i ?_⟩
  refine slT_from (K := K) hx ht.sq (fun z => ?_) (fun nz a ha => ?_)
  · refine ⟨t, _, rfl, .inr ⟨ht.sq, ?_⟩⟩
    refine step t H (fun _ _ h => h) ?_ (fun _ => rfl)
    rw [z, List.drop_zero]
    exact ht.sq
  · have e1 : (upd H a (.tup ((row.map V.int).drop st))) a = some (.tup ((row.drop st).map V.int)) := by rw [upd_same, List.map_drop]
    refine ⟨a, _, rfl, .inr ⟨SqT.of e1, ?_⟩⟩
    refine step a _ (same_new ha) (SqT.of e1) (fun z => absurd z nz)
theorem FzT.ne {H : Hp} {a p : Addr} {xs : List V} {u o : HO} (h : FzT H a xs) (e : H p = some u) (n : ∀ ob x, u ≠ .frz ob x) : FzT (upd H p o) a xs := by
  obtain ⟨ob, h1, h2⟩ := h
  refine ⟨ob, ?_, h2⟩
  rw [upd_ne]
  · exact h1
  · intro z
    subst z
    rw [e] at h1
    exact n _ _ (Option.some.inj h1)
theorem place_at {row : List Int} {i : Nat} (h : i < row.length) : (places row)[i]? = some (((row.idxOf (i : Int) : Nat)) : Int) := by
  unfold places
  rw [List.getElem?_map, List.getElem?_range h]
  rfl
end
end Tt
set_option maxRecDepth 100000
set_option maxHeartbeats 4000000
namespace Tt
open PySem L2
section
variable {P : Program} {w : World} {K : PySem.W.Frag} {mg : Str → Option Value} {base : Heap}
theorem TyB.same {H H' : Hp} {x : V} {S : String} (t : TyB K H x S) (s : Same H H') : TyB K H' x S := by
  cases t with
  | non => exact .non
  | bl b => exact .bl b
  | int i => exact .int i
  | str x => exact .str x
  | byt b => exact .byt b
  | @lst a xs h =>
    have h' : SqL K H' a xs := by
      rcases h with (h | ⟨o, h⟩) | h
      · exact .inl (.inl (s _ _ h))
      · exact .inl (.inr ⟨o, s _ _ h⟩)
      · exact .inr h
    exact .lst h'
  | tup h => exact .tup (same_seqT s h)
  | dK h => exact .dK (s _ _ h)
end
end Tt
set_option maxRecDepth 100000
set_option maxHeartbeats 4000000
namespace Tt
open PySem L2
section
variable {P : Program} {w : World} {K : PySem.W.Frag} {mg : Str → Option Value} {base : Heap}
def SkOr (T : Txt K mg) (v : V) (H : Hp) (E : XK) (k : Addr → List Int → Prop) : Prop := (SkV T H v false ∧ SkErr T H E) ∨ ∃ (p : Addr) (row : List Int), v = .ref p ∧ SkAt T H p row ∧ (row.length ≤ 12 ∧ row.length % 2 = 0) ∧ k p row
end
end Tt
set_option maxRecDepth 100000
set_option maxHeartbeats 4000000
namespace Tt
open PySem L2
section
variable {P : Program} {w : World} {K : PySem.W.Frag} {mg : Str → Option Value} {base : Heap}
theorem slT_gen {xs : List V} {a : Addr} {H : Hp} {Q : VK} {n : Nat} (h : SqT K H a xs) (q : ∀ b H', Same H H' → SqT K H' b (xs.take n) → Q (.ref b) H') : rSlA K (.ref a) none (some (n : Int)) H Q := by
  by_cases hn : n < xs.length
  · refine slT_to hn h fun p hp => q p _ (same_new hp) (SqT.of upd_same)
  · refine ⟨a, xs, rfl, h, fun _ => q a H (fun _ _ z => z) ?_, fun z => absurd ⟨rfl, ?_⟩ z⟩
    · rw [List.take_of_length_le (by omega)]
      exact h
    · rw [HT.sIx_nat]
      omega
theorem catA_gen {xs ys : List V} {a b : Addr} {H : Hp} {Q : VK} (ha : SqT K H a xs) (hb : SqT K H b ys) (hz : xs.length + ys.length ≤ sizeLine) (q : ∀ c H', Same H H' → SqT K H' c (xs ++ ys) → Q (.ref c) H') : rCatA K (.ref a) (.ref b) H Q := by
  refine ⟨a, b, xs, ys, rfl, rfl, ha, hb, hz, fun z => ?_, fun _ z => ?_, fun _ _ p hp => q p _ (same_new hp) (SqT.of upd_same)⟩
  · subst z
    exact q b H (fun _ _ z => z) hb
  · subst z
    exact q a H (fun _ _ z => z) (by rw [List.append_nil]; exact ha)
theorem slT_genD {xs : List V} {a : Addr} {H : Hp} {Q : VK} {n : Nat} (h : SqT K H a xs) (q : ∀ b H', Same H H' → SqT K H' b (xs.drop n) → Q (.ref b) H') : rSlA K (.ref a) (some (n : Int)) none H Q := by
  by_cases hx : 0 < xs.length
  · refine slT_from hx h (fun z => ?_) fun _ p hp => q p _ (same_new hp) (SqT.of upd_same)
    subst z
    exact q a H (fun _ _ z => z) (by rw [List.drop_zero]; exact h)
  · have e : xs = [] := List.length_eq_zero_iff.mp (by omega)
    subst e
    refine ⟨a, [], rfl, h, fun _ => q a H (fun _ _ z => z) (by rw [List.drop_nil]; exact h), fun z => absurd ⟨by rw [HT.sIx_nat]; simp, rfl⟩ z⟩
end
end Tt
set_option maxRecDepth 100000
set_option maxHeartbeats 4000000
namespace Tt
open PySem L2
open LamX (Tabs TabS TabB ExtN CodeO tLam)
structure FnG (P : Program) (w : World) (K : PySem.W.Frag) (mg : Str → Option Value) (base : Heap) (CX : CXT) (k : Nat) (f : Addr) (fd : FuncData) (ps : List Str) (sp : Sp) : Prop where
  len : ∀ vs H Q E, sp vs H Q E → vs.length = ps.length
  run : ∀ (A : Around) (outer : List Env) (s : Shared) (H : Hp) (args : Args) (us : List Value) (vs : List V) (Q : VK) (E : XK), A.guards = some [] → Room k A → Env0 P w K mg base A outer s H → BindsTo s fd args (ps.zip us) → Vals vs us → sp vs H Q E →
    codeAny (model P w) A (.call (.ref f) args) (CR CX outer P w H s Q E) s
theorem FunC.okG {P : Program} {w : World} {K : PySem.W.Frag} {mg : Str → Option Value} {base : Heap} {x qual : Str} {st : Stmt} {f : Addr} {fd : FuncData} {cdv : Value} {N ps : List Str} {k : Nat} {sp : Sp} (F : FunC K x qual st f fd cdv) (S : FnScope N ps (defScope st)) (len : ∀ vs H Q E, sp vs H Q E → vs.length = ps.length)
    (body : ∀ (A : Around) (outer : List Env) (s : Shared) (H : Hp) (vs : List V) (Q : VK) (E : XK), A.guards = some [] → Room k (A.deeper (PyProof.Rows.envOfC qual (defScope st) s.heap.objs.size f cdv)) → sp vs H Q E →
      ∃ t, PSs (cxOf CX0 P w K mg base N qual (defScope st) f cdv A outer s H E).nox (defBody st) t ∧ t { nx := fun _ H' => Q .non H', rt := Q } (L2.start N vs) H) : FnG P w K mg base CX0 (k + 1) f fd ps sp := by
  refine ⟨len, fun A outer s H args us vs Q E hg hr e0 hb r hsp => ?_⟩
  obtain ⟨oc, od, kV, doc, pm, an, ct, osl, rfl, lk, hc⟩ := F.ex
  refine LamX.run_ofS (N := N) (ps := ps) (k := k) (us := us) (vs := vs) lk hc S hr e0 hb r (len _ _ _ _ hsp) fun hr' => ?_
  obtain ⟨t, h1, h2⟩ := body A outer s H vs Q E hg hr' hsp
  exact ⟨t, h1.nox, h2⟩
theorem FunG {P : Program} {w : World} {K : PySem.W.Frag} {mg : Str → Option Value} {base : Heap} {x qual : Str} {st : Stmt} {f : Addr} {fd : FuncData} {N ps : List Str} {k : Nat} {sp : Sp} (F : Fun K x qual st f fd) (S : FnScope N ps (defScope st)) (len : ∀ vs H Q E, sp vs H Q E → vs.length = ps.length)
    (body : ∀ (cdv : Value) (A : Around) (outer : List Env) (s : Shared) (H : Hp) (vs : List V) (Q : VK) (E : XK), A.guards = some [] → Room k (A.deeper (PyProof.Rows.envOfC qual (defScope st) s.heap.objs.size f cdv)) → sp vs H Q E →
      ∃ t, PSs (cxOf CX0 P w K mg base N qual (defScope st) f cdv A outer s H E).nox (defBody st) t ∧ t { nx := fun _ H' => Q .non H', rt := Q } (L2.start N vs) H) : FnG P w K mg base CX0 (k + 1) f fd ps sp := by
  refine ⟨len, fun A outer s H args us vs Q E hg hr e0 hb r hsp => ?_⟩
  obtain ⟨oc, od, kV, doc, pm, an, cdv, ct, osl, rfl, lk, hc⟩ := F.ex
  refine LamX.run_ofS (N := N) (ps := ps) (k := k) (us := us) (vs := vs) lk hc S hr e0 hb r (len _ _ _ _ hsp) fun hr' => ?_
  obtain ⟨t, h1, h2⟩ := body cdv A outer s H vs Q E hg hr' hsp
  exact ⟨t, h1.nox, h2⟩
section
variable {X : Cx} {CX : CXT} {k : Nat} {f : Addr} {fd : FuncData} {ps : List Str} {sp : Sp} {ds : List Value} {dvs : List V} {E : XK} {x : Str} {p pos : Pos} {e : Expr} {es : List Expr} {t : TA}
theorem pe_callG (F : FnG X.prog X.w X.K X.mg X.base CX k f fd ps sp) (hgd : X.A.guards = some []) (hr : Room k X.A) (hg : Gl X x) (hm : X.mg x = some (.ref f)) (hk : PySem.W.keepIn X.K (.ref f) = true) (hb : Binds X.K fd ps ds) (hd : Vals dvs ds) (hx : Passes CX X E)
    (ha : PA X (e :: es) t) (hdb : (x == ("__debug__" : Str)) = false := by decide) (he : starEach (e :: es) X.env = (false, eval e X.env) :: starEach es X.env := by rfl) (hpl : (backTo pos (starEach es X.env)).any (·.1) = false := by rfl) :
    PE X (.Call (.Name x p) (e :: es) [] pos) (tCall sp dvs E t) := by
  refine ⟨fun pins s σ H Q I h => ?_⟩
  refine wpAny_Call_Name_kw (ld_glob I hg hm ?_ hdb)
  refine PySem.W.callWith_K (h₀ := X.base) I.ok.mod.kin hk (thn (ha.run pos pins s σ H _ I h) fun us s1 ⟨vs, H1, I1, r, q⟩ => ⟨I1.kIn, ?_⟩) he hpl
  have r2 : Vals (vs ++ dvs) (us ++ ds) := r.append hd
  have hl : (us ++ ds).length = ps.length := by rw [← r2.length]; exact F.len _ _ _ _ q
  refine wpAny_call (codeAny_mono (F.run X.A X.stack s1 H1 ⟨us, []⟩ (us ++ ds) (vs ++ dvs) Q E hgd hr I1.env0 (hb s1 us I1.kIn hl) r2 q) fun r s' hq => ?_)
  cases r with
  | error e => exact hx pins σ H1 s1 e s' I1 hq
  | ok fl =>
    cases fl with
    | ret u => exact I1.after hq
    | next => exact False.elim hq
    | brk => exact False.elim hq
    | cont => exact False.elim hq
end
section
variable {X : Cx} {E : XK}
theorem pe_caught (T : Txt X.K X.mg) {Ts : List (Addr × Str)} {c P : Addr} {k : Nat} {ps : Arguments} {bd : Expr} {lsc : Scope} {t : XK → TE} {p lpos pos : Pos} (hg : Gl X "_law_caught") (TB : TabB X.base X.mg c P) (hcode : X.env.code = .ref c) (hmT : (P, X.env.qual ++ "<lambda>") ∈ Ts) (hu : ∀ p ∈ Ts, p.1 = P → p.2 = X.env.qual ++ "<lambda>")
    (hr : Room (k + 2) X.A) (L : LamX.LamS X.env.scope lsc) (hdef : defaultsOf ps X.env = ([], []))
    (noArgs : ∀ (q : Str) (cl : List (Str × Addr)) (pm cv ctv : Value), bindArgs (PySem.W.kla_fn "<lambda>" q ps bd lsc cl pm cv ctv) ⟨[], []⟩ = pure [])
    (body : ∀ (A : Around) (outer : List Env) (s : Shared) (H : Hp) (E : XK) (fl co : Addr), Room k (A.deeper (LamX.lamEnv X lsc s.heap.objs.size fl co)) → PE (LamX.lamCx X A outer s H E lsc fl co) bd (t E)) :
    PE X (.Call (.Name "_law_caught" p) [.Lambda ps bd lsc lpos] [] pos) (tLam Ts (TTc X.K T.RoundError.C) t) := by
  obtain ⟨oc, od, kV, doc, pm, an, cdv, ct, osl, e, lk, hc⟩ := T.l_caught.F.ex
  have hb := T.l_caught.b
  rw [e] at lk hb
  exact LamX.tt_lamcall hg T.l_caught.g T.l_caught.k lk hc hb sc_l_caught rfl (Or.inl rfl) (caught_gives T.RoundError.g) TB hcode hmT hu hr L hdef noArgs body
theorem lamP {A : Around} {outer : List Env} {s : Shared} {H : Hp} {lsc : Scope} {fl co : Addr} : Passes (L2.CX X.prog X.w) (LamX.lamCx X A outer s H E lsc fl co) E := passes_call (takes_of rfl rfl rfl rfl) fun _ _ _ _ h => h
end
section
variable {P : Program} {w : World} {K : PySem.W.Frag} {mg : Str → Option Value} {base : Heap}
theorem sqT_ext {H H' : Hp} {a : Addr} {xs : List V} (e : ExtN H H') (h : SqT K H a xs) : SqT K H' a xs := by
  rcases h with (h | ⟨o, h⟩) | h
  · exact .inl (.inl (e _ _ h fun _ z => nomatch z))
  · exact .inl (.inr ⟨o, e _ _ h fun _ z => nomatch z⟩)
  · exact .inr h
theorem sqL_ext {H H' : Hp} {a : Addr} {xs : List V} (e : ExtN H H') (h : SqL K H a xs) : SqL K H' a xs := by
  rcases h with (h | ⟨o, h⟩) | h
  · exact .inl (.inl (e _ _ h fun _ z => nomatch z))
  · exact .inl (.inr ⟨o, e _ _ h fun _ z => nomatch z⟩)
  · exact .inr h
theorem tyB_ext {H H' : Hp} {x : V} {S : String} (t : TyB K H x S) (e : ExtN H H') : TyB K H' x S := by
  cases t with
  | non => exact .non
  | bl b => exact .bl b
  | int i => exact .int i
  | str x => exact .str x
  | byt b => exact .byt b
  | @lst a xs h =>
    have h' : SqL K H' a xs := sqL_ext e h
    exact .lst h'
  | tup h => exact .tup (sqT_ext e h)
  | dK h => exact .dK (e _ _ h fun _ z => nomatch z)
theorem fzT_ext {H H' : Hp} {a : Addr} {xs : List V} (e : ExtN H H') (h : FzT H a xs) : FzT H' a xs := by
  obtain ⟨ob, h1, h2⟩ := h
  exact ⟨ob, e _ _ h1 (fun _ z => nomatch z), h2⟩
theorem skAt_ext {T : Txt K mg} {H H' : Hp} {p : Addr} {row : List Int} (h : SkAt T H p row) (e : ExtN H H') : SkAt T H' p row := by
  obtain ⟨dx, r, q, h1, h2, h3⟩ := h
  exact ⟨dx, r, q, e _ _ h1 (fun _ z => nomatch z), fzT_ext e h2, fzT_ext e h3⟩
theorem drOk_ext {D : Dw} {H H' : Hp} (h : DrOk D H) (e : ExtN H H') : DrOk D H' := by
  obtain ⟨ls, cs, r, t, d⟩ := h
  exact ⟨ls, cs, r, t, e _ _ d.hd (fun _ z => nomatch z), e _ _ d.hl (fun _ z => nomatch z), e _ _ d.hc (fun _ z => nomatch z), d.ne, d.nl, d.nc⟩
def KpN (D : Dw) (H H' : Hp) : Prop := ∀ b o, H b = some o → b ≠ D.d → b ≠ D.l → (∀ ps, o ≠ .tbl ps) → H' b = some o
theorem KpN.of {D : Dw} {H H' : Hp} (k : Kp D H H') : KpN D H H' := fun b o h n m _ => k b o h n m
theorem KpN.ext {D : Dw} {H H' : Hp} (k : ExtN H H') : KpN D H H' := fun b o h _ _ t => k b o h t
theorem KpN.trans {D : Dw} {H H1 H2 : Hp} (a : KpN D H H1) (b : KpN D H1 H2) : KpN D H H2 := fun c o h n m t => b c o (a c o h n m t) n m t
theorem tabs_kp {D : Dw} {Ts : List (Addr × Str)} {H H' : Hp} (t : Tabs Ts H) (dr : DrOk D H) (k : Kp D H H') : Tabs Ts H' := fun p hp => by
  obtain ⟨ps, h1, h2, h3⟩ := t p hp
  obtain ⟨ls, cs, r, tt, d⟩ := dr
  refine ⟨ps, k _ _ h1 (d.dne h1 fun _ z => nomatch z) (d.lne h1 fun _ z => nomatch z), h2, fun pos cv hc => ?_⟩
  obtain ⟨c, e1, e2⟩ := h3 pos cv hc
  exact ⟨c, e1, k _ _ e2 (d.dne e2 fun _ z => nomatch z) (d.lne e2 fun _ z => nomatch z)⟩
theorem exm_S (T : Txt K mg) : PySem.W.exmOne K (.ref T.BadSkin.C) (.ref T.RoundError.C) = some true := PySem.W.exm_ref T.RoundError.ec.hs T.RoundError.ec.hd T.RoundError.ty T.sSR
def spSkinErr (T : Txt K mg) : Sp := fun vs H Q _ => ∃ (a d : Addr), vs = [.ref a] ∧ H a = some (exh (.ref T.BadSkin.C) (some d) a) ∧ H d = some (.xd [("part", .non)]) ∧ Q (.bl true) H
theorem ok_l_skin_error (T : Txt K mg) : FnOk P w K mg base CX0 1 T.l_skin_error.a T.l_skin_error.fd ["error"] (spSkinErr T) := by
  refine T.l_skin_error.F.ok sc_l_skin_error (fun vs H Q E h => ?_) (fun cdv A outer s H vs Q E hr h => ?_)
  · obtain ⟨a, d, rfl, _⟩ := h
    rfl
  · obtain ⟨a, d, rfl, h1, h2, k⟩ := h
    refine ⟨_, (pss_one (ps_ret (pe_and (pe_callB call_isA (by rfl) T.zisinstance (by decide +kernel) (pa_cons (pv 0) (pa_cons (pe_glob (v := .ref T.BadSkin.C) rfl T.BadSkin.g rfl) pa_nil))) (pe_one (pe_cmpR op_isN (pe_xfH (pv 0)) pe_non (nomark _)))))), ?_⟩
    refine ⟨_, rfl, .inl ⟨a, T.BadSkin.C, some d, _, _, true, rfl, h1, .inr ⟨d, _, rfl, h2⟩, T.BadSkin.ec, .own T.BadSkin.C, T.kSkSk, _, rfl, iteT ?_⟩⟩
    exact ⟨_, rfl, a, T.BadSkin.C, d, _, .non, rfl, h1, h2, T.BadSkin.xf, T.BadSkin.n, rfl, rfl, k⟩
def NoSk (T : Txt K mg) (J : Hp → Prop) (Q : VK) : Prop := ∀ a d H', J H' → H' a = some (exh (.ref T.BadSkin.C) (some d) a) → H' d = some (.xd [("part", .non)]) → Q (.ref a) H'
theorem skErr_of {T : Txt K mg} {J : Hp → Prop} {H1 : Hp} {Q : VK} (js : ∀ H', Same H1 H' → J H') (k : NoSk T J Q) : SkErr T H1 (fun cls d H' => PySem.W.exmOne K cls (.ref T.RoundError.C) = some true ∧ ∀ a, H' a = none → Q (.ref a) (upd H' a (exh cls d a))) := fun d H' s e =>
  ⟨exm_S T, fun a ha => k a d _ (js _ (s.trans (same_new ha))) upd_same (by rw [upd_ne (ne_of_none e ha)]; exact e)⟩
end
end Tt
set_option maxRecDepth 100000
set_option maxHeartbeats 4000000
namespace Tt
open PySem L2
open LamX (ExtN)
section
variable {P : Program} {w : World} {K : PySem.W.Frag} {mg : Str → Option Value} {base : Heap}
def RowP (xs : List V) : Prop := ∃ (n : Nat) (row : List Int), 1 ≤ n ∧ n ≤ 6 ∧ xs = row.map V.int ∧ row.Perm (rgI (2 * n))
inductive RowV (K : PySem.W.Frag) (H : Hp) : V → Bool → Prop where
  | non {x : V} {S : String} (h : TyB K H x S) (hS : S = "NoneType" ∨ S = "int" ∨ S = "str" ∨ S = "dict") : RowV K H x false
  | lst {p : Addr} {xs : List V} {b : Bool} (h : SqL K H p xs) (n : xs.length ≤ 20) (ty : ∀ y ∈ xs, ∃ S, TyB K H y S ∧ S ≠ "dict" ∧ S ≠ "bytes") (hb : b = true ↔ RowP xs) : RowV K H (.ref p) b
  | tup {p : Addr} {xs : List V} {b : Bool} (h : SqT K H p xs) (n : xs.length ≤ 20) (ty : ∀ y ∈ xs, ∃ S, TyB K H y S ∧ S ≠ "dict" ∧ S ≠ "bytes") (hb : b = true ↔ RowP xs) : RowV K H (.ref p) b
theorem RowV.ext {H H' : Hp} {x : V} {b : Bool} (h : RowV K H x b) (e : ExtN H H') : RowV K H' x b := by
  cases h with
  | non h hS => exact .non (tyB_ext h e) hS
  | lst h n ty hb => exact .lst (sqL_ext e h) n (fun y hy => (ty y hy).elim fun S t => ⟨S, tyB_ext t.1 e, t.2⟩) hb
  | tup h n ty hb => exact .tup (sqT_ext e h) n (fun y hy => (ty y hy).elim fun S t => ⟨S, tyB_ext t.1 e, t.2⟩) hb
theorem map_int_inj : ∀ {a b : List Int}, a.map V.int = b.map V.int → a = b
  | [], [], _ => rfl
  | [], _ :: _, h => by cases h
  | _ :: _, [], h => by cases h
  | x :: a, y :: b, h => by
    simp only [List.map_cons, List.cons.injEq, V.int.injEq] at h
    rw [h.1, map_int_inj h.2]
theorem all_ints : ∀ {xs : List V}, xs.all isI = true → ∃ row : List Int, xs = row.map V.int
  | [], _ => ⟨[], rfl⟩
  | x :: xs, h => by
    rw [List.all_cons, Bool.and_eq_true] at h
    obtain ⟨row, e⟩ := all_ints h.2
    cases x with
    | int i => exact ⟨i :: row, by rw [e]; rfl⟩
    | _ => exact absurd h.1 (by simp [isI])
theorem lenIn_of {n m : Nat} (h : n = 2 * m) (h1 : 1 ≤ m) (h6 : m ≤ 6) : inV (.int (n : Int)) [.int 2, .int 4, .int 6, .int 8, .int 10, .int 12] = true := by
  subst h
  have : m = 1 ∨ m = 2 ∨ m = 3 ∨ m = 4 ∨ m = 5 ∨ m = 6 := by omega
  rcases this with rfl | rfl | rfl | rfl | rfl | rfl <;> rfl
theorem lenIn {n : Nat} (hn : n ≤ 20) (h : inV (.int (n : Int)) [.int 2, .int 4, .int 6, .int 8, .int 10, .int 12] = true) : ∃ m, 1 ≤ m ∧ m ≤ 6 ∧ n = 2 * m := by
  have z : ∀ k : Fin 21, inV (.int ((k.val : Nat) : Int)) [.int 2, .int 4, .int 6, .int 8, .int 10, .int 12] = true → (k.val % 2 = 0 ∧ 2 ≤ k.val ∧ k.val ≤ 12) := by decide
  obtain ⟨a, b, c⟩ := z ⟨n, by omega⟩ h
  have a' : n % 2 = 0 := a
  have b' : 2 ≤ n := b
  have c' : n ≤ 12 := c
  exact ⟨n / 2, by omega, by omega, by omega⟩
def spRowV (K : PySem.W.Frag) : Sp := fun vs H Q _ => ∃ (x : V) (b : Bool), vs = [x] ∧ RowV K H x b ∧ ∀ H', Same H H' → Q (.bl b) H'
theorem ok_is_row (T : Txt K mg) : FnOk P w K mg base CX0 3 T.is_row.a T.is_row.fd ["row"] (spRowV K) := by
  refine T.is_row.F.ok sc_is_row (fun vs H Q E h => ?_) (fun cdv A outer s H vs Q E hr h => ?_)
  · obtain ⟨x, b, rfl, _⟩ := h
    rfl
  · obtain ⟨x, b, rfl, hv, k⟩ := h
    have nd := sc_is_row.nd
    cases hv with
    | @non x S h hS =>
      refine ⟨_, (pss_cons (ps_if (PW.pt (pw_or (pt_not (pt_val (pe_call (ok_is_list T) (hr.mono (by decide)) (by rfl) T.is_list.g T.is_list.k T.is_list.b .nil pass0 (pa_cons (pv 0) pa_nil)))) (pw_or1 (pt_cmpR op_notIn_seq (pe_callB call_len_seq (by rfl) T.zlen (by decide +kernel) (pa_cons (pv 0) pa_nil)) (pe_tup (pa_cons pe_int (pa_cons pe_int (pa_cons pe_int (pa_cons pe_int (pa_cons pe_int (pa_cons pe_int pa_nil))))))) rfl))))
      (pss_one (ps_ret pe_bl))
      pss_nil)
    (pss_one (ps_ret (pe_and (pe_callB (cr_all rfl) (by rfl) T.zall (by decide +kernel) (pa_cons (pe_lc (own := [("end", 1)]) (g := gName 1) rfl nd (pi_tup (pv 0)) (blkOk_by (own := [("end", 1)]) (N := N_is_row) (sc := defScope s_is_row) (by decide +kernel)) (fun _ _ _ _ _ => pg_name (i := 1) nd rfl (Or.inl rfl)) (fun _ _ _ _ _ => pts_nil) (fun _ _ _ _ _ => (pe_call (ok_is_number T) (hr.mono (by decide)) (by rfl) T.is_number.g T.is_number.k T.is_number.b .nil pass0 (pa_cons (pv 1) pa_nil)))) pa_nil)) (pe_one (pe_cmpR (op_eqD hr.units) (pe_callB cr_sortedS2 (by rfl) T.zsorted (by decide +kernel) (pa_cons (pv 0) pa_nil)) (pe_listRg rfl (by rfl) T.zlist (prg_1 (by rfl) T.zrange (pe_callB call_len_seq (by rfl) T.zlen (by decide +kernel) (pa_cons (pv 0) pa_nil)))) (nomark _))))))), ?_⟩
      refine ⟨_, rfl, _, _, rfl, h, _, rfl, ?_⟩
      rcases hS with rfl | rfl | rfl | rfl <;> exact iteT (k _ fun _ _ z => z)
    | @lst t xs b h n ty hb =>
      refine ⟨_, (pss_cons (ps_if (PW.pt (pw_or (pt_not (pt_val (pe_call (ok_is_list T) (hr.mono (by decide)) (by rfl) T.is_list.g T.is_list.k T.is_list.b .nil pass0 (pa_cons (pv 0) pa_nil)))) (pw_or1 (pt_cmpR op_notIn_seq (pe_callB call_len_seq (by rfl) T.zlen (by decide +kernel) (pa_cons (pv 0) pa_nil)) (pe_tup (pa_cons pe_int (pa_cons pe_int (pa_cons pe_int (pa_cons pe_int (pa_cons pe_int (pa_cons pe_int pa_nil))))))) rfl))))
      (pss_one (ps_ret pe_bl))
      pss_nil)
    (pss_one (ps_ret (pe_and (pe_callB (cr_all rfl) (by rfl) T.zall (by decide +kernel) (pa_cons (pe_lc (own := [("end", 1)]) (g := gName 1) rfl nd (pi_list (pv 0)) (blkOk_by (own := [("end", 1)]) (N := N_is_row) (sc := defScope s_is_row) (by decide +kernel)) (fun _ _ _ _ _ => pg_name (i := 1) nd rfl (Or.inl rfl)) (fun _ _ _ _ _ => pts_nil) (fun _ _ _ _ _ => (pe_call (ok_is_number T) (hr.mono (by decide)) (by rfl) T.is_number.g T.is_number.k T.is_number.b .nil pass0 (pa_cons (pv 1) pa_nil)))) pa_nil)) (pe_one (pe_cmpR (op_eqD hr.units) (pe_callB cr_sortedS2 (by rfl) T.zsorted (by decide +kernel) (pa_cons (pv 0) pa_nil)) (pe_listRg rfl (by rfl) T.zlist (prg_1 (by rfl) T.zrange (pe_callB call_len_seq (by rfl) T.zlen (by decide +kernel) (pa_cons (pv 0) pa_nil)))) (nomark _))))))), ?_⟩
      refine ⟨_, rfl, _, _, rfl, .lst h, _, rfl, iteF ?_⟩
      refine ⟨_, rfl, t, _, rfl, .inl h, (by show 6 ≤ sizeLine; decide), fun p hp => ?_⟩
      refine ⟨p, _, rfl, .inr (SqT.of upd_same), rfl, rfl, _, rfl, ?_⟩
      have s1 : Same H (upd H p (.tup [.int 2, .int 4, .int 6, .int 8, .int 10, .int 12])) := same_new hp
      generalize upd H p (.tup [.int 2, .int 4, .int 6, .int 8, .int 10, .int 12]) = H1 at s1
      refine ite2 (fun c => ?_) (fun c => ?_)
      · have hf : b = false := by
          cases b with
          | false => rfl
          | true =>
            obtain ⟨n, row, n1, n6, e, pm⟩ := hb.mp rfl
            have hl : xs.length = 2 * n := by rw [e, List.length_map, perm_len pm]
            have c' : (!inV (.int (xs.length : Int)) [.int 2, .int 4, .int 6, .int 8, .int 10, .int 12]) = true := c
            rw [lenIn_of hl n1 n6] at c'
            cases c'
        subst hf
        exact k _ s1
      · obtain ⟨m, m1, m6, hlen⟩ := lenIn (n := xs.length) (by omega) (by simpa using c)
        refine ⟨_, rfl, t, rfl, ⟨_, sqL_ext (.of s1) h⟩, fun D1 hD1 => lc_list (K := K) (a := t) (xs := xs) (fun i H' => H' D1 = some (.lst (((xs.take i).map isI).map V.bl)) ∧ Same H1 H')
          ⟨upd_same, same_new hD1⟩ (fun i H' _ z => sqL_ext (.of (s1.trans z.2)) h) ?_ ?_⟩
        · rintro i y H' hi ⟨h1, s2⟩
          have hil : i < xs.length := (List.getElem?_eq_some_iff.mp hi).1
          obtain ⟨S, ty', _⟩ := ty y (List.mem_of_getElem? hi)
          refine ⟨rfl, yes_t ?_⟩
          refine ⟨_, rfl, _, S, rfl, TyB.same ty' (s1.trans s2), _, h1, ?_, ?_, fun b o hb => ?_⟩
          · rw [List.length_map, List.length_map, List.length_take]
            exact small1000 (by omega)
          · rw [upd_same, List.take_add_one, hi, List.map_append, List.map_append]
            rfl
          · rw [upd_ne (ne_of_none hb hD1)]
            exact s2 b o hb
        · rintro H' ⟨h1, s2⟩
          have e2 : xs.take xs.length = xs := List.take_length
          rw [e2] at h1
          have s3 : Same H H' := s1.trans s2
          refine ⟨D1, xs.map isI, rfl, SqL.of h1, _, rfl, ?_⟩
          have hall : (xs.map isI).all id = xs.all isI := by rw [List.all_map]; rfl
          rw [hall]
          refine ite2 (fun ca => ?_) (fun ca => ?_)
          · obtain ⟨row, ex⟩ := all_ints ca
            subst ex
            rw [List.length_map] at hlen
            refine ⟨_, rfl, .inl ⟨t, row, rfl, sqL_ext (.of s3) h, fun ns' p2 pm2 pw hp2 => ?_⟩⟩
            have s4 : Same H (upd H' p2 (.lst (ns'.map V.int))) := s3.trans (same_new hp2)
            refine ⟨_, rfl, t, _, rfl, .inl (sqL_ext (.of s4) h), _, rfl, RgOk.of_le (by omega) ?_ (by omega) (by omega), fun q hq => ?_⟩
            · rw [List.length_map]
              omega
            · have e1 : (upd (upd H' p2 (.lst (ns'.map V.int))) q (.lst (rgV 0 ((row.map V.int).length : Int)))) q = some (.lst ((rgI (2 * m)).map V.int)) := by
                rw [upd_same, rgV_rgI (by omega), List.length_map, hlen, Int.toNat_natCast]
              have e2 : (upd (upd H' p2 (.lst (ns'.map V.int))) q (.lst (rgV 0 ((row.map V.int).length : Int)))) p2 = some (.lst (ns'.map V.int)) := upk hq upd_same
              refine ⟨_, _, .lst (SqL.of e2) (dpAll_ints _ ns'), .lst (SqL.of e1) (dpAll_ints _ _), shapedAll_ints _, shapedAll_ints _, ?_⟩
              rw [eqv_ints]
              have eb : decide (ns' = rgI (2 * m)) = b := by
                rw [Bool.eq_iff_iff, hb, decide_eq_true_iff]
                constructor
                · intro e
                  exact ⟨m, row, m1, m6, rfl, by rw [← e]; exact pm2.symm⟩
                · rintro ⟨n', row', a1, a2, e, pm⟩
                  have er : row = row' := map_int_inj e
                  subst er
                  have : 2 * n' = 2 * m := by rw [← hlen, perm_len pm]
                  rw [← this]
                  exact perm_sorted pm2 pw pm
              rw [eb]
              exact k _ (s4.trans (same_new hq))
          · have hf : b = false := by
              cases b with
              | false => rfl
              | true =>
                obtain ⟨n, row, n1, n6, e, pm⟩ := hb.mp rfl
                subst e
                exact absurd (by rw [List.all_map]; exact List.all_eq_true.mpr fun _ _ => rfl) ca
            subst hf
            have ca' : xs.all isI = false := by simpa using ca
            exact k _ s3
    | @tup t xs b h n ty hb =>
      refine ⟨_, (pss_cons (ps_if (PW.pt (pw_or (pt_not (pt_val (pe_call (ok_is_list T) (hr.mono (by decide)) (by rfl) T.is_list.g T.is_list.k T.is_list.b .nil pass0 (pa_cons (pv 0) pa_nil)))) (pw_or1 (pt_cmpR op_notIn_seq (pe_callB call_len_seq (by rfl) T.zlen (by decide +kernel) (pa_cons (pv 0) pa_nil)) (pe_tup (pa_cons pe_int (pa_cons pe_int (pa_cons pe_int (pa_cons pe_int (pa_cons pe_int (pa_cons pe_int pa_nil))))))) rfl))))
      (pss_one (ps_ret pe_bl))
      pss_nil)
    (pss_one (ps_ret (pe_and (pe_callB (cr_all rfl) (by rfl) T.zall (by decide +kernel) (pa_cons (pe_lc (own := [("end", 1)]) (g := gName 1) rfl nd (pi_tup (pv 0)) (blkOk_by (own := [("end", 1)]) (N := N_is_row) (sc := defScope s_is_row) (by decide +kernel)) (fun _ _ _ _ _ => pg_name (i := 1) nd rfl (Or.inl rfl)) (fun _ _ _ _ _ => pts_nil) (fun _ _ _ _ _ => (pe_call (ok_is_number T) (hr.mono (by decide)) (by rfl) T.is_number.g T.is_number.k T.is_number.b .nil pass0 (pa_cons (pv 1) pa_nil)))) pa_nil)) (pe_one (pe_cmpR (op_eqD hr.units) (pe_callB cr_sortedS2 (by rfl) T.zsorted (by decide +kernel) (pa_cons (pv 0) pa_nil)) (pe_listRg rfl (by rfl) T.zlist (prg_1 (by rfl) T.zrange (pe_callB call_len_seq (by rfl) T.zlen (by decide +kernel) (pa_cons (pv 0) pa_nil)))) (nomark _))))))), ?_⟩
      refine ⟨_, rfl, _, _, rfl, .tup h, _, rfl, iteF ?_⟩
      refine ⟨_, rfl, t, _, rfl, .inr h, (by show 6 ≤ sizeLine; decide), fun p hp => ?_⟩
      refine ⟨p, _, rfl, .inr (SqT.of upd_same), rfl, rfl, _, rfl, ?_⟩
      have s1 : Same H (upd H p (.tup [.int 2, .int 4, .int 6, .int 8, .int 10, .int 12])) := same_new hp
      generalize upd H p (.tup [.int 2, .int 4, .int 6, .int 8, .int 10, .int 12]) = H1 at s1
      refine ite2 (fun c => ?_) (fun c => ?_)
      · have hf : b = false := by
          cases b with
          | false => rfl
          | true =>
            obtain ⟨n, row, n1, n6, e, pm⟩ := hb.mp rfl
            have hl : xs.length = 2 * n := by rw [e, List.length_map, perm_len pm]
            have c' : (!inV (.int (xs.length : Int)) [.int 2, .int 4, .int 6, .int 8, .int 10, .int 12]) = true := c
            rw [lenIn_of hl n1 n6] at c'
            cases c'
        subst hf
        exact k _ s1
      · obtain ⟨m, m1, m6, hlen⟩ := lenIn (n := xs.length) (by omega) (by simpa using c)
        refine ⟨_, rfl, t, rfl, ⟨_, sqT_ext (.of s1) h⟩, fun D1 hD1 => lc_tup (K := K) (a := t) (xs := xs) (fun i H' => H' D1 = some (.lst (((xs.take i).map isI).map V.bl)) ∧ Same H1 H')
          ⟨upd_same, same_new hD1⟩ (fun i H' _ z => sqT_ext (.of (s1.trans z.2)) h) ?_ ?_⟩
        · rintro i y H' hi ⟨h1, s2⟩
          have hil : i < xs.length := (List.getElem?_eq_some_iff.mp hi).1
          obtain ⟨S, ty', _⟩ := ty y (List.mem_of_getElem? hi)
          refine ⟨rfl, yes_t ?_⟩
          refine ⟨_, rfl, _, S, rfl, TyB.same ty' (s1.trans s2), _, h1, ?_, ?_, fun b o hb => ?_⟩
          · rw [List.length_map, List.length_map, List.length_take]
            exact small1000 (by omega)
          · rw [upd_same, List.take_add_one, hi, List.map_append, List.map_append]
            rfl
          · rw [upd_ne (ne_of_none hb hD1)]
            exact s2 b o hb
        · rintro H' ⟨h1, s2⟩
          have e2 : xs.take xs.length = xs := List.take_length
          rw [e2] at h1
          have s3 : Same H H' := s1.trans s2
          refine ⟨D1, xs.map isI, rfl, SqL.of h1, _, rfl, ?_⟩
          have hall : (xs.map isI).all id = xs.all isI := by rw [List.all_map]; rfl
          rw [hall]
          refine ite2 (fun ca => ?_) (fun ca => ?_)
          · obtain ⟨row, ex⟩ := all_ints ca
            subst ex
            rw [List.length_map] at hlen
            refine ⟨_, rfl, .inr ⟨t, row, rfl, sqT_ext (.of s3) h, fun ns' p2 pm2 pw hp2 => ?_⟩⟩
            have s4 : Same H (upd H' p2 (.lst (ns'.map V.int))) := s3.trans (same_new hp2)
            refine ⟨_, rfl, t, _, rfl, .inr (sqT_ext (.of s4) h), _, rfl, RgOk.of_le (by omega) ?_ (by omega) (by omega), fun q hq => ?_⟩
            · rw [List.length_map]
              omega
            · have e1 : (upd (upd H' p2 (.lst (ns'.map V.int))) q (.lst (rgV 0 ((row.map V.int).length : Int)))) q = some (.lst ((rgI (2 * m)).map V.int)) := by
                rw [upd_same, rgV_rgI (by omega), List.length_map, hlen, Int.toNat_natCast]
              have e2 : (upd (upd H' p2 (.lst (ns'.map V.int))) q (.lst (rgV 0 ((row.map V.int).length : Int)))) p2 = some (.lst (ns'.map V.int)) := upk hq upd_same
              refine ⟨_, _, .lst (SqL.of e2) (dpAll_ints _ ns'), .lst (SqL.of e1) (dpAll_ints _ _), shapedAll_ints _, shapedAll_ints _, ?_⟩
              rw [eqv_ints]
              have eb : decide (ns' = rgI (2 * m)) = b := by
                rw [Bool.eq_iff_iff, hb, decide_eq_true_iff]
                constructor
                · intro e
                  exact ⟨m, row, m1, m6, rfl, by rw [← e]; exact pm2.symm⟩
                · rintro ⟨n', row', a1, a2, e, pm⟩
                  have er : row = row' := map_int_inj e
                  subst er
                  have : 2 * n' = 2 * m := by rw [← hlen, perm_len pm]
                  rw [← this]
                  exact perm_sorted pm2 pw pm
              rw [eb]
              exact k _ (s4.trans (same_new hq))
          · have hf : b = false := by
              cases b with
              | false => rfl
              | true =>
                obtain ⟨n, row, n1, n6, e, pm⟩ := hb.mp rfl
                subst e
                exact absurd (by rw [List.all_map]; exact List.all_eq_true.mpr fun _ _ => rfl) ca
            subst hf
            have ca' : xs.all isI = false := by simpa using ca
            exact k _ s3
end
end Tt
set_option maxRecDepth 100000
set_option maxHeartbeats 4000000
namespace Tt
open PySem L2
open LamX (ExtN)
section
variable {P : Program} {w : World} {K : PySem.W.Frag} {mg : Str → Option Value} {base : Heap}
theorem sqL_ne {H : Hp} {a p : Addr} {xs : List V} {u o : HO} (h : SqL K H a xs) (e : H p = some u) (n1 : ∀ x, u ≠ .lst x) (n2 : ∀ ob x, u ≠ .frz ob x) : SqL K (upd H p o) a xs := by
  rcases h with (h | ⟨ob, h⟩) | h
  · refine .inl (.inl ?_)
    rw [upd_ne]
    · exact h
    · intro z
      subst z
      rw [e] at h
      exact n1 _ (Option.some.inj h)
  · refine .inl (.inr ⟨ob, ?_⟩)
    rw [upd_ne]
    · exact h
    · intro z
      subst z
      rw [e] at h
      exact n2 _ _ (Option.some.inj h)
  · exact .inr h
theorem ints_ty {H : Hp} (row : List Int) : ∀ y ∈ row.map V.int, ∃ S, TyB K H y S ∧ S ≠ "dict" ∧ S ≠ "bytes" := fun y hy => by
  obtain ⟨i, _, rfl⟩ := List.mem_map.mp hy
  exact ⟨_, .int i, by decide, by decide⟩
theorem flat_ints : ∀ row : List Int, (row.map V.int).all flatV = true
  | [] => rfl
  | _ :: l => flat_ints l
theorem no_ahead {row : List Int} {x : Int} {j : Nat} (h : ∀ m, m < j → row[m]? ≠ some x) : ∀ (m : Nat) (z' : V), m < j → (row.map V.int)[m]? = some z' → eqV z' (.int x) = false := fun m z' hm hz => by
  obtain ⟨i, rfl, hi⟩ := ints_at hz
  have ne : i ≠ x := fun e => h m hm (by rw [hi, e])
  show decide (i = x) = false
  exact decide_eq_false ne
def tTurnedL (K : PySem.W.Frag) (i j : Nat) : TE := tOp (rCatF K) (tCB (rTupF K) (tCons (tSl (rSlL K) (tVar i) (tPart (tVar j)) tNoPart) tNil)) (tCB (rTupF K) (tCons (tSl (rSlL K) (tVar i) tNoPart (tPart (tVar j))) tNil))
theorem row_turnedL {σ : L2.St} {H : Hp} {Q : VK} {t : Addr} {i j st : Nat} {row : List Int} (h1 : σ[i]? = some (some (.ref t))) (h2 : σ[j]? = some (some (.int (st : Nat)))) (ht : SqL K H t (row.map V.int)) (hst : st < row.length) (hl : row.length ≤ 12)
    (k : ∀ (r : Addr) (H4 : Hp), Same H H4 → FzT H4 r ((row.drop st ++ row.take st).map V.int) → Q (.ref r) H4) : tTurnedL K i j σ H Q := by
  have hd : ((row.drop st).map V.int) ≠ [] := fun z => by
    have := congrArg List.length z
    rw [List.length_map, List.length_drop] at this
    simp at this
    omega
  have hz : ((row.drop st).map V.int).length + ((row.take st).map V.int).length ≤ sizeLine := by
    rw [List.length_map, List.length_map, List.length_drop, List.length_take]
    have : (12 : Nat) ≤ sizeLine := by decide
    omega
  refine ⟨_, h1, _, h2, st, rfl, noPart_i ⟨t, _, rfl, ht, fun p hp => ?_⟩⟩
  rw [cut_from, ← List.map_drop]
  have s1 : Same H (upd H p (.lst ((row.drop st).map V.int))) := same_new hp
  refine ⟨p, _, rfl, .inl ⟨SqL.of upd_same, fun a ob ha hob => ?_⟩⟩
  generalize upd H p (.lst ((row.drop st).map V.int)) = H1 at s1 ha
  have fa : FzT (upd H1 a (.frz ob (.tup ((row.drop st).map V.int)))) a ((row.drop st).map V.int) := FzT.new hob
  have s2 : Same H (upd H1 a (.frz ob (.tup ((row.drop st).map V.int)))) := s1.trans (same_new ha)
  generalize upd H1 a (.frz ob (.tup ((row.drop st).map V.int))) = H2 at fa s2
  refine ⟨_, h1, noPart_i ⟨_, h2, st, rfl, t, _, rfl, sqL_ext (.of s2) ht, fun p2 hp2 => ?_⟩⟩
  rw [cut_to _ (by rw [List.length_map]; omega), ← List.map_take]
  have s3 : Same H2 (upd H2 p2 (.lst ((row.take st).map V.int))) := same_new hp2
  refine ⟨p2, _, rfl, .inl ⟨SqL.of upd_same, fun b ob2 hb hob2 => ?_⟩⟩
  generalize upd H2 p2 (.lst ((row.take st).map V.int)) = H3 at s3 hb
  have fb : FzT (upd H3 b (.frz ob2 (.tup ((row.take st).map V.int)))) b ((row.take st).map V.int) := FzT.new hob2
  have s4 : Same H2 (upd H3 b (.frz ob2 (.tup ((row.take st).map V.int)))) := s3.trans (same_new hb)
  generalize upd H3 b (.frz ob2 (.tup ((row.take st).map V.int))) = H4 at fb s4
  refine ⟨a, b, _, _, rfl, rfl, (FzT.same fa s4).sq, fb.sq, hd, hz, fun z => ?_, fun z r ob hr hob => ?_⟩
  · have z0 : st = 0 := by
      have := congrArg List.length z
      rw [List.length_map, List.length_take, List.length_nil] at this
      omega
    subst z0
    refine k a _ (s2.trans s4) ?_
    have := FzT.same fa s4
    rw [show List.drop 0 row = row by simp] at this
    rw [show List.drop 0 row ++ List.take 0 row = row by simp]
    exact this
  · refine k r _ ((s2.trans s4).trans (same_new hr)) ?_
    rw [List.map_append]
    exact FzT.new hob
def trn (row : List Int) : List Int := row.drop (row.idxOf 0) ++ row.take (row.idxOf 0)
def RowErr (T : Txt K mg) (H : Hp) (E : XK) : Prop := ∀ d H', Same H H' → H' d = some (.xd [("part", .str "row")]) → E (.ref T.BadSkin.C) (some d) H'
def spSkinI (T : Txt K mg) : Sp := fun vs H Q E => ∃ (p dx : Addr) (x : V), vs = [.ref p, x] ∧ H p = some (.ins T.Skin.C dx []) ∧ ((RowV K H x false ∧ RowErr T H E) ∨
  ∃ (t : Addr) (n : Nat) (row : List Int), x = .ref t ∧ (SqL K H t (row.map V.int) ∨ FzT H t (row.map V.int)) ∧ 1 ≤ n ∧ n ≤ 6 ∧ row.Perm (rgI (2 * n)) ∧
    ∀ H', SkAt T H' p (trn row) → (∀ b o, H b = some o → b ≠ p → H' b = some o) → Q .non H')
theorem ok_Skin_init (T : Txt K mg) : FnOk P w K mg base (L2.CX P w) 4 T.Skin.fI T.Skin.fd ["self", "row"] (spSkinI T) := by
  refine T.Skin.F.okX sc_Skin_init (fun vs H Q E h => ?_) (fun cdv A outer s H vs Q E hr h => ?_)
  · obtain ⟨p, dx, x, rfl, _⟩ := h
    rfl
  · obtain ⟨p, dx, x, rfl, hp, h⟩ := h
    have nd := sc_Skin_init.nd
    have hu := hu_of hr
    rcases h with ⟨hv, he⟩ | ⟨t, n, row, rfl, ht, n1, n6, pm, k⟩
    · refine ⟨_, (pss_cons (ps_if (pt_not (pt_val (pe_call (ok_is_row T) (hr.mono (by decide)) (by rfl) T.is_row.g T.is_row.k T.is_row.b .nil pass0 (pa_cons (pv 1) pa_nil))))
      (pss_one (ps_raise rfl (takes_of rfl rfl rfl rfl) (pmk_oex T.BadSkin.o T.BadSkin.i T.BadSkin.t (ok_BadSkin_init T) (hr.mono (by decide)) T.BadSkin.b .nil pass0 (by rfl) T.BadSkin.g (pa_cons pe_str pa_nil))))
      pss_nil)
    (pss_cons (ps_set (i := 2) nd rfl (Or.inl rfl) (pe_bmF PySem.F.plainAttrs_tuple PySem.F.slot_tuple_index PySem.F.type_tuple_index mt_tup_indexI (pv 1) (pa_cons pe_int pa_nil)))
    (pss_cons (ps_fld (pv 0) (pe_op op_catF (pe_callTy call_tuple_ofF (by rfl) T.ztuple (by decide +kernel) (pa_cons (pe_slice sl_tupA (pv 1) (po_some (pv 2)) po_none) pa_nil)) (pe_callTy call_tuple_ofF (by rfl) T.ztuple (by decide +kernel) (pa_cons (pe_slice sl_tupA (pv 1) po_none (po_some (pv 2))) pa_nil))) rfl)
    (pss_cons (ps_fld (pv 0) (pe_op op_fdiv (pe_callB call_len_seq (by rfl) T.zlen (by decide +kernel) (pa_cons (pv 1) pa_nil)) pe_int) rfl)
    (pss_one (ps_fld (pv 0) (pe_callTy call_tuple_ofF (by rfl) T.ztuple (by decide +kernel) (pa_cons (pe_lc (own := [("end", 3)]) (g := gName 3) rfl nd (pi_range1 rfl T.zrange (pa_cons (pe_callB call_len_seq (by rfl) T.zlen (by decide +kernel) (pa_cons (pv 1) pa_nil)) pa_nil)) (blkOk_by (own := [("end", 3)]) (N := N_Skin_init) (sc := defScope s_Skin_init) (by decide +kernel)) (fun _ _ _ _ _ => pg_name (i := 3) nd rfl (Or.inl rfl)) (fun _ _ _ _ _ => pts_nil) (fun _ _ _ _ _ => (pe_bmFK (K := K) rfl PySem.F.plainAttrs_tuple PySem.F.slot_tuple_index PySem.F.type_tuple_index (mt_tup_indexIK (K := K) rfl) (pe_fldK (K := K) rfl (pv 0) rfl) (pa_cons (pv 3) pa_nil)))) pa_nil)) rfl)))))), ?_⟩
      refine ⟨_, rfl, x, false, rfl, hv, fun H1 s1 => ⟨_, rfl, ?_⟩⟩
      refine iteT ⟨(by show 1 ≤ 1000; decide), fun a ha => ?_⟩
      refine ⟨a, .str "row", rfl, upd_same, fun dx ndx ne => ⟨rfl, dx, ([("part", V.str "row")] : List (Str × V)), upd_same, ?_, ?_, ?_⟩⟩
      · rw [upd_ne ne, upd_same]
      · rw [upd_ne ne] at ndx
        exact ndx
      · have ndx' : H1 dx = none := by rw [upd_ne ne] at ndx; exact ndx
        refine he dx _ (fun b o hb => ?_) upd_same
        have hb1 := s1 _ _ hb
        have nb : b ≠ a := ne_of_none hb1 ha
        have nb2 : b ≠ dx := ne_of_none hb1 ndx'
        rw [upd_ne nb2, del_ne nb, upd_ne nb, upd_ne nb2, upd_ne nb]
        exact hb1
    · have hlen := perm_len pm
      rcases ht with ht | ht
      · refine ⟨_, (pss_cons (ps_if (pt_not (pt_val (pe_call (ok_is_row T) (hr.mono (by decide)) (by rfl) T.is_row.g T.is_row.k T.is_row.b .nil pass0 (pa_cons (pv 1) pa_nil))))
      (pss_one (ps_raise rfl (takes_of rfl rfl rfl rfl) (pmk_oex T.BadSkin.o T.BadSkin.i T.BadSkin.t (ok_BadSkin_init T) (hr.mono (by decide)) T.BadSkin.b .nil pass0 (by rfl) T.BadSkin.g (pa_cons pe_str pa_nil))))
      pss_nil)
    (pss_cons (ps_set (i := 2) nd rfl (Or.inl rfl) (pe_bm PySem.F.plainAttrs_list PySem.F.slot_list_index PySem.F.type_list_index mt_index (pv 1) (pa_cons pe_int pa_nil)))
    (pss_cons (ps_fld (pv 0) (pe_op op_catF (pe_callTy call_tuple_ofF (by rfl) T.ztuple (by decide +kernel) (pa_cons (pe_slice sl_list (pv 1) (po_some (pv 2)) po_none) pa_nil)) (pe_callTy call_tuple_ofF (by rfl) T.ztuple (by decide +kernel) (pa_cons (pe_slice sl_list (pv 1) po_none (po_some (pv 2))) pa_nil))) rfl)
    (pss_cons (ps_fld (pv 0) (pe_op op_fdiv (pe_callB call_len_seq (by rfl) T.zlen (by decide +kernel) (pa_cons (pv 1) pa_nil)) pe_int) rfl)
    (pss_one (ps_fld (pv 0) (pe_callTy call_tuple_ofF (by rfl) T.ztuple (by decide +kernel) (pa_cons (pe_lc (own := [("end", 3)]) (g := gName 3) rfl nd (pi_range1 rfl T.zrange (pa_cons (pe_callB call_len_seq (by rfl) T.zlen (by decide +kernel) (pa_cons (pv 1) pa_nil)) pa_nil)) (blkOk_by (own := [("end", 3)]) (N := N_Skin_init) (sc := defScope s_Skin_init) (by decide +kernel)) (fun _ _ _ _ _ => pg_name (i := 3) nd rfl (Or.inl rfl)) (fun _ _ _ _ _ => pts_nil) (fun _ _ _ _ _ => (pe_bmFK (K := K) rfl PySem.F.plainAttrs_tuple PySem.F.slot_tuple_index PySem.F.type_tuple_index (mt_tup_indexIK (K := K) rfl) (pe_fldK (K := K) rfl (pv 0) rfl) (pa_cons (pv 3) pa_nil)))) pa_nil)) rfl)))))), ?_⟩
        refine ⟨_, rfl, .ref t, true, rfl, .lst ht (by rw [List.length_map]; omega) (ints_ty row) (by simp only [true_iff]; exact ⟨n, row, n1, n6, rfl, pm⟩), fun H1 s1 => ⟨_, rfl, iteF ?_⟩⟩
        have ht1 := sqL_ext (.of s1) ht
        have hp1 := s1 _ _ hp
        have h0 : (0 : Int) ∈ row := (perm_mem pm).mpr (by omega)
        obtain ⟨i0, i1⟩ := idx_at h0
        have hst : row.idxOf 0 < row.length := List.idxOf_lt_length_of_mem h0
        refine ⟨_, rfl, .inl ⟨rfl, _, ht1⟩, t, row.map V.int, .int 0, row.idxOf 0, .int 0, rfl, rfl, ht1, rfl, flat_ints row, ints_get i0, by decide, no_ahead i1, ?_⟩
        generalize hs0 : row.idxOf 0 = st at i0 hst
        clear i1
        refine row_turnedL (K := K) (i := 1) (j := 2) rfl rfl ht1 hst (by omega) (fun r H4 s4 fr => ?_)
        generalize hrow : row.drop st ++ row.take st = row2 at fr
        have pm2 : row2.Perm (rgI (2 * n)) := by rw [← hrow]; exact (turn_perm row st).trans pm
        have hlen2 : row2.length = 2 * n := perm_len pm2
        have hp4 : H4 p = some (.ins T.Skin.C dx []) := s4 _ _ hp1
        refine ⟨_, rfl, p, T.Skin.C, dx, [], rfl, hp4, T.Skin.c, nRow T, (by show 0 < 1000; decide), ?_⟩
        have hp5 : (upd H4 p (.ins T.Skin.C dx (putF "row" (.ref r) []))) p = some (.ins T.Skin.C dx [("row", .ref r)]) := upd_same
        have fr5 : FzT (upd H4 p (.ins T.Skin.C dx (putF "row" (.ref r) []))) r (row2.map V.int) := FzT.ne fr hp4 (fun _ _ z => nomatch z)
        have ft5 : SqL K (upd H4 p (.ins T.Skin.C dx (putF "row" (.ref r) []))) t (row.map V.int) := sqL_ne (sqL_ext (.of s4) ht1) hp4 (fun _ z => nomatch z) (fun _ _ z => nomatch z)
        have k5 : ∀ b o, H b = some o → b ≠ p → (upd H4 p (.ins T.Skin.C dx (putF "row" (.ref r) []))) b = some o := fun b o hb nb => by
          rw [upd_ne nb]
          exact s4 _ _ (s1 _ _ hb)
        generalize upd H4 p (.ins T.Skin.C dx (putF "row" (.ref r) [])) = H5 at hp5 fr5 ft5 k5
        refine ⟨_, rfl, t, _, rfl, .inl ft5, _, _, rfl, rfl, ⟨by decide, by decide⟩, ?_⟩
        refine ⟨_, rfl, p, T.Skin.C, dx, _, rfl, hp5, T.Skin.c, nBands T, (by show 1 < 1000; decide), ?_⟩
        have ebands : ((row.map V.int).length : Int) / 2 = ((row2.length / 2 : Nat) : Int) := by
          rw [List.length_map, hlen2, hlen]
          rfl
        have eV : ((fun (i j : Int) => V.int (i / j)) ((row.map V.int).length : Int) 2) = V.int ((row2.length / 2 : Nat) : Int) := congrArg V.int ebands
        rw [eV]
        have hp6 : (upd H5 p (.ins T.Skin.C dx (putF "bands" (.int ((row2.length / 2 : Nat) : Int)) [("row", .ref r)]))) p = some (.ins T.Skin.C dx [("row", .ref r), ("bands", .int ((row2.length / 2 : Nat) : Int))]) := upd_same
        have fr6 : FzT (upd H5 p (.ins T.Skin.C dx (putF "bands" (.int ((row2.length / 2 : Nat) : Int)) [("row", .ref r)]))) r (row2.map V.int) := FzT.ne fr5 hp5 (fun _ _ z => nomatch z)
        have ft6 : SqL K (upd H5 p (.ins T.Skin.C dx (putF "bands" (.int ((row2.length / 2 : Nat) : Int)) [("row", .ref r)]))) t (row.map V.int) := sqL_ne ft5 hp5 (fun _ z => nomatch z) (fun _ _ z => nomatch z)
        have k6 : ∀ b o, H b = some o → b ≠ p → (upd H5 p (.ins T.Skin.C dx (putF "bands" (.int ((row2.length / 2 : Nat) : Int)) [("row", .ref r)]))) b = some o := fun b o hb nb => by
          rw [upd_ne nb]
          exact k5 b o hb nb
        generalize upd H5 p (.ins T.Skin.C dx (putF "bands" (.int ((row2.length / 2 : Nat) : Int)) [("row", .ref r)])) = H6 at hp6 fr6 ft6 k6
        refine ⟨_, rfl, t, _, rfl, .inl ft6, _, rfl, by omega, by rw [List.length_map]; omega, fun D1 hD1 => ?_⟩
        refine lc_range (lo := 0) (n := ((row.map V.int).length : Int).toNat) (fun i H' => H' D1 = some (.lst (((places row2).take i).map V.int)) ∧ Same H6 H')
          ⟨upd_same, same_new hD1⟩ ?_ ?_
        · rintro i H' hi ⟨h1, s2⟩
          have hi2 : i < row2.length := by rw [List.length_map, hlen] at hi; omega
          have hm : (i : Int) ∈ row2 := (perm_mem pm2).mpr (by omega)
          obtain ⟨j0, j1⟩ := idx_at hm
          refine ⟨rfl, yes_t ?_⟩
          refine ⟨_, rfl, p, _, _, _, _, rfl, s2 _ _ hp6, T.Skin.c, nRow T, rfl, .inr ⟨rfl, r, _, rfl, FzT.same fr6 s2⟩, ?_⟩
          refine ⟨_, rfl, r, row2, i, _, rfl, by rw [Int.zero_add], (FzT.same fr6 s2).sq, j0, j1, ?_⟩
          refine ⟨_, h1, ?_, ?_⟩
          · rw [List.length_map, List.length_take]
            exact small1000 (by omega)
          · refine ⟨?_, fun b o hb => ?_⟩
            · rw [upd_same, List.take_add_one, place_at hi2, List.map_append]
              rfl
            · rw [upd_ne (ne_of_none hb hD1)]
              exact s2 b o hb
        · rintro H' ⟨h1, s2⟩
          have e2 : (places row2).take ((row.map V.int).length : Int).toNat = places row2 := by
            refine List.take_of_length_le ?_
            unfold places
            rw [List.length_map, List.length_map, List.length_range]
            omega
          rw [e2] at h1
          refine ⟨D1, _, rfl, .inl ⟨SqL.of h1, fun q ob hq hob => ?_⟩⟩
          have s3 : Same H6 (upd H' q (.frz ob (.tup ((places row2).map V.int)))) := s2.trans (same_new hq)
          have fq : FzT (upd H' q (.frz ob (.tup ((places row2).map V.int)))) q ((places row2).map V.int) := FzT.new hob
          generalize upd H' q (.frz ob (.tup ((places row2).map V.int))) = H7 at s3 fq
          refine ⟨_, rfl, p, T.Skin.C, dx, _, rfl, s3 _ _ hp6, T.Skin.c, nPlaces T, (by show 2 < 1000; decide), ?_⟩
          refine k _ ?_ (fun b o hb nb => ?_)
          · rw [show trn row = row2 by unfold trn; rw [hs0]; exact hrow]
            exact ⟨dx, r, q, upd_same, FzT.ne (FzT.same fr6 s3) (s3 _ _ hp6) (fun _ _ z => nomatch z), FzT.ne fq (s3 _ _ hp6) (fun _ _ z => nomatch z)⟩
          · rw [upd_ne nb]
            exact s3 _ _ (k6 b o hb nb)
      · refine ⟨_, (pss_cons (ps_if (pt_not (pt_val (pe_call (ok_is_row T) (hr.mono (by decide)) (by rfl) T.is_row.g T.is_row.k T.is_row.b .nil pass0 (pa_cons (pv 1) pa_nil))))
      (pss_one (ps_raise rfl (takes_of rfl rfl rfl rfl) (pmk_oex T.BadSkin.o T.BadSkin.i T.BadSkin.t (ok_BadSkin_init T) (hr.mono (by decide)) T.BadSkin.b .nil pass0 (by rfl) T.BadSkin.g (pa_cons pe_str pa_nil))))
      pss_nil)
    (pss_cons (ps_set (i := 2) nd rfl (Or.inl rfl) (pe_bmF PySem.F.plainAttrs_tuple PySem.F.slot_tuple_index PySem.F.type_tuple_index mt_tup_indexI (pv 1) (pa_cons pe_int pa_nil)))
    (pss_cons (ps_fld (pv 0) (pe_op op_catF (pe_callTy call_tuple_ofF (by rfl) T.ztuple (by decide +kernel) (pa_cons (pe_slice sl_tupA (pv 1) (po_some (pv 2)) po_none) pa_nil)) (pe_callTy call_tuple_ofF (by rfl) T.ztuple (by decide +kernel) (pa_cons (pe_slice sl_tupA (pv 1) po_none (po_some (pv 2))) pa_nil))) rfl)
    (pss_cons (ps_fld (pv 0) (pe_op op_fdiv (pe_callB call_len_seq (by rfl) T.zlen (by decide +kernel) (pa_cons (pv 1) pa_nil)) pe_int) rfl)
    (pss_one (ps_fld (pv 0) (pe_callTy call_tuple_ofF (by rfl) T.ztuple (by decide +kernel) (pa_cons (pe_lc (own := [("end", 3)]) (g := gName 3) rfl nd (pi_range1 rfl T.zrange (pa_cons (pe_callB call_len_seq (by rfl) T.zlen (by decide +kernel) (pa_cons (pv 1) pa_nil)) pa_nil)) (blkOk_by (own := [("end", 3)]) (N := N_Skin_init) (sc := defScope s_Skin_init) (by decide +kernel)) (fun _ _ _ _ _ => pg_name (i := 3) nd rfl (Or.inl rfl)) (fun _ _ _ _ _ => pts_nil) (fun _ _ _ _ _ => (pe_bmFK (K := K) rfl PySem.F.plainAttrs_tuple PySem.F.slot_tuple_index PySem.F.type_tuple_index (mt_tup_indexIK (K := K) rfl) (pe_fldK (K := K) rfl (pv 0) rfl) (pa_cons (pv 3) pa_nil)))) pa_nil)) rfl)))))), ?_⟩
        refine ⟨_, rfl, .ref t, true, rfl, .tup ht.sq (by rw [List.length_map]; omega) (ints_ty row) (by simp only [true_iff]; exact ⟨n, row, n1, n6, rfl, pm⟩), fun H1 s1 => ⟨_, rfl, iteF ?_⟩⟩
        have ht1 := FzT.same ht s1
        have hp1 := s1 _ _ hp
        have h0 : (0 : Int) ∈ row := (perm_mem pm).mpr (by omega)
        obtain ⟨i0, i1⟩ := idx_at h0
        have hst : row.idxOf 0 < row.length := List.idxOf_lt_length_of_mem h0
        refine ⟨_, rfl, .inr ⟨rfl, t, _, rfl, ht1⟩, t, row, 0, row.idxOf 0, rfl, rfl, ht1.sq, i0, i1, ?_⟩
        generalize hs0 : row.idxOf 0 = st at i0 hst
        clear i1
        refine row_turned (K := K) (i := 1) (j := 2) rfl rfl ht1 hst (by omega) (fun r H4 s4 fr => ?_)
        generalize hrow : row.drop st ++ row.take st = row2 at fr
        have pm2 : row2.Perm (rgI (2 * n)) := by rw [← hrow]; exact (turn_perm row st).trans pm
        have hlen2 : row2.length = 2 * n := perm_len pm2
        have hp4 : H4 p = some (.ins T.Skin.C dx []) := s4 _ _ hp1
        refine ⟨_, rfl, p, T.Skin.C, dx, [], rfl, hp4, T.Skin.c, nRow T, (by show 0 < 1000; decide), ?_⟩
        have hp5 : (upd H4 p (.ins T.Skin.C dx (putF "row" (.ref r) []))) p = some (.ins T.Skin.C dx [("row", .ref r)]) := upd_same
        have fr5 : FzT (upd H4 p (.ins T.Skin.C dx (putF "row" (.ref r) []))) r (row2.map V.int) := FzT.ne fr hp4 (fun _ _ z => nomatch z)
        have ft5 : FzT (upd H4 p (.ins T.Skin.C dx (putF "row" (.ref r) []))) t (row.map V.int) := FzT.ne (FzT.same ht1 s4) hp4 (fun _ _ z => nomatch z)
        have k5 : ∀ b o, H b = some o → b ≠ p → (upd H4 p (.ins T.Skin.C dx (putF "row" (.ref r) []))) b = some o := fun b o hb nb => by
          rw [upd_ne nb]
          exact s4 _ _ (s1 _ _ hb)
        generalize upd H4 p (.ins T.Skin.C dx (putF "row" (.ref r) [])) = H5 at hp5 fr5 ft5 k5
        refine ⟨_, rfl, t, _, rfl, .inr ft5.sq, _, _, rfl, rfl, ⟨by decide, by decide⟩, ?_⟩
        refine ⟨_, rfl, p, T.Skin.C, dx, _, rfl, hp5, T.Skin.c, nBands T, (by show 1 < 1000; decide), ?_⟩
        have ebands : ((row.map V.int).length : Int) / 2 = ((row2.length / 2 : Nat) : Int) := by
          rw [List.length_map, hlen2, hlen]
          rfl
        have eV : ((fun (i j : Int) => V.int (i / j)) ((row.map V.int).length : Int) 2) = V.int ((row2.length / 2 : Nat) : Int) := congrArg V.int ebands
        rw [eV]
        have hp6 : (upd H5 p (.ins T.Skin.C dx (putF "bands" (.int ((row2.length / 2 : Nat) : Int)) [("row", .ref r)]))) p = some (.ins T.Skin.C dx [("row", .ref r), ("bands", .int ((row2.length / 2 : Nat) : Int))]) := upd_same
        have fr6 : FzT (upd H5 p (.ins T.Skin.C dx (putF "bands" (.int ((row2.length / 2 : Nat) : Int)) [("row", .ref r)]))) r (row2.map V.int) := FzT.ne fr5 hp5 (fun _ _ z => nomatch z)
        have ft6 : FzT (upd H5 p (.ins T.Skin.C dx (putF "bands" (.int ((row2.length / 2 : Nat) : Int)) [("row", .ref r)]))) t (row.map V.int) := FzT.ne ft5 hp5 (fun _ _ z => nomatch z)
        have k6 : ∀ b o, H b = some o → b ≠ p → (upd H5 p (.ins T.Skin.C dx (putF "bands" (.int ((row2.length / 2 : Nat) : Int)) [("row", .ref r)]))) b = some o := fun b o hb nb => by
          rw [upd_ne nb]
          exact k5 b o hb nb
        generalize upd H5 p (.ins T.Skin.C dx (putF "bands" (.int ((row2.length / 2 : Nat) : Int)) [("row", .ref r)])) = H6 at hp6 fr6 ft6 k6
        refine ⟨_, rfl, t, _, rfl, .inr ft6.sq, _, rfl, by omega, by rw [List.length_map]; omega, fun D1 hD1 => ?_⟩
        refine lc_range (lo := 0) (n := ((row.map V.int).length : Int).toNat) (fun i H' => H' D1 = some (.lst (((places row2).take i).map V.int)) ∧ Same H6 H')
          ⟨upd_same, same_new hD1⟩ ?_ ?_
        · rintro i H' hi ⟨h1, s2⟩
          have hi2 : i < row2.length := by rw [List.length_map, hlen] at hi; omega
          have hm : (i : Int) ∈ row2 := (perm_mem pm2).mpr (by omega)
          obtain ⟨j0, j1⟩ := idx_at hm
          refine ⟨rfl, yes_t ?_⟩
          refine ⟨_, rfl, p, _, _, _, _, rfl, s2 _ _ hp6, T.Skin.c, nRow T, rfl, .inr ⟨rfl, r, _, rfl, FzT.same fr6 s2⟩, ?_⟩
          refine ⟨_, rfl, r, row2, i, _, rfl, by rw [Int.zero_add], (FzT.same fr6 s2).sq, j0, j1, ?_⟩
          refine ⟨_, h1, ?_, ?_⟩
          · rw [List.length_map, List.length_take]
            exact small1000 (by omega)
          · refine ⟨?_, fun b o hb => ?_⟩
            · rw [upd_same, List.take_add_one, place_at hi2, List.map_append]
              rfl
            · rw [upd_ne (ne_of_none hb hD1)]
              exact s2 b o hb
        · rintro H' ⟨h1, s2⟩
          have e2 : (places row2).take ((row.map V.int).length : Int).toNat = places row2 := by
            refine List.take_of_length_le ?_
            unfold places
            rw [List.length_map, List.length_map, List.length_range]
            omega
          rw [e2] at h1
          refine ⟨D1, _, rfl, .inl ⟨SqL.of h1, fun q ob hq hob => ?_⟩⟩
          have s3 : Same H6 (upd H' q (.frz ob (.tup ((places row2).map V.int)))) := s2.trans (same_new hq)
          have fq : FzT (upd H' q (.frz ob (.tup ((places row2).map V.int)))) q ((places row2).map V.int) := FzT.new hob
          generalize upd H' q (.frz ob (.tup ((places row2).map V.int))) = H7 at s3 fq
          refine ⟨_, rfl, p, T.Skin.C, dx, _, rfl, s3 _ _ hp6, T.Skin.c, nPlaces T, (by show 2 < 1000; decide), ?_⟩
          refine k _ ?_ (fun b o hb nb => ?_)
          · rw [show trn row = row2 by unfold trn; rw [hs0]; exact hrow]
            exact ⟨dx, r, q, upd_same, FzT.ne (FzT.same fr6 s3) (s3 _ _ hp6) (fun _ _ z => nomatch z), FzT.ne fq (s3 _ _ hp6) (fun _ _ z => nomatch z)⟩
          · rw [upd_ne nb]
            exact s3 _ _ (k6 b o hb nb)
end
end Tt
set_option maxHeartbeats 1000000
namespace Wd
def strip (w : List Int) : List Int := if h : 2 ≤ w.length ∧ w.head? = w.getLast?.map mate then strip (w.drop 1).dropLast else w
termination_by w.length
decreasing_by
  rw [List.length_dropLast, List.length_drop]
  omega
theorem strip_yes {a : Int} {m : List Int} : strip (mate a :: (m ++ [a])) = strip m := by
  rw [strip]
  rw [dif_pos]
  · simp
  · refine ⟨by simp, ?_⟩
    have : (mate a :: (m ++ [a])).getLast? = some a := by simp [List.getLast?_cons]
    rw [this]
    rfl
theorem strip_no {w : List Int} (h : w.head? ≠ w.getLast?.map mate) : strip w = w := by
  rw [strip, dif_neg]
  exact fun z => h z.2
theorem strip_short {w : List Int} (h : w.length < 2) : strip w = w := by
  rw [strip, dif_neg]
  exact fun z => by omega
def core (w : List Int) : List Int := strip (freed w)
def Turn (a b : List Int) : Prop := ∃ u v, a = u ++ v ∧ b = v ++ u
theorem Turn.refl (a : List Int) : Turn a a := ⟨[], a, rfl, by simp⟩
theorem Turn.symm {a b : List Int} (h : Turn a b) : Turn b a := by
  obtain ⟨u, v, h1, h2⟩ := h
  exact ⟨v, u, h2, h1⟩
theorem app_split {u v p q : List Int} (h : u ++ v = p ++ q) : (∃ m, p = u ++ m ∧ v = m ++ q) ∨ ∃ m, u = p ++ m ∧ q = m ++ v := by
  rcases List.append_eq_append_iff.mp h with ⟨m, h1, h2⟩ | ⟨m, h1, h2⟩
  · exact .inl ⟨m, h1, h2⟩
  · exact .inr ⟨m, h1, h2⟩
theorem Turn.trans {a b c : List Int} (h : Turn a b) (k : Turn b c) : Turn a c := by
  obtain ⟨u, v, rfl, rfl⟩ := h
  obtain ⟨p, q, h1, rfl⟩ := k
  rcases app_split h1 with ⟨m, rfl, rfl⟩ | ⟨m, rfl, rfl⟩
  · exact ⟨m, q ++ v, by simp, by simp⟩
  · exact ⟨u ++ p, m, by simp, by simp⟩
theorem freed_head {a : Int} {r : List Int} (h : Rd r) : freed (a :: r) = if r.head? = some (mate a) then r.drop 1 else a :: r := by
  split
  · rename_i hh
    cases r with
    | nil => simp at hh
    | cons b r' =>
      have hb : b = mate a := by simpa using hh
      subst hb
      have h1 := freed_cut [] r' (mate a)
      rw [mate_mate] at h1
      simp only [List.nil_append] at h1
      rw [h1]
      simp only [List.drop_succ_cons, List.drop_zero]
      refine freed_of_rd r' fun i x y hx hy => h (i + 1) x y ?_ ?_
      · simpa using hx
      · simpa using hy
  · rename_i hh
    refine freed_of_rd _ fun i x y hx hy => ?_
    cases i with
    | zero =>
      have ex : a = x := by simpa using hx
      subst ex
      cases r with
      | nil => simp at hy
      | cons b r' =>
        have ey : b = y := by simpa using hy
        subst ey
        intro z
        exact hh (by simp [z])
    | succ i => exact h i x y (by simpa using hx) (by simpa using hy)
theorem last_snoc {r : List Int} {b : Int} (h : r.getLast? = some b) : r.dropLast ++ [b] = r := snoc_of_last h
theorem rd_sub {u m v : List Int} (h : Rd (u ++ m ++ v)) : Rd m := fun i x y hx hy => by
  refine h (u.length + i) x y ?_ ?_
  · rw [List.append_assoc, List.getElem?_append_right (by omega)]
    have e : u.length + i - u.length = i := by omega
    rw [e, List.getElem?_append_left (List.getElem?_eq_some_iff.mp hx).1]
    exact hx
  · rw [List.append_assoc, List.getElem?_append_right (by omega)]
    have e : u.length + i + 1 - u.length = i + 1 := by omega
    rw [e, List.getElem?_append_left (List.getElem?_eq_some_iff.mp hy).1]
    exact hy
theorem rd_two {u v : List Int} {x y : Int} (h : Rd (u ++ [x, y] ++ v)) : y ≠ mate x := rd_sub h 0 x y rfl rfl
theorem core_step (a : Int) (w : List Int) : Turn (core (a :: w)) (core (w ++ [a])) := by
  have e1 : freed (a :: w) = freed (a :: freed w) := by
    have h := freed_app [a] w
    have h2 := freed_app [a] (freed w)
    rw [freed_freed] at h2
    exact h.trans h2.symm
  have hr : Rd (freed w) := rd_freed w
  unfold core
  rw [freed_snoc, e1, freed_head hr]
  generalize freed w = r at hr
  unfold push
  by_cases hd : r.head? = some (mate a) <;> by_cases tl : r.getLast? = some (mate a)
  · rw [if_pos hd, if_pos tl]
    cases r with
    | nil => exact Turn.refl _
    | cons b r1 =>
      have hb : b = mate a := by simpa using hd
      subst hb
      rw [List.drop_succ_cons, List.drop_zero]
      by_cases h1 : r1 = []
      · subst h1
        exact Turn.refl _
      · have t1 : r1.getLast? = some (mate a) := by
          rw [List.getLast?_cons] at tl
          cases h2 : r1.getLast? with
          | none => exact absurd (List.getLast?_eq_none_iff.mp h2) h1
          | some z =>
            rw [h2] at tl
            exact tl
        have e := last_snoc t1
        generalize r1.dropLast = m at e
        subst e
        have e2 : (mate a :: (m ++ [mate a])).dropLast = mate a :: m := by
          rw [← List.cons_append, List.dropLast_concat]
        rw [e2]
        by_cases h2 : m = []
        · subst h2
          exact Turn.refl _
        · have n1 : (m ++ [mate a]).head? ≠ (m ++ [mate a]).getLast?.map mate := by
            rw [List.getLast?_append]
            cases m with
            | nil => exact absurd rfl h2
            | cons x m' =>
              have := rd_two (u := []) (v := m' ++ [mate a]) (x := mate a) (y := x) (by simpa using hr)
              simp [mate_mate] at this ⊢
              exact this
          have n2 : (mate a :: m).head? ≠ (mate a :: m).getLast?.map mate := by
            cases h3 : m.getLast? with
            | none => exact absurd (List.getLast?_eq_none_iff.mp h3) h2
            | some z =>
              rw [List.getLast?_cons, h3]
              have e3 := last_snoc h3
              have := rd_two (u := mate a :: m.dropLast) (v := []) (x := z) (y := mate a) (by
                have e4 : mate a :: m.dropLast ++ [z, mate a] ++ [] = mate a :: (m ++ [mate a]) := by
                  rw [← e3]
                  simp
                rw [e4]
                exact hr)
              simp only [List.head?_cons, Option.getD_some, Option.map_some]
              exact fun z' => this (Option.some.inj z')
          rw [strip_no n1, strip_no n2]
          exact ⟨m, [mate a], rfl, rfl⟩
  · rw [if_pos hd, if_neg tl]
    cases r with
    | nil => simp at hd
    | cons b r1 =>
      have hb : b = mate a := by simpa using hd
      subst hb
      rw [List.drop_succ_cons, List.drop_zero, List.cons_append, strip_yes]
      exact Turn.refl _
  · rw [if_neg hd, if_pos tl]
    have e := last_snoc tl
    generalize r.dropLast = m at e
    subst e
    have h := strip_yes (a := mate a) (m := m)
    rw [mate_mate] at h
    rw [h]
    exact Turn.refl _
  · rw [if_neg hd, if_neg tl]
    cases r with
    | nil => exact Turn.refl _
    | cons b r1 =>
      have n1 : (a :: b :: r1).head? ≠ (a :: b :: r1).getLast?.map mate := by
        rw [List.getLast?_cons]
        cases h3 : (b :: r1).getLast? with
        | none => exact absurd (List.getLast?_eq_none_iff.mp h3) (by simp)
        | some z =>
          rw [h3] at tl
          simp only [List.head?_cons, Option.getD_some, Option.map_some]
          exact fun q => tl (by rw [Option.some.inj q, mate_mate])
      have n2 : (b :: r1 ++ [a]).head? ≠ (b :: r1 ++ [a]).getLast?.map mate := by
        rw [List.getLast?_append]
        simp at hd ⊢
        exact hd
      rw [strip_no n1, strip_no n2]
      exact ⟨[a], b :: r1, rfl, rfl⟩
theorem core_turn : ∀ u w : List Int, Turn (core (u ++ w)) (core (w ++ u))
  | [], w => by
    rw [List.append_nil]
    exact Turn.refl _
  | a :: u, w => by
    have h1 := core_step a (u ++ w)
    have h2 := core_turn u (w ++ [a])
    have e1 : (u ++ w) ++ [a] = u ++ (w ++ [a]) := by simp
    have e2 : (w ++ [a]) ++ u = w ++ (a :: u) := by simp
    rw [e1] at h1
    rw [e2] at h2
    exact h1.trans h2
theorem undo_undo (u : List Int) : undo (undo u) = u := by
  unfold undo
  rw [← List.map_reverse, List.reverse_reverse, List.map_map]
  have : mate ∘ mate = id := by
    funext x
    exact mate_mate x
  rw [this, List.map_id]
theorem core_freed {a b : List Int} (h : freed a = freed b) : core a = core b := by
  unfold core
  rw [h]
theorem core_conj (u w : List Int) : Turn (core (u ++ w ++ undo u)) (core w) := by
  have h := core_turn u (w ++ undo u)
  rw [← List.append_assoc] at h
  refine h.trans ?_
  have e : freed (w ++ undo u ++ u) = freed w := by
    rw [List.append_assoc, freed_app]
    have h2 := freed_undo (undo u)
    rw [undo_undo] at h2
    rw [h2, List.append_nil, freed_freed]
  rw [core_freed e]
  exact Turn.refl _
theorem core_pair (u v : List Int) (b : Int) : core (u ++ b :: mate b :: v) = core (u ++ v) := by
  refine core_freed ?_
  have h := freed_cut u v (mate b)
  rw [mate_mate] at h
  exact h
def mid (w : List Int) (c : Nat) : List Int := (w.drop c).take (w.length - 2 * c)
theorem mid_zero (w : List Int) : mid w 0 = w := by
  unfold mid
  rw [List.drop_zero, Nat.mul_zero, Nat.sub_zero, List.take_length]
theorem mid_step {w : List Int} {c : Nat} {a b : Int} (h : 2 * c + 2 ≤ w.length) (ha : w[c]? = some a) (hb : w[w.length - 1 - c]? = some b) : mid w c = a :: (mid w (c + 1) ++ [b]) := by
  unfold mid
  have e1 : w.drop c = a :: w.drop (c + 1) := by
    have hc : c < w.length := by omega
    rw [List.drop_eq_getElem_cons hc]
    rw [List.getElem?_eq_getElem hc] at ha
    rw [Option.some.inj ha]
  have e2 : w.length - 2 * c = (w.length - 2 * (c + 1) + 1) + 1 := by omega
  rw [e1, e2, List.take_succ_cons, List.take_add_one]
  have e3 : (w.drop (c + 1))[w.length - 2 * (c + 1)]? = some b := by
    rw [List.getElem?_drop]
    have : c + 1 + (w.length - 2 * (c + 1)) = w.length - 1 - c := by omega
    rw [this]
    exact hb
  rw [e3]
  rfl
theorem mid_yes {w : List Int} {c : Nat} {a b : Int} (h : 2 * c + 2 ≤ w.length) (ha : w[c]? = some a) (hb : w[w.length - 1 - c]? = some b) (e : a = mate b) : strip (mid w c) = strip (mid w (c + 1)) := by
  rw [mid_step h ha hb, e, strip_yes]
theorem mid_no {w : List Int} {c : Nat} {a b : Int} (h : 2 * c + 2 ≤ w.length) (ha : w[c]? = some a) (hb : w[w.length - 1 - c]? = some b) (e : a ≠ mate b) : strip (mid w c) = mid w c := by
  refine strip_no ?_
  rw [mid_step h ha hb]
  have : (a :: (mid w (c + 1) ++ [b])).getLast? = some b := by simp [List.getLast?_cons]
  rw [this]
  simpa using e
theorem mid_short {w : List Int} {c : Nat} (h : w.length < 2 * c + 2) : strip (mid w c) = mid w c := by
  refine strip_short ?_
  unfold mid
  rw [List.length_take, List.length_drop]
  omega
theorem mid_mem {w : List Int} {c : Nat} {x : Int} (h : x ∈ mid w c) : x ∈ w := List.mem_of_mem_drop (List.mem_of_mem_take h)
theorem mid_len (w : List Int) (c : Nat) : (mid w c).length ≤ w.length := by
  unfold mid
  rw [List.length_take, List.length_drop]
  omega
end Wd
set_option maxRecDepth 100000
set_option maxHeartbeats 4000000
namespace Tt
open PySem L2
section
variable {P : Program} {w : World} {K : PySem.W.Frag} {mg : Str → Option Value} {base : Heap}
def turnAt (ns : List Int) (i : Nat) : List Int := ns.drop i ++ ns.take i
def turns (ns : List Int) : List (List Int) := (List.range ns.length).map (turnAt ns)
def minR (r0 : List Int) (rs : List (List Int)) : List Int := rs.foldl (fun a y => if PySem.W.dataLt (rowD y) (rowD a) then y else a) r0
theorem minR_D : ∀ (rs : List (List Int)) (r0 : List Int), PySem.W.minD (rowD r0) (rs.map rowD) = rowD (minR r0 rs)
  | [], _ => rfl
  | y :: rs, r0 => by
    show PySem.W.minD (if PySem.W.dataLt (rowD y) (rowD r0) then rowD y else rowD r0) (rs.map rowD) = rowD (minR (if PySem.W.dataLt (rowD y) (rowD r0) then y else r0) rs)
    by_cases h : PySem.W.dataLt (rowD y) (rowD r0) = true
    · rw [if_pos h, if_pos h]
      exact minR_D rs y
    · rw [if_neg h, if_neg h]
      exact minR_D rs r0
def leastT (ns : List Int) : List Int := match turns ns with
  | [] => []
  | r0 :: rs => minR r0 rs
theorem turns_len (ns : List Int) : (turns ns).length = ns.length := by unfold turns; rw [List.length_map, List.length_range]
theorem turns_get {ns : List Int} {i : Nat} (h : i < ns.length) : (turns ns)[i]? = some (turnAt ns i) := by
  unfold turns
  rw [List.getElem?_map, List.getElem?_range h]
  rfl
theorem pair_snoc {α β : Type} {F : α → β → Prop} : ∀ {l : List α} {k : List β} {a : α} {b : β}, Paired F l k → F a b → Paired F (l ++ [a]) (k ++ [b])
  | _, _, _, _, .nil, r => .cons r .nil
  | _, _, _, _, .cons r t, q => .cons r (pair_snoc t q)
theorem pair_mono {α β : Type} {F G : α → β → Prop} (f : ∀ a b, F a b → G a b) : ∀ {l : List α} {k : List β}, Paired F l k → Paired G l k
  | _, _, .nil => .nil
  | _, _, .cons r t => .cons (f _ _ r) (pair_mono f t)
theorem sqT_put {H : Hp} {p l : Addr} {xs ys : List V} {o : HO} (h : SqT K H p xs) (e : H l = some (.lst ys)) : SqT K (upd H l o) p xs := by
  rcases h with (h | ⟨ob, h⟩) | h
  · exact .inl (.inl (by rw [upd_ne (ne_of h e (fun z => nomatch z))]; exact h))
  · exact .inl (.inr ⟨ob, by rw [upd_ne (ne_of h e (fun z => nomatch z))]; exact h⟩)
  · exact .inr h
def spLeast (K : PySem.W.Frag) : Sp := fun vs H Q _ => ∃ (p : Addr) (ns : List Int), vs = [.ref p] ∧ SqT K H p (ns.map V.int) ∧ ns ≠ [] ∧ ns.length ≤ 400 ∧
  ∀ q H', Same H H' → SqT K H' q ((leastT ns).map V.int) → Q (.ref q) H'
end
end Tt
set_option maxRecDepth 100000
set_option maxHeartbeats 4000000
namespace Tt
open PySem L2
theorem row_lt (a b : List Int) : PySem.W.dataLt (rowD a) (rowD b) = decide (a < b) := by
  unfold rowD
  rw [PySem.W.dataLt_tuple]
  exact PySem.W.dataLt_ints a b
theorem minR_mem : ∀ (rs : List (List Int)) (r0 : List Int), minR r0 rs ∈ r0 :: rs
  | [], _ => List.mem_singleton.mpr rfl
  | y :: rs, r0 => by
    have h := minR_mem rs (if PySem.W.dataLt (rowD y) (rowD r0) then y else r0)
    show minR (if PySem.W.dataLt (rowD y) (rowD r0) then y else r0) rs ∈ _
    rcases List.mem_cons.mp h with h | h
    · rw [h]
      split
      · exact List.mem_cons_of_mem _ List.mem_cons_self
      · exact List.mem_cons_self
    · exact List.mem_cons_of_mem _ (List.mem_cons_of_mem _ h)
theorem minR_le : ∀ (rs : List (List Int)) (r0 y : List Int), y ∈ r0 :: rs → ¬ y < minR r0 rs
  | [], r0, y, h => by
    rw [List.mem_singleton.mp h]
    exact List.lt_irrefl _
  | z :: rs, r0, y, h => by
    show ¬ y < minR (if PySem.W.dataLt (rowD z) (rowD r0) then z else r0) rs
    have ih := minR_le rs (if PySem.W.dataLt (rowD z) (rowD r0) then z else r0)
    rw [row_lt] at ih ⊢
    by_cases c : z < r0
    · simp only [c, decide_true, if_true] at ih ⊢
      rcases List.mem_cons.mp h with rfl | h
      · exact fun q => ih z List.mem_cons_self (List.lt_trans c q)
      · rcases List.mem_cons.mp h with rfl | h
        · exact ih _ List.mem_cons_self
        · exact ih _ (List.mem_cons_of_mem _ h)
    · simp only [c, decide_false] at ih ⊢
      rcases List.mem_cons.mp h with rfl | h
      · exact ih _ List.mem_cons_self
      · rcases List.mem_cons.mp h with rfl | h
        · intro q
          have h1 := ih r0 List.mem_cons_self
          exact h1 (by
            rcases Classical.em (r0 < y) with k | k
            · exact List.lt_trans k q
            · have : r0 = y := List.le_antisymm (as := r0) (bs := y) (by simpa using c) (by simpa using k)
              subst this
              exact q)
        · exact ih _ (List.mem_cons_of_mem _ h)
theorem turnAt_turn {ns : List Int} (i : Nat) : Wd.Turn ns (turnAt ns i) := ⟨ns.take i, ns.drop i, (List.take_append_drop i ns).symm, rfl⟩
theorem mem_turns {ns t : List Int} (hne : ns ≠ []) : t ∈ turns ns ↔ Wd.Turn ns t := by
  constructor
  · intro h
    unfold turns at h
    obtain ⟨i, _, rfl⟩ := List.mem_map.mp h
    exact turnAt_turn i
  · rintro ⟨u, v, rfl, rfl⟩
    unfold turns
    by_cases hv : v = []
    · subst hv
      refine List.mem_map.mpr ⟨0, List.mem_range.mpr ?_, ?_⟩
      · exact List.length_pos_iff.mpr hne
      · unfold turnAt
        simp
    · refine List.mem_map.mpr ⟨u.length, List.mem_range.mpr ?_, ?_⟩
      · rw [List.length_append]
        have := List.length_pos_iff.mpr hv
        omega
      · unfold turnAt
        simp
theorem leastT_facts {ns : List Int} (hne : ns ≠ []) : leastT ns ∈ turns ns ∧ ∀ t ∈ turns ns, ¬ t < leastT ns := by
  unfold leastT
  cases ht : turns ns with
  | nil =>
    have := turns_len ns
    rw [ht] at this
    exact absurd (List.length_eq_zero_iff.mp this.symm) hne
  | cons r0 rs => exact ⟨minR_mem rs r0, fun t h => minR_le rs r0 t h⟩
theorem leastT_turn {ns : List Int} (hne : ns ≠ []) : Wd.Turn ns (leastT ns) := (mem_turns hne).mp (leastT_facts hne).1
theorem turn_nil {a b : List Int} (h : Wd.Turn a b) : a = [] ↔ b = [] := by
  obtain ⟨u, v, rfl, rfl⟩ := h
  simp [and_comm]
theorem leastT_eq {a b : List Int} (h : Wd.Turn a b) : leastT a = leastT b := by
  by_cases ha : a = []
  · have hb := (turn_nil h).mp ha
    rw [ha, hb]
  · have hb : b ≠ [] := fun z => ha ((turn_nil h).mpr z)
    obtain ⟨a1, a2⟩ := leastT_facts ha
    obtain ⟨b1, b2⟩ := leastT_facts hb
    have m1 : leastT b ∈ turns a := (mem_turns ha).mpr (h.trans ((mem_turns hb).mp b1))
    have m2 : leastT a ∈ turns b := (mem_turns hb).mpr (h.symm.trans ((mem_turns ha).mp a1))
    have l1 := a2 _ m1
    have l2 := b2 _ m2
    exact List.le_antisymm (as := leastT a) (bs := leastT b) (by simpa using l1) (by simpa using l2)
theorem turn_of_leastT {a b : List Int} (h : leastT a = leastT b) : Wd.Turn a b := by
  by_cases ha : a = [] <;> by_cases hb : b = []
  · rw [ha, hb]
    exact Wd.Turn.refl _
  · have h2 := (turn_nil (leastT_turn hb))
    rw [← h, ha] at h2
    exact absurd (h2.mpr rfl) hb
  · have h2 := (turn_nil (leastT_turn ha))
    rw [h, hb] at h2
    exact absurd (h2.mpr rfl) ha
  · have h1 := leastT_turn ha
    rw [h] at h1
    exact h1.trans (leastT_turn hb).symm
def closedT (ns : List Int) : List Int := leastT (Wd.core ns)
theorem leastT_nil : leastT [] = [] := rfl
theorem closedT_freed {a b : List Int} (h : Wd.Turn (Wd.core a) (Wd.core b)) : closedT a = closedT b := leastT_eq h
end Tt
set_option maxRecDepth 100000
set_option maxHeartbeats 4000000
namespace Tt
open PySem L2
theorem turnAt_lenL (ns : List Int) (i : Nat) : (turnAt ns i).length = ns.length := by
  unfold turnAt
  rw [List.length_append, List.length_drop, List.length_take]
  omega
theorem turnAt_mem {ns : List Int} {i : Nat} (h : i < ns.length) : turnAt ns i ∈ turns ns := List.mem_map.mpr ⟨i, List.mem_range.mpr h, rfl⟩
theorem turnAt_add {ns : List Int} {i t : Nat} (h : i + t ≤ ns.length) : turnAt (turnAt ns i) t = turnAt ns (i + t) := by
  unfold turnAt
  have e1 : (ns.drop i ++ ns.take i).drop t = ns.drop (i + t) ++ ns.take i := by
    rw [List.drop_append_of_le_length (by rw [List.length_drop]; omega), List.drop_drop]
  have e2 : (ns.drop i ++ ns.take i).take t = (ns.drop i).take t := List.take_append_of_le_length (by rw [List.length_drop]; omega)
  rw [e1, e2, List.append_assoc, ← List.take_add]
theorem turnAt_wrap {ns : List Int} {i t : Nat} (hi : i ≤ ns.length) (ht : t ≤ ns.length) (h : ns.length ≤ i + t) : turnAt (turnAt ns i) t = turnAt ns (i + t - ns.length) := by
  unfold turnAt
  have l1 : (ns.drop i).length = ns.length - i := List.length_drop
  have e1 : (ns.drop i ++ ns.take i).drop t = (ns.take i).drop (i + t - ns.length) := by
    rw [List.drop_append, List.drop_eq_nil_of_le (by omega), List.nil_append, l1]
    congr 1
    omega
  have e2 : (ns.drop i ++ ns.take i).take t = ns.drop i ++ (ns.take i).take (i + t - ns.length) := by
    rw [List.take_append, List.take_of_length_le (by omega), l1]
    congr 2
    omega
  have e3 : (ns.take i).take (i + t - ns.length) = ns.take (i + t - ns.length) := by
    rw [List.take_take]
    congr 1
    omega
  have e4 : (ns.take i).drop (i + t - ns.length) ++ ns.drop i = ns.drop (i + t - ns.length) := by
    have h2 : ns.drop (i + t - ns.length) = (ns.take i ++ ns.drop i).drop (i + t - ns.length) := by rw [List.take_append_drop]
    rw [h2, List.drop_append_of_le_length (by rw [List.length_take]; omega)]
  rw [e1, e2, e3, ← List.append_assoc, e4]
theorem turnAt_turn_mem {ns : List Int} {i t : Nat} (hi : i < ns.length) (ht : t < ns.length) : turnAt (turnAt ns i) t ∈ turns ns := by
  by_cases h : i + t < ns.length
  · rw [turnAt_add (by omega)]
    exact turnAt_mem h
  · rw [turnAt_wrap (by omega) (by omega) (by omega)]
    exact turnAt_mem (by omega)
theorem turnAt_get {ns : List Int} {i k : Nat} (hi : i < ns.length) (hk : k < ns.length) : (turnAt ns i)[k]? = ns[(i + k) % ns.length]? := by
  unfold turnAt
  by_cases h : i + k < ns.length
  · rw [List.getElem?_append_left (by rw [List.length_drop]; omega), List.getElem?_drop, Nat.mod_eq_of_lt h]
  · rw [List.getElem?_append_right (by rw [List.length_drop]; omega), List.length_drop, List.getElem?_take, if_pos (by omega)]
    have e : (i + k) % ns.length = i + k - ns.length := by
      rw [Nat.mod_eq_sub_mod (by omega), Nat.mod_eq_of_lt (by omega)]
    rw [e]
    congr 1
    omega
theorem lt_ahead {x y : Int} (h : y < x) : ∀ (p a b : List Int), p ++ y :: b < p ++ x :: a
  | [], _, _ => List.cons_lt_cons_iff.mpr (.inl h)
  | c :: p, a, b => List.cons_lt_cons_iff.mpr (.inr ⟨rfl, lt_ahead h p a b⟩)
theorem cut_at {A : List Int} {k : Nat} {x : Int} (h : A[k]? = some x) : A = A.take k ++ x :: A.drop (k + 1) := by
  obtain ⟨hk, e⟩ := List.getElem?_eq_some_iff.mp h
  rw [← e, ← List.drop_eq_getElem_cons hk, List.take_append_drop]
theorem turn_lt {A B : List Int} {k t : Nat} {x y : Int} (ht : t ≤ k) (hp : A.take k = B.take k) (hx : A[k]? = some x) (hy : B[k]? = some y) (h : y < x) : turnAt B t < turnAt A t := by
  have ka := (List.getElem?_eq_some_iff.mp hx).1
  have kb := (List.getElem?_eq_some_iff.mp hy).1
  have eA := cut_at hx
  have eB := cut_at hy
  rw [← hp] at eB
  have lp : (A.take k).length = k := by rw [List.length_take]; omega
  generalize A.take k = p at eA eB lp
  generalize A.drop (k + 1) = a at eA
  generalize B.drop (k + 1) = b at eB
  subst eA
  subst eB
  unfold turnAt
  rw [List.drop_append_of_le_length (by omega), List.drop_append_of_le_length (by omega), List.take_append_of_le_length (by omega), List.take_append_of_le_length (by omega), List.append_assoc, List.append_assoc]
  exact lt_ahead h _ _ _
def NoL (ns : List Int) (p : Nat) : Prop := ∃ t ∈ turns ns, t < turnAt ns p
theorem noL_of {ns : List Int} {i j k t : Nat} {x y : Int} (hi : i + t < ns.length) (hj : j < ns.length) (hk : k < ns.length) (ht : t ≤ k) (hp : (turnAt ns i).take k = (turnAt ns j).take k)
    (hx : (turnAt ns i)[k]? = some x) (hy : (turnAt ns j)[k]? = some y) (h : y < x) : NoL ns (i + t) := by
  refine ⟨_, turnAt_turn_mem hj (t := t) (by omega), ?_⟩
  rw [← turnAt_add (by omega)]
  exact turn_lt ht hp hx hy h
def Beaten (ns : List Int) (i j : Nat) : Prop := i ≠ j ∧ ∀ p, p < ns.length → p < max i j → p ≠ min i j → NoL ns p
theorem Beaten.symm {ns : List Int} {i j : Nat} (h : Beaten ns i j) : Beaten ns j i := ⟨fun e => h.1 e.symm, fun p h1 h2 h3 => h.2 p h1 (by omega) (by omega)⟩
theorem Beaten.step {ns : List Int} {i j k : Nat} (h : Beaten ns i j) (n : ∀ t, t ≤ k → i + t < ns.length → NoL ns (i + t)) : (i + k + 1 ≠ j → Beaten ns (i + k + 1) j) ∧ (i + k + 1 = j → Beaten ns j (j + 1)) := by
  have own : ∀ p, p < ns.length → i ≤ p → p ≤ i + k → NoL ns p := fun p h1 h2 h3 => by
    have := n (p - i) (by omega) (by omega)
    have e : i + (p - i) = p := by omega
    rw [e] at this
    exact this
  have hh := h.1
  refine ⟨fun e => ⟨e, fun p h1 h2 h3 => ?_⟩, fun e => ⟨by omega, fun p h1 h2 h3 => ?_⟩⟩
  · by_cases c : i ≤ p ∧ p ≤ i + k
    · exact own p h1 c.1 c.2
    · exact h.2 p h1 (by omega) (by omega)
  · by_cases c : i ≤ p ∧ p ≤ i + k
    · exact own p h1 c.1 c.2
    · exact h.2 p h1 (by omega) (by omega)
theorem least_far {ns L : List Int} {i j : Nat} (b : Beaten ns i j) (hf : ns.length ≤ max i j) (hL : L ∈ turns ns) (hm : ∀ t ∈ turns ns, ¬ t < L) : turnAt ns (min i j) = L ∧ min i j < ns.length := by
  obtain ⟨p, hp, rfl⟩ := List.mem_map.mp hL
  have hp' := List.mem_range.mp hp
  have e : p = min i j := Classical.byContradiction fun z => by
    obtain ⟨t, h1, h2⟩ := b.2 p hp' (by omega) z
    exact hm t h1 h2
  exact ⟨by rw [e], by omega⟩
theorem least_like {ns L : List Int} {i j : Nat} (b : Beaten ns i j) (hi : i < ns.length) (hj : j < ns.length) (ha : turnAt ns i = turnAt ns j) (hL : L ∈ turns ns) (hm : ∀ t ∈ turns ns, ¬ t < L) : turnAt ns (min i j) = L := by
  have hh := b.1
  have main : ∀ p, p < ns.length → turnAt ns p = L → turnAt ns (min i j) = L := fun p => by
    induction p using Nat.strongRecOn with
    | ind p ih =>
      intro h1 h2
      by_cases c : p < max i j
      · have e : p = min i j := Classical.byContradiction fun z => by
          obtain ⟨t, q1, q2⟩ := b.2 p h1 c z
          rw [h2] at q2
          exact hm t q1 q2
        rw [← e]
        exact h2
      · have e1 : turnAt ns (max i j) = turnAt ns (min i j) := by
          by_cases c2 : i < j
          · rw [Nat.max_eq_right (by omega), Nat.min_eq_left (by omega), ha]
          · rw [Nat.max_eq_left (by omega), Nat.min_eq_right (by omega), ha]
        have e2 := turnAt_add (ns := ns) (i := max i j) (t := p - max i j) (by omega)
        have e3 : max i j + (p - max i j) = p := by omega
        rw [e3, e1, turnAt_add (by omega)] at e2
        exact ih (min i j + (p - max i j)) (by omega) (by omega) (e2.trans h2)
  obtain ⟨p, hp, e⟩ := List.mem_map.mp hL
  exact main p (List.mem_range.mp hp) e
theorem take_more {A B : List Int} {k : Nat} {x : Int} (hp : A.take k = B.take k) (hx : A[k]? = some x) (hy : B[k]? = some x) : A.take (k + 1) = B.take (k + 1) := by
  rw [List.take_add_one, List.take_add_one, hp, hx, hy]
theorem leastT_far {ns : List Int} {i j : Nat} (hne : ns ≠ []) (b : Beaten ns i j) (hf : ns.length ≤ max i j) : turnAt ns (min i j) = leastT ns ∧ min i j < ns.length :=
  least_far b hf (leastT_facts hne).1 (leastT_facts hne).2
theorem leastT_like {ns : List Int} {i j : Nat} (hne : ns ≠ []) (b : Beaten ns i j) (hi : i < ns.length) (hj : j < ns.length) (ha : (turnAt ns i).take ns.length = (turnAt ns j).take ns.length) : turnAt ns (min i j) = leastT ns := by
  rw [List.take_of_length_le (by rw [turnAt_lenL]; exact Nat.le_refl _), List.take_of_length_le (by rw [turnAt_lenL]; exact Nat.le_refl _)] at ha
  exact least_like b hi hj ha (leastT_facts hne).1 (leastT_facts hne).2
theorem turn_letter {ns : List Int} {i k : Nat} (hi : i < ns.length) (hk : k < ns.length) : ∃ x, ns[(i + k) % ns.length]? = some x ∧ (turnAt ns i)[k]? = some x := by
  have h : (i + k) % ns.length < ns.length := Nat.mod_lt _ (by omega)
  refine ⟨_, List.getElem?_eq_getElem h, ?_⟩
  rw [turnAt_get hi hk]
  exact List.getElem?_eq_getElem h
theorem beaten_zero (ns : List Int) : Beaten ns 0 1 := ⟨by omega, fun p _ h2 h3 => absurd h2 (by omega)⟩
end Tt
set_option maxRecDepth 100000
set_option maxHeartbeats 4000000
namespace Tt
open PySem L2
section
variable {P : Program} {w : World} {K : PySem.W.Frag} {mg : Str → Option Value} {base : Heap}
theorem while_by3 {c : TT} {tb : TS} {D : Ends} {σ : L2.St} {H : Hp} (Pv : L2.St → Hp → Prop) (μ : L2.St → Hp → Nat) (h0 : Pv σ H)
    (hs : ∀ σ H, Pv σ H → c σ H fun b H1 => if b = true then ∃ N : L2.St → Hp → Prop, (∀ σ' H', N σ' H' → ∃ m', m' < μ σ H ∧ (m' = μ σ' H' ∧ Pv σ' H')) ∧ tb { D with nx := N, ct := N, bk := D.nx } σ H1 else D.nx σ H1) : tWhile c tb D σ H := by
  refine ⟨fun m σ H => m = μ σ H ∧ Pv σ H, ⟨_, rfl, h0⟩, ?_⟩
  rintro m σ H ⟨rfl, p⟩
  exact hs σ H p
theorem let_one {J C G : Prop} (main : (J → C) → G) (rest : J → C) : G := main rest
def readTo (n : Nat) : L2.St → Hp → Nat := fun σ _ => match σ[2]?, σ[3]?, σ[4]? with
  | some (some (V.int i)), some (some (V.int j)), some (some (V.int k)) => 3 * n - (i.toNat + j.toNat + k.toNat)
  | _, _, _ => 0
theorem ok_least_turn (T : Txt K mg) : FnOk P w K mg base CX0 2 T.least_turn.a T.least_turn.fd ["word"] (spLeast K) := by
  refine T.least_turn.F.ok sc_least_turn (fun vs H Q E h => ?_) (fun cdv A outer s H vs Q E hr h => ?_)
  · obtain ⟨p, ns, rfl, _⟩ := h
    rfl
  · obtain ⟨p, ns, rfl, hp, hne, hl, k⟩ := h
    have nd := sc_least_turn.nd
    refine ⟨_, (pss_cons (ps_set (i := 1) nd rfl (Or.inl rfl) (pe_callB call_len_seq (by rfl) T.zlen (by decide +kernel) (pa_cons (pv 0) pa_nil)))
    (pss_cons (ps_asg (pe_tup (pa_cons pe_int (pa_cons pe_int (pa_cons pe_int pa_nil)))) (pg_tup rfl (pgs_cons (pg_name (i := 2) nd rfl (Or.inl rfl)) (pgs_cons (pg_name (i := 3) nd rfl (Or.inl rfl)) (pgs_cons (pg_name (i := 4) nd rfl (Or.inl rfl)) pgs_nil)))))
    (pss_cons (ps_while PassesOwn.never (PW.pt (pw_and (pt_cmpR op_lt (pv 2) (pv 1) (nomark _)) (pw_and (pt_cmpR op_lt (pv 3) (pv 1) (nomark _)) (pw_and1 (pt_cmpR op_lt (pv 4) (pv 1) (nomark _))))))
      (pss_cons (ps_par (i := 5) (j := 6) rfl nd rfl rfl (by decide) rfl rfl (pa_cons (pe_ix ix_tup (pv 0) (pe_op op_mod (pe_op op_add (pv 2) (pv 4)) (pv 1)) (fun _ _ => rfl)) (pa_cons (pe_ix ix_tup (pv 0) (pe_op op_mod (pe_op op_add (pv 3) (pv 4)) (pv 1)) (fun _ _ => rfl)) pa_nil)) rfl)
      (pss_cons (ps_if (pt_cmpR op_eq (pv 5) (pv 6) (nomark _))
        (pss_cons (ps_aug (i := 4) nd rfl (Or.inl rfl) pe_int ip_add)
        (pss_one ps_continue))
        pss_nil)
      (pss_cons (ps_if (pt_cmpR op_gt (pv 5) (pv 6) (nomark _))
        (pss_one (ps_aug (i := 2) nd rfl (Or.inl rfl) (pe_op op_add (pv 4) pe_int) ip_add))
        (pss_one (ps_aug (i := 3) nd rfl (Or.inl rfl) (pe_op op_add (pv 4) pe_int) ip_add)))
      (pss_cons (ps_if (pt_cmpR op_eq (pv 2) (pv 3) (nomark _))
        (pss_one (ps_aug (i := 3) nd rfl (Or.inl rfl) pe_int ip_add))
        pss_nil)
      (pss_one (ps_set (i := 4) nd rfl (Or.inl rfl) pe_int)))))))
    (pss_cons (ps_set (i := 7) nd rfl (Or.inl rfl) (pe_callB (call_min2 rfl) (by rfl) T.zmin (by decide +kernel) (pa_cons (pv 2) (pa_cons (pv 3) pa_nil))))
    (pss_one (ps_ret (pe_op op_catA (pe_slice sl_tupA (pv 0) (po_some (pv 7)) po_none) (pe_slice sl_tupA (pv 0) po_none (po_some (pv 7)))))))))), ?_⟩
    have lm : (ns.map V.int).length = ns.length := List.length_map ..
    have l0 := List.length_pos_iff.mpr hne
    refine ⟨_, rfl, p, _, rfl, .inr hp, ?_⟩
    rw [lm]
    refine ⟨(by show 3 ≤ sizeLine; decide), fun a3 ha3 => ⟨a3, _, rfl, SqT.of upd_same, rfl, _, _, rfl, _, _, rfl, _, _, rfl, rfl, ?_⟩⟩
    have s0 : Same H (upd H a3 (.tup [.int 0, .int 1, .int 0])) := same_new ha3
    have hp0 := same_seqT s0 hp
    generalize upd H a3 (.tup [.int 0, .int 1, .int 0]) = H0 at s0 hp0
    refine while_by3 (fun σ H' => H' = H0 ∧ ∃ (i j c : Nat) (f g : Option V), σ = [some (.ref p), some (.int (ns.length : Int)), some (.int (i : Int)), some (.int (j : Int)), some (.int (c : Int)), f, g, none] ∧ Beaten ns i j ∧ c ≤ ns.length ∧ (0 < c → i < ns.length ∧ j < ns.length) ∧ (turnAt ns i).take c = (turnAt ns j).take c) (readTo ns.length)
      ⟨rfl, 0, 1, 0, none, none, rfl, beaten_zero ns, Nat.zero_le _, (fun z => absurd z (by omega)), rfl⟩ ?_
    rintro σ H' ⟨rfl, i, j, c, f, g, rfl, bt, hc, hij, ht⟩
    apply let_one (J := turnAt ns (min i j) = leastT ns ∧ min i j < ns.length)
    · intro out
      refine ⟨_, rfl, _, rfl, _, _, rfl, rfl, _, rfl, ite2 (fun c1 => ?_) (fun c1 => ?_)⟩
      · refine ⟨_, rfl, _, rfl, _, _, rfl, rfl, _, rfl, ite2 (fun c2 => ?_) (fun c2 => ?_)⟩
        · refine ⟨_, rfl, _, rfl, _, _, rfl, rfl, _, rfl, ite2 (fun c3 => ?_) (fun c3 => ?_)⟩
          · have g1 : i < ns.length := by simpa using c1
            have g2 : j < ns.length := by simpa using c2
            have g3 : c < ns.length := by simpa using c3
            obtain ⟨x, x1, x2⟩ := turn_letter g1 g3
            obtain ⟨y, y1, y2⟩ := turn_letter g2 g3
            have a1 : atI (ns.map V.int) (((i : Int) + (c : Int)) % (ns.length : Int)) = some (V.int x) := atI_nat (j := (i + c) % ns.length) (ints_get x1)
            have a2 : atI (ns.map V.int) (((j : Int) + (c : Int)) % (ns.length : Int)) = some (V.int y) := atI_nat (j := (j + c) % ns.length) (ints_get y1)
            refine ⟨fun σ' H'' => readTo ns.length σ' H'' < _ ∧ H'' = H' ∧ _, fun σ' H'' h => ⟨_, h.1, rfl, h.2⟩, ?_⟩
            have lt0 : ∀ (i' j' c' : Nat) (f' g' : Option V), i + j + c < i' + j' + c' → readTo ns.length [some (.ref p), some (.int (ns.length : Int)), some (.int (i' : Int)), some (.int (j' : Int)), some (.int (c' : Int)), f', g', none] H' < readTo ns.length [some (.ref p), some (.int (ns.length : Int)), some (.int (i : Int)), some (.int (j : Int)), some (.int (c : Int)), f, g, none] H' := fun i' j' c' f' g' h => by
              show 3 * ns.length - ((i' : Int).toNat + (j' : Int).toNat + (c' : Int).toNat) < 3 * ns.length - ((i : Int).toNat + (j : Int).toNat + (c : Int).toNat)
              omega
            have fin : ∀ (i' j' : Nat), i + j + c < i' + j' → Beaten ns i' j' → ∀ G : Prop, (readTo ns.length [some (.ref p), some (.int (ns.length : Int)), some (.int (i' : Int)), some (.int (j' : Int)), some (.int 0), some (V.int x), some (V.int y), none] H' < readTo ns.length [some (.ref p), some (.int (ns.length : Int)), some (.int (i : Int)), some (.int (j : Int)), some (.int (c : Int)), f, g, none] H' ∧ H' = H' ∧ (∃ (i c2 c : Nat) (f g : Option V), [some (.ref p), some (.int (ns.length : Int)), some (.int (i' : Int)), some (.int (j' : Int)), some (.int 0), some (V.int x), some (V.int y), none] = [some (.ref p), some (.int (ns.length : Int)), some (.int (i : Int)), some (.int (c2 : Int)), some (.int (c : Int)), f, g, none] ∧ Beaten ns i c2 ∧ c ≤ ns.length ∧ (0 < c → i < ns.length ∧ c2 < ns.length) ∧ (turnAt ns i).take c = (turnAt ns c2).take c) → G) → G := fun i' j' h b G k => k ⟨lt0 i' j' 0 _ _ (by omega), rfl, i', j', 0, _, _, rfl, b, Nat.zero_le _, (fun z => absurd z (by omega)), rfl⟩
            refine ⟨_, rfl, ?_⟩
            refine ⟨_, rfl, _, rfl, _, _, rfl, rfl, _, rfl, _, _, rfl, rfl, by omega, p, _, _, _, rfl, rfl, hp0, a1, ?_⟩
            refine ⟨_, rfl, _, rfl, _, rfl, _, _, rfl, rfl, _, rfl, _, _, rfl, rfl, by omega, p, _, _, _, rfl, rfl, hp0, a2, _, _, rfl, ?_⟩
            refine ⟨_, rfl, _, rfl, rfl, _, rfl, ite2 (fun c4 => ?_) (fun c4 => ?_)⟩
            · have g4 : x = y := by simpa using c4
              subst g4
              refine ⟨_, rfl, _, _, rfl, rfl, lt0 i j (c + 1) _ _ (by omega), rfl, i, j, c + 1, _, _, rfl, bt, g3, fun _ => ⟨g1, g2⟩, take_more ht x2 y2⟩
            · have g4 : ¬ x = y := by simpa using c4
              refine ⟨_, rfl, _, rfl, _, _, rfl, rfl, _, rfl, ite2 (fun c5 => ?_) (fun c5 => ?_)⟩
              · have g5 : y < x := by simpa using c5
                have bs := bt.step (k := c) fun t t1 t2 => noL_of t2 g2 g3 t1 ht x2 y2 g5
                refine ⟨_, rfl, _, rfl, _, _, rfl, rfl, _, _, rfl, rfl, ?_⟩
                refine ⟨_, rfl, _, rfl, rfl, _, rfl, ite2 (fun c6 => ?_) (fun c6 => ?_)⟩
                · have g6 : i + c + 1 = j := by
                    have : (i : Int) + ((c : Int) + 1) = (j : Int) := by simpa using c6
                    omega
                  have b2 := bs.2 g6
                  refine ⟨_, rfl, _, _, rfl, rfl, ?_⟩
                  refine fin (i + (c + 1)) (j + 1) (by omega) ?_ _ fun z => z
                  have e : i + (c + 1) = j := by omega
                  rw [e]
                  exact b2
                · have g6 : i + c + 1 ≠ j := fun z => c6 (by
                    have : (i : Int) + ((c : Int) + 1) = (j : Int) := by omega
                    simp [this])
                  exact fin (i + (c + 1)) j (by omega) (bs.1 g6) _ fun z => z
              · have g5 : x < y := by
                  have : ¬ y < x := by simpa using c5
                  omega
                have bs := bt.symm.step (k := c) fun t t1 t2 => noL_of t2 g1 g3 t1 ht.symm y2 x2 g5
                refine ⟨_, rfl, _, rfl, _, _, rfl, rfl, _, _, rfl, rfl, ?_⟩
                refine ⟨_, rfl, _, rfl, rfl, _, rfl, ite2 (fun c6 => ?_) (fun c6 => ?_)⟩
                · have g6 : j + c + 1 = i := by
                    have : (i : Int) = (j : Int) + ((c : Int) + 1) := by simpa using c6
                    omega
                  have b2 := bs.2 g6
                  refine ⟨_, rfl, _, _, rfl, rfl, ?_⟩
                  refine fin i (j + (c + 1) + 1) (by omega) ?_ _ fun z => z
                  have e : j + (c + 1) = i := by omega
                  rw [e]
                  exact b2
                · have g6 : j + c + 1 ≠ i := fun z => c6 (by
                    have : (i : Int) = (j : Int) + ((c : Int) + 1) := by omega
                    simp [this])
                  exact fin i (j + (c + 1)) (by omega) (bs.1 g6).symm _ fun z => z
          · have g1 : i < ns.length := by simpa using c1
            have g2 : j < ns.length := by simpa using c2
            have g3 : c = ns.length := by
              have : ¬ c < ns.length := by simpa using c3
              omega
            subst g3
            exact out ⟨leastT_like hne bt g1 g2 ht, by omega⟩
        · have g2 : ns.length ≤ j := by simpa using c2
          exact iteF (out (leastT_far hne bt (by omega)))
      · have g1 : ns.length ≤ i := by simpa using c1
        exact iteF (out (leastT_far hne bt (by omega)))
    rintro ⟨e1, e2⟩
    refine ⟨_, rfl, _, rfl, _, _, rfl, ?_⟩
    have em : (if (j : Int) < (i : Int) then (j : Int) else (i : Int)) = ((min i j : Nat) : Int) := by
      split <;> omega
    rw [em]
    have hp3 := hp0
    generalize min i j = m at e1 e2
    refine ⟨_, rfl, _, rfl, (m : Int), rfl, noPart_i ?_⟩
    refine slT_genD (K := K) hp0 fun b1 H2 s3 hb1 => ?_
    refine ⟨_, rfl, noPart_i ⟨_, rfl, (m : Int), rfl, ?_⟩⟩
    refine slT_gen (K := K) (same_seqT s3 hp0) fun b2 H3 s4 hb2 => ?_
    refine catA_gen (K := K) (same_seqT s4 hb1) hb2 ?_ fun q H4 s5 hq => ?_
    · rw [List.length_drop, List.length_take, lm]
      exact Nat.le_of_lt (small1000 (by omega))
    refine k q H4 (((s0.trans s3).trans s4).trans s5) ?_
    rw [← e1]
    have e : (turnAt ns m).map V.int = (ns.map V.int).drop m ++ (ns.map V.int).take m := by
      unfold turnAt
      rw [List.map_append, List.map_drop, List.map_take]
    rw [e]
    exact hq
end
end Tt
set_option maxRecDepth 100000
set_option maxHeartbeats 1000000
namespace Cy
open Wd
def Ch (f : Int → Int) : Int → List Int → Int → Prop
  | x, [], y => f x = y
  | x, a :: l, y => f x = a ∧ Ch f a l y
theorem ch_app {f : Int → Int} : ∀ {l : List Int} {x a y : Int} {m : List Int}, Ch f x (l ++ a :: m) y ↔ Ch f x l a ∧ Ch f a m y
  | [], x, a, y, m => Iff.rfl
  | b :: l, x, a, y, m => by
    show (f x = b ∧ Ch f b (l ++ a :: m) y) ↔ (f x = b ∧ Ch f b l a) ∧ Ch f a m y
    rw [ch_app (l := l), and_assoc]
theorem ch_snoc {f : Int → Int} {l : List Int} {x a y : Int} (h : Ch f x l a) (e : f a = y) : Ch f x (l ++ [a]) y := ch_app.mpr ⟨h, e⟩
theorem ch_uniq {f : Int → Int} {x : Int} : ∀ {l m : List Int} {a : Int}, Ch f a l x → Ch f a m x → x ∉ l → x ∉ m → l = m
  | [], [], _, _, _, _, _ => rfl
  | [], b :: m, a, h, k, _, n => by
    have h1 : f a = x := h
    have k1 : f a = b := k.1
    exact absurd (show x ∈ b :: m by rw [← k1, h1]; exact List.mem_cons_self) n
  | b :: l, [], a, h, k, n, _ => by
    have h1 : f a = b := h.1
    have k1 : f a = x := k
    exact absurd (show x ∈ b :: l by rw [← h1, k1]; exact List.mem_cons_self) n
  | b :: l, c :: m, a, h, k, n1, n2 => by
    have h1 : f a = b := h.1
    have k1 : f a = c := k.1
    have e : b = c := h1.symm.trans k1
    subst e
    rw [ch_uniq h.2 k.2 (fun z => n1 (List.mem_cons_of_mem _ z)) (fun z => n2 (List.mem_cons_of_mem _ z))]
theorem ch_move {f g : Int → Int} {q : Int} : ∀ {l : List Int} {p p' : Int}, Ch f p l q → g p' = f p → (∀ z ∈ l, g z = f z) → Ch g p' l q
  | [], _, _, h, e, _ => e.trans h
  | a :: l, _, _, h, e, k => ⟨e.trans h.1, ch_move h.2 (k a List.mem_cons_self) fun z hz => k z (List.mem_cons_of_mem _ hz)⟩
def Cyc (f : Int → Int) (c : List Int) : Prop := ∃ x l, c = x :: l ∧ Ch f x l x
theorem cyc_turn {f : Int → Int} {c : List Int} {y : Int} (h : Cyc f c) (hy : y ∈ c) : ∃ m, Turn c (y :: m) ∧ Ch f y m y := by
  obtain ⟨x, l, rfl, h⟩ := h
  rcases List.mem_cons.mp hy with rfl | hy
  · exact ⟨l, Turn.refl _, h⟩
  · obtain ⟨p, q, rfl⟩ := List.append_of_mem hy
    obtain ⟨h1, h2⟩ := ch_app.mp h
    refine ⟨q ++ x :: p, ⟨x :: p, y :: q, rfl, rfl⟩, ch_app.mpr ⟨h2, h1⟩⟩
theorem turn_perm {a b : List Int} (h : Turn a b) : a.Perm b := by
  obtain ⟨u, v, rfl, rfl⟩ := h
  exact List.perm_append_comm
theorem cyc_of_turn {f : Int → Int} {c d : List Int} (h : Cyc f c) (t : Turn c d) : Cyc f d := by
  obtain ⟨x, l, rfl, h⟩ := h
  obtain ⟨u, v, e, rfl⟩ := t
  cases u with
  | nil =>
    rw [List.append_nil]
    exact ⟨x, l, e.symm, h⟩
  | cons a u =>
    cases v with
    | nil =>
      rw [List.append_nil] at e
      exact ⟨x, l, e.symm, h⟩
    | cons b v =>
      have e' : x :: l = a :: (u ++ b :: v) := e
      cases e'
      obtain ⟨h1, h2⟩ := ch_app.mp h
      exact ⟨b, v ++ x :: u, rfl, ch_app.mpr ⟨h2, h1⟩⟩
theorem cyc_same {f : Int → Int} {c d : List Int} {y : Int} (hc : Cyc f c) (hd : Cyc f d) (nc : c.Nodup) (n2 : d.Nodup) (h1 : y ∈ c) (h2 : y ∈ d) : Turn c d := by
  obtain ⟨m, t1, e1⟩ := cyc_turn hc h1
  obtain ⟨k, t2, e2⟩ := cyc_turn hd h2
  have n1 := (turn_perm t1).nodup_iff.mp nc
  have n3 := (turn_perm t2).nodup_iff.mp n2
  rw [ch_uniq e1 e2 (List.nodup_cons.mp n1).1 (List.nodup_cons.mp n3).1] at t1
  exact t1.trans t2.symm
structure Cycles (D : List Int) (f : Int → Int) (C : List (List Int)) : Prop where
  all : C.flatten.Perm D
  cyc : ∀ c ∈ C, Cyc f c
theorem Cycles.perm {D : List Int} {f : Int → Int} {C R : List (List Int)} (h : Cycles D f C) (p : C.Perm R) : Cycles D f R :=
  ⟨p.symm.flatten.trans h.all, fun c hc => h.cyc c (p.mem_iff.mpr hc)⟩
theorem Cycles.turn {D : List Int} {f : Int → Int} {c d : List Int} {C : List (List Int)} (h : Cycles D f (c :: C)) (t : Turn c d) : Cycles D f (d :: C) := by
  refine ⟨?_, fun e he => ?_⟩
  · have := h.all
    rw [List.flatten_cons] at this ⊢
    exact ((turn_perm t).symm.append_right _).trans this
  · rcases List.mem_cons.mp he with rfl | he
    · exact cyc_of_turn (h.cyc c List.mem_cons_self) t
    · exact h.cyc e (List.mem_cons_of_mem _ he)
theorem mem_perm_cons {α : Type} [DecidableEq α] {c : α} {C : List α} (h : c ∈ C) : ∃ R, C.Perm (c :: R) := ⟨C.erase c, List.perm_cons_erase h⟩
theorem Cycles.at {D : List Int} {f : Int → Int} {C : List (List Int)} (h : Cycles D f C) {y : Int} (hy : y ∈ D) : ∃ m R, Cycles D f ((y :: m) :: R) ∧ Ch f y m y ∧ C.length = R.length + 1 := by
  obtain ⟨c, hc, hyc⟩ := List.mem_flatten.mp (h.all.mem_iff.mpr hy)
  obtain ⟨R, p⟩ := mem_perm_cons hc
  obtain ⟨m, t, e⟩ := cyc_turn (h.cyc c hc) hyc
  exact ⟨m, R, (h.perm p).turn t, e, by rw [p.length_eq]; rfl⟩
def swp (f : Int → Int) (a b : Int) : Int → Int := fun x => if x = a then f b else if x = b then f a else f x
theorem swp_ne {f : Int → Int} {a b z : Int} (h1 : z ≠ a) (h2 : z ≠ b) : swp f a b z = f z := by
  unfold swp
  rw [if_neg h1, if_neg h2]
theorem swp_a {f : Int → Int} {a b : Int} : swp f a b a = f b := by
  unfold swp
  rw [if_pos rfl]
theorem swp_b {f : Int → Int} {a b : Int} (h : a ≠ b) : swp f a b b = f a := by
  unfold swp
  rw [if_neg (fun z => h z.symm), if_pos rfl]
theorem cyc_keep {f : Int → Int} {a b : Int} {c : List Int} (h : Cyc f c) (ha : a ∉ c) (hb : b ∉ c) : Cyc (swp f a b) c := by
  obtain ⟨x, l, rfl, h⟩ := h
  have ne : ∀ z ∈ x :: l, swp f a b z = f z := fun z hz => swp_ne (fun e => ha (e ▸ hz)) (fun e => hb (e ▸ hz))
  exact ⟨x, l, rfl, ch_move h (ne x List.mem_cons_self) fun z hz => ne z (List.mem_cons_of_mem _ hz)⟩
theorem Cycles.cut {D : List Int} {f : Int → Int} {C : List (List Int)} (h : Cycles D f C) (nd : D.Nodup) {a b : Int} (ha : a ∈ D) (hb : b ∈ D) (hab : a ≠ b) : ∃ C', Cycles D (swp f a b) C' ∧ (C'.length = C.length + 1 ∨ C'.length + 1 = C.length) := by
  obtain ⟨m, R, h1, e1, l1⟩ := h.at ha
  have n1 := h1.all.nodup_iff.mpr nd
  rw [List.flatten_cons] at n1
  obtain ⟨nm, nR, dis⟩ := List.nodup_append.mp n1
  by_cases hbm : b ∈ m
  · obtain ⟨u, v, rfl⟩ := List.append_of_mem hbm
    obtain ⟨c1, c2⟩ := ch_app.mp e1
    obtain ⟨na, nm2⟩ := List.nodup_cons.mp nm
    obtain ⟨nu, nv, d2⟩ := List.nodup_append.mp nm2
    obtain ⟨nbv, nv2⟩ := List.nodup_cons.mp nv
    have keep : ∀ z, z ∈ u ∨ z ∈ v → swp f a b z = f z := fun z hz => by
      refine swp_ne (fun e => na ?_) (fun e => ?_)
      · rw [← e]
        rcases hz with hz | hz
        · exact List.mem_append_left _ hz
        · exact List.mem_append_right _ (List.mem_cons_of_mem _ hz)
      · subst e
        rcases hz with hz | hz
        · exact d2 z hz z List.mem_cons_self rfl
        · exact nbv hz
    refine ⟨(a :: v) :: (b :: u) :: R, ⟨?_, fun c hc => ?_⟩, .inl (by rw [l1]; rfl)⟩
    · refine List.Perm.trans ?_ h1.all
      simp only [List.flatten_cons, List.cons_append, List.append_assoc]
      refine List.Perm.cons _ ?_
      refine (List.perm_append_comm_assoc v (b :: u) R.flatten).trans ?_
      show (b :: (u ++ (v ++ R.flatten))).Perm _
      exact List.perm_middle.symm
    · rcases List.mem_cons.mp hc with rfl | hc
      · exact ⟨a, v, rfl, ch_move c2 swp_a fun z hz => keep z (.inr hz)⟩
      · rcases List.mem_cons.mp hc with rfl | hc
        · exact ⟨b, u, rfl, ch_move c1 (swp_b hab) fun z hz => keep z (.inl hz)⟩
        · refine cyc_keep (h1.cyc c (List.mem_cons_of_mem _ hc)) (fun z => ?_) (fun z => ?_)
          · exact dis a List.mem_cons_self a (List.mem_flatten.mpr ⟨c, hc, z⟩) rfl
          · exact dis b (List.mem_cons_of_mem _ (List.mem_append_right _ List.mem_cons_self)) b (List.mem_flatten.mpr ⟨c, hc, z⟩) rfl
  · have hbR : b ∈ R.flatten := by
      have := h1.all.mem_iff.mpr hb
      rw [List.flatten_cons] at this
      rcases List.mem_append.mp this with z | z
      · rcases List.mem_cons.mp z with z | z
        · exact absurd z.symm hab
        · exact absurd z hbm
      · exact z
    obtain ⟨c0, hc0, hb0⟩ := List.mem_flatten.mp hbR
    obtain ⟨S, p⟩ := mem_perm_cons hc0
    have h2 : Cycles D f ((a :: m) :: c0 :: S) := h1.perm (p.cons _)
    obtain ⟨k, t, e2⟩ := cyc_turn (h2.cyc c0 (List.mem_cons_of_mem _ List.mem_cons_self)) hb0
    have h3 : Cycles D f ((b :: k) :: (a :: m) :: S) := ((h2.perm (List.Perm.swap _ _ _)).turn t)
    have n3 := h3.all.nodup_iff.mpr nd
    rw [List.flatten_cons, List.flatten_cons] at n3
    obtain ⟨nk, nam, d3⟩ := List.nodup_append.mp n3
    obtain ⟨nm3, nS, d4⟩ := List.nodup_append.mp nam
    obtain ⟨nak, nk2⟩ := List.nodup_cons.mp nk
    obtain ⟨nam2, _⟩ := List.nodup_cons.mp nm3
    have keep : ∀ z, z ∈ m ∨ z ∈ k → swp f a b z = f z := fun z hz => by
      refine swp_ne (fun e => ?_) (fun e => ?_)
      · subst e
        rcases hz with hz | hz
        · exact nam2 hz
        · exact d3 z (List.mem_cons_of_mem _ hz) z (List.mem_append_left _ List.mem_cons_self) rfl
      · subst e
        rcases hz with hz | hz
        · exact hbm hz
        · exact nak hz
    refine ⟨(a :: (k ++ b :: m)) :: S, ⟨?_, fun c hc => ?_⟩, .inr (by rw [l1, p.length_eq]; rfl)⟩
    · refine List.Perm.trans ?_ h3.all
      simp only [List.flatten_cons, List.cons_append, List.append_assoc]
      refine (List.Perm.cons a List.perm_middle).trans ?_
      refine (List.Perm.swap _ _ _).trans (List.Perm.cons b ?_)
      exact List.perm_middle.symm
    · rcases List.mem_cons.mp hc with rfl | hc
      · exact ⟨a, k ++ b :: m, rfl, ch_app.mpr ⟨ch_move e2 swp_a fun z hz => keep z (.inr hz), ch_move e1 (swp_b hab) fun z hz => keep z (.inl hz)⟩⟩
      · refine cyc_keep (h3.cyc c (List.mem_cons_of_mem _ (List.mem_cons_of_mem _ hc))) (fun z => ?_) (fun z => ?_)
        · exact d4 a List.mem_cons_self a (List.mem_flatten.mpr ⟨c, hc, z⟩) rfl
        · exact d3 b List.mem_cons_self b (List.mem_append_right _ (List.mem_flatten.mpr ⟨c, hc, z⟩)) rfl
end Cy
set_option maxRecDepth 100000
set_option maxHeartbeats 1000000
namespace Tt
open Cy
def nxt (row : List Int) (e : Int) : Int := row.getD ((row.idxOf e + 1) % row.length) 0
theorem nxt_at {row : List Int} {e : Int} (h : row ≠ []) : row[(row.idxOf e + 1) % row.length]? = some (nxt row e) := by
  have hl : (row.idxOf e + 1) % row.length < row.length := Nat.mod_lt _ (List.length_pos_iff.mpr h)
  unfold nxt
  rw [List.getD_eq_getElem?_getD, List.getElem?_eq_getElem hl]
  rfl
def nx (row : List Int) (e : Int) : Int := nxt row (Wd.mate e)
theorem idx_get {row : List Int} (nd : row.Nodup) {i : Nat} {x : Int} (h : row[i]? = some x) : row.idxOf x = i := by
  obtain ⟨hi, e⟩ := List.getElem?_eq_some_iff.mp h
  have hx : x ∈ row := List.mem_of_getElem? h
  have h2 := (idx_at hx).1
  have hl : row.idxOf x < row.length := List.idxOf_lt_length_of_mem hx
  exact (List.getElem?_inj hl nd).mp (h2.trans h.symm)
theorem nxt_mem {row : List Int} {e : Int} (h : row ≠ []) : nxt row e ∈ row := List.mem_of_getElem? (nxt_at h)
theorem nxt_inj {row : List Int} (nd : row.Nodup) {a b : Int} (ha : a ∈ row) (hb : b ∈ row) (h : nxt row a = nxt row b) : a = b := by
  have hne : row ≠ [] := fun z => by rw [z] at ha; exact absurd ha (by simp)
  have l0 := List.length_pos_iff.mpr hne
  have e1 := nxt_at (e := a) hne
  have e2 := nxt_at (e := b) hne
  rw [h] at e1
  have hl := (List.getElem?_eq_some_iff.mp e1).1
  have hi := (List.getElem?_inj hl nd).mp (e1.trans e2.symm)
  have la : row.idxOf a < row.length := List.idxOf_lt_length_of_mem ha
  have lb : row.idxOf b < row.length := List.idxOf_lt_length_of_mem hb
  have ei : row.idxOf a = row.idxOf b := by
    by_cases c1 : row.idxOf a + 1 < row.length <;> by_cases c2 : row.idxOf b + 1 < row.length
    · rw [Nat.mod_eq_of_lt c1, Nat.mod_eq_of_lt c2] at hi
      omega
    · have z : row.idxOf b + 1 = row.length := by omega
      rw [Nat.mod_eq_of_lt c1, z, Nat.mod_self] at hi
      omega
    · have z : row.idxOf a + 1 = row.length := by omega
      rw [Nat.mod_eq_of_lt c2, z, Nat.mod_self] at hi
      omega
    · omega
  have h1 := (idx_at ha).1
  have h2 := (idx_at hb).1
  rw [ei, h2] at h1
  exact (Option.some.inj h1).symm
theorem row_chain {row : List Int} (nd : row.Nodup) {y : Int} (hy : row[0]? = some y) : ∀ (l p : List Int) (x : Int), row = p ++ x :: l → Ch (nxt row) x l y
  | [], p, x, e => by
    have hx : row[p.length]? = some x := by rw [e, List.getElem?_append_right (Nat.le_refl _)]; simp
    have hne : row ≠ [] := fun z => by rw [z] at hy; simp at hy
    have h1 := nxt_at (e := x) hne
    rw [idx_get nd hx] at h1
    have z : p.length + 1 = row.length := by rw [e]; simp
    rw [z, Nat.mod_self, hy] at h1
    exact (Option.some.inj h1).symm
  | a :: l, p, x, e => by
    have hx : row[p.length]? = some x := by rw [e, List.getElem?_append_right (Nat.le_refl _)]; simp
    have ha : row[p.length + 1]? = some a := by rw [e, List.getElem?_append_right (by omega)]; simp
    have hne : row ≠ [] := fun z => by rw [z] at hy; simp at hy
    have h1 := nxt_at (e := x) hne
    rw [idx_get nd hx] at h1
    have hl := (List.getElem?_eq_some_iff.mp ha).1
    rw [Nat.mod_eq_of_lt hl, ha] at h1
    exact ⟨(Option.some.inj h1).symm, row_chain nd hy l (p ++ [x]) a (by rw [e]; simp)⟩
theorem row_cycles {row : List Int} (nd : row.Nodup) (hne : row ≠ []) : Cycles row (nxt row) [row] := by
  cases hr : row with
  | nil => exact absurd hr hne
  | cons x l =>
    rw [← hr]
    refine ⟨by simp, fun c hc => ?_⟩
    rw [List.mem_singleton.mp hc]
    exact ⟨x, l, hr, row_chain nd (by rw [hr]; rfl) l [] x hr⟩
def glue (f : Int → Int) : Nat → Int → Int
  | 0 => f
  | k + 1 => swp (glue f k) (2 * (k : Int)) (2 * (k : Int) + 1)
theorem glue_is (f : Int → Int) : ∀ (k : Nat) (x : Int), 0 ≤ x → glue f k x = if x < 2 * (k : Int) then f (Wd.mate x) else f x
  | 0, x, h => by
    rw [if_neg (by omega)]
    rfl
  | k + 1, x, h => by
    show swp (glue f k) (2 * (k : Int)) (2 * (k : Int) + 1) x = _
    unfold swp
    by_cases c1 : x = 2 * (k : Int)
    · subst c1
      rw [if_pos rfl, glue_is f k _ (by omega), if_neg (by omega), if_pos (by omega)]
      unfold Wd.mate
      rw [if_pos (by omega)]
    · by_cases c2 : x = 2 * (k : Int) + 1
      · subst c2
        rw [if_neg c1, if_pos rfl, glue_is f k _ (by omega), if_neg (by omega), if_pos (by omega)]
        unfold Wd.mate
        rw [if_neg (by omega)]
        congr 1
        omega
      · rw [if_neg c1, if_neg c2, glue_is f k x h]
        by_cases c3 : x < 2 * (k : Int)
        · rw [if_pos c3, if_pos (by omega)]
        · rw [if_neg c3, if_neg (by omega)]
theorem glue_cycles {row : List Int} {n : Nat} (pm : row.Perm (rgI (2 * n))) (nd : row.Nodup) (n1 : 1 ≤ n) : ∀ k, k ≤ n → ∃ C, Cycles row (glue (nxt row) k) C ∧ (C.length + k) % 2 = 1
  | 0, _ => ⟨[row], row_cycles nd (fun z => by have := perm_len pm; rw [z] at this; simp at this; omega), rfl⟩
  | k + 1, hk => by
    obtain ⟨C, h1, h2⟩ := glue_cycles pm nd n1 k (by omega)
    obtain ⟨C', h3, h4⟩ := h1.cut nd (a := 2 * (k : Int)) (b := 2 * (k : Int) + 1) ((perm_mem pm).mpr (by omega)) ((perm_mem pm).mpr (by omega)) (by omega)
    exact ⟨C', h3, by omega⟩
theorem Cycles.congr {D : List Int} {f g : Int → Int} {C : List (List Int)} (h : Cycles D f C) (e : ∀ x ∈ D, f x = g x) : Cycles D g C := by
  refine ⟨h.all, fun c hc => ?_⟩
  obtain ⟨x, l, rfl, k⟩ := h.cyc c hc
  have eg : ∀ z ∈ x :: l, g z = f z := fun z hz => (e z (h.all.mem_iff.mp (List.mem_flatten.mpr ⟨_, hc, hz⟩))).symm
  exact ⟨x, l, rfl, ch_move k (eg x List.mem_cons_self) fun z hz => eg z (List.mem_cons_of_mem _ hz)⟩
theorem row_nodup {row : List Int} {n : Nat} (pm : row.Perm (rgI n)) : row.Nodup := by
  refine pm.nodup_iff.mpr ?_
  unfold rgI
  show List.Pairwise _ _
  rw [List.pairwise_map]
  exact List.pairwise_lt_range.imp fun {a b} h => by show (a : Int) ≠ b; omega
theorem cycles_least {D : List Int} {f : Int → Int} {C R : List (List Int)} (nd : D.Nodup) (h : Cycles D f C) (k : Cycles D f R) : (C.map leastT).Perm (R.map leastT) := by
  have nod : ∀ {C : List (List Int)}, Cycles D f C → (C.map leastT).Nodup := fun {C} h => by
    have n1 := h.all.nodup_iff.mpr nd
    have n2 := (List.pairwise_flatten.mp n1).2
    show List.Pairwise _ _
    rw [List.pairwise_map]
    refine List.Pairwise.imp_of_mem (fun {a b} ha hb hab e => ?_) n2
    obtain ⟨x, l, rfl, _⟩ := h.cyc a ha
    obtain ⟨y, m, rfl, _⟩ := h.cyc b hb
    have t := turn_of_leastT e
    have hx : x ∈ y :: m := (Cy.turn_perm t).mem_iff.mp List.mem_cons_self
    exact hab x List.mem_cons_self x hx rfl
  have sub : ∀ {C R : List (List Int)}, Cycles D f C → Cycles D f R → ∀ t ∈ C.map leastT, t ∈ R.map leastT := fun {C R} h k t ht => by
    obtain ⟨c, hc, rfl⟩ := List.mem_map.mp ht
    obtain ⟨x, l, ec, kc⟩ := h.cyc c hc
    have hx : x ∈ c := by rw [ec]; exact List.mem_cons_self
    have hD : x ∈ D := h.all.mem_iff.mp (List.mem_flatten.mpr ⟨c, hc, hx⟩)
    obtain ⟨r, hr, hxr⟩ := List.mem_flatten.mp (k.all.mem_iff.mpr hD)
    have nf : ∀ {C : List (List Int)} {c : List Int}, Cycles D f C → c ∈ C → c.Nodup := fun h hc => (List.pairwise_flatten.mp (h.all.nodup_iff.mpr nd)).1 _ hc
    have tt := cyc_same (h.cyc c hc) (k.cyc r hr) (nf h hc) (nf k hr) hx hxr
    exact List.mem_map.mpr ⟨r, hr, (leastT_eq tt).symm⟩
  exact (List.perm_ext_iff_of_nodup (nod h) (nod k)).mpr fun t => ⟨sub h k t, sub k h t⟩
theorem rims_parity {row : List Int} {n : Nat} {R : List (List Int)} (pm : row.Perm (rgI (2 * n))) (n1 : 1 ≤ n) (h : Cycles row (nx row) R) : (R.length + n) % 2 = 1 := by
  have nd := row_nodup pm
  obtain ⟨C, h1, h2⟩ := glue_cycles pm nd n1 n (Nat.le_refl _)
  have h3 : Cycles row (nx row) C := Cycles.congr h1 fun x hx => by
    have := (perm_mem pm).mp hx
    rw [glue_is _ _ _ this.1, if_pos (by omega)]
    rfl
  have e := (cycles_least nd h h3).length_eq
  rw [List.length_map, List.length_map] at e
  omega
end Tt
set_option maxRecDepth 100000
set_option maxHeartbeats 1000000
namespace Cy
open Wd
theorem ch_pre {f : Int → Int} : ∀ {l : List Int} {x y : Int}, Ch f x l y → ∃ a ∈ x :: l, f a = y
  | [], x, y, h => ⟨x, List.mem_cons_self, h⟩
  | b :: l, x, y, h => by
    obtain ⟨a, ha, e⟩ := ch_pre (l := l) h.2
    exact ⟨a, List.mem_cons_of_mem _ ha, e⟩
def Inj (D : List Int) (f : Int → Int) : Prop := ∀ a ∈ D, ∀ b ∈ D, f a = f b → a = b
theorem ch_fresh {D : List Int} {f : Int → Int} (inj : Inj D f) {x y : Int} {l : List Int} (h : Ch f x l y) (nd : (x :: l).Nodup) (sub : ∀ z ∈ x :: l, z ∈ D) (hy : y ≠ x) : y ∉ x :: l := fun hm => by
  rcases List.mem_cons.mp hm with e | hm
  · exact hy e
  · obtain ⟨u, v, rfl⟩ := List.append_of_mem hm
    obtain ⟨h1, h2⟩ := ch_app.mp h
    obtain ⟨a, ha, ea⟩ := ch_pre h1
    obtain ⟨b, hb, eb⟩ := ch_pre h2
    have e : x :: (u ++ y :: v) = (x :: u) ++ (y :: v) := rfl
    rw [e] at nd sub
    have ab := inj a (sub a (List.mem_append_left _ ha)) b (sub b (List.mem_append_right _ hb)) (ea.trans eb.symm)
    exact (List.nodup_append.mp nd).2.2 a ha b hb ab
def Closed (D : List Int) (f : Int → Int) (F : List Int) : Prop := ∀ z ∈ D, f z ∈ F → z ∈ F
theorem ch_off {D : List Int} {f : Int → Int} {F : List Int} (cl : Closed D f F) : ∀ {l : List Int} {x y : Int}, Ch f x l y → (∀ z ∈ x :: l, z ∈ D) → x ∉ F → (∀ z ∈ x :: l, z ∉ F) ∧ y ∉ F
  | [], x, y, h, sub, hx => by
    have h' : f x = y := h
    refine ⟨fun z hz => by rw [List.mem_singleton.mp hz]; exact hx, fun hy => hx (cl x (sub x List.mem_cons_self) (by rw [h']; exact hy))⟩
  | b :: l, x, y, h, sub, hx => by
    have hb : b ∉ F := fun q => hx (cl x (sub x List.mem_cons_self) (by rw [h.1]; exact q))
    obtain ⟨h1, h2⟩ := ch_off cl h.2 (fun z hz => sub z (List.mem_cons_of_mem _ hz)) hb
    refine ⟨fun z hz => ?_, h2⟩
    rcases List.mem_cons.mp hz with rfl | hz
    · exact hx
    · exact h1 z hz
structure Part (D : List Int) (f : Int → Int) (C : List (List Int)) : Prop where
  cyc : ∀ c ∈ C, Cyc f c
  nd : C.flatten.Nodup
  sub : ∀ z ∈ C.flatten, z ∈ D
theorem Part.nil (D : List Int) (f : Int → Int) : Part D f [] := ⟨fun _ h => absurd h (by simp), List.Pairwise.nil, fun _ h => absurd h (by simp)⟩
theorem Part.closed {D : List Int} {f : Int → Int} {C : List (List Int)} (h : Part D f C) (inj : Inj D f) : Closed D f C.flatten := fun z hz hf => by
  obtain ⟨c, hc, hy⟩ := List.mem_flatten.mp hf
  obtain ⟨m, t, e⟩ := cyc_turn (h.cyc c hc) hy
  obtain ⟨a, ha, ea⟩ := ch_pre e
  have hac : a ∈ c := (turn_perm t).mem_iff.mpr ha
  have : a = z := inj a (h.sub a (List.mem_flatten.mpr ⟨c, hc, hac⟩)) z hz ea
  subst this
  exact List.mem_flatten.mpr ⟨c, hc, hac⟩
theorem flatten_snoc (C : List (List Int)) (c : List Int) : (C ++ [c]).flatten = C.flatten ++ c := by
  rw [List.flatten_append, List.flatten_cons, List.flatten_nil, List.append_nil]
theorem Part.add {D : List Int} {f : Int → Int} {C : List (List Int)} (h : Part D f C) (inj : Inj D f) {x : Int} {l : List Int} (hx : x ∉ C.flatten) (hl : Ch f x l x) (nd : (x :: l).Nodup) (sub : ∀ z ∈ x :: l, z ∈ D) : Part D f (C ++ [x :: l]) := by
  obtain ⟨off, _⟩ := ch_off (h.closed inj) hl sub hx
  refine ⟨fun c hc => ?_, ?_, fun z hz => ?_⟩
  · rcases List.mem_append.mp hc with hc | hc
    · exact h.cyc c hc
    · rw [List.mem_singleton.mp hc]
      exact ⟨x, l, rfl, hl⟩
  · rw [flatten_snoc]
    refine List.nodup_append.mpr ⟨h.nd, nd, fun a ha b hb e => off b hb (e ▸ ha)⟩
  · rw [flatten_snoc] at hz
    rcases List.mem_append.mp hz with hz | hz
    · exact h.sub z hz
    · exact sub z hz
theorem Part.done {D : List Int} {f : Int → Int} {C : List (List Int)} (h : Part D f C) (nd : D.Nodup) (all : ∀ z ∈ D, z ∈ C.flatten) : Cycles D f C :=
  ⟨(List.perm_ext_iff_of_nodup h.nd nd).mpr fun z => ⟨h.sub z, all z⟩, h.cyc⟩
theorem ch_both {f g : Int → Int} {y : Int} : ∀ {l : List Int} {x : Int}, Ch f x l y → Ch g x l y → ∀ z ∈ x :: l, f z = g z
  | [], x, h, k, z, hz => by
    rw [List.mem_singleton.mp hz]
    exact Eq.trans (show f x = y from h) (Eq.symm (show g x = y from k))
  | b :: l, x, h, k, z, hz => by
    rcases List.mem_cons.mp hz with rfl | hz
    · exact h.1.trans k.1.symm
    · exact ch_both h.2 k.2 z hz
end Cy
namespace Tt
open Cy
theorem mate_row {row : List Int} {n : Nat} (pm : row.Perm (rgI (2 * n))) {e : Int} (h : e ∈ row) : Wd.mate e ∈ row := by
  have h1 := (perm_mem pm).mp h
  refine (perm_mem pm).mpr ?_
  have := Wd.mate_range (n := (n : Int)) h1.1 (by omega)
  omega
theorem row_ne {row : List Int} {n : Nat} (pm : row.Perm (rgI (2 * n))) (n1 : 1 ≤ n) : row ≠ [] := fun z => by
  have := perm_len pm
  rw [z] at this
  simp at this
  omega
theorem nx_mem {row : List Int} {n : Nat} (pm : row.Perm (rgI (2 * n))) (n1 : 1 ≤ n) (e : Int) : nx row e ∈ row := nxt_mem (row_ne pm n1)
theorem nx_inj {row : List Int} {n : Nat} (pm : row.Perm (rgI (2 * n))) : Inj row (nx row) := fun a ha b hb e => by
  have h := nxt_inj (row_nodup pm) (mate_row pm ha) (mate_row pm hb) e
  have := congrArg Wd.mate h
  rw [Wd.mate_mate, Wd.mate_mate] at this
  exact this
theorem nxt_turn {row row2 : List Int} (nd : row.Nodup) (hne : row ≠ []) (t : Wd.Turn row row2) {e : Int} (he : e ∈ row) : nxt row2 e = nxt row e := by
  have h1 := cyc_of_turn ((row_cycles nd hne).cyc row List.mem_cons_self) t
  have p := Cy.turn_perm t
  have nd2 := p.nodup_iff.mp nd
  have hne2 : row2 ≠ [] := fun z => hne (by rw [z] at p; exact p.eq_nil)
  have h2 := (row_cycles nd2 hne2).cyc row2 List.mem_cons_self
  have he2 := p.mem_iff.mp he
  obtain ⟨x, l, e1, k1⟩ := h1
  obtain ⟨y, m, e2, k2⟩ := h2
  rw [e1] at e2
  cases e2
  rw [e1] at he2
  exact (ch_both k1 k2 e he2).symm
theorem nx_turn {row row2 : List Int} {n : Nat} (pm : row.Perm (rgI (2 * n))) (n1 : 1 ≤ n) (t : Wd.Turn row row2) {e : Int} (he : e ∈ row) : nx row2 e = nx row e :=
  nxt_turn (row_nodup pm) (row_ne pm n1) t (mate_row pm he)
def eAt (row : List Int) (s : Nat) : Int := row.getD ((s + 1) % row.length) 0
theorem eAt_idx (row : List Int) (e : Int) : eAt row (row.idxOf e) = nxt row e := rfl
theorem eAt_get {row : List Int} (hne : row ≠ []) (s : Nat) : row[(s + 1) % row.length]? = some (eAt row s) := by
  have hl : (s + 1) % row.length < row.length := Nat.mod_lt _ (List.length_pos_iff.mpr hne)
  unfold eAt
  rw [List.getD_eq_getElem?_getD, List.getElem?_eq_getElem hl]
  rfl
theorem eAt_mem {row : List Int} (hne : row ≠ []) (s : Nat) : eAt row s ∈ row := List.mem_of_getElem? (eAt_get hne s)
theorem eAt_inj {row : List Int} (nd : row.Nodup) {a b : Nat} (ha : a < row.length) (hb : b < row.length) (h : eAt row a = eAt row b) : a = b := by
  have hne : row ≠ [] := fun z => by rw [z] at ha; exact absurd ha (by simp)
  have e1 := eAt_get hne a
  have e2 := eAt_get hne b
  rw [h] at e1
  have hi := (List.getElem?_inj (List.getElem?_eq_some_iff.mp e1).1 nd).mp (e1.trans e2.symm)
  by_cases c1 : a + 1 < row.length <;> by_cases c2 : b + 1 < row.length
  · rw [Nat.mod_eq_of_lt c1, Nat.mod_eq_of_lt c2] at hi
    omega
  · have z : b + 1 = row.length := by omega
    rw [Nat.mod_eq_of_lt c1, z, Nat.mod_self] at hi
    omega
  · have z : a + 1 = row.length := by omega
    rw [Nat.mod_eq_of_lt c2, z, Nat.mod_self] at hi
    omega
  · omega
theorem eAt_onto {row : List Int} (nd : row.Nodup) {e : Int} (he : e ∈ row) : ∃ s, s < row.length ∧ eAt row s = e := by
  have hne : row ≠ [] := fun z => by rw [z] at he; exact absurd he (by simp)
  have l0 := List.length_pos_iff.mpr hne
  have hl : row.idxOf e < row.length := List.idxOf_lt_length_of_mem he
  have h1 := (idx_at he).1
  by_cases c : row.idxOf e = 0
  · refine ⟨row.length - 1, by omega, ?_⟩
    have h2 := eAt_get hne (row.length - 1)
    have z : row.length - 1 + 1 = row.length := by omega
    rw [z, Nat.mod_self, ← c, h1] at h2
    exact (Option.some.inj h2).symm
  · refine ⟨row.idxOf e - 1, by omega, ?_⟩
    have h2 := eAt_get hne (row.idxOf e - 1)
    have z : row.idxOf e - 1 + 1 = row.idxOf e := by omega
    rw [z, Nat.mod_eq_of_lt hl, h1] at h2
    exact (Option.some.inj h2).symm
theorem sorted_eq {A B : List (List Int)} (p : A.Perm B) (h1 : A.Pairwise (· ≤ ·)) (h2 : B.Pairwise (· ≤ ·)) : A = B :=
  List.Perm.eq_of_pairwise (le := fun a b : List Int => a ≤ b) (fun a b _ _ x y => List.le_antisymm x y) h1 h2 p
end Tt
set_option maxRecDepth 100000
set_option maxHeartbeats 4000000
namespace Tt
open PySem L2
open LamX (ExtN)
section
variable {P : Program} {w : World} {K : PySem.W.Frag} {mg : Str → Option Value} {base : Heap}
theorem call_isAK {X : Cx} (h : X.K = K) : CallR X (.builtin "isinstance") (rIsA K) := by subst h; exact call_isA
theorem kit_self (S : String) : PySem.W.kitOne K (.type S) (.type S) = some true := by
  unfold PySem.W.kitOne
  rw [if_pos (by simp)]
def spExN (T : Txt K mg) : Sp := fun vs H Q _ => ∃ (a : Addr) (v : V), vs = [.ref a, v] ∧ H a = some (exo a T.BadNumber.C none) ∧
  ∀ dx, H dx = none → dx ≠ a → Q .non (upd (upd H dx (exd dx [("part", v)])) a (exo a T.BadNumber.C (some dx)))
theorem ok_BadNumber_init (T : Txt K mg) : FnOk P w K mg base CX0 1 T.BadNumber.fI T.BadNumber.fd ["self", "part"] (spExN T) := by
  refine T.BadNumber.F.ok sc_BadNumber_init (fun vs H Q E h => ?_) (fun cdv A outer s H vs Q E hr h => ?_)
  · obtain ⟨a, v, rfl, _⟩ := h
    rfl
  · obtain ⟨a, v, rfl, ha, k⟩ := h
    refine ⟨_, (pss_one (ps_ost (pv 0) (pv 1))), ?_⟩
    exact ⟨v, rfl, _, rfl, a, T.BadNumber.C, rfl, T.BadNumber.o, T.BadNumber.n, .inl ⟨ha, fun dx n ne => k dx n ne⟩⟩
def NumErr (T : Txt K mg) (part : Str) (H : Hp) (E : XK) : Prop := ∀ d H', Same H H' → H' d = some (.xd [("part", .str part)]) → E (.ref T.BadNumber.C) (some d) H'
def spNumError (T : Txt K mg) : Sp := fun vs H Q _ => ∃ (a d : Addr), vs = [.ref a, .str "letters"] ∧ H a = some (exh (.ref T.BadNumber.C) (some d) a) ∧ H d = some (.xd [("part", .str "letters")]) ∧ Q (.bl true) H
theorem ok_l_number_error (T : Txt K mg) : FnOk P w K mg base CX0 1 T.l_number_error.a T.l_number_error.fd ["error", "part"] (spNumError T) := by
  refine T.l_number_error.F.ok sc_l_number_error (fun vs H Q E h => ?_) (fun cdv A outer s H vs Q E hr h => ?_)
  · obtain ⟨a, d, rfl, _⟩ := h
    rfl
  · obtain ⟨a, d, rfl, h1, h2, k⟩ := h
    refine ⟨_, (pss_one (ps_ret (pe_and (pe_callB call_isA (by rfl) T.zisinstance (by decide +kernel) (pa_cons (pv 0) (pa_cons (pe_glob (v := .ref T.BadNumber.C) rfl T.BadNumber.g rfl) pa_nil))) (pe_one (pe_cmpR op_eq (pe_callB call_showS (by rfl) T.zrepr (by decide +kernel) (pa_cons (pe_xfH (pv 0)) pa_nil)) (pe_callB call_showS (by rfl) T.zrepr (by decide +kernel) (pa_cons (pv 1) pa_nil)) (nomark _)))))), ?_⟩
    have hz : (reprText "letters").length ≤ sizeLine := by decide +kernel
    refine ⟨_, rfl, .inl ⟨a, T.BadNumber.C, some d, _, _, true, rfl, h1, .inr ⟨d, _, rfl, h2⟩, T.BadNumber.ec, .own T.BadNumber.C, T.kNN, _, rfl, iteT ?_⟩⟩
    refine ⟨_, rfl, a, T.BadNumber.C, d, _, .str "letters", rfl, h1, h2, T.BadNumber.xf, T.BadNumber.n, rfl, "letters", rfl, hz, ?_⟩
    refine ⟨_, rfl, "letters", rfl, hz, rfl, ?_⟩
    rw [show decide (V.str (reprText "letters") = V.str (reprText "letters")) = true from decide_eq_true rfl]
    exact k
theorem eqv_tups : ∀ a b : List Int, PyData.eqv (.tuple (a.map PyData.int)) (.tuple (b.map PyData.int)) = decide (a = b)
  | [], [] => rfl
  | [], _ :: _ => by simp [PyData.eqv] <;> rfl
  | _ :: _, [] => by simp [PyData.eqv] <;> rfl
  | x :: a, y :: b => by
    have h := eqv_tups a b
    simp [PyData.eqv, PyData.eqvAll] at h ⊢
    rw [h]
    rfl
theorem shapedTup (a : List Int) : SeqAt.shaped (.tuple (a.map PyData.int)) = true := shapedAll_ints a
inductive EqV (T : Txt K mg) (row : List Int) (H : Hp) : V → Bool → Prop where
  | skin {q : Addr} {row2 : List Int} (h : SkAt T H q row2) : EqV T row H (.ref q) (decide (row = row2))
  | int (i : Int) : EqV T row H (.int i) false
  | lst {q : Addr} {xs : List V} (h : SqL K H q xs) : EqV T row H (.ref q) false
  | tup {q : Addr} {xs : List V} (h : SqT K H q xs) : EqV T row H (.ref q) false
theorem EqV.y {T : Txt K mg} {row : List Int} {H : Hp} {y : V} {b : Bool} (h : EqV T row H y b) : EqY K H T.Skin.C y := by
  cases h with
  | skin h =>
    obtain ⟨dx, r, q, h1, _⟩ := h
    exact .ins h1
  | int i => exact .int i
  | lst h => exact .lst h
  | tup h => exact .tup h
def spEqS (T : Txt K mg) : Sp := fun vs H Q _ => ∃ (p : Addr) (row : List Int) (y : V) (b : Bool), vs = [.ref p, y] ∧ SkAt T H p row ∧ EqV T row H y b ∧ Q (.bl b) H
theorem ok_Skin_eq (T : Txt K mg) : FnOk P w K mg base CX0 1 T.eqM.a T.eqM.fd ["self", "other"] (spEqS T) := by
  refine T.eqM.F.ok sc_Skin_eq (fun vs H Q E h => ?_) (fun cdv A outer s H vs Q E hr h => ?_)
  · obtain ⟨p, row, y, b, rfl, _⟩ := h
    rfl
  · obtain ⟨p, row, y, b, rfl, sk, hy, k⟩ := h
    refine ⟨_, (pss_one (ps_ret (pe_and (pe_callB call_isA (by rfl) T.zisinstance (by decide +kernel) (pa_cons (pv 1) (pa_cons (pe_glob (v := .ref T.Skin.C) rfl T.Skin.g rfl) pa_nil))) (pe_one (pe_cmpR (op_eqD hr.units) (pe_fld (pv 0) rfl) (pe_fld (pv 1) rfl) (nomark _)))))), ?_⟩
    cases hy with
    | @skin q row2 h =>
      obtain ⟨t, ht, hk⟩ := (SkAt.v h).isi
      obtain ⟨dx, r, q1, a1, a2, a3⟩ := sk
      obtain ⟨dx', r', q1', b1, b2, b3⟩ := h
      refine ⟨_, rfl, .inr ⟨_, _, t, _, true, rfl, .own T.Skin.C, ht, hk, _, rfl, iteT ?_⟩⟩
      refine ⟨_, rfl, p, T.Skin.C, dx, _, _, rfl, a1, T.Skin.c, nRow T, skF_row .., _, rfl, q, T.Skin.C, dx', _, _, rfl, b1, T.Skin.c, nRow T, skF_row .., ?_⟩
      refine ⟨_, _, .tup a2.sq (dpAll_ints _ _), .tup b2.sq (dpAll_ints _ _), shapedTup _, shapedTup _, ?_⟩
      rw [eqv_tups]
      exact k
    | int i => exact ⟨_, rfl, .inr ⟨_, _, _, _, false, rfl, .own T.Skin.C, Tt.TyB.x (K := K) (H := H) (.int i), T.kSI, _, rfl, iteF k⟩⟩
    | lst h => exact ⟨_, rfl, .inr ⟨_, _, _, _, false, rfl, .own T.Skin.C, Tt.TyB.x (K := K) (H := H) (.lst h), T.kSL, _, rfl, iteF k⟩⟩
    | tup h => exact ⟨_, rfl, .inr ⟨_, _, _, _, false, rfl, .own T.Skin.C, Tt.TyB.x (K := K) (H := H) (.tup h), T.kST, _, rfl, iteF k⟩⟩
end
end Tt
set_option maxRecDepth 100000
set_option maxHeartbeats 4000000
namespace Tt
open PySem L2
section
variable {P : Program} {w : World} {K : PySem.W.Frag} {mg : Str → Option Value} {base : Heap}
theorem ixN_n {n j : Nat} (h : j < n) : ixN n (j : Int) = some j := by
  unfold ixN
  rw [if_pos (by omega), if_pos (by omega)]
  simp
theorem atI_n {xs : List V} {j : Nat} {v : V} (h : xs[j]? = some v) : atI xs (j : Int) = some v := by
  have hl := (List.getElem?_eq_some_iff.mp h).1
  unfold atI
  rw [ixN_n hl]
  exact h
theorem skF_places (r q : Addr) (n : Int) : (skF r q n).lookup ("places" : Str) = some (V.ref q) := rfl
def stp (row : List Int) (e : Int) (d : Nat) : Int := row.getD ((row.idxOf e + d) % row.length) 0
theorem stp_at {row : List Int} {e : Int} {d : Nat} (h : row ≠ []) : row[(row.idxOf e + d) % row.length]? = some (stp row e d) := by
  have hl : (row.idxOf e + d) % row.length < row.length := Nat.mod_lt _ (List.length_pos_iff.mpr h)
  unfold stp
  rw [List.getD_eq_getElem?_getD, List.getElem?_eq_getElem hl]
  rfl
def spBehind (T : Txt K mg) : Sp := fun vs H Q _ => ∃ (p : Addr) (row : List Int) (n : Nat) (e : Int) (d : Nat), vs = [.ref p, .int e, .int (d : Int)] ∧ SkAt T H p row ∧ n ≤ 6 ∧ row.Perm (rgI (2 * n)) ∧ 0 ≤ e ∧ e < 2 * n ∧ Q (.int (stp row e d)) H
theorem ok_end_behind (T : Txt K mg) : FnOk P w K mg base CX0 1 T.end_behind.a T.end_behind.fd ["skin", "end", "steps"] (spBehind T) := by
  refine T.end_behind.F.ok sc_end_behind (fun vs H Q E h => ?_) (fun cdv A outer s H vs Q E hr h => ?_)
  · obtain ⟨p, row, n, e, d, rfl, _⟩ := h
    rfl
  · obtain ⟨p, row, n, e, d, rfl, ⟨dx, r, q, a1, a2, a3⟩, n6, pm, e0, e1, k⟩ := h
    obtain ⟨j, rfl⟩ := Int.eq_ofNat_of_zero_le e0
    have hlen := perm_len pm
    have hne : row ≠ [] := fun z => by rw [z] at hlen; simp at hlen; omega
    have hj : j < row.length := by omega
    refine ⟨_, (pss_one (ps_ret (pe_ix ix_tup (pe_fld (pv 0) rfl) (pe_op op_mod (pe_op op_add (pe_ix ix_tup (pe_fld (pv 0) rfl) (pv 1) (fun _ _ => rfl)) (pv 2)) (pe_callB call_len_seq (by rfl) T.zlen (by decide +kernel) (pa_cons (pe_fld (pv 0) rfl) pa_nil))) (fun _ _ => rfl)))), ?_⟩
    refine ⟨_, rfl, p, T.Skin.C, dx, _, _, rfl, a1, T.Skin.c, nRow T, skF_row .., ?_⟩
    refine ⟨_, rfl, p, T.Skin.C, dx, _, _, rfl, a1, T.Skin.c, nPlaces T, skF_places .., _, rfl, q, _, _, _, rfl, rfl, a3.sq, atI_n (ints_get (place_at hj)), ?_⟩
    refine ⟨_, rfl, _, _, rfl, rfl, ?_⟩
    refine ⟨_, rfl, p, T.Skin.C, dx, _, _, rfl, a1, T.Skin.c, nRow T, skF_row .., r, _, rfl, .inr a2.sq, ?_⟩
    refine ⟨_, _, rfl, rfl, by rw [List.length_map]; omega, ?_⟩
    refine ⟨r, _, _, _, rfl, rfl, a2.sq, (by rw [List.length_map]; exact atI_n (j := (row.idxOf (j : Int) + d) % row.length) (v := .int (stp row (j : Int) d)) (ints_get (stp_at hne))), k⟩
def spRimFrom (T : Txt K mg) : Sp := fun vs H Q _ => ∃ (p : Addr) (row : List Int) (n : Nat) (e : Int), vs = [.ref p, .int e] ∧ SkAt T H p row ∧ 1 ≤ n ∧ n ≤ 6 ∧ row.Perm (rgI (2 * n)) ∧ e ∈ row ∧
  ∀ (l : List Int) q H', Cy.Ch (nx row) e l e → (e :: l).Nodup → (∀ z ∈ e :: l, z ∈ row) → Same H H' → H' q = some (.tup ((e :: l).map V.int)) → Q (.ref q) H'
theorem ok_rim_from (T : Txt K mg) : FnOk P w K mg base CX0 2 T.rim_from.a T.rim_from.fd ["skin", "start"] (spRimFrom T) := by
  refine T.rim_from.F.ok sc_rim_from (fun vs H Q E h => ?_) (fun cdv A outer s H vs Q E hr h => ?_)
  · obtain ⟨p, row, n, e, rfl, _⟩ := h
    rfl
  · obtain ⟨p, row, n, e, rfl, sk, n1, n6, pm, he, k⟩ := h
    have nd := sc_rim_from.nd
    have be : ∀ z ∈ row, 0 ≤ z ∧ z < 2 * n := fun z hz => by have := (perm_mem pm).mp hz; omega
    refine ⟨_, (pss_cons (ps_set (i := 2) nd rfl (Or.inl rfl) (pe_lst (pa_cons (pv 1) pa_nil)))
    (pss_cons (ps_set (i := 3) nd rfl (Or.inl rfl) (pe_call (ok_end_behind T) (hr.mono (by decide)) (by rfl) T.end_behind.g T.end_behind.k T.end_behind.b .nil pass0 (pa_cons (pv 0) (pa_cons (pe_op op_xor (pv 1) pe_int) (pa_cons pe_int pa_nil)))))
    (pss_cons (ps_while PassesOwn.never (pt_cmpR op_ne (pv 3) (pv 1) (nomark _))
      (pss_cons (ps_expr (pe_bm PySem.F.plainAttrs_list PySem.F.slot_list_append PySem.F.type_list_append mt_append (pv 2) (pa_cons (pv 3) pa_nil)))
      (pss_one (ps_set (i := 3) nd rfl (Or.inl rfl) (pe_call (ok_end_behind T) (hr.mono (by decide)) (by rfl) T.end_behind.g T.end_behind.k T.end_behind.b .nil pass0 (pa_cons (pv 0) (pa_cons (pe_op op_xor (pv 3) pe_int) (pa_cons pe_int pa_nil))))))))
    (pss_one (ps_ret (pe_callTy call_tuple_of (by rfl) T.ztuple (by decide +kernel) (pa_cons (pv 2) pa_nil))))))), ?_⟩
    have xm : ∀ z ∈ row, Builtin.bitXor z 1 = Wd.mate z := fun z hz => xor_mate (be z hz).1 (by have := (be z hz).2; omega)
    have en : ∀ z ∈ row, stp row (Builtin.bitXor z 1) 1 = nx row z := fun z hz => by rw [xm z hz]; rfl
    have bm : ∀ z ∈ row, 0 ≤ Builtin.bitXor z 1 ∧ Builtin.bitXor z 1 < 2 * n := fun z hz => by
      rw [xm z hz]
      exact be _ (mate_row pm hz)
    have inj := nx_inj pm
    have hlen := perm_len pm
    refine ⟨_, rfl, (by show 1 ≤ sizeLine; decide), fun f hf => ?_⟩
    have s1 : Same H (upd H f (.lst [.int e])) := same_new hf
    have e1 : (upd H f (.lst [.int e])) f = some (.lst ([e].map V.int)) := upd_same
    generalize upd H f (.lst [.int e]) = H1 at s1 e1
    refine ⟨_, rfl, _, rfl, _, _, rfl, rfl, p, row, n, _, 1, rfl, sk.same s1, n6, pm, (bm e he).1, (bm e he).2, ?_⟩
    rw [en e he]
    have fnd : ∀ (l : List Int) (y : Int) (H2 : Hp), Same H H2 → (∀ b o, H b = some o → b ≠ f) := fun _ _ _ _ b o hb => ne_of_none hb hf
    refine while_by3 (fun σ H' => ∃ (l : List Int) (y : Int), σ = [some (.ref p), some (.int e), some (.ref f), some (.int y)] ∧ H' f = some (.lst ((e :: l).map V.int)) ∧ Same H H' ∧ Cy.Ch (nx row) e l y ∧ (e :: l).Nodup ∧ (∀ z ∈ e :: l, z ∈ row)) (lenAt 2)
      ⟨[], nx row e, rfl, e1, s1, rfl, List.pairwise_singleton _ _, fun z hz => by rw [List.mem_singleton.mp hz]; exact he⟩ ?_
    rintro σ H' ⟨l, y, rfl, e2, s2, hch, hnd, hsub⟩
    have hy : y ∈ row := by
      obtain ⟨a, _, ea⟩ := Cy.ch_pre hch
      rw [← ea]
      exact nx_mem pm n1 a
    have hz : (e :: l).length ≤ 12 := by
      have := hnd.length_le_of_subset (l₂ := row) hsub
      omega
    refine ⟨_, rfl, _, rfl, rfl, _, rfl, ite2 (fun c => ?_) (fun c => ?_)⟩
    · have hne : y ≠ e := by
        have c' : (!decide (V.int y = V.int e)) = true := c
        simpa using c'
      have fr := Cy.ch_fresh inj hch hnd hsub hne
      refine ⟨fun σ' H'' => lenAt 2 σ' H'' < _ ∧ _, fun σ' H'' h => ⟨_, h.1, rfl, h.2⟩, ?_⟩
      refine ⟨_, rfl, .inl ⟨rfl, _, SqL.of e2⟩, _, rfl, f, _, _, rfl, rfl, e2, by rw [List.length_map]; exact small1000 (by omega), ?_⟩
      have s3 : Same H (upd H' f (.lst ((e :: l).map V.int ++ [V.int y]))) := fun b o hb => by
        rw [upd_ne (ne_of_none hb hf)]
        exact s2 b o hb
      have e3 : (upd H' f (.lst ((e :: l).map V.int ++ [V.int y]))) f = some (.lst ((e :: (l ++ [y])).map V.int)) := by
        rw [upd_same, ← List.cons_append, List.map_append]
        rfl
      generalize upd H' f (.lst ((e :: l).map V.int ++ [V.int y])) = H3 at s3 e3
      refine ⟨_, rfl, _, rfl, _, _, rfl, rfl, p, row, n, _, 1, rfl, sk.same s3, n6, pm, (bm y hy).1, (bm y hy).2, ?_⟩
      rw [en y hy]
      refine ⟨?_, l ++ [y], nx row y, rfl, e3, s3, Cy.ch_snoc hch rfl, ?_, fun z hz => ?_⟩
      · rw [lenAt_of (i := 2) (f := f) rfl e3, lenAt_of (i := 2) (f := f) rfl e2]
        simp only [List.length_map, List.length_cons, List.length_append, List.length_nil] at hz ⊢
        omega
      · rw [← List.cons_append]
        refine List.nodup_append.mpr ⟨hnd, List.pairwise_singleton _ _, fun a ha b hb => ?_⟩
        rw [List.mem_singleton.mp hb]
        exact fun q => fr (q ▸ ha)
      · rw [← List.cons_append] at hz
        rcases List.mem_append.mp hz with hz | hz
        · exact hsub z hz
        · rw [List.mem_singleton.mp hz]
          exact hy
    · have he2 : y = e := by
        have c' : ¬ (!decide (V.int y = V.int e)) = true := c
        simpa using c'
      subst he2
      refine ⟨_, rfl, f, _, rfl, .inl ⟨SqL.of e2, fun t ht => ?_⟩⟩
      exact k l t _ hch hnd hsub (s2.trans (same_new ht)) upd_same
end
end Tt
set_option maxRecDepth 100000
set_option maxHeartbeats 4000000
namespace Tt
open PySem L2
section
variable {P : Program} {w : World} {K : PySem.W.Frag} {mg : Str → Option Value} {base : Heap}
theorem inV_ints (z : Int) (ns : List Int) : inV (.int z) (ns.map V.int) = decide (z ∈ ns) := by
  unfold inV
  rw [List.any_map]
  induction ns with
  | nil => rfl
  | cons a ns ih =>
    rw [List.any_cons, ih]
    show ((a == z) || decide (z ∈ ns)) = _
    by_cases h : a = z
    · subst h
      simp
    · have h2 : (a == z) = false := by simpa using h
      rw [h2, Bool.false_or]
      have h3 : ¬ z = a := fun e => h e.symm
      simp [h3]
def RowsAt (K : PySem.W.Frag) (H : Hp) (q : Addr) (bs : List (Addr × List Int)) : Prop := H q = some (.lst (bs.map fun b => V.ref b.1)) ∧ ∀ b ∈ bs, SqT K H b.1 (b.2.map V.int)
def RimsOf (row : List Int) (R : List (List Int)) : Prop := ∃ C, Cy.Cycles row (nx row) C ∧ R.Perm (C.map leastT) ∧ R.Pairwise (· ≤ ·)
def spRims (T : Txt K mg) : Sp := fun vs H Q E => ∃ (v : V), vs = [v] ∧ ((SkV T H v false ∧ SkErr T H E) ∨ ∃ (p : Addr) (row : List Int) (n : Nat), v = .ref p ∧ SkAt T H p row ∧ 1 ≤ n ∧ n ≤ 6 ∧ row.Perm (rgI (2 * n)) ∧
  ∀ (bs : List (Addr × List Int)) q H', RimsOf row (bs.map (·.2)) → Same H H' → H q = none → RowsAt K H' q bs → Q (.ref q) H')
theorem ok_rims (T : Txt K mg) : FnOk P w K mg base (L2.CX P w) 4 T.rims.a T.rims.fd ["skin"] (spRims T) := by
  refine T.rims.F.okX sc_rims (fun vs H Q E h => ?_) (fun cdv A outer s H vs Q E hr h => ?_)
  · obtain ⟨v, rfl, _⟩ := h
    rfl
  · obtain ⟨v, rfl, h⟩ := h
    have nd := sc_rims.nd
    have hu := hu_of hr
    refine ⟨_, (pss_cons (ps_expr (pe_callS (ok_check_skin T) (hr.mono (by decide)) (by rfl) T.check_skin.g T.check_skin.k T.check_skin.b (fun σ => passAt (takes_of rfl rfl rfl rfl) σ) (pa_cons (pv 0) pa_nil)))
    (pss_cons (ps_set (i := 1) nd rfl (Or.inl rfl) (pe_lst pa_nil))
    (pss_cons (ps_set (i := 2) nd rfl (Or.inl rfl) (pe_callTy call_list_of (by rfl) T.zlist (by decide +kernel) (pa_cons (pe_fld (pv 0) rfl) pa_nil)))
    (pss_cons (ps_while (passes_of rfl) (pt_truth (pv 2) (fun _ => rfl))
      (pss_cons (ps_set (i := 3) nd rfl (Or.inr rfl) (pe_call (ok_rim_from T) (hr.mono (by decide)) (by rfl) T.rim_from.g T.rim_from.k T.rim_from.b .nil pass0 (pa_cons (pv 0) (pa_cons (pe_ix ix_list (pv 2) pe_int (fun _ _ => rfl)) pa_nil))))
      (pss_cons (ps_expr (pe_bm PySem.F.plainAttrs_list PySem.F.slot_list_append PySem.F.type_list_append mt_append (pv 1) (pa_cons (pe_call (ok_least_turn T) (hr.mono (by decide)) (by rfl) T.least_turn.g T.least_turn.k T.least_turn.b .nil pass0 (pa_cons (pv 3) pa_nil)) pa_nil)))
      (pss_one (ps_setLc (i := 2) (own := [("end", 4)]) (g := gName 4) rfl nd rfl rfl (sw_true rfl rfl rfl (by decide +kernel)) (pi_list (pv 2)) (blkOk_by (own := [("end", 4)]) (N := N_rims) (sc := defScope s_rims) (by decide +kernel)) (fun _ _ _ _ _ => pg_name (i := 4) nd rfl (Or.inl rfl)) (fun _ _ _ _ _ => pts_one (pt_cmpR (op_notIn_seqK (K := K) rfl) (pv 4) (pv 3) rfl)) (fun _ _ _ _ _ => (pv 4)))))))
    (pss_one (ps_ret (pe_callB (cr_sortedT hr.units) (by rfl) T.zsorted (by decide +kernel) (pa_cons (pv 1) pa_nil)))))))), ?_⟩
    rcases h with ⟨hv, he⟩ | ⟨p, row, n, rfl, sk, n1, n6, pm, k⟩
    · exact ⟨v, rfl, v, false, rfl, hv, (fun z => nomatch z), fun _ => he⟩
    · refine ⟨_, rfl, _, true, rfl, sk.v, (fun _ => ?_), fun z => nomatch z⟩
      refine ⟨(by show 0 ≤ sizeLine; decide), fun f hf => ?_⟩
      have s1 : Same H (upd H f (.lst [])) := same_new hf
      have e1 : (upd H f (.lst [])) f = some (.lst []) := upd_same
      generalize upd H f (.lst []) = H1 at s1 e1
      obtain ⟨dx, r, q0, a1, a2, a3⟩ := id (sk.same s1)
      refine ⟨_, rfl, p, T.Skin.C, dx, _, _, rfl, a1, T.Skin.c, nRow T, skF_row .., r, _, rfl, .inr a2.sq, fun g hg => ?_⟩
      have s2 : Same H (upd H1 g (.lst (row.map V.int))) := s1.trans (same_new hg)
      have e2 : (upd H1 g (.lst (row.map V.int))) f = some (.lst []) := upk hg e1
      have g2 : (upd H1 g (.lst (row.map V.int))) g = some (.lst (row.map V.int)) := upd_same
      have nfg : f ≠ g := ne_of_none e1 hg
      generalize upd H1 g (.lst (row.map V.int)) = H2 at s2 e2 g2
      clear a1 a2 a3 s1 e1 hg
      have ndr := row_nodup pm
      have inj := nx_inj pm
      have hlen := perm_len pm
      dsimp only [gName, tSeq]
      refine while_by3 (fun σ H' => ∃ (g : Addr) (C : List (List Int)) (bs : List (Addr × List Int)) (v3 v4 : Option V), σ = [some (.ref p), some (.ref f), some (.ref g), v3, v4] ∧ f ≠ g ∧ H' f = some (.lst (bs.map fun b => V.ref b.1)) ∧ (∀ b ∈ bs, b.2 ≠ [] ∧ SqT K H' b.1 (b.2.map V.int)) ∧ bs.map (·.2) = C.map leastT ∧
        H' g = some (.lst ((row.filter fun z => decide (z ∉ C.flatten)).map V.int)) ∧ Cy.Part row (nx row) C ∧ Same H H') (lenOf 2)
        ⟨g, [], [], none, none, rfl, nfg, e2, (fun _ h => absurd h (by simp)), rfl, by rw [List.filter_eq_self.mpr (by simp)]; exact g2, Cy.Part.nil _ _, s2⟩ ?_
      rintro σ H' ⟨g, C, bs, v3, v4, rfl, nfg, ef, hb, em, eg, pt, sm⟩
      have hbl : bs.length ≤ 12 := by
        have h1 := congrArg List.length em
        rw [List.length_map, List.length_map] at h1
        have h2 : C.length ≤ C.flatten.length := by
          have : ∀ R : List (List Int), (∀ c ∈ R, Cy.Cyc (nx row) c) → R.length ≤ R.flatten.length := fun R => by
            induction R with
            | nil => exact fun _ => Nat.le_refl _
            | cons c R ih =>
              intro hc
              obtain ⟨x, l, rfl, _⟩ := hc c List.mem_cons_self
              have := ih fun c h => hc c (List.mem_cons_of_mem _ h)
              rw [List.flatten_cons, List.length_append, List.length_cons, List.length_cons]
              omega
          exact this C pt.cyc
        have h3 := pt.nd.length_le_of_subset (l₂ := row) pt.sub
        omega
      generalize hL : (row.filter fun z => decide (z ∉ C.flatten)) = left at eg
      refine ⟨_, rfl, !(left.map V.int).isEmpty, .inl ⟨_, SqL.of eg, rfl⟩, ?_⟩
      refine ite2 (fun c => ?_) (fun c => ?_)
      · obtain ⟨x, l0, rfl⟩ : ∃ x l0, left = x :: l0 := by
          cases left with
          | nil => simp at c
          | cons x l0 => exact ⟨x, l0, rfl⟩
        have hx : x ∈ row ∧ x ∉ C.flatten := by
          have h1 : x ∈ row.filter fun z => decide (z ∉ C.flatten) := by rw [hL]; exact List.mem_cons_self
          have h2 := List.mem_filter.mp h1
          exact ⟨h2.1, of_decide_eq_true h2.2⟩
        refine ⟨fun σ' H'' => lenOf 2 σ' H'' < _ ∧ _, fun σ' H'' h => ⟨_, h.1, rfl, h.2⟩, ?_⟩
        refine ⟨_, rfl, _, rfl, g, _, 0, V.int x, rfl, rfl, SqL.of eg, atI_nat (j := 0) rfl, p, row, n, x, rfl, sk.same sm, n1, n6, pm, hx.1, fun l q H3 hch hnd hsub s3 e3 => ?_⟩
        have ef3 := s3 _ _ ef
        have eg3 := s3 _ _ eg
        refine ⟨_, rfl, .inl ⟨rfl, _, SqL.of ef3⟩, _, rfl, q, x :: l, rfl, SqT.of e3, (by simp), (by have := hnd.length_le_of_subset (l₂ := row) hsub; omega), fun t H4 s4 ht => ?_⟩
        have ef4 := s4 _ _ ef3
        have eg4 := s4 _ _ eg3
        have e4 := s4 _ _ e3
        refine ⟨f, _, _, rfl, rfl, ef4, by rw [List.length_map]; exact small1000 (by omega), ?_⟩
        have lne : leastT (x :: l) ≠ [] := fun z => by
          have := (turn_nil (leastT_turn (ns := x :: l) (by simp))).mpr z
          exact absurd this (by simp)
        have pt2 := pt.add inj hx.2 hch hnd hsub
        have ef5 : (upd H4 f (.lst (bs.map (fun b => V.ref b.1) ++ [V.ref t]))) f = some (.lst ((bs ++ [(t, leastT (x :: l))]).map fun b => V.ref b.1)) := by
          rw [upd_same, List.map_append]
          rfl
        have eg5 : (upd H4 f (.lst (bs.map (fun b => V.ref b.1) ++ [V.ref t]))) g = some (.lst ((x :: l0).map V.int)) := by
          rw [upd_ne (fun z => nfg z.symm)]
          exact eg4
        have e5 : (upd H4 f (.lst (bs.map (fun b => V.ref b.1) ++ [V.ref t]))) q = some (.tup ((x :: l).map V.int)) := by
          rw [upd_ne (fun z => by rw [z] at e4; rw [e4] at ef4; cases ef4)]
          exact e4
        have s5 : Same H (upd H4 f (.lst (bs.map (fun b => V.ref b.1) ++ [V.ref t]))) := fun b o hb => by
          rw [upd_ne (ne_of_none hb hf)]
          exact s4 _ _ (s3 _ _ (sm _ _ hb))
        have hb5 : ∀ b ∈ bs ++ [(t, leastT (x :: l))], b.2 ≠ [] ∧ SqT K (upd H4 f (.lst (bs.map (fun b => V.ref b.1) ++ [V.ref t]))) b.1 (b.2.map V.int) := fun b hm => by
          rcases List.mem_append.mp hm with hm | hm
          · exact ⟨(hb b hm).1, sqT_put (same_seqT s4 (same_seqT s3 (hb b hm).2)) ef4⟩
          · rw [List.mem_singleton.mp hm]
            exact ⟨lne, sqT_put ht ef4⟩
        generalize upd H4 f (.lst (bs.map (fun b => V.ref b.1) ++ [V.ref t])) = H5 at ef5 eg5 e5 s5 hb5
        clear ef4 eg4 e4 ef3 eg3 e3 s4 s3 ht
        refine ⟨_, rfl, g, rfl, ⟨_, SqL.of eg5⟩, fun D1 hD1 => ?_⟩
        refine lc_list (K := K) (a := g) (xs := (x :: l0).map V.int) (fun i H' => H' D1 = some (.lst ((((x :: l0).take i).filter fun z => decide (z ∉ x :: l)).map V.int)) ∧ Same H5 H')
          ⟨upd_same, same_new hD1⟩ (fun i H' _ z => SqL.of (z.2 _ _ eg5)) ?_ ?_
        · rintro i y H' hi ⟨h1, s6⟩
          obtain ⟨z, rfl, hz⟩ := ints_at hi
          refine ⟨rfl, _, rfl, _, rfl, q, _, rfl, .inr (SqT.of (s6 _ _ e5)), rfl, flat_ints _, _, rfl, ?_⟩
          have ez : (!inV (.int z) ((x :: l).map V.int)) = decide (z ∉ x :: l) := by
            rw [inV_ints]
            simp
          have et : (x :: l0).take (i + 1) = (x :: l0).take i ++ [z] := by rw [List.take_add_one, hz]; rfl
          show if (!inV (.int z) ((x :: l).map V.int)) = true then _ else _
          rw [ez]
          by_cases hm : z ∉ x :: l
          · rw [decide_eq_true hm, if_pos rfl]
            refine ⟨_, rfl, _, h1, ?_, ?_, fun b o hb => ?_⟩
            · rw [List.length_map]
              have h3 := List.length_filter_le (fun z => decide (z ∉ x :: l)) ((x :: l0).take i)
              have h4 := List.length_take_le' i (x :: l0)
              have h5 : (x :: l0).length ≤ row.length := by rw [← hL]; exact List.length_filter_le _ _
              exact small1000 (by omega)
            · rw [upd_same, et, List.filter_append, List.map_append, List.filter_cons_of_pos (by simpa using hm)]
              rfl
            · rw [upd_ne (ne_of_none hb hD1)]
              exact s6 b o hb
          · rw [decide_eq_false hm, if_neg (by decide)]
            refine ⟨?_, s6⟩
            rw [h1, et, List.filter_append, List.filter_cons_of_neg (by simpa using hm), List.filter_nil, List.append_nil]
        · rintro H' ⟨h1, s6⟩
          have e6 : ((x :: l0).take ((x :: l0).map V.int).length) = x :: l0 := List.take_of_length_le (by rw [List.length_map]; exact Nat.le_refl _)
          rw [e6, ← hL, List.filter_filter] at h1
          have e7 : (row.filter fun z => decide (z ∉ (C ++ [x :: l]).flatten)) = row.filter fun z => decide (z ∉ x :: l) && decide (z ∉ C.flatten) := by
            refine List.filter_congr fun z _ => ?_
            by_cases u : z ∈ C.flatten <;> by_cases v : z ∈ x :: l <;> simp only [Cy.flatten_snoc, List.mem_append, u, v, true_or, or_true, or_false, false_or, not_true, not_false_eq_true, decide_true, decide_false, Bool.and_true, Bool.and_false, Bool.true_and, Bool.false_and]
          rw [← e7] at h1
          refine ⟨?_, D1, C ++ [x :: l], bs ++ [(t, leastT (x :: l))], _, _, rfl, fun z => ?_, s6 _ _ ef5, fun b hm => ⟨(hb5 b hm).1, same_seqT s6 (hb5 b hm).2⟩, ?_, h1, pt2, s5.trans s6⟩
          · rw [lenOf_of (i := 2) (f := D1) rfl h1, lenOf_of (i := 2) (f := g) rfl eg, List.length_map, List.length_map, e7, ← List.filter_filter, hL, List.filter_cons_of_neg (by simp)]
            have := List.length_filter_le (fun z => decide (z ∉ x :: l)) l0
            rw [List.length_cons]
            omega
          · rw [z] at ef5
            rw [ef5] at hD1
            cases hD1
          · rw [List.map_append, List.map_append, em]
            rfl
      · have hnil : left = [] := by
          cases left with
          | nil => rfl
          | cons x l0 => exact absurd rfl c
        subst hnil
        have all : ∀ z ∈ row, z ∈ C.flatten := fun z hz => Classical.byContradiction fun q => by
          have : z ∈ row.filter fun z => decide (z ∉ C.flatten) := List.mem_filter.mpr ⟨hz, decide_eq_true q⟩
          rw [hL] at this
          cases this
        have cy := pt.done ndr all
        refine ⟨_, rfl, f, bs, rfl, SqL.of ef, hb, fun bs' q pb pw hq => ?_⟩
        refine k bs' q _ ⟨C, cy, ?_, List.pairwise_map.mpr pw⟩ (sm.trans (same_new hq)) ?_ ⟨upd_same, fun b hm => same_seqT (same_new hq) (hb b (pb.mem_iff.mp hm)).2⟩
        · rw [← em]
          exact pb.map _
        · cases e : H q with
          | none => rfl
          | some o =>
            have := sm _ _ e
            rw [hq] at this
            cases this
end
end Tt
set_option maxRecDepth 100000
set_option maxHeartbeats 4000000
namespace Tt
open PySem L2
section
variable {P : Program} {w : World} {K : PySem.W.Frag} {mg : Str → Option Value} {base : Heap}
def spMate : Sp := fun vs H Q _ => ∃ x : Int, vs = [.int x] ∧ Q (.int (Wd.mate x)) H
theorem ok_l_mate (T : Txt K mg) : FnOk P w K mg base CX0 1 T.l_mate.a T.l_mate.fd ["end"] spMate := by
  refine T.l_mate.F.ok sc_l_mate (fun vs H Q E h => ?_) (fun cdv A outer s H vs Q E hr h => ?_)
  · obtain ⟨x, rfl, _⟩ := h
    rfl
  · obtain ⟨x, rfl, k⟩ := h
    have nd := sc_l_mate.nd
    refine ⟨_, (pss_one (ps_ret (pe_ifExp (pt_cmpR op_eq (pe_op op_mod (pe_callTy call_int1 (by rfl) T.zint (by decide +kernel) (pa_cons (pv 0) pa_nil)) pe_int) pe_int (nomark _)) (pe_op op_add (pv 0) pe_int) (pe_op op_sub (pv 0) pe_int)))), ?_⟩
    refine ⟨_, rfl, .inl ⟨_, rfl, _, _, rfl, rfl, (by show (0 : Int) < 2; decide), rfl, _, rfl, ?_⟩⟩
    refine ite2 (fun c => ?_) (fun c => ?_)
    · have c' : x % 2 = 0 := by simpa using c
      refine ⟨_, rfl, _, _, rfl, rfl, ?_⟩
      have e : Wd.mate x = x + 1 := by unfold Wd.mate; rw [if_pos c']
      rw [e] at k
      exact k
    · have c' : ¬ x % 2 = 0 := by simpa using c
      refine ⟨_, rfl, _, _, rfl, rfl, ?_⟩
      have e : Wd.mate x = x - 1 := by unfold Wd.mate; rw [if_neg c']
      rw [e] at k
      exact k
theorem ok_l_least_turn (T : Txt K mg) : FnOk P w K mg base CX0 2 T.l_least_turn.a T.l_least_turn.fd ["word_here"] (spLeast K) := by
  refine T.l_least_turn.F.ok sc_l_least_turn (fun vs H Q E h => ?_) (fun cdv A outer s H vs Q E hr h => ?_)
  · obtain ⟨p, ns, rfl, _⟩ := h
    rfl
  · obtain ⟨p, ns, rfl, hp, hne, hl, k⟩ := h
    have nd := sc_l_least_turn.nd
    refine ⟨_, (pss_one (ps_ret (pe_callB (cr_minT rfl hr.units) (by rfl) T.zmin (by decide +kernel) (pa_cons (pe_lc (own := [("at", 1)]) (g := gName 1) rfl nd (pi_range1 rfl T.zrange (pa_cons (pe_callB call_len_seq (by rfl) T.zlen (by decide +kernel) (pa_cons (pv 0) pa_nil)) pa_nil)) (blkOk_by (own := [("at", 1)]) (N := N_l_least_turn) (sc := defScope s_l_least_turn) (by decide +kernel)) (fun _ _ _ _ _ => pg_name (i := 1) nd rfl (Or.inl rfl)) (fun _ _ _ _ _ => pts_nil) (fun _ _ _ _ _ => (pe_op (op_catAK (K := K) rfl) (pe_slice (sl_tupAK (K := K) rfl) (pv 0) (po_some (pv 1)) po_none) (pe_slice (sl_tupAK (K := K) rfl) (pv 0) po_none (po_some (pv 1)))))) pa_nil)))), ?_⟩
    refine ⟨_, rfl, p, _, rfl, .inr hp, _, rfl, by omega, by rw [List.length_map]; omega, fun D1 hD1 => ?_⟩
    refine lc_range (lo := 0) (n := ((ns.map V.int).length : Int).toNat) (fun i H' => ∃ ps : List Addr, H' D1 = some (.lst (ps.map V.ref)) ∧ Paired (fun p m => SqT K H' p (m.map V.int)) ps ((turns ns).take i) ∧ Same H H')
      ⟨[], upd_same, .nil, same_new hD1⟩ ?_ ?_
    · rintro i H' hi ⟨ps, h1, h2, s2⟩
      have hi2 : i < ns.length := by rw [List.length_map] at hi; omega
      have hpl : ps.length = i := by
        have := h2.length
        rw [List.length_take, turns_len] at this
        omega
      refine ⟨rfl, yes_t ?_⟩
      refine ⟨_, rfl, _, rfl, (i : Int), by rw [Int.zero_add], noPart_i ?_⟩
      refine slT_genD (K := K) (same_seqT s2 hp) fun b1 H2 s3 hb1 => ?_
      refine ⟨_, rfl, noPart_i ⟨_, rfl, (i : Int), by rw [Int.zero_add], ?_⟩⟩
      refine slT_gen (K := K) (same_seqT (s2.trans s3) hp) fun b2 H3 s4 hb2 => ?_
      refine catA_gen (K := K) (same_seqT s4 hb1) hb2 ?_ fun c H4 s5 hc => ?_
      · rw [List.length_drop, List.length_take, List.length_map]
        exact Nat.le_of_lt (small1000 (by omega))
      have sA : Same H' H4 := (s3.trans s4).trans s5
      have h4 := sA _ _ h1
      refine ⟨_, h4, by rw [List.length_map]; exact small1000 (by omega), ps ++ [c], ?_, ?_, fun b o hb => ?_⟩
      · rw [upd_same, List.map_append]
        rfl
      · rw [List.take_add_one, turns_get hi2]
        refine pair_snoc (pair_mono (fun a m z => sqT_put (same_seqT sA z) h4) h2) ?_
        refine sqT_put ?_ h4
        have e : (turnAt ns i).map V.int = (ns.map V.int).drop i ++ (ns.map V.int).take i := by
          unfold turnAt
          rw [List.map_append, List.map_drop, List.map_take]
        rw [e]
        exact hc
      · rw [upd_ne (ne_of_none hb hD1)]
        exact sA _ _ (s2 _ _ hb)
    · rintro H' ⟨ps, h1, h2, s2⟩
      have e : (turns ns).take ((ns.map V.int).length : Int).toNat = turns ns := List.take_of_length_le (by rw [turns_len, List.length_map]; omega)
      rw [e] at h2
      have hl2 := turns_len ns
      cases ht : turns ns with
      | nil =>
        rw [ht] at hl2
        exact absurd (List.length_eq_zero_iff.mp hl2.symm) hne
      | cons r0 rs =>
        rw [ht] at h2
        refine ⟨D1, ps, r0, rs, rfl, SqL.of h1, h2, fun i q hq hm => k q H' s2 ?_⟩
        have hi : i < (r0 :: rs).length := by
          rw [← h2.length]
          exact (List.getElem?_eq_some_iff.mp hq).1
        have em := hm _ (List.getElem?_eq_getElem hi)
        rw [minR_D] at em
        have e2 := rowD_inj em
        have e3 := pair_at h2 hq (List.getElem?_eq_getElem hi)
        rw [e2] at e3
        have e4 : leastT ns = minR r0 rs := by
          unfold leastT
          rw [ht]
        rw [e4]
        exact e3
end
end Tt
set_option maxRecDepth 100000
set_option maxHeartbeats 4000000
namespace Tt
open PySem L2
section
variable {P : Program} {w : World} {K : PySem.W.Frag} {mg : Str → Option Value} {base : Heap}
def leftOf (row F : List Int) : List Int := (rgI row.length).filter fun z => decide (eAt row z.toNat ∉ F)
theorem rgI_mem {n : Nat} {x : Int} : x ∈ rgI n ↔ ∃ s : Nat, s < n ∧ x = (s : Int) := by
  unfold rgI
  rw [List.mem_map]
  constructor
  · rintro ⟨a, ha, rfl⟩
    exact ⟨a, List.mem_range.mp ha, rfl⟩
  · rintro ⟨s, hs, rfl⟩
    exact ⟨s, List.mem_range.mpr hs, rfl⟩
theorem rgI_nodup (n : Nat) : (rgI n).Nodup := row_nodup (List.Perm.refl (rgI n))
theorem leftOf_mem {row F : List Int} {s : Nat} (hs : s < row.length) : (s : Int) ∈ leftOf row F ↔ eAt row s ∉ F := by
  unfold leftOf
  rw [List.mem_filter]
  constructor
  · rintro ⟨_, h⟩
    simpa using h
  · intro h
    exact ⟨rgI_mem.mpr ⟨s, hs, rfl⟩, by simpa using h⟩
theorem leftOf_sub {row F : List Int} {z : Int} (h : z ∈ leftOf row F) : ∃ s : Nat, s < row.length ∧ z = (s : Int) ∧ eAt row s ∉ F := by
  unfold leftOf at h
  obtain ⟨h1, h2⟩ := List.mem_filter.mp h
  obtain ⟨s, hs, rfl⟩ := rgI_mem.mp h1
  exact ⟨s, hs, rfl, by simpa using h2⟩
theorem leftOf_nodup (row F : List Int) : (leftOf row F).Nodup := (rgI_nodup _).filter _
theorem leftOf_take {row F : List Int} (nd : row.Nodup) {s : Nat} (hs : s < row.length) : (leftOf row F).erase (s : Int) = leftOf row (F ++ [eAt row s]) := by
  rw [(leftOf_nodup row F).erase_eq_filter]
  unfold leftOf
  rw [List.filter_filter]
  refine List.filter_congr fun z hz => ?_
  obtain ⟨t, ht, rfl⟩ := rgI_mem.mp hz
  show ((t : Int) != (s : Int) && decide (eAt row t ∉ F)) = decide (eAt row t ∉ F ++ [eAt row s])
  by_cases e : t = s
  · subst e
    simp
  · have e2 : eAt row t ≠ eAt row s := fun q => e (eAt_inj nd ht hs q)
    have e3 : ((t : Int) != (s : Int)) = true := by simpa using fun q : (t : Int) = (s : Int) => e (by omega)
    rw [e3, Bool.true_and]
    simp [e2]
theorem leftOf_nil {row F : List Int} (nd : row.Nodup) (h : leftOf row F = []) : ∀ z ∈ row, z ∈ F := fun z hz => Classical.byContradiction fun q => by
  obtain ⟨s, hs, e⟩ := eAt_onto nd hz
  have := (leftOf_mem (F := F) hs).mpr (by rw [e]; exact q)
  rw [h] at this
  cases this
def Pth (row : List Int) (x : Int) (W : List Int) (y : Int) : Prop := (W = [] ∧ y = x) ∨ ∃ l, W = x :: l ∧ Cy.Ch (nx row) x l y ∧ (x :: l).Nodup ∧ ∀ z ∈ x :: l, z ∈ row
theorem Pth.len {row : List Int} {x y : Int} {W : List Int} (h : Pth row x W y) : W.length ≤ row.length := by
  rcases h with ⟨rfl, _⟩ | ⟨l, rfl, _, nd, sub⟩
  · exact Nat.zero_le _
  · exact nd.length_le_of_subset sub
section
variable {row : List Int} {n : Nat} {C : List (List Int)} {x y : Int} {W : List Int}
theorem Pth.mem (pm : row.Perm (rgI (2 * n))) (n1 : 1 ≤ n) (hx : x ∈ row) (h : Pth row x W y) : y ∈ row := by
  rcases h with ⟨_, rfl⟩ | ⟨l, _, ch, _, _⟩
  · exact hx
  · obtain ⟨a, _, ea⟩ := Cy.ch_pre ch
    rw [← ea]
    exact nx_mem pm n1 a
theorem Pth.test (pm : row.Perm (rgI (2 * n))) (pt : Cy.Part row (nx row) C) (hx : x ∉ C.flatten) (h : Pth row x W y) :
    (y ∉ C.flatten ++ W ∧ (W ≠ [] → y ≠ x)) ∨ (y ∈ C.flatten ++ W ∧ y = x ∧ ∃ l, W = x :: l ∧ Cy.Ch (nx row) x l x ∧ (x :: l).Nodup ∧ ∀ z ∈ x :: l, z ∈ row) := by
  have inj := nx_inj pm
  rcases h with ⟨rfl, rfl⟩ | ⟨l, rfl, ch, nd, sub⟩
  · exact .inl ⟨by simpa using hx, fun z => absurd rfl z⟩
  · by_cases e : y = x
    · subst e
      exact .inr ⟨List.mem_append_right _ List.mem_cons_self, rfl, l, rfl, ch, nd, sub⟩
    · have off := (Cy.ch_off (pt.closed inj) ch sub hx).2
      have fr := Cy.ch_fresh inj ch nd sub e
      refine .inl ⟨fun z => ?_, fun _ => e⟩
      rcases List.mem_append.mp z with z | z
      · exact off z
      · exact fr z
theorem Pth.next (hy : y ∈ row) (h : Pth row x W y) (hn : y ∉ W) : Pth row x (W ++ [y]) (nx row y) := by
  rcases h with ⟨rfl, rfl⟩ | ⟨l, rfl, ch, nd, sub⟩
  · exact .inr ⟨[], rfl, rfl, List.pairwise_singleton _ _, fun z hz => by rw [List.mem_singleton.mp hz]; exact hy⟩
  · refine .inr ⟨l ++ [y], rfl, Cy.ch_snoc ch rfl, ?_, fun z hz => ?_⟩
    · rw [← List.cons_append]
      refine List.nodup_append.mpr ⟨nd, List.pairwise_singleton _ _, fun a ha b hb => ?_⟩
      rw [List.mem_singleton.mp hb]
      exact fun q => hn (q ▸ ha)
    · rw [← List.cons_append] at hz
      rcases List.mem_append.mp hz with hz | hz
      · exact sub z hz
      · rw [List.mem_singleton.mp hz]
        exact hy
end
def spLRims (K : PySem.W.Frag) : Sp := fun vs H Q _ => ∃ (p : Addr) (row : List Int) (n : Nat), vs = [.ref p] ∧ SqT K H p (row.map V.int) ∧ 1 ≤ n ∧ n ≤ 6 ∧ row.Perm (rgI (2 * n)) ∧
  ∀ (bs : List (Addr × List Int)) q H', RimsOf row (bs.map (·.2)) → Same H H' → H q = none → RowsAt K H' q bs → Q (.ref q) H'
theorem ok_l_rims (T : Txt K mg) : FnOk P w K mg base CX0 3 T.l_rims.a T.l_rims.fd ["line"] (spLRims K) := by
  refine T.l_rims.F.ok sc_l_rims (fun vs H Q E h => ?_) (fun cdv A outer s H vs Q E hr h => ?_)
  · obtain ⟨p, row, n, rfl, _⟩ := h
    rfl
  · obtain ⟨p, row, n, rfl, hp, n1, n6, pm, k⟩ := h
    have nd := sc_l_rims.nd
    have hu := hu_of hr
    have lm : (row.map V.int).length = row.length := List.length_map ..
    have hlen := perm_len pm
    refine ⟨_, (pss_cons (ps_par3 (i := 1) (j := 2) (l := 3) rfl nd rfl rfl rfl (by decide) (by decide) (by decide) rfl rfl rfl (pa_cons (pe_callB call_len_seq (by rfl) T.zlen (by decide +kernel) (pa_cons (pv 0) pa_nil)) (pa_cons (pe_listRg rfl (by rfl) T.zlist (prg_1 (by rfl) T.zrange (pe_callB call_len_seq (by rfl) T.zlen (by decide +kernel) (pa_cons (pv 0) pa_nil)))) (pa_cons (pe_lst pa_nil) pa_nil))) rfl)
    (pss_cons (ps_while PassesOwn.never (pt_cmpR (op_neD hr.units) (pv 2) (pe_lst pa_nil) (nomark _))
      (pss_cons (ps_par (i := 4) (j := 5) rfl nd rfl rfl (by decide) rfl rfl (pa_cons (pe_ix ix_list (pv 2) pe_int (fun _ _ => rfl)) (pa_cons (pe_lst pa_nil) pa_nil)) rfl)
      (pss_cons (ps_while PassesOwn.never (pt_cmpR op_in_seq (pv 4) (pv 2) rfl)
        (pss_cons (ps_expr (pe_bm PySem.F.plainAttrs_list PySem.F.slot_list_remove PySem.F.type_list_remove mt_remove (pv 2) (pa_cons (pv 4) pa_nil)))
        (pss_cons (ps_set (i := 6) nd rfl (Or.inl rfl) (pe_ix ix_tup (pv 0) (pe_op op_mod (pe_callTy call_int1 (by rfl) T.zint (by decide +kernel) (pa_cons (pe_op op_add (pv 4) pe_int) pa_nil)) (pv 1)) (fun _ _ => rfl)))
        (pss_cons (ps_expr (pe_bm PySem.F.plainAttrs_list PySem.F.slot_list_append PySem.F.type_list_append mt_append (pv 5) (pa_cons (pv 6) pa_nil)))
        (pss_one (ps_set (i := 4) nd rfl (Or.inl rfl) (pe_bm PySem.F.plainAttrs_list PySem.F.slot_list_index PySem.F.type_list_index mt_index (pe_callTy call_list_of (by rfl) T.zlist (by decide +kernel) (pa_cons (pv 0) pa_nil)) (pa_cons (pe_call (ok_l_mate T) (hr.mono (by decide)) (by rfl) T.l_mate.g T.l_mate.k T.l_mate.b .nil pass0 (pa_cons (pv 6) pa_nil)) pa_nil))))))))
      (pss_one (ps_expr (pe_bm PySem.F.plainAttrs_list PySem.F.slot_list_append PySem.F.type_list_append mt_append (pv 3) (pa_cons (pe_call (ok_l_least_turn T) (hr.mono (by decide)) (by rfl) T.l_least_turn.g T.l_least_turn.k T.l_least_turn.b .nil pass0 (pa_cons (pe_callTy call_tuple_of (by rfl) T.ztuple (by decide +kernel) (pa_cons (pv 5) pa_nil)) pa_nil)) pa_nil)))))))
    (pss_one (ps_ret (pe_callB (cr_sortedT hr.units) (by rfl) T.zsorted (by decide +kernel) (pa_cons (pv 3) pa_nil)))))), ?_⟩
    refine ⟨_, rfl, p, _, rfl, .inr hp, _, rfl, p, _, rfl, .inr hp, _, rfl, RgOk.of_le (by omega) ?_ (by omega) (by omega), fun g hg => ?_⟩
    · rw [lm]
      omega
    have s1 : Same H (upd H g (.lst (rgV 0 ((row.map V.int).length : Int)))) := same_new hg
    have g1 : (upd H g (.lst (rgV 0 ((row.map V.int).length : Int)))) g = some (.lst ((leftOf row []).map V.int)) := by
      have e : leftOf row [] = rgI row.length := List.filter_eq_self.mpr (by simp)
      rw [upd_same, rgV_rgI (by omega), lm, e, Int.toNat_natCast]
    generalize upd H g (.lst (rgV 0 ((row.map V.int).length : Int))) = H1 at s1 g1
    refine ⟨(by show 0 ≤ sizeLine; decide), fun f hf1 => ?_⟩
    have hf : H f = none := by
      cases e : H f with
      | none => rfl
      | some o => rw [s1 _ _ e] at hf1; cases hf1
    have nfg : f ≠ g := fun z => by rw [z, g1] at hf1; cases hf1
    have s2 : Same H (upd H1 f (.lst [])) := s1.trans (same_new hf1)
    have e2 : (upd H1 f (.lst [])) f = some (.lst []) := upd_same
    have g2 : (upd H1 f (.lst [])) g = some (.lst ((leftOf row []).map V.int)) := upk hf1 g1
    generalize upd H1 f (.lst []) = H2 at s2 e2 g2
    clear s1 g1 hf1
    refine ⟨_, _, _, rfl, ?_⟩
    rw [lm]
    dsimp only [tSeq]
    have ndr := row_nodup pm
    have hne := row_ne pm n1
    refine while_by3 (fun σ H' => ∃ (C : List (List Int)) (bs : List (Addr × List Int)) (v4 v5 v6 : Option V), σ = [some (.ref p), some (.int (row.length : Int)), some (.ref g), some (.ref f), v4, v5, v6] ∧ H' f = some (.lst (bs.map fun b => V.ref b.1)) ∧ (∀ b ∈ bs, b.2 ≠ [] ∧ SqT K H' b.1 (b.2.map V.int)) ∧ bs.map (·.2) = C.map leastT ∧
      H' g = some (.lst ((leftOf row C.flatten).map V.int)) ∧ Cy.Part row (nx row) C ∧ Same H H') (lenOf 2)
      ⟨[], [], none, none, none, rfl, e2, (fun _ h => absurd h (by simp)), rfl, g2, Cy.Part.nil _ _, s2⟩ ?_
    rintro σ H' ⟨C, bs, v4, v5, v6, rfl, ef, hb, em, eg, pt, sm⟩
    have hbl : bs.length ≤ 12 := by
      have h1 := congrArg List.length em
      rw [List.length_map, List.length_map] at h1
      have h2 : ∀ R : List (List Int), (∀ c ∈ R, Cy.Cyc (nx row) c) → R.length ≤ R.flatten.length := fun R => by
        induction R with
        | nil => exact fun _ => Nat.le_refl _
        | cons c R ih =>
          intro hc
          obtain ⟨x, l, rfl, _⟩ := hc c List.mem_cons_self
          have := ih fun c h => hc c (List.mem_cons_of_mem _ h)
          rw [List.flatten_cons, List.length_append, List.length_cons, List.length_cons]
          omega
      have h4 := h2 C pt.cyc
      have h3 := pt.nd.length_le_of_subset (l₂ := row) pt.sub
      omega
    refine ⟨_, rfl, (by show 0 ≤ sizeLine; decide), fun e he => ?_⟩
    have nge : e ≠ g := fun z => by rw [z, eg] at he; cases he
    have nfe : e ≠ f := fun z => by rw [z, ef] at he; cases he
    have ef0 : (upd H' e (.lst [])) f = _ := upk he ef
    have eg0 : (upd H' e (.lst [])) g = _ := upk he eg
    have hb0 : ∀ b ∈ bs, b.2 ≠ [] ∧ SqT K (upd H' e (.lst [])) b.1 (b.2.map V.int) := fun b hm => ⟨(hb b hm).1, same_seqT (same_new he) (hb b hm).2⟩
    have sm0 : Same H (upd H' e (.lst [])) := sm.trans (same_new he)
    have ee : (upd H' e (.lst [])) e = some (.lst []) := upd_same
    have lo : lenOf 2 [some (.ref p), some (.int (row.length : Int)), some (.ref g), some (.ref f), v4, v5, v6] H' = (leftOf row C.flatten).length := by rw [lenOf_of (i := 2) (f := g) rfl eg, List.length_map]
    generalize upd H' e (.lst []) = H0 at ef0 eg0 hb0 sm0 ee
    refine ⟨_, _, .lst (SqL.of eg0) (dpAll_ints _ _), .lst (SqL.of ee) .nil, shapedAll_ints _, rfl, _, rfl, ?_⟩
    rw [eqv_nil]
    clear ef eg hb sm he ee nge nfe
    refine ite2 (fun c => ?_) (fun c => ?_)
    · have hnl : leftOf row C.flatten ≠ [] := by simpa using c
      obtain ⟨z0, l0, hL⟩ : ∃ z0 l0, leftOf row C.flatten = z0 :: l0 := by
        cases h : leftOf row C.flatten with
        | nil => exact absurd h hnl
        | cons a b => exact ⟨a, b, rfl⟩
      obtain ⟨s0, hs0, rfl, hx⟩ := leftOf_sub (row := row) (F := C.flatten) (z := z0) (by rw [hL]; exact List.mem_cons_self)
      have hxr := eAt_mem hne s0
      generalize hxe : eAt row s0 = x at hx hxr
      refine ⟨fun σ' H'' => lenOf 2 σ' H'' < _ ∧ _, fun σ' H'' h => ⟨_, h.1, rfl, h.2⟩, ?_⟩
      have at0 : atI ((leftOf row C.flatten).map V.int) 0 = some (V.int (s0 : Int)) := by
        rw [hL]
        exact atI_nat (j := 0) rfl
      refine ⟨_, rfl, g, _, 0, _, rfl, rfl, SqL.of eg0, at0, (by show 0 ≤ sizeLine; decide), fun h hh0 => ?_⟩
      have hh : H h = none := by
        cases e : H h with
        | none => rfl
        | some o => rw [sm0 _ _ e] at hh0; cases hh0
      have nhg : h ≠ g := fun z => by rw [z, eg0] at hh0; cases hh0
      have nhf : h ≠ f := fun z => by rw [z, ef0] at hh0; cases hh0
      have ef1 : (upd H0 h (.lst [])) f = _ := upk hh0 ef0
      have eg1 : (upd H0 h (.lst [])) g = some (.lst ((leftOf row (C.flatten ++ [])).map V.int)) := by rw [List.append_nil]; exact upk hh0 eg0
      have eh1 : (upd H0 h (.lst [])) h = some (.lst (([] : List Int).map V.int)) := upd_same
      have hb1 : ∀ b ∈ bs, b.2 ≠ [] ∧ SqT K (upd H0 h (.lst [])) b.1 (b.2.map V.int) := fun b hm => ⟨(hb0 b hm).1, same_seqT (same_new hh0) (hb0 b hm).2⟩
      have sm1 : Same H (upd H0 h (.lst [])) := sm0.trans (same_new hh0)
      generalize upd H0 h (.lst []) = H3 at ef1 eg1 eh1 hb1 sm1
      clear ef0 eg0 hb0 sm0 hh0
      refine ⟨_, _, rfl, ?_⟩
      dsimp only [tSeq]
      refine while_by3 (fun σ H' => ∃ (W : List Int) (s : Nat) (v6 : Option V), σ = [some (.ref p), some (.int (row.length : Int)), some (.ref g), some (.ref f), some (.int (s : Int)), some (.ref h), v6] ∧ s < row.length ∧ Pth row x W (eAt row s) ∧ H' f = some (.lst (bs.map fun b => V.ref b.1)) ∧ (∀ b ∈ bs, b.2 ≠ [] ∧ SqT K H' b.1 (b.2.map V.int)) ∧
        H' g = some (.lst ((leftOf row (C.flatten ++ W)).map V.int)) ∧ H' h = some (.lst (W.map V.int)) ∧ Same H H') (lenAt 5)
        ⟨[], s0, v6, rfl, hs0, .inl ⟨rfl, hxe⟩, ef1, hb1, eg1, eh1, sm1⟩ ?_
      clear ef1 eg1 eh1 hb1 sm1
      rintro σ H' ⟨W, s1, v6, rfl, hs1, hw, ef, hb, eg, eh, sm⟩
      have hyr := eAt_mem hne s1
      have hwl := hw.len
      refine ⟨_, rfl, _, rfl, g, _, rfl, .inl (SqL.of eg), rfl, flat_ints _, _, rfl, ?_⟩
      have et : inV (.int (s1 : Int)) ((leftOf row (C.flatten ++ W)).map V.int) = decide (eAt row s1 ∉ C.flatten ++ W) := by
        rw [inV_ints]
        exact decide_eq_decide.mpr (leftOf_mem hs1)
      show if inV (.int (s1 : Int)) ((leftOf row (C.flatten ++ W)).map V.int) = true then _ else _
      rw [et]
      rcases hw.test pm pt hx with ⟨hn, hn2⟩ | ⟨hn, hyx, l, rfl, ch, ndl, sub⟩
      · rw [decide_eq_true hn, if_pos rfl]
        refine ⟨fun σ' H'' => lenAt 5 σ' H'' < _ ∧ _, fun σ' H'' h => ⟨_, h.1, rfl, h.2⟩, ?_⟩
        obtain ⟨j, _, j2, j3, j4⟩ := first_at ((leftOf_mem (F := C.flatten ++ W) hs1).mpr hn)
        refine ⟨_, rfl, .inl ⟨rfl, _, SqL.of eg⟩, _, rfl, g, _, _, j, rfl, rfl, eg, j2, j3, ?_⟩
        rw [j4, leftOf_take ndr hs1, List.append_assoc]
        have ef1 : (upd H' g (.lst ((leftOf row (C.flatten ++ (W ++ [eAt row s1]))).map V.int))) f = _ := (upd_ne nfg).trans ef
        have eh1 : (upd H' g (.lst ((leftOf row (C.flatten ++ (W ++ [eAt row s1]))).map V.int))) h = _ := (upd_ne nhg).trans eh
        have eg1 : (upd H' g (.lst ((leftOf row (C.flatten ++ (W ++ [eAt row s1]))).map V.int))) g = _ := upd_same
        have hb1 : ∀ b ∈ bs, b.2 ≠ [] ∧ SqT K (upd H' g (.lst ((leftOf row (C.flatten ++ (W ++ [eAt row s1]))).map V.int))) b.1 (b.2.map V.int) := fun b hm => ⟨(hb b hm).1, sqT_put (hb b hm).2 eg⟩
        have sm1 : Same H (upd H' g (.lst ((leftOf row (C.flatten ++ (W ++ [eAt row s1]))).map V.int))) := fun b o hb => by
          rw [upd_ne (ne_of_none hb hg)]
          exact sm b o hb
        have lo2 : lenAt 5 [some (.ref p), some (.int (row.length : Int)), some (.ref g), some (.ref f), some (.int (s1 : Int)), some (.ref h), v6] H' = 1000 - W.length := by rw [lenAt_of (i := 5) (f := h) rfl eh, List.length_map]
        generalize upd H' g (.lst ((leftOf row (C.flatten ++ (W ++ [eAt row s1]))).map V.int)) = H4 at ef1 eh1 eg1 hb1 sm1
        refine ⟨_, rfl, _, rfl, _, _, rfl, rfl, .inl ⟨_, rfl, _, rfl, _, _, rfl, rfl, by omega, p, _, _, _, rfl, rfl, same_seqT sm1 hp, atI_nat (j := (s1 + 1) % row.length) (ints_get (eAt_get hne s1)), ?_⟩⟩
        refine ⟨_, rfl, .inl ⟨rfl, _, SqL.of eh1⟩, _, rfl, h, _, _, rfl, rfl, eh1, by rw [List.length_map]; exact small1000 (by omega), ?_⟩
        have e2 : W.map V.int ++ [V.int (eAt row s1)] = (W ++ [eAt row s1]).map V.int := by rw [List.map_append]; rfl
        rw [e2]
        have ef2 : (upd H4 h (.lst ((W ++ [eAt row s1]).map V.int))) f = _ := (upd_ne (fun z => nhf z.symm)).trans ef1
        have eg2 : (upd H4 h (.lst ((W ++ [eAt row s1]).map V.int))) g = _ := (upd_ne (fun z => nhg z.symm)).trans eg1
        have eh2 : (upd H4 h (.lst ((W ++ [eAt row s1]).map V.int))) h = _ := upd_same
        have hb2 : ∀ b ∈ bs, b.2 ≠ [] ∧ SqT K (upd H4 h (.lst ((W ++ [eAt row s1]).map V.int))) b.1 (b.2.map V.int) := fun b hm => ⟨(hb1 b hm).1, sqT_put (hb1 b hm).2 eh1⟩
        have sm2 : Same H (upd H4 h (.lst ((W ++ [eAt row s1]).map V.int))) := fun b o hb => by
          rw [upd_ne (ne_of_none hb hh)]
          exact sm1 b o hb
        generalize upd H4 h (.lst ((W ++ [eAt row s1]).map V.int)) = H5 at ef2 eg2 eh2 hb2 sm2
        have hm := mate_row pm hyr
        obtain ⟨i0, i1⟩ := idx_at hm
        refine ⟨_, rfl, p, _, rfl, .inr (same_seqT sm2 hp), fun c hc => ?_⟩
        refine ⟨.inl ⟨rfl, _, SqL.of upd_same⟩, _, rfl, _, rfl, c, _, _, row.idxOf (Wd.mate (eAt row s1)), _, rfl, rfl, SqL.of upd_same, rfl, flat_ints _, ints_get i0, (by simp [eqV]), fun m z' hm1 hz' => ?_, ?_⟩
        · obtain ⟨z, rfl, hz⟩ := ints_at hz'
          have := i1 m hm1
          rw [hz] at this
          have q : z ≠ Wd.mate (eAt row s1) := fun q => this (by rw [q])
          simpa [eqV] using q
        · have ef3 := upk (u := .lst (row.map V.int)) hc ef2
          have eg3 := upk (u := .lst (row.map V.int)) hc eg2
          have eh3 := upk (u := .lst (row.map V.int)) hc eh2
          refine ⟨?_, W ++ [eAt row s1], row.idxOf (Wd.mate (eAt row s1)), _, rfl, List.idxOf_lt_length_of_mem hm, ?_, ef3, fun b hm => ⟨(hb2 b hm).1, same_seqT (same_new hc) (hb2 b hm).2⟩, eg3, eh3, sm2.trans (same_new hc)⟩
          · rw [lo2, lenAt_of (i := 5) (f := h) rfl eh3]
            simp only [List.length_map, List.length_append, List.length_cons, List.length_nil]
            omega
          · have := hw.next hyr (fun z => hn (List.mem_append_right _ z))
            rw [eAt_idx]
            exact this
      · rw [decide_eq_false (fun z => z hn), if_neg (by decide)]
        refine ⟨_, rfl, .inl ⟨rfl, _, SqL.of ef⟩, _, rfl, h, _, rfl, .inl ⟨SqL.of eh, fun t ht => ?_⟩⟩
        refine ⟨t, x :: l, rfl, SqT.of upd_same, (by simp), by omega, fun q H4 s4 hq => ?_⟩
        have ef4 := s4 _ _ (upk (u := .tup ((x :: l).map V.int)) ht ef)
        have eg4 := s4 _ _ (upk (u := .tup ((x :: l).map V.int)) ht eg)
        have hb4 : ∀ b ∈ bs, b.2 ≠ [] ∧ SqT K H4 b.1 (b.2.map V.int) := fun b hm => ⟨(hb b hm).1, same_seqT s4 (same_seqT (same_new ht) (hb b hm).2)⟩
        have sm4 := (sm.trans (same_new (o := .tup ((x :: l).map V.int)) ht)).trans s4
        refine ⟨f, _, _, rfl, rfl, ef4, by rw [List.length_map]; exact small1000 (by omega), ?_⟩
        have lne : leastT (x :: l) ≠ [] := fun z => by
          have := (turn_nil (leastT_turn (ns := x :: l) (by simp))).mpr z
          exact absurd this (by simp)
        have pt2 := pt.add (nx_inj pm) hx ch ndl sub
        have ef5 : (upd H4 f (.lst (bs.map (fun b => V.ref b.1) ++ [V.ref q]))) f = some (.lst ((bs ++ [(q, leastT (x :: l))]).map fun b => V.ref b.1)) := by
          rw [upd_same, List.map_append]
          rfl
        have eg5 : (upd H4 f (.lst (bs.map (fun b => V.ref b.1) ++ [V.ref q]))) g = some (.lst ((leftOf row (C ++ [x :: l]).flatten).map V.int)) := by
          rw [upd_ne (fun z => nfg z.symm), Cy.flatten_snoc]
          exact eg4
        refine ⟨?_, C ++ [x :: l], bs ++ [(q, leastT (x :: l))], _, _, _, rfl, ef5, fun b hm => ?_, ?_, eg5, pt2, fun b o hb => ?_⟩
        · rw [lo, lenOf_of (i := 2) (f := g) rfl eg5, List.length_map]
          have sub2 : ∀ z ∈ (s0 : Int) :: leftOf row (C ++ [x :: l]).flatten, z ∈ leftOf row C.flatten := fun z hz => by
            rcases List.mem_cons.mp hz with rfl | hz
            · exact (leftOf_mem hs0).mpr (by rw [hxe]; exact hx)
            · obtain ⟨s2, hs2, rfl, q2⟩ := leftOf_sub hz
              refine (leftOf_mem hs2).mpr fun q3 => q2 ?_
              rw [Cy.flatten_snoc]
              exact List.mem_append_left _ q3
          have ndc : ((s0 : Int) :: leftOf row (C ++ [x :: l]).flatten).Nodup := by
            refine List.nodup_cons.mpr ⟨fun z => ?_, leftOf_nodup _ _⟩
            have := (leftOf_mem hs0).mp z
            rw [hxe, Cy.flatten_snoc] at this
            exact this (List.mem_append_right _ List.mem_cons_self)
          have := ndc.length_le_of_subset sub2
          rw [List.length_cons] at this
          exact this
        · rcases List.mem_append.mp hm with hm | hm
          · exact ⟨(hb4 b hm).1, sqT_put (hb4 b hm).2 ef4⟩
          · rw [List.mem_singleton.mp hm]
            exact ⟨lne, sqT_put hq ef4⟩
        · rw [List.map_append, List.map_append, em]
          rfl
        · rw [upd_ne (ne_of_none hb hf)]
          exact sm4 b o hb
    · have hnil : leftOf row C.flatten = [] := by simpa using c
      have cy := pt.done ndr (leftOf_nil ndr hnil)
      refine ⟨_, rfl, f, bs, rfl, SqL.of ef0, hb0, fun bs' q pb pw hq => ?_⟩
      refine k bs' q _ ⟨C, cy, ?_, List.pairwise_map.mpr pw⟩ (sm0.trans (same_new hq)) ?_ ⟨upd_same, fun b hm => same_seqT (same_new hq) (hb0 b (pb.mem_iff.mp hm)).2⟩
      · rw [← em]
        exact pb.map _
      · cases e : H q with
        | none => rfl
        | some o =>
          have := sm0 _ _ e
          rw [hq] at this
          cases this
end
end Tt
set_option maxRecDepth 100000
set_option maxHeartbeats 4000000
namespace Tt
open PySem L2
open LamX (Tabs TabS TabB ExtN CodeO tLam)
structure Sh (k N : Nat) (d : PyData) : Prop where
  sh : d.showable = true
  hd : d.hasDict = false
  dp : d.depth ≤ k
  ln : d.shown.length ≤ N
theorem sh_all {k N : Nat} : ∀ ds : List PyData, (∀ d ∈ ds, Sh k N d) → PyData.showableAll ds = true ∧ PyData.hasDictAll ds = false ∧ PyData.depthAll ds ≤ k ∧ ((PyData.shownAll ds).map (·.length)).sum ≤ ds.length * N ∧ (PyData.shownAll ds).length = ds.length
  | [], _ => ⟨rfl, rfl, Nat.zero_le _, Nat.zero_le _, rfl⟩
  | d :: ds, h => by
    obtain ⟨a1, a2, a3, a4, a5⟩ := sh_all ds fun x hx => h x (List.mem_cons_of_mem _ hx)
    have b := h d List.mem_cons_self
    refine ⟨?_, ?_, ?_, ?_, ?_⟩
    · show (d.showable && PyData.showableAll ds) = true
      rw [b.sh, a1]
      rfl
    · show (d.hasDict || PyData.hasDictAll ds) = false
      rw [b.hd, a2]
      rfl
    · show max d.depth (PyData.depthAll ds) ≤ k
      have := b.dp
      omega
    · show (d.shown.length :: (PyData.shownAll ds).map (·.length)).sum ≤ (ds.length + 1) * N
      rw [List.sum_cons, Nat.add_mul, Nat.one_mul]
      have := b.ln
      omega
    · show (d.shown :: PyData.shownAll ds).length = ds.length + 1
      rw [List.length_cons, a5]
theorem Sh.list {k N : Nat} {ds : List PyData} (h : ∀ d ∈ ds, Sh k N d) : Sh (k + 1) (ds.length * N + 2 * ds.length + 3) (.list ds) := by
  obtain ⟨a1, a2, a3, a4, a5⟩ := sh_all ds h
  refine ⟨a1, a2, ?_, ?_⟩
  · show PyData.depthAll ds + 1 ≤ k + 1
    omega
  · have := listText_len_le (PyData.shownAll ds)
    show (listText (PyData.shownAll ds)).length ≤ _
    omega
theorem Sh.tuple {k N : Nat} {ds : List PyData} (h : ∀ d ∈ ds, Sh k N d) : Sh (k + 1) (ds.length * N + 2 * ds.length + 3) (.tuple ds) := by
  obtain ⟨a1, a2, a3, a4, a5⟩ := sh_all ds h
  refine ⟨a1, a2, ?_, ?_⟩
  · show PyData.depthAll ds + 1 ≤ k + 1
    omega
  · have := tupleText_len_le (PyData.shownAll ds)
    show (tupleText (PyData.shownAll ds)).length ≤ _
    omega
theorem Sh.int {i : Int} (h0 : -50 ≤ i) (h1 : i ≤ 99) : Sh 0 20 (.int i) := by
  have z : ∀ n : Fin 150, (PyData.showable (.int (((n.val : Nat) : Int) - 50))) = true ∧ (PyData.shown (.int (((n.val : Nat) : Int) - 50))).length ≤ 20 := by decide +kernel
  obtain ⟨k, e⟩ := Int.eq_ofNat_of_zero_le (show 0 ≤ i + 50 by omega)
  have e' : i = (k : Int) - 50 := by omega
  subst e'
  obtain ⟨a, b⟩ := z ⟨k, by omega⟩
  exact ⟨a, rfl, Nat.zero_le _, b⟩
theorem Sh.mono {k k' N N' : Nat} {d : PyData} (h : Sh k N d) (a : k ≤ k') (b : N ≤ N') : Sh k' N' d := ⟨h.sh, h.hd, Nat.le_trans h.dp a, Nat.le_trans h.ln b⟩
theorem Sh.ints {ns : List Int} (h : ∀ x ∈ ns, 0 ≤ x ∧ x ≤ 20) (l : ns.length ≤ 12) : Sh 1 300 (rowD ns) := by
  have h1 := Sh.tuple (k := 0) (N := 20) (ds := ns.map PyData.int) fun d hd => by
    obtain ⟨x, hx, rfl⟩ := List.mem_map.mp hd
    have := h x hx
    exact Sh.int (by omega) (by omega)
  refine h1.mono (Nat.le_refl _) ?_
  rw [List.length_map]
  omega
section
variable {P : Program} {w : World} {K : PySem.W.Frag} {mg : Str → Option Value} {base : Heap}
theorem Sh.show {k N : Nat} {d : PyData} {H : Hp} {a : Addr} {Q : VK} (h : Sh k N d) (hk : k ≤ 60) (hn : N ≤ 5000) (dp : Dp K H (.ref a) d) (q : Q (.str d.shown) H) : rShow K [.ref a] H Q :=
  ⟨a, d, rfl, dp, h.sh, h.hd, Nat.le_trans h.dp hk, Nat.le_trans h.ln (by rw [sizeLine_eq]; omega), q⟩
theorem dpAll_bs {H : Hp} : ∀ (bs : List (Addr × List Int)), (∀ b ∈ bs, SqT K H b.1 (b.2.map V.int)) → DpAll K H (bs.map fun b => V.ref b.1) ((bs.map (·.2)).map rowD)
  | [], _ => .nil
  | b :: bs, h => .cons (.tup (h b List.mem_cons_self) (dpAll_ints _ _)) (dpAll_bs bs fun c hc => h c (List.mem_cons_of_mem _ hc))
theorem RimsOf.bounds {row : List Int} {n : Nat} {R : List (List Int)} (pm : row.Perm (rgI (2 * n))) (n6 : n ≤ 6) (h : RimsOf row R) : R.length ≤ 12 ∧ ∀ r ∈ R, r ≠ [] ∧ r.length ≤ 12 ∧ ∀ x ∈ r, 0 ≤ x ∧ x ≤ 20 := by
  obtain ⟨C, cy, p, _⟩ := h
  have hl := perm_len pm
  have fl := cy.all.length_eq
  have sz : ∀ D : List (List Int), (∀ c ∈ D, Cy.Cyc (nx row) c) → D.length ≤ D.flatten.length := fun D => by
    induction D with
    | nil => exact fun _ => Nat.le_refl _
    | cons c D ih =>
      intro hc
      obtain ⟨x, l, rfl, _⟩ := hc c List.mem_cons_self
      have := ih fun c h => hc c (List.mem_cons_of_mem _ h)
      rw [List.flatten_cons, List.length_append, List.length_cons, List.length_cons]
      omega
  have hc := sz C cy.cyc
  have pl := p.length_eq
  rw [List.length_map] at pl
  refine ⟨by omega, fun r hr => ?_⟩
  obtain ⟨c, hcm, rfl⟩ := List.mem_map.mp (p.mem_iff.mp hr)
  obtain ⟨x, l, e, _⟩ := cy.cyc c hcm
  have cne : c ≠ [] := by rw [e]; simp
  have t := leastT_turn cne
  have tp := Cy.turn_perm t
  have ndC : c.Nodup := (List.pairwise_flatten.mp (cy.all.nodup_iff.mpr (row_nodup pm))).1 c hcm
  have sub : ∀ z ∈ c, z ∈ row := fun z hz => cy.all.mem_iff.mp (List.mem_flatten.mpr ⟨c, hcm, hz⟩)
  refine ⟨fun z => cne ((turn_nil t).mpr z), ?_, fun y hy => ?_⟩
  · have := ndC.length_le_of_subset (l₂ := row) sub
    rw [← tp.length_eq]
    omega
  · have := (perm_mem pm).mp (sub y (tp.mem_iff.mpr hy))
    omega
theorem rows_sh {R : List (List Int)} (h1 : R.length ≤ 12) (h2 : ∀ r ∈ R, r ≠ [] ∧ r.length ≤ 12 ∧ ∀ x ∈ r, 0 ≤ x ∧ x ≤ 20) : Sh 2 5000 (.list (R.map rowD)) := by
  have h := Sh.list (k := 1) (N := 300) (ds := R.map rowD) fun d hd => by
    obtain ⟨r, hr, rfl⟩ := List.mem_map.mp hd
    exact Sh.ints (h2 r hr).2.2 (h2 r hr).2.1
  refine h.mono (Nat.le_refl _) ?_
  rw [List.length_map]
  omega
theorem rims_one {row row2 : List Int} {n : Nat} {R R2 : List (List Int)} (pm : row.Perm (rgI (2 * n))) (n1 : 1 ≤ n) (t : Wd.Turn row row2) (h : RimsOf row R) (h2 : RimsOf row2 R2) : R = R2 := by
  obtain ⟨C, cy, p, s⟩ := h
  obtain ⟨C2, cy2, p2, s2⟩ := h2
  have tp := Cy.turn_perm t
  have cy3 : Cy.Cycles row (nx row) C2 := Cycles.congr ⟨cy2.all.trans tp.symm, cy2.cyc⟩ fun x hx => nx_turn pm n1 t hx
  exact sorted_eq (p.trans ((cycles_least (row_nodup pm) cy cy3).trans p2.symm)) s s2
theorem rims_flat {row : List Int} {n : Nat} {R : List (List Int)} (pm : row.Perm (rgI (2 * n))) (h : RimsOf row R) : R.flatten.Perm row := by
  obtain ⟨C, cy, p, s⟩ := h
  have q : ∀ D : List (List Int), (∀ c ∈ D, c ≠ []) → (D.map leastT).flatten.Perm D.flatten := fun D => by
    induction D with
    | nil => exact fun _ => List.Perm.refl _
    | cons c D ih =>
      intro hc
      rw [List.map_cons, List.flatten_cons, List.flatten_cons]
      exact ((Cy.turn_perm (leastT_turn (hc c List.mem_cons_self))).symm).append (ih fun c h => hc c (List.mem_cons_of_mem _ h))
  refine (p.flatten.trans (q C fun c hc => ?_)).trans cy.all
  obtain ⟨x, l, rfl, _⟩ := cy.cyc c hc
  simp
theorem show2 {H : Hp} {Q : VK} {l : Addr} {x y : Int} (h0 : -50 ≤ x) (h1 : x ≤ 99) (e : x = y) (hl : SqL K H l [.int x, .int y]) (k : Q (.str (PyData.list [.int x, .int x]).shown) H) : rShow K [.ref l] H Q := by
  subst e
  have h : Sh 1 50 (.list [.int x, .int x]) := (Sh.list (k := 0) (N := 20) (ds := [.int x, .int x]) fun d hd => by
    simp only [List.mem_cons, List.not_mem_nil, or_false, or_self] at hd
    rw [hd]
    exact Sh.int h0 h1).mono (Nat.le_refl _) (by simp)
  exact h.show (by omega) (by omega) (.lst hl (.cons (.int x) (.cons (.int x) .nil))) k
theorem sw_rims (T : Txt K mg) : Swaps1 T.rims.fd "skin" := T.rims.F.swaps1 fun _ _ _ _ _ _ _ => rfl
end
end Tt
set_option maxRecDepth 100000
set_option maxHeartbeats 4000000
namespace Tt
open PySem L2
section
variable {P : Program} {w : World} {K : PySem.W.Frag} {mg : Str → Option Value} {base : Heap}
def spTrn (K : PySem.W.Frag) : Sp := fun vs H Q _ => ∃ (t : Addr) (row : List Int), vs = [.ref t] ∧ (SqL K H t (row.map V.int) ∨ FzT H t (row.map V.int)) ∧ (0 : Int) ∈ row ∧ row.length ≤ 12 ∧
  ∀ r H', Same H H' → FzT H' r ((trn row).map V.int) → Q (.ref r) H'
theorem ok_l_turned (T : Txt K mg) : FnOk P w K mg base CX0 1 T.l_turned.a T.l_turned.fd ["line"] (spTrn K) := by
  refine T.l_turned.F.ok sc_l_turned (fun vs H Q E h => ?_) (fun cdv A outer s H vs Q E hr h => ?_)
  · obtain ⟨t, row, rfl, _⟩ := h
    rfl
  · obtain ⟨t, row, rfl, ht, h0, hl, k⟩ := h
    have nd := sc_l_turned.nd
    obtain ⟨i0, i1⟩ := idx_at h0
    have hst : row.idxOf 0 < row.length := List.idxOf_lt_length_of_mem h0
    rcases ht with ht | ht
    · refine ⟨_, (pss_cons (ps_set (i := 1) nd rfl (Or.inl rfl) (pe_bm PySem.F.plainAttrs_list PySem.F.slot_list_index PySem.F.type_list_index mt_index (pe_callTy call_list_of (by rfl) T.zlist (by decide +kernel) (pa_cons (pv 0) pa_nil)) (pa_cons pe_int pa_nil)))
    (pss_one (ps_ret (pe_op op_catF (pe_callTy call_tuple_ofF (by rfl) T.ztuple (by decide +kernel) (pa_cons (pe_slice sl_list (pv 0) (po_some (pv 1)) po_none) pa_nil)) (pe_callTy call_tuple_ofF (by rfl) T.ztuple (by decide +kernel) (pa_cons (pe_slice sl_list (pv 0) po_none (po_some (pv 1))) pa_nil)))))), ?_⟩
      refine ⟨_, rfl, t, _, rfl, .inl ht, fun l hl0 => ?_⟩
      have s1 : Same H (upd H l (.lst (row.map V.int))) := same_new hl0
      refine ⟨.inl ⟨rfl, _, SqL.of upd_same⟩, l, row.map V.int, .int 0, row.idxOf 0, .int 0, rfl, rfl, SqL.of upd_same, rfl, flat_ints row, ints_get i0, by decide, no_ahead i1, ?_⟩
      exact row_turnedL (K := K) (i := 0) (j := 1) rfl rfl (sqL_ext (.of s1) ht) hst hl (fun r H4 s4 fr => k r H4 (s1.trans s4) fr)
    · refine ⟨_, (pss_cons (ps_set (i := 1) nd rfl (Or.inl rfl) (pe_bm PySem.F.plainAttrs_list PySem.F.slot_list_index PySem.F.type_list_index mt_index (pe_callTy call_list_of (by rfl) T.zlist (by decide +kernel) (pa_cons (pv 0) pa_nil)) (pa_cons pe_int pa_nil)))
    (pss_one (ps_ret (pe_op op_catF (pe_callTy call_tuple_ofF (by rfl) T.ztuple (by decide +kernel) (pa_cons (pe_slice sl_tupA (pv 0) (po_some (pv 1)) po_none) pa_nil)) (pe_callTy call_tuple_ofF (by rfl) T.ztuple (by decide +kernel) (pa_cons (pe_slice sl_tupA (pv 0) po_none (po_some (pv 1))) pa_nil)))))), ?_⟩
      refine ⟨_, rfl, t, _, rfl, .inr ht.sq, fun l hl0 => ?_⟩
      have s1 : Same H (upd H l (.lst (row.map V.int))) := same_new hl0
      refine ⟨.inl ⟨rfl, _, SqL.of upd_same⟩, l, row.map V.int, .int 0, row.idxOf 0, .int 0, rfl, rfl, SqL.of upd_same, rfl, flat_ints row, ints_get i0, by decide, no_ahead i1, ?_⟩
      exact row_turned (K := K) (i := 0) (j := 1) rfl rfl (FzT.same ht s1) hst hl (fun r H4 s4 fr => k r H4 (s1.trans s4) fr)
end
end Tt
set_option maxRecDepth 100000
set_option maxHeartbeats 4000000
namespace Tt.Nm
open Wd (mate mate_mate Turn)
def keys (ds : List (Int × Int)) : List Int := ds.map (·.1)
def look (ds : List (Int × Int)) (e : Int) : Int := (ds.lookup e).getD 0
def nmStep (ds : List (Int × Int)) (e : Int) : List (Int × Int) := if e ∈ keys ds then ds else ds ++ [(e, (ds.length : Int)), (mate e, (ds.length : Int) + 1)]
def nmAll : List (Int × Int) → List Int → List (Int × Int)
  | ds, [] => ds
  | ds, e :: l => nmAll (nmStep ds e) l
def nmd : List (Int × Int) → List Int → List Int
  | _, [] => []
  | ds, e :: l => look (nmStep ds e) e :: nmd (nmStep ds e) l
def named (l : List Int) : List Int := nmd [] l
theorem mate_ne (x : Int) : mate x ≠ x := by unfold mate; split <;> omega
theorem keys_app (ds r : List (Int × Int)) : keys (ds ++ r) = keys ds ++ keys r := List.map_append
theorem lookup_key {ds : List (Int × Int)} {e : Int} : e ∈ keys ds ↔ ∃ v, ds.lookup e = some v := by
  induction ds with
  | nil => simp [keys]
  | cons p ds ih =>
    obtain ⟨k, v⟩ := p
    by_cases h : e = k
    · subst h
      simp [keys, List.lookup]
    · have hb : (e == k) = false := by simpa using h
      have e1 : List.lookup e ((k, v) :: ds) = List.lookup e ds := by rw [List.lookup, hb]
      rw [e1, ← ih]
      show e ∈ k :: keys ds ↔ _
      rw [List.mem_cons]
      exact ⟨fun q => q.resolve_left h, .inr⟩
theorem lookup_app (ds r : List (Int × Int)) (e : Int) : (ds ++ r).lookup e = if e ∈ keys ds then ds.lookup e else r.lookup e := by
  induction ds with
  | nil => simp [keys]
  | cons p ds ih =>
    obtain ⟨k, v⟩ := p
    by_cases h : e = k
    · subst h
      rw [if_pos (by show e ∈ e :: keys ds; exact List.mem_cons_self)]
      simp [List.lookup]
    · have hb : (e == k) = false := by simpa using h
      have e1 : List.lookup e ((k, v) :: ds) = List.lookup e ds := by rw [List.lookup, hb]
      have e2 : List.lookup e ((k, v) :: ds ++ r) = List.lookup e (ds ++ r) := by
        show List.lookup e ((k, v) :: (ds ++ r)) = _
        rw [List.lookup, hb]
      rw [e1, e2, ih]
      by_cases q : e ∈ keys ds
      · rw [if_pos q, if_pos (by show e ∈ k :: keys ds; exact List.mem_cons_of_mem _ q)]
      · rw [if_neg q, if_neg (by show ¬ e ∈ k :: keys ds; rw [List.mem_cons]; exact fun z => z.elim h q)]
theorem look_app {ds : List (Int × Int)} (r : List (Int × Int)) {e : Int} (h : e ∈ keys ds) : look (ds ++ r) e = look ds e := by
  unfold look
  rw [lookup_app, if_pos h]
theorem step_old {ds : List (Int × Int)} {e x : Int} (h : x ∈ keys ds) : x ∈ keys (nmStep ds e) ∧ look (nmStep ds e) x = look ds x := by
  unfold nmStep
  by_cases q : e ∈ keys ds
  · rw [if_pos q]
    exact ⟨h, rfl⟩
  · rw [if_neg q]
    exact ⟨by rw [keys_app]; exact List.mem_append_left _ h, look_app _ h⟩
theorem step_new {ds : List (Int × Int)} {e : Int} (h : e ∉ keys ds) (hm : mate e ∉ keys ds) : nmStep ds e = ds ++ [(e, (ds.length : Int)), (mate e, (ds.length : Int) + 1)] ∧ look (nmStep ds e) e = ds.length ∧ look (nmStep ds e) (mate e) = (ds.length : Int) + 1 := by
  have e1 : nmStep ds e = ds ++ [(e, (ds.length : Int)), (mate e, (ds.length : Int) + 1)] := if_neg h
  refine ⟨e1, ?_, ?_⟩
  · rw [e1]
    unfold look
    rw [lookup_app, if_neg h]
    simp [List.lookup]
  · rw [e1]
    unfold look
    rw [lookup_app, if_neg hm]
    have hb : (mate e == e) = false := by simpa using mate_ne e
    simp [List.lookup, hb]
theorem step_key (ds : List (Int × Int)) (e : Int) : e ∈ keys (nmStep ds e) := by
  unfold nmStep
  by_cases q : e ∈ keys ds
  · rw [if_pos q]
    exact q
  · rw [if_neg q, keys_app]
    exact List.mem_append_right _ List.mem_cons_self
theorem all_old : ∀ {l : List Int} {ds : List (Int × Int)} {x : Int}, x ∈ keys ds → x ∈ keys (nmAll ds l) ∧ look (nmAll ds l) x = look ds x
  | [], _, _, h => ⟨h, rfl⟩
  | e :: l, ds, x, h => by
    obtain ⟨a, b⟩ := step_old (e := e) h
    obtain ⟨c, d⟩ := all_old (l := l) a
    exact ⟨c, d.trans b⟩
theorem all_keys : ∀ {l : List Int} {ds : List (Int × Int)}, ∀ x ∈ l, x ∈ keys (nmAll ds l)
  | e :: l, ds, x, h => by
    rcases List.mem_cons.mp h with rfl | h
    · exact (all_old (step_key ds x)).1
    · show x ∈ keys (nmAll (nmStep ds e) l)
      exact all_keys x h
theorem nmd_all : ∀ (l : List Int) (ds : List (Int × Int)), nmd ds l = l.map (look (nmAll ds l))
  | [], _ => rfl
  | e :: l, ds => by
    show look (nmStep ds e) e :: nmd (nmStep ds e) l = look (nmAll (nmStep ds e) l) e :: l.map (look (nmAll (nmStep ds e) l))
    rw [nmd_all l, (all_old (step_key ds e)).2]
theorem named_all (l : List Int) : named l = l.map (look (nmAll [] l)) := nmd_all l []
theorem named_len (l : List Int) : (named l).length = l.length := by rw [named_all, List.length_map]
structure Nz (ds : List (Int × Int)) : Prop where
  nd : (keys ds).Nodup
  cl : ∀ e ∈ keys ds, mate e ∈ keys ds
  mt : ∀ e ∈ keys ds, look ds (mate e) = mate (look ds e)
  rg : ∀ e ∈ keys ds, 0 ≤ look ds e ∧ look ds e < ds.length
  on : ∀ i : Int, 0 ≤ i → i < ds.length → ∃ e ∈ keys ds, look ds e = i
  ij : ∀ a ∈ keys ds, ∀ b ∈ keys ds, look ds a = look ds b → a = b
  ev : ds.length % 2 = 0
theorem Nz.nil : Nz [] := ⟨List.nodup_nil, (fun _ h => nomatch h), (fun _ h => nomatch h), (fun _ h => nomatch h), (fun i h0 h1 => absurd h1 (by simp; omega)), (fun _ h => nomatch h), rfl⟩
theorem Nz.off {ds : List (Int × Int)} (h : Nz ds) {e : Int} (n : e ∉ keys ds) : mate e ∉ keys ds := fun z => n (by
  have := h.cl _ z
  rw [mate_mate] at this
  exact this)
theorem mate_ev {n : Nat} (h : n % 2 = 0) : mate (n : Int) = (n : Int) + 1 := by unfold mate; rw [if_pos (by omega)]
theorem Nz.step {ds : List (Int × Int)} (h : Nz ds) (e : Int) : Nz (nmStep ds e) := by
  by_cases q : e ∈ keys ds
  · have : nmStep ds e = ds := if_pos q
    rw [this]
    exact h
  · have qm := h.off q
    obtain ⟨e1, l1, l2⟩ := step_new q qm
    have ke : keys (nmStep ds e) = keys ds ++ [e, mate e] := by rw [e1, keys_app]; rfl
    have ln : (nmStep ds e).length = ds.length + 2 := by rw [e1, List.length_append]; rfl
    have cs : ∀ x ∈ keys (nmStep ds e), (x ∈ keys ds ∧ look (nmStep ds e) x = look ds x) ∨ (x = e ∧ look (nmStep ds e) x = ds.length) ∨ (x = mate e ∧ look (nmStep ds e) x = (ds.length : Int) + 1) := fun x hx => by
      rw [ke, List.mem_append] at hx
      rcases hx with hx | hx
      · exact .inl ⟨hx, (step_old hx).2⟩
      · rcases List.mem_cons.mp hx with rfl | hx
        · exact .inr (.inl ⟨rfl, l1⟩)
        · obtain rfl := List.mem_singleton.mp hx
          exact .inr (.inr ⟨rfl, l2⟩)
    have ev := mate_ev h.ev
    have ke1 : e ∈ keys (nmStep ds e) := by rw [ke]; exact List.mem_append_right _ List.mem_cons_self
    have ke2 : mate e ∈ keys (nmStep ds e) := by rw [ke]; exact List.mem_append_right _ (List.mem_cons_of_mem _ List.mem_cons_self)
    refine ⟨?_, ?_, ?_, ?_, ?_, ?_, by rw [ln]; have := h.ev; omega⟩
    · rw [ke, List.nodup_append]
      refine ⟨h.nd, ?_, fun a ha b hb => ?_⟩
      · rw [List.nodup_cons]
        exact ⟨fun z => mate_ne e (List.mem_singleton.mp z).symm, List.nodup_cons.mpr ⟨(fun z => nomatch z), List.nodup_nil⟩⟩
      · rcases List.mem_cons.mp hb with rfl | hb
        · exact fun z => q (z ▸ ha)
        · obtain rfl := List.mem_singleton.mp hb
          exact fun z => qm (z ▸ ha)
    · intro x hx
      rcases cs x hx with ⟨a, _⟩ | ⟨rfl, _⟩ | ⟨rfl, _⟩
      · exact (step_old (h.cl x a)).1
      · exact ke2
      · rw [mate_mate]
        exact ke1
    · intro x hx
      rcases cs x hx with ⟨a, b⟩ | ⟨rfl, b⟩ | ⟨rfl, b⟩
      · rw [b, (step_old (h.cl x a)).2]
        exact h.mt x a
      · rw [b, l2, ev]
      · rw [mate_mate, b, l1, ← ev, mate_mate]
    · intro x hx
      rw [ln]
      rcases cs x hx with ⟨a, b⟩ | ⟨rfl, b⟩ | ⟨rfl, b⟩
      · have := h.rg x a
        rw [b]
        omega
      · rw [b]
        omega
      · rw [b]
        omega
    · intro i h0 h1
      rw [ln] at h1
      by_cases c1 : i < ds.length
      · obtain ⟨x, hx, e2⟩ := h.on i h0 c1
        exact ⟨x, (step_old hx).1, (step_old hx).2.trans e2⟩
      · by_cases c2 : i = ds.length
        · exact ⟨e, ke1, l1.trans c2.symm⟩
        · exact ⟨mate e, ke2, by rw [l2]; omega⟩
    · intro a ha b hb z
      rcases cs a ha with ⟨a1, a2⟩ | ⟨z1, a2⟩ | ⟨z1, a2⟩ <;> rcases cs b hb with ⟨b1, b2⟩ | ⟨z2, b2⟩ | ⟨z2, b2⟩
      · rw [a2, b2] at z
        exact h.ij a a1 b b1 z
      · have := h.rg a a1
        omega
      · have := h.rg a a1
        omega
      · have := h.rg b b1
        omega
      · rw [z1, z2]
      · omega
      · have := h.rg b b1
        omega
      · omega
      · rw [z1, z2]
theorem Nz.all {ds : List (Int × Int)} (h : Nz ds) : ∀ (l : List Int), Nz (nmAll ds l) := fun l => by
  induction l generalizing ds with
  | nil => exact h
  | cons e l ih => exact ih (h.step e)
structure Ren (D : List Int) (f : Int → Int) : Prop where
  ij : ∀ a ∈ D, ∀ b ∈ D, f a = f b → a = b
  mt : ∀ a ∈ D, f (mate a) = mate (f a)
  cl : ∀ a ∈ D, mate a ∈ D
theorem mem_map_ij {D : List Int} {f : Int → Int} (r : Ren D f) {ks : List Int} (hk : ∀ k ∈ ks, k ∈ D) {e : Int} (he : e ∈ D) : f e ∈ ks.map f ↔ e ∈ ks := by
  constructor
  · intro h
    obtain ⟨k, hk1, hk2⟩ := List.mem_map.mp h
    rw [← r.ij k (hk k hk1) e he hk2]
    exact hk1
  · exact fun h => List.mem_map.mpr ⟨e, h, rfl⟩
def mv (f : Int → Int) (ds : List (Int × Int)) : List (Int × Int) := ds.map fun p => (f p.1, p.2)
theorem mv_keys (f : Int → Int) (ds : List (Int × Int)) : keys (mv f ds) = (keys ds).map f := by
  unfold keys mv
  rw [List.map_map, List.map_map]
  rfl
theorem mv_lookup {D : List Int} {f : Int → Int} (r : Ren D f) {e : Int} (he : e ∈ D) : ∀ {ds : List (Int × Int)}, (∀ k ∈ keys ds, k ∈ D) → (mv f ds).lookup (f e) = ds.lookup e
  | [], _ => rfl
  | (k, v) :: ds, hk => by
    have ih := mv_lookup r he (ds := ds) fun x hx => hk x (List.mem_cons_of_mem _ hx)
    show List.lookup (f e) ((f k, v) :: mv f ds) = List.lookup e ((k, v) :: ds)
    by_cases h : e = k
    · subst h
      simp [List.lookup]
    · have hb : (e == k) = false := by simpa using h
      have hb2 : (f e == f k) = false := by
        have : f e ≠ f k := fun z => h (r.ij e he k (hk k List.mem_cons_self) z)
        simpa using this
      rw [List.lookup, List.lookup, hb, hb2]
      exact ih
theorem mv_step {D : List Int} {f : Int → Int} (r : Ren D f) {ds : List (Int × Int)} (hk : ∀ k ∈ keys ds, k ∈ D) {e : Int} (he : e ∈ D) : nmStep (mv f ds) (f e) = mv f (nmStep ds e) := by
  have hm : f e ∈ keys (mv f ds) ↔ e ∈ keys ds := by rw [mv_keys]; exact mem_map_ij r hk he
  have ln : (mv f ds).length = ds.length := List.length_map ..
  unfold nmStep
  by_cases q : e ∈ keys ds
  · rw [if_pos q, if_pos (hm.mpr q)]
  · rw [if_neg q, if_neg (fun z => q (hm.mp z)), ln, ← r.mt e he]
    unfold mv
    rw [List.map_append]
    rfl
theorem step_sub {D : List Int} {ds : List (Int × Int)} (cl : ∀ a ∈ D, mate a ∈ D) (hk : ∀ k ∈ keys ds, k ∈ D) {e : Int} (he : e ∈ D) : ∀ k ∈ keys (nmStep ds e), k ∈ D := fun k h => by
  unfold nmStep at h
  by_cases q : e ∈ keys ds
  · rw [if_pos q] at h
    exact hk k h
  · rw [if_neg q, keys_app, List.mem_append] at h
    rcases h with h | h
    · exact hk k h
    · rcases List.mem_cons.mp h with rfl | h
      · exact he
      · obtain rfl := List.mem_singleton.mp h
        exact cl e he
theorem all_sub {D : List Int} (cl : ∀ a ∈ D, mate a ∈ D) : ∀ {l : List Int} {ds : List (Int × Int)}, (∀ k ∈ keys ds, k ∈ D) → (∀ e ∈ l, e ∈ D) → ∀ k ∈ keys (nmAll ds l), k ∈ D
  | [], _, h, _ => h
  | e :: l, ds, h, hl => fun k hk => all_sub (l := l) (ds := nmStep ds e) cl (step_sub cl h (hl e List.mem_cons_self)) (fun x hx => hl x (List.mem_cons_of_mem _ hx)) k hk
theorem nmd_mv {D : List Int} {f : Int → Int} (r : Ren D f) : ∀ {l : List Int} {ds : List (Int × Int)}, (∀ k ∈ keys ds, k ∈ D) → (∀ e ∈ l, e ∈ D) → nmd (mv f ds) (l.map f) = nmd ds l
  | [], _, _, _ => rfl
  | e :: l, ds, hk, hl => by
    have he := hl e List.mem_cons_self
    have hs := step_sub r.cl hk he
    show look (nmStep (mv f ds) (f e)) (f e) :: nmd (nmStep (mv f ds) (f e)) (l.map f) = look (nmStep ds e) e :: nmd (nmStep ds e) l
    rw [mv_step r hk he, nmd_mv r hs fun x hx => hl x (List.mem_cons_of_mem _ hx)]
    unfold look
    rw [mv_lookup r he hs]
theorem named_ren {D : List Int} {f : Int → Int} (r : Ren D f) {l : List Int} (hl : ∀ e ∈ l, e ∈ D) : named (l.map f) = named l := nmd_mv r (ds := []) (fun _ h => nomatch h) hl
theorem nmd_least {D : List Int} {f : Int → Int} (r : Ren D f) (f0 : ∀ a ∈ D, 0 ≤ f a) : ∀ {l : List Int} {ds : List (Int × Int)}, Nz ds → (∀ k ∈ keys ds, k ∈ D) → (∀ e ∈ l, e ∈ D) → (∀ k ∈ keys ds, f k = look ds k) → nmd ds l ≤ l.map f
  | [], _, _, _, _, _ => List.le_refl _
  | e :: l, ds, nz, hk, hl, hf => by
    have he := hl e List.mem_cons_self
    have hl' : ∀ x ∈ l, x ∈ D := fun x hx => hl x (List.mem_cons_of_mem _ hx)
    show look (nmStep ds e) e :: nmd (nmStep ds e) l ≤ f e :: l.map f
    rw [List.cons_le_cons_iff]
    by_cases q : e ∈ keys ds
    · have e1 : nmStep ds e = ds := if_pos q
      rw [e1]
      exact .inr ⟨(hf e q).symm, nmd_least r f0 nz hk hl' hf⟩
    · obtain ⟨e1, l1, l2⟩ := step_new q (nz.off q)
      have ge : (ds.length : Int) ≤ f e := by
        refine Int.not_lt.mp fun z => ?_
        obtain ⟨k, hk1, hk2⟩ := nz.on (f e) (f0 e he) z
        exact q (r.ij k (hk k hk1) e he ((hf k hk1).trans hk2) ▸ hk1)
      rw [l1]
      by_cases z : f e = ds.length
      · refine .inr ⟨z.symm, nmd_least r f0 (nz.step e) (step_sub r.cl hk he) hl' fun k hk1 => ?_⟩
        rw [e1, keys_app, List.mem_append] at hk1
        rcases hk1 with hk1 | hk1
        · rw [(step_old hk1).2]
          exact hf k hk1
        · rcases List.mem_cons.mp hk1 with rfl | hk1
          · rw [l1, z]
          · obtain rfl := List.mem_singleton.mp hk1
            rw [l2, r.mt e he, z, mate_ev nz.ev]
      · exact .inl (by omega)
theorem named_least {D : List Int} {f : Int → Int} (r : Ren D f) (f0 : ∀ a ∈ D, 0 ≤ f a) {l : List Int} (hl : ∀ e ∈ l, e ∈ D) : named l ≤ l.map f :=
  nmd_least r f0 .nil (fun _ h => nomatch h) hl fun _ h => nomatch h
end Tt.Nm
set_option maxRecDepth 100000
set_option maxHeartbeats 4000000
namespace Tt
open PySem L2
open Nm (Ren named keys look nmAll)
open Cy (Ch Cyc Cycles)
theorem ren_mem {row : List Int} {n : Nat} {f : Int → Int} (pm : row.Perm (rgI (2 * n))) (h1 : ∀ a ∈ row, ∀ b ∈ row, f a = f b → a = b) (h2 : ∀ a ∈ row, f (Wd.mate a) = Wd.mate (f a)) : Ren row f := ⟨h1, h2, fun a ha => mate_row pm ha⟩
theorem idx_map {f : Int → Int} : ∀ {row : List Int} {e : Int}, e ∈ row → (∀ a ∈ row, ∀ b ∈ row, f a = f b → a = b) → (row.map f).idxOf (f e) = row.idxOf e
  | [], _, h, _ => by cases h
  | x :: row, e, h, ij => by
    by_cases z : e = x
    · subst z
      simp [List.idxOf_cons]
    · have he : e ∈ row := (List.mem_cons.mp h).resolve_left z
      have z2 : f x ≠ f e := fun q => z (ij x List.mem_cons_self e h q).symm
      have ih := idx_map he fun a ha b hb => ij a (List.mem_cons_of_mem _ ha) b (List.mem_cons_of_mem _ hb)
      have b1 : (x == e) = false := by simpa using fun q : x = e => z q.symm
      have b2 : (f x == f e) = false := by simpa using z2
      rw [List.map_cons, List.idxOf_cons, List.idxOf_cons, b1, b2, ih]
theorem nxt_map {row : List Int} {f : Int → Int} (ij : ∀ a ∈ row, ∀ b ∈ row, f a = f b → a = b) {e : Int} (he : e ∈ row) : nxt (row.map f) (f e) = f (nxt row e) := by
  have hne : row ≠ [] := fun z => by rw [z] at he; cases he
  have hl : (row.idxOf e + 1) % row.length < row.length := Nat.mod_lt _ (List.length_pos_iff.mpr hne)
  unfold nxt
  rw [idx_map he ij, List.length_map, List.getD_eq_getElem?_getD, List.getD_eq_getElem?_getD, List.getElem?_map, List.getElem?_eq_getElem hl]
  rfl
theorem nx_map {row : List Int} {f : Int → Int} (r : Ren row f) {e : Int} (he : e ∈ row) : nx (row.map f) (f e) = f (nx row e) := by
  unfold nx
  rw [← r.mt e he]
  exact nxt_map r.ij (r.cl e he)
theorem ch_map {f g h : Int → Int} : ∀ {l : List Int} {x y : Int}, Ch g x l y → (∀ z ∈ x :: l, h (f z) = f (g z)) → Ch h (f x) (l.map f) (f y)
  | [], x, y, k, e => by
    have k' : g x = y := k
    show h (f x) = f y
    rw [e x List.mem_cons_self, k']
  | a :: l, x, y, k, e => by
    refine ⟨?_, ch_map k.2 fun z hz => e z (List.mem_cons_of_mem _ hz)⟩
    rw [e x List.mem_cons_self, k.1]
theorem cyc_map {f g h : Int → Int} {c : List Int} (k : Cyc g c) (e : ∀ z ∈ c, h (f z) = f (g z)) : Cyc h (c.map f) := by
  obtain ⟨x, l, rfl, k⟩ := k
  exact ⟨f x, l.map f, rfl, ch_map k e⟩
theorem flat_map (f : Int → Int) : ∀ C : List (List Int), (C.map (List.map f)).flatten = C.flatten.map f
  | [] => rfl
  | c :: C => by
    rw [List.map_cons, List.flatten_cons, List.flatten_cons, List.map_append, flat_map f C]
theorem cycles_map {row : List Int} {f g h : Int → Int} {C : List (List Int)} (k : Cycles row g C) (e : ∀ z ∈ row, h (f z) = f (g z)) : Cycles (row.map f) h (C.map (List.map f)) := by
  refine ⟨by rw [flat_map]; exact k.all.map f, fun c hc => ?_⟩
  obtain ⟨c0, h0, rfl⟩ := List.mem_map.mp hc
  exact cyc_map (k.cyc c0 h0) fun z hz => e z (k.all.mem_iff.mp (List.mem_flatten.mpr ⟨c0, h0, hz⟩))
theorem turn_map {a b : List Int} (f : Int → Int) (t : Wd.Turn a b) : Wd.Turn (a.map f) (b.map f) := by
  obtain ⟨u, v, rfl, rfl⟩ := t
  exact ⟨u.map f, v.map f, List.map_append, List.map_append⟩
theorem cyc_ne {f : Int → Int} {c : List Int} (k : Cyc f c) : c ≠ [] := by
  obtain ⟨x, l, rfl, _⟩ := k
  exact fun z => by cases z
theorem rims_map {row : List Int} {f : Int → Int} {R W : List (List Int)} (r : Ren row f) (h : RimsOf row R) (p : W.Perm (R.map fun c => leastT (c.map f))) (s : W.Pairwise (· ≤ ·)) : RimsOf (row.map f) W := by
  obtain ⟨C, hc, hp, _⟩ := h
  refine ⟨C.map (List.map f), cycles_map hc fun z hz => nx_map r hz, p.trans ?_, s⟩
  have e : (C.map leastT).map (fun c => leastT (c.map f)) = (C.map (List.map f)).map leastT := by
    rw [List.map_map, List.map_map]
    refine List.map_congr_left fun c h0 => ?_
    exact (leastT_eq (turn_map f (leastT_turn (cyc_ne (hc.cyc c h0))))).symm
  rw [← e]
  exact hp.map _
theorem nxt_rev {row : List Int} (nd : row.Nodup) {x : Int} (hx : x ∈ row) : nxt row.reverse (nxt row x) = x := by
  have hne : row ≠ [] := fun z => by rw [z] at hx; cases hx
  obtain ⟨i, hi, ex⟩ := List.mem_iff_getElem.mp hx
  have gi : row[i]? = some x := by rw [List.getElem?_eq_getElem hi, ex]
  have ii : row.idxOf x = i := idx_get nd gi
  have hl : (i + 1) % row.length < row.length := Nat.mod_lt _ (List.length_pos_iff.mpr hne)
  have g2 : row[(i + 1) % row.length]? = some (nxt row x) := by
    have := nxt_at (e := x) hne
    rw [ii] at this
    exact this
  have ndr : row.reverse.Nodup := (List.reverse_perm row).nodup_iff.mpr nd
  have g3 : row.reverse[row.length - 1 - (i + 1) % row.length]? = some (nxt row x) := by
    rw [List.getElem?_reverse (by omega)]
    have : row.length - 1 - (row.length - 1 - (i + 1) % row.length) = (i + 1) % row.length := by omega
    rw [this]
    exact g2
  have i3 := idx_get ndr g3
  have hner : row.reverse ≠ [] := fun z => hne (List.reverse_eq_nil_iff.mp z)
  have g4 := nxt_at (e := nxt row x) hner
  rw [i3, List.length_reverse] at g4
  have e5 : (row.length - 1 - (i + 1) % row.length + 1) % row.length = row.length - 1 - i := by
    by_cases c : i + 1 < row.length
    · rw [Nat.mod_eq_of_lt c, Nat.mod_eq_of_lt (by omega)]
      omega
    · have : i + 1 = row.length := by omega
      rw [this, Nat.mod_self, Nat.sub_zero]
      have h2 : row.length - 1 + 1 = row.length := by omega
      rw [h2, Nat.mod_self]
      omega
  rw [e5, List.getElem?_reverse (by omega)] at g4
  have e6 : row.length - 1 - (row.length - 1 - i) = i := by omega
  rw [e6, gi] at g4
  exact (Option.some.inj g4).symm
theorem nx_rev {row : List Int} {n : Nat} (pm : row.Perm (rgI (2 * n))) {a : Int} (ha : a ∈ row) : nx row.reverse (Wd.mate (nx row a)) = Wd.mate a := by
  unfold nx
  rw [Wd.mate_mate]
  exact nxt_rev (row_nodup pm) (mate_row pm ha)
theorem ch_rev {f g h : Int → Int} : ∀ {l : List Int} {x y : Int}, Ch f x l y → (∀ z ∈ x :: l, h (g (f z)) = g z) → Ch h (g y) (l.reverse.map g) (g x)
  | [], x, y, k, e => by
    have k' : f x = y := k
    show h (g y) = g x
    rw [← k']
    exact e x List.mem_cons_self
  | a :: l, x, y, k, e => by
    have ih := ch_rev k.2 fun z hz => e z (List.mem_cons_of_mem _ hz)
    rw [List.reverse_cons, List.map_append]
    refine Cy.ch_snoc ih ?_
    rw [← k.1]
    exact e x List.mem_cons_self
theorem cyc_rev {f g h : Int → Int} {c : List Int} (k : Cyc f c) (e : ∀ z ∈ c, h (g (f z)) = g z) : Cyc h (c.reverse.map g) := by
  obtain ⟨x, l, rfl, k⟩ := k
  have q : Cyc h (g x :: l.reverse.map g) := ⟨g x, l.reverse.map g, rfl, ch_rev k e⟩
  refine Cy.cyc_of_turn q ⟨[g x], l.reverse.map g, rfl, ?_⟩
  rw [List.reverse_cons, List.map_append]
  rfl
theorem flat_rev (g : Int → Int) : ∀ C : List (List Int), ((C.map fun c => c.reverse.map g).flatten).Perm (C.flatten.map g)
  | [] => List.Perm.refl _
  | c :: C => by
    rw [List.map_cons, List.flatten_cons, List.flatten_cons, List.map_append]
    exact ((List.reverse_perm c).map g).append (flat_rev g C)
theorem mates_perm {row : List Int} {n : Nat} (pm : row.Perm (rgI (2 * n))) : (row.map Wd.mate).Perm row := by
  have nd := row_nodup pm
  have nd2 : (row.map Wd.mate).Nodup := by
    show List.Pairwise _ _
    rw [List.pairwise_map]
    exact List.Pairwise.imp (fun {a b} h e => h (by have := congrArg Wd.mate e; rwa [Wd.mate_mate, Wd.mate_mate] at this)) nd
  refine (List.perm_ext_iff_of_nodup nd2 nd).mpr fun a => ⟨fun h => ?_, fun h => ?_⟩
  · obtain ⟨b, hb, rfl⟩ := List.mem_map.mp h
    exact mate_row pm hb
  · exact List.mem_map.mpr ⟨Wd.mate a, mate_row pm h, Wd.mate_mate a⟩
theorem rims_rev {row : List Int} {n : Nat} {R W : List (List Int)} (pm : row.Perm (rgI (2 * n))) (h : RimsOf row R) (p : W.Perm (R.map fun c => leastT (c.reverse.map Wd.mate))) (s : W.Pairwise (· ≤ ·)) : RimsOf row.reverse W := by
  obtain ⟨C, hc, hp, _⟩ := h
  refine ⟨C.map fun c => c.reverse.map Wd.mate, ⟨?_, fun c h0 => ?_⟩, p.trans ?_, s⟩
  · exact (flat_rev Wd.mate C).trans ((hc.all.map Wd.mate).trans ((mates_perm pm).trans (List.reverse_perm row).symm))
  · obtain ⟨c0, h1, rfl⟩ := List.mem_map.mp h0
    exact cyc_rev (hc.cyc c0 h1) fun z hz => nx_rev pm (hc.all.mem_iff.mp (List.mem_flatten.mpr ⟨c0, h1, hz⟩))
  · have e : (C.map leastT).map (fun c => leastT (c.reverse.map Wd.mate)) = (C.map fun c => c.reverse.map Wd.mate).map leastT := by
      rw [List.map_map, List.map_map]
      refine List.map_congr_left fun c h0 => ?_
      have t := leastT_turn (cyc_ne (hc.cyc c h0))
      obtain ⟨u, v, e1, e2⟩ := t
      refine leastT_eq ?_
      show Wd.Turn ((leastT c).reverse.map Wd.mate) (c.reverse.map Wd.mate)
      rw [e2, e1, List.reverse_append, List.reverse_append, List.map_append, List.map_append]
      exact ⟨_, _, rfl, rfl⟩
    rw [← e]
    exact hp.map _
def IsMin (S : List (List Int)) (m : List Int) : Prop := m ∈ S ∧ ∀ x ∈ S, m ≤ x
theorem IsMin.one {S : List (List Int)} {a b : List Int} (h : IsMin S a) (k : IsMin S b) : a = b := List.le_antisymm (h.2 b k.1) (k.2 a h.1)
theorem IsMin.congr {S S' : List (List Int)} {a : List Int} (h : IsMin S a) (e : ∀ x, x ∈ S ↔ x ∈ S') : IsMin S' a := ⟨(e a).mp h.1, fun x hx => h.2 x ((e x).mpr hx)⟩
def LeastN (row m : List Int) : Prop := IsMin ((turns row).map named) m
theorem LeastN.turn {row row2 m : List Int} (hne : row ≠ []) (t : Wd.Turn row row2) (h : LeastN row m) : LeastN row2 m := by
  have hne2 : row2 ≠ [] := fun z => hne ((turn_nil t).mpr z)
  refine h.congr fun x => ?_
  simp only [List.mem_map]
  exact ⟨fun ⟨y, hy, e⟩ => ⟨y, (mem_turns hne2).mpr (t.symm.trans ((mem_turns hne).mp hy)), e⟩, fun ⟨y, hy, e⟩ => ⟨y, (mem_turns hne).mpr (t.trans ((mem_turns hne2).mp hy)), e⟩⟩
theorem turns_map (f : Int → Int) (row : List Int) : turns (row.map f) = (turns row).map (List.map f) := by
  unfold turns turnAt
  rw [List.length_map, List.map_map]
  refine List.map_congr_left fun i _ => ?_
  show (row.map f).drop i ++ (row.map f).take i = (row.drop i ++ row.take i).map f
  rw [List.map_append, List.map_drop, List.map_take]
theorem LeastN.ren {row m : List Int} {f : Int → Int} (hne : row ≠ []) (r : Ren row f) (h : LeastN row m) : LeastN (row.map f) m := by
  have e : (turns (row.map f)).map named = (turns row).map named := by
    rw [turns_map, List.map_map]
    refine List.map_congr_left fun t ht => ?_
    exact Nm.named_ren r fun x hx => (Cy.turn_perm ((mem_turns hne).mp ht)).mem_iff.mpr hx
  unfold LeastN
  rw [e]
  exact h
theorem names_ren {t : List Int} {n : Nat} (pm : t.Perm (rgI (2 * n))) : Ren t (look (nmAll [] t)) ∧ ∀ a ∈ t, 0 ≤ look (nmAll [] t) a ∧ look (nmAll [] t) a < 2 * n := by
  have nz := Nm.Nz.nil.all t
  have k1 : ∀ x ∈ t, x ∈ keys (nmAll [] t) := Nm.all_keys
  have k2 : ∀ x ∈ keys (nmAll [] t), x ∈ t := Nm.all_sub (fun a ha => mate_row pm ha) (fun _ h => nomatch h) fun _ h => h
  have pk : (keys (nmAll [] t)).Perm t := (List.perm_ext_iff_of_nodup nz.nd (row_nodup pm)).mpr fun a => ⟨k2 a, k1 a⟩
  have ln : (nmAll [] t).length = 2 * n := by
    have a1 := pk.length_eq
    have a2 := perm_len pm
    have a3 : (keys (nmAll [] t)).length = (nmAll [] t).length := List.length_map ..
    omega
  refine ⟨⟨fun a ha b hb => nz.ij a (k1 a ha) b (k1 b hb), fun a ha => nz.mt a (k1 a ha), fun a ha => mate_row pm ha⟩, fun a ha => ?_⟩
  have := nz.rg a (k1 a ha)
  rw [ln] at this
  omega
end Tt
set_option maxRecDepth 100000
set_option maxHeartbeats 4000000
namespace Tt
open PySem L2
open Nm (Ren named keys look nmAll nmStep)
section
variable {P : Program} {w : World} {K : PySem.W.Frag} {mg : Str → Option Value} {base : Heap}
theorem trn_turn (row : List Int) : Wd.Turn row (trn row) := ⟨row.take (row.idxOf 0), row.drop (row.idxOf 0), (List.take_append_drop _ row).symm, rfl⟩
def spMirrored (T : Txt K mg) : Sp := fun vs H Q E => ∃ (v : V), vs = [v] ∧ ((SkV T H v false ∧ SkErr T H E) ∨ ∃ (p : Addr) (row : List Int) (n : Nat), v = .ref p ∧ SkAt T H p row ∧ 1 ≤ n ∧ n ≤ 6 ∧ row.Perm (rgI (2 * n)) ∧
  ∀ q H', Same H H' → SkAt T H' q (trn row.reverse) → Q (.ref q) H')
theorem ok_mirrored (T : Txt K mg) : FnOk P w K mg base (L2.CX P w) 6 T.mirrored.a T.mirrored.fd ["skin"] (spMirrored T) := by
  refine T.mirrored.F.okX sc_mirrored (fun vs H Q E h => ?_) (fun cdv A outer s H vs Q E hr h => ?_)
  · obtain ⟨v, rfl, _⟩ := h
    rfl
  · obtain ⟨v, rfl, h⟩ := h
    have nd := sc_mirrored.nd
    have hu := hu_of hr
    refine ⟨_, (pss_cons (ps_expr (pe_callS (ok_check_skin T) (hr.mono (by decide)) (by rfl) T.check_skin.g T.check_skin.k T.check_skin.b (fun σ => passAt (takes_of rfl rfl rfl rfl) σ) (pa_cons (pv 0) pa_nil)))
    (pss_one (ps_ret (pe_make T.Skin.kk (ok_Skin_init T) (hr.mono (by decide)) (by rfl) T.Skin.g T.Skin.b .nil passF (pa_cons (pe_revTF (pe_fld (pv 0) rfl)) pa_nil))))), ?_⟩
    rcases h with ⟨hv, he⟩ | ⟨p, row, n, rfl, sk, n1, n6, pm, k⟩
    · exact ⟨v, rfl, v, false, rfl, hv, (fun z => nomatch z), fun _ => he⟩
    · refine ⟨_, rfl, _, true, rfl, sk.v, (fun _ => ?_), fun z => nomatch z⟩
      obtain ⟨dx, r, q0, a1, a2, a3⟩ := id sk
      refine ⟨_, rfl, p, T.Skin.C, dx, _, _, rfl, a1, T.Skin.c, nRow T, skF_row .., r, _, rfl, a2.sq, fun t ob ht hob => ?_⟩
      have s1 : Same H (upd H t (.frz ob (.tup (row.map V.int).reverse))) := same_new ht
      have ft : FzT (upd H t (.frz ob (.tup (row.map V.int).reverse))) t (row.reverse.map V.int) := by
        rw [List.map_reverse]
        exact FzT.new hob
      generalize upd H t (.frz ob (.tup (row.map V.int).reverse)) = H1 at s1 ft
      refine fun p2 dx2 hp2 hdx2 ne2 => ?_
      have sA : Same H1 (upd (upd H1 dx2 (.own p2)) p2 (.ins T.Skin.C dx2 [])) := (same_new hdx2).trans (same_new (by rw [upd_ne ne2.symm]; exact hp2))
      refine ⟨p2, dx2, _, rfl, upd_same, .inr ⟨t, n, row.reverse, rfl, .inr (FzT.same ft sA), n1, n6, (List.reverse_perm row).trans pm, fun H6 sk6 kp => ⟨rfl, ?_⟩⟩⟩
      exact k p2 H6 (fun b o hb => kp b o (sA b o (s1 b o hb)) (ne_of_none (s1 b o hb) hp2)) sk6
end
end Tt
set_option maxRecDepth 100000
set_option maxHeartbeats 4000000
namespace Tt
open PySem L2
open Nm (Ren named keys look nmAll nmStep)
section
variable {P : Program} {w : World} {K : PySem.W.Frag} {mg : Str → Option Value} {base : Heap}
theorem _root_.L2.Same.none {H H' : Hp} {p : Addr} (s : Same H H') (h : H' p = none) : H p = none := by
  cases e : H p with
  | none => rfl
  | some o =>
    have z := s _ _ e
    rw [h] at z
    cases z
def dN (ds : List (Int × Int)) : List (Key × V) := ds.map fun p => (Sum.inl p.1, V.int p.2)
theorem dN_get (e : Int) : ∀ ds : List (Int × Int), valV (dN ds) (Sum.inl e) = (ds.lookup e).map V.int
  | [] => rfl
  | (k, v) :: ds => by
    by_cases h : k = e
    · subst h
      rw [show dN ((k, v) :: ds) = (Sum.inl k, V.int v) :: dN ds from rfl, valV_pos rfl]
      simp [List.lookup]
    · have hb : (e == k) = false := by simpa using fun z : e = k => h z.symm
      rw [show dN ((k, v) :: ds) = (Sum.inl k, V.int v) :: dN ds from rfl, valV_neg (fun z => h (Sum.inl.inj z)), dN_get e ds, List.lookup, hb]
theorem dN_in {ds : List (Int × Int)} {e : Int} (h : e ∈ keys ds) : valV (dN ds) (Sum.inl e) = some (.int (look ds e)) := by
  obtain ⟨v, hv⟩ := Nm.lookup_key.mp h
  rw [dN_get]
  unfold look
  rw [hv]
  rfl
theorem dN_out {ds : List (Int × Int)} {e : Int} (h : e ∉ keys ds) : valV (dN ds) (Sum.inl e) = none := by
  rw [dN_get]
  cases q : ds.lookup e with
  | none => rfl
  | some v => exact absurd (Nm.lookup_key.mpr ⟨v, q⟩) h
theorem dN_put {ds : List (Int × Int)} {e v : Int} (h : e ∉ keys ds) : putK (dN ds) (Sum.inl e) (.int v) = dN (ds ++ [(e, v)]) := by
  unfold putK
  rw [if_neg]
  · unfold dN
    rw [List.map_append]
    rfl
  · intro z
    obtain ⟨x, hx, hd⟩ := List.any_eq_true.mp z
    obtain ⟨p, hp, rfl⟩ := List.mem_map.mp hx
    have := of_decide_eq_true hd
    have e2 : p.1 = e := Sum.inl.inj this
    exact h (e2 ▸ List.mem_map.mpr ⟨p, hp, rfl⟩)
theorem dN_len (ds : List (Int × Int)) : (dN ds).length = ds.length := List.length_map ..
theorem nmAll_snoc : ∀ (l : List Int) (ds : List (Int × Int)) (e : Int), nmAll ds (l ++ [e]) = nmStep (nmAll ds l) e
  | [], _, _ => rfl
  | a :: l, ds, e => nmAll_snoc l (nmStep ds a) e
theorem nmAll_len : ∀ (l : List Int) (ds : List (Int × Int)), (nmAll ds l).length ≤ ds.length + 2 * l.length
  | [], _ => Nat.le_add_right _ _
  | a :: l, ds => by
    have h := nmAll_len l (nmStep ds a)
    have h2 : (nmStep ds a).length ≤ ds.length + 2 := by
      unfold nmStep
      split
      · exact Nat.le_add_right _ _
      · rw [List.length_append]
        exact Nat.le_refl _
    show (nmAll (nmStep ds a) l).length ≤ ds.length + 2 * (l.length + 1)
    omega
theorem turnAt_stp {row : List Int} {n start i : Nat} (pm : row.Perm (rgI (2 * n))) (hs : start < row.length) (hi : i < row.length) {x : Int} (hx : row[start]? = some x) : (turnAt row start)[i]? = some (stp row x i) := by
  have hne : row ≠ [] := fun z => by rw [z] at hs; simp at hs
  have ix : row.idxOf x = start := idx_get (row_nodup pm) hx
  have := stp_at (e := x) (d := i) hne
  rw [ix] at this
  rw [turnAt_get hs hi]
  exact this
def spRead (T : Txt K mg) : Sp := fun vs H Q _ => ∃ (p : Addr) (row : List Int) (n : Nat) (st : Nat), vs = [.ref p, .int (st : Int)] ∧ SkAt T H p row ∧ 1 ≤ n ∧ n ≤ 6 ∧ row.Perm (rgI (2 * n)) ∧ st < row.length ∧
  ∀ q H', H q = none → Same H H' → H' q = some (.lst ((named (turnAt row st)).map V.int)) → Q (.ref q) H'
theorem ok_row_read_from (T : Txt K mg) : FnOk P w K mg base CX0 2 T.row_read_from.a T.row_read_from.fd ["skin", "start"] (spRead T) := by
  refine T.row_read_from.F.ok sc_row_read_from (fun vs H Q E h => ?_) (fun cdv A outer s H vs Q E hr h => ?_)
  · obtain ⟨p, row, n, st, rfl, _⟩ := h
    rfl
  · obtain ⟨p, row, n, st, rfl, sk, n1, n6, pm, hst, k⟩ := h
    have nd := sc_row_read_from.nd
    have hu := hu_of hr
    have hlen := perm_len pm
    obtain ⟨x, hx⟩ : ∃ x, row[st]? = some x := ⟨_, List.getElem?_eq_getElem hst⟩
    have hxr : x ∈ row := List.mem_of_getElem? hx
    have bx := (perm_mem pm).mp hxr
    have lt : (turnAt row st).length = row.length := turnAt_lenL row st
    have memT : ∀ z ∈ turnAt row st, z ∈ row := fun z hz => (Cy.turn_perm (turnAt_turn st)).mem_iff.mpr hz
    refine ⟨_, (pss_cons (ps_set (i := 2) nd rfl (Or.inr rfl) pe_dnewK)
    (pss_cons (ps_for PassesOwn.never rfl (pi_range1 rfl T.zrange (pa_cons (pe_callB call_len_seq (by rfl) T.zlen (by decide +kernel) (pa_cons (pe_fld (pv 0) rfl) pa_nil)) pa_nil)) (pg_name (i := 3) nd rfl (Or.inl rfl))
      (pss_cons (ps_set (i := 4) nd rfl (Or.inl rfl) (pe_call (ok_end_behind T) (hr.mono (by decide)) (by rfl) T.end_behind.g T.end_behind.k T.end_behind.b .nil pass0 (pa_cons (pv 0) (pa_cons (pe_ix ix_tup (pe_fld (pv 0) rfl) (pv 1) (fun _ _ => rfl)) (pa_cons (pv 3) pa_nil)))))
      (pss_one (ps_if (pt_cmp (pc_dnotin hu (pv 4) (pv 2)))
        (pss_cons (ps_dput hu (pv 2) (pv 4) (pe_callB call_lenD (by rfl) T.zlen (by decide +kernel) (pa_cons (pv 2) pa_nil)) rfl)
        (pss_one (ps_dput hu (pv 2) (pe_op op_xor (pv 4) pe_int) (pe_op op_add (pe_dget hu (pv 2) (pv 4) (fun _ _ => rfl)) pe_int) rfl)))
        pss_nil))))
    (pss_one (ps_ret (pe_lc (own := [("at", 3)]) (g := gName 3) rfl nd (pi_range1 rfl T.zrange (pa_cons (pe_callB call_len_seq (by rfl) T.zlen (by decide +kernel) (pa_cons (pe_fld (pv 0) rfl) pa_nil)) pa_nil)) (blkOk_by (own := [("at", 3)]) (N := N_row_read_from) (sc := defScope s_row_read_from) (by decide +kernel)) (fun _ _ _ _ _ => pg_name (i := 3) nd rfl (Or.inl rfl)) (fun _ _ _ _ _ => pts_nil) (fun _ _ _ _ _ => (pe_dget hu (pv 2) (pe_call (ok_end_behind T) (hr.mono (by decide)) (by rfl) T.end_behind.g T.end_behind.k T.end_behind.b .nil pass0 (pa_cons (pv 0) (pa_cons (pe_ix (ix_tupK (K := K) rfl) (pe_fldK (K := K) rfl (pv 0) rfl) (pv 1) (fun _ _ => rfl)) (pa_cons (pv 3) pa_nil)))) (fun _ _ => rfl)))))))), ?_⟩
    refine fun d hd => ?_
    have s1 : Same H (upd H d (.dK [])) := same_new hd
    have e1 : (upd H d (.dK [])) d = some (.dK (dN (nmAll [] ((turnAt row st).take 0)))) := upd_same
    generalize upd H d (.dK []) = H1 at s1 e1
    obtain ⟨dx, r, q0, a1, a2, a3⟩ := id (sk.same s1)
    refine ⟨_, rfl, p, T.Skin.C, dx, _, _, rfl, a1, T.Skin.c, nRow T, skF_row .., r, _, rfl, .inr a2.sq, _, rfl, by omega, by rw [List.length_map]; omega, ?_⟩
    refine for_range (lo := 0) (n := ((row.map V.int).length : Int).toNat) (fun i σ H' => ∃ v3 v4, σ = [some (.ref p), some (.int (st : Int)), some (.ref d), v3, v4] ∧ H' d = some (.dK (dN (nmAll [] ((turnAt row st).take i)))) ∧ Same H H') ⟨none, none, rfl, e1, s1⟩ ?_ ?_
    · rintro i σ H2 hi ⟨v3, v4, rfl, e2, s2⟩
      have hil : i < row.length := by rw [List.length_map] at hi; omega
      obtain ⟨dx2, r2, q2, b1, b2, b3⟩ := id (sk.same s2)
      refine ⟨_, rfl, _, rfl, p, T.Skin.C, dx2, _, _, rfl, b1, T.Skin.c, nRow T, skF_row .., ?_⟩
      have ex2 : [some (V.ref p), some (V.int (st : Int)), some (V.ref d), v3, v4].set 3 (some (V.int (0 + (i : Int)))) = [some (V.ref p), some (V.int (st : Int)), some (V.ref d), some (V.int (i : Int)), v4] := by rw [Int.zero_add]; rfl
      rw [ex2]
      refine ⟨_, rfl, r2, _, _, _, rfl, rfl, b2.sq, atI_n (v := .int x) (ints_get hx), _, rfl, p, row, n, x, i, rfl, sk.same s2, n6, pm, bx.1, by have := bx.2; omega, ?_⟩
      have gt := turnAt_stp pm hst hil hx
      have et : (turnAt row st).take (i + 1) = (turnAt row st).take i ++ [stp row x i] := by rw [List.take_add_one, gt]; rfl
      have er : stp row x i ∈ row := memT _ (List.mem_of_getElem? gt)
      have be := (perm_mem pm).mp er
      rw [et, nmAll_snoc]
      have dl := nmAll_len ((turnAt row st).take i) []
      rw [List.length_take, List.length_nil] at dl
      have nz := Nm.Nz.nil.all ((turnAt row st).take i)
      generalize stp row x i = e at er be
      generalize nmAll [] ((turnAt row st).take i) = ds at e2 dl nz
      clear gt et ex2
      refine ⟨_, rfl, _, rfl, d, valV (dN ds) (Sum.inl e), rfl, DGet.k (k := Sum.inl e) e2, _, rfl, ?_⟩
      by_cases q : e ∈ keys ds
      · rw [dN_in q]
        refine iteF ⟨_, _, rfl, ?_, s2⟩
        rw [show nmStep ds e = ds from if_pos q]
        exact e2
      · obtain ⟨es, l1, l2⟩ := Nm.step_new q (nz.off q)
        rw [dN_out q]
        refine iteT ⟨_, rfl, d, _, rfl, e2, _, rfl, _, rfl, d, _, rfl, DPut.k (k := Sum.inl e) e2 (by rw [dN_len]; exact small1000 (by omega)), ?_⟩
        rw [dN_len, dN_put q]
        have e3 : (upd H2 d (.dK (dN (ds ++ [(e, (ds.length : Int))])))) d = some (.dK (dN (ds ++ [(e, (ds.length : Int))]))) := upd_same
        have s3 : Same H (upd H2 d (.dK (dN (ds ++ [(e, (ds.length : Int))])))) := fun b o hb => by
          rw [upd_ne (ne_of_none hb hd)]
          exact s2 b o hb
        generalize upd H2 d (.dK (dN (ds ++ [(e, (ds.length : Int))]))) = H3 at e3 s3
        have ke : e ∈ keys (ds ++ [(e, (ds.length : Int))]) := by rw [Nm.keys_app]; exact List.mem_append_right _ List.mem_cons_self
        have le : look (ds ++ [(e, (ds.length : Int))]) e = ds.length := by
          unfold look
          rw [Nm.lookup_app, if_neg q]
          simp [List.lookup]
        have g3 : DGet H3 d (.int e) (some (.int (ds.length : Int))) := by
          have := DGet.k (k := Sum.inl e) e3
          rw [dN_in ke, le] at this
          exact this
        have km : Wd.mate e ∉ keys (ds ++ [(e, (ds.length : Int))]) := by
          rw [Nm.keys_app, List.mem_append]
          rintro (z | z)
          · exact nz.off q z
          · exact Nm.mate_ne e (List.mem_singleton.mp z)
        have xe : Builtin.bitXor e 1 = Wd.mate e := xor_mate be.1 (by have := be.2; omega)
        refine ⟨_, rfl, _, rfl, d, _, rfl, g3, _, _, rfl, rfl, _, rfl, _, rfl, _, _, rfl, rfl, d, _, rfl, DPut.k (k := Sum.inl (Builtin.bitXor e 1)) e3 (by rw [dN_len, List.length_append]; exact small1000 (by show ds.length + 1 ≤ _; omega)), ?_⟩
        refine ⟨_, _, rfl, ?_, fun b o hb => ?_⟩
        · rw [upd_same, xe, es]
          have := dN_put (v := (ds.length : Int) + 1) km
          rw [List.append_assoc] at this
          exact congrArg (fun z => some (HO.dK z)) this
        · rw [upd_ne (ne_of_none hb hd)]
          exact s3 b o hb
    · rintro σ H2 ⟨v3, v4, rfl, e2, s2⟩
      obtain ⟨dx2, r2, q2, b1, b2, b3⟩ := id (sk.same s2)
      rw [List.length_map, Int.toNat_natCast, ← lt, List.take_length] at e2
      refine ⟨_, rfl, p, T.Skin.C, dx2, _, _, rfl, b1, T.Skin.c, nRow T, skF_row .., r2, _, rfl, .inr b2.sq, _, rfl, by omega, by rw [List.length_map]; omega, fun D1 hD1 => ?_⟩
      have nDd : D1 ≠ d := fun z => by rw [z, e2] at hD1; cases hD1
      refine lc_range (lo := 0) (n := ((row.map V.int).length : Int).toNat) (fun i H' => H' D1 = some (.lst (((named (turnAt row st)).take i).map V.int)) ∧ Same H2 H') ⟨upd_same, same_new hD1⟩ ?_ ?_
      · rintro i H3 hi ⟨h3, s3⟩
        have hil : i < row.length := by rw [List.length_map] at hi; omega
        refine ⟨rfl, yes_t ?_⟩
        obtain ⟨dx3, r3, q3, c1, c2, c3⟩ := id (sk.same (s2.trans s3))
        have gt := turnAt_stp pm hst hil hx
        have km := Nm.all_keys (ds := []) _ (List.mem_of_getElem? gt)
        have g3 : DGet H3 d (.int (stp row x i)) (some (.int (look (nmAll [] (turnAt row st)) (stp row x i)))) := by
          have := DGet.k (k := Sum.inl (stp row x i)) (s3 _ _ e2)
          rw [dN_in km] at this
          exact this
        refine ⟨_, rfl, _, rfl, _, rfl, p, T.Skin.C, dx3, _, _, rfl, c1, T.Skin.c, nRow T, skF_row .., _, rfl, r3, _, _, _, rfl, rfl, c2.sq, atI_n (v := .int x) (ints_get hx), _, rfl, p, row, n, x, i, (by rw [Int.zero_add]; rfl), sk.same (s2.trans s3), n6, pm, bx.1, (by have := bx.2; omega), d, _, rfl, g3, ?_⟩
        have gn : (named (turnAt row st))[i]? = some (look (nmAll [] (turnAt row st)) (stp row x i)) := by
          rw [Nm.named_all, List.getElem?_map, gt]
          rfl
        refine ⟨_, h3, by rw [List.length_map, List.length_take]; exact small1000 (by omega), ?_, fun b o hb => ?_⟩
        · rw [upd_same, List.take_add_one, gn, List.map_append]
          rfl
        · rw [upd_ne (ne_of_none hb hD1)]
          exact s3 b o hb
      · rintro H3 ⟨h3, s3⟩
        refine k D1 H3 (s2.none hD1) (s2.trans s3) ?_
        rw [h3, List.length_map, Int.toNat_natCast, ← lt, ← Nm.named_len, List.take_length]
end
end Tt
set_option maxRecDepth 100000
set_option maxHeartbeats 4000000
namespace Tt
open PySem L2
open Nm (Ren named keys look nmAll nmStep)
section
variable {P : Program} {w : World} {K : PySem.W.Frag} {mg : Str → Option Value} {base : Heap}
theorem map_perm {t : List Int} {n : Nat} {f : Int → Int} (pm : t.Perm (rgI (2 * n))) (r : Ren t f) (b : ∀ a ∈ t, 0 ≤ f a ∧ f a < 2 * n) : (t.map f).Perm (rgI (2 * n)) := by
  have nd := row_nodup pm
  have nd2 : (t.map f).Nodup := by
    show List.Pairwise _ _
    rw [List.pairwise_map]
    exact List.Pairwise.imp_of_mem (fun {a b} ha hb h e => h (r.ij a ha b hb e)) nd
  have sub : ∀ x ∈ t.map f, x ∈ rgI (2 * n) := fun x hx => by
    obtain ⟨a, ha, rfl⟩ := List.mem_map.mp hx
    exact (perm_mem (List.Perm.refl _)).mpr (by have := b a ha; omega)
  have ln : (t.map f).length = (rgI (2 * n)).length := by rw [List.length_map, pm.length_eq]
  refine (List.perm_ext_iff_of_nodup nd2 (rgI_nodup _)).mpr fun x => ⟨sub x, fun hx => Classical.byContradiction fun z => ?_⟩
  have nd3 : (x :: t.map f).Nodup := List.nodup_cons.mpr ⟨z, nd2⟩
  have := nd3.length_le_of_subset (l₂ := rgI (2 * n)) fun y hy => by
    rcases List.mem_cons.mp hy with rfl | hy
    · exact hx
    · exact sub y hy
  rw [List.length_cons, ln] at this
  omega
theorem named_perm {t : List Int} {n : Nat} (pm : t.Perm (rgI (2 * n))) : (named t).Perm (rgI (2 * n)) := by
  obtain ⟨r, b⟩ := names_ren pm
  rw [Nm.named_all]
  exact map_perm pm r b
theorem named_zero : ∀ {t : List Int}, t ≠ [] → ∃ l, named t = 0 :: l
  | [], h => absurd rfl h
  | e :: l, _ => by
    refine ⟨Nm.nmd (nmStep [] e) l, ?_⟩
    show look (nmStep [] e) e :: _ = _
    have : look (nmStep [] e) e = 0 := (Nm.step_new (ds := []) (fun z => nomatch z) (fun z => nomatch z)).2.1
    rw [this]
theorem trn_zero (l : List Int) : trn (0 :: l) = 0 :: l := by
  unfold trn
  rw [show (0 :: l).idxOf 0 = 0 by simp]
  simp
theorem minR_DL : ∀ (rs : List (List Int)) (r0 : List Int), PySem.W.minD (lstD r0) (rs.map lstD) = lstD (minR r0 rs)
  | [], _ => rfl
  | y :: rs, r0 => by
    have el : PySem.W.dataLt (lstD y) (lstD r0) = PySem.W.dataLt (rowD y) (rowD r0) := by
      show PySem.W.dataLt (.list _) (.list _) = PySem.W.dataLt (.tuple _) (.tuple _)
      rw [PySem.W.dataLt_list, PySem.W.dataLt_tuple]
    show PySem.W.minD (if PySem.W.dataLt (lstD y) (lstD r0) then lstD y else lstD r0) (rs.map lstD) = lstD (minR (if PySem.W.dataLt (rowD y) (rowD r0) then y else r0) rs)
    rw [el]
    by_cases h : PySem.W.dataLt (rowD y) (rowD r0) = true
    · rw [if_pos h, if_pos h]
      exact minR_DL rs y
    · rw [if_neg h, if_neg h]
      exact minR_DL rs r0
theorem minR_min (r0 : List Int) (rs : List (List Int)) : IsMin (r0 :: rs) (minR r0 rs) := ⟨minR_mem rs r0, fun x hx => List.not_lt.mp (minR_le rs r0 x hx)⟩
def tnm (row : List Int) : List (List Int) := (turns row).map named
theorem tnm_len (row : List Int) : (tnm row).length = row.length := by unfold tnm; rw [List.length_map, turns_len]
theorem tnm_get {row : List Int} {i : Nat} (h : i < row.length) : (tnm row)[i]? = some (named (turnAt row i)) := by
  unfold tnm
  rw [List.getElem?_map, turns_get h]
  rfl
theorem tnm_facts {row : List Int} {n : Nat} (n1 : 1 ≤ n) (pm : row.Perm (rgI (2 * n))) {m : List Int} (h : m ∈ tnm row) : m.Perm (rgI (2 * n)) ∧ trn m = m := by
  obtain ⟨t, ht, rfl⟩ := List.mem_map.mp h
  have hne := row_ne pm n1
  have pt : t.Perm (rgI (2 * n)) := (Cy.turn_perm ((mem_turns hne).mp ht)).symm.trans pm
  refine ⟨named_perm pt, ?_⟩
  obtain ⟨l, e⟩ := named_zero (row_ne pt n1)
  rw [e]
  exact trn_zero l
theorem tnm_cons {row : List Int} {n : Nat} (n1 : 1 ≤ n) (pm : row.Perm (rgI (2 * n))) : ∃ r0 rs, tnm row = r0 :: rs := by
  cases e : tnm row with
  | nil =>
    have := tnm_len row
    rw [e, perm_len pm] at this
    simp at this
    omega
  | cons r0 rs => exact ⟨r0, rs, rfl⟩
def spLeastSk (T : Txt K mg) : Sp := fun vs H Q E => ∃ (v : V), vs = [v] ∧ ((SkV T H v false ∧ SkErr T H E) ∨ ∃ (p : Addr) (row : List Int) (n : Nat), v = .ref p ∧ SkAt T H p row ∧ 1 ≤ n ∧ n ≤ 6 ∧ row.Perm (rgI (2 * n)) ∧
  ∀ q m H', Same H H' → LeastN row m → SkAt T H' q m → Q (.ref q) H')
theorem ok_least_skin (T : Txt K mg) : FnOk P w K mg base (L2.CX P w) 6 T.least_skin.a T.least_skin.fd ["skin"] (spLeastSk T) := by
  refine T.least_skin.F.okX sc_least_skin (fun vs H Q E h => ?_) (fun cdv A outer s H vs Q E hr h => ?_)
  · obtain ⟨v, rfl, _⟩ := h
    rfl
  · obtain ⟨v, rfl, h⟩ := h
    have nd := sc_least_skin.nd
    have hu := hu_of hr
    refine ⟨_, (pss_cons (ps_expr (pe_callS (ok_check_skin T) (hr.mono (by decide)) (by rfl) T.check_skin.g T.check_skin.k T.check_skin.b (fun σ => passAt (takes_of rfl rfl rfl rfl) σ) (pa_cons (pv 0) pa_nil)))
    (pss_one (ps_ret (pe_make T.Skin.kk (ok_Skin_init T) (hr.mono (by decide)) (by rfl) T.Skin.g T.Skin.b .nil passF (pa_cons (pe_callB (cr_minL rfl hr.units) (by rfl) T.zmin (by decide +kernel) (pa_cons (pe_lc (own := [("start", 1)]) (g := gName 1) rfl nd (pi_range1 rfl T.zrange (pa_cons (pe_callB call_len_seq (by rfl) T.zlen (by decide +kernel) (pa_cons (pe_fld (pv 0) rfl) pa_nil)) pa_nil)) (blkOk_by (own := [("start", 1)]) (N := N_least_skin) (sc := defScope s_least_skin) (by decide +kernel)) (fun _ _ _ _ _ => pg_name (i := 1) nd rfl (Or.inl rfl)) (fun _ _ _ _ _ => pts_nil) (fun _ _ _ _ _ => (pe_call (ok_row_read_from T) (hr.mono (by decide)) (by rfl) T.row_read_from.g T.row_read_from.k T.row_read_from.b .nil pass0 (pa_cons (pv 0) (pa_cons (pv 1) pa_nil))))) pa_nil)) pa_nil))))), ?_⟩
    rcases h with ⟨hv, he⟩ | ⟨p, row, n, rfl, sk, n1, n6, pm, k⟩
    · exact ⟨v, rfl, v, false, rfl, hv, (fun z => nomatch z), fun _ => he⟩
    · refine ⟨_, rfl, _, true, rfl, sk.v, (fun _ => ?_), fun z => nomatch z⟩
      have hlen := perm_len pm
      obtain ⟨dx, r, q0, a1, a2, a3⟩ := id sk
      refine ⟨_, rfl, p, T.Skin.C, dx, _, _, rfl, a1, T.Skin.c, nRow T, skF_row .., r, _, rfl, .inr a2.sq, _, rfl, by omega, by rw [List.length_map]; omega, fun D1 hD1 => ?_⟩
      refine lc_range (lo := 0) (n := ((row.map V.int).length : Int).toNat) (fun i H' => ∃ ps : List Addr, H' D1 = some (.lst (ps.map V.ref)) ∧ Paired (fun p m => p ≠ D1 ∧ H' p = some (.lst (m.map V.int))) ps ((tnm row).take i) ∧ Same H H')
        ⟨[], upd_same, .nil, same_new hD1⟩ ?_ ?_
      · rintro i H' hi ⟨ps, h1, h2, s2⟩
        have hil : i < row.length := by rw [List.length_map] at hi; omega
        have hpl : ps.length = i := by
          have := h2.length
          rw [List.length_take, tnm_len] at this
          omega
        refine ⟨rfl, yes_t ?_⟩
        refine ⟨_, rfl, _, rfl, p, row, n, i, (by rw [Int.zero_add]; rfl), sk.same s2, n1, n6, pm, hil, fun q H4 hq s4 hq4 => ?_⟩
        have nq : q ≠ D1 := fun z => by rw [z, h1] at hq; cases hq
        refine ⟨_, s4 _ _ h1, by rw [List.length_map]; exact small1000 (by omega), ps ++ [q], ?_, ?_, fun b o hb => ?_⟩
        · rw [upd_same, List.map_append]
          rfl
        · rw [List.take_add_one, tnm_get hil]
          exact pair_snoc (pair_mono (fun a m z => ⟨z.1, by rw [upd_ne z.1]; exact s4 _ _ z.2⟩) h2) ⟨nq, by rw [upd_ne nq]; exact hq4⟩
        · rw [upd_ne (ne_of_none hb hD1)]
          exact s4 _ _ (s2 b o hb)
      · rintro H' ⟨ps, h1, h2, s2⟩
        rw [List.length_map, Int.toNat_natCast, ← tnm_len, List.take_length] at h2
        obtain ⟨r0, rs, e⟩ := tnm_cons n1 pm
        rw [e] at h2
        refine ⟨D1, ps, r0, rs, rfl, SqL.of h1, pair_mono (fun a m z => SqL.of z.2) h2, fun i pq hi hm => ?_⟩
        have hi2 : i < (r0 :: rs).length := by
          rw [← h2.length]
          exact (List.getElem?_eq_some_iff.mp hi).1
        have gm := List.getElem?_eq_getElem hi2
        have em := hm _ gm
        rw [minR_DL] at em
        have em2 := lstD_inj em
        have hq := (pair_at h2 hi gm).2
        rw [em2] at hq
        have mn := minR_min r0 rs
        rw [← e] at mn
        generalize minR r0 rs = m at hq mn
        obtain ⟨pmm, tz⟩ := tnm_facts n1 pm mn.1
        refine fun p2 dx2 hp2 hdx2 ne2 => ?_
        have sA : Same H' (upd (upd H' dx2 (.own p2)) p2 (.ins T.Skin.C dx2 [])) := (same_new hdx2).trans (same_new (by rw [upd_ne ne2.symm]; exact hp2))
        refine ⟨p2, dx2, _, rfl, upd_same, .inr ⟨pq, n, m, rfl, .inl (SqL.of (sA _ _ hq)), n1, n6, pmm, fun H6 sk6 kp => ⟨rfl, ?_⟩⟩⟩
        rw [tz] at sk6
        exact k p2 m H6 (fun b o hb => kp b o (sA b o (s2 b o hb)) (ne_of_none (s2 b o hb) hp2)) mn sk6
end
end Tt
set_option maxRecDepth 100000
set_option maxHeartbeats 4000000
namespace Tt
open PySem L2
open LamX (ExtN)
open Nm (Ren named keys look nmAll nmStep)
section
variable {P : Program} {w : World} {K : PySem.W.Frag} {mg : Str → Option Value} {base : Heap}
def lt (ls : List Int) (e : Int) : Int := ls.getD e.toNat 0
theorem lt_at {ls : List Int} {e : Int} (h0 : 0 ≤ e) (h1 : e < ls.length) : ls[e.toNat]? = some (lt ls e) := by
  have h : e.toNat < ls.length := by omega
  unfold lt
  rw [List.getD_eq_getElem?_getD, List.getElem?_eq_getElem h]
  rfl
theorem lt_get {ls : List Int} {e : Int} (h0 : 0 ≤ e) (h1 : e < ls.length) : atI (ls.map V.int) e = some (.int (lt ls e)) := by
  obtain ⟨j, rfl⟩ := Int.eq_ofNat_of_zero_le h0
  have := lt_at (ls := ls) (e := (j : Int)) (by omega) h1
  rw [Int.toNat_natCast] at this
  exact atI_n (ints_get this)
def Mts (n : Nat) (ls : List Int) : Prop := ∀ e : Nat, e < 2 * n → lt ls (Wd.mate (e : Int)) = Wd.mate (lt ls (e : Int))
def mtB (ls : List Int) (e : Nat) : Bool := decide (V.int (lt ls (Wd.mate (e : Int))) = V.int (Wd.mate (lt ls (e : Int))))
theorem mtB_all {ls : List Int} {m : Nat} : ((List.range m).map (mtB ls)).all id = true ↔ ∀ e : Nat, e < m → lt ls (Wd.mate (e : Int)) = Wd.mate (lt ls (e : Int)) := by
  rw [List.all_map, List.all_eq_true]
  constructor
  · intro h e he
    have := h e (List.mem_range.mpr he)
    exact V.int.inj (of_decide_eq_true this)
  · intro h e he
    exact decide_eq_true (congrArg V.int (h e (List.mem_range.mp he)))
def RenP (n : Nat) (xs : List V) : Prop := ∃ ls : List Int, xs = ls.map V.int ∧ ls.Perm (rgI (2 * n)) ∧ Mts n ls
inductive LetV (K : PySem.W.Frag) (H : Hp) (n : Nat) : V → Bool → Prop where
  | non {x : V} {S : String} (h : TyB K H x S) (hS : S = "NoneType" ∨ S = "int" ∨ S = "str" ∨ S = "dict") : LetV K H n x false
  | lst {p : Addr} {xs : List V} {b : Bool} (h : SqL K H p xs) (ln : xs.length ≤ 20) (ty : ∀ y ∈ xs, ∃ S, TyB K H y S ∧ S ≠ "dict" ∧ S ≠ "bytes") (hb : b = true ↔ RenP n xs) : LetV K H n (.ref p) b
  | tup {p : Addr} {xs : List V} {b : Bool} (h : SqT K H p xs) (ln : xs.length ≤ 20) (ty : ∀ y ∈ xs, ∃ S, TyB K H y S ∧ S ≠ "dict" ∧ S ≠ "bytes") (hb : b = true ↔ RenP n xs) : LetV K H n (.ref p) b
theorem LetV.ext {H H' : Hp} {n : Nat} {x : V} {b : Bool} (h : LetV K H n x b) (e : ExtN H H') : LetV K H' n x b := by
  cases h with
  | non h hS => exact .non (tyB_ext h e) hS
  | lst h n ty hb => exact .lst (sqL_ext e h) n (fun y hy => (ty y hy).elim fun S t => ⟨S, tyB_ext t.1 e, t.2⟩) hb
  | tup h n ty hb => exact .tup (sqT_ext e h) n (fun y hy => (ty y hy).elim fun S t => ⟨S, tyB_ext t.1 e, t.2⟩) hb
def spIsRen (T : Txt K mg) : Sp := fun vs H Q _ => ∃ (p : Addr) (row : List Int) (n : Nat) (x : V) (b : Bool), vs = [.ref p, x] ∧ SkAt T H p row ∧ 1 ≤ n ∧ n ≤ 6 ∧ row.Perm (rgI (2 * n)) ∧ LetV K H n x b ∧ ∀ H', Same H H' → Q (.bl b) H'
theorem ok_is_renaming (T : Txt K mg) : FnOk P w K mg base CX0 3 T.is_renaming.a T.is_renaming.fd ["skin", "letters"] (spIsRen T) := by
  refine T.is_renaming.F.ok sc_is_renaming (fun vs H Q E h => ?_) (fun cdv A outer s H vs Q E hr h => ?_)
  · obtain ⟨p, row, n, x, b, rfl, _⟩ := h
    rfl
  · obtain ⟨p, row, n, x, b, rfl, sk, n1, n6, pm, hv, k⟩ := h
    have nd := sc_is_renaming.nd
    have hu := hu_of hr
    have hlen := perm_len pm
    cases hv with
    | @non x S h hS =>
      refine ⟨_, (pss_cons (ps_if (PW.pt (pw_or (pt_not (pt_val (pe_call (ok_is_list T) (hr.mono (by decide)) (by rfl) T.is_list.g T.is_list.k T.is_list.b .nil pass0 (pa_cons (pv 1) pa_nil)))) (pw_or1 (pt_cmpR op_ne (pe_callB call_len_seq (by rfl) T.zlen (by decide +kernel) (pa_cons (pv 1) pa_nil)) (pe_callB call_len_seq (by rfl) T.zlen (by decide +kernel) (pa_cons (pe_fld (pv 0) rfl) pa_nil)) (nomark _)))))
      (pss_one (ps_ret pe_bl))
      pss_nil)
    (pss_cons (ps_if (PW.pt (pw_or (pt_not (pt_val (pe_callB (cr_all rfl) (by rfl) T.zall (by decide +kernel) (pa_cons (pe_lc (own := [("end", 2)]) (g := gName 2) rfl nd (pi_tup (pv 1)) (blkOk_by (own := [("end", 2)]) (N := N_is_renaming) (sc := defScope s_is_renaming) (by decide +kernel)) (fun _ _ _ _ _ => pg_name (i := 2) nd rfl (Or.inl rfl)) (fun _ _ _ _ _ => pts_nil) (fun _ _ _ _ _ => (pe_call (ok_is_number T) (hr.mono (by decide)) (by rfl) T.is_number.g T.is_number.k T.is_number.b .nil pass0 (pa_cons (pv 2) pa_nil)))) pa_nil)))) (pw_or1 (pt_cmpR (op_neD hr.units) (pe_callB cr_sortedS2 (by rfl) T.zsorted (by decide +kernel) (pa_cons (pv 1) pa_nil)) (pe_listRg rfl (by rfl) T.zlist (prg_1 (by rfl) T.zrange (pe_callB call_len_seq (by rfl) T.zlen (by decide +kernel) (pa_cons (pv 1) pa_nil)))) (nomark _)))))
      (pss_one (ps_ret pe_bl))
      pss_nil)
    (pss_one (ps_ret (pe_callB (cr_all rfl) (by rfl) T.zall (by decide +kernel) (pa_cons (pe_lc (own := [("end", 2)]) (g := gName 2) rfl nd (pi_range1 rfl T.zrange (pa_cons (pe_callB call_len_seq (by rfl) T.zlen (by decide +kernel) (pa_cons (pv 1) pa_nil)) pa_nil)) (blkOk_by (own := [("end", 2)]) (N := N_is_renaming) (sc := defScope s_is_renaming) (by decide +kernel)) (fun _ _ _ _ _ => pg_name (i := 2) nd rfl (Or.inl rfl)) (fun _ _ _ _ _ => pts_nil) (fun _ _ _ _ _ => (pe_cmpR op_eq (pe_ix (ix_tupK (K := K) rfl) (pv 1) (pe_op op_xor (pv 2) pe_int) (fun _ _ => rfl)) (pe_op op_xor (pe_ix (ix_tupK (K := K) rfl) (pv 1) (pv 2) (fun _ _ => rfl)) pe_int) (nomark _)))) pa_nil)))))), ?_⟩
      refine ⟨_, rfl, _, _, rfl, h, _, rfl, ?_⟩
      rcases hS with rfl | rfl | rfl | rfl <;> exact iteT (k _ fun _ _ z => z)
    | @lst t xs b h ln ty hb =>
      refine ⟨_, (pss_cons (ps_if (PW.pt (pw_or (pt_not (pt_val (pe_call (ok_is_list T) (hr.mono (by decide)) (by rfl) T.is_list.g T.is_list.k T.is_list.b .nil pass0 (pa_cons (pv 1) pa_nil)))) (pw_or1 (pt_cmpR op_ne (pe_callB call_len_seq (by rfl) T.zlen (by decide +kernel) (pa_cons (pv 1) pa_nil)) (pe_callB call_len_seq (by rfl) T.zlen (by decide +kernel) (pa_cons (pe_fld (pv 0) rfl) pa_nil)) (nomark _)))))
      (pss_one (ps_ret pe_bl))
      pss_nil)
    (pss_cons (ps_if (PW.pt (pw_or (pt_not (pt_val (pe_callB (cr_all rfl) (by rfl) T.zall (by decide +kernel) (pa_cons (pe_lc (own := [("end", 2)]) (g := gName 2) rfl nd (pi_list (pv 1)) (blkOk_by (own := [("end", 2)]) (N := N_is_renaming) (sc := defScope s_is_renaming) (by decide +kernel)) (fun _ _ _ _ _ => pg_name (i := 2) nd rfl (Or.inl rfl)) (fun _ _ _ _ _ => pts_nil) (fun _ _ _ _ _ => (pe_call (ok_is_number T) (hr.mono (by decide)) (by rfl) T.is_number.g T.is_number.k T.is_number.b .nil pass0 (pa_cons (pv 2) pa_nil)))) pa_nil)))) (pw_or1 (pt_cmpR (op_neD hr.units) (pe_callB cr_sortedS2 (by rfl) T.zsorted (by decide +kernel) (pa_cons (pv 1) pa_nil)) (pe_listRg rfl (by rfl) T.zlist (prg_1 (by rfl) T.zrange (pe_callB call_len_seq (by rfl) T.zlen (by decide +kernel) (pa_cons (pv 1) pa_nil)))) (nomark _)))))
      (pss_one (ps_ret pe_bl))
      pss_nil)
    (pss_one (ps_ret (pe_callB (cr_all rfl) (by rfl) T.zall (by decide +kernel) (pa_cons (pe_lc (own := [("end", 2)]) (g := gName 2) rfl nd (pi_range1 rfl T.zrange (pa_cons (pe_callB call_len_seq (by rfl) T.zlen (by decide +kernel) (pa_cons (pv 1) pa_nil)) pa_nil)) (blkOk_by (own := [("end", 2)]) (N := N_is_renaming) (sc := defScope s_is_renaming) (by decide +kernel)) (fun _ _ _ _ _ => pg_name (i := 2) nd rfl (Or.inl rfl)) (fun _ _ _ _ _ => pts_nil) (fun _ _ _ _ _ => (pe_cmpR op_eq (pe_ix (ix_listK (K := K) rfl) (pv 1) (pe_op op_xor (pv 2) pe_int) (fun _ _ => rfl)) (pe_op op_xor (pe_ix (ix_listK (K := K) rfl) (pv 1) (pv 2) (fun _ _ => rfl)) pe_int) (nomark _)))) pa_nil)))))), ?_⟩
      obtain ⟨dx, r, q0, a1, a2, a3⟩ := id sk
      refine ⟨_, rfl, _, _, rfl, .lst h, _, rfl, iteF ?_⟩
      refine ⟨_, rfl, t, _, rfl, .inl h, _, rfl, p, T.Skin.C, dx, _, _, rfl, a1, T.Skin.c, nRow T, skF_row .., r, _, rfl, .inr a2.sq, rfl, _, rfl, ?_⟩
      refine ite2 (fun c => ?_) (fun c => ?_)
      · have hf : b = false := by
          cases b with
          | false => rfl
          | true =>
            obtain ⟨ls, e, pml, _⟩ := hb.mp rfl
            have e1 : xs.length = (row.map V.int).length := by rw [e, List.length_map, List.length_map, perm_len pml, hlen]
            exact absurd c (by rw [e1]; simp)
        subst hf
        exact k _ fun _ _ z => z
      · have hxl : xs.length = 2 * n := by
          have c' : (!decide (V.int (xs.length : Int) = V.int ((row.map V.int).length : Int))) = false := by simpa using c
          have c2 : V.int (xs.length : Int) = V.int ((row.map V.int).length : Int) := by simpa using c'
          have := V.int.inj c2
          rw [List.length_map, hlen] at this
          omega
        refine ⟨_, rfl, t, rfl, ⟨_, h⟩, fun D1 hD1 => lc_list (K := K) (a := t) (xs := xs) (fun i H' => H' D1 = some (.lst (((xs.take i).map isI).map V.bl)) ∧ Same H H')
          ⟨upd_same, same_new hD1⟩ (fun i H' _ z => sqL_ext (.of z.2) h) ?_ ?_⟩
        · rintro i y H' hi ⟨h1, s2⟩
          have hil : i < xs.length := (List.getElem?_eq_some_iff.mp hi).1
          obtain ⟨S, ty', _⟩ := ty y (List.mem_of_getElem? hi)
          refine ⟨rfl, yes_t ?_⟩
          refine ⟨_, rfl, _, S, rfl, TyB.same ty' s2, _, h1, ?_, ?_, fun b o hb => ?_⟩
          · rw [List.length_map, List.length_map, List.length_take]
            exact small1000 (by omega)
          · rw [upd_same, List.take_add_one, hi, List.map_append, List.map_append]
            rfl
          · rw [upd_ne (ne_of_none hb hD1)]
            exact s2 b o hb
        · rintro H' ⟨h1, s3⟩
          have e2 : xs.take xs.length = xs := List.take_length
          rw [e2] at h1
          refine ⟨D1, xs.map isI, rfl, SqL.of h1, _, rfl, ?_⟩
          have hall : (xs.map isI).all id = xs.all isI := by rw [List.all_map]; rfl
          rw [hall]
          cases ca : xs.all isI with
          | false =>
            have hf : b = false := by
              cases b with
              | false => rfl
              | true =>
                obtain ⟨ls, e, pml, _⟩ := hb.mp rfl
                subst e
                exact absurd ca (by rw [List.all_map]; exact fun z => absurd (z.symm.trans (List.all_eq_true.mpr fun _ _ => rfl)) (by decide))
            subst hf
            exact iteT (k _ s3)
          | true =>
            obtain ⟨ls, ex⟩ := all_ints ca
            subst ex
            rw [List.length_map] at hxl
            refine iteF ⟨_, rfl, .inl ⟨t, ls, rfl, sqL_ext (.of s3) h, fun ns' p2 pm2 pw hp2 => ?_⟩⟩
            have s4 : Same H (upd H' p2 (.lst (ns'.map V.int))) := s3.trans (same_new hp2)
            refine ⟨_, rfl, t, _, rfl, .inl (sqL_ext (.of s4) h), _, rfl, RgOk.of_le (by omega) ?_ (by omega) (by omega), fun q hq => ?_⟩
            · rw [List.length_map]
              omega
            · have f1 : (upd (upd H' p2 (.lst (ns'.map V.int))) q (.lst (rgV 0 ((ls.map V.int).length : Int)))) q = some (.lst ((rgI (2 * n)).map V.int)) := by
                rw [upd_same, rgV_rgI (by omega), List.length_map, hxl, Int.toNat_natCast]
              have f2 : (upd (upd H' p2 (.lst (ns'.map V.int))) q (.lst (rgV 0 ((ls.map V.int).length : Int)))) p2 = some (.lst (ns'.map V.int)) := upk hq upd_same
              have s5 := s4.trans (same_new (o := .lst (rgV 0 ((ls.map V.int).length : Int))) hq)
              generalize upd (upd H' p2 (.lst (ns'.map V.int))) q (.lst (rgV 0 ((ls.map V.int).length : Int))) = H5 at f1 f2 s5
              refine ⟨_, _, .lst (SqL.of f2) (dpAll_ints _ ns'), .lst (SqL.of f1) (dpAll_ints _ _), shapedAll_ints _, shapedAll_ints _, _, rfl, ?_⟩
              rw [eqv_ints]
              by_cases en : ns' = rgI (2 * n)
              · rw [decide_eq_true en]
                have pml : ls.Perm (rgI (2 * n)) := by rw [← en]; exact pm2.symm
                refine iteF ⟨_, rfl, t, _, rfl, .inl (sqL_ext (.of s5) h), _, rfl, by omega, by rw [List.length_map]; omega, fun D2 hD2 => ?_⟩
                refine lc_range (lo := 0) (n := ((ls.map V.int).length : Int).toNat) (fun i H' => H' D2 = some (.lst (((List.range i).map (mtB ls)).map V.bl)) ∧ Same H5 H')
                  ⟨upd_same, same_new hD2⟩ ?_ ?_
                · rintro i H6 hi ⟨h6, s6⟩
                  have hil : i < 2 * n := by rw [List.length_map] at hi; omega
                  refine ⟨rfl, yes_t ?_⟩
                  have s7 := s5.trans s6
                  have x1 : Builtin.bitXor (0 + (i : Int)) 1 = Wd.mate (i : Int) := by rw [Int.zero_add]; exact xor_mate (by omega) (by omega)
                  have bm : 0 ≤ Wd.mate (i : Int) ∧ Wd.mate (i : Int) < 2 * n := Wd.mate_range (by omega) (by omega)
                  have g1 := lt_get (ls := ls) (e := Wd.mate (i : Int)) bm.1 (by omega)
                  have g2 := lt_get (ls := ls) (e := (i : Int)) (by omega) (by omega)
                  have m2 := (perm_mem pml).mp (List.mem_of_getElem? (lt_at (ls := ls) (e := (i : Int)) (by omega) (by omega)))
                  have x2 : Builtin.bitXor (lt ls (i : Int)) 1 = Wd.mate (lt ls (i : Int)) := xor_mate m2.1 (by have := m2.2; omega)
                  refine ⟨_, rfl, _, rfl, _, _, rfl, rfl, t, _, _, _, rfl, rfl, sqL_ext (.of s7) h, (by rw [x1]; exact g1), _, rfl, _, rfl, t, _, _, _, rfl, rfl, sqL_ext (.of s7) h, (by rw [Int.zero_add]; exact g2), _, _, rfl, rfl, rfl, _, h6, (by rw [List.length_map, List.length_map, List.length_range]; exact small1000 (by omega)), ?_, fun b o hb => ?_⟩
                  · rw [upd_same, List.range_succ, List.map_append, List.map_append]
                    have e8 : V.bl (decide (V.int (lt ls (Wd.mate (i : Int))) = V.int (Builtin.bitXor (lt ls (i : Int)) 1))) = V.bl (mtB ls i) := by
                      unfold mtB
                      rw [x2]
                    exact congrArg (fun z => some (HO.lst (_ ++ [z]))) e8
                  · rw [upd_ne (ne_of_none hb hD2)]
                    exact s6 b o hb
                · rintro H6 ⟨h6, s6⟩
                  rw [List.length_map, hxl, Int.toNat_natCast] at h6
                  refine ⟨D2, _, rfl, SqL.of h6, ?_⟩
                  have eb : ((List.range (2 * n)).map (mtB ls)).all id = b := by
                    rw [Bool.eq_iff_iff, hb, mtB_all]
                    constructor
                    · exact fun z => ⟨ls, rfl, pml, z⟩
                    · rintro ⟨ls', e, _, z⟩
                      rw [map_int_inj e]
                      exact z
                  rw [eb]
                  exact k _ (s5.trans s6)
              · rw [decide_eq_false en]
                have hf : b = false := by
                  cases b with
                  | false => rfl
                  | true =>
                    obtain ⟨ls', e, pml, _⟩ := hb.mp rfl
                    rw [← map_int_inj e] at pml
                    exact absurd (perm_sorted pm2 pw pml) en
                subst hf
                exact iteT (k _ s5)
    | @tup t xs b h ln ty hb =>
      refine ⟨_, (pss_cons (ps_if (PW.pt (pw_or (pt_not (pt_val (pe_call (ok_is_list T) (hr.mono (by decide)) (by rfl) T.is_list.g T.is_list.k T.is_list.b .nil pass0 (pa_cons (pv 1) pa_nil)))) (pw_or1 (pt_cmpR op_ne (pe_callB call_len_seq (by rfl) T.zlen (by decide +kernel) (pa_cons (pv 1) pa_nil)) (pe_callB call_len_seq (by rfl) T.zlen (by decide +kernel) (pa_cons (pe_fld (pv 0) rfl) pa_nil)) (nomark _)))))
      (pss_one (ps_ret pe_bl))
      pss_nil)
    (pss_cons (ps_if (PW.pt (pw_or (pt_not (pt_val (pe_callB (cr_all rfl) (by rfl) T.zall (by decide +kernel) (pa_cons (pe_lc (own := [("end", 2)]) (g := gName 2) rfl nd (pi_tup (pv 1)) (blkOk_by (own := [("end", 2)]) (N := N_is_renaming) (sc := defScope s_is_renaming) (by decide +kernel)) (fun _ _ _ _ _ => pg_name (i := 2) nd rfl (Or.inl rfl)) (fun _ _ _ _ _ => pts_nil) (fun _ _ _ _ _ => (pe_call (ok_is_number T) (hr.mono (by decide)) (by rfl) T.is_number.g T.is_number.k T.is_number.b .nil pass0 (pa_cons (pv 2) pa_nil)))) pa_nil)))) (pw_or1 (pt_cmpR (op_neD hr.units) (pe_callB cr_sortedS2 (by rfl) T.zsorted (by decide +kernel) (pa_cons (pv 1) pa_nil)) (pe_listRg rfl (by rfl) T.zlist (prg_1 (by rfl) T.zrange (pe_callB call_len_seq (by rfl) T.zlen (by decide +kernel) (pa_cons (pv 1) pa_nil)))) (nomark _)))))
      (pss_one (ps_ret pe_bl))
      pss_nil)
    (pss_one (ps_ret (pe_callB (cr_all rfl) (by rfl) T.zall (by decide +kernel) (pa_cons (pe_lc (own := [("end", 2)]) (g := gName 2) rfl nd (pi_range1 rfl T.zrange (pa_cons (pe_callB call_len_seq (by rfl) T.zlen (by decide +kernel) (pa_cons (pv 1) pa_nil)) pa_nil)) (blkOk_by (own := [("end", 2)]) (N := N_is_renaming) (sc := defScope s_is_renaming) (by decide +kernel)) (fun _ _ _ _ _ => pg_name (i := 2) nd rfl (Or.inl rfl)) (fun _ _ _ _ _ => pts_nil) (fun _ _ _ _ _ => (pe_cmpR op_eq (pe_ix (ix_tupK (K := K) rfl) (pv 1) (pe_op op_xor (pv 2) pe_int) (fun _ _ => rfl)) (pe_op op_xor (pe_ix (ix_tupK (K := K) rfl) (pv 1) (pv 2) (fun _ _ => rfl)) pe_int) (nomark _)))) pa_nil)))))), ?_⟩
      obtain ⟨dx, r, q0, a1, a2, a3⟩ := id sk
      refine ⟨_, rfl, _, _, rfl, .tup h, _, rfl, iteF ?_⟩
      refine ⟨_, rfl, t, _, rfl, .inr h, _, rfl, p, T.Skin.C, dx, _, _, rfl, a1, T.Skin.c, nRow T, skF_row .., r, _, rfl, .inr a2.sq, rfl, _, rfl, ?_⟩
      refine ite2 (fun c => ?_) (fun c => ?_)
      · have hf : b = false := by
          cases b with
          | false => rfl
          | true =>
            obtain ⟨ls, e, pml, _⟩ := hb.mp rfl
            have e1 : xs.length = (row.map V.int).length := by rw [e, List.length_map, List.length_map, perm_len pml, hlen]
            exact absurd c (by rw [e1]; simp)
        subst hf
        exact k _ fun _ _ z => z
      · have hxl : xs.length = 2 * n := by
          have c' : (!decide (V.int (xs.length : Int) = V.int ((row.map V.int).length : Int))) = false := by simpa using c
          have c2 : V.int (xs.length : Int) = V.int ((row.map V.int).length : Int) := by simpa using c'
          have := V.int.inj c2
          rw [List.length_map, hlen] at this
          omega
        refine ⟨_, rfl, t, rfl, ⟨_, h⟩, fun D1 hD1 => lc_tup (K := K) (a := t) (xs := xs) (fun i H' => H' D1 = some (.lst (((xs.take i).map isI).map V.bl)) ∧ Same H H')
          ⟨upd_same, same_new hD1⟩ (fun i H' _ z => sqT_ext (.of z.2) h) ?_ ?_⟩
        · rintro i y H' hi ⟨h1, s2⟩
          have hil : i < xs.length := (List.getElem?_eq_some_iff.mp hi).1
          obtain ⟨S, ty', _⟩ := ty y (List.mem_of_getElem? hi)
          refine ⟨rfl, yes_t ?_⟩
          refine ⟨_, rfl, _, S, rfl, TyB.same ty' s2, _, h1, ?_, ?_, fun b o hb => ?_⟩
          · rw [List.length_map, List.length_map, List.length_take]
            exact small1000 (by omega)
          · rw [upd_same, List.take_add_one, hi, List.map_append, List.map_append]
            rfl
          · rw [upd_ne (ne_of_none hb hD1)]
            exact s2 b o hb
        · rintro H' ⟨h1, s3⟩
          have e2 : xs.take xs.length = xs := List.take_length
          rw [e2] at h1
          refine ⟨D1, xs.map isI, rfl, SqL.of h1, _, rfl, ?_⟩
          have hall : (xs.map isI).all id = xs.all isI := by rw [List.all_map]; rfl
          rw [hall]
          cases ca : xs.all isI with
          | false =>
            have hf : b = false := by
              cases b with
              | false => rfl
              | true =>
                obtain ⟨ls, e, pml, _⟩ := hb.mp rfl
                subst e
                exact absurd ca (by rw [List.all_map]; exact fun z => absurd (z.symm.trans (List.all_eq_true.mpr fun _ _ => rfl)) (by decide))
            subst hf
            exact iteT (k _ s3)
          | true =>
            obtain ⟨ls, ex⟩ := all_ints ca
            subst ex
            rw [List.length_map] at hxl
            refine iteF ⟨_, rfl, .inr ⟨t, ls, rfl, sqT_ext (.of s3) h, fun ns' p2 pm2 pw hp2 => ?_⟩⟩
            have s4 : Same H (upd H' p2 (.lst (ns'.map V.int))) := s3.trans (same_new hp2)
            refine ⟨_, rfl, t, _, rfl, .inr (sqT_ext (.of s4) h), _, rfl, RgOk.of_le (by omega) ?_ (by omega) (by omega), fun q hq => ?_⟩
            · rw [List.length_map]
              omega
            · have f1 : (upd (upd H' p2 (.lst (ns'.map V.int))) q (.lst (rgV 0 ((ls.map V.int).length : Int)))) q = some (.lst ((rgI (2 * n)).map V.int)) := by
                rw [upd_same, rgV_rgI (by omega), List.length_map, hxl, Int.toNat_natCast]
              have f2 : (upd (upd H' p2 (.lst (ns'.map V.int))) q (.lst (rgV 0 ((ls.map V.int).length : Int)))) p2 = some (.lst (ns'.map V.int)) := upk hq upd_same
              have s5 := s4.trans (same_new (o := .lst (rgV 0 ((ls.map V.int).length : Int))) hq)
              generalize upd (upd H' p2 (.lst (ns'.map V.int))) q (.lst (rgV 0 ((ls.map V.int).length : Int))) = H5 at f1 f2 s5
              refine ⟨_, _, .lst (SqL.of f2) (dpAll_ints _ ns'), .lst (SqL.of f1) (dpAll_ints _ _), shapedAll_ints _, shapedAll_ints _, _, rfl, ?_⟩
              rw [eqv_ints]
              by_cases en : ns' = rgI (2 * n)
              · rw [decide_eq_true en]
                have pml : ls.Perm (rgI (2 * n)) := by rw [← en]; exact pm2.symm
                refine iteF ⟨_, rfl, t, _, rfl, .inr (sqT_ext (.of s5) h), _, rfl, by omega, by rw [List.length_map]; omega, fun D2 hD2 => ?_⟩
                refine lc_range (lo := 0) (n := ((ls.map V.int).length : Int).toNat) (fun i H' => H' D2 = some (.lst (((List.range i).map (mtB ls)).map V.bl)) ∧ Same H5 H')
                  ⟨upd_same, same_new hD2⟩ ?_ ?_
                · rintro i H6 hi ⟨h6, s6⟩
                  have hil : i < 2 * n := by rw [List.length_map] at hi; omega
                  refine ⟨rfl, yes_t ?_⟩
                  have s7 := s5.trans s6
                  have x1 : Builtin.bitXor (0 + (i : Int)) 1 = Wd.mate (i : Int) := by rw [Int.zero_add]; exact xor_mate (by omega) (by omega)
                  have bm : 0 ≤ Wd.mate (i : Int) ∧ Wd.mate (i : Int) < 2 * n := Wd.mate_range (by omega) (by omega)
                  have g1 := lt_get (ls := ls) (e := Wd.mate (i : Int)) bm.1 (by omega)
                  have g2 := lt_get (ls := ls) (e := (i : Int)) (by omega) (by omega)
                  have m2 := (perm_mem pml).mp (List.mem_of_getElem? (lt_at (ls := ls) (e := (i : Int)) (by omega) (by omega)))
                  have x2 : Builtin.bitXor (lt ls (i : Int)) 1 = Wd.mate (lt ls (i : Int)) := xor_mate m2.1 (by have := m2.2; omega)
                  refine ⟨_, rfl, _, rfl, _, _, rfl, rfl, t, _, _, _, rfl, rfl, sqT_ext (.of s7) h, (by rw [x1]; exact g1), _, rfl, _, rfl, t, _, _, _, rfl, rfl, sqT_ext (.of s7) h, (by rw [Int.zero_add]; exact g2), _, _, rfl, rfl, rfl, _, h6, (by rw [List.length_map, List.length_map, List.length_range]; exact small1000 (by omega)), ?_, fun b o hb => ?_⟩
                  · rw [upd_same, List.range_succ, List.map_append, List.map_append]
                    have e8 : V.bl (decide (V.int (lt ls (Wd.mate (i : Int))) = V.int (Builtin.bitXor (lt ls (i : Int)) 1))) = V.bl (mtB ls i) := by
                      unfold mtB
                      rw [x2]
                    exact congrArg (fun z => some (HO.lst (_ ++ [z]))) e8
                  · rw [upd_ne (ne_of_none hb hD2)]
                    exact s6 b o hb
                · rintro H6 ⟨h6, s6⟩
                  rw [List.length_map, hxl, Int.toNat_natCast] at h6
                  refine ⟨D2, _, rfl, SqL.of h6, ?_⟩
                  have eb : ((List.range (2 * n)).map (mtB ls)).all id = b := by
                    rw [Bool.eq_iff_iff, hb, mtB_all]
                    constructor
                    · exact fun z => ⟨ls, rfl, pml, z⟩
                    · rintro ⟨ls', e, _, z⟩
                      rw [map_int_inj e]
                      exact z
                  rw [eb]
                  exact k _ (s5.trans s6)
              · rw [decide_eq_false en]
                have hf : b = false := by
                  cases b with
                  | false => rfl
                  | true =>
                    obtain ⟨ls', e, pml, _⟩ := hb.mp rfl
                    rw [← map_int_inj e] at pml
                    exact absurd (perm_sorted pm2 pw pml) en
                subst hf
                exact iteT (k _ s5)
def SeqI (K : PySem.W.Frag) (H : Hp) (x : V) (ls : List Int) : Prop := ∃ t, x = .ref t ∧ (SqL K H t (ls.map V.int) ∨ SqT K H t (ls.map V.int))
theorem LetV.ints {H : Hp} {n : Nat} {x : V} (h : LetV K H n x true) : ∃ ls, SeqI K H x ls ∧ ls.Perm (rgI (2 * n)) ∧ Mts n ls := by
  cases h with
  | lst h _ _ hb =>
    obtain ⟨ls, e, a, b⟩ := hb.mp rfl
    subst e
    exact ⟨ls, ⟨_, rfl, .inl h⟩, a, b⟩
  | tup h _ _ hb =>
    obtain ⟨ls, e, a, b⟩ := hb.mp rfl
    subst e
    exact ⟨ls, ⟨_, rfl, .inr h⟩, a, b⟩
theorem lt_mem {n : Nat} {ls : List Int} (pml : ls.Perm (rgI (2 * n))) {e : Int} (h0 : 0 ≤ e) (h1 : e < 2 * n) : lt ls e ∈ ls := List.mem_of_getElem? (lt_at h0 (by rw [perm_len pml]; omega))
theorem lt_ren {n : Nat} {row ls : List Int} (pm : row.Perm (rgI (2 * n))) (pml : ls.Perm (rgI (2 * n))) (m : Mts n ls) : Ren row (lt ls) ∧ ∀ a ∈ row, 0 ≤ lt ls a ∧ lt ls a < 2 * n := by
  have ndl := row_nodup pml
  have ll := perm_len pml
  refine ⟨⟨fun a ha b hb e => ?_, fun a ha => ?_, fun a ha => mate_row pm ha⟩, fun a ha => ?_⟩
  · have ba := (perm_mem pm).mp ha
    have bb := (perm_mem pm).mp hb
    have g1 := idx_get ndl (lt_at (ls := ls) (e := a) ba.1 (by omega))
    have g2 := idx_get ndl (lt_at (ls := ls) (e := b) bb.1 (by omega))
    rw [e, g2] at g1
    omega
  · have ba := (perm_mem pm).mp ha
    have := m a.toNat (by omega)
    rw [Int.toNat_of_nonneg ba.1] at this
    exact this
  · have ba := (perm_mem pm).mp ha
    have := (perm_mem pml).mp (lt_mem pml ba.1 (by omega))
    omega
def spRenamed (T : Txt K mg) : Sp := fun vs H Q E => ∃ (v x : V), vs = [v, x] ∧ ((SkV T H v false ∧ SkErr T H E) ∨ ∃ (p : Addr) (row : List Int) (n : Nat) (b : Bool), v = .ref p ∧ SkAt T H p row ∧ 1 ≤ n ∧ n ≤ 6 ∧ row.Perm (rgI (2 * n)) ∧ LetV K H n x b ∧
  ((b = false ∧ NumErr T "letters" H E) ∨ (b = true ∧ ∃ ls, SeqI K H x ls ∧ ls.Perm (rgI (2 * n)) ∧ Mts n ls ∧ ∀ q H', Same H H' → SkAt T H' q (trn (row.map (lt ls))) → Q (.ref q) H')))
theorem ok_renamed (T : Txt K mg) : FnOk P w K mg base (L2.CX P w) 6 T.renamed.a T.renamed.fd ["skin", "letters"] (spRenamed T) := by
  refine T.renamed.F.okX sc_renamed (fun vs H Q E h => ?_) (fun cdv A outer s H vs Q E hr h => ?_)
  · obtain ⟨v, x, rfl, _⟩ := h
    rfl
  · obtain ⟨v, x, rfl, h⟩ := h
    have nd := sc_renamed.nd
    have hu := hu_of hr
    refine ⟨_, (pss_cons (ps_expr (pe_callS (ok_check_skin T) (hr.mono (by decide)) (by rfl) T.check_skin.g T.check_skin.k T.check_skin.b (fun σ => passAt (takes_of rfl rfl rfl rfl) σ) (pa_cons (pv 0) pa_nil)))
    (pss_cons (ps_if (pt_not (pt_val (pe_call (ok_is_renaming T) (hr.mono (by decide)) (by rfl) T.is_renaming.g T.is_renaming.k T.is_renaming.b .nil pass0 (pa_cons (pv 0) (pa_cons (pv 1) pa_nil)))))
      (pss_one (ps_raise rfl (takes_of rfl rfl rfl rfl) (pmk_oex T.BadNumber.o T.BadNumber.i T.BadNumber.t (ok_BadNumber_init T) (hr.mono (by decide)) T.BadNumber.b .nil pass0 (by rfl) T.BadNumber.g (pa_cons pe_str pa_nil))))
      pss_nil)
    (pss_one (ps_ret (pe_make T.Skin.kk (ok_Skin_init T) (hr.mono (by decide)) (by rfl) T.Skin.g T.Skin.b .nil passF (pa_cons (pe_lc (own := [("end", 2)]) (g := gName 2) rfl nd (pi_tup (pe_fld (pv 0) rfl)) (blkOk_by (own := [("end", 2)]) (N := N_renamed) (sc := defScope s_renamed) (by decide +kernel)) (fun _ _ _ _ _ => pg_name (i := 2) nd rfl (Or.inl rfl)) (fun _ _ _ _ _ => pts_nil) (fun _ _ _ _ _ => (pe_ix (IxR.or (ix_listK (K := K) rfl) (ix_tupK (K := K) rfl)) (pv 1) (pv 2) (fun _ _ => rfl)))) pa_nil)))))), ?_⟩
    rcases h with ⟨hv, he⟩ | ⟨p, row, n, b, rfl, sk, n1, n6, pm, lv, k⟩
    · exact ⟨v, rfl, v, false, rfl, hv, (fun z => nomatch z), fun _ => he⟩
    · refine ⟨_, rfl, _, true, rfl, sk.v, (fun _ => ?_), fun z => nomatch z⟩
      have hlen := perm_len pm
      refine ⟨_, rfl, _, rfl, p, row, n, x, b, rfl, sk, n1, n6, pm, lv, fun H1 s1 => ⟨b, rfl, ?_⟩⟩
      rcases k with ⟨rfl, he⟩ | ⟨rfl, ls, ⟨t, rfl, sq⟩, pml, mts, k⟩
      · refine iteT ⟨(by show 1 ≤ 1000; decide), fun a ha => ?_⟩
        refine ⟨a, .str "letters", rfl, upd_same, fun dx ndx ne => ⟨rfl, dx, ([("part", V.str "letters")] : List (Str × V)), upd_same, ?_, ?_, ?_⟩⟩
        · rw [upd_ne ne, upd_same]
        · rw [upd_ne ne] at ndx
          exact ndx
        · have ndx' : H1 dx = none := by rw [upd_ne ne] at ndx; exact ndx
          refine he dx _ (fun b o hb => ?_) upd_same
          have hb1 := s1 _ _ hb
          have nb : b ≠ a := ne_of_none hb1 ha
          have nb2 : b ≠ dx := ne_of_none hb1 ndx'
          rw [upd_ne nb2, del_ne nb, upd_ne nb, upd_ne nb2, upd_ne nb]
          exact hb1
      · refine iteF ?_
        have ll := perm_len pml
        obtain ⟨dx, r, q0, a1, a2, a3⟩ := id (sk.same s1)
        refine ⟨_, rfl, p, T.Skin.C, dx, _, _, rfl, a1, T.Skin.c, nRow T, skF_row .., r, rfl, ⟨_, a2.sq⟩, fun D1 hD1 => ?_⟩
        refine lc_tup (K := K) (a := r) (xs := row.map V.int) (fun i H' => H' D1 = some (.lst (((row.take i).map (lt ls)).map V.int)) ∧ Same H1 H')
          ⟨upd_same, same_new hD1⟩ (fun i H' _ z => same_seqT z.2 a2.sq) ?_ ?_
        · rintro i y H' hi ⟨h1, s2⟩
          obtain ⟨e, rfl, hx⟩ := ints_at hi
          have hil : i < row.length := (List.getElem?_eq_some_iff.mp hx).1
          have be := (perm_mem pm).mp (List.mem_of_getElem? hx)
          have g := lt_get (ls := ls) (e := e) be.1 (by omega)
          refine ⟨rfl, yes_t ?_⟩
          have s3 := s1.trans s2
          have fin : ∃ acc, H' D1 = some (HO.lst acc) ∧ acc.length < sizeLine ∧ ((upd H' D1 (.lst (acc ++ [V.int (lt ls e)]))) D1 = some (.lst (((row.take (i + 1)).map (lt ls)).map V.int)) ∧ Same H1 (upd H' D1 (.lst (acc ++ [V.int (lt ls e)])))) := by
            refine ⟨_, h1, by rw [List.length_map, List.length_map, List.length_take]; exact small1000 (by omega), ?_, fun b o hb => ?_⟩
            · rw [upd_same, List.take_add_one, hx, List.map_append, List.map_append]
              rfl
            · rw [upd_ne (ne_of_none hb hD1)]
              exact s2 b o hb
          rcases sq with sq | sq
          · exact ⟨_, rfl, _, rfl, .inl ⟨t, _, _, _, rfl, rfl, sqL_ext (.of s3) sq, g, fin⟩⟩
          · exact ⟨_, rfl, _, rfl, .inr ⟨t, _, _, _, rfl, rfl, sqT_ext (.of s3) sq, g, fin⟩⟩
        · rintro H' ⟨h1, s2⟩
          rw [List.length_map, List.take_length] at h1
          obtain ⟨rn, bd⟩ := lt_ren pm pml mts
          refine fun p2 dx2 hp2 hdx2 ne2 => ?_
          have sA : Same H' (upd (upd H' dx2 (.own p2)) p2 (.ins T.Skin.C dx2 [])) := (same_new hdx2).trans (same_new (by rw [upd_ne ne2.symm]; exact hp2))
          refine ⟨p2, dx2, _, rfl, upd_same, .inr ⟨D1, n, row.map (lt ls), rfl, .inl (SqL.of (sA _ _ h1)), n1, n6, map_perm pm rn bd, fun H6 sk6 kp => ⟨rfl, ?_⟩⟩⟩
          have s4 := s1.trans s2
          exact k p2 H6 (fun b o hb => kp b o (sA b o (s4 b o hb)) (ne_of_none (s4 b o hb) hp2)) sk6
end
end Tt
set_option maxRecDepth 100000
set_option maxHeartbeats 4000000
namespace Tt
open PySem L2
open LamX (ExtN)
open Nm (Ren named keys look nmAll nmStep)
section
variable {P : Program} {w : World} {K : PySem.W.Frag} {mg : Str → Option Value} {base : Heap}
def spPut (K : PySem.W.Frag) : Sp := fun vs H Q _ => ∃ (p : Addr) (x : V) (row ls : List Int) (n : Nat), vs = [.ref p, x] ∧ SqT K H p (row.map V.int) ∧ SeqI K H x ls ∧ 1 ≤ n ∧ n ≤ 6 ∧ row.Perm (rgI (2 * n)) ∧ ls.Perm (rgI (2 * n)) ∧ Mts n ls ∧
  ∀ q H', Same H H' → FzT H' q ((trn (row.map (lt ls))).map V.int) → Q (.ref q) H'
theorem ok_l_put (T : Txt K mg) : FnOk P w K mg base CX0 2 T.l_put.a T.l_put.fd ["line", "letters_here"] (spPut K) := by
  refine T.l_put.F.ok sc_l_put (fun vs H Q E h => ?_) (fun cdv A outer s H vs Q E hr h => ?_)
  · obtain ⟨p, x, row, ls, n, rfl, _⟩ := h
    rfl
  · obtain ⟨p, x, row, ls, n, rfl, hp, ⟨t, rfl, sq⟩, n1, n6, pm, pml, mts, k⟩ := h
    have nd := sc_l_put.nd
    have hlen := perm_len pm
    have ll := perm_len pml
    refine ⟨_, (pss_one (ps_ret (pe_call (ok_l_turned T) (hr.mono (by decide)) (by rfl) T.l_turned.g T.l_turned.k T.l_turned.b .nil pass0 (pa_cons (pe_lc (own := [("end", 2)]) (g := gName 2) rfl nd (pi_tup (pv 0)) (blkOk_by (own := [("end", 2)]) (N := N_l_put) (sc := defScope s_l_put) (by decide +kernel)) (fun _ _ _ _ _ => pg_name (i := 2) nd rfl (Or.inl rfl)) (fun _ _ _ _ _ => pts_nil) (fun _ _ _ _ _ => (pe_ix (IxR.or (ix_listK (K := K) rfl) (ix_tupK (K := K) rfl)) (pv 1) (pv 2) (fun _ _ => rfl)))) pa_nil)))), ?_⟩
    refine ⟨_, rfl, p, rfl, ⟨_, hp⟩, fun D1 hD1 => ?_⟩
    refine lc_tup (K := K) (a := p) (xs := row.map V.int) (fun i H' => H' D1 = some (.lst (((row.take i).map (lt ls)).map V.int)) ∧ Same H H')
      ⟨upd_same, same_new hD1⟩ (fun i H' _ z => same_seqT z.2 hp) ?_ ?_
    · rintro i y H' hi ⟨h1, s2⟩
      obtain ⟨e, rfl, hx⟩ := ints_at hi
      have hil : i < row.length := (List.getElem?_eq_some_iff.mp hx).1
      have be := (perm_mem pm).mp (List.mem_of_getElem? hx)
      have g := lt_get (ls := ls) (e := e) be.1 (by omega)
      refine ⟨rfl, yes_t ?_⟩
      have fin : ∃ acc, H' D1 = some (HO.lst acc) ∧ acc.length < sizeLine ∧ ((upd H' D1 (.lst (acc ++ [V.int (lt ls e)]))) D1 = some (.lst (((row.take (i + 1)).map (lt ls)).map V.int)) ∧ Same H (upd H' D1 (.lst (acc ++ [V.int (lt ls e)])))) := by
        refine ⟨_, h1, by rw [List.length_map, List.length_map, List.length_take]; exact small1000 (by omega), ?_, fun b o hb => ?_⟩
        · rw [upd_same, List.take_add_one, hx, List.map_append, List.map_append]
          rfl
        · rw [upd_ne (ne_of_none hb hD1)]
          exact s2 b o hb
      rcases sq with sq | sq
      · exact ⟨_, rfl, _, rfl, .inl ⟨t, _, _, _, rfl, rfl, sqL_ext (.of s2) sq, g, fin⟩⟩
      · exact ⟨_, rfl, _, rfl, .inr ⟨t, _, _, _, rfl, rfl, sqT_ext (.of s2) sq, g, fin⟩⟩
    · rintro H' ⟨h1, s2⟩
      rw [List.length_map, List.take_length] at h1
      obtain ⟨rn, bd⟩ := lt_ren pm pml mts
      have pm2 := map_perm pm rn bd
      exact ⟨D1, _, rfl, .inl (SqL.of h1), (perm_mem pm2).mpr (by omega), by rw [perm_len pm2]; omega, fun r H3 s3 hr3 => k r H3 (s2.trans s3) hr3⟩
def spUndone (K : PySem.W.Frag) : Sp := fun vs H Q _ => ∃ (p : Addr) (ws : List Int), vs = [.ref p] ∧ SqT K H p (ws.map V.int) ∧ ws.length ≤ 12 ∧ ∀ q H', Same H H' → H' q = some (.tup ((ws.reverse.map Wd.mate).map V.int)) → Q (.ref q) H'
theorem ok_l_undone (T : Txt K mg) : FnOk P w K mg base CX0 2 T.l_undone.a T.l_undone.fd ["word_here"] (spUndone K) := by
  refine T.l_undone.F.ok sc_l_undone (fun vs H Q E h => ?_) (fun cdv A outer s H vs Q E hr h => ?_)
  · obtain ⟨p, ws, rfl, _⟩ := h
    rfl
  · obtain ⟨p, ws, rfl, hp, hl, k⟩ := h
    have nd := sc_l_undone.nd
    refine ⟨_, (pss_one (ps_ret (pe_callTy call_tuple_of (by rfl) T.ztuple (by decide +kernel) (pa_cons (pe_lc (own := [("letter", 1)]) (g := gName 1) rfl nd (pi_tup (pe_revT (pv 0))) (blkOk_by (own := [("letter", 1)]) (N := N_l_undone) (sc := defScope s_l_undone) (by decide +kernel)) (fun _ _ _ _ _ => pg_name (i := 1) nd rfl (Or.inl rfl)) (fun _ _ _ _ _ => pts_nil) (fun _ _ _ _ _ => (pe_call (ok_l_mate T) (hr.mono (by decide)) (by rfl) T.l_mate.g T.l_mate.k T.l_mate.b .nil pass0 (pa_cons (pv 1) pa_nil)))) pa_nil)))), ?_⟩
    refine ⟨_, rfl, p, _, rfl, hp, fun t ht => ?_⟩
    rw [← List.map_reverse]
    have s1 : Same H (upd H t (.tup (ws.reverse.map V.int))) := same_new ht
    have e1 : (upd H t (.tup (ws.reverse.map V.int))) t = some (.tup (ws.reverse.map V.int)) := upd_same
    generalize upd H t (.tup (ws.reverse.map V.int)) = H1 at s1 e1
    refine ⟨t, rfl, ⟨_, SqT.of e1⟩, fun D1 hD1 => ?_⟩
    refine lc_tup (K := K) (a := t) (xs := ws.reverse.map V.int) (fun i H' => H' D1 = some (.lst (((ws.reverse.take i).map Wd.mate).map V.int)) ∧ Same H1 H')
      ⟨upd_same, same_new hD1⟩ (fun i H' _ z => SqT.of (z.2 _ _ e1)) ?_ ?_
    · rintro i y H' hi ⟨h1, s2⟩
      obtain ⟨e, rfl, hx⟩ := ints_at hi
      refine ⟨rfl, yes_t ?_⟩
      refine ⟨_, rfl, e, rfl, _, h1, by rw [List.length_map, List.length_map, List.length_take, List.length_reverse]; exact small1000 (by omega), ?_, fun b o hb => ?_⟩
      · rw [upd_same, List.take_add_one, hx, List.map_append, List.map_append]
        rfl
      · rw [upd_ne (ne_of_none hb hD1)]
        exact s2 b o hb
    · rintro H' ⟨h1, s2⟩
      rw [List.length_map, List.take_length] at h1
      exact ⟨D1, _, rfl, .inl ⟨SqL.of h1, fun q hq => k q _ ((s1.trans s2).trans (same_new hq)) upd_same⟩⟩
def spNamed (K : PySem.W.Frag) : Sp := fun vs H Q _ => ∃ (p : Addr) (t : List Int) (n : Nat), vs = [.ref p] ∧ SqT K H p (t.map V.int) ∧ n ≤ 6 ∧ t.Perm (rgI (2 * n)) ∧ ∀ q H', Same H H' → H' q = some (.tup ((named t).map V.int)) → Q (.ref q) H'
theorem ok_l_named (T : Txt K mg) : FnOk P w K mg base CX0 2 T.l_named.a T.l_named.fd ["line"] (spNamed K) := by
  refine T.l_named.F.ok sc_l_named (fun vs H Q E h => ?_) (fun cdv A outer s H vs Q E hr h => ?_)
  · obtain ⟨p, t, n, rfl, _⟩ := h
    rfl
  · obtain ⟨p, t, n, rfl, hp, n6, pm, k⟩ := h
    have nd := sc_l_named.nd
    have hu := hu_of hr
    have hlen := perm_len pm
    refine ⟨_, (pss_cons (ps_set (i := 1) nd rfl (Or.inr rfl) pe_dnewK)
    (pss_cons (ps_for PassesOwn.never rfl (pi_tup (pv 0)) (pg_name (i := 2) nd rfl (Or.inl rfl))
      (pss_one (ps_if (pt_cmp (pc_dnotin hu (pv 2) (pv 1)))
        (pss_cons (ps_set (i := 3) nd rfl (Or.inl rfl) (pe_callB call_lenD (by rfl) T.zlen (by decide +kernel) (pa_cons (pv 1) pa_nil)))
        (pss_one (ps_asg (pe_tup (pa_cons (pv 3) (pa_cons (pe_op op_add (pv 3) pe_int) pa_nil))) (pg_tup rfl (pgs_cons (pg_sub (pv 1) (pv 2) (set_dict hu) (fun _ => rfl)) (pgs_cons (pg_sub (pv 1) (pe_call (ok_l_mate T) (hr.mono (by decide)) (by rfl) T.l_mate.g T.l_mate.k T.l_mate.b .nil pass0 (pa_cons (pv 2) pa_nil)) (set_dict hu) (fun _ => rfl)) pgs_nil))))))
        pss_nil)))
    (pss_one (ps_ret (pe_callTy call_tuple_of (by rfl) T.ztuple (by decide +kernel) (pa_cons (pe_lc (own := [("end", 2)]) (g := gName 2) rfl nd (pi_tup (pv 0)) (blkOk_by (own := [("end", 2)]) (N := N_l_named) (sc := defScope s_l_named) (by decide +kernel)) (fun _ _ _ _ _ => pg_name (i := 2) nd rfl (Or.inl rfl)) (fun _ _ _ _ _ => pts_nil) (fun _ _ _ _ _ => (pe_dget hu (pv 1) (pv 2) (fun _ _ => rfl)))) pa_nil)))))), ?_⟩
    refine fun d hd => ?_
    have s1 : Same H (upd H d (.dK [])) := same_new hd
    have e1 : (upd H d (.dK [])) d = some (.dK (dN (nmAll [] (t.take 0)))) := upd_same
    generalize upd H d (.dK []) = H1 at s1 e1
    refine ⟨_, rfl, p, rfl, ⟨_, same_seqT s1 hp⟩, ?_⟩
    refine for_tup (K := K) (a := p) (xs := t.map V.int) (fun i σ H' => ∃ v2 v3, σ = [some (.ref p), some (.ref d), v2, v3] ∧ H' d = some (.dK (dN (nmAll [] (t.take i)))) ∧ Same H H') ⟨none, none, rfl, e1, s1⟩ (fun i σ H' _ ⟨_, _, _, _, z⟩ => same_seqT z hp) ?_ ?_
    · rintro i y σ H2 hi ⟨v2, v3, rfl, e2, s2⟩
      obtain ⟨e, rfl, gt⟩ := ints_at hi
      have hil : i < t.length := (List.getElem?_eq_some_iff.mp gt).1
      have et : t.take (i + 1) = t.take i ++ [e] := by rw [List.take_add_one, gt]; rfl
      rw [et, nmAll_snoc]
      have dl := nmAll_len (t.take i) []
      rw [List.length_take, List.length_nil] at dl
      have nz := Nm.Nz.nil.all (t.take i)
      generalize nmAll [] (t.take i) = ds at e2 dl nz
      refine ⟨_, rfl, _, rfl, d, valV (dN ds) (Sum.inl e), rfl, DGet.k (k := Sum.inl e) e2, _, rfl, ?_⟩
      by_cases q : e ∈ keys ds
      · rw [dN_in q]
        refine iteF ⟨_, _, rfl, ?_, s2⟩
        rw [show nmStep ds e = ds from if_pos q]
        exact e2
      · obtain ⟨es, l1, l2⟩ := Nm.step_new q (nz.off q)
        rw [dN_out q]
        refine iteT ⟨_, rfl, d, _, rfl, e2, ?_⟩
        rw [dN_len]
        refine ⟨_, rfl, _, rfl, _, _, rfl, rfl, (by show 2 ≤ sizeLine; decide), fun a ha => ?_⟩
        have sa : Same H2 (upd H2 a (.tup [.int (ds.length : Int), .int ((ds.length : Int) + 1)])) := same_new ha
        have e3 := sa _ _ e2
        have ea : (upd H2 a (.tup [.int (ds.length : Int), .int ((ds.length : Int) + 1)])) a = some (.tup [.int (ds.length : Int), .int ((ds.length : Int) + 1)]) := upd_same
        refine ⟨a, _, rfl, SqT.of ea, rfl, _, _, rfl, ?_⟩
        have s3 : Same H (upd H2 a (.tup [.int (ds.length : Int), .int ((ds.length : Int) + 1)])) := s2.trans sa
        generalize upd H2 a (.tup [.int (ds.length : Int), .int ((ds.length : Int) + 1)]) = H3 at e3 s3
        refine ⟨_, rfl, _, rfl, d, _, rfl, DPut.k (k := Sum.inl e) e3 (by rw [dN_len]; exact small1000 (by omega)), ?_⟩
        rw [dN_put q]
        have e4 : (upd H3 d (.dK (dN (ds ++ [(e, (ds.length : Int))])))) d = some (.dK (dN (ds ++ [(e, (ds.length : Int))]))) := upd_same
        have s4 : Same H (upd H3 d (.dK (dN (ds ++ [(e, (ds.length : Int))])))) := fun b o hb => by
          rw [upd_ne (ne_of_none hb hd)]
          exact s3 b o hb
        generalize upd H3 d (.dK (dN (ds ++ [(e, (ds.length : Int))]))) = H4 at e4 s4
        have km : Wd.mate e ∉ keys (ds ++ [(e, (ds.length : Int))]) := by
          rw [Nm.keys_app, List.mem_append]
          rintro (z | z)
          · exact nz.off q z
          · exact Nm.mate_ne e (List.mem_singleton.mp z)
        refine ⟨_, _, rfl, _, rfl, _, rfl, e, rfl, d, _, rfl, DPut.k (k := Sum.inl (Wd.mate e)) e4 (by rw [dN_len, List.length_append]; exact small1000 (by show ds.length + 1 ≤ _; omega)), ?_⟩
        refine ⟨rfl, _, _, rfl, ?_, fun b o hb => ?_⟩
        · rw [upd_same, es]
          have := dN_put (v := (ds.length : Int) + 1) km
          rw [List.append_assoc] at this
          exact congrArg (fun z => some (HO.dK z)) this
        · rw [upd_ne (ne_of_none hb hd)]
          exact s4 b o hb
    · rintro σ H2 ⟨v2, v3, rfl, e2, s2⟩
      rw [List.length_map, List.take_length] at e2
      refine ⟨_, rfl, p, rfl, ⟨_, same_seqT s2 hp⟩, fun D1 hD1 => ?_⟩
      refine lc_tup (K := K) (a := p) (xs := t.map V.int) (fun i H' => H' D1 = some (.lst (((named t).take i).map V.int)) ∧ Same H2 H') ⟨upd_same, same_new hD1⟩ (fun i H' _ z => same_seqT (s2.trans z.2) hp) ?_ ?_
      · rintro i y H3 hi ⟨h3, s3⟩
        obtain ⟨e, rfl, gt⟩ := ints_at hi
        have hil : i < t.length := (List.getElem?_eq_some_iff.mp gt).1
        refine ⟨rfl, yes_t ?_⟩
        have km := Nm.all_keys (ds := []) _ (List.mem_of_getElem? gt)
        have g3 : DGet H3 d (.int e) (some (.int (look (nmAll [] t) e))) := by
          have := DGet.k (k := Sum.inl e) (s3 _ _ e2)
          rw [dN_in km] at this
          exact this
        have gn : (named t)[i]? = some (look (nmAll [] t) e) := by
          rw [Nm.named_all, List.getElem?_map, gt]
          rfl
        refine ⟨_, rfl, _, rfl, d, _, rfl, g3, _, h3, by rw [List.length_map, List.length_take]; exact small1000 (by omega), ?_, fun b o hb => ?_⟩
        · rw [upd_same, List.take_add_one, gn, List.map_append]
          rfl
        · rw [upd_ne (ne_of_none hb hD1)]
          exact s3 b o hb
      · rintro H3 ⟨h3, s3⟩
        rw [List.length_map, ← Nm.named_len, List.take_length] at h3
        exact ⟨D1, _, rfl, .inl ⟨SqL.of h3, fun q hq => k q _ ((s2.trans s3).trans (same_new hq)) upd_same⟩⟩
def spLLeast (K : PySem.W.Frag) : Sp := fun vs H Q _ => ∃ (p : Addr) (row : List Int) (n : Nat), vs = [.ref p] ∧ SqT K H p (row.map V.int) ∧ 1 ≤ n ∧ n ≤ 6 ∧ row.Perm (rgI (2 * n)) ∧ ∀ q m H', Same H H' → LeastN row m → H' q = some (.tup (m.map V.int)) → Q (.ref q) H'
theorem ok_l_least (T : Txt K mg) : FnOk P w K mg base CX0 3 T.l_least.a T.l_least.fd ["line"] (spLLeast K) := by
  refine T.l_least.F.ok sc_l_least (fun vs H Q E h => ?_) (fun cdv A outer s H vs Q E hr h => ?_)
  · obtain ⟨p, row, n, rfl, _⟩ := h
    rfl
  · obtain ⟨p, row, n, rfl, hp, n1, n6, pm, k⟩ := h
    have nd := sc_l_least.nd
    have hlen := perm_len pm
    refine ⟨_, (pss_one (ps_ret (pe_callB (cr_minT rfl hr.units) (by rfl) T.zmin (by decide +kernel) (pa_cons (pe_lc (own := [("at", 1)]) (g := gName 1) rfl nd (pi_range1 rfl T.zrange (pa_cons (pe_callB call_len_seq (by rfl) T.zlen (by decide +kernel) (pa_cons (pv 0) pa_nil)) pa_nil)) (blkOk_by (own := [("at", 1)]) (N := N_l_least) (sc := defScope s_l_least) (by decide +kernel)) (fun _ _ _ _ _ => pg_name (i := 1) nd rfl (Or.inl rfl)) (fun _ _ _ _ _ => pts_nil) (fun _ _ _ _ _ => (pe_call (ok_l_named T) (hr.mono (by decide)) (by rfl) T.l_named.g T.l_named.k T.l_named.b .nil pass0 (pa_cons (pe_op (op_catAK (K := K) rfl) (pe_slice (sl_tupAK (K := K) rfl) (pv 0) (po_some (pv 1)) po_none) (pe_slice (sl_tupAK (K := K) rfl) (pv 0) po_none (po_some (pv 1)))) pa_nil)))) pa_nil)))), ?_⟩
    refine ⟨_, rfl, p, _, rfl, .inr hp, _, rfl, by omega, by rw [List.length_map]; omega, fun D1 hD1 => ?_⟩
    refine lc_range (lo := 0) (n := ((row.map V.int).length : Int).toNat) (fun i H' => ∃ ps : List Addr, H' D1 = some (.lst (ps.map V.ref)) ∧ Paired (fun p m => H' p = some (.tup (m.map V.int))) ps ((tnm row).take i) ∧ Same H H')
      ⟨[], upd_same, .nil, same_new hD1⟩ ?_ ?_
    · rintro i H' hi ⟨ps, h1, h2, s2⟩
      have hil : i < row.length := by rw [List.length_map] at hi; omega
      have hpl : ps.length = i := by
        have := h2.length
        rw [List.length_take, tnm_len] at this
        omega
      refine ⟨rfl, yes_t ?_⟩
      refine ⟨_, rfl, _, rfl, (i : Int), by rw [Int.zero_add], noPart_i ?_⟩
      refine slT_genD (K := K) (same_seqT s2 hp) fun b1 H2 s3 hb1 => ?_
      refine ⟨_, rfl, noPart_i ⟨_, rfl, (i : Int), by rw [Int.zero_add], ?_⟩⟩
      refine slT_gen (K := K) (same_seqT (s2.trans s3) hp) fun b2 H3 s4 hb2 => ?_
      refine catA_gen (K := K) (same_seqT s4 hb1) hb2 ?_ fun c H4 s5 hc => ?_
      · rw [List.length_drop, List.length_take, List.length_map]
        exact Nat.le_of_lt (small1000 (by omega))
      have sA : Same H' H4 := (s3.trans s4).trans s5
      have hc' : SqT K H4 c ((turnAt row i).map V.int) := by
        unfold turnAt
        rw [List.map_append, List.map_drop, List.map_take]
        exact hc
      refine ⟨c, turnAt row i, n, rfl, hc', n6, (Cy.turn_perm (turnAt_turn i)).symm.trans pm, fun q H5 s6 hq => ?_⟩
      have sB := sA.trans s6
      have h5 := sB _ _ h1
      have nq : q ≠ D1 := fun z => by rw [z, h5] at hq; cases hq
      refine ⟨_, h5, by rw [List.length_map]; exact small1000 (by omega), ps ++ [q], ?_, ?_, fun b o hb => ?_⟩
      · rw [upd_same, List.map_append]
        rfl
      · rw [List.take_add_one, tnm_get hil]
        have np : ∀ (a : Addr) (m : List Int), H5 a = some (.tup (m.map V.int)) → a ≠ D1 := fun a m z e => by rw [e, h5] at z; cases z
        exact pair_snoc (pair_mono (fun a m z => by
          have z5 := sB _ _ z
          rw [upd_ne (np a m z5)]
          exact z5) h2) (by rw [upd_ne nq]; exact hq)
      · rw [upd_ne (ne_of_none hb hD1)]
        exact sB _ _ (s2 b o hb)
    · rintro H' ⟨ps, h1, h2, s2⟩
      rw [List.length_map, Int.toNat_natCast, ← tnm_len, List.take_length] at h2
      obtain ⟨r0, rs, e⟩ := tnm_cons n1 pm
      rw [e] at h2
      refine ⟨D1, ps, r0, rs, rfl, SqL.of h1, pair_mono (fun a m z => SqT.of z) h2, fun i pq hi hm => ?_⟩
      have hi2 : i < (r0 :: rs).length := by
        rw [← h2.length]
        exact (List.getElem?_eq_some_iff.mp hi).1
      have gm := List.getElem?_eq_getElem hi2
      have em := hm _ gm
      rw [minR_D] at em
      have em2 := rowD_inj em
      have hq := pair_at h2 hi gm
      rw [em2] at hq
      have mn := minR_min r0 rs
      rw [← e] at mn
      exact k pq _ H' s2 mn hq
end
end Tt
set_option maxRecDepth 100000
set_option maxHeartbeats 4000000
namespace Tt
open PySem L2
open LamX (ExtN)
open Nm (Ren named keys look nmAll nmStep)
section
variable {P : Program} {w : World} {K : PySem.W.Frag} {mg : Str → Option Value} {base : Heap}
theorem cover_app : ∀ {l m : List Int}, l.Nodup → (∀ x ∈ l, x ∈ m) → ∃ r, m.Perm (l ++ r)
  | [], m, _, _ => ⟨m, List.Perm.refl _⟩
  | a :: l, m, nd, h => by
    have nd2 := List.nodup_cons.mp nd
    have ha := h a List.mem_cons_self
    obtain ⟨r, pr⟩ := cover_app (l := l) (m := m.erase a) nd2.2 fun x hx => by
      have : x ≠ a := fun z => nd2.1 (z ▸ hx)
      exact (List.mem_erase_of_ne this).mpr (h x (List.mem_cons_of_mem _ hx))
    exact ⟨r, (List.perm_cons_erase ha).trans (pr.cons a)⟩
theorem cover_perm {l m : List Int} (nd : l.Nodup) (h : ∀ x ∈ l, x ∈ m) (e : m.length = l.length) : m.Perm l := by
  obtain ⟨r, pr⟩ := cover_app nd h
  have := pr.length_eq
  rw [List.length_append, e] at this
  have hr : r = [] := List.length_eq_zero_iff.mp (by omega)
  rw [hr, List.append_nil] at pr
  exact pr
def prs2 (ps : List (Int × Int)) : List Int := ps.flatMap fun q => [2 * q.1 + q.2, 2 * q.1 + 1 - q.2]
theorem prs2_cons (q : Int × Int) (ps : List (Int × Int)) : prs2 (q :: ps) = (2 * q.1 + q.2) :: (2 * q.1 + 1 - q.2) :: prs2 ps := rfl
theorem prs2_snoc (ps : List (Int × Int)) (q : Int × Int) : prs2 (ps ++ [q]) = prs2 ps ++ [2 * q.1 + q.2, 2 * q.1 + 1 - q.2] := by
  unfold prs2
  rw [List.flatMap_append]
  rfl
theorem prs2_len : ∀ ps : List (Int × Int), (prs2 ps).length = 2 * ps.length
  | [] => rfl
  | q :: ps => by
    rw [prs2_cons, List.length_cons, List.length_cons, prs2_len ps, List.length_cons]
    omega
theorem prs2_get : ∀ {ps : List (Int × Int)} {i : Nat} {q : Int × Int}, ps[i]? = some q → (prs2 ps)[2 * i]? = some (2 * q.1 + q.2) ∧ (prs2 ps)[2 * i + 1]? = some (2 * q.1 + 1 - q.2)
  | [], i, q, h => by simp at h
  | a :: ps, 0, q, h => by
    have e : a = q := by simpa using h
    subst e
    exact ⟨rfl, rfl⟩
  | a :: ps, i + 1, q, h => by
    have h' : ps[i]? = some q := by simpa using h
    obtain ⟨h1, h2⟩ := prs2_get h'
    rw [prs2_cons]
    exact ⟨by rw [show 2 * (i + 1) = 2 * i + 1 + 1 by omega, List.getElem?_cons_succ, List.getElem?_cons_succ]; exact h1, by rw [show 2 * (i + 1) + 1 = 2 * i + 1 + 1 + 1 by omega, List.getElem?_cons_succ, List.getElem?_cons_succ]; exact h2⟩
theorem letters_ok {n : Nat} {ps : List (Int × Int)} (pm : (ps.map (·.1)).Perm (rgI n)) (sd : ∀ q ∈ ps, q.2 = 0 ∨ q.2 = 1) : (prs2 ps).Perm (rgI (2 * n)) ∧ Mts n (prs2 ps) := by
  have lp : ps.length = n := by
    have := pm.length_eq
    rw [List.length_map] at this
    rw [this]
    unfold rgI
    rw [List.length_map, List.length_range]
  refine ⟨cover_perm (rgI_nodup _) (fun x hx => ?_) ?_, fun e he => ?_⟩
  · have bx := (perm_mem (List.Perm.refl _)).mp hx
    have hb : x / 2 ∈ ps.map (·.1) := (perm_mem pm).mpr (by omega)
    obtain ⟨q, hq, eq⟩ := List.mem_map.mp hb
    have s := sd q hq
    refine List.mem_flatMap.mpr ⟨q, hq, ?_⟩
    have : x = 2 * q.1 + q.2 ∨ x = 2 * q.1 + 1 - q.2 := by omega
    rcases this with h | h
    · rw [h]
      exact List.mem_cons_self
    · rw [h]
      exact List.mem_cons_of_mem _ List.mem_cons_self
  · rw [prs2_len, lp]
    unfold rgI
    rw [List.length_map, List.length_range]
  · have hi : e / 2 < ps.length := by omega
    have gq := List.getElem?_eq_getElem hi
    obtain ⟨g1, g2⟩ := prs2_get gq
    have s := sd _ (List.mem_of_getElem? gq)
    generalize ps[e / 2] = q at g1 g2 s
    have ln := prs2_len ps
    have at0 : ∀ {j : Nat} {v : Int}, (prs2 ps)[j]? = some v → lt (prs2 ps) (j : Int) = v := fun {j v} h => by
      unfold lt
      rw [Int.toNat_natCast, List.getD_eq_getElem?_getD, h]
      rfl
    have m0 : ∀ k : Nat, k % 2 = 0 → Wd.mate (k : Int) = ((k + 1 : Nat) : Int) := fun k hk => by unfold Wd.mate; rw [if_pos (by omega)]; omega
    have m1 : ∀ k : Nat, Wd.mate ((2 * k + 1 : Nat) : Int) = ((2 * k : Nat) : Int) := fun k => by unfold Wd.mate; rw [if_neg (by omega)]; omega
    by_cases c : e % 2 = 0
    · have e2 : e = 2 * (e / 2) := by omega
      rw [e2, m0 _ (by omega), at0 g2, at0 g1]
      unfold Wd.mate
      rcases s with s | s <;> rw [s] <;> split <;> omega
    · have e2 : e = 2 * (e / 2) + 1 := by omega
      have e3 : Wd.mate (e : Int) = ((2 * (e / 2) : Nat) : Int) := by
        have := m1 (e / 2)
        rw [← e2] at this
        exact this
      have e4 : lt (prs2 ps) (e : Int) = 2 * q.1 + 1 - q.2 := by
        have := at0 g2
        rw [← e2] at this
        exact this
      rw [e3, at0 g1, e4]
      unfold Wd.mate
      rcases s with s | s <;> rw [s] <;> split <;> omega
theorem Kp.none {D : Dw} {H H' : Hp} {p : Addr} (k : Kp D H H') (o : Off D p) (h : H' p = none) : H p = none := by
  cases e : H p with
  | none => rfl
  | some u =>
    have := k.at o e
    rw [h] at this
    cases this
def spLetters : Sp := fun vs H Q _ => ∃ (D : Dw) (n : Nat), vs = [.ref D.d, .int (n : Int)] ∧ 1 ≤ n ∧ n ≤ 6 ∧ DrOk D H ∧
  ∀ ls q H', ls.Perm (rgI (2 * n)) → Mts n ls → DrOk D H' → Kp D H H' → H q = none → H' q = some (.lst (ls.map V.int)) → Q (.ref q) H'
theorem ok_l_letters (T : Txt K mg) : FnOk P w K mg base CX0 4 T.l_letters.a T.l_letters.fd ["draw", "many"] spLetters := by
  refine T.l_letters.F.ok sc_l_letters (fun vs H Q E h => ?_) (fun cdv A outer s H vs Q E hr h => ?_)
  · obtain ⟨D, n, rfl, _⟩ := h
    rfl
  · obtain ⟨D, n, rfl, n1, n6, dr, k⟩ := h
    have nd := sc_l_letters.nd
    have hu := hu_of hr
    refine ⟨_, (pss_cons (ps_par (i := 2) (j := 3) rfl nd rfl rfl (by decide) rfl rfl (pa_cons (pe_call (ok_l_shuffled T) (hr.mono (by decide)) (by rfl) T.l_shuffled.g T.l_shuffled.k T.l_shuffled.b .nil pass0 (pa_cons (pv 0) (pa_cons (pe_listRg rfl (by rfl) T.zlist (prg_1 (by rfl) T.zrange (pv 1))) pa_nil))) (pa_cons (pe_lst pa_nil) pa_nil)) rfl)
    (pss_cons (ps_for PassesOwn.never rfl (pi_list (pv 2)) (pg_name (i := 4) nd rfl (Or.inl rfl))
      (pss_cons (ps_set (i := 5) nd rfl (Or.inl rfl) (pe_call (ok_l_take T) (hr.mono (by decide)) (by rfl) T.l_take.g T.l_take.k T.l_take.b .nil pass0 (pa_cons (pv 0) (pa_cons pe_int pa_nil))))
      (pss_one (ps_set (i := 3) nd rfl (Or.inl rfl) (pe_op op_cat (pv 3) (pe_lst (pa_cons (pe_op op_add (pe_op op_mul pe_int (pv 4)) (pv 5)) (pa_cons (pe_op op_sub (pe_op op_add (pe_op op_mul pe_int (pv 4)) pe_int) (pv 5)) pa_nil))))))))
    (pss_one (ps_ret (pv 3))))), ?_⟩
    refine ⟨_, rfl, _, rfl, _, rfl, RgOk.of_le (by omega) (by omega) (by omega) (by omega), fun l hl => ?_⟩
    rw [rgV_rgI (by omega), Int.toNat_natCast]
    have d1 := dr.new (o := .lst ((rgI n).map V.int)) hl
    have k1 : Kp D H (upd H l (.lst ((rgI n).map V.int))) := Kp.new hl
    refine ⟨D, l, rgI n, rfl, .inl (SqL.of upd_same), by unfold rgI; rw [List.length_map, List.length_range]; omega, d1, fun bs b H2 pm d2 k2 hb0 hb => ⟨(by show 0 ≤ sizeLine; decide), fun f hf => ⟨_, _, rfl, ?_⟩⟩⟩
    have ob : Off D b := by
      refine d1.off ?_
      exact hb0
    have of0 : Off D f := d2.off hf
    have kp2 : Kp D H H2 := k1.trans k2
    have nbf : b ≠ f := ne_of_none hb hf
    have lb : bs.length = n := by
      have := pm.length_eq
      rw [this]
      unfold rgI
      rw [List.length_map, List.length_range]
    refine ⟨_, rfl, b, rfl, ⟨_, SqL.of (same_new hf _ _ hb)⟩, ?_⟩
    refine for_list (K := K) (a := b) (xs := bs.map V.int) (fun i σ H' => ∃ ps g v4 v5, σ = [some (.ref D.d), some (.int (n : Int)), some (.ref b), some (.ref g), v4, v5] ∧ ps.map (·.1) = bs.take i ∧ (∀ q ∈ ps, q.2 = 0 ∨ q.2 = 1) ∧ H g = none ∧ Off D g ∧ H' g = some (.lst ((prs2 ps).map V.int)) ∧ H' b = some (.lst (bs.map V.int)) ∧ DrOk D H' ∧ Kp D H H')
      ⟨[], f, none, none, rfl, rfl, (fun _ h => nomatch h), kp2.none of0 hf, of0, upd_same, same_new hf _ _ hb, d2.new hf, kp2.trans (Kp.new hf)⟩ (fun i σ H' _ ⟨_, _, _, _, _, _, _, _, _, _, z, _⟩ => SqL.of z) ?_ ?_
    · rintro i y σ H3 hi ⟨ps, g, v4, v5, rfl, e1, sd, hg0, og, hg, hb3, d3, k3⟩
      obtain ⟨e, rfl, hx⟩ := ints_at hi
      have hil : i < bs.length := (List.getElem?_eq_some_iff.mp hx).1
      have lps : ps.length = i := by
        have := congrArg List.length e1
        rw [List.length_map, List.length_take] at this
        omega
      have be := (perm_mem pm).mp (List.mem_of_getElem? hx)
      refine ⟨_, rfl, D, 2, rfl, by decide, by decide, d3, fun sdv H4 s0 s1 d4 k4 => ?_⟩
      have hg4 := k4.at og hg
      have hb4 := k4.at ob hb3
      refine ⟨_, rfl, _, rfl, _, _, rfl, rfl, .inl ⟨by decide, by decide⟩, _, rfl, _, _, rfl, rfl, _, rfl, _, _, rfl, rfl, .inl ⟨by decide, by decide⟩, _, _, rfl, rfl, _, rfl, _, _, rfl, rfl, (by show 2 ≤ sizeLine; decide), fun m hm => ?_⟩
      have em : (upd H4 m (.lst [.int (2 * e + sdv), .int (2 * e + 1 - sdv)])) m = some (.lst [.int (2 * e + sdv), .int (2 * e + 1 - sdv)]) := upd_same
      have sm : Same H4 (upd H4 m (.lst [.int (2 * e + sdv), .int (2 * e + 1 - sdv)])) := same_new hm
      refine ⟨g, m, _, [.int (2 * e + sdv), .int (2 * e + 1 - sdv)], rfl, rfl, sm _ _ hg4, em, ?_, fun r hr2 => ?_⟩
      · rw [List.length_map, prs2_len, lps]
        show 2 * i + 2 ≤ sizeLine
        have : (1000 : Nat) ≤ sizeLine := by decide
        omega
      have hr4 := sm.none hr2
      refine ⟨ps ++ [(e, sdv)], r, _, _, rfl, ?_, ?_, (k3.trans k4).none (d4.off hr4) hr4, d4.off hr4, ?_, same_new hr2 _ _ (sm _ _ hb4), (d4.same sm).new hr2, ((k3.trans k4).trans (.of sm)).trans (Kp.new hr2)⟩
      · rw [List.map_append, e1, List.take_add_one, hx]
        rfl
      · intro q hq
        rcases List.mem_append.mp hq with hq | hq
        · exact sd q hq
        · rw [List.mem_singleton.mp hq]
          show sdv = 0 ∨ sdv = 1
          omega
      · rw [upd_same, prs2_snoc, List.map_append]
        rfl
    · rintro σ H3 ⟨ps, g, v4, v5, rfl, e1, sd, hg0, og, hg, hb3, d3, k3⟩
      rw [List.length_map, List.take_length] at e1
      obtain ⟨pml, mts⟩ := letters_ok (n := n) (ps := ps) (by rw [e1]; exact pm) sd
      exact ⟨_, rfl, k _ g H3 pml mts d3 k3 hg0 hg⟩
end
end Tt
set_option maxRecDepth 100000
set_option maxHeartbeats 4000000
namespace Tt
open PySem L2
open LamX (ExtN)
open Nm (Ren named keys look nmAll nmStep)
section
variable {P : Program} {w : World} {K : PySem.W.Frag} {mg : Str → Option Value} {base : Heap}
def tgt (s : List Int) (m : Nat) : List (List Int) := ((List.range m).filter fun (e : Nat) => decide ((e : Int) ∉ s)).map fun (e : Nat) => s ++ [(e : Int), Wd.mate (e : Int)]
def SS (n : Nat) : Nat → List (List Int)
  | 0 => [[]]
  | j + 1 => (SS n j).flatMap fun s => tgt s (2 * n)
theorem tgt_succ (s : List Int) (m : Nat) : tgt s (m + 1) = if (m : Int) ∈ s then tgt s m else tgt s m ++ [s ++ [(m : Int), Wd.mate (m : Int)]] := by
  unfold tgt
  rw [List.range_succ, List.filter_append, List.map_append]
  by_cases h : (m : Int) ∈ s
  · rw [if_pos h]
    simp [h]
  · rw [if_neg h]
    simp [h]
theorem tgt_len (s : List Int) (m : Nat) : (tgt s m).length ≤ m := by
  unfold tgt
  rw [List.length_map]
  have := List.length_filter_le (fun (e : Nat) => decide ((e : Int) ∉ s)) (List.range m)
  rw [List.length_range] at this
  exact this
theorem flatMap_len {α β : Type} {f : α → List β} {c : Nat} (h : ∀ a, (f a).length ≤ c) : ∀ l : List α, (l.flatMap f).length ≤ c * l.length
  | [] => Nat.le_refl _
  | a :: l => by
    have := flatMap_len h l
    have := h a
    rw [List.flatMap_cons, List.length_append, List.length_cons, Nat.mul_add, Nat.mul_one]
    omega
theorem SS_len {n : Nat} (n3 : n ≤ 3) : ∀ j, (SS n j).length ≤ 6 ^ j
  | 0 => Nat.le_refl _
  | j + 1 => by
    have h := flatMap_len (c := 6) (f := fun s => tgt s (2 * n)) (fun s => Nat.le_trans (tgt_len s _) (by omega)) (SS n j)
    have ih := SS_len n3 j
    show ((SS n j).flatMap _).length ≤ _
    rw [Nat.pow_succ]
    omega
structure PreR (n j : Nat) (ls : List Int) : Prop where
  ln : ls.length = 2 * j
  nd : ls.Nodup
  rg : ∀ x ∈ ls, 0 ≤ x ∧ x < 2 * n
  cl : ∀ x ∈ ls, Wd.mate x ∈ ls
  mt : ∀ i x y, i < j → ls[2 * i]? = some x → ls[2 * i + 1]? = some y → y = Wd.mate x
theorem SS_pre {n : Nat} : ∀ {j : Nat} {ls : List Int}, ls ∈ SS n j → PreR n j ls
  | 0, ls, h => by
    obtain rfl := List.mem_singleton.mp h
    exact ⟨rfl, List.nodup_nil, (fun _ h => nomatch h), (fun _ h => nomatch h), fun _ _ _ h => absurd h (by omega)⟩
  | j + 1, ls, h => by
    obtain ⟨s, hs, h1⟩ := List.mem_flatMap.mp h
    obtain ⟨e, h2, rfl⟩ := List.mem_map.mp h1
    obtain ⟨h3, h4⟩ := List.mem_filter.mp h2
    have he : e < 2 * n := List.mem_range.mp h3
    have hn : (e : Int) ∉ s := of_decide_eq_true h4
    have p := SS_pre hs
    have hm : Wd.mate (e : Int) ∉ s := fun z => hn (by have := p.cl _ z; rwa [Wd.mate_mate] at this)
    have bm : 0 ≤ Wd.mate (e : Int) ∧ Wd.mate (e : Int) < 2 * n := Wd.mate_range (by omega) (by omega)
    refine ⟨?_, ?_, ?_, ?_, ?_⟩
    · rw [List.length_append, p.ln]
      show 2 * j + 2 = 2 * (j + 1)
      omega
    · rw [List.nodup_append]
      refine ⟨p.nd, List.nodup_cons.mpr ⟨fun z => Nm.mate_ne (e : Int) (List.mem_singleton.mp z).symm, List.nodup_cons.mpr ⟨(fun z => nomatch z), List.nodup_nil⟩⟩, fun a ha b hb => ?_⟩
      rcases List.mem_cons.mp hb with rfl | hb
      · exact fun z => hn (z ▸ ha)
      · obtain rfl := List.mem_singleton.mp hb
        exact fun z => hm (z ▸ ha)
    · intro x hx
      rcases List.mem_append.mp hx with hx | hx
      · exact p.rg x hx
      · rcases List.mem_cons.mp hx with rfl | hx
        · omega
        · obtain rfl := List.mem_singleton.mp hx
          exact bm
    · intro x hx
      rcases List.mem_append.mp hx with hx | hx
      · exact List.mem_append_left _ (p.cl x hx)
      · refine List.mem_append_right _ ?_
        rcases List.mem_cons.mp hx with rfl | hx
        · exact List.mem_cons_of_mem _ List.mem_cons_self
        · obtain rfl := List.mem_singleton.mp hx
          rw [Wd.mate_mate]
          exact List.mem_cons_self
    · intro i x y hi hx hy
      by_cases c : i < j
      · rw [List.getElem?_append_left (by rw [p.ln]; omega)] at hx hy
        exact p.mt i x y c hx hy
      · have : i = j := by omega
        subst this
        rw [List.getElem?_append_right (by rw [p.ln]; omega), p.ln] at hx hy
        rw [show 2 * i - 2 * i = 0 by omega] at hx
        rw [show 2 * i + 1 - 2 * i = 1 by omega] at hy
        have h1 : (e : Int) = x := by simpa using hx
        have h2 : Wd.mate (e : Int) = y := by simpa using hy
        rw [← h2, h1]
theorem mate_even (k : Nat) : Wd.mate ((2 * k : Nat) : Int) = ((2 * k + 1 : Nat) : Int) := by unfold Wd.mate; rw [if_pos (by omega)]; omega
theorem mate_odd (k : Nat) : Wd.mate ((2 * k + 1 : Nat) : Int) = ((2 * k : Nat) : Int) := by unfold Wd.mate; rw [if_neg (by omega)]; omega
theorem lt_of {ls : List Int} {j : Nat} {v : Int} (h : ls[j]? = some v) : lt ls (j : Int) = v := by
  unfold lt
  rw [Int.toNat_natCast, List.getD_eq_getElem?_getD, h]
  rfl
theorem SS_ok {n : Nat} {ls : List Int} : ls ∈ SS n n ↔ ls.Perm (rgI (2 * n)) ∧ Mts n ls := by
  constructor
  · intro h
    have p := SS_pre h
    have lr : (rgI (2 * n)).length = 2 * n := by unfold rgI; rw [List.length_map, List.length_range]
    refine ⟨(cover_perm p.nd (fun x hx => (perm_mem (List.Perm.refl _)).mpr (by have := p.rg x hx; omega)) (by rw [lr, p.ln])).symm, fun e he => ?_⟩
    have g0 := List.getElem?_eq_getElem (l := ls) (i := 2 * (e / 2)) (by rw [p.ln]; omega)
    have g1 := List.getElem?_eq_getElem (l := ls) (i := 2 * (e / 2) + 1) (by rw [p.ln]; omega)
    have m := p.mt (e / 2) _ _ (by omega) g0 g1
    have l0 := lt_of g0
    have l1 := lt_of g1
    by_cases c : e % 2 = 0
    · have e2 : e = 2 * (e / 2) := by omega
      have h1 : Wd.mate (e : Int) = ((2 * (e / 2) + 1 : Nat) : Int) := (congrArg (fun z : Nat => Wd.mate (z : Int)) e2).trans (mate_even (e / 2))
      have h0 : lt ls (e : Int) = ls[2 * (e / 2)]'(by rw [p.ln]; omega) := by
        rw [← l0, ← e2]
      rw [h1, l1, h0, m]
    · have e2 : e = 2 * (e / 2) + 1 := by omega
      have h1 : Wd.mate (e : Int) = ((2 * (e / 2) : Nat) : Int) := by
        have := mate_odd (e / 2)
        rw [← e2] at this
        exact this
      have h0 : lt ls (e : Int) = ls[2 * (e / 2) + 1]'(by rw [p.ln]; omega) := by
        rw [← l1, ← e2]
      rw [h1, l0, h0, m, Wd.mate_mate]
  · rintro ⟨pm, mts⟩
    have ll := perm_len pm
    have nd := row_nodup pm
    have all : ∀ j, j ≤ n → ls.take (2 * j) ∈ SS n j := fun j => by
      induction j with
      | zero => exact fun _ => List.mem_singleton.mpr rfl
      | succ j ih =>
        intro hj
        have g0 := List.getElem?_eq_getElem (l := ls) (i := 2 * j) (by omega)
        have g1 := List.getElem?_eq_getElem (l := ls) (i := 2 * j + 1) (by omega)
        have m := mts (2 * j) (by omega)
        rw [mate_even, lt_of g1, lt_of g0] at m
        have b0 := (perm_mem pm).mp (List.mem_of_getElem? g0)
        have et : ls.take (2 * (j + 1)) = ls.take (2 * j) ++ [ls[2 * j]'(by omega), Wd.mate (ls[2 * j]'(by omega))] := by
          rw [show 2 * (j + 1) = 2 * j + 1 + 1 by omega, List.take_add_one, List.take_add_one, g0, g1, ← m, List.append_assoc]
          rfl
        rw [et]
        obtain ⟨k, hk⟩ := Int.eq_ofNat_of_zero_le b0.1
        refine List.mem_flatMap.mpr ⟨_, ih (by omega), List.mem_map.mpr ⟨k, List.mem_filter.mpr ⟨List.mem_range.mpr (by omega), decide_eq_true ?_⟩, by rw [hk]⟩⟩
        rw [← hk]
        intro z
        obtain ⟨i, hi⟩ := List.mem_iff_getElem?.mp z
        have hil := (List.getElem?_eq_some_iff.mp hi).1
        rw [List.length_take] at hil
        rw [List.getElem?_take_of_lt (by omega)] at hi
        have e1 := idx_get nd hi
        have e2 := idx_get nd g0
        omega
    have := all n (Nat.le_refl _)
    rw [List.take_of_length_le (by omega)] at this
    exact this
structure Lr (H : Hp) (g : Addr) (ps : List Addr) (S : List (List Int)) : Prop where
  l : H g = some (.lst (ps.map V.ref))
  p : Paired (fun p m => H p = some (.tup (m.map V.int))) ps S
theorem Lr.same {H H' : Hp} {g : Addr} {ps : List Addr} {S : List (List Int)} (h : Lr H g ps S) (s : Same H H') : Lr H' g ps S := ⟨s _ _ h.l, pair_mono (fun _ _ z => s _ _ z) h.p⟩
theorem tup_ne {H : Hp} {a h : Addr} {m : List V} {xs : List V} (e : H a = some (.tup m)) (k : H h = some (.lst xs)) : a ≠ h := fun z => by rw [z, k] at e; cases e
theorem Lr.put {H : Hp} {g h : Addr} {ps : List Addr} {S : List (List Int)} {xs ys : List V} (r : Lr H g ps S) (k : H h = some (.lst xs)) (n : g ≠ h) : Lr (upd H h (.lst ys)) g ps S :=
  ⟨by rw [upd_ne n]; exact r.l, pair_mono (fun a m z => by rw [upd_ne (tup_ne z k)]; exact z) r.p⟩
theorem Lr.app {H : Hp} {h q : Addr} {qs : List Addr} {R : List (List Int)} {m : List Int} (r : Lr H h qs R) (e : H q = some (.tup (m.map V.int))) : Lr (upd H h (.lst (qs.map V.ref ++ [.ref q]))) h (qs ++ [q]) (R ++ [m]) :=
  ⟨by rw [upd_same, List.map_append]; rfl, pair_snoc (pair_mono (fun a m z => by rw [upd_ne (tup_ne z r.l)]; exact z) r.p) (by rw [upd_ne (tup_ne e r.l)]; exact e)⟩
def spRenamings : Sp := fun vs H Q _ => ∃ (n : Nat), vs = [.int (n : Int)] ∧ n ≤ 3 ∧ ∀ l ps H', Same H H' → Lr H' l ps (SS n n) → Q (.ref l) H'
theorem ok_l_renamings (T : Txt K mg) : FnOk P w K mg base CX0 2 T.l_renamings.a T.l_renamings.fd ["many"] spRenamings := by
  refine T.l_renamings.F.ok sc_l_renamings (fun vs H Q E h => ?_) (fun cdv A outer s H vs Q E hr h => ?_)
  · obtain ⟨n, rfl, _⟩ := h
    rfl
  · obtain ⟨n, rfl, n3, k⟩ := h
    have nd := sc_l_renamings.nd
    have hu := hu_of hr
    refine ⟨_, (pss_cons (ps_set (i := 1) nd rfl (Or.inl rfl) (pe_lst (pa_cons (pe_tup pa_nil) pa_nil)))
    (pss_cons (ps_for PassesOwn.never rfl (pi_range1 rfl T.zrange (pa_cons (pv 0) pa_nil)) (pg_name (i := 2) nd rfl (Or.inl rfl))
      (pss_cons (ps_set (i := 3) nd rfl (Or.inl rfl) (pe_lst pa_nil))
      (pss_cons (ps_for PassesOwn.never rfl (pi_list (pv 1)) (pg_name (i := 4) nd rfl (Or.inl rfl))
        (pss_one (ps_for PassesOwn.never rfl (pi_range1 rfl T.zrange (pa_cons (pe_op op_mul pe_int (pv 0)) pa_nil)) (pg_name (i := 5) nd rfl (Or.inl rfl))
          (pss_one (ps_if (pt_cmpR op_notIn_seq (pv 5) (pv 4) rfl)
            (pss_one (ps_expr (pe_bm PySem.F.plainAttrs_list PySem.F.slot_list_append PySem.F.type_list_append mt_append (pv 3) (pa_cons (pe_op op_catA (pv 4) (pe_tup (pa_cons (pv 5) (pa_cons (pe_call (ok_l_mate T) (hr.mono (by decide)) (by rfl) T.l_mate.g T.l_mate.k T.l_mate.b .nil pass0 (pa_cons (pv 5) pa_nil)) pa_nil)))) pa_nil))))
            pss_nil)))))
      (pss_one (ps_set (i := 1) nd rfl (Or.inl rfl) (pv 3))))))
    (pss_one (ps_ret (pv 1))))), ?_⟩
    refine ⟨(by show 0 ≤ sizeLine; decide), fun t ht => ⟨(by show 1 ≤ sizeLine; decide), fun g0 hg0 => ?_⟩⟩
    have s1 : Same H (upd (upd H t (.tup [])) g0 (.lst [.ref t])) := (same_new ht).trans (same_new hg0)
    have r1 : Lr (upd (upd H t (.tup [])) g0 (.lst [.ref t])) g0 [t] (SS n 0) := ⟨upd_same, .cons (same_new hg0 _ _ (upd_same)) .nil⟩
    generalize upd (upd H t (.tup [])) g0 (.lst [.ref t]) = H1 at s1 r1
    refine ⟨_, rfl, (n : Int), rfl, by omega, by omega, ?_⟩
    refine for_range (lo := 0) (n := ((n : Int)).toNat) (fun j σ H' => ∃ g ps v2 v3 v4 v5, σ = [some (.int (n : Int)), some (.ref g), v2, v3, v4, v5] ∧ Lr H' g ps (SS n j) ∧ Same H H') ⟨g0, [t], none, none, none, none, rfl, r1, s1⟩ ?_ ?_
    · rintro j σ H2 hj ⟨g, ps, v2, v3, v4, v5, rfl, r2, s2⟩
      have hjn : j < n := by omega
      refine ⟨(by show 0 ≤ sizeLine; decide), fun h hh => ?_⟩
      have ngh : g ≠ h := ne_of_none r2.l hh
      have hH := s2.none hh
      have s3 := s2.trans (same_new (o := .lst []) hh)
      have r3 := r2.same (same_new (o := .lst []) hh)
      have l3 : Lr (upd H2 h (.lst [])) h [] [] := ⟨upd_same, .nil⟩
      generalize upd H2 h (.lst []) = H3 at s3 r3 l3
      have lS : (SS n j).length ≤ 36 := Nat.le_trans (SS_len n3 j) (by
        have : j ≤ 2 := by omega
        have h1 : 6 ^ j ≤ 6 ^ 2 := Nat.pow_le_pow_right (by decide) this
        omega)
      have lps : ps.length = (SS n j).length := r2.p.length
      refine ⟨_, rfl, g, rfl, ⟨_, SqL.of r3.l⟩, ?_⟩
      refine for_list (K := K) (a := g) (xs := ps.map V.ref) (fun i σ H' => ∃ qs v4 v5, σ = [some (.int (n : Int)), some (.ref g), some (.int (0 + (j : Int))), some (.ref h), v4, v5] ∧ Lr H' g ps (SS n j) ∧ Lr H' h qs (((SS n j).take i).flatMap fun s => tgt s (2 * n)) ∧ Same H H')
        ⟨[], v4, v5, rfl, r3, l3, s3⟩ (fun i σ H' _ ⟨_, _, _, _, z, _⟩ => SqL.of z.l) ?_ ?_
      · rintro i y σ H4 hi ⟨qs, v4, v5, rfl, r4, l4, s4⟩
        have hil : i < ps.length := by
          have := (List.getElem?_eq_some_iff.mp hi).1
          rwa [List.length_map] at this
        obtain ⟨a, ha⟩ : ∃ a, ps[i]? = some a := ⟨_, List.getElem?_eq_getElem hil⟩
        rw [List.getElem?_map, ha] at hi
        cases (Option.some.inj hi)
        obtain ⟨m, hm⟩ : ∃ m, (SS n j)[i]? = some m := ⟨_, List.getElem?_eq_getElem (by omega)⟩
        have lm : m.length ≤ 6 := by
          have := (SS_pre (List.mem_of_getElem? hm)).ln
          omega
        have eT : ((SS n j).take (i + 1)).flatMap (fun s => tgt s (2 * n)) = ((SS n j).take i).flatMap (fun s => tgt s (2 * n)) ++ tgt m (2 * n) := by
          rw [List.take_add_one, hm, List.flatMap_append]
          simp
        rw [eT]
        have lT : (((SS n j).take i).flatMap fun s => tgt s (2 * n)).length ≤ 216 := by
          have h1 := flatMap_len (c := 6) (f := fun s => tgt s (2 * n)) (fun s => Nat.le_trans (tgt_len s _) (by omega)) ((SS n j).take i)
          rw [List.length_take] at h1
          omega
        generalize (((SS n j).take i).flatMap fun s => tgt s (2 * n)) = R at l4 lT
        refine ⟨_, rfl, _, _, rfl, rfl, .inl ⟨by decide, by decide⟩, _, rfl, by omega, by omega, ?_⟩
        refine for_range (lo := 0) (n := (2 * (n : Int)).toNat) (fun e σ H' => ∃ qs v5, σ = [some (.int (n : Int)), some (.ref g), some (.int (0 + (j : Int))), some (.ref h), some (.ref a), v5] ∧ Lr H' g ps (SS n j) ∧ Lr H' h qs (R ++ tgt m e) ∧ Same H H')
          ⟨qs, v5, rfl, r4, by rw [show tgt m 0 = [] from rfl, List.append_nil]; exact l4, s4⟩ ?_ ?_
        · rintro e σ H5 he ⟨qs, v5, rfl, r5, l5, s5⟩
          have he2 : e < 2 * n := by omega
          have eA := pair_at r5.p ha hm
          have ex : [some (V.int (n : Int)), some (V.ref g), some (V.int (0 + (j : Int))), some (V.ref h), some (V.ref a), v5].set 5 (some (V.int (0 + (e : Int)))) = [some (.int (n : Int)), some (.ref g), some (.int (0 + (j : Int))), some (.ref h), some (.ref a), some (.int (e : Int))] := by rw [show (0 + (e : Int)) = (e : Int) from Int.zero_add _]; rfl
          dsimp only [gName]
          rw [ex]
          refine ⟨_, rfl, _, rfl, a, _, rfl, .inr (SqT.of eA), rfl, flat_ints m, _, rfl, ?_⟩
          have ei : (if true = true then !inV (V.int (e : Int)) (m.map V.int) else inV (V.int (e : Int)) (m.map V.int)) = !decide ((e : Int) ∈ m) := by rw [if_pos rfl, inV_ints]
          rw [ei, tgt_succ]
          by_cases q : (e : Int) ∈ m
          · rw [decide_eq_true q, if_pos q]
            exact iteF ⟨qs, _, rfl, r5, l5, s5⟩
          · rw [decide_eq_false q, if_neg q, ← List.append_assoc]
            refine iteT ?_
            refine ⟨_, rfl, .inl ⟨rfl, _, SqL.of l5.l⟩, _, rfl, _, rfl, _, rfl, (e : Int), rfl, (by show 2 ≤ sizeLine; decide), fun u hu2 => ?_⟩
            have s6 : Same H5 (upd H5 u (.tup [.int (e : Int), .int (Wd.mate (e : Int))])) := same_new hu2
            have eU : (upd H5 u (.tup [.int (e : Int), .int (Wd.mate (e : Int))])) u = some (.tup [.int (e : Int), .int (Wd.mate (e : Int))]) := upd_same
            generalize upd H5 u (.tup [.int (e : Int), .int (Wd.mate (e : Int))]) = H6 at s6 eU
            have lq : qs.length = (R ++ tgt m e).length := l5.p.length
            have ln : (qs.map V.ref).length < sizeLine := by
              rw [List.length_map, lq, List.length_append]
              have := tgt_len m e
              exact small1000 (by omega)
            have fin : ∀ (c : Addr) (H7 : Hp), Same H6 H7 → H7 c = some (.tup ((m ++ [(e : Int), Wd.mate (e : Int)]).map V.int)) → Lr (upd H7 h (.lst (qs.map V.ref ++ [.ref c]))) g ps (SS n j) ∧ Lr (upd H7 h (.lst (qs.map V.ref ++ [.ref c]))) h (qs ++ [c]) (R ++ tgt m e ++ [m ++ [(e : Int), Wd.mate (e : Int)]]) ∧ Same H (upd H7 h (.lst (qs.map V.ref ++ [.ref c]))) := fun c H7 s7 hc => by
              have s8 := s6.trans s7
              have l8 := l5.same s8
              refine ⟨(r5.same s8).put l8.l ngh, l8.app hc, fun b o hb => ?_⟩
              rw [upd_ne (ne_of_none hb hH)]
              exact s8 _ _ (s5 b o hb)
            refine ⟨a, u, m.map V.int, [.int (e : Int), .int (Wd.mate (e : Int))], rfl, rfl, SqT.of (s6 _ _ eA), SqT.of eU, ?_, fun z => ?_, fun _ z => ?_, fun _ _ c hc => ?_⟩
            · rw [List.length_map]
              show m.length + 2 ≤ sizeLine
              have : (1000 : Nat) ≤ sizeLine := by decide
              omega
            · have hm0 : m = [] := List.map_eq_nil_iff.mp z
              have e7 : H6 u = some (.tup ((m ++ [(e : Int), Wd.mate (e : Int)]).map V.int)) := by rw [hm0]; exact eU
              exact ⟨h, _, _, rfl, rfl, (l5.same s6).l, ln, qs ++ [u], _, rfl, fin u H6 (fun _ _ z => z) e7⟩
            · cases z
            · have e7 : (upd H6 c (.tup (m.map V.int ++ [.int (e : Int), .int (Wd.mate (e : Int))]))) c = some (.tup ((m ++ [(e : Int), Wd.mate (e : Int)]).map V.int)) := by
                rw [upd_same, List.map_append]
                rfl
              exact ⟨h, _, _, rfl, rfl, same_new hc _ _ (l5.same s6).l, ln, qs ++ [c], _, rfl, fin c _ (same_new hc) e7⟩
        · rintro σ H5 ⟨qs, v5, rfl, r5, l5, s5⟩
          rw [show (2 * (n : Int)).toNat = 2 * n by omega] at l5
          exact ⟨qs, _, _, rfl, r5, l5, s5⟩
      · rintro σ H4 ⟨qs, v4, v5, rfl, r4, l4, s4⟩
        rw [List.length_map, lps, List.take_length] at l4
        exact ⟨_, rfl, h, qs, _, _, _, _, rfl, l4, s4⟩
    · rintro σ H2 ⟨g, ps, v2, v3, v4, v5, rfl, r2, s2⟩
      rw [Int.toNat_natCast] at r2
      exact ⟨_, rfl, k g ps H2 s2 r2⟩
end
end Tt
set_option maxRecDepth 100000
set_option maxHeartbeats 4000000
namespace Tt
open PySem L2
open LamX (ExtN)
open Nm (Ren named keys look nmAll nmStep)
section
variable {P : Program} {w : World} {K : PySem.W.Frag} {mg : Str → Option Value} {base : Heap}
theorem kit_first {t a b : Value} (h : PySem.W.kitOne K t a = some true) : PySem.W.kitAny K t [a, b] = some true := by
  simp [PySem.W.kitAny, h]
theorem kit_second {t a b : Value} {c : Bool} (h : PySem.W.kitOne K t a = some false) (h2 : PySem.W.kitOne K t b = some c) : PySem.W.kitAny K t [a, b] = some c := by
  cases c <;> simp [PySem.W.kitAny, h, h2]
theorem nonI (T : Txt K mg) {H : Hp} {y : V} {S : String} (t : TyB K H y S) (h : S ≠ "dict" ∧ S ≠ "bytes") :
    (isI y = false ∧ PySem.W.kitOne K (.type S) (.type "int") = some false) ∨ (isI y = false ∧ PySem.W.kitOne K (.type S) (.type "int") = some true ∧ PySem.W.kitOne K (.type S) (.type "bool") = some true) ∨
    (isI y = true ∧ PySem.W.kitOne K (.type S) (.type "int") = some true ∧ PySem.W.kitOne K (.type S) (.type "bool") = some false) := by
  cases t with
  | non => exact .inl ⟨rfl, T.kNoI⟩
  | bl b => exact .inr (.inl ⟨rfl, T.kBoI, kit_self _⟩)
  | int i => exact .inr (.inr ⟨rfl, kit_self _, T.kInB⟩)
  | str x => exact .inl ⟨rfl, T.kStI⟩
  | byt b => exact absurd rfl h.2
  | lst h => exact .inl ⟨rfl, T.kLiI⟩
  | tup h => exact .inl ⟨rfl, T.kTuI⟩
  | dK h' => exact absurd rfl h.1
inductive LetL (K : PySem.W.Frag) (H : Hp) (n : Nat) : V → Bool → Prop where
  | non {x : V} {S : String} (h : TyB K H x S) (hS : S = "NoneType" ∨ S = "int" ∨ S = "str" ∨ S = "dict") : LetL K H n x false
  | lst {p : Addr} {xs : List V} {b : Bool} (h : SqL K H p xs) (ln : xs.length ≤ 20) (ty : ∀ y ∈ xs, ∃ S, TyB K H y S ∧ S ≠ "dict" ∧ S ≠ "bytes") (hb : b = true ↔ RenP n xs) : LetL K H n (.ref p) b
theorem LetL.v {H : Hp} {n : Nat} {x : V} {b : Bool} (h : LetL K H n x b) : LetV K H n x b := by
  cases h with
  | non h hS => exact .non h hS
  | lst h ln ty hb => exact .lst h ln ty hb
theorem LetL.ext {H H' : Hp} {n : Nat} {x : V} {b : Bool} (h : LetL K H n x b) (e : ExtN H H') : LetL K H' n x b := by
  cases h with
  | non h hS => exact .non (tyB_ext h e) hS
  | lst h n ty hb => exact .lst (sqL_ext e h) n (fun y hy => (ty y hy).elim fun S t => ⟨S, tyB_ext t.1 e, t.2⟩) hb
def spLIsRen (K : PySem.W.Frag) : Sp := fun vs H Q _ => ∃ (x : V) (n : Nat) (b : Bool), vs = [x, .int (n : Int)] ∧ n ≤ 6 ∧ LetL K H n x b ∧ ∀ H', Same H H' → Q (.bl b) H'
theorem ok_l_is_renaming (T : Txt K mg) : FnOk P w K mg base CX0 2 T.l_is_renaming.a T.l_is_renaming.fd ["thing", "many"] (spLIsRen K) := by
  refine T.l_is_renaming.F.ok sc_l_is_renaming (fun vs H Q E h => ?_) (fun cdv A outer s H vs Q E hr h => ?_)
  · obtain ⟨x, n, b, rfl, _⟩ := h
    rfl
  · obtain ⟨x, n, b, rfl, n6, hv, k⟩ := h
    have nd := sc_l_is_renaming.nd
    cases hv with
    | @non x S h hS =>
      refine ⟨_, (pss_cons (ps_if (PW.pt (pw_or (pt_not (pt_val (pe_callB call_isiT (by rfl) T.zisinstance (by decide +kernel) (pa_cons (pv 0) (pa_cons (pe_tup (pa_cons (pe_bltn (v := .ty "list") (by rfl) T.zlist (by decide +kernel) rfl) (pa_cons (pe_bltn (v := .ty "tuple") (by rfl) T.ztuple (by decide +kernel) rfl) pa_nil))) pa_nil))))) (pw_or1 (pt_cmpR op_ne (pe_callB call_len_seq (by rfl) T.zlen (by decide +kernel) (pa_cons (pv 0) pa_nil)) (pe_op op_mul pe_int (pv 1)) (nomark _)))))
      (pss_one (ps_ret pe_bl))
      pss_nil)
    (pss_cons (ps_if (pt_cmpR (op_neD hr.units) (pe_lc (own := [("item", 2)]) (g := gName 2) rfl nd (pi_tup (pv 0)) (blkOk_by (own := [("item", 2)]) (N := N_l_is_renaming) (sc := defScope s_l_is_renaming) (by decide +kernel)) (fun _ _ _ _ _ => pg_name (i := 2) nd rfl (Or.inl rfl)) (fun _ _ _ _ _ => pts_one (PW.pt (pw_or (pt_not (pt_val (pe_callB (call_isAK (K := K) rfl) (by rfl) T.zisinstance (by decide +kernel) (pa_cons (pv 2) (pa_cons (pe_bltn (v := .ty "int") (by rfl) T.zint (by decide +kernel) rfl) pa_nil))))) (pw_or1 (pt_val (pe_callB (call_isAK (K := K) rfl) (by rfl) T.zisinstance (by decide +kernel) (pa_cons (pv 2) (pa_cons (pe_bltn (v := .ty "bool") (by rfl) T.zbool (by decide +kernel) rfl) pa_nil)))))))) (fun _ _ _ _ _ => pe_int)) (pe_lst pa_nil) (nomark _))
      (pss_one (ps_ret pe_bl))
      pss_nil)
    (pss_cons (ps_if (pt_cmpR (op_neD hr.units) (pe_callB cr_sortedS2 (by rfl) T.zsorted (by decide +kernel) (pa_cons (pv 0) pa_nil)) (pe_listRg rfl (by rfl) T.zlist (prg_1 (by rfl) T.zrange (pe_op op_mul pe_int (pv 1)))) (nomark _))
      (pss_one (ps_ret pe_bl))
      pss_nil)
    (pss_one (ps_ret (pe_cmpR (op_eqD hr.units) (pe_lc (own := [("end", 3)]) (g := gName 3) rfl nd (pi_range1 rfl T.zrange (pa_cons (pe_op op_mul pe_int (pv 1)) pa_nil)) (blkOk_by (own := [("end", 3)]) (N := N_l_is_renaming) (sc := defScope s_l_is_renaming) (by decide +kernel)) (fun _ _ _ _ _ => pg_name (i := 3) nd rfl (Or.inl rfl)) (fun _ _ _ _ _ => pts_one (pt_cmpR op_ne (pe_ix (ix_tupK (K := K) rfl) (pv 0) (pe_call (ok_l_mate T) (hr.mono (by decide)) (by rfl) T.l_mate.g T.l_mate.k T.l_mate.b .nil pass0 (pa_cons (pv 3) pa_nil)) (fun _ _ => rfl)) (pe_call (ok_l_mate T) (hr.mono (by decide)) (by rfl) T.l_mate.g T.l_mate.k T.l_mate.b .nil pass0 (pa_cons (pe_ix (ix_tupK (K := K) rfl) (pv 0) (pv 3) (fun _ _ => rfl)) pa_nil)) (nomark _))) (fun _ _ _ _ _ => pe_int)) (pe_lst pa_nil) (nomark _))))))), ?_⟩
      refine ⟨_, rfl, (by show 2 ≤ sizeLine; decide), fun tp htp => ?_⟩
      have s0 : Same H (upd H tp (.tup [.ty "list", .ty "tuple"])) := same_new htp
      have kt : PySem.W.kitAny K (.type S) [.type "list", .type "tuple"] = some false := by
        rcases hS with rfl | rfl | rfl | rfl
        · exact kit_second T.kNoL T.kNoT
        · exact kit_second T.kInL T.kInT
        · exact kit_second T.kStL T.kStT
        · exact kit_second T.kDiL T.kDiT
      refine ⟨_, tp, _, _, _, false, rfl, upd_same, .cons (.ty _) (.cons (.ty _) .nil), Tt.TyB.x (K := K) (TyB.same h s0), kt, _, rfl, iteT (iteT (k _ s0))⟩
    | @lst t xs b h ln ty hb =>
      refine ⟨_, (pss_cons (ps_if (PW.pt (pw_or (pt_not (pt_val (pe_callB call_isiT (by rfl) T.zisinstance (by decide +kernel) (pa_cons (pv 0) (pa_cons (pe_tup (pa_cons (pe_bltn (v := .ty "list") (by rfl) T.zlist (by decide +kernel) rfl) (pa_cons (pe_bltn (v := .ty "tuple") (by rfl) T.ztuple (by decide +kernel) rfl) pa_nil))) pa_nil))))) (pw_or1 (pt_cmpR op_ne (pe_callB call_len_seq (by rfl) T.zlen (by decide +kernel) (pa_cons (pv 0) pa_nil)) (pe_op op_mul pe_int (pv 1)) (nomark _)))))
      (pss_one (ps_ret pe_bl))
      pss_nil)
    (pss_cons (ps_if (pt_cmpR (op_neD hr.units) (pe_lc (own := [("item", 2)]) (g := gName 2) rfl nd (pi_list (pv 0)) (blkOk_by (own := [("item", 2)]) (N := N_l_is_renaming) (sc := defScope s_l_is_renaming) (by decide +kernel)) (fun _ _ _ _ _ => pg_name (i := 2) nd rfl (Or.inl rfl)) (fun _ _ _ _ _ => pts_one (PW.pt (pw_or (pt_not (pt_val (pe_callB (call_isAK (K := K) rfl) (by rfl) T.zisinstance (by decide +kernel) (pa_cons (pv 2) (pa_cons (pe_bltn (v := .ty "int") (by rfl) T.zint (by decide +kernel) rfl) pa_nil))))) (pw_or1 (pt_val (pe_callB (call_isAK (K := K) rfl) (by rfl) T.zisinstance (by decide +kernel) (pa_cons (pv 2) (pa_cons (pe_bltn (v := .ty "bool") (by rfl) T.zbool (by decide +kernel) rfl) pa_nil)))))))) (fun _ _ _ _ _ => pe_int)) (pe_lst pa_nil) (nomark _))
      (pss_one (ps_ret pe_bl))
      pss_nil)
    (pss_cons (ps_if (pt_cmpR (op_neD hr.units) (pe_callB cr_sortedS2 (by rfl) T.zsorted (by decide +kernel) (pa_cons (pv 0) pa_nil)) (pe_listRg rfl (by rfl) T.zlist (prg_1 (by rfl) T.zrange (pe_op op_mul pe_int (pv 1)))) (nomark _))
      (pss_one (ps_ret pe_bl))
      pss_nil)
    (pss_one (ps_ret (pe_cmpR (op_eqD hr.units) (pe_lc (own := [("end", 3)]) (g := gName 3) rfl nd (pi_range1 rfl T.zrange (pa_cons (pe_op op_mul pe_int (pv 1)) pa_nil)) (blkOk_by (own := [("end", 3)]) (N := N_l_is_renaming) (sc := defScope s_l_is_renaming) (by decide +kernel)) (fun _ _ _ _ _ => pg_name (i := 3) nd rfl (Or.inl rfl)) (fun _ _ _ _ _ => pts_one (pt_cmpR op_ne (pe_ix (ix_listK (K := K) rfl) (pv 0) (pe_call (ok_l_mate T) (hr.mono (by decide)) (by rfl) T.l_mate.g T.l_mate.k T.l_mate.b .nil pass0 (pa_cons (pv 3) pa_nil)) (fun _ _ => rfl)) (pe_call (ok_l_mate T) (hr.mono (by decide)) (by rfl) T.l_mate.g T.l_mate.k T.l_mate.b .nil pass0 (pa_cons (pe_ix (ix_listK (K := K) rfl) (pv 0) (pv 3) (fun _ _ => rfl)) pa_nil)) (nomark _))) (fun _ _ _ _ _ => pe_int)) (pe_lst pa_nil) (nomark _))))))), ?_⟩
      refine ⟨_, rfl, (by show 2 ≤ sizeLine; decide), fun tp htp => ?_⟩
      have s1 : Same H (upd H tp (.tup [.ty "list", .ty "tuple"])) := same_new htp
      refine ⟨_, tp, _, _, _, true, rfl, upd_same, .cons (.ty _) (.cons (.ty _) .nil), Tt.TyB.x (K := K) (.lst (sqL_ext (.of s1) h)), kit_first (kit_self _), _, rfl, iteF ?_⟩
      generalize upd H tp (.tup [.ty "list", .ty "tuple"]) = H1 at s1
      have no : ¬ RenP n xs → ∀ H', Same H H' → Q (.bl false) H' := fun z H' s' => by
        have hf : b = false := by
          cases b with
          | false => rfl
          | true => exact absurd (hb.mp rfl) z
        rw [hf] at k
        exact k H' s'
      refine ⟨_, rfl, t, _, rfl, .inl (sqL_ext (.of s1) h), _, rfl, _, _, rfl, rfl, .inl ⟨by decide, by decide⟩, rfl, _, rfl, ?_⟩
      refine ite2 (fun c => ?_) (fun c => ?_)
      · refine no (fun z => ?_) _ s1
        obtain ⟨ls, e, pml, _⟩ := z
        have hl : (xs.length : Int) = 2 * (n : Int) := by rw [e, List.length_map, perm_len pml]; omega
        exact absurd c (by show ¬ (!decide (V.int (xs.length : Int) = V.int (2 * (n : Int)))) = true; rw [hl]; simp)
      · have hlen : xs.length = 2 * n := by
          have c' : (!decide (V.int (xs.length : Int) = V.int (2 * (n : Int)))) = false := by simpa using c
          have c2 : V.int (xs.length : Int) = V.int (2 * (n : Int)) := by simpa using c'
          have := V.int.inj c2
          omega
        refine ⟨_, rfl, t, rfl, ⟨_, sqL_ext (.of s1) h⟩, fun D1 hD1 => lc_list (K := K) (a := t) (xs := xs) (fun i H' => ∃ c : Nat, c ≤ i ∧ H' D1 = some (.lst ((List.replicate c (1 : Int)).map V.int)) ∧ (c = 0 ↔ (xs.take i).all isI = true) ∧ Same H1 H')
          ⟨0, Nat.le_refl _, upd_same, ⟨fun _ => rfl, fun _ => rfl⟩, same_new hD1⟩ (fun i H' _ z => sqL_ext (.of (s1.trans z.choose_spec.2.2.2)) h) ?_ ?_⟩
        · rintro i y H' hi ⟨c, hc, h1, hiff, s2⟩
          have hil : i < xs.length := (List.getElem?_eq_some_iff.mp hi).1
          obtain ⟨S, ty0, nS⟩ := ty y (List.mem_of_getElem? hi)
          have tyy := TyB.same ty0 (s1.trans s2)
          have tk : (xs.take (i + 1)).all isI = ((xs.take i).all isI && isI y) := by
            rw [List.take_add_one, hi, List.all_append]
            simp
          have yes : isI y = false → ∃ acc, H' D1 = some (.lst acc) ∧ acc.length < sizeLine ∧ (∃ c : Nat, c ≤ i + 1 ∧ (upd H' D1 (.lst (acc ++ [.int 1]))) D1 = some (.lst ((List.replicate c (1 : Int)).map V.int)) ∧ (c = 0 ↔ (xs.take (i + 1)).all isI = true) ∧ Same H1 (upd H' D1 (.lst (acc ++ [.int 1])))) := fun q => by
            refine ⟨_, h1, by rw [List.length_map, List.length_replicate]; exact small1000 (by omega), c + 1, by omega, ?_, ?_, fun b o hb => ?_⟩
            · rw [upd_same, List.replicate_succ', List.map_append]
              rfl
            · rw [tk, q, Bool.and_false]
              simp
            · rw [upd_ne (ne_of_none hb hD1)]
              exact s2 b o hb
          have nay : isI y = true → (∃ c : Nat, c ≤ i + 1 ∧ H' D1 = some (.lst ((List.replicate c (1 : Int)).map V.int)) ∧ (c = 0 ↔ (xs.take (i + 1)).all isI = true) ∧ Same H1 H') := fun q => by
            refine ⟨c, by omega, h1, ?_, s2⟩
            rw [tk, q, Bool.and_true]
            exact hiff
          refine ⟨rfl, ?_⟩
          rcases nonI T tyy nS with ⟨e, q⟩ | ⟨e, q, q2⟩ | ⟨e, q, q2⟩
          · exact ⟨_, rfl, .inr ⟨_, _, _, _, false, rfl, .ty _, Tt.TyB.x tyy, q, _, rfl, iteT (iteT (yes e))⟩⟩
          · exact ⟨_, rfl, .inr ⟨_, _, _, _, true, rfl, .ty _, Tt.TyB.x tyy, q, _, rfl, iteF ⟨_, rfl, .inr ⟨_, _, _, _, true, rfl, .ty _, Tt.TyB.x tyy, q2, _, rfl, iteT (yes e)⟩⟩⟩⟩
          · exact ⟨_, rfl, .inr ⟨_, _, _, _, true, rfl, .ty _, Tt.TyB.x tyy, q, _, rfl, iteF ⟨_, rfl, .inr ⟨_, _, _, _, false, rfl, .ty _, Tt.TyB.x tyy, q2, _, rfl, iteF (nay e)⟩⟩⟩⟩
        · rintro H' ⟨c, hc, h1, hiff, s2⟩
          rw [List.take_length] at hiff
          refine ⟨(by show 0 ≤ sizeLine; decide), fun l hl0 => ?_⟩
          have sN : Same H' (upd H' l (.lst [])) := same_new hl0
          refine ⟨.list ((List.replicate c (1 : Int)).map PyData.int), .list [], .lst (SqL.of (sN _ _ h1)) (dpAll_ints _ _), .lst (SqL.of upd_same) .nil, shapedAll_ints _, rfl, ?_⟩
          have ev : PyData.eqv (.list ((List.replicate c (1 : Int)).map PyData.int)) (.list []) = decide (List.replicate c (1 : Int) = []) := eqv_ints (List.replicate c (1 : Int)) []
          rw [ev]
          have s3 : Same H (upd H' l (.lst [])) := (s1.trans s2).trans sN
          generalize upd H' l (.lst []) = H2 at s3
          refine ⟨_, rfl, ?_⟩
          by_cases c0 : c = 0
          · have al := hiff.mp c0
            subst c0
            refine iteF ?_
            obtain ⟨ls, ex⟩ := all_ints al
            subst ex
            rw [List.length_map] at hlen
            refine ⟨_, rfl, .inl ⟨t, ls, rfl, sqL_ext (.of s3) h, fun ns' p2 pm2 pw hp2 => ?_⟩⟩
            have s4 : Same H (upd H2 p2 (.lst (ns'.map V.int))) := s3.trans (same_new hp2)
            have f2 : (upd H2 p2 (.lst (ns'.map V.int))) p2 = some (.lst (ns'.map V.int)) := upd_same
            generalize upd H2 p2 (.lst (ns'.map V.int)) = H3 at s4 f2
            refine ⟨_, rfl, _, _, rfl, rfl, .inl ⟨by decide, by decide⟩, _, rfl, RgOk.of_le (by omega) (by omega) (by omega) (by omega), fun q hq => ?_⟩
            have f1 : (upd H3 q (.lst (rgV 0 (2 * (n : Int))))) q = some (.lst ((rgI (2 * n)).map V.int)) := by
              rw [upd_same, rgV_rgI (by omega), show (2 * (n : Int)).toNat = 2 * n by omega]
            have f3 := upk (u := .lst (rgV 0 (2 * (n : Int)))) hq f2
            have s5 := s4.trans (same_new (o := .lst (rgV 0 (2 * (n : Int)))) hq)
            refine ⟨_, _, .lst (SqL.of f3) (dpAll_ints _ ns'), .lst (SqL.of f1) (dpAll_ints _ _), shapedAll_ints _, shapedAll_ints _, _, rfl, ?_⟩
            generalize upd H3 q (.lst (rgV 0 (2 * (n : Int)))) = H5 at f1 f3 s5
            rw [eqv_ints]
            by_cases en : ns' = rgI (2 * n)
            · rw [decide_eq_true en]
              have pml : ls.Perm (rgI (2 * n)) := by rw [← en]; exact pm2.symm
              refine iteF ⟨_, rfl, _, _, rfl, rfl, .inl ⟨by decide, by decide⟩, _, rfl, by omega, by omega, fun D2 hD2 => ?_⟩
              refine lc_range (lo := 0) (n := (2 * (n : Int)).toNat) (fun i H' => ∃ c : Nat, c ≤ i ∧ H' D2 = some (.lst ((List.replicate c (1 : Int)).map V.int)) ∧ (c = 0 ↔ ∀ e : Nat, e < i → lt ls (Wd.mate (e : Int)) = Wd.mate (lt ls (e : Int))) ∧ Same H5 H')
                ⟨0, Nat.le_refl _, upd_same, ⟨fun _ e h => absurd h (by omega), fun _ => rfl⟩, same_new hD2⟩ ?_ ?_
              · rintro i H6 hi ⟨c, hc2, h6, hiff2, s6⟩
                have hil : i < 2 * n := by omega
                have s7 := s5.trans s6
                have bm : 0 ≤ Wd.mate (i : Int) ∧ Wd.mate (i : Int) < 2 * n := Wd.mate_range (by omega) (by omega)
                have g1 := lt_get (ls := ls) (e := Wd.mate (i : Int)) bm.1 (by omega)
                have g2 := lt_get (ls := ls) (e := (i : Int)) (by omega) (by omega)
                have ex : ∀ σ : L2.St, σ.set 3 (some (V.int (0 + (i : Int)))) = σ.set 3 (some (V.int (i : Int))) := fun σ => by rw [Int.zero_add]
                dsimp only [gName]
                rw [ex]
                refine ⟨rfl, _, rfl, _, rfl, (i : Int), rfl, t, _, _, _, rfl, rfl, sqL_ext (.of s7) h, g1, _, rfl, _, rfl, t, _, _, _, rfl, rfl, sqL_ext (.of s7) h, g2, lt ls (i : Int), rfl, ?_⟩
                refine ⟨rfl, _, rfl, ite2 (fun cc => ?_) (fun cc => ?_)⟩
                · have ne : lt ls (Wd.mate (i : Int)) ≠ Wd.mate (lt ls (i : Int)) := fun z => by
                    rw [z] at cc
                    simp at cc
                  refine ⟨_, h6, by rw [List.length_map, List.length_replicate]; exact small1000 (by omega), c + 1, by omega, ?_, ?_, fun b o hb => ?_⟩
                  · rw [upd_same, List.replicate_succ', List.map_append]
                    rfl
                  · exact ⟨fun z => absurd z (by omega), fun z => absurd (z i (by omega)) ne⟩
                  · rw [upd_ne (ne_of_none hb hD2)]
                    exact s6 b o hb
                · have eq : lt ls (Wd.mate (i : Int)) = Wd.mate (lt ls (i : Int)) := by
                    have c1 : (!decide (V.int (lt ls (Wd.mate (i : Int))) = V.int (Wd.mate (lt ls (i : Int))))) = false := by simpa using cc
                    have c2 : V.int (lt ls (Wd.mate (i : Int))) = V.int (Wd.mate (lt ls (i : Int))) := by simpa using c1
                    exact V.int.inj c2
                  refine ⟨c, by omega, h6, ?_, s6⟩
                  rw [hiff2]
                  constructor
                  · intro z e he
                    by_cases hh : e = i
                    · rw [hh]
                      exact eq
                    · exact z e (by omega)
                  · exact fun z e he => z e (by omega)
              · rintro H6 ⟨c, hc2, h6, hiff2, s6⟩
                refine ⟨(by show 0 ≤ sizeLine; decide), fun l2 hl2 => ?_⟩
                have sN2 : Same H6 (upd H6 l2 (.lst [])) := same_new hl2
                refine ⟨.list ((List.replicate c (1 : Int)).map PyData.int), .list [], .lst (SqL.of (sN2 _ _ h6)) (dpAll_ints _ _), .lst (SqL.of upd_same) .nil, shapedAll_ints _, rfl, ?_⟩
                have ev2 : PyData.eqv (.list ((List.replicate c (1 : Int)).map PyData.int)) (.list []) = decide (List.replicate c (1 : Int) = []) := eqv_ints (List.replicate c (1 : Int)) []
                rw [ev2]
                have z0 : List.replicate c (1 : Int) = [] ↔ c = 0 := by
                  cases c with
                  | zero => simp
                  | succ c => simp [List.replicate_succ]
                rw [show (2 * (n : Int)).toNat = 2 * n by omega] at hiff2
                have eb : decide (List.replicate c (1 : Int) = []) = b := by
                  rw [Bool.eq_iff_iff, decide_eq_true_iff, z0, hiff2, hb]
                  constructor
                  · exact fun z => ⟨ls, rfl, pml, z⟩
                  · rintro ⟨ls', e, _, z⟩
                    rw [← map_int_inj e] at z
                    exact z
                rw [eb]
                exact k _ ((s5.trans s6).trans sN2)
            · rw [decide_eq_false en]
              refine iteT (no (fun z => ?_) _ s5)
              obtain ⟨ls', e, pml, _⟩ := z
              rw [← map_int_inj e] at pml
              exact en (perm_sorted pm2 pw pml)
          · have e0 : decide (List.replicate c (1 : Int) = []) = false := decide_eq_false (fun z => c0 (by have := congrArg List.length z; simpa using this))
            rw [e0]
            refine iteT (no (fun z => ?_) _ s3)
            obtain ⟨ls', e, _, _⟩ := z
            refine c0 (hiff.mpr ?_)
            rw [e, List.all_map]
            exact List.all_eq_true.mpr fun _ _ => rfl
end
end Tt
set_option maxRecDepth 100000
set_option maxHeartbeats 4000000
namespace L2
open PySem PySem.Spec PyProof.Rows
def dicE : PyData := .dict []
inductive ShwW (K : PySem.W.Frag) (H : Hp) : V → Str → Prop where
  | s {x : V} {t : Str} (h : Shw K H x t) : ShwW K H x t
  | e {a : Addr} (h : H a = some (.dK [])) : ShwW K H (.ref a) dicE.shown
def rShowW (K : PySem.W.Frag) : List V → Hp → VK → Prop := fun xs H Q => ∃ x t, xs = [x] ∧ ShwW K H x t ∧ Q (.str t) H
section
variable {X : Cx}
theorem call_showW (hg : X.A.guards = some []) (hu : X.A.units + 64 < cLine) : CallR X (.builtin "repr") (rShowW X.K) := by
  intro pins s σ H xs us Q I r h
  obtain ⟨x, t, rfl, hs, q⟩ := h
  cases hs with
  | s hs => exact call_showV hg hu pins s σ H _ us Q I r ⟨x, t, rfl, hs, q⟩
  | @e a h =>
    obtain ⟨u, rfl, rx⟩ := vals1 r
    cases (show u = Value.ref a from rx)
    obtain ⟨hz, hsys, vs, kv, o, es, ep, e, ex, hd, ks, ps, nd⟩ := (show ObjOk X.prog X.w H s.heap a (.dK []) from I.hok a _ h)
    cases kv
    generalize hl : es.toList = el at ps
    cases ps
    have rd : Reads s.heap (.ref a) dicE (a :: [] ++ []) := Reads.dict (as := []) (bs := []) e ex.1 hd (by rw [hl]; exact .nil) (by rw [hl]; exact .nil)
    refine repr_of_reads' rd (by decide +kernel) (fun _ z => ?_) hg (by have : dicE.depth ≤ 10 := (by decide +kernel); omega) (fun b o e => e) (fun h' u tk k => ⟨.str dicE.shown, H, I.kept (t' := tk) k, ⟨u, rfl⟩, q⟩) (by decide +kernel)
    simp at z
    rw [← z] at hsys
    simp at hsys
end
end L2
namespace Tt
open PySem L2
open LamX (Tabs TabS TabB ExtN CodeO tLam)
section
variable {X : Cx} {p p1 p2 p3 p4 p5 pos : Pos} {to t : TE}
theorem gen_ap (hl : (p2.endLine == pos.line) = true) (h1 : PE X (.Name "found" p1) to) (h2 : PE X (.Call (.Name "renamed" p) [.Name "skin" p3, .Name "thing" p5] [] p4) t) : PE X (.Call (.Attribute (.Name "found" p1) "append" p2) [.Call (.Name "renamed" p) [.Name "skin" p3, .Name "thing" p5] [] p4] [] pos) (tBM X.K "list" rAppend to (tCons t tNil)) :=
  pe_bm PySem.F.plainAttrs_list PySem.F.slot_list_append PySem.F.type_list_append mt_append h1 (pa_cons h2 pa_nil) rfl rfl hl rfl rfl
end
section
variable {X : Cx} {A : Around} {outer : List Env} {s : Shared} {H : Hp} {E : XK} {lsc : Scope} {fl co : Addr} {p p1 p2 p3 p4 p5 pos : Pos} {kk k2 : Nat}
theorem lb_fr (T : Txt X.K X.mg) (hr : Room 7 (A.deeper (LamX.lamEnv X lsc s.heap.objs.size fl co))) (n1 : X.N[1]? = some ("skin" : Str)) (n7 : X.N[7]? = some ("thing" : Str)) (n8 : X.N[8]? = some ("found" : Str)) (v1 : Vis lsc "skin") (v7 : Vis lsc "thing") (v8 : Vis lsc "found") (hg : Gl (LamX.lamCx X A outer s H E lsc fl co) "renamed") (hl : (p2.endLine == pos.line) = true) :
    PE (LamX.lamCx X A outer s H E lsc fl co) (.Call (.Attribute (.Name "found" p1) "append" p2) [.Call (.Name "renamed" p) [.Name "skin" p3, .Name "thing" p5] [] p4] [] pos) (tBM X.K "list" rAppend (tVar 8) (tCons (tCall (spRenamed T) [] E (tCons (tVar 1) (tCons (tVar 7) tNil))) tNil)) :=
  gen_ap (X := LamX.lamCx X A outer s H E lsc fl co) hl (pv (X := LamX.lamCx X A outer s H E lsc fl co) 8 n8 v8) (pe_call (X := LamX.lamCx X A outer s H E lsc fl co) (CX := L2.CX X.prog X.w) (ok_renamed T) (hr.mono (by decide)) hg T.renamed.g T.renamed.k T.renamed.b .nil lamP (pa_cons (pv (X := LamX.lamCx X A outer s H E lsc fl co) 1 n1 v1) (pa_cons (pv (X := LamX.lamCx X A outer s H E lsc fl co) 7 n7 v7) pa_nil)))
theorem lb_rr (T : Txt X.K X.mg) (hr : Room 7 (A.deeper (LamX.lamEnv X lsc s.heap.objs.size fl co))) (n1 : X.N[1]? = some ("skin" : Str)) (n7 : X.N[7]? = some ("thing" : Str)) (v1 : Vis lsc "skin") (v7 : Vis lsc "thing") (hg : Gl (LamX.lamCx X A outer s H E lsc fl co) "renamed") :
    PE (LamX.lamCx X A outer s H E lsc fl co) (.Call (.Name "renamed" p) [.Attribute (.Name "skin" p1) "row" p3, .Name "thing" p2] [] pos) (tCall (spRenamed T) [] E (tCons (tFld X.K (tVar 1) "row") (tCons (tVar 7) tNil))) := by
  refine pe_call (CX := L2.CX X.prog X.w) (ok_renamed T) (hr.mono (by decide)) hg T.renamed.g T.renamed.k T.renamed.b .nil lamP (pa_cons (pe_fld ?_ rfl) (pa_cons ?_ pa_nil))
  · exact pv (X := LamX.lamCx X A outer s H E lsc fl co) 1 n1 v1
  · exact pv (X := LamX.lamCx X A outer s H E lsc fl co) 7 n7 v7
theorem lb_mn (T : Txt X.K X.mg) (hr : Room 7 (A.deeper (LamX.lamEnv X lsc s.heap.objs.size fl co))) (n7 : X.N[7]? = some ("no" : Str)) (v7 : Vis lsc "no") (hg : Gl (LamX.lamCx X A outer s H E lsc fl co) "mirrored") :
    PE (LamX.lamCx X A outer s H E lsc fl co) (.Call (.Name "mirrored" p) [.Name "no" p2] [] pos) (tCall (spMirrored T) [] E (tCons (tVar 7) tNil)) := by
  refine pe_call (CX := L2.CX X.prog X.w) (ok_mirrored T) (hr.mono (by decide)) hg T.mirrored.g T.mirrored.k T.mirrored.b .nil lamP (pa_cons ?_ pa_nil)
  exact pv (X := LamX.lamCx X A outer s H E lsc fl co) 7 n7 v7
theorem lb_ln (T : Txt X.K X.mg) (hr : Room 7 (A.deeper (LamX.lamEnv X lsc s.heap.objs.size fl co))) (n7 : X.N[7]? = some ("no" : Str)) (v7 : Vis lsc "no") (hg : Gl (LamX.lamCx X A outer s H E lsc fl co) "least_skin") :
    PE (LamX.lamCx X A outer s H E lsc fl co) (.Call (.Name "least_skin" p) [.Name "no" p2] [] pos) (tCall (spLeastSk T) [] E (tCons (tVar 7) tNil)) := by
  refine pe_call (CX := L2.CX X.prog X.w) (ok_least_skin T) (hr.mono (by decide)) hg T.least_skin.g T.least_skin.k T.least_skin.b .nil lamP (pa_cons ?_ pa_nil)
  exact pv (X := LamX.lamCx X A outer s H E lsc fl co) 7 n7 v7
end
section
variable {P : Program} {w : World} {K : PySem.W.Frag} {mg : Str → Option Value} {base : Heap}
theorem sw_renamed (T : Txt K mg) : Swaps T.renamed.fd "skin" "letters" := T.renamed.F.swaps fun _ _ _ _ _ _ _ _ => rfl
theorem sw_mirrored (T : Txt K mg) : Swaps1 T.mirrored.fd "skin" := T.mirrored.F.swaps1 fun _ _ _ _ _ _ _ => rfl
theorem sw_least_skin (T : Txt K mg) : Swaps1 T.least_skin.fd "skin" := T.least_skin.F.swaps1 fun _ _ _ _ _ _ _ => rfl
theorem exm_N (T : Txt K mg) : PySem.W.exmOne K (.ref T.BadNumber.C) (.ref T.RoundError.C) = some true := PySem.W.exm_ref T.RoundError.ec.hs T.RoundError.ec.hd T.RoundError.ty T.sNR
theorem nil_i {σ : L2.St} {H : Hp} {Q : List V → Hp → Prop} (h : Q [] H) : tNil σ H Q := h
def jQ : Str := (("_law_judged" : Str) ++ ".<locals>.") ++ "<lambda>"
def lQ : Str := (("law" : Str) ++ ".<locals>.") ++ "<lambda>"
abbrev jTs (T : Txt K mg) : List (Addr × Str) := [(T.jP, jQ), (T.lP, lQ)]
theorem tabs_put {Ts : List (Addr × Str)} {H : Hp} {f : Addr} {xs : List V} {o : HO} (t : Tabs Ts H) (hf : H f = some (.lst xs)) : Tabs Ts (upd H f o) := fun p hp => by
  obtain ⟨ps, h1, h2, h3⟩ := t p hp
  refine ⟨ps, ?_, h2, fun pos cv hc => ?_⟩
  · rw [upd_ne]
    · exact h1
    · intro z
      rw [z, hf] at h1
      cases h1
  · obtain ⟨c, e1, e2⟩ := h3 pos cv hc
    refine ⟨c, e1, ?_⟩
    rw [upd_ne]
    · exact e2
    · intro z
      rw [z, hf] at e2
      cases e2
def Lm (Ts : List (Addr × Str)) (H H' : Hp) : Prop := ∃ H1, ExtN H H1 ∧ Tabs Ts H1 ∧ Same H1 H'
section
variable {T : Txt K mg} {Ts : List (Addr × Str)} {H : Hp} {σ : L2.St} {Q : VK} {x : V} {p fo : Addr} {row : List Int} {n : Nat} {b : Bool}
theorem lam_fr {ls : List Int} (tb : Tabs Ts H) (h1 : σ[1]? = some (some (.ref p))) (h7 : σ[7]? = some (some x)) (h8 : σ[8]? = some (some (.ref fo))) (hf : H fo = some (.lst [])) (sk : SkAt T H p row) (n1 : 1 ≤ n) (n6 : n ≤ 6) (pm : row.Perm (rgI (2 * n))) (lv : LetV K H n x b) (sq : b = true → (∀ H', ExtN H H' → SeqI K H' x ls) ∧ ls.Perm (rgI (2 * n)) ∧ Mts n ls)
    (k1 : b = true → ∀ q H1 H3, ExtN H H1 → Tabs Ts H1 → Same H1 H3 → H3 fo = some (.lst []) → SkAt T H3 q (trn (row.map (lt ls))) → Q .non (upd H3 fo (.lst [.ref q])))
    (k2 : b = false → ∀ a d H', Lm Ts H H' → H' a = some (exh (.ref T.BadNumber.C) (some d) a) → H' d = some (.xd [("part", .str "letters")]) → Q (.ref a) H') :
    tLam Ts (TTc K T.RoundError.C) (fun E => tBM K "list" rAppend (tVar 8) (tCons (tCall (spRenamed T) [] E (tCons (tVar 1) (tCons (tVar 7) tNil))) tNil)) σ H Q := by
  refine ⟨tb, fun H1 e1 t1 => ?_⟩
  have hf1 : H1 fo = some (.lst []) := e1 _ _ hf fun _ z => nomatch z
  refine ⟨_, h8, .inl ⟨rfl, _, SqL.of hf1⟩, _, h1, _, h7, .ref p, x, rfl, .inr ⟨p, row, n, b, rfl, skAt_ext sk e1, n1, n6, pm, lv.ext e1, ?_⟩⟩
  cases b with
  | false => exact .inl ⟨rfl, fun d H3 s3 hd => ⟨exm_N T, fun a ha => k2 rfl a d _ ⟨H1, e1, t1, s3.trans (same_new ha)⟩ upd_same (by rw [upd_ne (ne_of_none hd ha)]; exact hd)⟩⟩
  | true =>
    obtain ⟨sq, pml, mts⟩ := sq rfl
    exact .inr ⟨rfl, ls, sq H1 e1, pml, mts, fun q H3 s3 skq => ⟨fo, [], .ref q, rfl, rfl, s3 _ _ hf1, by decide, k1 rfl q H1 H3 e1 t1 s3 (s3 _ _ hf1) skq⟩⟩
theorem lam_rr (tb : Tabs Ts H) (h1 : σ[1]? = some (some (.ref p))) (h7 : σ[7]? = some (some x)) (sk : SkAt T H p row) (k : NoSk T (Lm Ts H) Q) :
    tLam Ts (TTc K T.RoundError.C) (fun E => tCall (spRenamed T) [] E (tCons (tFld K (tVar 1) "row") (tCons (tVar 7) tNil))) σ H Q := by
  refine ⟨tb, fun H1 e1 t1 => ?_⟩
  obtain ⟨dx, r, q, a1, a2, a3⟩ := skAt_ext sk e1
  exact ⟨_, h1, p, T.Skin.C, dx, _, _, rfl, a1, T.Skin.c, nRow T, skF_row .., _, h7, .ref r, x, rfl, .inl ⟨.ty (.tup a2.sq) T.kST, skErr_of (fun H' s => ⟨H1, e1, t1, s⟩) k⟩⟩
theorem lam_mn {y : V} (tb : Tabs Ts H) (h7 : σ[7]? = some (some y)) (sv : ∀ H', ExtN H H' → SkV T H' y false) (k : NoSk T (Lm Ts H) Q) :
    tLam Ts (TTc K T.RoundError.C) (fun E => tCall (spMirrored T) [] E (tCons (tVar 7) tNil)) σ H Q := by
  refine ⟨tb, fun H1 e1 t1 => ?_⟩
  exact ⟨_, h7, _, rfl, .inl ⟨sv H1 e1, skErr_of (fun H' s => ⟨H1, e1, t1, s⟩) k⟩⟩
theorem lam_ln {y : V} (tb : Tabs Ts H) (h7 : σ[7]? = some (some y)) (sv : ∀ H', ExtN H H' → SkV T H' y false) (k : NoSk T (Lm Ts H) Q) :
    tLam Ts (TTc K T.RoundError.C) (fun E => tCall (spLeastSk T) [] E (tCons (tVar 7) tNil)) σ H Q := by
  refine ⟨tb, fun H1 e1 t1 => ?_⟩
  exact ⟨_, h7, _, rfl, .inl ⟨sv H1 e1, skErr_of (fun H' s => ⟨H1, e1, t1, s⟩) k⟩⟩
end
end
end Tt
set_option maxRecDepth 100000
set_option maxHeartbeats 4000000
namespace Tt
open PySem L2
open LamX (Tabs TabS TabB ExtN CodeO tLam)
section
variable {P : Program} {w : World} {K : PySem.W.Frag} {mg : Str → Option Value} {base : Heap}
def Gd (d : PyData) : Prop := d.showable = true ∧ d.hasDict = false ∧ d.depth ≤ 2 ∧ d.shown.length ≤ 20
theorem gd_int {i : Int} (h0 : -1 ≤ i) (h1 : i ≤ 99) : Gd (.int i) := by
  have z : ∀ n : Fin 101, (PyData.showable (.int (((n.val : Nat) : Int) - 1))) = true ∧ (PyData.shown (.int (((n.val : Nat) : Int) - 1))).length ≤ 20 := by decide +kernel
  obtain ⟨k, e⟩ := Int.eq_ofNat_of_zero_le (show 0 ≤ i + 1 by omega)
  have e' : i = (k : Int) - 1 := by omega
  subst e'
  obtain ⟨a, b⟩ := z ⟨k, by omega⟩
  exact ⟨a, rfl, Nat.zero_le _, b⟩
theorem gd_sh : ∀ ds : List PyData, (∀ d ∈ ds, Gd d) → PyData.showableAll ds = true
  | [], _ => rfl
  | d :: ds, h => by
    show (d.showable && PyData.showableAll ds) = true
    rw [(h d List.mem_cons_self).1, gd_sh ds fun y hy => h y (List.mem_cons_of_mem _ hy)]
    rfl
theorem gd_hd : ∀ ds : List PyData, (∀ d ∈ ds, Gd d) → PyData.hasDictAll ds = false
  | [], _ => rfl
  | d :: ds, h => by
    show (d.hasDict || PyData.hasDictAll ds) = false
    rw [(h d List.mem_cons_self).2.1, gd_hd ds fun y hy => h y (List.mem_cons_of_mem _ hy)]
    rfl
theorem gd_dp : ∀ ds : List PyData, (∀ d ∈ ds, Gd d) → PyData.depthAll ds ≤ 2
  | [], _ => Nat.zero_le _
  | d :: ds, h => by
    have h1 := (h d List.mem_cons_self).2.2.1
    have h2 := gd_dp ds fun y hy => h y (List.mem_cons_of_mem _ hy)
    show max d.depth (PyData.depthAll ds) ≤ 2
    omega
theorem gd_ln : ∀ ds : List PyData, (∀ d ∈ ds, Gd d) → ((PyData.shownAll ds).map (·.length)).sum ≤ 20 * ds.length ∧ (PyData.shownAll ds).length = ds.length
  | [], _ => ⟨Nat.le_refl _, rfl⟩
  | d :: ds, h => by
    have h1 := (h d List.mem_cons_self).2.2.2
    obtain ⟨i1, i2⟩ := gd_ln ds fun y hy => h y (List.mem_cons_of_mem _ hy)
    constructor
    · show d.shown.length + ((PyData.shownAll ds).map (·.length)).sum ≤ 20 * (ds.length + 1)
      omega
    · show (PyData.shownAll ds).length + 1 = ds.length + 1
      omega
theorem sz1000 : (1000 : Nat) ≤ sizeLine := by decide
inductive SmI : V → Prop where
  | int {i : Int} (h0 : -1 ≤ i) (h1 : i ≤ 99) : SmI (.int i)
  | bl (b : Bool) : SmI (.bl b)
  | non : SmI .non
  | str : SmI (.str "0")
theorem SmI.d {y : V} (h : SmI y) : ∃ d, Gd d ∧ ∀ H, Dp K H y d := by
  cases h with
  | int h0 h1 => exact ⟨_, gd_int h0 h1, fun _ => .int _⟩
  | bl b => exact ⟨.bool b, by cases b <;> exact ⟨by decide +kernel, by decide +kernel, by decide +kernel, by decide +kernel⟩, fun _ => .bl b⟩
  | non => exact ⟨.none, ⟨by decide +kernel, by decide +kernel, by decide +kernel, by decide +kernel⟩, fun _ => .non⟩
  | str => exact ⟨.str "0", ⟨by decide +kernel, by decide +kernel, by decide +kernel, by decide +kernel⟩, fun _ => .str _⟩
theorem SmI.ty {y : V} (h : SmI y) (H : Hp) : ∃ S, TyB K H y S ∧ S ≠ "dict" ∧ S ≠ "bytes" := by
  cases h with
  | int h0 h1 => exact ⟨_, .int _, by decide, by decide⟩
  | bl b => exact ⟨_, .bl b, by decide, by decide⟩
  | non => exact ⟨_, .non, by decide, by decide⟩
  | str => exact ⟨_, .str _, by decide, by decide⟩
theorem dpAll_sm : ∀ xs : List V, (∀ y ∈ xs, SmI y) → ∃ ds : List PyData, (∀ H, DpAll K H xs ds) ∧ (∀ d ∈ ds, Gd d) ∧ ds.length = xs.length
  | [], _ => ⟨[], fun _ => .nil, fun _ h => absurd h (by simp), rfl⟩
  | y :: xs, h => by
    obtain ⟨d, h1, h2⟩ := (h y List.mem_cons_self).d (K := K)
    obtain ⟨ds, a, b, c⟩ := dpAll_sm xs fun z hz => h z (List.mem_cons_of_mem _ hz)
    refine ⟨d :: ds, fun H => .cons (h2 H) (a H), fun z hz => ?_, by rw [List.length_cons, List.length_cons, c]⟩
    rcases List.mem_cons.mp hz with e | hz
    · rw [e]
      exact h1
    · exact b z hz
def ThOk (K : PySem.W.Frag) (n : Nat) (H : Hp) (x : V) : Prop := ∃ b txt ls, ∀ H', ExtN H H' → LetL K H' n x b ∧ ShwW K H' x txt ∧ (b = true → SeqI K H' x ls ∧ ls.Perm (rgI (2 * n)) ∧ Mts n ls)
theorem thok_lst {n : Nat} {H : Hp} {a : Addr} {xs : List V} (h : H a = some (.lst xs)) (ln : xs.length ≤ 20) (it : ∀ y ∈ xs, SmI y) : ThOk K n H (.ref a) := by
  obtain ⟨ds, h1, h2, h3⟩ := dpAll_sm (K := K) xs it
  obtain ⟨l1, l2⟩ := gd_ln ds h2
  have h0 := listText_len_le (PyData.shownAll ds)
  have z := sz1000
  have sh : ∀ H', ExtN H H' → ShwW K H' (.ref a) (PyData.list ds).shown := fun H' e => .s (.ref (d := .list ds) (.lst (SqL.of (e _ _ h fun _ z => nomatch z)) (h1 H')) (gd_sh ds h2) (gd_hd ds h2) (by have := gd_dp ds h2; show PyData.depthAll ds + 1 ≤ 60; omega) (by show (listText (PyData.shownAll ds)).length ≤ sizeLine; omega))
  rcases Classical.em (RenP n xs) with r | r
  · obtain ⟨ls, ex, pm, m⟩ := id r
    exact ⟨true, _, ls, fun H' e => ⟨.lst (SqL.of (e _ _ h fun _ z => nomatch z)) ln (fun y hy => (it y hy).ty H') (by simp [r]), sh H' e, fun _ => ⟨⟨a, rfl, .inl (by rw [← ex]; exact SqL.of (e _ _ h fun _ z => nomatch z))⟩, pm, m⟩⟩⟩
  · exact ⟨false, _, [], fun H' e => ⟨.lst (SqL.of (e _ _ h fun _ z => nomatch z)) ln (fun y hy => (it y hy).ty H') (by simp [r]), sh H' e, fun z => nomatch z⟩⟩
theorem thok_non {n : Nat} {H : Hp} {x : V} {S : String} {txt : Str} (t : ∀ H', ExtN H H' → TyB K H' x S) (hS : S = "NoneType" ∨ S = "int" ∨ S = "str" ∨ S = "dict") (sh : ∀ H', ExtN H H' → ShwW K H' x txt) : ThOk K n H x :=
  ⟨false, txt, [], fun H' e => ⟨.non (t H' e) hS, sh H' e, fun z => nomatch z⟩⟩
theorem SkAt.put {T : Txt K mg} {H : Hp} {p f : Addr} {row : List Int} {xs : List V} {o : HO} (h : SkAt T H p row) (hf : H f = some (.lst xs)) : SkAt T (upd H f o) p row := by
  obtain ⟨dx, r, q, a1, a2, a3⟩ := h
  refine ⟨dx, r, q, ?_, FzT.ne a2 hf (fun _ _ z => nomatch z), FzT.ne a3 hf (fun _ _ z => nomatch z)⟩
  rw [upd_ne]
  · exact a1
  · intro z
    rw [z, hf] at a1
    cases a1
theorem extN_put {H H' : Hp} {f : Addr} {o : HO} (e : ExtN H H') (n : ∀ u, H f = some u → ∃ ps, u = .tbl ps) : ExtN H (upd H' f o) := fun b u h t => by
  rw [upd_ne]
  · exact e b u h t
  · intro z
    rw [z] at h
    obtain ⟨ps, e2⟩ := n u h
    exact t ps e2
theorem extN_fresh {H H' : Hp} {f : Addr} (e : ExtN H H') (n : H' f = none) : ∀ u, H f = some u → ∃ ps, u = .tbl ps := fun u h => Classical.byContradiction fun z => by
  have := e f u h fun ps q => z ⟨ps, q⟩
  rw [n] at this
  cases this
theorem cut_mem {xs : List V} {lo hi : Option Int} {y : V} (h : y ∈ cutV xs lo hi) : y ∈ xs := by
  unfold cutV at h
  first
    | exact List.mem_of_mem_drop (List.mem_of_mem_take h)
    | exact List.mem_of_mem_take (List.mem_of_mem_drop h)
theorem cut_len {xs : List V} {lo hi : Option Int} : (cutV xs lo hi).length ≤ xs.length := by
  unfold cutV
  simp only [List.length_take, List.length_drop]
  omega
def Sds (D : Dw) (L : List (Addr × HO)) (H : Hp) : Prop := ∀ q ∈ L, H q.1 = some q.2 ∧ Off D q.1
theorem Sds.nil {D : Dw} {H : Hp} : Sds D [] H := fun _ h => absurd h (by simp)
theorem Sds.same {D : Dw} {L : List (Addr × HO)} {H H' : Hp} (h : Sds D L H) (s : Same H H') : Sds D L H' := fun q hq => ⟨s _ _ (h q hq).1, (h q hq).2⟩
theorem Sds.kp {D : Dw} {L : List (Addr × HO)} {H H' : Hp} (h : Sds D L H) (k : Kp D H H') : Sds D L H' := fun q hq => ⟨k.at (h q hq).2 (h q hq).1, (h q hq).2⟩
theorem Sds.add {D : Dw} {L : List (Addr × HO)} {H : Hp} {p : Addr} {o : HO} (h : Sds D L H) (d : DrOk D H) (n : H p = none) : Sds D ((p, o) :: L) (upd H p o) := fun q hq => by
  rcases List.mem_cons.mp hq with e | hq
  · subst e
    exact ⟨upd_same, d.off n⟩
  · exact ⟨upk n (h q hq).1, (h q hq).2⟩
theorem Sds.of {D : Dw} {L : List (Addr × HO)} {H : Hp} (h : Sds D L H) {p : Addr} {o : HO} (m : (p, o) ∈ L) : H p = some o := (h _ m).1
theorem at_ex {xs : List V} {j : Int} (h0 : -(xs.length : Int) ≤ j) (h1 : j < xs.length) : ∃ v, atI xs j = some v ∧ v ∈ xs := by
  have key : ∀ m : Nat, m < xs.length → ixN xs.length j = some m → ∃ v, atI xs j = some v ∧ v ∈ xs := fun m hm e => by
    refine ⟨xs[m], ?_, List.getElem_mem hm⟩
    unfold atI
    rw [e]
    exact List.getElem?_eq_getElem hm
  by_cases c : 0 ≤ j
  · exact key j.toNat (by omega) (by unfold ixN; rw [if_pos c, if_pos h1])
  · exact key (j + xs.length).toNat (by omega) (by unfold ixN; rw [if_neg c, if_pos h0])
structure Jg (T : Txt K mg) (D : Dw) (p : Addr) (row : List Int) (H0 : Hp) (L : List (Addr × HO)) (H : Hp) : Prop where
  dr : DrOk D H
  sd : Sds D L H
  sk : SkAt T H p row
  tb : Tabs (jTs T) H
  kp : Kp D H0 H
section
variable {T : Txt K mg} {D : Dw} {p : Addr} {row : List Int} {H0 H H' : Hp} {L : List (Addr × HO)}
theorem Jg.new {a : Addr} {o : HO} (j : Jg T D p row H0 L H) (n : H a = none) : Jg T D p row H0 ((a, o) :: L) (upd H a o) := ⟨j.dr.new n, j.sd.add j.dr n, j.sk.same (same_new n), j.tb.ext (same_new n), j.kp.trans (Kp.new n)⟩
theorem Jg.kpd (j : Jg T D p row H0 L H) (d : DrOk D H') (k : Kp D H H') : Jg T D p row H0 L H' := ⟨d, j.sd.kp k, j.sk.kp j.dr k, tabs_kp j.tb j.dr k, j.kp.trans k⟩
theorem Jg.at {a : Addr} {o : HO} (j : Jg T D p row H0 L H) (m : (a, o) ∈ L) : H a = some o := j.sd.of m
end
structure TBs (T : Txt K mg) (base : Heap) : Prop where
  j : TabB base mg T.jc T.jP
def spJudged (T : Txt K mg) : Sp := fun vs H Q _ => ∃ (D : Dw) (p lh : Addr) (row ls : List Int) (n : Nat), vs = [.ref D.d, .ref p, .ref lh] ∧ SkAt T H p row ∧ 1 ≤ n ∧ n ≤ 6 ∧ row.Perm (rgI (2 * n)) ∧ H lh = some (.lst (ls.map V.int)) ∧ Off D lh ∧ ls.Perm (rgI (2 * n)) ∧ DrOk D H ∧ Tabs (jTs T) H ∧
  ∀ H', DrOk D H' → KpN D H H' → Tabs (jTs T) H' → Q (.bl true) H'
theorem ok_l_judged (T : Txt K mg) (TBj : TBs T base) : FnG P w K mg base CX0 10 T.l_judged.a T.l_judged.fd ["draw", "skin", "letters_here"] (spJudged T) := by
  have TB := TBj.j
  have hmT : (T.jP, (("_law_judged" : Str) ++ ".<locals>.") ++ "<lambda>") ∈ jTs T := List.mem_cons_self
  have hu : ∀ p ∈ jTs T, p.1 = T.jP → p.2 = (("_law_judged" : Str) ++ ".<locals>.") ++ "<lambda>" := fun p hp hq => by
    rcases List.mem_cons.mp hp with e | hp
    · subst e
      exact Eq.refl jQ
    · have e := List.mem_singleton.mp hp
      subst e
      exact absurd hq.symm T.ne
  refine T.jF.okG sc_l_judged (fun vs H Q E h => ?_) (fun A outer s H vs Q E hA hr h => ?_)
  · obtain ⟨D, p, lh, row, ls, n, rfl, _⟩ := h
    rfl
  · obtain ⟨D, p, lh, row, ls, n, rfl, sk, n1, n6, pm, hl, ol, pml, dr, tb, k⟩ := h
    have nd := sc_l_judged.nd
    have hg : (cxOf CX0 P w K mg base N_l_judged "_law_judged" (defScope s_l_judged) T.l_judged.a (.ref T.jc) A outer s H E).nox.A.guards = some [] := hA
    have ll := perm_len pml
    have lm : (ls.map V.int).length = 2 * n := by rw [List.length_map, ll]
    have sml : ∀ y ∈ ls.map V.int, SmI y := fun y hy => by
      obtain ⟨i, hi, rfl⟩ := List.mem_map.mp hy
      have := (perm_mem pml).mp hi
      exact .int (by omega) (by omega)
    refine ⟨_, (pss_cons (ps_set (i := 3) nd rfl (Or.inl rfl) (pe_call (ok_l_take T) (hr.mono (by decide)) (by rfl) T.l_take.g T.l_take.k T.l_take.b .nil pass0 (pa_cons (pv 0) (pa_cons (pe_callB call_len_seq (by rfl) T.zlen (by decide +kernel) (pa_cons (pv 2) pa_nil)) pa_nil))))
    (pss_cons (ps_set (i := 4) nd rfl (Or.inl rfl) (pe_op op_cat (pe_op op_cat (pe_slice sl_list (pv 2) po_none (po_some (pv 3))) (pe_lst (pa_cons (pe_ix ix_list (pv 2) (pe_op op_sub (pv 3) pe_int) (fun _ _ => rfl)) pa_nil))) (pe_slice sl_list (pv 2) (po_some (pe_op op_add (pv 3) pe_int)) po_none)))
    (pss_cons (ps_set (i := 5) nd rfl (Or.inl rfl) (pe_op op_cat (pe_slice sl_list (pv 2) (po_some pe_int) po_none) (pe_slice sl_list (pv 2) po_none (po_some pe_int))))
    (pss_cons (ps_set (i := 6) nd rfl (Or.inl rfl) (pe_op op_cat (pe_op op_cat (pe_slice sl_list (pv 2) po_none (po_some (pv 3))) (pe_lst (pa_cons (pe_call (ok_l_pick T) (hr.mono (by decide)) (by rfl) T.l_pick.g T.l_pick.k T.l_pick.b .nil pass0 (pa_cons (pv 0) (pa_cons (pe_lst (pa_cons pe_bl (pa_cons pe_non (pa_cons pe_str (pa_cons (pe_un un_neg pe_int) (pa_cons (pe_callB call_len_seq (by rfl) T.zlen (by decide +kernel) (pa_cons (pv 2) pa_nil)) pa_nil)))))) pa_nil))) pa_nil))) (pe_slice sl_list (pv 2) (po_some (pe_op op_add (pv 3) pe_int)) po_none)))
    (pss_cons (ps_for PassesOwn.never rfl (pi_list (pe_lst (pa_cons (pv 4) (pa_cons (pv 5) (pa_cons (pv 6) (pa_cons (pe_slice sl_list (pv 2) po_none (po_some (pe_un un_neg pe_int))) (pa_cons (pe_op op_cat (pv 2) (pe_lst (pa_cons (pe_callB call_len_seq (by rfl) T.zlen (by decide +kernel) (pa_cons (pv 2) pa_nil)) (pa_cons (pe_op op_add (pe_callB call_len_seq (by rfl) T.zlen (by decide +kernel) (pa_cons (pv 2) pa_nil)) pe_int) pa_nil)))) (pa_cons pe_non (pa_cons pe_int (pa_cons pe_dnewK (pa_cons pe_str (pa_cons (pe_revL (pv 2)) pa_nil)))))))))))) (pg_name (i := 7) nd rfl (Or.inr rfl))
      (pss_cons (ps_asg (pe_tup (pa_cons (pe_lst pa_nil) (pa_cons (pe_callB (call_showW hg hr.units) (by rfl) T.zrepr (by decide +kernel) (pa_cons (pv 7) pa_nil)) pa_nil))) (pg_tup rfl (pgs_cons (pg_name (i := 8) nd rfl (Or.inr rfl)) (pgs_cons (pg_name (i := 9) nd rfl (Or.inl rfl)) pgs_nil))))
      (pss_cons (ps_set (i := 10) nd rfl (Or.inl rfl) (pe_caught (k := 7) T (by rfl) TB rfl hmT hu (hr.mono (by decide)) (LamX.lamS_by (sc := defScope s_l_judged) (by decide +kernel)) rfl (fun _ _ _ _ _ => rfl) (fun _ _ _ _ _ _ _ hr => lb_fr T hr rfl rfl rfl (Or.inr (Or.inr rfl)) (Or.inr (Or.inr rfl)) (Or.inr (Or.inr rfl)) (by rfl) rfl)))
      (pss_cons (ps_if (pt_val (pe_call (ok_l_is_renaming T) (hr.mono (by decide)) (by rfl) T.l_is_renaming.g T.l_is_renaming.k T.l_is_renaming.b .nil pass0 (pa_cons (pv 7) (pa_cons (pe_fld (pv 1) rfl) pa_nil))))
        (pss_one (ps_if (PW.pt (pw_or (pt_cmpR op_notN (pv 10) pe_non (nomark _)) (pw_or1 (pt_cmpR (op_neD hr.units) (pe_fld (pe_ix ix_list (pv 8) pe_int (fun _ _ => rfl)) rfl) (pe_call (ok_l_put T) (hr.mono (by decide)) (by rfl) T.l_put.g T.l_put.k T.l_put.b .nil pass0 (pa_cons (pe_fld (pv 1) rfl) (pa_cons (pv 7) pa_nil))) (nomark _)))))
          (pss_one (ps_ret pe_bl))
          pss_nil))
        (pss_one (ps_if (pt_not (pt_val (pe_call (ok_l_number_error T) (hr.mono (by decide)) (by rfl) T.l_number_error.g T.l_number_error.k T.l_number_error.b .nil pass0 (pa_cons (pv 10) (pa_cons pe_str pa_nil)))))
          (pss_one (ps_ret pe_bl))
          pss_nil)))
      (pss_one (ps_if (PW.pt (pw_or (pt_cmpR op_ne (pe_callB (call_showW hg hr.units) (by rfl) T.zrepr (by decide +kernel) (pa_cons (pv 7) pa_nil)) (pv 9) (nomark _)) (pw_or1 (pt_not (pt_val (pe_call (ok_l_skin_error T) (hr.mono (by decide)) (by rfl) T.l_skin_error.g T.l_skin_error.k T.l_skin_error.b .nil pass0 (pa_cons (pe_caught (k := 7) T (by rfl) TB rfl hmT hu (hr.mono (by decide)) (LamX.lamS_by (sc := defScope s_l_judged) (by decide +kernel)) rfl (fun _ _ _ _ _ => rfl) (fun _ _ _ _ _ _ _ hr => lb_rr T hr rfl rfl (Or.inr (Or.inr rfl)) (Or.inr (Or.inr rfl)) (by rfl))) pa_nil)))))))
        (pss_one (ps_ret pe_bl))
        pss_nil))))))
    (pss_one (ps_ret pe_bl))))))), ?_⟩
    refine ⟨_, rfl, _, rfl, lh, _, rfl, .inl (SqL.of hl), D, _, rfl, by rw [lm]; omega, by rw [lm]; omega, dr, fun at0 H1 a0 a1 d1 k1 => ?_⟩
    obtain ⟨i, rfl⟩ := Int.eq_ofNat_of_zero_le a0
    have hi : i < 2 * n := by rw [lm] at a1; omega
    have g0 : Jg T D p row H [(lh, .lst (ls.map V.int))] H := ⟨dr, fun q hq => by rw [List.mem_singleton.mp hq]; exact ⟨hl, ol⟩, sk, tb, Kp.refl⟩
    have g1 := g0.kpd d1 k1
    clear d1 k1 a0 a1
    have z1000 := sz1000
    have en : row.length / 2 = n := by have := perm_len pm; omega
    obtain ⟨v, ev, mv⟩ := at_ex (xs := ls.map V.int) (j := (i : Int) - 1) (by rw [lm]; omega) (by rw [lm]; omega)
    have sv := sml v mv
    refine ⟨_, rfl, noPart_i ⟨_, rfl, (i : Int), rfl, lh, _, rfl, SqL.of (g1.at (a := lh) (o := .lst (ls.map V.int)) (by simp)), fun c1 hc1 => ?_⟩⟩
    rw [cut_to _ (by rw [lm]; omega)]
    have g2 := g1.new (o := .lst ((ls.map V.int).take i)) hc1
    generalize upd H1 c1 (.lst ((ls.map V.int).take i)) = H2 at g2
    refine ⟨_, rfl, _, rfl, _, _, rfl, rfl, lh, _, _, v, rfl, rfl, SqL.of (g2.at (a := lh) (o := .lst (ls.map V.int)) (by simp)), ev, (by show 1 ≤ sizeLine; decide), fun c2 hc2 => ?_⟩
    have g3 := g2.new (o := .lst [v]) hc2
    generalize upd H2 c2 (.lst [v]) = H3 at g3
    refine ⟨c1, c2, _, _, rfl, rfl, g3.at (o := .lst ((ls.map V.int).take i)) (by simp), g3.at (o := .lst [v]) (by simp), (by rw [List.length_take, lm]; show min i (2 * n) + 1 ≤ sizeLine; omega), fun c3 hc3 => ?_⟩
    have g4 := g3.new (o := .lst ((ls.map V.int).take i ++ [v])) hc3
    generalize upd H3 c3 (.lst ((ls.map V.int).take i ++ [v])) = H4 at g4
    refine ⟨_, rfl, _, rfl, _, _, rfl, rfl, ((i + 1 : Nat) : Int), rfl, noPart_i ⟨lh, _, rfl, SqL.of (g4.at (a := lh) (o := .lst (ls.map V.int)) (by simp)), fun c4 hc4 => ?_⟩⟩
    rw [cut_from]
    have g5 := g4.new (o := .lst ((ls.map V.int).drop (i + 1))) hc4
    generalize upd H4 c4 (.lst ((ls.map V.int).drop (i + 1))) = H5 at g5
    refine ⟨c3, c4, _, _, rfl, rfl, g5.at (o := .lst ((ls.map V.int).take i ++ [v])) (by simp), g5.at (o := .lst ((ls.map V.int).drop (i + 1))) (by simp), (by rw [List.length_append, List.length_take, List.length_drop, lm]; show min i (2 * n) + 1 + (2 * n - (i + 1)) ≤ sizeLine; omega), fun b1 hb1 => ?_⟩
    generalize hx1 : (ls.map V.int).take i ++ [v] ++ (ls.map V.int).drop (i + 1) = X1
    have sm1 : ∀ y ∈ X1, SmI y := fun y hy => by
      rw [← hx1, List.mem_append, List.mem_append] at hy
      rcases hy with (hy | hy) | hy
      · exact sml y (List.mem_of_mem_take hy)
      · rw [List.mem_singleton.mp hy]
        exact sv
      · exact sml y (List.mem_of_mem_drop hy)
    have lx1 : X1.length ≤ 20 := by
      rw [← hx1, List.length_append, List.length_append, List.length_take, List.length_drop, lm]
      show min i (2 * n) + 1 + (2 * n - (i + 1)) ≤ 20
      omega
    have g6 := g5.new (o := .lst X1) hb1
    generalize upd H5 b1 (.lst X1) = H6 at g6
    refine ⟨_, rfl, (1 : Int), rfl, noPart_i ⟨lh, _, rfl, SqL.of (g6.at (a := lh) (o := .lst (ls.map V.int)) (by simp)), fun c5 hc5 => ?_⟩⟩
    have ec1 : cutV (ls.map V.int) (some (1 : Int)) none = (ls.map V.int).drop 1 := cut_from _ (n := 1)
    have ec2 : cutV (ls.map V.int) none (some (1 : Int)) = (ls.map V.int).take 1 := cut_to _ (n := 1) (by rw [lm]; omega)
    rw [ec1]
    have g7 := g6.new (o := .lst ((ls.map V.int).drop 1)) hc5
    generalize upd H6 c5 (.lst ((ls.map V.int).drop 1)) = H7 at g7
    refine ⟨_, rfl, noPart_i ⟨(1 : Int), rfl, lh, _, rfl, SqL.of (g7.at (a := lh) (o := .lst (ls.map V.int)) (by simp)), fun c6 hc6 => ?_⟩⟩
    rw [ec2]
    have g8 := g7.new (o := .lst ((ls.map V.int).take 1)) hc6
    generalize upd H7 c6 (.lst ((ls.map V.int).take 1)) = H8 at g8
    refine ⟨c5, c6, _, _, rfl, rfl, g8.at (o := .lst ((ls.map V.int).drop 1)) (by simp), g8.at (o := .lst ((ls.map V.int).take 1)) (by simp), (by rw [List.length_take, List.length_drop, lm]; omega), fun b2 hb2 => ?_⟩
    generalize hx2 : (ls.map V.int).drop 1 ++ (ls.map V.int).take 1 = X2
    have sm2 : ∀ y ∈ X2, SmI y := fun y hy => by
      rw [← hx2, List.mem_append] at hy
      rcases hy with hy | hy
      · exact sml y (List.mem_of_mem_drop hy)
      · exact sml y (List.mem_of_mem_take hy)
    have lx2 : X2.length ≤ 20 := by
      rw [← hx2, List.length_append, List.length_take, List.length_drop, lm]
      omega
    have g9 := g8.new (o := .lst X2) hb2
    generalize upd H8 b2 (.lst X2) = H9 at g9
    refine ⟨_, rfl, noPart_i ⟨_, rfl, (i : Int), rfl, lh, _, rfl, SqL.of (g9.at (a := lh) (o := .lst (ls.map V.int)) (by simp)), fun c7 hc7 => ?_⟩⟩
    rw [cut_to _ (by rw [lm]; omega)]
    have g10 := g9.new (o := .lst ((ls.map V.int).take i)) hc7
    generalize upd H9 c7 (.lst ((ls.map V.int).take i)) = H10 at g10
    refine ⟨_, rfl, 1, rfl, _, rfl, lh, _, rfl, .inl (SqL.of (g10.at (a := lh) (o := .lst (ls.map V.int)) (by simp))), (by show 5 ≤ sizeLine; omega), fun c8 hc8 => ?_⟩
    have g11 := g10.new (o := .lst [.bl true, .non, .str "0", .int (-1), .int ((ls.map V.int).length : Int)]) hc8
    refine ⟨D, c8, _, rfl, .inl (SqL.of upd_same), (g10.dr.off hc8).2.1, by simp, (by show 5 < 1073741824; decide), g11.dr, fun jj u H12 hj d12 k12 => ?_⟩
    have su : SmI u := by
      have hx := List.mem_of_getElem? hj
      simp only [List.mem_cons, List.not_mem_nil, or_false] at hx
      rcases hx with rfl | rfl | rfl | rfl | rfl
      · exact .bl true
      · exact .non
      · exact .str
      · exact .int (by decide) (by decide)
      · exact .int (by omega) (by rw [lm]; omega)
    have g12 := g11.kpd d12 k12
    clear hj d12 k12
    refine ⟨(by show 1 ≤ sizeLine; omega), fun c9 hc9 => ?_⟩
    have g13 := g12.new (o := .lst [u]) hc9
    generalize upd H12 c9 (.lst [u]) = H13 at g13
    refine ⟨c7, c9, _, _, rfl, rfl, g13.at (o := .lst ((ls.map V.int).take i)) (by simp), g13.at (o := .lst [u]) (by simp), (by rw [List.length_take, lm]; show min i (2 * n) + 1 ≤ sizeLine; omega), fun c10 hc10 => ?_⟩
    have g14 := g13.new (o := .lst ((ls.map V.int).take i ++ [u])) hc10
    generalize upd H13 c10 (.lst ((ls.map V.int).take i ++ [u])) = H14 at g14
    refine ⟨_, rfl, _, rfl, _, _, rfl, rfl, ((i + 1 : Nat) : Int), rfl, noPart_i ⟨lh, _, rfl, SqL.of (g14.at (a := lh) (o := .lst (ls.map V.int)) (by simp)), fun c11 hc11 => ?_⟩⟩
    rw [cut_from]
    have g15 := g14.new (o := .lst ((ls.map V.int).drop (i + 1))) hc11
    generalize upd H14 c11 (.lst ((ls.map V.int).drop (i + 1))) = H15 at g15
    refine ⟨c10, c11, _, _, rfl, rfl, g15.at (o := .lst ((ls.map V.int).take i ++ [u])) (by simp), g15.at (o := .lst ((ls.map V.int).drop (i + 1))) (by simp), (by rw [List.length_append, List.length_take, List.length_drop, lm]; show min i (2 * n) + 1 + (2 * n - (i + 1)) ≤ sizeLine; omega), fun b3 hb3 => ?_⟩
    generalize hx3 : (ls.map V.int).take i ++ [u] ++ (ls.map V.int).drop (i + 1) = X3
    have sm3 : ∀ y ∈ X3, SmI y := fun y hy => by
      rw [← hx3, List.mem_append, List.mem_append] at hy
      rcases hy with (hy | hy) | hy
      · exact sml y (List.mem_of_mem_take hy)
      · rw [List.mem_singleton.mp hy]
        exact su
      · exact sml y (List.mem_of_mem_drop hy)
    have lx3 : X3.length ≤ 20 := by
      rw [← hx3, List.length_append, List.length_append, List.length_take, List.length_drop, lm]
      show min i (2 * n) + 1 + (2 * n - (i + 1)) ≤ 20
      omega
    have g16 := g15.new (o := .lst X3) hb3
    generalize upd H15 b3 (.lst X3) = H16 at g16
    dsimp only [tSeq]
    refine ⟨_, rfl, _, rfl, _, rfl, _, rfl, noPart_i ⟨2, rfl, (-2 : Int), rfl, lh, _, rfl, SqL.of (g16.at (a := lh) (o := .lst (ls.map V.int)) (by simp)), fun b4 hb4 => ?_⟩⟩
    generalize hx4 : cutV (ls.map V.int) none (some (-2 : Int)) = X4
    have sm4 : ∀ y ∈ X4, SmI y := fun y hy => sml y (by rw [← hx4] at hy; exact cut_mem hy)
    have lx4 : X4.length ≤ 20 := by
      have := cut_len (xs := ls.map V.int) (lo := none) (hi := some (-2 : Int))
      rw [hx4, lm] at this
      omega
    have g17 := g16.new (o := .lst X4) hb4
    generalize upd H16 b4 (.lst X4) = H17 at g17
    refine ⟨_, rfl, _, rfl, lh, _, rfl, .inl (SqL.of (g17.at (a := lh) (o := .lst (ls.map V.int)) (by simp))), _, rfl, lh, _, rfl, .inl (SqL.of (g17.at (a := lh) (o := .lst (ls.map V.int)) (by simp))), _, _, rfl, rfl, (by show 2 ≤ sizeLine; omega), fun c12 hc12 => ?_⟩
    have g18 := g17.new (o := .lst [.int ((ls.map V.int).length : Int), .int (((ls.map V.int).length : Int) + 1)]) hc12
    generalize upd H17 c12 (.lst [.int ((ls.map V.int).length : Int), .int (((ls.map V.int).length : Int) + 1)]) = H18 at g18
    refine ⟨lh, c12, _, _, rfl, rfl, g18.at (o := .lst (ls.map V.int)) (by simp), g18.at (o := .lst [.int ((ls.map V.int).length : Int), .int (((ls.map V.int).length : Int) + 1)]) (by simp), (by rw [lm]; show 2 * n + 2 ≤ sizeLine; omega), fun b5 hb5 => ?_⟩
    generalize hx5 : ls.map V.int ++ [.int ((ls.map V.int).length : Int), .int (((ls.map V.int).length : Int) + 1)] = X5
    have sm5 : ∀ y ∈ X5, SmI y := fun y hy => by
      rw [← hx5, List.mem_append] at hy
      rcases hy with hy | hy
      · exact sml y hy
      · rcases List.mem_cons.mp hy with rfl | hy
        · exact .int (by omega) (by rw [lm]; omega)
        · rw [List.mem_singleton.mp hy]
          exact .int (by omega) (by rw [lm]; omega)
    have lx5 : X5.length ≤ 20 := by
      rw [← hx5, List.length_append, lm]
      show 2 * n + 2 ≤ 20
      omega
    have g19 := g18.new (o := .lst X5) hb5
    generalize upd H18 b5 (.lst X5) = H19 at g19
    refine fun dE hdE => ?_
    have g20 := g19.new (o := .dK []) hdE
    generalize upd H19 dE (.dK []) = H20 at g20
    refine ⟨_, rfl, lh, _, rfl, SqL.of (g20.at (a := lh) (o := .lst (ls.map V.int)) (by simp)), fun b6 hb6 => ?_⟩
    have g21 := g20.new (o := .lst (ls.map V.int).reverse) hb6
    generalize upd H20 b6 (.lst (ls.map V.int).reverse) = H21 at g21
    refine ⟨(by show 10 ≤ sizeLine; omega), fun tl htl => ⟨tl, rfl, ⟨_, SqL.of upd_same⟩, ?_⟩⟩
    have g22 := g21.new (o := .lst [.ref b1, .ref b2, .ref b3, .ref b4, .ref b5, .non, .int 5, .ref dE, .str "01", .ref b6]) htl
    generalize upd H21 tl (.lst [.ref b1, .ref b2, .ref b3, .ref b4, .ref b5, .non, .int 5, .ref dE, .str "01", .ref b6]) = HB at g22
    have th : ∀ x ∈ ([.ref b1, .ref b2, .ref b3, .ref b4, .ref b5, .non, .int 5, .ref dE, .str "01", .ref b6] : List V), ThOk K n HB x := fun x hx => by
      simp only [List.mem_cons, List.not_mem_nil, or_false] at hx
      rcases hx with rfl | rfl | rfl | rfl | rfl | rfl | rfl | rfl | rfl | rfl
      · exact thok_lst (g22.at (o := .lst X1) (by simp)) lx1 sm1
      · exact thok_lst (g22.at (o := .lst X2) (by simp)) lx2 sm2
      · exact thok_lst (g22.at (o := .lst X3) (by simp)) lx3 sm3
      · exact thok_lst (g22.at (o := .lst X4) (by simp)) lx4 sm4
      · exact thok_lst (g22.at (o := .lst X5) (by simp)) lx5 sm5
      · exact thok_non (fun _ _ => .non) (by simp) (fun _ _ => .s .non)
      · exact thok_non (fun _ _ => .int 5) (by simp) (fun _ _ => .s (.int (by decide)))
      · have hE := g22.at (a := dE) (o := .dK []) (by simp)
        exact thok_non (fun H' e => .dK (e _ _ hE fun _ z => nomatch z)) (by simp) (fun H' e => .e (e _ _ hE fun _ z => nomatch z))
      · exact thok_non (fun _ _ => .str "01") (by simp) (fun _ _ => .s (.str (by decide +kernel)))
      · exact thok_lst (g22.at (a := b6) (o := .lst (ls.map V.int).reverse) (by simp)) (by rw [List.length_reverse, lm]; omega) (fun y hy => sml y (List.mem_reverse.mp hy))
    have eT := g22.at (a := tl) (o := .lst [.ref b1, .ref b2, .ref b3, .ref b4, .ref b5, .non, .int 5, .ref dE, .str "01", .ref b6]) (by simp)
    have skB := g22.sk
    have tbB := g22.tb
    have drB := g22.dr
    have kpB := g22.kp
    clear g0 g1 g2 g3 g4 g5 g6 g7 g8 g9 g10 g11 g12 g13 g14 g15 g16 g17 g18 g19 g20 g21 g22
    generalize ([.ref b1, .ref b2, .ref b3, .ref b4, .ref b5, .non, .int 5, .ref dE, .str "01", .ref b6] : List V) = Xs at th eT
    refine for_list (K := K) (a := tl) (xs := Xs) (fun j σ H' => ∃ v7 v8 v9 v10, σ = [some (.ref D.d), some (.ref p), some (.ref lh), some (.int (i : Int)), some (.ref b1), some (.ref b2), some (.ref b3), v7, v8, v9, v10] ∧ ExtN HB H' ∧ Tabs (jTs T) H')
      ⟨none, none, none, none, rfl, fun _ _ h _ => h, tbB⟩ (fun j σ H' _ ⟨_, _, _, _, _, e, _⟩ => SqL.of (e _ _ eT fun _ z => nomatch z)) ?_ ?_
    · rintro j x σ H' hj ⟨v7, v8, v9, v10, rfl, eH, tH⟩
      obtain ⟨b, txt, lsx, hx⟩ := th x (List.mem_of_getElem? hj)
      refine ⟨(by show 0 ≤ sizeLine; omega), fun fo hfo => ?_⟩
      have nfo := extN_fresh eH hfo
      have s1 : Same H' (upd H' fo (.lst [])) := same_new hfo
      have f1 : (upd H' fo (.lst [])) fo = some (.lst []) := upd_same
      have e1 := eH.trans (.of s1)
      have t1 := tH.ext s1
      generalize upd H' fo (.lst []) = Ha at s1 f1 e1 t1
      refine ⟨_, rfl, x, txt, rfl, (hx Ha e1).2.1, (by show 2 ≤ sizeLine; omega), fun tp htp => ⟨tp, _, rfl, SqT.of upd_same, rfl, _, _, rfl, _, _, rfl, rfl, ?_⟩⟩
      have s2 : Same Ha (upd Ha tp (.tup [.ref fo, .str txt])) := same_new htp
      have f2 := s2 _ _ f1
      have e2 := e1.trans (.of s2)
      have t2 := t1.ext s2
      generalize upd Ha tp (.tup [.ref fo, .str txt]) = Hb at s2 f2 e2 t2
      dsimp only [tSeq]
      refine lam_fr (K := K) (ls := lsx) t2 rfl rfl rfl f2 (skAt_ext skB e2) n1 n6 pm (hx Hb e2).1.v (fun hb => ⟨fun H3 e3 => ((hx H3 (e2.trans e3)).2.2 hb).1, ((hx Hb e2).2.2 hb).2⟩) (fun hb q H5 H6 e5 t5 s6 f6 skq => ?_) (fun hb a d H6 lm6 ha hd => ?_)
      · subst hb
        have eC : ExtN HB H6 := e2.trans (e5.trans (.of s6))
        have e7 : ExtN HB (upd H6 fo (.lst [.ref q])) := extN_put eC nfo
        have t7 : Tabs (jTs T) (upd H6 fo (.lst [.ref q])) := tabs_put (t5.ext s6) f6
        have f7 : (upd H6 fo (.lst [.ref q])) fo = some (.lst [.ref q]) := upd_same
        have sk7 : SkAt T (upd H6 fo (.lst [.ref q])) q (trn (row.map (lt lsx))) := skq.put f6
        generalize upd H6 fo (.lst [.ref q]) = H7 at e7 t7 f7 sk7
        obtain ⟨dx, r, q0, a1, a2, a3⟩ := skAt_ext skB e7
        refine ⟨_, rfl, _, rfl, p, T.Skin.C, dx, _, _, rfl, a1, T.Skin.c, nBands T, skF_bands .., x, n, true, (by rw [en]; rfl), n6, (hx H7 e7).1, fun H8 s8 => ⟨true, rfl, iteT ?_⟩⟩
        have e8 := e7.trans (.of s8)
        have t8 := t7.ext s8
        refine ⟨_, rfl, rfl, _, rfl, ite2 (fun c => absurd c (by decide)) (fun _ => ?_)⟩
        obtain ⟨dy, r2, q2, c1, c2, c3⟩ := sk7.same s8
        refine ⟨_, rfl, fo, _, 0, _, rfl, rfl, SqL.of (s8 _ _ f7), rfl, q, T.Skin.C, dy, _, _, rfl, c1, T.Skin.c, nRow T, skF_row .., ?_⟩
        obtain ⟨dz, r3, q3, z1, z2, z3⟩ := skAt_ext skB e8
        obtain ⟨sq8, pmx, mx⟩ := (hx H8 e8).2.2 rfl
        refine ⟨_, rfl, p, T.Skin.C, dz, _, _, rfl, z1, T.Skin.c, nRow T, skF_row .., _, rfl, r3, x, row, lsx, n, rfl, z2.sq, sq8, n1, n6, pm, pmx, mx, fun r4 H9 s9 f9 => ?_⟩
        refine ⟨_, _, .tup (FzT.same c2 s9).sq (dpAll_ints _ _), .tup f9.sq (dpAll_ints _ _), shapedTup _, shapedTup _, _, rfl, ?_⟩
        rw [eqv_tups, decide_eq_true rfl]
        refine iteF ?_
        have eHH := e8.trans (.of s9)
        have tHH := t8.ext s9
        refine ⟨_, rfl, x, txt, rfl, (hx H9 eHH).2.1, _, rfl, rfl, _, rfl, ite2 (fun c => absurd c (by simp)) (fun _ => ?_)⟩
        refine lam_rr (K := K) tHH rfl rfl (skAt_ext skB eHH) fun a9 d9 H12 lm12 ha9 hd9 => ?_
        obtain ⟨H11, x11, t11, s12⟩ := lm12
        exact ⟨a9, d9, rfl, ha9, hd9, true, rfl, iteF ⟨_, _, _, _, rfl, eHH.trans (x11.trans (.of s12)), t11.ext s12⟩⟩
      · subst hb
        obtain ⟨H5, e5, t5, s6⟩ := lm6
        have eC : ExtN HB H6 := e2.trans (e5.trans (.of s6))
        have tC := t5.ext s6
        obtain ⟨dx, r, q0, a1, a2, a3⟩ := skAt_ext skB eC
        refine ⟨_, rfl, _, rfl, p, T.Skin.C, dx, _, _, rfl, a1, T.Skin.c, nBands T, skF_bands .., x, n, false, (by rw [en]; rfl), n6, (hx H6 eC).1, fun H8 s8 => ⟨false, rfl, iteF ?_⟩⟩
        have eHH := eC.trans (.of s8)
        have tHH := tC.ext s8
        refine ⟨_, rfl, a, d, rfl, s8 _ _ ha, s8 _ _ hd, true, rfl, iteF ?_⟩
        refine ⟨_, rfl, x, txt, rfl, (hx H8 eHH).2.1, _, rfl, rfl, _, rfl, ite2 (fun c => absurd c (by simp)) (fun _ => ?_)⟩
        refine lam_rr (K := K) tHH rfl rfl (skAt_ext skB eHH) fun a9 d9 H12 lm12 ha9 hd9 => ?_
        obtain ⟨H11, x11, t11, s12⟩ := lm12
        exact ⟨a9, d9, rfl, ha9, hd9, true, rfl, iteF ⟨_, _, _, _, rfl, eHH.trans (x11.trans (.of s12)), t11.ext s12⟩⟩
    · rintro σ H' ⟨v7, v8, v9, v10, rfl, eH, tH⟩
      exact k H' (drOk_ext drB eH) ((KpN.of kpB).trans (.ext eH)) tH
end
end Tt
set_option maxRecDepth 100000
set_option maxHeartbeats 4000000
namespace L2
open PySem
theorem pi_tupK {X : Cx} {K : PySem.W.Frag} {tg l : Expr} {tl : TE} (h : X.K = K) (hl : PE X l tl) : PI X tg l (iTup K tl) := by
  subst h
  exact pi_tup hl
end L2
namespace Tt
open PySem L2
open LamX (Tabs TabS TabB ExtN CodeO tLam)
section
variable {P : Program} {w : World} {K : PySem.W.Frag} {mg : Str → Option Value} {base : Heap}
theorem RowsAt.same {H H' : Hp} {q : Addr} {bs : List (Addr × List Int)} (h : RowsAt K H q bs) (s : Same H H') : RowsAt K H' q bs := ⟨s _ _ h.1, fun b hb => same_seqT s (h.2 b hb)⟩
theorem RowsAt.dp {H : Hp} {q : Addr} {bs : List (Addr × List Int)} (h : RowsAt K H q bs) : Dp K H (.ref q) (.list ((bs.map (·.2)).map rowD)) := .lst (SqL.of h.1) (dpAll_bs bs h.2)
theorem trn_app {u v : List Int} (h : (0 : Int) ∈ u) : trn (u ++ v) = u.drop (u.idxOf 0) ++ v ++ u.take (u.idxOf 0) := by
  have h1 : (u ++ v).idxOf 0 = u.idxOf 0 := by rw [List.idxOf_append, if_pos h]
  have hl : u.idxOf 0 < u.length := List.idxOf_lt_length_of_mem h
  unfold trn
  rw [h1, List.drop_append_of_le_length (by omega), List.take_append_of_le_length (by omega)]
theorem trn_app2 {u v : List Int} (h : (0 : Int) ∈ u) (hv : (0 : Int) ∉ v) : trn (v ++ u) = u.drop (u.idxOf 0) ++ v ++ u.take (u.idxOf 0) := by
  have h1 : (v ++ u).idxOf 0 = v.length + u.idxOf 0 := by rw [List.idxOf_append, if_neg hv, Nat.add_comm]
  unfold trn
  have e1 : (v ++ u).drop (v.length + u.idxOf 0) = u.drop (u.idxOf 0) := by rw [← List.drop_drop, List.drop_left]
  have e2 : (v ++ u).take (v.length + u.idxOf 0) = v ++ u.take (u.idxOf 0) := by rw [List.take_length_add_append]
  rw [h1, e1, e2, List.append_assoc]
theorem trn_one {a b : List Int} (nd : a.Nodup) (h0 : (0 : Int) ∈ a) (t : Wd.Turn a b) : trn a = trn b := by
  obtain ⟨u, v, rfl, rfl⟩ := t
  have dj := (List.nodup_append.mp nd).2.2
  rcases List.mem_append.mp h0 with h | h
  · rw [trn_app h, trn_app2 h fun z => dj 0 h 0 z rfl]
  · rw [trn_app h, trn_app2 h fun z => dj 0 z 0 h rfl]
theorem turn_rev {a b : List Int} (t : Wd.Turn a b) : Wd.Turn a.reverse b.reverse := by
  obtain ⟨u, v, rfl, rfl⟩ := t
  exact ⟨v.reverse, u.reverse, by rw [List.reverse_append], by rw [List.reverse_append]⟩
def spRR (T : Txt K mg) : Sp := fun vs H Q _ => ∃ (D : Dw) (p : Addr) (row : List Int) (n : Nat), vs = [.ref D.d, .ref p] ∧ SkAt T H p row ∧ trn row = row ∧ 1 ≤ n ∧ n ≤ 6 ∧ row.Perm (rgI (2 * n)) ∧ DrOk D H ∧ Tabs (jTs T) H ∧
  ∀ H', DrOk D H' → KpN D H H' → Tabs (jTs T) H' → Q (.bl true) H'
theorem ok_l_renamed_right (T : Txt K mg) (TBj : TBs T base) : FnG P w K mg base CX0 12 T.l_renamed_right.a T.l_renamed_right.fd ["draw", "skin"] (spRR T) := by
  refine FunG T.l_renamed_right.F sc_l_renamed_right (fun vs H Q E h => ?_) (fun cdv A outer s H vs Q E hA hr h => ?_)
  · obtain ⟨D, p, row, n, rfl, _⟩ := h
    rfl
  · obtain ⟨D, p, row, n, rfl, sk, tz, n1, n6, pm, dr, tb, k⟩ := h
    have nd := sc_l_renamed_right.nd
    have hg : (cxOf CX0 P w K mg base N_l_renamed_right "_law_renamed_right" (defScope s_l_renamed_right) T.l_renamed_right.a cdv A outer s H E).nox.A.guards = some [] := hA
    have en : row.length / 2 = n := by have := perm_len pm; omega
    have hlen := perm_len pm
    have z1000 := sz1000
    refine ⟨_, (pss_cons (ps_asg (pe_tup (pa_cons (pe_call (ok_l_letters T) (hr.mono (by decide)) (by rfl) T.l_letters.g T.l_letters.k T.l_letters.b .nil pass0 (pa_cons (pv 0) (pa_cons (pe_fld (pv 1) rfl) pa_nil))) (pa_cons (pe_call (ok_l_rims T) (hr.mono (by decide)) (by rfl) T.l_rims.g T.l_rims.k T.l_rims.b .nil pass0 (pa_cons (pe_fld (pv 1) rfl) pa_nil)) pa_nil))) (pg_tup rfl (pgs_cons (pg_name (i := 2) nd rfl (Or.inr rfl)) (pgs_cons (pg_name (i := 3) nd rfl (Or.inl rfl)) pgs_nil))))
    (pss_cons (ps_set (i := 4) nd rfl (Or.inl rfl) (pe_callSw (ok_renamed T) (hr.mono (by decide)) (by rfl) T.renamed.g T.renamed.k (sw_renamed T) passF (pe_callTy call_tuple_of (by rfl) T.ztuple (by decide +kernel) (pa_cons (pv 2) pa_nil)) (pv 1)))
    (pss_cons (ps_if (PW.pt (pw_or (pt_cmpR (op_neO (ok_Skin_eq T) T.eqM.i T.eqM.n T.eqM.b T.neO T.Skin.hm (hr.mono (by decide)) pass0) (pe_call (ok_renamed T) (hr.mono (by decide)) (by rfl) T.renamed.g T.renamed.k T.renamed.b .nil passF (pa_cons (pv 1) (pa_cons (pv 2) pa_nil))) (pv 4) (nomark _)) (pw_or1 (pt_cmpR (op_neD hr.units) (pe_fld (pv 4) rfl) (pe_call (ok_l_put T) (hr.mono (by decide)) (by rfl) T.l_put.g T.l_put.k T.l_put.b .nil pass0 (pa_cons (pe_fld (pv 1) rfl) (pa_cons (pv 2) pa_nil))) (nomark _)))))
      (pss_one (ps_ret pe_bl))
      pss_nil)
    (pss_cons (ps_setLc (i := 5) (own := [("rim", 8)]) (g := gName 8) rfl nd rfl rfl (sw_true rfl rfl rfl (by decide +kernel)) (pi_list (pv 3)) (blkOk_by (own := [("rim", 8)]) (N := N_l_renamed_right) (sc := defScope s_l_renamed_right) (by decide +kernel)) (fun _ _ _ _ _ => pg_name (i := 8) nd rfl (Or.inl rfl)) (fun _ _ _ _ _ => pts_nil) (fun _ _ _ _ _ => (pe_call (ok_l_least_turn T) (hr.mono (by decide)) (by rfl) T.l_least_turn.g T.l_least_turn.k T.l_least_turn.b .nil pass0 (pa_cons (pe_callTy (call_tuple_ofK (K := K) rfl) (by rfl) T.ztuple (by decide +kernel) (pa_cons (pe_lc (own := [("end", 7)]) (g := gName 7) rfl nd (pi_tupK (K := K) rfl (pv 8)) (blkOk_by (own := [("end", 7)]) (N := N_l_renamed_right) (sc := { kind := ScopeKind.function, names := [(".0", NameKind.local), ("rim", NameKind.local), ("_law_least_turn", NameKind.globalImplicit), ("tuple", NameKind.globalImplicit), ("letters_here", NameKind.cell)], isGenerator := false, isCoroutine := false }) (by decide +kernel)) (fun _ _ _ _ _ => pg_name (i := 7) nd rfl (Or.inl rfl)) (fun _ _ _ _ _ => pts_nil) (fun _ _ _ _ _ => (pe_ix (ix_listK (K := K) rfl) (pv 2) (pv 7) (fun _ _ => rfl)))) pa_nil)) pa_nil))))
    (pss_cons (ps_if (PW.pt (pw_or (pt_cmpR op_ne (pe_callB (call_show hg hr.units) (by rfl) T.zrepr (by decide +kernel) (pa_cons (pe_call (ok_rims T) (hr.mono (by decide)) (by rfl) T.rims.g T.rims.k T.rims.b .nil passF (pa_cons (pv 4) pa_nil)) pa_nil)) (pe_callB (call_show hg hr.units) (by rfl) T.zrepr (by decide +kernel) (pa_cons (pe_callB (cr_sortedT hr.units) (by rfl) T.zsorted (by decide +kernel) (pa_cons (pv 5) pa_nil)) pa_nil)) (nomark _)) (pw_or1 (pt_cmpR (op_neO (ok_Skin_eq T) T.eqM.i T.eqM.n T.eqM.b T.neO T.Skin.hm (hr.mono (by decide)) pass0) (pe_call (ok_least_skin T) (hr.mono (by decide)) (by rfl) T.least_skin.g T.least_skin.k T.least_skin.b .nil passF (pa_cons (pv 4) pa_nil)) (pe_call (ok_least_skin T) (hr.mono (by decide)) (by rfl) T.least_skin.g T.least_skin.k T.least_skin.b .nil passF (pa_cons (pv 1) pa_nil)) (nomark _)))))
      (pss_one (ps_ret pe_bl))
      pss_nil)
    (pss_cons (ps_set (i := 6) nd rfl (Or.inl rfl) (pe_call (ok_mirrored T) (hr.mono (by decide)) (by rfl) T.mirrored.g T.mirrored.k T.mirrored.b .nil passF (pa_cons (pv 1) pa_nil)))
    (pss_cons (ps_if (PW.pt (pw_or (pt_cmpR (op_neD hr.units) (pe_fld (pv 6) rfl) (pe_call (ok_l_turned T) (hr.mono (by decide)) (by rfl) T.l_turned.g T.l_turned.k T.l_turned.b .nil pass0 (pa_cons (pe_revTF (pe_fld (pv 1) rfl)) pa_nil)) (nomark _)) (pw_or1 (pt_cmpR (op_neO (ok_Skin_eq T) T.eqM.i T.eqM.n T.eqM.b T.neO T.Skin.hm (hr.mono (by decide)) pass0) (pe_callSw1 (ok_mirrored T) (hr.mono (by decide)) (by rfl) T.mirrored.g T.mirrored.k (sw_mirrored T) passF (pv 6)) (pv 1) (nomark _)))))
      (pss_one (ps_ret pe_bl))
      pss_nil)
    (pss_cons (ps_if (pt_cmpR op_ne (pe_callB (call_show hg hr.units) (by rfl) T.zrepr (by decide +kernel) (pa_cons (pe_call (ok_rims T) (hr.mono (by decide)) (by rfl) T.rims.g T.rims.k T.rims.b .nil passF (pa_cons (pv 6) pa_nil)) pa_nil)) (pe_callB (call_show hg hr.units) (by rfl) T.zrepr (by decide +kernel) (pa_cons (pe_callB (cr_sortedT hr.units) (by rfl) T.zsorted (by decide +kernel) (pa_cons (pe_lc (own := [("rim", 8)]) (g := gName 8) rfl nd (pi_list (pv 3)) (blkOk_by (own := [("rim", 8)]) (N := N_l_renamed_right) (sc := defScope s_l_renamed_right) (by decide +kernel)) (fun _ _ _ _ _ => pg_name (i := 8) nd rfl (Or.inl rfl)) (fun _ _ _ _ _ => pts_nil) (fun _ _ _ _ _ => (pe_call (ok_l_least_turn T) (hr.mono (by decide)) (by rfl) T.l_least_turn.g T.l_least_turn.k T.l_least_turn.b .nil pass0 (pa_cons (pe_call (ok_l_undone T) (hr.mono (by decide)) (by rfl) T.l_undone.g T.l_undone.k T.l_undone.b .nil pass0 (pa_cons (pv 8) pa_nil)) pa_nil)))) pa_nil)) pa_nil)) (nomark _))
      (pss_one (ps_ret pe_bl))
      pss_nil)
    (pss_one (ps_ret (pe_callG (ok_l_judged T TBj) hg (hr.mono (by decide)) (by rfl) T.l_judged.g T.l_judged.k T.l_judged.b .nil pass0 (pa_cons (pv 0) (pa_cons (pv 1) (pa_cons (pv 2) pa_nil)))))))))))))), ?_⟩
    obtain ⟨dx, r, q0, a1, a2, a3⟩ := id sk
    refine ⟨_, rfl, _, rfl, p, T.Skin.C, dx, _, _, rfl, a1, T.Skin.c, nBands T, skF_bands .., D, n, (by rw [en]; rfl), n1, n6, dr, fun ls lh H1 pml mts d1 k1 hl0 hl1 => ?_⟩
    have ol : Off D lh := dr.off hl0
    have sk1 := sk.kp dr k1
    have tb1 := tabs_kp tb dr k1
    obtain ⟨dx1, r1, q1', b1, b2, b3⟩ := id sk1
    refine ⟨_, rfl, p, T.Skin.C, dx1, _, _, rfl, b1, T.Skin.c, nRow T, skF_row .., r1, row, n, rfl, b2.sq, n1, n6, pm, fun bs qd H2 hR s2 hqd hdu => ⟨(by show 2 ≤ sizeLine; omega), fun tp htp => ?_⟩⟩
    have s3 : Same H2 (upd H2 tp (.tup [.ref lh, .ref qd])) := same_new htp
    refine ⟨tp, _, rfl, SqT.of upd_same, rfl, _, _, rfl, _, _, rfl, rfl, ?_⟩
    generalize upd H2 tp (.tup [.ref lh, .ref qd]) = HB at s3
    have sB := s2.trans s3
    have skB := sk1.same sB
    have tbB := tb1.ext sB
    have dB := d1.same sB
    have kB : Kp D H HB := k1.trans (.of sB)
    have hl : HB lh = some (.lst (ls.map V.int)) := sB _ _ hl1
    have due := hdu.same s3
    clear a1 a2 a3 b1 b2 b3 sk1 tb1 d1 k1 hl1 hdu s2 s3 hqd htp
    have ll := perm_len pml
    obtain ⟨rn, bd⟩ := lt_ren pm pml mts
    have pmf := map_perm pm rn bd
    have lvT : ∀ {H' : Hp} {t : Addr}, SqT K H' t (ls.map V.int) → LetV K H' n (.ref t) true := fun h => .tup h (by rw [List.length_map]; omega) (ints_ty ls) (by simp only [true_iff]; exact ⟨ls, rfl, pml, mts⟩)
    have lvL : ∀ {H' : Hp} {t : Addr}, SqL K H' t (ls.map V.int) → LetV K H' n (.ref t) true := fun h => .lst h (by rw [List.length_map]; omega) (ints_ty ls) (by simp only [true_iff]; exact ⟨ls, rfl, pml, mts⟩)
    have pm2 : (trn (row.map (lt ls))).Perm (rgI (2 * n)) := (Cy.turn_perm (trn_turn _)).symm.trans pmf
    refine ⟨_, rfl, lh, _, rfl, .inl ⟨SqL.of hl, fun tt htt => ?_⟩⟩
    have s4 : Same HB (upd HB tt (.tup (ls.map V.int))) := same_new htt
    refine ⟨_, rfl, .ref p, .ref tt, rfl, .inr ⟨p, row, n, true, rfl, skB.same s4, n1, n6, pm, lvT (SqT.of upd_same), .inr ⟨rfl, ls, ⟨tt, rfl, .inr (SqT.of upd_same)⟩, pml, mts, fun q1 H4 s5 sk1 => ?_⟩⟩⟩
    have s6 := s4.trans s5
    clear s4 s5 htt
    refine ⟨_, rfl, _, rfl, .ref p, .ref lh, rfl, .inr ⟨p, row, n, true, rfl, skB.same s6, n1, n6, pm, lvL (SqL.of (s6 _ _ hl)), .inr ⟨rfl, ls, ⟨lh, rfl, .inl (SqL.of (s6 _ _ hl))⟩, pml, mts, fun q2 H5 s7 sk2 => ?_⟩⟩⟩
    have s8 := s6.trans s7
    have sk15 := sk1.same s7
    obtain ⟨dy, ra, qa, c1, c2, c3⟩ := id sk2
    refine ⟨_, rfl, q2, dy, _, rfl, c1, Tt.EqV.y (T := T) (row := trn (row.map (lt ls))) (.skin sk15), q2, trn (row.map (lt ls)), _, _, rfl, sk2, .skin sk15, _, rfl, _, rfl, ite2 (fun c => absurd c (by simp)) (fun _ => ?_)⟩
    obtain ⟨dz, rb, qb, e1, e2, e3⟩ := id sk15
    obtain ⟨dp, rc, qc, f1, f2, f3⟩ := skB.same s8
    refine ⟨_, rfl, q1, T.Skin.C, dz, _, _, rfl, e1, T.Skin.c, nRow T, skF_row .., _, rfl, p, T.Skin.C, dp, _, _, rfl, f1, T.Skin.c, nRow T, skF_row .., _, rfl, rc, .ref lh, row, ls, n, rfl, f2.sq, ⟨lh, rfl, .inl (SqL.of (s8 _ _ hl))⟩, n1, n6, pm, pml, mts, fun r4 H6 s9 f9 => ?_⟩
    refine ⟨_, _, .tup (FzT.same e2 s9).sq (dpAll_ints _ _), .tup f9.sq (dpAll_ints _ _), shapedTup _, shapedTup _, _, rfl, ite2 (fun c => absurd c (by rw [eqv_tups, decide_eq_true rfl]; decide)) (fun _ => ?_)⟩
    have s10 := s8.trans s9
    have sk16 := sk15.same s9
    clear c1 c2 c3 e1 e2 e3 f1 f2 f3 sk2 s6 s7 s8 s9 f9 sk15 sk1
    obtain ⟨bnd1, bnd2⟩ := hR.bounds pm n6
    have fl := rims_flat pm hR
    have mr : ∀ b ∈ bs, ∀ x ∈ b.2, x ∈ row := fun b hb x hx => fl.mem_iff.mp (List.mem_flatten.mpr ⟨b.2, List.mem_map.mpr ⟨b, hb, rfl⟩, hx⟩)
    have lbs : bs.length ≤ 12 := by
      have := bnd1
      rw [List.length_map] at this
      exact this
    refine ⟨_, rfl, qd, rfl, ⟨_, SqL.of (s10 _ _ due.1)⟩, fun D1 hD1 => ?_⟩
    refine lc_list (K := K) (a := qd) (xs := bs.map fun b => V.ref b.1) (fun i H' => ∃ ws : List (Addr × List Int), H' D1 = some (.lst (ws.map fun b => V.ref b.1)) ∧ (∀ b ∈ ws, SqT K H' b.1 (b.2.map V.int)) ∧ ws.map (·.2) = (bs.take i).map (fun b => leastT (b.2.map (lt ls))) ∧ Same H6 H')
      ⟨[], upd_same, (fun _ h => nomatch h), rfl, same_new hD1⟩ (fun i H' _ ⟨_, _, _, _, z⟩ => SqL.of (z _ _ (s10 _ _ due.1))) ?_ ?_
    · rintro i y H' hi ⟨ws, h1, h2, h3, s11⟩
      obtain ⟨b, hb, rfl⟩ : ∃ b, bs[i]? = some b ∧ y = V.ref b.1 := by
        rw [List.getElem?_map] at hi
        cases e : bs[i]? with
        | none => rw [e] at hi; cases hi
        | some b => rw [e] at hi; exact ⟨b, rfl, (Option.some.inj hi).symm⟩
      have hbm := List.mem_of_getElem? hb
      have hil := (List.getElem?_eq_some_iff.mp hb).1
      have lws : ws.length = i := by
        have := congrArg List.length h3
        rw [List.length_map, List.length_map, List.length_take] at this
        omega
      obtain ⟨bn, bl, _⟩ := bnd2 b.2 (List.mem_map.mpr ⟨b, hbm, rfl⟩)
      have s12 := s10.trans s11
      have hbt : SqT K H' b.1 (b.2.map V.int) := same_seqT s12 (due.2 b hbm)
      refine ⟨rfl, yes_t ?_⟩
      refine ⟨_, rfl, b.1, rfl, ⟨_, hbt⟩, fun D2 hD2 => ?_⟩
      refine lc_tup (K := K) (a := b.1) (xs := b.2.map V.int) (fun j H'' => H'' D2 = some (.lst (((b.2.take j).map (lt ls)).map V.int)) ∧ Same H' H'')
        ⟨upd_same, same_new hD2⟩ (fun j H'' _ z => same_seqT z.2 hbt) ?_ ?_
      · rintro j z H'' hj ⟨g1, s13⟩
        obtain ⟨e, rfl, hx⟩ := ints_at hj
        have be := (perm_mem pm).mp (mr b hbm e (List.mem_of_getElem? hx))
        refine ⟨rfl, yes_t ?_⟩
        refine ⟨_, rfl, _, rfl, lh, _, _, _, rfl, rfl, SqL.of ((s12.trans s13) _ _ hl), lt_get (ls := ls) (e := e) be.1 (by omega), _, g1, by rw [List.length_map, List.length_map, List.length_take]; exact small1000 (by omega), ?_, fun c o hc => ?_⟩
        · rw [upd_same, List.take_add_one, hx, List.map_append, List.map_append]
          rfl
        · rw [upd_ne (ne_of_none hc hD2)]
          exact s13 c o hc
      · rintro H'' ⟨g1, s13⟩
        rw [List.length_map, List.take_length] at g1
        refine ⟨D2, _, rfl, .inl ⟨SqL.of g1, fun t ht => ⟨t, b.2.map (lt ls), rfl, SqT.of upd_same, fun z => bn (List.map_eq_nil_iff.mp z), by rw [List.length_map]; omega, fun q H3 s14 hq => ?_⟩⟩⟩
        have s15 : Same H' H3 := (s13.trans (same_new ht)).trans s14
        have h13 := s15 _ _ h1
        refine ⟨_, h13, by rw [List.length_map]; exact small1000 (by omega), ws ++ [(q, leastT (b.2.map (lt ls)))], ?_, fun c hc => ?_, ?_, fun c o hc => ?_⟩
        · rw [upd_same, List.map_append]
          rfl
        · refine sqT_put ?_ h13
          rcases List.mem_append.mp hc with hc | hc
          · exact same_seqT s15 (h2 c hc)
          · rw [List.mem_singleton.mp hc]
            exact hq
        · rw [List.map_append, h3, List.take_add_one, hb, List.map_append]
          rfl
        · rw [upd_ne (ne_of_none hc hD1)]
          exact s15 _ _ (s11 c o hc)
    rintro H7 ⟨ws, h1, h2, h3, s11⟩
    rw [List.length_map, List.take_length] at h3
    have s12 := s10.trans s11
    have nws : ∀ b ∈ ws, b.2 ≠ [] ∧ SqT K H7 b.1 (b.2.map V.int) := fun b hb => by
      refine ⟨fun z => ?_, h2 b hb⟩
      have : b.2 ∈ ws.map (·.2) := List.mem_map.mpr ⟨b, hb, rfl⟩
      rw [h3] at this
      obtain ⟨c, hc, e⟩ := List.mem_map.mp this
      have lne := leastT_turn (ns := c.2.map (lt ls)) (fun z => (bnd2 c.2 (List.mem_map.mpr ⟨c, hc, rfl⟩)).1 (List.map_eq_nil_iff.mp z))
      rw [e, z] at lne
      exact (bnd2 c.2 (List.mem_map.mpr ⟨c, hc, rfl⟩)).1 (List.map_eq_nil_iff.mp ((turn_nil lne).mpr rfl))
    refine ⟨_, rfl, .ref q1, rfl, .inr ⟨q1, trn (row.map (lt ls)), n, rfl, sk16.same s11, n1, n6, pm2, fun bs1 qa H8 hR1 s13 hqa hba => ?_⟩⟩
    obtain ⟨x1, x2⟩ := hR1.bounds pm2 n6
    refine nil_i (Sh.show (K := K) (d := .list ((bs1.map (·.2)).map rowD)) (rows_sh x1 x2) (by omega) (by omega) hba.dp ?_)
    refine ⟨_, rfl, D1, ws, rfl, SqL.of (s13 _ _ h1), fun b hb => ⟨(nws b hb).1, same_seqT s13 (nws b hb).2⟩, fun bs' p' pmS pw hp' => ?_⟩
    have rW : RimsOf (row.map (lt ls)) (bs'.map (·.2)) := by
      refine rims_map rn hR ?_ ?_
      · have e : (bs.map (·.2)).map (fun c => leastT (c.map (lt ls))) = ws.map (·.2) := by
          rw [h3, List.map_map]
          rfl
        rw [e]
        exact pmS.map _
      · rw [List.pairwise_map]
        exact pw
    have eW := rims_one pmf n1 (trn_turn _) rW hR1
    have s14 : Same H8 (upd H8 p' (.lst (bs'.map fun b => V.ref b.1))) := same_new hp'
    refine nil_i (Sh.show (K := K) (d := .list ((bs'.map (·.2)).map rowD)) (by rw [eW]; exact rows_sh x1 x2) (by omega) (by omega) (.lst (SqL.of upd_same) (dpAll_bs bs' fun b hb => same_seqT s14 (same_seqT s13 (nws b (pmS.mem_iff.mp hb)).2))) ⟨rfl, _, rfl, ite2 (fun c => absurd c (by rw [eW]; simp)) (fun _ => ?_)⟩)
    generalize upd H8 p' (.lst (bs'.map fun b => V.ref b.1)) = H9 at s14
    have s15 := (s12.trans s13).trans s14
    have sk19 := (sk16.same s11).same (s13.trans s14)
    clear s10 s11 s12 s13 s14 h1 h2 nws hba hqa hp' sk16
    have h0 : (0 : Int) ∈ row := (perm_mem pm).mpr (by omega)
    refine ⟨_, rfl, .ref q1, rfl, .inr ⟨q1, trn (row.map (lt ls)), n, rfl, sk19, n1, n6, pm2, fun u1 m1 H10 s16 L1 k1 => ?_⟩⟩
    refine ⟨_, rfl, .ref p, rfl, .inr ⟨p, row, n, rfl, skB.same (s15.trans s16), n1, n6, pm, fun u2 m2 H11 s17 L2 k2 => ?_⟩⟩
    have mm : m1 = m2 := by
      have l1 := LeastN.ren (row_ne pm n1) rn L2
      have l2 := LeastN.turn (row_ne pmf n1) (trn_turn _) l1
      exact L1.one l2
    subst mm
    have k1' := k1.same s17
    obtain ⟨dx, ra, qa', c1, c2, c3⟩ := id k1'
    refine ⟨u1, dx, _, rfl, c1, Tt.EqV.y (T := T) (row := m1) (.skin k2), u1, m1, _, _, rfl, k1', .skin k2, _, rfl, _, rfl, ite2 (fun c => absurd c (by simp)) (fun _ => ?_)⟩
    have s18 := (s15.trans s16).trans s17
    clear c1 c2 c3 k1' k1 k2 s15 s16 s17 L1 L2 sk19
    refine ⟨_, rfl, .ref p, rfl, .inr ⟨p, row, n, rfl, skB.same s18, n1, n6, pm, fun qb H12 s19 skb => ?_⟩⟩
    have s20 := s18.trans s19
    have pmr : row.reverse.Perm (rgI (2 * n)) := (List.reverse_perm row).trans pm
    have pmb : (trn row.reverse).Perm (rgI (2 * n)) := (Cy.turn_perm (trn_turn _)).symm.trans pmr
    obtain ⟨db, rb, qb', b1, b2, b3⟩ := id skb
    obtain ⟨dc, rc, qc', c1, c2, c3⟩ := skB.same s20
    refine ⟨_, rfl, qb, T.Skin.C, db, _, _, rfl, b1, T.Skin.c, nRow T, skF_row .., ?_⟩
    refine ⟨_, rfl, p, T.Skin.C, dc, _, _, rfl, c1, T.Skin.c, nRow T, skF_row .., rc, _, rfl, c2.sq, fun t ob ht hob => ?_⟩
    have s21 : Same H12 (upd H12 t (.frz ob (.tup (row.map V.int).reverse))) := same_new ht
    have ft : FzT (upd H12 t (.frz ob (.tup (row.map V.int).reverse))) t (row.reverse.map V.int) := by
      rw [List.map_reverse]
      exact FzT.new hob
    generalize upd H12 t (.frz ob (.tup (row.map V.int).reverse)) = H13 at s21 ft
    refine ⟨t, row.reverse, rfl, .inr ft, List.mem_reverse.mpr h0, by rw [List.length_reverse]; omega, fun r5 H14 s22 f14 => ?_⟩
    refine ⟨_, _, .tup (FzT.same b2 (s21.trans s22)).sq (dpAll_ints _ _), .tup f14.sq (dpAll_ints _ _), shapedTup _, shapedTup _, _, rfl, ite2 (fun c => absurd c (by rw [eqv_tups, decide_eq_true rfl]; decide)) (fun _ => ?_)⟩
    have s23 := (s20.trans s21).trans s22
    have skb4 := skb.same (s21.trans s22)
    clear b1 b2 b3 c1 c2 c3 ft f14 s18 s19 s20 s21 s22 skb
    refine ⟨_, rfl, .ref qb, rfl, .inr ⟨qb, trn row.reverse, n, rfl, skb4, n1, n6, pmb, fun qc H15 s24 skc => ?_⟩⟩
    have er : trn (trn row.reverse).reverse = row := by
      have t0 := turn_rev (trn_turn row.reverse)
      rw [List.reverse_reverse] at t0
      rw [← trn_one (row_nodup pm) h0 t0, tz]
    rw [er] at skc
    have s25 := s23.trans s24
    obtain ⟨dx, ra, qa', c1, c2, c3⟩ := id skc
    refine ⟨_, rfl, qc, dx, _, rfl, c1, Tt.EqV.y (T := T) (row := row) (.skin (skB.same s25)), qc, row, _, _, rfl, skc, .skin (skB.same s25), _, rfl, _, rfl, ite2 (fun c => absurd c (by simp)) (fun _ => ?_)⟩
    have skb5 := skb4.same s24
    clear c1 c2 c3 skc s23 s24 skb4
    refine ⟨_, rfl, .ref qb, rfl, .inr ⟨qb, trn row.reverse, n, rfl, skb5, n1, n6, pmb, fun bs2 qe H16 hR2 s26 hqe hbe => ?_⟩⟩
    obtain ⟨y1, y2⟩ := hR2.bounds pmb n6
    refine nil_i (Sh.show (K := K) (d := .list ((bs2.map (·.2)).map rowD)) (rows_sh y1 y2) (by omega) (by omega) hbe.dp ?_)
    have s27 := s25.trans s26
    refine ⟨_, rfl, qd, rfl, ⟨_, SqL.of (s27 _ _ due.1)⟩, fun D3 hD3 => ?_⟩
    refine lc_list (K := K) (a := qd) (xs := bs.map fun b => V.ref b.1) (fun i H' => ∃ ws : List (Addr × List Int), H' D3 = some (.lst (ws.map fun b => V.ref b.1)) ∧ (∀ b ∈ ws, SqT K H' b.1 (b.2.map V.int)) ∧ ws.map (·.2) = (bs.take i).map (fun b => leastT (b.2.reverse.map Wd.mate)) ∧ Same H16 H')
      ⟨[], upd_same, (fun _ h => nomatch h), rfl, same_new hD3⟩ (fun i H' _ ⟨_, _, _, _, z⟩ => SqL.of (z _ _ (s27 _ _ due.1))) ?_ ?_
    · rintro i y H' hi ⟨ws, h1, h2, h3, s28⟩
      obtain ⟨b, hb, rfl⟩ : ∃ b, bs[i]? = some b ∧ y = V.ref b.1 := by
        rw [List.getElem?_map] at hi
        cases e : bs[i]? with
        | none => rw [e] at hi; cases hi
        | some b => rw [e] at hi; exact ⟨b, rfl, (Option.some.inj hi).symm⟩
      have hbm := List.mem_of_getElem? hb
      have hil := (List.getElem?_eq_some_iff.mp hb).1
      have lws : ws.length = i := by
        have := congrArg List.length h3
        rw [List.length_map, List.length_map, List.length_take] at this
        omega
      obtain ⟨bn, bl, _⟩ := bnd2 b.2 (List.mem_map.mpr ⟨b, hbm, rfl⟩)
      have s29 := s27.trans s28
      have hbt : SqT K H' b.1 (b.2.map V.int) := same_seqT s29 (due.2 b hbm)
      refine ⟨rfl, yes_t ?_⟩
      refine ⟨_, rfl, b.1, b.2, rfl, hbt, bl, fun q H2' s30 hq => ?_⟩
      refine ⟨q, b.2.reverse.map Wd.mate, rfl, SqT.of hq, fun z => bn (List.reverse_eq_nil_iff.mp (List.map_eq_nil_iff.mp z)), by rw [List.length_map, List.length_reverse]; omega, fun q' H3 s31 hq' => ?_⟩
      have s32 := s30.trans s31
      have h13 := s32 _ _ h1
      refine ⟨_, h13, by rw [List.length_map]; exact small1000 (by omega), ws ++ [(q', leastT (b.2.reverse.map Wd.mate))], ?_, fun c hc => ?_, ?_, fun c o hc => ?_⟩
      · rw [upd_same, List.map_append]
        rfl
      · refine sqT_put ?_ h13
        rcases List.mem_append.mp hc with hc | hc
        · exact same_seqT s32 (h2 c hc)
        · rw [List.mem_singleton.mp hc]
          exact hq'
      · rw [List.map_append, h3, List.take_add_one, hb, List.map_append]
        rfl
      · rw [upd_ne (ne_of_none hc hD3)]
        exact s32 _ _ (s28 c o hc)
    rintro H17 ⟨wt, g1, g2, g3, s28⟩
    rw [List.length_map, List.take_length] at g3
    have nwt : ∀ b ∈ wt, b.2 ≠ [] := fun b hb z => by
      have : b.2 ∈ wt.map (·.2) := List.mem_map.mpr ⟨b, hb, rfl⟩
      rw [g3] at this
      obtain ⟨c, hc, e⟩ := List.mem_map.mp this
      have cn := (bnd2 c.2 (List.mem_map.mpr ⟨c, hc, rfl⟩)).1
      have cm : c.2.reverse.map Wd.mate ≠ [] := fun z => cn (List.reverse_eq_nil_iff.mp (List.map_eq_nil_iff.mp z))
      have lne := leastT_turn cm
      rw [e, z] at lne
      exact cm ((turn_nil lne).mpr rfl)
    refine ⟨D3, wt, rfl, SqL.of g1, fun b hb => ⟨nwt b hb, g2 b hb⟩, fun bt' p'' pmS' pw' hp'' => ?_⟩
    have rW' : RimsOf row.reverse (bt'.map (·.2)) := by
      refine rims_rev pm hR ?_ ?_
      · have e : (bs.map (·.2)).map (fun c => leastT (c.reverse.map Wd.mate)) = wt.map (·.2) := by
          rw [g3, List.map_map]
          rfl
        rw [e]
        exact pmS'.map _
      · rw [List.pairwise_map]
        exact pw'
    have eW' := rims_one pmr n1 (trn_turn _) rW' hR2
    have s33 : Same H17 (upd H17 p'' (.lst (bt'.map fun b => V.ref b.1))) := same_new hp''
    refine nil_i (Sh.show (K := K) (d := .list ((bt'.map (·.2)).map rowD)) (by rw [eW']; exact rows_sh y1 y2) (by omega) (by omega) (.lst (SqL.of upd_same) (dpAll_bs bt' fun b hb => same_seqT s33 (g2 b (pmS'.mem_iff.mp hb)))) ⟨rfl, _, rfl, ite2 (fun c => absurd c (by rw [eW']; simp)) (fun _ => ?_)⟩)
    generalize upd H17 p'' (.lst (bt'.map fun b => V.ref b.1)) = H18 at s33
    have sF := (s27.trans s28).trans s33
    exact ⟨_, rfl, _, rfl, _, rfl, D, p, lh, row, ls, n, rfl, skB.same sF, n1, n6, pm, sF _ _ hl, ol, pml, dB.same sF, tbB.ext sF, fun H' d' k' t' => k H' d' ((KpN.of (kB.trans (.of sF))).trans k') t'⟩
end
end Tt
set_option maxRecDepth 100000
set_option maxHeartbeats 4000000
namespace Tt
open PySem L2
open Nm (Ren named keys look nmAll)
theorem rgI_get {n j : Nat} (h : j < n) : (rgI n)[j]? = some (j : Int) := by
  unfold rgI
  rw [List.getElem?_map, List.getElem?_range h]
  rfl
theorem lt_rg {n : Nat} {f : Int → Int} {e : Int} (h0 : 0 ≤ e) (h1 : e < 2 * n) : lt ((rgI (2 * n)).map f) e = f e := by
  obtain ⟨j, rfl⟩ := Int.eq_ofNat_of_zero_le h0
  refine lt_of ?_
  rw [List.getElem?_map, rgI_get (by omega)]
  rfl
theorem due_put {row m : List Int} {n : Nat} (pm : row.Perm (rgI (2 * n))) (n1 : 1 ≤ n) (L : LeastN row m) : IsMin ((SS n n).map fun ls => trn (row.map (lt ls))) m := by
  have hne := row_ne pm n1
  refine ⟨?_, fun x hx => ?_⟩
  · obtain ⟨t, ht, e⟩ := List.mem_map.mp L.1
    have tt := (mem_turns hne).mp ht
    have pt : t.Perm (rgI (2 * n)) := (Cy.turn_perm tt).symm.trans pm
    obtain ⟨rn, bd⟩ := names_ren pt
    have mt : ∀ {a : Int}, a ∈ rgI (2 * n) → a ∈ t := fun h => pt.mem_iff.mpr h
    have rnR : Ren (rgI (2 * n)) (look (nmAll [] t)) := ⟨fun a ha b hb => rn.ij a (mt ha) b (mt hb), fun a ha => rn.mt a (mt ha), fun a ha => mate_row (List.Perm.refl _) ha⟩
    have pml := map_perm (List.Perm.refl (rgI (2 * n))) rnR fun a ha => bd a (mt ha)
    have bI : ∀ e : Nat, e < 2 * n → (0 : Int) ≤ Wd.mate (e : Int) ∧ Wd.mate (e : Int) < 2 * n := fun e he => Wd.mate_range (by omega) (by omega)
    have mts : Mts n ((rgI (2 * n)).map (look (nmAll [] t))) := fun e he => by
      rw [lt_rg (bI e he).1 (bI e he).2, lt_rg (by omega) (by omega)]
      exact rnR.mt _ ((perm_mem (List.Perm.refl _)).mpr (by omega))
    refine List.mem_map.mpr ⟨_, SS_ok.mpr ⟨pml, mts⟩, ?_⟩
    have em : row.map (lt ((rgI (2 * n)).map (look (nmAll [] t)))) = row.map (look (nmAll [] t)) := List.map_congr_left fun a ha => by
      have := (perm_mem pm).mp ha
      exact lt_rg this.1 (by omega)
    rw [em]
    have pr : (row.map (look (nmAll [] t))).Perm (rgI (2 * n)) := map_perm pm ⟨fun a ha b hb => rn.ij a (mt (pm.mem_iff.mp ha)) b (mt (pm.mem_iff.mp hb)), fun a ha => rn.mt a (mt (pm.mem_iff.mp ha)), fun a ha => mate_row pm ha⟩ fun a ha => bd a (mt (pm.mem_iff.mp ha))
    rw [trn_one (row_nodup pr) ((perm_mem pr).mpr (by omega)) (turn_map _ tt), ← Nm.named_all, e]
    exact (tnm_facts n1 pm L.1).2
  · obtain ⟨ls, hls, rfl⟩ := List.mem_map.mp hx
    obtain ⟨pml, mts⟩ := SS_ok.mp hls
    obtain ⟨rn, bd⟩ := lt_ren pm pml mts
    have hm : trn (row.map (lt ls)) ∈ turns (row.map (lt ls)) := (mem_turns fun z => hne (List.map_eq_nil_iff.mp z)).mpr (trn_turn _)
    rw [turns_map] at hm
    obtain ⟨t, ht, e⟩ := List.mem_map.mp hm
    rw [← e]
    have tt := (mem_turns hne).mp ht
    exact List.le_trans (L.2 _ (List.mem_map.mpr ⟨t, ht, rfl⟩)) (Nm.named_least rn (fun a ha => (bd a ha).1) fun x hx => (Cy.turn_perm tt).mem_iff.mpr hx)
end Tt
set_option maxRecDepth 100000
set_option maxHeartbeats 4000000
namespace Tt
open PySem L2
open LamX (Tabs TabS TabB ExtN CodeO tLam)
section
variable {P : Program} {w : World} {K : PySem.W.Frag} {mg : Str → Option Value} {base : Heap}
theorem KpN.at {D : Dw} {H H' : Hp} {b : Addr} {o : HO} (k : KpN D H H') (dr : DrOk D H) (h : H b = some o) (n1 : ∀ kvs, o ≠ .dK kvs) (n2 : ∀ xs, o ≠ .lst xs) (n3 : ∀ ps, o ≠ .tbl ps) : H' b = some o := by
  obtain ⟨ls, cs, r, t, d⟩ := dr
  exact k b o h (d.dne h n1) (d.lne h n2) n3
theorem FzT.kpn {D : Dw} {H H' : Hp} {a : Addr} {xs : List V} (h : FzT H a xs) (dr : DrOk D H) (k : KpN D H H') : FzT H' a xs := by
  obtain ⟨ob, h1, h2⟩ := h
  exact ⟨ob, k.at dr h1 (fun _ z => nomatch z) (fun _ z => nomatch z) (fun _ z => nomatch z), h2⟩
theorem SkAt.kpn {T : Txt K mg} {D : Dw} {H H' : Hp} {p : Addr} {row : List Int} (h : SkAt T H p row) (dr : DrOk D H) (k : KpN D H H') : SkAt T H' p row := by
  obtain ⟨dx, r, q, h1, h2, h3⟩ := h
  exact ⟨dx, r, q, k.at dr h1 (fun _ z => nomatch z) (fun _ z => nomatch z) (fun _ z => nomatch z), FzT.kpn h2 dr k, FzT.kpn h3 dr k⟩
theorem rows2_sh {m : List Int} {n : Nat} (pm : m.Perm (rgI (2 * n))) (n1 : 1 ≤ n) (n6 : n ≤ 6) : Sh 2 5000 (.list [rowD m, rowD m]) := by
  have b : m ≠ [] ∧ m.length ≤ 12 ∧ ∀ x ∈ m, 0 ≤ x ∧ x ≤ 20 := ⟨row_ne pm n1, by rw [perm_len pm]; omega, fun x hx => by have := (perm_mem pm).mp hx; omega⟩
  exact rows_sh (R := [m, m]) (by show 2 ≤ 12; decide) fun r hr => by
    rcases List.mem_cons.mp hr with rfl | hr
    · exact b
    · rw [List.mem_singleton.mp hr]
      exact b
theorem sqn {a b : TS} {D : _} {σ : St} {H : Hp} (h : a { D with nx := b D } σ H) : tSeq a b D σ H := h
theorem tnx {D : _} {σ : St} {H : Hp} (h : D.nx σ H) : tNext D σ H := h
theorem asn {e : TE} {g : TG} {D : _} {σ : St} {H : Hp} (h : e σ H fun x H1 => g x σ H1 D.nx) : tAsg e g D σ H := h
theorem tIfS_r {c : TT} {t u : TS} {D} {σ : St} {H : Hp} (R : Hp → Prop) (h : (∀ H', R H' → u D σ H') → tIfS c t u D σ H) (f : ∀ H', R H' → u D σ H') : tIfS c t u D σ H := h f
theorem tIf_r {t : TT} {ta tb : TE} {σ : St} {H : Hp} {Q : VK} (R : V → Hp → Prop) (h : (∀ v H', R v H' → Q v H') → tIf t ta tb σ H Q) (f : ∀ v H', R v H' → Q v H') : tIf t ta tb σ H Q := h f
theorem law_body (T : Txt K mg) (TB : TabB base mg T.lc T.lP) (TBj0 : TabB base mg T.jc T.jP) {A : Around} {outer : List Env} {s : Shared} {H : Hp} {E : XK} {Q : VK} {a : Addr} {zs : List Int} (hA : A.guards = some []) (hr : Room 14 (A.deeper (PyProof.Rows.envOfC "law" (defScope s_law) s.heap.objs.size T.law.a (.ref T.lc))))
    (hs : SqL K H a (zs.map V.int)) (hl : zs.length ≤ 63) (tb : Tabs (jTs T) H) (k : ∀ H', Q (.bl true) H') :
    ∃ t, PSs (cxOf CX0 P w K mg base N_law "law" (defScope s_law) T.law.a (.ref T.lc) A outer s H E).nox (defBody s_law) t ∧ t { nx := fun _ H' => Q .non H', rt := Q } (L2.start N_law [.ref a]) H := by
  have nd := sc_law.nd
  have TBj : TBs T base := ⟨TBj0⟩
  have hg : (cxOf CX0 P w K mg base N_law "law" (defScope s_law) T.law.a (.ref T.lc) A outer s H E).nox.A.guards = some [] := hA
  have hmT : (T.lP, (("law" : Str) ++ ".<locals>.") ++ "<lambda>") ∈ jTs T := List.mem_cons_of_mem _ List.mem_cons_self
  have hu : ∀ p ∈ jTs T, p.1 = T.lP → p.2 = (("law" : Str) ++ ".<locals>.") ++ "<lambda>" := fun p hp hq => by
    rcases List.mem_cons.mp hp with e | hp
    · subst e
      exact absurd hq T.ne
    · have e := List.mem_singleton.mp hp
      subst e
      exact Eq.refl lQ
  have z1000 := sz1000
  refine ⟨_, (pss_cons (ps_set (i := 1) nd rfl (Or.inl rfl) (pe_call (ok_l_begun T) (hr.mono (by decide)) (by rfl) T.l_begun.g T.l_begun.k T.l_begun.b .nil pass0 (pa_cons (pv 0) pa_nil)))
    (pss_cons (ps_for PassesOwn.never rfl (pi_range1 rfl T.zrange (pa_cons (pe_op op_add pe_int (pe_callB (call_min2 rfl) (by rfl) T.zmin (by decide +kernel) (pa_cons (pe_callB call_len_seq (by rfl) T.zlen (by decide +kernel) (pa_cons (pv 0) pa_nil)) (pa_cons pe_int pa_nil)))) pa_nil)) (pg_name (i := 2) nd rfl (Or.inl rfl))
      (pss_cons (ps_set (i := 3) nd rfl (Or.inr rfl) (pe_call (ok_l_row T) (hr.mono (by decide)) (by rfl) T.l_row.g T.l_row.k T.l_row.b .nil pass0 (pa_cons (pv 1) (pa_cons pe_int pa_nil))))
      (pss_cons (ps_par (i := 4) (j := 5) rfl nd rfl rfl (by decide) rfl rfl (pa_cons (pe_make T.Skin.kk (ok_Skin_init T) (hr.mono (by decide)) (by rfl) T.Skin.g T.Skin.b .nil passF (pa_cons (pv 3) pa_nil)) (pa_cons (pe_call (ok_l_least T) (hr.mono (by decide)) (by rfl) T.l_least.g T.l_least.k T.l_least.b .nil pass0 (pa_cons (pv 3) pa_nil)) pa_nil)) rfl)
      (pss_cons (ps_if (PW.pt (pw_or (pt_cmpR op_ne (pe_callB (call_show hg hr.units) (by rfl) T.zrepr (by decide +kernel) (pa_cons (pe_lst (pa_cons (pe_fld (pe_call (ok_least_skin T) (hr.mono (by decide)) (by rfl) T.least_skin.g T.least_skin.k T.least_skin.b .nil passF (pa_cons (pv 4) pa_nil)) rfl) (pa_cons (pe_fld (pe_callSw1 (ok_least_skin T) (hr.mono (by decide)) (by rfl) T.least_skin.g T.least_skin.k (sw_least_skin T) passF (pv 4)) rfl) pa_nil))) pa_nil)) (pe_callB (call_show hg hr.units) (by rfl) T.zrepr (by decide +kernel) (pa_cons (pe_lst (pa_cons (pv 5) (pa_cons (pv 5) pa_nil))) pa_nil)) (nomark _)) (pw_or1 (pt_not (pt_val (pe_callG (ok_l_renamed_right T TBj) hg (hr.mono (by decide)) (by rfl) T.l_renamed_right.g T.l_renamed_right.k T.l_renamed_right.b .nil pass0 (pa_cons (pv 1) (pa_cons (pv 4) pa_nil))))))))
        (pss_one (ps_ret pe_bl))
        pss_nil)
      (pss_cons (ps_if (PW.pt (pw_and (pt_cmpR op_lt (pe_callB call_len_seq (by rfl) T.zlen (by decide +kernel) (pa_cons (pv 3) pa_nil)) pe_int (nomark _)) (pw_and1 (pt_cmpR (op_neD hr.units) (pe_callB (cr_minT rfl hr.units) (by rfl) T.zmin (by decide +kernel) (pa_cons (pe_lc (own := [("some", 9)]) (g := gName 9) rfl nd (pi_list (pe_call (ok_l_renamings T) (hr.mono (by decide)) (by rfl) T.l_renamings.g T.l_renamings.k T.l_renamings.b .nil pass0 (pa_cons (pe_op op_fdiv (pe_callB call_len_seq (by rfl) T.zlen (by decide +kernel) (pa_cons (pv 3) pa_nil)) pe_int) pa_nil))) (blkOk_by (own := [("some", 9)]) (N := N_law) (sc := defScope s_law) (by decide +kernel)) (fun _ _ _ _ _ => pg_name (i := 9) nd rfl (Or.inl rfl)) (fun _ _ _ _ _ => pts_nil) (fun _ _ _ _ _ => (pe_call (ok_l_put T) (hr.mono (by decide)) (by rfl) T.l_put.g T.l_put.k T.l_put.b .nil pass0 (pa_cons (pv 3) (pa_cons (pv 9) pa_nil))))) pa_nil)) (pv 5) (nomark _)))))
        (pss_one (ps_ret pe_bl))
        pss_nil)
      (pss_cons (ps_set (i := 6) nd rfl (Or.inl rfl) (pe_ifExp (pt_cmpR op_eq (pe_call (ok_l_take T) (hr.mono (by decide)) (by rfl) T.l_take.g T.l_take.k T.l_take.b .nil pass0 (pa_cons (pv 1) (pa_cons pe_int pa_nil))) pe_int (nomark _)) (pe_call (ok_l_row T) (hr.mono (by decide)) (by rfl) T.l_row.g T.l_row.k T.l_row.b .nil pass0 (pa_cons (pv 1) (pa_cons pe_int pa_nil))) (pe_callTy call_tuple_ofF (by rfl) T.ztuple (by decide +kernel) (pa_cons (pe_call (ok_l_shuffled T) (hr.mono (by decide)) (by rfl) T.l_shuffled.g T.l_shuffled.k T.l_shuffled.b .nil pass0 (pa_cons (pv 1) (pa_cons (pv 3) pa_nil))) pa_nil))))
      (pss_one (ps_if (pt_cmpR op_ne (pe_cmpR (op_eqO (ok_Skin_eq T) T.eqM.i T.eqM.n T.eqM.b (hr.mono (by decide)) pass0) (pe_call (ok_least_skin T) (hr.mono (by decide)) (by rfl) T.least_skin.g T.least_skin.k T.least_skin.b .nil passF (pa_cons (pe_make T.Skin.kk (ok_Skin_init T) (hr.mono (by decide)) (by rfl) T.Skin.g T.Skin.b .nil passF (pa_cons (pv 6) pa_nil)) pa_nil)) (pe_call (ok_least_skin T) (hr.mono (by decide)) (by rfl) T.least_skin.g T.least_skin.k T.least_skin.b .nil passF (pa_cons (pv 4) pa_nil)) (nomark _)) (pe_cmpR (op_eqD hr.units) (pe_call (ok_l_least T) (hr.mono (by decide)) (by rfl) T.l_least.g T.l_least.k T.l_least.b .nil pass0 (pa_cons (pv 6) pa_nil)) (pv 5) (nomark _)) (nomark _))
        (pss_one (ps_ret pe_bl))
        pss_nil))))))))
    (pss_cons (ps_set (i := 7) nd rfl (Or.inr rfl) (pe_call (ok_l_pick T) (hr.mono (by decide)) (by rfl) T.l_pick.g T.l_pick.k T.l_pick.b .nil pass0 (pa_cons (pv 1) (pa_cons (pe_lst (pa_cons pe_non (pa_cons pe_int (pa_cons (pe_tup (pa_cons pe_int (pa_cons pe_int pa_nil))) (pa_cons pe_str pa_nil))))) pa_nil))))
    (pss_cons (ps_set (i := 8) nd rfl (Or.inl rfl) (pe_caught (k := 7) T (by rfl) TB rfl hmT hu (hr.mono (by decide)) (LamX.lamS_by (sc := defScope s_law) (by decide +kernel)) rfl (fun _ _ _ _ _ => rfl) (fun _ _ _ _ _ _ _ hr => lb_mn T hr rfl (Or.inr (Or.inr rfl)) (by rfl))))
    (pss_one (ps_ret (pe_and (pe_call (ok_l_skin_error T) (hr.mono (by decide)) (by rfl) T.l_skin_error.g T.l_skin_error.k T.l_skin_error.b .nil pass0 (pa_cons (pv 8) pa_nil)) (pe_one (pe_call (ok_l_skin_error T) (hr.mono (by decide)) (by rfl) T.l_skin_error.g T.l_skin_error.k T.l_skin_error.b .nil pass0 (pa_cons (pe_caught (k := 7) T (by rfl) TB rfl hmT hu (hr.mono (by decide)) (LamX.lamS_by (sc := defScope s_law) (by decide +kernel)) rfl (fun _ _ _ _ _ => rfl) (fun _ _ _ _ _ _ _ hr => lb_ln T hr rfl (Or.inr (Or.inr rfl)) (by rfl))) pa_nil)))))))))), ?_⟩
  refine ⟨_, rfl, a, zs, rfl, hs, hl, fun D H1 d1 s1 => ?_⟩
  have tb1 := tb.ext s1
  have hs1 : SqL K H1 a (zs.map V.int) := Same.seq s1 hs
  refine ⟨_, rfl, a, _, rfl, .inl hs1, _, _, rfl, _, _, rfl, rfl, _, rfl, ?_, ?_, ?_⟩
  · split <;> omega
  · split <;> omega
  refine for_range (lo := 0) (fun i σ H' => ∃ v2 v3 v4 v5 v6 v7 v8, σ = [some (.ref a), some (.ref D.d), v2, v3, v4, v5, v6, v7, v8, none] ∧ DrOk D H' ∧ Tabs (jTs T) H') ⟨none, none, none, none, none, none, none, rfl, d1, tb1⟩ ?_ ?_
  · rintro i σ H2 hi ⟨v2, v3, v4, v5, v6, v7, v8, rfl, d2, tb2⟩
    refine ⟨_, rfl, D, 6, rfl, by decide, by decide, d2, fun n row q H3 n1 n6 pm d3 k3 fq => ?_⟩
    have n6' : n ≤ 6 := by omega
    have tb3 := tabs_kp tb2 d2 k3
    have hlen := perm_len pm
    refine ⟨_, rfl, fun p dx hp hdx ne => ?_⟩
    have sA : Same H3 (upd (upd H3 dx (.own p)) p (.ins T.Skin.C dx [])) := (same_new hdx).trans (same_new (by rw [upd_ne ne.symm]; exact hp))
    refine ⟨p, dx, _, rfl, upd_same, .inr ⟨q, n, row, rfl, .inr (FzT.same fq sA), n1, n6', pm, fun H4 sk kp => ⟨rfl, ?_⟩⟩⟩
    have s4 : Same H3 H4 := fun b o hb => kp b o (sA b o hb) (ne_of_none hb hp)
    refine ⟨_, rfl, q, row, n, rfl, (FzT.same fq s4).sq, n1, n6', pm, fun qd m H5 s5 L hqd => ⟨_, _, rfl, ?_⟩⟩
    have h0 : (0 : Int) ∈ row := (perm_mem pm).mpr (by omega)
    have t2 := trn_turn row
    have pm2 : (trn row).Perm (rgI (2 * n)) := (Cy.turn_perm t2).symm.trans pm
    have tz : trn (trn row) = trn row := (trn_one (row_nodup pm) h0 t2).symm
    have L2' := L.turn (row_ne pm n1) t2
    have s6 := s4.trans s5
    have d5 := d3.same s6
    have tb5 := tb3.ext s6
    have fq5 := FzT.same fq s6
    have sk5 := sk.same s5
    have pmm := (tnm_facts n1 pm L.1).1
    clear sA kp hp hdx ne s4 s5 s6 sk fq d3 tb3 k3 d2 tb2
    refine ⟨_, rfl, .ref p, rfl, .inr ⟨p, trn row, n, rfl, sk5, n1, n6', pm2, fun u1 m1 H6 s6 L1 k1 => ?_⟩⟩
    obtain ⟨dy, ry, qy, c1, c2, c3⟩ := id k1
    refine ⟨u1, T.Skin.C, dy, _, _, rfl, c1, T.Skin.c, nRow T, skF_row .., ?_⟩
    refine ⟨_, rfl, .ref p, rfl, .inr ⟨p, trn row, n, rfl, sk5.same s6, n1, n6', pm2, fun u2 m2 H7 s7 L2 k2 => ?_⟩⟩
    obtain ⟨dz, rz, qz, e1, e2, e3⟩ := id k2
    obtain rfl : m1 = m := L1.one L2'
    obtain rfl : m2 = m1 := L2.one L1
    refine ⟨u2, T.Skin.C, dz, _, _, rfl, e1, T.Skin.c, nRow T, skF_row .., (by show 2 ≤ sizeLine; omega), fun l1 hl1 => ?_⟩
    have s8 : Same H7 (upd H7 l1 (.lst [.ref ry, .ref rz])) := same_new hl1
    have sh := rows2_sh pmm n1 n6'
    refine nil_i (Sh.show (K := K) (d := .list [rowD m2, rowD m2]) sh (by omega) (by omega) (.lst (SqL.of upd_same) (.cons (.tup (FzT.same (FzT.same c2 s7) s8).sq (dpAll_intsL _ m2)) (.cons (.tup (FzT.same e2 s8).sq (dpAll_intsL _ m2)) .nil))) ?_)
    generalize upd H7 l1 (.lst [.ref ry, .ref rz]) = H8 at s8
    have s9 := (s6.trans s7).trans s8
    have hqd8 := s9 _ _ hqd
    refine ⟨_, rfl, _, rfl, (by show 2 ≤ sizeLine; omega), fun l2 hl2 => ?_⟩
    have s10 : Same H8 (upd H8 l2 (.lst [.ref qd, .ref qd])) := same_new hl2
    have hqd9 := s10 _ _ hqd8
    refine nil_i (Sh.show (K := K) (d := .list [rowD m2, rowD m2]) sh (by omega) (by omega) (.lst (SqL.of upd_same) (.cons (.tup (SqT.of hqd9) (dpAll_intsL _ m2)) (.cons (.tup (SqT.of hqd9) (dpAll_intsL _ m2)) .nil))) ⟨rfl, _, rfl, ite2 (fun c => absurd c (by simp)) (fun _ => ?_)⟩)
    generalize upd H8 l2 (.lst [.ref qd, .ref qd]) = H9 at s10 hqd9
    have s11 := s9.trans s10
    clear c1 c2 c3 e1 e2 e3 k1 k2 L1 L2 s6 s7 s8 s9 s10 hqd8
    refine ⟨_, rfl, _, rfl, D, p, trn row, n, rfl, sk5.same s11, tz, n1, n6', pm2, d5.same s11, tb5.ext s11, fun H10 d10 k10 tb10 => ⟨true, rfl, iteF ?_⟩⟩
    have d9 := d5.same s11
    have fq10 := FzT.kpn (FzT.same fq5 s11) d9 k10
    have sk10 := SkAt.kpn (sk5.same s11) d9 k10
    have qd10 : H10 qd = some (.tup (m2.map V.int)) := k10.at d9 hqd9 (fun _ z => nomatch z) (fun _ z => nomatch z) (fun _ z => nomatch z)
    clear d9 s11 hqd9 d5 tb5 fq5 sk5 k10 hqd
    have hDue := due_put pm n1 L
    have hl2n : (row.map V.int).length = 2 * n := by rw [List.length_map]; exact hlen
    refine tnx ?_
    dsimp only
    refine sqn (tIfS_r (fun H' => DrOk D H' ∧ Tabs (jTs T) H' ∧ FzT H' q (row.map V.int) ∧ SkAt T H' p (trn row) ∧ H' qd = some (.tup (m2.map V.int))) (fun rest => ?_) ?_)
    · refine ⟨_, rfl, q, row.map V.int, rfl, .inr fq10.sq, _, _, rfl, rfl, _, rfl, ite2 (fun c => ?_) (fun _ => iteF (rest H10 ⟨d10, tb10, fq10, sk10, qd10⟩))⟩
      have n3 : n ≤ 3 := by
        have := of_decide_eq_true c
        rw [hl2n] at this
        omega
      refine ⟨_, rfl, q, row.map V.int, rfl, .inr fq10.sq, _, _, rfl, rfl, ⟨by decide, by decide⟩, n, by rw [hl2n]; exact congrArg (fun z => [V.int z]) (by omega), n3, fun l ps H11 s11 lr => ?_⟩
      have fq11 := FzT.same fq10 s11
      refine ⟨l, rfl, ⟨_, SqL.of lr.l⟩, fun D1 hD1 => ?_⟩
      refine lc_list (K := K) (a := l) (xs := ps.map V.ref) (fun i H' => ∃ qs : List Addr, H' D1 = some (.lst (qs.map V.ref)) ∧ Paired (fun a m => SqT K H' a (m.map V.int)) qs (((SS n n).take i).map fun ls => trn (row.map (lt ls))) ∧ Same H11 H') ⟨[], upd_same, .nil, same_new hD1⟩ (fun i H' _ ⟨_, _, _, z⟩ => SqL.of (z _ _ lr.l)) ?_ ?_
      · rintro i y H' hi ⟨qs, h1, h2, s12⟩
        obtain ⟨t, ht, rfl⟩ : ∃ t, ps[i]? = some t ∧ y = V.ref t := by
          rw [List.getElem?_map] at hi
          cases e : ps[i]? with
          | none => rw [e] at hi; cases hi
          | some b => rw [e] at hi; exact ⟨b, rfl, (Option.some.inj hi).symm⟩
        have hil := (List.getElem?_eq_some_iff.mp ht).1
        have hin : i < (SS n n).length := by rw [← lr.p.length]; exact hil
        obtain ⟨ls, gi⟩ : ∃ ls, (SS n n)[i]? = some ls := ⟨_, List.getElem?_eq_getElem hin⟩
        have hlsT := pair_at lr.p ht gi
        obtain ⟨pml, mts⟩ := SS_ok.mp (List.mem_of_getElem? gi)
        have lqs : qs.length = i := by
          have := h2.length
          rw [List.length_map, List.length_take] at this
          omega
        have l48 : (SS n n).length ≤ 216 := Nat.le_trans (SS_len n3 n) (Nat.pow_le_pow_right (by decide) n3)
        refine ⟨rfl, yes_t ?_⟩
        refine ⟨_, rfl, _, rfl, q, .ref t, row, ls, n, rfl, (FzT.same fq11 s12).sq, ⟨t, rfl, .inr (SqT.of (s12 _ _ hlsT))⟩, n1, n6', pm, pml, mts, fun q2 H5 s5 f5 => ?_⟩
        have sB := s12.trans s5
        have h5 := s5 _ _ h1
        refine ⟨_, h5, by rw [List.length_map]; exact small1000 (by omega), qs ++ [q2], ?_, ?_, fun b o hb => ?_⟩
        · rw [upd_same, List.map_append]
          rfl
        · rw [List.take_add_one, gi, List.map_append]
          exact pair_snoc (pair_mono (fun a m z => sqT_put (same_seqT s5 z) h5) h2) (sqT_put f5.sq h5)
        · rw [upd_ne (ne_of_none hb hD1)]
          exact sB _ _ hb
      · rintro H' ⟨qs, h1, h2, s12⟩
        rw [List.length_map, lr.p.length, List.take_length] at h2
        obtain ⟨r0, rs, e⟩ : ∃ r0 rs, (SS n n).map (fun ls => trn (row.map (lt ls))) = r0 :: rs := by
          cases e : (SS n n).map (fun ls => trn (row.map (lt ls))) with
          | nil => have := hDue.1; rw [e] at this; cases this
          | cons r0 rs => exact ⟨r0, rs, rfl⟩
        rw [e] at h2 hDue
        refine ⟨D1, qs, r0, rs, rfl, SqL.of h1, h2, fun i pq hi hm => ?_⟩
        have hi2 : i < (r0 :: rs).length := by
          rw [← h2.length]
          exact (List.getElem?_eq_some_iff.mp hi).1
        have gm := List.getElem?_eq_getElem hi2
        have em := hm _ gm
        rw [minR_D] at em
        have em2 := rowD_inj em
        have hq := pair_at h2 hi gm
        rw [em2, (minR_min r0 rs).one hDue] at hq
        have s13 := s11.trans s12
        have qd13 := s13 _ _ qd10
        exact ⟨_, rfl, _, _, .tup hq (dpAll_ints _ _), .tup (SqT.of qd13) (dpAll_ints _ _), shapedTup _, shapedTup _, _, rfl, ite2 (fun c => absurd c (by rw [eqv_tups, decide_eq_true rfl]; decide)) (fun _ => rest H' ⟨d10.same s13, tb10.ext s13, FzT.same fq10 s13, sk10.same s13, qd13⟩)⟩
    clear d10 tb10 fq10 sk10 qd10 hDue
    rintro H11 ⟨d11, tb11, fq11, sk11, qd11⟩
    refine tnx ?_
    dsimp only
    refine sqn (asn (tIf_r (fun v H' => ∃ (r : Addr) (row2 : List Int) (n2 : Nat), v = V.ref r ∧ DrOk D H' ∧ Kp D H11 H' ∧ FzT H' r (row2.map V.int) ∧ 1 ≤ n2 ∧ n2 ≤ 6 ∧ row2.Perm (rgI (2 * n2))) (fun f => ?_) ?_))
    · refine ⟨_, rfl, D, 2, rfl, by decide, by decide, d11, fun c H12 c0 c2 d12 k12 => ⟨rfl, _, rfl, ite2 (fun _ => ?_) (fun _ => ?_)⟩⟩
      · exact ⟨_, rfl, D, 6, rfl, by decide, by decide, d12, fun n2 row2 r H13 a1 a2 a3 d13 k13 f13 => f _ _ ⟨r, row2, n2, rfl, d13, k12.trans k13, f13, a1, by omega, a3⟩⟩
      · have fq12 := FzT.kpn fq11 d11 (KpN.of k12)
        refine ⟨_, rfl, _, rfl, D, q, row, rfl, .inr fq12.sq, by omega, d12, fun ns r H13 a1 d13 k13 hrn hr => ?_⟩
        exact ⟨r, ns.map V.int, rfl, .inl ⟨SqL.of hr, fun t ob ht hob => f _ _ ⟨t, ns, n, rfl, d13.same (same_new ht), (k12.trans k13).trans (.of (same_new ht)), ⟨ob, upd_same, hob⟩, n1, n6', a1.trans pm⟩⟩⟩
    rintro v H12 ⟨r, row2, n2, rfl, d12, k12, f12, a1, a2, a3⟩
    have tb12 := tabs_kp tb11 d11 k12
    have fq12 := FzT.kpn fq11 d11 (KpN.of k12)
    have sk12 := SkAt.kpn sk11 d11 (KpN.of k12)
    have qd12 : H12 qd = some (.tup (m2.map V.int)) := (KpN.of k12).at d11 qd11 (fun _ z => nomatch z) (fun _ z => nomatch z) (fun _ z => nomatch z)
    clear d11 tb11 fq11 sk11 qd11 k12
    refine ⟨_, rfl, fun p3 dx3 hp3 hdx3 ne3 => ?_⟩
    have sA : Same H12 (upd (upd H12 dx3 (.own p3)) p3 (.ins T.Skin.C dx3 [])) := (same_new hdx3).trans (same_new (by rw [upd_ne ne3.symm]; exact hp3))
    refine ⟨p3, dx3, _, rfl, upd_same, .inr ⟨r, n2, row2, rfl, .inr (FzT.same f12 sA), a1, a2, a3, fun H13 sk3 kp3 => ⟨rfl, ?_⟩⟩⟩
    have s13 : Same H12 H13 := fun b o hb => kp3 b o (sA b o hb) (ne_of_none hb hp3)
    have t3 := trn_turn row2
    have pm3 : (trn row2).Perm (rgI (2 * n2)) := (Cy.turn_perm t3).symm.trans a3
    refine ⟨.ref p3, rfl, .inr ⟨p3, trn row2, n2, rfl, sk3, a1, a2, pm3, fun u4 m4 H14 s14 L4 k4 => ?_⟩⟩
    refine ⟨_, rfl, .ref p, rfl, .inr ⟨p, trn row, n, rfl, (sk12.same s13).same s14, n1, n6', pm2, fun u5 m5 H15 s15 L5 k5 => ?_⟩⟩
    obtain rfl : m5 = m2 := L5.one L2'
    have k4' := k4.same s15
    obtain ⟨dz, rz, qz, e1, e2, e3⟩ := id k4'
    have s16 := (s13.trans s14).trans s15
    refine ⟨u4, dz, _, rfl, e1, Tt.EqV.y (T := T) (row := m4) (.skin k5), u4, m4, _, _, rfl, k4', .skin k5, ?_⟩
    refine ⟨_, rfl, r, row2, n2, rfl, (FzT.same f12 s16).sq, a1, a2, a3, fun w6 m6 H17 s17 L6 hw => ?_⟩
    obtain rfl : m4 = m6 := L4.one (L6.turn (row_ne a3 a1) t3)
    have s18 := s16.trans s17
    refine ⟨_, rfl, _, _, .tup (SqT.of hw) (dpAll_ints _ _), .tup (SqT.of (s18 _ _ qd12)) (dpAll_ints _ _), shapedTup _, shapedTup _, rfl, _, rfl, ite2 (fun c => absurd c (by rw [eqv_tups]; simp)) (fun _ => ?_)⟩
    exact ⟨_, _, _, _, _, _, _, rfl, d12.same s18, tb12.ext s18⟩
  · rintro σ H2 ⟨v2, v3, v4, v5, v6, v7, v8, rfl, d2, tb2⟩
    refine ⟨_, rfl, (by show 2 ≤ sizeLine; decide), fun t1 ht1 => ⟨(by show 4 ≤ sizeLine; decide), fun l2 hl2 => ?_⟩⟩
    have s3 : Same H2 (upd H2 t1 (.tup [.int 0, .int 1])) := same_new ht1
    have e3 : (upd H2 t1 (.tup [.int 0, .int 1])) t1 = some (.tup [.int 0, .int 1]) := upd_same
    generalize upd H2 t1 (.tup [.int 0, .int 1]) = H4 at s3 e3 hl2
    have s5 : Same H4 (upd H4 l2 (.lst [.non, .int 5, .ref t1, .str "skin"])) := same_new hl2
    have e5 : (upd H4 l2 (.lst [.non, .int 5, .ref t1, .str "skin"])) l2 = some (.lst [.non, .int 5, .ref t1, .str "skin"]) := upd_same
    have e3'' := s5 _ _ e3
    have o2 : Off D l2 := (d2.same s3).off hl2
    have d5 := (d2.same s3).same s5
    have tb5 := (tb2.ext s3).ext s5
    generalize upd H4 l2 (.lst [.non, .int 5, .ref t1, .str "skin"]) = H5 at s5 e5 e3'' d5 tb5
    refine ⟨D, l2, _, rfl, .inl (SqL.of e5), o2.2.1, by simp, (by show 4 < 1073741824; decide), d5, fun i y H6 hi d6 k6 => ?_⟩
    have tb6 := tabs_kp tb5 d5 k6
    have yv : ∀ H', (∀ b o, H6 b = some o → (∀ ps, o ≠ .tbl ps) → H' b = some o) → SkV T H' y false := fun H' kk => by
      have hx := List.mem_of_getElem? hi
      simp only [List.mem_cons, List.not_mem_nil, or_false] at hx
      rcases hx with rfl | rfl | rfl | rfl
      · exact .ty .non T.kSN
      · exact .ty (.int 5) T.kSI
      · refine .ty (.tup (xs := [.int 0, .int 1]) (SqT.of ?_)) T.kST
        exact kk _ _ (d5.tup k6 e3'') (fun _ z => nomatch z)
      · exact .ty (.str _) T.kSY
    clear d2 tb2 s3 e3 s5 e5 e3'' d5 tb5 k6 hl2 ht1 hi
    refine lam_mn (K := K) tb6 rfl (fun H' e => yv H' fun b o h n => e b o h n) fun a8 d8 H8 j8 ha8 hd8 => ?_
    obtain ⟨H7, x7, t7, s8⟩ := j8
    refine ⟨_, rfl, a8, d8, rfl, ha8, hd8, true, rfl, iteT ?_⟩
    have tb8 : Tabs (jTs T) H8 := t7.ext s8
    have ext : ∀ H', ExtN H8 H' → SkV T H' y false := fun H' e => yv H' fun b o h n => e b o (s8 _ _ (x7 b o h n)) n
    refine lam_ln (K := K) tb8 rfl ext fun a9 d9 H9 j9 ha9 hd9 => ?_
    exact ⟨a9, d9, rfl, ha9, hd9, k H9⟩
end
end Tt
set_option maxRecDepth 100000
set_option maxHeartbeats 4000000
namespace Tt
open PySem PySem.Spec PyProof.Rows L2
open LamX (TabB)
def firstH (a : Addr) (ts : List (Addr × Addr)) (u : Option HO) : Hp := fun b => if b = a then u else if b ∈ ts.map (·.2) then some (.tbl #[]) else none
theorem firstH_a {a : Addr} {ts : List (Addr × Addr)} {u : Option HO} : firstH a ts u a = u := if_pos rfl
theorem firstH_t {a t : Addr} {ts : List (Addr × Addr)} {u : Option HO} (n : t ≠ a) (h : t ∈ ts.map (·.2)) : firstH a ts u t = some (.tbl #[]) := (if_neg n).trans (if_pos h)
theorem firstH_o {a b : Addr} {ts : List (Addr × Addr)} {u : Option HO} (n : b ≠ a) (m : b ∉ ts.map (·.2)) : firstH a ts u b = none := (if_neg n).trans (if_neg m)
theorem law_run {P : Program} {w : World} {K : PySem.W.Frag} {mg mb : Str → Option Value} {fa a : Addr} {ts : List (Addr × Addr)} {s₁ : Shared} {vs : List Value} {ns : List Int}
    (KX : K.In s₁.heap) (hg : s₁.heap.Ns mainGlobals mg) (hb : s₁.heap.Ns builtinsNs mb) (hbb : ∀ x : Str, x ≠ "__name__" → mb x = bootBuiltins x) (lim : s₁.heap.NoLimit) (gens : s₁.gens = #[])
    (hts : ∀ p ∈ ts, s₁.heap.get? p.2 = some { cls := .none, data := .fields #[] } ∧ K.lookup p.2 = none ∧ PySem.W.CodeHd s₁.heap p.1 p.2)
    (bmain : ∃ (bm : Addr) (ob : Obj), mg "__builtins__" = some (.ref bm) ∧ bm ≠ builtinsNs ∧ s₁.heap.get? bm = some ob ∧ ob.cls = .type "module" ∧ ob.dict = some builtinsNs ∧ ob.data = .plain)
    (ha : s₁.heap.get? a = some { cls := .type "list", data := .seq vs.toArray }) (hi : IntsAre vs ns) (hl : ns.length ≤ sizeLine)
    (run : ∀ (base : Heap) (H : Hp), (∀ p ∈ ts, TabB base mg p.1 p.2) → Env0 P w K mg base callerA [] s₁ H → (∀ p ∈ ts, H p.2 = some (.tbl #[])) → SqL K H a (ns.map V.int) → codeAny (model P w) callerA (.call (.ref fa) ⟨[.ref a], []⟩) (CR CX0 [] P w H s₁ (fun v _ => v = .bl true) E0) s₁) :
    codeAny (model P w) callerA (.call (.ref fa) ⟨[.ref a], []⟩) (fun r s' => r = .ok (.ret (.bool true)) ∧ OldK s₁.heap s'.heap ∧ s'.os = s₁.os ∧ AllBare s'.gens) s₁ := by
  have rv := vals_ints hi
  have mem : ∀ {t : Addr}, t ∈ ts.map (·.2) → ∃ c, (c, t) ∈ ts := fun {t} h => by
    obtain ⟨⟨c, t'⟩, h1, rfl⟩ := List.mem_map.mp h
    exact ⟨c, h1⟩
  have nta : ∀ t ∈ ts.map (·.2), t ≠ a := fun t ht z => by
    obtain ⟨c, hc⟩ := mem ht
    have h1 := (hts _ hc).1
    rw [z, ha] at h1
    have z' : Data.seq vs.toArray _ = Data.fields #[] := congrArg Obj.data (Option.some.inj h1)
    cases z'
  obtain ⟨u, hu, hS, hK⟩ : ∃ u : Option HO, (u = none ∨ u = some (.frz { cls := .type "list", data := .seq vs.toArray } (.lst (ns.map V.int)))) ∧ SqL K (firstH a ts u) a (ns.map V.int) ∧ (u ≠ none → K.lookup a = none) := by
    cases hk : K.lookup a with
    | none => exact ⟨_, .inr rfl, .inl (.inr ⟨_, firstH_a⟩), fun _ => rfl⟩
    | some o =>
      have e := KX a o hk
      rw [ha] at e
      cases e
      exact ⟨none, .inl rfl, .inr ⟨_, vs.toArray, _, hk, rfl, rfl, rfl, by rw [List.size_toArray, hi.length]; exact hl, by simpa using rv⟩, fun z => absurd rfl z⟩
  have hT : ∀ t ∈ ts.map (·.2), firstH a ts u t = some (.tbl #[]) := fun t ht => firstH_t (nta t ht) ht
  have look : ∀ b x, firstH a ts u b = some x → (b = a ∧ u = some x) ∨ (b ∈ ts.map (·.2) ∧ x = .tbl #[]) := fun b x e => by
    by_cases h1 : b = a
    · subst h1
      exact .inl ⟨rfl, firstH_a.symm.trans e⟩
    · by_cases h2 : b ∈ ts.map (·.2)
      · rw [hT b h2] at e
        exact .inr ⟨h2, (Option.some.inj e).symm⟩
      · rw [firstH_o h1 h2] at e
        cases e
  generalize hH : firstH a ts u = H at hS hT look
  have free : ∀ {b : Addr} {o : Obj}, s₁.heap.get? b = some o → (∀ vs n, o.data ≠ .seq vs n) → o.data ≠ .fields #[] → H b = none := fun {b o} e h1 h2 => by
    cases q : H b with
    | none => rfl
    | some x =>
      rcases look b x q with ⟨rfl, _⟩ | ⟨hb, _⟩
      · rw [ha] at e
        cases e
        exact (h1 _ _ rfl).elim
      · obtain ⟨c, hc⟩ := mem hb
        rw [(hts _ hc).1] at e
        cases e
        exact (h2 rfl).elim
  have dict : ∀ {b : Addr} {m : Str → Option Value}, s₁.heap.Ns b m → (hidT s₁.heap H).Ns b m := fun {b m} ⟨o, es, ep, e, d, r⟩ =>
    ⟨o, es, ep, hidT_get e (free e (fun _ _ z => by rw [d] at z; cases z) (fun z => by rw [d] at z; cases z)), d, r⟩
  have kin : K.In (hidT s₁.heap H) := fun b o e => hidT_get (KX b o e) (by
    cases q : H b with
    | none => rfl
    | some x =>
      rcases look b x q with ⟨rfl, hx⟩ | ⟨hb, _⟩
      · rw [hK (by rw [hx]; simp)] at e
        cases e
      · obtain ⟨c, hc⟩ := mem hb
        rw [(hts _ hc).2.1] at e
        cases e)
  have mod : L2.Mod K mg (hidT s₁.heap H) := ⟨kin, dict hg, ⟨mb, dict hb, hbb⟩, let ⟨mc, h1, h2⟩ := lim; ⟨mc, dict h1, h2⟩⟩
  have TB : ∀ p ∈ ts, TabB (hidT s₁.heap H) mg p.1 p.2 := fun p hp => by
    obtain ⟨ht, nt, C⟩ := hts p hp
    refine ⟨?_, ?_, fun z => ?_⟩
    · obtain ⟨o, us, file, tf, flags, tg, inF, text, tt, e1, r1, r2, r3, rest⟩ := C
      refine ⟨o, us, file, tf, flags, tg, inF, text, tt, hidT_get e1 (free e1 (fun _ _ z => by rw [r2] at z; cases z) fun z => ?_), r1, r2, r3, rest⟩
      rw [r2] at z
      cases z
      simp at r3
    · obtain ⟨bm, ob, b1, b2, b3, b4, b5, b6⟩ := bmain
      refine ⟨bm, ob, b1, b2, fun q => ?_, fun q => ?_, hidT_get b3 (free b3 (fun _ _ z => by rw [b6] at z; cases z) (fun z => by rw [b6] at z; cases z)), b4, b5, b6⟩
      · obtain ⟨o, es, ep, e, hd, _⟩ := hg
        rw [q, e] at b3
        cases b3
        rw [hd] at b6
        cases b6
      · rw [q, ht] at b3
        cases b3
        cases b6
    · obtain ⟨o, es, ep, e, hd, _⟩ := hg
      rw [z, ht] at e
      cases e
      cases hd
  have hok : HOk P w H s₁.heap := fun b x e => by
    rcases look b x e with ⟨rfl, hx⟩ | ⟨hb, rfl⟩
    · rcases hu with rfl | rfl
      · cases hx
      · cases hx
        exact ⟨ha, by rw [List.length_map]; exact hl, vs, _, rv, ha⟩
    · obtain ⟨c, hc⟩ := mem hb
      exact (hts _ hc).1
  have e0 : Env0 P w K mg (hidT s₁.heap H) callerA [] s₁ H := ⟨rfl, mod, fun b o e => of_hidT e, Nat.le_of_eq (hidT_size _ _), trivial, fun b hb => absurd (show b ∈ ([] : List Addr) from hb) (by simp), hok, .of_eq gens⟩
  refine codeAny_mono (run _ H TB e0 (fun p hp => hT _ (List.mem_map_of_mem hp)) hS) fun r s' h => ?_
  match r, h with
  | .error e, h => exact (show False from h).elim
  | .ok .next, h => exact (show False from h).elim
  | .ok .brk, h => exact (show False from h).elim
  | .ok .cont, h => exact (show False from h).elim
  | .ok (.ret v'), h =>
    obtain ⟨v, H', os, bare, un, hok', rr, rfl⟩ := h
    obtain rfl : v' = Value.bool true := rr
    have ends : ∀ t ∈ ts.map (·.2), ∃ more : Array Value, s'.heap.get? t = some { cls := .none, data := .fields more } := fun t ht => by
      obtain ⟨more, e3⟩ := un.tbls t #[] (hT t ht)
      have e4 : s'.heap.get? t = some { cls := .none, data := .fields (#[] ++ more) } := hok' t _ e3
      rw [Array.empty_append] at e4
      exact ⟨more, e4⟩
    have stay : ∀ b o, b ∉ ts.map (·.2) → s₁.heap.get? b = some o → s'.heap.get? b = some o := fun b o nb e => by
      cases q : H b with
      | none => exact un.keep b o e q (fun z => absurd (show b ∈ ([] : List Addr) from z) (by simp)) (by simp)
      | some x =>
        rcases look b x q with ⟨rfl, hx⟩ | ⟨hb, _⟩
        · rcases hu with rfl | rfl
          · cases hx
          · cases hx
            obtain ⟨e1, _⟩ := hok b _ q
            obtain ⟨e2, _⟩ := hok' b _ (un.frzs b _ _ q)
            rw [e] at e1
            cases e1
            exact e2
        · exact absurd hb nb
    refine ⟨rfl, ⟨fun b o e => ?_, fun b o e => ?_⟩, os, bare⟩
    · by_cases nb : b ∈ ts.map (·.2)
      · obtain ⟨c, hc⟩ := mem nb
        obtain ⟨ht, nt, C⟩ := hts _ hc
        obtain ⟨more, e4⟩ := ends b nb
        have ht' : s₁.heap.get? b = some { cls := .none, data := .fields #[] } := ht
        rw [ht'] at e
        cases e
        exact .inr (.inl ⟨(C.tab ht).isCodeTable, rfl, #[], more, rfl, by rw [Array.empty_append]; exact e4⟩)
      · exact .inl (stay b o nb e)
    · by_cases nb : b ∈ ts.map (·.2)
      · obtain ⟨more, e4⟩ := ends b nb
        exact ⟨_, e4⟩
      · exact ⟨o, stay b o nb e⟩
end Tt
set_option maxRecDepth 100000
set_option maxHeartbeats 4000000
namespace Tt
open PySem PySem.Spec PyProof.Rows L2
open LamX (TabB)
theorem all_mk {K : PySem.W.Frag} {h : Heap} {mg : Str → Option Value} {fa jc jP lc lP : Addr} (X : K.In h) (G : h.Ns mainGlobals mg) (hfa : mg "law" = some (.ref fa))
    {C_RoundError : Addr}
    {C_BadNumber : Addr}
    {od_BadNumber an_BadNumber : Option Addr} {sl_BadNumber : Array (Option Value)} {oc_BadNumber kV_BadNumber dc_BadNumber pm_BadNumber cd_BadNumber ct_BadNumber : Value} {f_BadNumber : Addr}
    {nm_BadNumber qn_BadNumber : Str} {N_BadNumber : Addr} {bs_BadNumber bm_BadNumber : List Value} {sn_BadNumber : List Str} {sb_BadNumber : List Value} {ab_BadNumber : Bool} {co_BadNumber : Option Bool} {dd_BadNumber : Option Addr} {m0_BadNumber m1_BadNumber m2_BadNumber m3_BadNumber m5_BadNumber : Option Value}
    {C_BadSkin : Addr}
    {od_BadSkin an_BadSkin : Option Addr} {sl_BadSkin : Array (Option Value)} {oc_BadSkin kV_BadSkin dc_BadSkin pm_BadSkin cd_BadSkin ct_BadSkin : Value} {f_BadSkin : Addr}
    {nm_BadSkin qn_BadSkin : Str} {N_BadSkin : Addr} {bs_BadSkin bm_BadSkin : List Value} {sn_BadSkin : List Str} {sb_BadSkin : List Value} {ab_BadSkin : Bool} {co_BadSkin : Option Bool} {dd_BadSkin : Option Addr} {m0_BadSkin m1_BadSkin m2_BadSkin m3_BadSkin m5_BadSkin : Option Value}
    {od_is_number an_is_number : Option Addr} {sl_is_number : Array (Option Value)} {oc_is_number kV_is_number dc_is_number pm_is_number cd_is_number ct_is_number : Value} {f_is_number : Addr}
    {od_is_tuple an_is_tuple : Option Addr} {sl_is_tuple : Array (Option Value)} {oc_is_tuple kV_is_tuple dc_is_tuple pm_is_tuple cd_is_tuple ct_is_tuple : Value} {f_is_tuple : Addr}
    {od_is_list an_is_list : Option Addr} {sl_is_list : Array (Option Value)} {oc_is_list kV_is_list dc_is_list pm_is_list cd_is_list ct_is_list : Value} {f_is_list : Addr}
    {od_is_row an_is_row : Option Addr} {sl_is_row : Array (Option Value)} {oc_is_row kV_is_row dc_is_row pm_is_row cd_is_row ct_is_row : Value} {f_is_row : Addr}
    {C_Skin : Addr}
    {od_Skin an_Skin : Option Addr} {sl_Skin : Array (Option Value)} {oc_Skin kV_Skin dc_Skin pm_Skin cd_Skin ct_Skin : Value} {f_Skin : Addr}
    {od_check_skin an_check_skin : Option Addr} {sl_check_skin : Array (Option Value)} {oc_check_skin kV_check_skin dc_check_skin pm_check_skin cd_check_skin ct_check_skin : Value} {f_check_skin : Addr}
    {od_end_behind an_end_behind : Option Addr} {sl_end_behind : Array (Option Value)} {oc_end_behind kV_end_behind dc_end_behind pm_end_behind cd_end_behind ct_end_behind : Value} {f_end_behind : Addr}
    {od_least_turn an_least_turn : Option Addr} {sl_least_turn : Array (Option Value)} {oc_least_turn kV_least_turn dc_least_turn pm_least_turn cd_least_turn ct_least_turn : Value} {f_least_turn : Addr}
    {od_rim_from an_rim_from : Option Addr} {sl_rim_from : Array (Option Value)} {oc_rim_from kV_rim_from dc_rim_from pm_rim_from cd_rim_from ct_rim_from : Value} {f_rim_from : Addr}
    {od_rims an_rims : Option Addr} {sl_rims : Array (Option Value)} {oc_rims kV_rims dc_rims pm_rims cd_rims ct_rims : Value} {f_rims : Addr}
    {od_mirrored an_mirrored : Option Addr} {sl_mirrored : Array (Option Value)} {oc_mirrored kV_mirrored dc_mirrored pm_mirrored cd_mirrored ct_mirrored : Value} {f_mirrored : Addr}
    {od_is_renaming an_is_renaming : Option Addr} {sl_is_renaming : Array (Option Value)} {oc_is_renaming kV_is_renaming dc_is_renaming pm_is_renaming cd_is_renaming ct_is_renaming : Value} {f_is_renaming : Addr}
    {od_renamed an_renamed : Option Addr} {sl_renamed : Array (Option Value)} {oc_renamed kV_renamed dc_renamed pm_renamed cd_renamed ct_renamed : Value} {f_renamed : Addr}
    {od_row_read_from an_row_read_from : Option Addr} {sl_row_read_from : Array (Option Value)} {oc_row_read_from kV_row_read_from dc_row_read_from pm_row_read_from cd_row_read_from ct_row_read_from : Value} {f_row_read_from : Addr}
    {od_least_skin an_least_skin : Option Addr} {sl_least_skin : Array (Option Value)} {oc_least_skin kV_least_skin dc_least_skin pm_least_skin cd_least_skin ct_least_skin : Value} {f_least_skin : Addr}
    {od_l_begun an_l_begun : Option Addr} {sl_l_begun : Array (Option Value)} {oc_l_begun kV_l_begun dc_l_begun pm_l_begun cd_l_begun ct_l_begun : Value} {f_l_begun : Addr}
    {od_l_mixed an_l_mixed : Option Addr} {sl_l_mixed : Array (Option Value)} {oc_l_mixed kV_l_mixed dc_l_mixed pm_l_mixed cd_l_mixed ct_l_mixed : Value} {f_l_mixed : Addr}
    {od_l_take an_l_take : Option Addr} {sl_l_take : Array (Option Value)} {oc_l_take kV_l_take dc_l_take pm_l_take cd_l_take ct_l_take : Value} {f_l_take : Addr}
    {od_l_pick an_l_pick : Option Addr} {sl_l_pick : Array (Option Value)} {oc_l_pick kV_l_pick dc_l_pick pm_l_pick cd_l_pick ct_l_pick : Value} {f_l_pick : Addr}
    {od_l_shuffled an_l_shuffled : Option Addr} {sl_l_shuffled : Array (Option Value)} {oc_l_shuffled kV_l_shuffled dc_l_shuffled pm_l_shuffled cd_l_shuffled ct_l_shuffled : Value} {f_l_shuffled : Addr}
    {od_l_caught an_l_caught : Option Addr} {sl_l_caught : Array (Option Value)} {oc_l_caught kV_l_caught dc_l_caught pm_l_caught cd_l_caught ct_l_caught : Value} {f_l_caught : Addr}
    {od_l_number_error an_l_number_error : Option Addr} {sl_l_number_error : Array (Option Value)} {oc_l_number_error kV_l_number_error dc_l_number_error pm_l_number_error cd_l_number_error ct_l_number_error : Value} {f_l_number_error : Addr}
    {od_l_skin_error an_l_skin_error : Option Addr} {sl_l_skin_error : Array (Option Value)} {oc_l_skin_error kV_l_skin_error dc_l_skin_error pm_l_skin_error cd_l_skin_error ct_l_skin_error : Value} {f_l_skin_error : Addr}
    {od_l_mate an_l_mate : Option Addr} {sl_l_mate : Array (Option Value)} {oc_l_mate kV_l_mate dc_l_mate pm_l_mate cd_l_mate ct_l_mate : Value} {f_l_mate : Addr}
    {od_l_turned an_l_turned : Option Addr} {sl_l_turned : Array (Option Value)} {oc_l_turned kV_l_turned dc_l_turned pm_l_turned cd_l_turned ct_l_turned : Value} {f_l_turned : Addr}
    {od_l_row an_l_row : Option Addr} {sl_l_row : Array (Option Value)} {oc_l_row kV_l_row dc_l_row pm_l_row cd_l_row ct_l_row : Value} {f_l_row : Addr}
    {od_l_least_turn an_l_least_turn : Option Addr} {sl_l_least_turn : Array (Option Value)} {oc_l_least_turn kV_l_least_turn dc_l_least_turn pm_l_least_turn cd_l_least_turn ct_l_least_turn : Value} {f_l_least_turn : Addr}
    {od_l_undone an_l_undone : Option Addr} {sl_l_undone : Array (Option Value)} {oc_l_undone kV_l_undone dc_l_undone pm_l_undone cd_l_undone ct_l_undone : Value} {f_l_undone : Addr}
    {od_l_rims an_l_rims : Option Addr} {sl_l_rims : Array (Option Value)} {oc_l_rims kV_l_rims dc_l_rims pm_l_rims cd_l_rims ct_l_rims : Value} {f_l_rims : Addr}
    {od_l_letters an_l_letters : Option Addr} {sl_l_letters : Array (Option Value)} {oc_l_letters kV_l_letters dc_l_letters pm_l_letters cd_l_letters ct_l_letters : Value} {f_l_letters : Addr}
    {od_l_put an_l_put : Option Addr} {sl_l_put : Array (Option Value)} {oc_l_put kV_l_put dc_l_put pm_l_put cd_l_put ct_l_put : Value} {f_l_put : Addr}
    {od_l_named an_l_named : Option Addr} {sl_l_named : Array (Option Value)} {oc_l_named kV_l_named dc_l_named pm_l_named cd_l_named ct_l_named : Value} {f_l_named : Addr}
    {od_l_least an_l_least : Option Addr} {sl_l_least : Array (Option Value)} {oc_l_least kV_l_least dc_l_least pm_l_least cd_l_least ct_l_least : Value} {f_l_least : Addr}
    {od_l_renamings an_l_renamings : Option Addr} {sl_l_renamings : Array (Option Value)} {oc_l_renamings kV_l_renamings dc_l_renamings pm_l_renamings cd_l_renamings ct_l_renamings : Value} {f_l_renamings : Addr}
    {od_l_is_renaming an_l_is_renaming : Option Addr} {sl_l_is_renaming : Array (Option Value)} {oc_l_is_renaming kV_l_is_renaming dc_l_is_renaming pm_l_is_renaming cd_l_is_renaming ct_l_is_renaming : Value} {f_l_is_renaming : Addr}
    {od_l_judged an_l_judged : Option Addr} {sl_l_judged : Array (Option Value)} {oc_l_judged kV_l_judged dc_l_judged pm_l_judged ct_l_judged : Value} {f_l_judged : Addr}
    {od_l_renamed_right an_l_renamed_right : Option Addr} {sl_l_renamed_right : Array (Option Value)} {oc_l_renamed_right kV_l_renamed_right dc_l_renamed_right pm_l_renamed_right cd_l_renamed_right ct_l_renamed_right : Value} {f_l_renamed_right : Addr}
    {od_law an_law : Option Addr} {sl_law : Array (Option Value)} {oc_law kV_law dc_law pm_law ct_law : Value} {f_law : Addr}
    {od_eqM an_eqM : Option Addr} {sl_eqM : Array (Option Value)} {oc_eqM kV_eqM dc_eqM pm_eqM cd_eqM ct_eqM : Value} {f_eqM : Addr}
    (hn0 : PySem.W.specialIn K (.builtin "object.__class__") "__get__" = some (some (.builtin "getset_descriptor.__get__")))
    (ht0 : PySem.W.takesIn K (.builtin "object.__class__") = some true)
    (a_RoundError : PySem.W.nsIn K mainGlobals "RoundError" = some (some (.ref C_RoundError)))
    (k_RoundError : PySem.W.keepIn K (.ref C_RoundError) = true)
    (q_RoundError : PySem.W.excIn K C_RoundError [.type "ValueError", .type "Exception", .type "BaseException", .type "object"] "ValueError.__new__" = true)
    (ty_RoundError : PySem.W.typeIn K (.ref C_RoundError) = some (.type "type"))
    (ga_RoundError : PySem.W.findIn K (.ref C_RoundError) "__getattribute__" = some (some (.builtin "BaseException.__getattribute__")))
    (gg_RoundError : PySem.W.findIn K (.ref C_RoundError) "__getattr__" = some none)
    (ex_RoundError : PySem.W.subIn K (.ref C_RoundError) (.type "BaseException") = some true)
    (hd_RoundError : PySem.W.hasDictIn K C_RoundError = true)
    (ca_RoundError : PySem.W.findIn K (.ref C_RoundError) "__class__" = some (some (.builtin "object.__class__")))
    (mo_RoundError : PySem.W.mroIn K C_RoundError (.type "object") = some true)
    (a_BadNumber : PySem.W.nsIn K mainGlobals "BadNumber" = some (some (.ref C_BadNumber)))
    (x_BadNumber : K.lookup C_BadNumber = some (excClassObj nm_BadNumber qn_BadNumber C_BadNumber N_BadNumber bs_BadNumber bm_BadNumber true sn_BadNumber sb_BadNumber ab_BadNumber co_BadNumber dd_BadNumber m0_BadNumber m1_BadNumber m2_BadNumber m3_BadNumber m5_BadNumber "ValueError.__new__"))
    (rv_BadNumber : PySem.HandSPX.refsVE bm_BadNumber = true)
    (sa_BadNumber : PySem.W.findIn K (.ref C_BadNumber) "__setattr__" = some (some (.builtin "object.__setattr__")))
    (ty_BadNumber : PySem.W.typeIn K (.ref C_BadNumber) = some (.type "type"))
    (kc_BadNumber : PySem.W.keepIn K (.ref C_BadNumber) = true)
    (i_BadNumber : PySem.W.findIn K (.ref C_BadNumber) "__init__" = some (some (.ref f_BadNumber)))
    (t_BadNumber : PySem.W.typeIn K (.ref f_BadNumber) = some (.type "function"))
    (l_BadNumber : K.lookup f_BadNumber = some ⟨oc_BadNumber, od_BadNumber, .func (PySem.W.fnOf "__init__" "BadNumber.__init__" (defArgs s_BadNumber_init) (defBody s_BadNumber_init) (defScope s_BadNumber_init) .none kV_BadNumber dc_BadNumber pm_BadNumber an_BadNumber cd_BadNumber ct_BadNumber), sl_BadNumber⟩)
    (c_BadNumber : PySem.W.codeIn K cd_BadNumber "BadNumber.__init__" = true)
    (k_BadNumber : PySem.W.keepIn K (.ref f_BadNumber) = true)
    (nf_BadNumber : PySem.W.findIn K (.ref C_BadNumber) "part" = some none)
    (ga_BadNumber : PySem.W.findIn K (.ref C_BadNumber) "__getattribute__" = some (some (.builtin "BaseException.__getattribute__")))
    (gg_BadNumber : PySem.W.findIn K (.ref C_BadNumber) "__getattr__" = some none)
    (ex_BadNumber : PySem.W.subIn K (.ref C_BadNumber) (.type "BaseException") = some true)
    (hd_BadNumber : PySem.W.hasDictIn K C_BadNumber = true)
    (ca_BadNumber : PySem.W.findIn K (.ref C_BadNumber) "__class__" = some (some (.builtin "object.__class__")))
    (mo_BadNumber : PySem.W.mroIn K C_BadNumber (.type "object") = some true)
    (a_BadSkin : PySem.W.nsIn K mainGlobals "BadSkin" = some (some (.ref C_BadSkin)))
    (x_BadSkin : K.lookup C_BadSkin = some (excClassObj nm_BadSkin qn_BadSkin C_BadSkin N_BadSkin bs_BadSkin bm_BadSkin true sn_BadSkin sb_BadSkin ab_BadSkin co_BadSkin dd_BadSkin m0_BadSkin m1_BadSkin m2_BadSkin m3_BadSkin m5_BadSkin "ValueError.__new__"))
    (rv_BadSkin : PySem.HandSPX.refsVE bm_BadSkin = true)
    (sa_BadSkin : PySem.W.findIn K (.ref C_BadSkin) "__setattr__" = some (some (.builtin "object.__setattr__")))
    (ty_BadSkin : PySem.W.typeIn K (.ref C_BadSkin) = some (.type "type"))
    (kc_BadSkin : PySem.W.keepIn K (.ref C_BadSkin) = true)
    (i_BadSkin : PySem.W.findIn K (.ref C_BadSkin) "__init__" = some (some (.ref f_BadSkin)))
    (t_BadSkin : PySem.W.typeIn K (.ref f_BadSkin) = some (.type "function"))
    (l_BadSkin : K.lookup f_BadSkin = some ⟨oc_BadSkin, od_BadSkin, .func (PySem.W.fnOf "__init__" "BadSkin.__init__" (defArgs s_BadSkin_init) (defBody s_BadSkin_init) (defScope s_BadSkin_init) .none kV_BadSkin dc_BadSkin pm_BadSkin an_BadSkin cd_BadSkin ct_BadSkin), sl_BadSkin⟩)
    (c_BadSkin : PySem.W.codeIn K cd_BadSkin "BadSkin.__init__" = true)
    (k_BadSkin : PySem.W.keepIn K (.ref f_BadSkin) = true)
    (nf_BadSkin : PySem.W.findIn K (.ref C_BadSkin) "part" = some none)
    (ga_BadSkin : PySem.W.findIn K (.ref C_BadSkin) "__getattribute__" = some (some (.builtin "BaseException.__getattribute__")))
    (gg_BadSkin : PySem.W.findIn K (.ref C_BadSkin) "__getattr__" = some none)
    (ex_BadSkin : PySem.W.subIn K (.ref C_BadSkin) (.type "BaseException") = some true)
    (hd_BadSkin : PySem.W.hasDictIn K C_BadSkin = true)
    (ca_BadSkin : PySem.W.findIn K (.ref C_BadSkin) "__class__" = some (some (.builtin "object.__class__")))
    (mo_BadSkin : PySem.W.mroIn K C_BadSkin (.type "object") = some true)
    (a_is_number : PySem.W.nsIn K mainGlobals "is_number" = some (some (.ref f_is_number)))
    (l_is_number : K.lookup f_is_number = some ⟨oc_is_number, od_is_number, .func (PySem.W.fnOf "is_number" "is_number" (defArgs s_is_number) (defBody s_is_number) (defScope s_is_number) .none kV_is_number dc_is_number pm_is_number an_is_number cd_is_number ct_is_number), sl_is_number⟩)
    (c_is_number : PySem.W.codeIn K cd_is_number "is_number" = true)
    (k_is_number : PySem.W.keepIn K (.ref f_is_number) = true)
    (a_is_tuple : PySem.W.nsIn K mainGlobals "is_tuple" = some (some (.ref f_is_tuple)))
    (l_is_tuple : K.lookup f_is_tuple = some ⟨oc_is_tuple, od_is_tuple, .func (PySem.W.fnOf "is_tuple" "is_tuple" (defArgs s_is_tuple) (defBody s_is_tuple) (defScope s_is_tuple) .none kV_is_tuple dc_is_tuple pm_is_tuple an_is_tuple cd_is_tuple ct_is_tuple), sl_is_tuple⟩)
    (c_is_tuple : PySem.W.codeIn K cd_is_tuple "is_tuple" = true)
    (k_is_tuple : PySem.W.keepIn K (.ref f_is_tuple) = true)
    (a_is_list : PySem.W.nsIn K mainGlobals "is_list" = some (some (.ref f_is_list)))
    (l_is_list : K.lookup f_is_list = some ⟨oc_is_list, od_is_list, .func (PySem.W.fnOf "is_list" "is_list" (defArgs s_is_list) (defBody s_is_list) (defScope s_is_list) .none kV_is_list dc_is_list pm_is_list an_is_list cd_is_list ct_is_list), sl_is_list⟩)
    (c_is_list : PySem.W.codeIn K cd_is_list "is_list" = true)
    (k_is_list : PySem.W.keepIn K (.ref f_is_list) = true)
    (a_is_row : PySem.W.nsIn K mainGlobals "is_row" = some (some (.ref f_is_row)))
    (l_is_row : K.lookup f_is_row = some ⟨oc_is_row, od_is_row, .func (PySem.W.fnOf "is_row" "is_row" (defArgs s_is_row) (defBody s_is_row) (defScope s_is_row) .none kV_is_row dc_is_row pm_is_row an_is_row cd_is_row ct_is_row), sl_is_row⟩)
    (c_is_row : PySem.W.codeIn K cd_is_row "is_row" = true)
    (k_is_row : PySem.W.keepIn K (.ref f_is_row) = true)
    (a_Skin : PySem.W.nsIn K mainGlobals "Skin" = some (some (.ref C_Skin)))
    (i_Skin : PySem.W.findIn K (.ref C_Skin) "__init__" = some (some (.ref f_Skin)))
    (fn_Skin : PySem.W.isFn K (.ref f_Skin) = true)
    (l_Skin : K.lookup f_Skin = some ⟨oc_Skin, od_Skin, .func (PySem.W.fnOf "__init__" "Skin.__init__" (defArgs s_Skin_init) (defBody s_Skin_init) (defScope s_Skin_init) .none kV_Skin dc_Skin pm_Skin an_Skin cd_Skin ct_Skin), sl_Skin⟩)
    (c_Skin : PySem.W.codeIn K cd_Skin "Skin.__init__" = true)
    (k_Skin : PySem.W.keepIn K (.ref f_Skin) = true)
    (pg_Skin : PySem.W.plainGet K C_Skin Str.empty = true)
    (hd_Skin : PySem.W.hasDictIn K C_Skin = true)
    (po_Skin : PySem.W.plainOver K C_Skin = true)
    (sa_Skin : PySem.W.findIn K (.ref C_Skin) "__setattr__" = some (some (.builtin "object.__setattr__")))
    (mk_Skin : PySem.W.makesIn K C_Skin = true)
    (kc_Skin : PySem.W.keepIn K (.ref C_Skin) = true)
    (ca_Skin : PySem.W.findIn K (.ref C_Skin) "__class__" = some (some (.builtin "object.__class__")))
    (mo_Skin : PySem.W.mroIn K C_Skin (.type "object") = some true)
    (n_Skin_row : PySem.W.findIn K (.ref C_Skin) "row" = some none)
    (n_Skin_bands : PySem.W.findIn K (.ref C_Skin) "bands" = some none)
    (n_Skin_places : PySem.W.findIn K (.ref C_Skin) "places" = some none)
    (a_check_skin : PySem.W.nsIn K mainGlobals "check_skin" = some (some (.ref f_check_skin)))
    (l_check_skin : K.lookup f_check_skin = some ⟨oc_check_skin, od_check_skin, .func (PySem.W.fnOf "check_skin" "check_skin" (defArgs s_check_skin) (defBody s_check_skin) (defScope s_check_skin) .none kV_check_skin dc_check_skin pm_check_skin an_check_skin cd_check_skin ct_check_skin), sl_check_skin⟩)
    (c_check_skin : PySem.W.codeIn K cd_check_skin "check_skin" = true)
    (k_check_skin : PySem.W.keepIn K (.ref f_check_skin) = true)
    (a_end_behind : PySem.W.nsIn K mainGlobals "end_behind" = some (some (.ref f_end_behind)))
    (l_end_behind : K.lookup f_end_behind = some ⟨oc_end_behind, od_end_behind, .func (PySem.W.fnOf "end_behind" "end_behind" (defArgs s_end_behind) (defBody s_end_behind) (defScope s_end_behind) .none kV_end_behind dc_end_behind pm_end_behind an_end_behind cd_end_behind ct_end_behind), sl_end_behind⟩)
    (c_end_behind : PySem.W.codeIn K cd_end_behind "end_behind" = true)
    (k_end_behind : PySem.W.keepIn K (.ref f_end_behind) = true)
    (a_least_turn : PySem.W.nsIn K mainGlobals "least_turn" = some (some (.ref f_least_turn)))
    (l_least_turn : K.lookup f_least_turn = some ⟨oc_least_turn, od_least_turn, .func (PySem.W.fnOf "least_turn" "least_turn" (defArgs s_least_turn) (defBody s_least_turn) (defScope s_least_turn) .none kV_least_turn dc_least_turn pm_least_turn an_least_turn cd_least_turn ct_least_turn), sl_least_turn⟩)
    (c_least_turn : PySem.W.codeIn K cd_least_turn "least_turn" = true)
    (k_least_turn : PySem.W.keepIn K (.ref f_least_turn) = true)
    (a_rim_from : PySem.W.nsIn K mainGlobals "_rim_from" = some (some (.ref f_rim_from)))
    (l_rim_from : K.lookup f_rim_from = some ⟨oc_rim_from, od_rim_from, .func (PySem.W.fnOf "_rim_from" "_rim_from" (defArgs s_rim_from) (defBody s_rim_from) (defScope s_rim_from) .none kV_rim_from dc_rim_from pm_rim_from an_rim_from cd_rim_from ct_rim_from), sl_rim_from⟩)
    (c_rim_from : PySem.W.codeIn K cd_rim_from "_rim_from" = true)
    (k_rim_from : PySem.W.keepIn K (.ref f_rim_from) = true)
    (a_rims : PySem.W.nsIn K mainGlobals "rims" = some (some (.ref f_rims)))
    (l_rims : K.lookup f_rims = some ⟨oc_rims, od_rims, .func (PySem.W.fnOf "rims" "rims" (defArgs s_rims) (defBody s_rims) (defScope s_rims) .none kV_rims dc_rims pm_rims an_rims cd_rims ct_rims), sl_rims⟩)
    (c_rims : PySem.W.codeIn K cd_rims "rims" = true)
    (k_rims : PySem.W.keepIn K (.ref f_rims) = true)
    (a_mirrored : PySem.W.nsIn K mainGlobals "mirrored" = some (some (.ref f_mirrored)))
    (l_mirrored : K.lookup f_mirrored = some ⟨oc_mirrored, od_mirrored, .func (PySem.W.fnOf "mirrored" "mirrored" (defArgs s_mirrored) (defBody s_mirrored) (defScope s_mirrored) .none kV_mirrored dc_mirrored pm_mirrored an_mirrored cd_mirrored ct_mirrored), sl_mirrored⟩)
    (c_mirrored : PySem.W.codeIn K cd_mirrored "mirrored" = true)
    (k_mirrored : PySem.W.keepIn K (.ref f_mirrored) = true)
    (a_is_renaming : PySem.W.nsIn K mainGlobals "is_renaming" = some (some (.ref f_is_renaming)))
    (l_is_renaming : K.lookup f_is_renaming = some ⟨oc_is_renaming, od_is_renaming, .func (PySem.W.fnOf "is_renaming" "is_renaming" (defArgs s_is_renaming) (defBody s_is_renaming) (defScope s_is_renaming) .none kV_is_renaming dc_is_renaming pm_is_renaming an_is_renaming cd_is_renaming ct_is_renaming), sl_is_renaming⟩)
    (c_is_renaming : PySem.W.codeIn K cd_is_renaming "is_renaming" = true)
    (k_is_renaming : PySem.W.keepIn K (.ref f_is_renaming) = true)
    (a_renamed : PySem.W.nsIn K mainGlobals "renamed" = some (some (.ref f_renamed)))
    (l_renamed : K.lookup f_renamed = some ⟨oc_renamed, od_renamed, .func (PySem.W.fnOf "renamed" "renamed" (defArgs s_renamed) (defBody s_renamed) (defScope s_renamed) .none kV_renamed dc_renamed pm_renamed an_renamed cd_renamed ct_renamed), sl_renamed⟩)
    (c_renamed : PySem.W.codeIn K cd_renamed "renamed" = true)
    (k_renamed : PySem.W.keepIn K (.ref f_renamed) = true)
    (a_row_read_from : PySem.W.nsIn K mainGlobals "_row_read_from" = some (some (.ref f_row_read_from)))
    (l_row_read_from : K.lookup f_row_read_from = some ⟨oc_row_read_from, od_row_read_from, .func (PySem.W.fnOf "_row_read_from" "_row_read_from" (defArgs s_row_read_from) (defBody s_row_read_from) (defScope s_row_read_from) .none kV_row_read_from dc_row_read_from pm_row_read_from an_row_read_from cd_row_read_from ct_row_read_from), sl_row_read_from⟩)
    (c_row_read_from : PySem.W.codeIn K cd_row_read_from "_row_read_from" = true)
    (k_row_read_from : PySem.W.keepIn K (.ref f_row_read_from) = true)
    (a_least_skin : PySem.W.nsIn K mainGlobals "least_skin" = some (some (.ref f_least_skin)))
    (l_least_skin : K.lookup f_least_skin = some ⟨oc_least_skin, od_least_skin, .func (PySem.W.fnOf "least_skin" "least_skin" (defArgs s_least_skin) (defBody s_least_skin) (defScope s_least_skin) .none kV_least_skin dc_least_skin pm_least_skin an_least_skin cd_least_skin ct_least_skin), sl_least_skin⟩)
    (c_least_skin : PySem.W.codeIn K cd_least_skin "least_skin" = true)
    (k_least_skin : PySem.W.keepIn K (.ref f_least_skin) = true)
    (a_l_begun : PySem.W.nsIn K mainGlobals "_law_begun" = some (some (.ref f_l_begun)))
    (l_l_begun : K.lookup f_l_begun = some ⟨oc_l_begun, od_l_begun, .func (PySem.W.fnOf "_law_begun" "_law_begun" (defArgs s_l_begun) (defBody s_l_begun) (defScope s_l_begun) .none kV_l_begun dc_l_begun pm_l_begun an_l_begun cd_l_begun ct_l_begun), sl_l_begun⟩)
    (c_l_begun : PySem.W.codeIn K cd_l_begun "_law_begun" = true)
    (k_l_begun : PySem.W.keepIn K (.ref f_l_begun) = true)
    (a_l_mixed : PySem.W.nsIn K mainGlobals "_law_mixed" = some (some (.ref f_l_mixed)))
    (l_l_mixed : K.lookup f_l_mixed = some ⟨oc_l_mixed, od_l_mixed, .func (PySem.W.fnOf "_law_mixed" "_law_mixed" (defArgs s_l_mixed) (defBody s_l_mixed) (defScope s_l_mixed) .none kV_l_mixed dc_l_mixed pm_l_mixed an_l_mixed cd_l_mixed ct_l_mixed), sl_l_mixed⟩)
    (c_l_mixed : PySem.W.codeIn K cd_l_mixed "_law_mixed" = true)
    (k_l_mixed : PySem.W.keepIn K (.ref f_l_mixed) = true)
    (a_l_take : PySem.W.nsIn K mainGlobals "_law_take" = some (some (.ref f_l_take)))
    (l_l_take : K.lookup f_l_take = some ⟨oc_l_take, od_l_take, .func (PySem.W.fnOf "_law_take" "_law_take" (defArgs s_l_take) (defBody s_l_take) (defScope s_l_take) .none kV_l_take dc_l_take pm_l_take an_l_take cd_l_take ct_l_take), sl_l_take⟩)
    (c_l_take : PySem.W.codeIn K cd_l_take "_law_take" = true)
    (k_l_take : PySem.W.keepIn K (.ref f_l_take) = true)
    (a_l_pick : PySem.W.nsIn K mainGlobals "_law_pick" = some (some (.ref f_l_pick)))
    (l_l_pick : K.lookup f_l_pick = some ⟨oc_l_pick, od_l_pick, .func (PySem.W.fnOf "_law_pick" "_law_pick" (defArgs s_l_pick) (defBody s_l_pick) (defScope s_l_pick) .none kV_l_pick dc_l_pick pm_l_pick an_l_pick cd_l_pick ct_l_pick), sl_l_pick⟩)
    (c_l_pick : PySem.W.codeIn K cd_l_pick "_law_pick" = true)
    (k_l_pick : PySem.W.keepIn K (.ref f_l_pick) = true)
    (a_l_shuffled : PySem.W.nsIn K mainGlobals "_law_shuffled" = some (some (.ref f_l_shuffled)))
    (l_l_shuffled : K.lookup f_l_shuffled = some ⟨oc_l_shuffled, od_l_shuffled, .func (PySem.W.fnOf "_law_shuffled" "_law_shuffled" (defArgs s_l_shuffled) (defBody s_l_shuffled) (defScope s_l_shuffled) .none kV_l_shuffled dc_l_shuffled pm_l_shuffled an_l_shuffled cd_l_shuffled ct_l_shuffled), sl_l_shuffled⟩)
    (c_l_shuffled : PySem.W.codeIn K cd_l_shuffled "_law_shuffled" = true)
    (k_l_shuffled : PySem.W.keepIn K (.ref f_l_shuffled) = true)
    (a_l_caught : PySem.W.nsIn K mainGlobals "_law_caught" = some (some (.ref f_l_caught)))
    (l_l_caught : K.lookup f_l_caught = some ⟨oc_l_caught, od_l_caught, .func (PySem.W.fnOf "_law_caught" "_law_caught" (defArgs s_l_caught) (defBody s_l_caught) (defScope s_l_caught) .none kV_l_caught dc_l_caught pm_l_caught an_l_caught cd_l_caught ct_l_caught), sl_l_caught⟩)
    (c_l_caught : PySem.W.codeIn K cd_l_caught "_law_caught" = true)
    (k_l_caught : PySem.W.keepIn K (.ref f_l_caught) = true)
    (a_l_number_error : PySem.W.nsIn K mainGlobals "_law_number_error" = some (some (.ref f_l_number_error)))
    (l_l_number_error : K.lookup f_l_number_error = some ⟨oc_l_number_error, od_l_number_error, .func (PySem.W.fnOf "_law_number_error" "_law_number_error" (defArgs s_l_number_error) (defBody s_l_number_error) (defScope s_l_number_error) .none kV_l_number_error dc_l_number_error pm_l_number_error an_l_number_error cd_l_number_error ct_l_number_error), sl_l_number_error⟩)
    (c_l_number_error : PySem.W.codeIn K cd_l_number_error "_law_number_error" = true)
    (k_l_number_error : PySem.W.keepIn K (.ref f_l_number_error) = true)
    (a_l_skin_error : PySem.W.nsIn K mainGlobals "_law_skin_error" = some (some (.ref f_l_skin_error)))
    (l_l_skin_error : K.lookup f_l_skin_error = some ⟨oc_l_skin_error, od_l_skin_error, .func (PySem.W.fnOf "_law_skin_error" "_law_skin_error" (defArgs s_l_skin_error) (defBody s_l_skin_error) (defScope s_l_skin_error) .none kV_l_skin_error dc_l_skin_error pm_l_skin_error an_l_skin_error cd_l_skin_error ct_l_skin_error), sl_l_skin_error⟩)
    (c_l_skin_error : PySem.W.codeIn K cd_l_skin_error "_law_skin_error" = true)
    (k_l_skin_error : PySem.W.keepIn K (.ref f_l_skin_error) = true)
    (a_l_mate : PySem.W.nsIn K mainGlobals "_law_mate" = some (some (.ref f_l_mate)))
    (l_l_mate : K.lookup f_l_mate = some ⟨oc_l_mate, od_l_mate, .func (PySem.W.fnOf "_law_mate" "_law_mate" (defArgs s_l_mate) (defBody s_l_mate) (defScope s_l_mate) .none kV_l_mate dc_l_mate pm_l_mate an_l_mate cd_l_mate ct_l_mate), sl_l_mate⟩)
    (c_l_mate : PySem.W.codeIn K cd_l_mate "_law_mate" = true)
    (k_l_mate : PySem.W.keepIn K (.ref f_l_mate) = true)
    (a_l_turned : PySem.W.nsIn K mainGlobals "_law_turned" = some (some (.ref f_l_turned)))
    (l_l_turned : K.lookup f_l_turned = some ⟨oc_l_turned, od_l_turned, .func (PySem.W.fnOf "_law_turned" "_law_turned" (defArgs s_l_turned) (defBody s_l_turned) (defScope s_l_turned) .none kV_l_turned dc_l_turned pm_l_turned an_l_turned cd_l_turned ct_l_turned), sl_l_turned⟩)
    (c_l_turned : PySem.W.codeIn K cd_l_turned "_law_turned" = true)
    (k_l_turned : PySem.W.keepIn K (.ref f_l_turned) = true)
    (a_l_row : PySem.W.nsIn K mainGlobals "_law_row" = some (some (.ref f_l_row)))
    (l_l_row : K.lookup f_l_row = some ⟨oc_l_row, od_l_row, .func (PySem.W.fnOf "_law_row" "_law_row" (defArgs s_l_row) (defBody s_l_row) (defScope s_l_row) .none kV_l_row dc_l_row pm_l_row an_l_row cd_l_row ct_l_row), sl_l_row⟩)
    (c_l_row : PySem.W.codeIn K cd_l_row "_law_row" = true)
    (k_l_row : PySem.W.keepIn K (.ref f_l_row) = true)
    (a_l_least_turn : PySem.W.nsIn K mainGlobals "_law_least_turn" = some (some (.ref f_l_least_turn)))
    (l_l_least_turn : K.lookup f_l_least_turn = some ⟨oc_l_least_turn, od_l_least_turn, .func (PySem.W.fnOf "_law_least_turn" "_law_least_turn" (defArgs s_l_least_turn) (defBody s_l_least_turn) (defScope s_l_least_turn) .none kV_l_least_turn dc_l_least_turn pm_l_least_turn an_l_least_turn cd_l_least_turn ct_l_least_turn), sl_l_least_turn⟩)
    (c_l_least_turn : PySem.W.codeIn K cd_l_least_turn "_law_least_turn" = true)
    (k_l_least_turn : PySem.W.keepIn K (.ref f_l_least_turn) = true)
    (a_l_undone : PySem.W.nsIn K mainGlobals "_law_undone" = some (some (.ref f_l_undone)))
    (l_l_undone : K.lookup f_l_undone = some ⟨oc_l_undone, od_l_undone, .func (PySem.W.fnOf "_law_undone" "_law_undone" (defArgs s_l_undone) (defBody s_l_undone) (defScope s_l_undone) .none kV_l_undone dc_l_undone pm_l_undone an_l_undone cd_l_undone ct_l_undone), sl_l_undone⟩)
    (c_l_undone : PySem.W.codeIn K cd_l_undone "_law_undone" = true)
    (k_l_undone : PySem.W.keepIn K (.ref f_l_undone) = true)
    (a_l_rims : PySem.W.nsIn K mainGlobals "_law_rims" = some (some (.ref f_l_rims)))
    (l_l_rims : K.lookup f_l_rims = some ⟨oc_l_rims, od_l_rims, .func (PySem.W.fnOf "_law_rims" "_law_rims" (defArgs s_l_rims) (defBody s_l_rims) (defScope s_l_rims) .none kV_l_rims dc_l_rims pm_l_rims an_l_rims cd_l_rims ct_l_rims), sl_l_rims⟩)
    (c_l_rims : PySem.W.codeIn K cd_l_rims "_law_rims" = true)
    (k_l_rims : PySem.W.keepIn K (.ref f_l_rims) = true)
    (a_l_letters : PySem.W.nsIn K mainGlobals "_law_letters" = some (some (.ref f_l_letters)))
    (l_l_letters : K.lookup f_l_letters = some ⟨oc_l_letters, od_l_letters, .func (PySem.W.fnOf "_law_letters" "_law_letters" (defArgs s_l_letters) (defBody s_l_letters) (defScope s_l_letters) .none kV_l_letters dc_l_letters pm_l_letters an_l_letters cd_l_letters ct_l_letters), sl_l_letters⟩)
    (c_l_letters : PySem.W.codeIn K cd_l_letters "_law_letters" = true)
    (k_l_letters : PySem.W.keepIn K (.ref f_l_letters) = true)
    (a_l_put : PySem.W.nsIn K mainGlobals "_law_put" = some (some (.ref f_l_put)))
    (l_l_put : K.lookup f_l_put = some ⟨oc_l_put, od_l_put, .func (PySem.W.fnOf "_law_put" "_law_put" (defArgs s_l_put) (defBody s_l_put) (defScope s_l_put) .none kV_l_put dc_l_put pm_l_put an_l_put cd_l_put ct_l_put), sl_l_put⟩)
    (c_l_put : PySem.W.codeIn K cd_l_put "_law_put" = true)
    (k_l_put : PySem.W.keepIn K (.ref f_l_put) = true)
    (a_l_named : PySem.W.nsIn K mainGlobals "_law_named" = some (some (.ref f_l_named)))
    (l_l_named : K.lookup f_l_named = some ⟨oc_l_named, od_l_named, .func (PySem.W.fnOf "_law_named" "_law_named" (defArgs s_l_named) (defBody s_l_named) (defScope s_l_named) .none kV_l_named dc_l_named pm_l_named an_l_named cd_l_named ct_l_named), sl_l_named⟩)
    (c_l_named : PySem.W.codeIn K cd_l_named "_law_named" = true)
    (k_l_named : PySem.W.keepIn K (.ref f_l_named) = true)
    (a_l_least : PySem.W.nsIn K mainGlobals "_law_least" = some (some (.ref f_l_least)))
    (l_l_least : K.lookup f_l_least = some ⟨oc_l_least, od_l_least, .func (PySem.W.fnOf "_law_least" "_law_least" (defArgs s_l_least) (defBody s_l_least) (defScope s_l_least) .none kV_l_least dc_l_least pm_l_least an_l_least cd_l_least ct_l_least), sl_l_least⟩)
    (c_l_least : PySem.W.codeIn K cd_l_least "_law_least" = true)
    (k_l_least : PySem.W.keepIn K (.ref f_l_least) = true)
    (a_l_renamings : PySem.W.nsIn K mainGlobals "_law_renamings" = some (some (.ref f_l_renamings)))
    (l_l_renamings : K.lookup f_l_renamings = some ⟨oc_l_renamings, od_l_renamings, .func (PySem.W.fnOf "_law_renamings" "_law_renamings" (defArgs s_l_renamings) (defBody s_l_renamings) (defScope s_l_renamings) .none kV_l_renamings dc_l_renamings pm_l_renamings an_l_renamings cd_l_renamings ct_l_renamings), sl_l_renamings⟩)
    (c_l_renamings : PySem.W.codeIn K cd_l_renamings "_law_renamings" = true)
    (k_l_renamings : PySem.W.keepIn K (.ref f_l_renamings) = true)
    (a_l_is_renaming : PySem.W.nsIn K mainGlobals "_law_is_renaming" = some (some (.ref f_l_is_renaming)))
    (l_l_is_renaming : K.lookup f_l_is_renaming = some ⟨oc_l_is_renaming, od_l_is_renaming, .func (PySem.W.fnOf "_law_is_renaming" "_law_is_renaming" (defArgs s_l_is_renaming) (defBody s_l_is_renaming) (defScope s_l_is_renaming) .none kV_l_is_renaming dc_l_is_renaming pm_l_is_renaming an_l_is_renaming cd_l_is_renaming ct_l_is_renaming), sl_l_is_renaming⟩)
    (c_l_is_renaming : PySem.W.codeIn K cd_l_is_renaming "_law_is_renaming" = true)
    (k_l_is_renaming : PySem.W.keepIn K (.ref f_l_is_renaming) = true)
    (a_l_judged : PySem.W.nsIn K mainGlobals "_law_judged" = some (some (.ref f_l_judged)))
    (l_l_judged : K.lookup f_l_judged = some ⟨oc_l_judged, od_l_judged, .func (PySem.W.fnOf "_law_judged" "_law_judged" (defArgs s_l_judged) (defBody s_l_judged) (defScope s_l_judged) .none kV_l_judged dc_l_judged pm_l_judged an_l_judged (.ref jc) ct_l_judged), sl_l_judged⟩)
    (c_l_judged : PySem.W.codeIn K (.ref jc) "_law_judged" = true)
    (k_l_judged : PySem.W.keepIn K (.ref f_l_judged) = true)
    (a_l_renamed_right : PySem.W.nsIn K mainGlobals "_law_renamed_right" = some (some (.ref f_l_renamed_right)))
    (l_l_renamed_right : K.lookup f_l_renamed_right = some ⟨oc_l_renamed_right, od_l_renamed_right, .func (PySem.W.fnOf "_law_renamed_right" "_law_renamed_right" (defArgs s_l_renamed_right) (defBody s_l_renamed_right) (defScope s_l_renamed_right) .none kV_l_renamed_right dc_l_renamed_right pm_l_renamed_right an_l_renamed_right cd_l_renamed_right ct_l_renamed_right), sl_l_renamed_right⟩)
    (c_l_renamed_right : PySem.W.codeIn K cd_l_renamed_right "_law_renamed_right" = true)
    (k_l_renamed_right : PySem.W.keepIn K (.ref f_l_renamed_right) = true)
    (a_law : PySem.W.nsIn K mainGlobals "law" = some (some (.ref f_law)))
    (l_law : K.lookup f_law = some ⟨oc_law, od_law, .func (PySem.W.fnOf "law" "law" (defArgs s_law) (defBody s_law) (defScope s_law) .none kV_law dc_law pm_law an_law (.ref lc) ct_law), sl_law⟩)
    (c_law : PySem.W.codeIn K (.ref lc) "law" = true)
    (k_law : PySem.W.keepIn K (.ref f_law) = true)
    (zabs : PySem.W.nsIn K mainGlobals "abs" = some none)
    (zall : PySem.W.nsIn K mainGlobals "all" = some none)
    (zbool : PySem.W.nsIn K mainGlobals "bool" = some none)
    (zint : PySem.W.nsIn K mainGlobals "int" = some none)
    (zisinstance : PySem.W.nsIn K mainGlobals "isinstance" = some none)
    (zlen : PySem.W.nsIn K mainGlobals "len" = some none)
    (zlist : PySem.W.nsIn K mainGlobals "list" = some none)
    (zmin : PySem.W.nsIn K mainGlobals "min" = some none)
    (zrange : PySem.W.nsIn K mainGlobals "range" = some none)
    (zrepr : PySem.W.nsIn K mainGlobals "repr" = some none)
    (zsorted : PySem.W.nsIn K mainGlobals "sorted" = some none)
    (ztuple : PySem.W.nsIn K mainGlobals "tuple" = some none)
    (ztype : PySem.W.nsIn K mainGlobals "type" = some none)
    (kSS : PySem.W.kitOne K (.ref C_Skin) (.ref C_Skin) = some true)
    (kST : PySem.W.kitOne K (.type "tuple") (.ref C_Skin) = some false)
    (kSN : PySem.W.kitOne K (.type "NoneType") (.ref C_Skin) = some false)
    (kSL : PySem.W.kitOne K (.type "list") (.ref C_Skin) = some false)
    (kSI : PySem.W.kitOne K (.type "int") (.ref C_Skin) = some false)
    (kSkSk : PySem.W.kitOne K (.ref C_BadSkin) (.ref C_BadSkin) = some true)
    (kSY : PySem.W.kitOne K (.type "str") (.ref C_Skin) = some false)
    (sSR : PySem.W.subIn K (.ref C_BadSkin) (.ref C_RoundError) = some true)
    (kNN : PySem.W.kitOne K (.ref C_BadNumber) (.ref C_BadNumber) = some true)
    (sNR : PySem.W.subIn K (.ref C_BadNumber) (.ref C_RoundError) = some true)
    (kNoL : PySem.W.kitOne K (.type "NoneType") (.type "list") = some false)
    (kInL : PySem.W.kitOne K (.type "int") (.type "list") = some false)
    (kStL : PySem.W.kitOne K (.type "str") (.type "list") = some false)
    (kDiL : PySem.W.kitOne K (.type "dict") (.type "list") = some false)
    (kTuL : PySem.W.kitOne K (.type "tuple") (.type "list") = some false)
    (kNoT : PySem.W.kitOne K (.type "NoneType") (.type "tuple") = some false)
    (kInT : PySem.W.kitOne K (.type "int") (.type "tuple") = some false)
    (kStT : PySem.W.kitOne K (.type "str") (.type "tuple") = some false)
    (kDiT : PySem.W.kitOne K (.type "dict") (.type "tuple") = some false)
    (kBoI : PySem.W.kitOne K (.type "bool") (.type "int") = some true)
    (kNoI : PySem.W.kitOne K (.type "NoneType") (.type "int") = some false)
    (kStI : PySem.W.kitOne K (.type "str") (.type "int") = some false)
    (kTuI : PySem.W.kitOne K (.type "tuple") (.type "int") = some false)
    (kLiI : PySem.W.kitOne K (.type "list") (.type "int") = some false)
    (kInB : PySem.W.kitOne K (.type "int") (.type "bool") = some false)
    (i_eqM : PySem.W.findIn K (.ref C_Skin) "__eq__" = some (some (.ref f_eqM)))
    (fn_eqM : PySem.W.isFn K (.ref f_eqM) = true)
    (l_eqM : K.lookup f_eqM = some ⟨oc_eqM, od_eqM, .func (PySem.W.fnOf "__eq__" "Skin.__eq__" (defArgs s_Skin_eq) (defBody s_Skin_eq) (defScope s_Skin_eq) .none kV_eqM dc_eqM pm_eqM an_eqM cd_eqM ct_eqM), sl_eqM⟩)
    (c_eqM : PySem.W.codeIn K cd_eqM "Skin.__eq__" = true)
    (k_eqM : PySem.W.keepIn K (.ref f_eqM) = true)
    (neO : PySem.W.findIn K (.ref C_Skin) "__ne__" = some (some (.builtin "object.__ne__")))
    (tgj : h.get? jP = some { cls := .none, data := .fields #[] }) (tcj : PySem.W.CodeHd h jc jP) (njj : K.lookup jP = none) (tgl : h.get? lP = some { cls := .none, data := .fields #[] }) (tcl : PySem.W.CodeHd h lc lP) (njl : K.lookup lP = none) (ne : jP ≠ lP) :
    ∃ T : Txt K mg, fa = T.law.a ∧ (h.get? T.jP = some { cls := .none, data := .fields #[] } ∧ K.lookup T.jP = none ∧ PySem.W.CodeHd h T.jc T.jP) ∧ (h.get? T.lP = some { cls := .none, data := .fields #[] } ∧ K.lookup T.lP = none ∧ PySem.W.CodeHd h T.lc T.lP) := by
  have no_Skin : ∀ f ∈ (["row", "bands", "places"] : List Str), NoAttr K C_Skin f := fun f hf => by
      simp only [List.mem_cons, List.not_mem_nil, or_false] at hf
      rcases hf with rfl | rfl | rfl
      · exact n_Skin_row
      · exact n_Skin_bands
      · exact n_Skin_places
  have e := hfa.symm.trans (PySem.W.mg_of X G a_law)
  cases e
  refine ⟨{
    RoundError := ⟨C_RoundError, PySem.W.mg_of X G a_RoundError, k_RoundError, q_RoundError, ty_RoundError, ⟨ga_RoundError, gg_RoundError, ex_RoundError, hd_RoundError, ca_RoundError, hn0, ht0, mo_RoundError⟩⟩,
    BadNumber := ⟨C_BadNumber, f_BadNumber, _, PySem.W.mg_of X G a_BadNumber, ⟨⟨_, _, _, _, _, _, _, _, _, _, _, _, _, _, _, x_BadNumber, rv_BadNumber⟩, sa_BadNumber, ex_BadNumber, ty_BadNumber, kc_BadNumber⟩, i_BadNumber, t_BadNumber, fun_mk (st := s_BadNumber_init) l_BadNumber c_BadNumber k_BadNumber, (fun_mk (st := s_BadNumber_init) l_BadNumber c_BadNumber k_BadNumber).binds (ps := ["self", "part"]) (fun _ _ _ _ _ _ us hl => match us, hl with | [_, _], _ => rfl), nf_BadNumber, ⟨ga_BadNumber, gg_BadNumber, ex_BadNumber, hd_BadNumber⟩, ⟨ga_BadNumber, gg_BadNumber, ex_BadNumber, hd_BadNumber, ca_BadNumber, hn0, ht0, mo_BadNumber⟩⟩,
    BadSkin := ⟨C_BadSkin, f_BadSkin, _, PySem.W.mg_of X G a_BadSkin, ⟨⟨_, _, _, _, _, _, _, _, _, _, _, _, _, _, _, x_BadSkin, rv_BadSkin⟩, sa_BadSkin, ex_BadSkin, ty_BadSkin, kc_BadSkin⟩, i_BadSkin, t_BadSkin, fun_mk (st := s_BadSkin_init) l_BadSkin c_BadSkin k_BadSkin, (fun_mk (st := s_BadSkin_init) l_BadSkin c_BadSkin k_BadSkin).binds (ps := ["self", "part"]) (fun _ _ _ _ _ _ us hl => match us, hl with | [_, _], _ => rfl), nf_BadSkin, ⟨ga_BadSkin, gg_BadSkin, ex_BadSkin, hd_BadSkin⟩, ⟨ga_BadSkin, gg_BadSkin, ex_BadSkin, hd_BadSkin, ca_BadSkin, hn0, ht0, mo_BadSkin⟩⟩,
    is_number := ⟨f_is_number, _, fun_mk (st := s_is_number) l_is_number c_is_number k_is_number, PySem.W.mg_of X G a_is_number, (fun_mk (st := s_is_number) l_is_number c_is_number k_is_number).binds (ps := ["thing"]) (fun _ _ _ _ _ _ us hl => match us, hl with | [_], _ => rfl)⟩,
    is_tuple := ⟨f_is_tuple, _, fun_mk (st := s_is_tuple) l_is_tuple c_is_tuple k_is_tuple, PySem.W.mg_of X G a_is_tuple, (fun_mk (st := s_is_tuple) l_is_tuple c_is_tuple k_is_tuple).binds (ps := ["thing"]) (fun _ _ _ _ _ _ us hl => match us, hl with | [_], _ => rfl)⟩,
    is_list := ⟨f_is_list, _, fun_mk (st := s_is_list) l_is_list c_is_list k_is_list, PySem.W.mg_of X G a_is_list, (fun_mk (st := s_is_list) l_is_list c_is_list k_is_list).binds (ps := ["thing"]) (fun _ _ _ _ _ _ us hl => match us, hl with | [_], _ => rfl)⟩,
    is_row := ⟨f_is_row, _, fun_mk (st := s_is_row) l_is_row c_is_row k_is_row, PySem.W.mg_of X G a_is_row, (fun_mk (st := s_is_row) l_is_row c_is_row k_is_row).binds (ps := ["row"]) (fun _ _ _ _ _ _ us hl => match us, hl with | [_], _ => rfl)⟩,
    Skin := ⟨C_Skin, f_Skin, _, PySem.W.mg_of X G a_Skin, ⟨pg_Skin, hd_Skin, po_Skin, sa_Skin⟩, no_Skin, ⟨mk_Skin, i_Skin, fn_Skin, kc_Skin⟩, fun_mk (st := s_Skin_init) l_Skin c_Skin k_Skin, (fun_mk (st := s_Skin_init) l_Skin c_Skin k_Skin).binds (ps := ["self", "row"]) (fun _ _ _ _ _ _ us hl => match us, hl with | [_, _], _ => rfl), ca_Skin, hn0, ht0, mo_Skin⟩,
    check_skin := ⟨f_check_skin, _, fun_mk (st := s_check_skin) l_check_skin c_check_skin k_check_skin, PySem.W.mg_of X G a_check_skin, (fun_mk (st := s_check_skin) l_check_skin c_check_skin k_check_skin).binds (ps := ["skin"]) (fun _ _ _ _ _ _ us hl => match us, hl with | [_], _ => rfl)⟩,
    end_behind := ⟨f_end_behind, _, fun_mk (st := s_end_behind) l_end_behind c_end_behind k_end_behind, PySem.W.mg_of X G a_end_behind, (fun_mk (st := s_end_behind) l_end_behind c_end_behind k_end_behind).binds (ps := ["skin", "end", "steps"]) (fun _ _ _ _ _ _ us hl => match us, hl with | [_, _, _], _ => rfl)⟩,
    least_turn := ⟨f_least_turn, _, fun_mk (st := s_least_turn) l_least_turn c_least_turn k_least_turn, PySem.W.mg_of X G a_least_turn, (fun_mk (st := s_least_turn) l_least_turn c_least_turn k_least_turn).binds (ps := ["word"]) (fun _ _ _ _ _ _ us hl => match us, hl with | [_], _ => rfl)⟩,
    rim_from := ⟨f_rim_from, _, fun_mk (st := s_rim_from) l_rim_from c_rim_from k_rim_from, PySem.W.mg_of X G a_rim_from, (fun_mk (st := s_rim_from) l_rim_from c_rim_from k_rim_from).binds (ps := ["skin", "start"]) (fun _ _ _ _ _ _ us hl => match us, hl with | [_, _], _ => rfl)⟩,
    rims := ⟨f_rims, _, fun_mk (st := s_rims) l_rims c_rims k_rims, PySem.W.mg_of X G a_rims, (fun_mk (st := s_rims) l_rims c_rims k_rims).binds (ps := ["skin"]) (fun _ _ _ _ _ _ us hl => match us, hl with | [_], _ => rfl)⟩,
    mirrored := ⟨f_mirrored, _, fun_mk (st := s_mirrored) l_mirrored c_mirrored k_mirrored, PySem.W.mg_of X G a_mirrored, (fun_mk (st := s_mirrored) l_mirrored c_mirrored k_mirrored).binds (ps := ["skin"]) (fun _ _ _ _ _ _ us hl => match us, hl with | [_], _ => rfl)⟩,
    is_renaming := ⟨f_is_renaming, _, fun_mk (st := s_is_renaming) l_is_renaming c_is_renaming k_is_renaming, PySem.W.mg_of X G a_is_renaming, (fun_mk (st := s_is_renaming) l_is_renaming c_is_renaming k_is_renaming).binds (ps := ["skin", "letters"]) (fun _ _ _ _ _ _ us hl => match us, hl with | [_, _], _ => rfl)⟩,
    renamed := ⟨f_renamed, _, fun_mk (st := s_renamed) l_renamed c_renamed k_renamed, PySem.W.mg_of X G a_renamed, (fun_mk (st := s_renamed) l_renamed c_renamed k_renamed).binds (ps := ["skin", "letters"]) (fun _ _ _ _ _ _ us hl => match us, hl with | [_, _], _ => rfl)⟩,
    row_read_from := ⟨f_row_read_from, _, fun_mk (st := s_row_read_from) l_row_read_from c_row_read_from k_row_read_from, PySem.W.mg_of X G a_row_read_from, (fun_mk (st := s_row_read_from) l_row_read_from c_row_read_from k_row_read_from).binds (ps := ["skin", "start"]) (fun _ _ _ _ _ _ us hl => match us, hl with | [_, _], _ => rfl)⟩,
    least_skin := ⟨f_least_skin, _, fun_mk (st := s_least_skin) l_least_skin c_least_skin k_least_skin, PySem.W.mg_of X G a_least_skin, (fun_mk (st := s_least_skin) l_least_skin c_least_skin k_least_skin).binds (ps := ["skin"]) (fun _ _ _ _ _ _ us hl => match us, hl with | [_], _ => rfl)⟩,
    l_begun := ⟨f_l_begun, _, fun_mk (st := s_l_begun) l_l_begun c_l_begun k_l_begun, PySem.W.mg_of X G a_l_begun, (fun_mk (st := s_l_begun) l_l_begun c_l_begun k_l_begun).binds (ps := ["script"]) (fun _ _ _ _ _ _ us hl => match us, hl with | [_], _ => rfl)⟩,
    l_mixed := ⟨f_l_mixed, _, fun_mk (st := s_l_mixed) l_l_mixed c_l_mixed k_l_mixed, PySem.W.mg_of X G a_l_mixed, (fun_mk (st := s_l_mixed) l_l_mixed c_l_mixed k_l_mixed).binds (ps := ["draw"]) (fun _ _ _ _ _ _ us hl => match us, hl with | [_], _ => rfl)⟩,
    l_take := ⟨f_l_take, _, fun_mk (st := s_l_take) l_l_take c_l_take k_l_take, PySem.W.mg_of X G a_l_take, (fun_mk (st := s_l_take) l_l_take c_l_take k_l_take).binds (ps := ["draw", "amount"]) (fun _ _ _ _ _ _ us hl => match us, hl with | [_, _], _ => rfl)⟩,
    l_pick := ⟨f_l_pick, _, fun_mk (st := s_l_pick) l_l_pick c_l_pick k_l_pick, PySem.W.mg_of X G a_l_pick, (fun_mk (st := s_l_pick) l_l_pick c_l_pick k_l_pick).binds (ps := ["draw", "some"]) (fun _ _ _ _ _ _ us hl => match us, hl with | [_, _], _ => rfl)⟩,
    l_shuffled := ⟨f_l_shuffled, _, fun_mk (st := s_l_shuffled) l_l_shuffled c_l_shuffled k_l_shuffled, PySem.W.mg_of X G a_l_shuffled, (fun_mk (st := s_l_shuffled) l_l_shuffled c_l_shuffled k_l_shuffled).binds (ps := ["draw", "some"]) (fun _ _ _ _ _ _ us hl => match us, hl with | [_, _], _ => rfl)⟩,
    l_caught := ⟨f_l_caught, _, fun_mk (st := s_l_caught) l_l_caught c_l_caught k_l_caught, PySem.W.mg_of X G a_l_caught, (fun_mk (st := s_l_caught) l_l_caught c_l_caught k_l_caught).binds (ps := ["work"]) (fun _ _ _ _ _ _ us hl => match us, hl with | [_], _ => rfl)⟩,
    l_number_error := ⟨f_l_number_error, _, fun_mk (st := s_l_number_error) l_l_number_error c_l_number_error k_l_number_error, PySem.W.mg_of X G a_l_number_error, (fun_mk (st := s_l_number_error) l_l_number_error c_l_number_error k_l_number_error).binds (ps := ["error", "part"]) (fun _ _ _ _ _ _ us hl => match us, hl with | [_, _], _ => rfl)⟩,
    l_skin_error := ⟨f_l_skin_error, _, fun_mk (st := s_l_skin_error) l_l_skin_error c_l_skin_error k_l_skin_error, PySem.W.mg_of X G a_l_skin_error, (fun_mk (st := s_l_skin_error) l_l_skin_error c_l_skin_error k_l_skin_error).binds (ps := ["error"]) (fun _ _ _ _ _ _ us hl => match us, hl with | [_], _ => rfl)⟩,
    l_mate := ⟨f_l_mate, _, fun_mk (st := s_l_mate) l_l_mate c_l_mate k_l_mate, PySem.W.mg_of X G a_l_mate, (fun_mk (st := s_l_mate) l_l_mate c_l_mate k_l_mate).binds (ps := ["end"]) (fun _ _ _ _ _ _ us hl => match us, hl with | [_], _ => rfl)⟩,
    l_turned := ⟨f_l_turned, _, fun_mk (st := s_l_turned) l_l_turned c_l_turned k_l_turned, PySem.W.mg_of X G a_l_turned, (fun_mk (st := s_l_turned) l_l_turned c_l_turned k_l_turned).binds (ps := ["line"]) (fun _ _ _ _ _ _ us hl => match us, hl with | [_], _ => rfl)⟩,
    l_row := ⟨f_l_row, _, fun_mk (st := s_l_row) l_l_row c_l_row k_l_row, PySem.W.mg_of X G a_l_row, (fun_mk (st := s_l_row) l_l_row c_l_row k_l_row).binds (ps := ["draw", "most"]) (fun _ _ _ _ _ _ us hl => match us, hl with | [_, _], _ => rfl)⟩,
    l_least_turn := ⟨f_l_least_turn, _, fun_mk (st := s_l_least_turn) l_l_least_turn c_l_least_turn k_l_least_turn, PySem.W.mg_of X G a_l_least_turn, (fun_mk (st := s_l_least_turn) l_l_least_turn c_l_least_turn k_l_least_turn).binds (ps := ["word_here"]) (fun _ _ _ _ _ _ us hl => match us, hl with | [_], _ => rfl)⟩,
    l_undone := ⟨f_l_undone, _, fun_mk (st := s_l_undone) l_l_undone c_l_undone k_l_undone, PySem.W.mg_of X G a_l_undone, (fun_mk (st := s_l_undone) l_l_undone c_l_undone k_l_undone).binds (ps := ["word_here"]) (fun _ _ _ _ _ _ us hl => match us, hl with | [_], _ => rfl)⟩,
    l_rims := ⟨f_l_rims, _, fun_mk (st := s_l_rims) l_l_rims c_l_rims k_l_rims, PySem.W.mg_of X G a_l_rims, (fun_mk (st := s_l_rims) l_l_rims c_l_rims k_l_rims).binds (ps := ["line"]) (fun _ _ _ _ _ _ us hl => match us, hl with | [_], _ => rfl)⟩,
    l_letters := ⟨f_l_letters, _, fun_mk (st := s_l_letters) l_l_letters c_l_letters k_l_letters, PySem.W.mg_of X G a_l_letters, (fun_mk (st := s_l_letters) l_l_letters c_l_letters k_l_letters).binds (ps := ["draw", "many"]) (fun _ _ _ _ _ _ us hl => match us, hl with | [_, _], _ => rfl)⟩,
    l_put := ⟨f_l_put, _, fun_mk (st := s_l_put) l_l_put c_l_put k_l_put, PySem.W.mg_of X G a_l_put, (fun_mk (st := s_l_put) l_l_put c_l_put k_l_put).binds (ps := ["line", "letters_here"]) (fun _ _ _ _ _ _ us hl => match us, hl with | [_, _], _ => rfl)⟩,
    l_named := ⟨f_l_named, _, fun_mk (st := s_l_named) l_l_named c_l_named k_l_named, PySem.W.mg_of X G a_l_named, (fun_mk (st := s_l_named) l_l_named c_l_named k_l_named).binds (ps := ["line"]) (fun _ _ _ _ _ _ us hl => match us, hl with | [_], _ => rfl)⟩,
    l_least := ⟨f_l_least, _, fun_mk (st := s_l_least) l_l_least c_l_least k_l_least, PySem.W.mg_of X G a_l_least, (fun_mk (st := s_l_least) l_l_least c_l_least k_l_least).binds (ps := ["line"]) (fun _ _ _ _ _ _ us hl => match us, hl with | [_], _ => rfl)⟩,
    l_renamings := ⟨f_l_renamings, _, fun_mk (st := s_l_renamings) l_l_renamings c_l_renamings k_l_renamings, PySem.W.mg_of X G a_l_renamings, (fun_mk (st := s_l_renamings) l_l_renamings c_l_renamings k_l_renamings).binds (ps := ["many"]) (fun _ _ _ _ _ _ us hl => match us, hl with | [_], _ => rfl)⟩,
    l_is_renaming := ⟨f_l_is_renaming, _, fun_mk (st := s_l_is_renaming) l_l_is_renaming c_l_is_renaming k_l_is_renaming, PySem.W.mg_of X G a_l_is_renaming, (fun_mk (st := s_l_is_renaming) l_l_is_renaming c_l_is_renaming k_l_is_renaming).binds (ps := ["thing", "many"]) (fun _ _ _ _ _ _ us hl => match us, hl with | [_, _], _ => rfl)⟩,
    l_judged := ⟨f_l_judged, _, fun_mk (st := s_l_judged) l_l_judged c_l_judged k_l_judged, PySem.W.mg_of X G a_l_judged, (fun_mk (st := s_l_judged) l_l_judged c_l_judged k_l_judged).binds (ps := ["draw", "skin", "letters_here"]) (fun _ _ _ _ _ _ us hl => match us, hl with | [_, _, _], _ => rfl)⟩,
    l_renamed_right := ⟨f_l_renamed_right, _, fun_mk (st := s_l_renamed_right) l_l_renamed_right c_l_renamed_right k_l_renamed_right, PySem.W.mg_of X G a_l_renamed_right, (fun_mk (st := s_l_renamed_right) l_l_renamed_right c_l_renamed_right k_l_renamed_right).binds (ps := ["draw", "skin"]) (fun _ _ _ _ _ _ us hl => match us, hl with | [_, _], _ => rfl)⟩,
    law := ⟨fa, _, fun_mk (st := s_law) l_law c_law k_law, PySem.W.mg_of X G a_law, (fun_mk (st := s_law) l_law c_law k_law).binds (ps := ["script"]) (fun _ _ _ _ _ _ us hl => match us, hl with | [_], _ => rfl)⟩,
    zabs := PySem.W.mg_none_of X G zabs,
    zall := PySem.W.mg_none_of X G zall,
    zbool := PySem.W.mg_none_of X G zbool,
    zint := PySem.W.mg_none_of X G zint,
    zisinstance := PySem.W.mg_none_of X G zisinstance,
    zlen := PySem.W.mg_none_of X G zlen,
    zlist := PySem.W.mg_none_of X G zlist,
    zmin := PySem.W.mg_none_of X G zmin,
    zrange := PySem.W.mg_none_of X G zrange,
    zrepr := PySem.W.mg_none_of X G zrepr,
    zsorted := PySem.W.mg_none_of X G zsorted,
    ztuple := PySem.W.mg_none_of X G ztuple,
    ztype := PySem.W.mg_none_of X G ztype,
    kSS := kSS,
    kST := kST,
    kSN := kSN,
    kSL := kSL,
    kSI := kSI,
    kSkSk := kSkSk,
    kSY := kSY,
    sSR := sSR,
    kNN := kNN,
    sNR := sNR,
    kNoL := kNoL,
    kInL := kInL,
    kStL := kStL,
    kDiL := kDiL,
    kTuL := kTuL,
    kNoT := kNoT,
    kInT := kInT,
    kStT := kStT,
    kDiT := kDiT,
    kBoI := kBoI,
    kNoI := kNoI,
    kStI := kStI,
    kTuI := kTuI,
    kLiI := kLiI,
    kInB := kInB,
    eqM := ⟨f_eqM, _, fun_mk (st := s_Skin_eq) l_eqM c_eqM k_eqM, i_eqM, fn_eqM, (fun_mk (st := s_Skin_eq) l_eqM c_eqM k_eqM).binds (ps := ["self", "other"]) (fun _ _ _ _ _ _ us hl => match us, hl with | [_, _], _ => rfl)⟩,
    neO := neO,
    jc := jc,
    jP := jP,
    jF := ⟨_, _, _, _, _, _, _, _, rfl, l_l_judged, c_l_judged⟩,
    lc := lc,
    lP := lP,
    lF := ⟨_, _, _, _, _, _, _, _, rfl, l_law, c_law⟩,
    ne := ne }, rfl, ⟨tgj, njj, tcj⟩, ⟨tgl, njl, tcl⟩⟩
theorem walk_law {l : PySem.W.OpenLaw} {q : Program} {loose : List Str} {XP : (Str → Option Value) → Heap → Prop} {YP : World → Heap → Prop} {d : DefRec} {K : Params → PySem.W.Frag} (hn : l.most = some 63) (hdf : d.params.defaults = [])
    (hY : ∀ (w : World) (h : Heap), YP w h → (K w.params).In h)
    (F : ∀ (w : World) (mg : Str → Option Value) (fa : Addr) (h : Heap), YP w h → (K w.params).In h → h.Ns mainGlobals mg → mg d.name = some (.ref fa) →
      ∃ T : Txt (K w.params) mg, fa = T.law.a ∧ (h.get? T.jP = some { cls := .none, data := .fields #[] } ∧ (K w.params).lookup T.jP = none ∧ PySem.W.CodeHd h T.jc T.jP) ∧ (h.get? T.lP = some { cls := .none, data := .fields #[] } ∧ (K w.params).lookup T.lP = none ∧ PySem.W.CodeHd h T.lc T.lP)) :
    PySem.W.WalkO q loose XP YP l.row.toRowW d [] (fun f vs => PySem.call f vs) := by
  refine Att.attach_callB hn hdf fun w s₀ s₁ mg mb fa o pm cd doc a vs ns G Y ho hd hcd hmg hobj hints hlen hbits hg => ?_
  have KX := hY w _ Y
  obtain ⟨T, rfl, h_j, h_l⟩ := F w mg fa _ Y KX G.T.g hmg
  refine law_run (ts := [(T.jc, T.jP), (T.lc, T.lP)]) KX G.T.g G.T.b G.T.builtins G.T.nolimit hg (fun p hp => ?_) G.T.bmain hobj hints (Nat.le_trans hlen (by decide)) fun base H TB e0 hT hS => ?_
  · simp only [List.mem_cons, List.not_mem_nil, or_false] at hp
    rcases hp with rfl | rfl
    · exact h_j
    · exact h_l
  have htb : LamX.Tabs (jTs T) H := fun p hp => by
    simp only [List.mem_cons, List.not_mem_nil, or_false] at hp
    rcases hp with rfl | rfl
    · exact LamX.TabS.nil (hT (T.jc, T.jP) (List.mem_cons_self))
    · exact LamX.TabS.nil (hT (T.lc, T.lP) (List.mem_cons_of_mem _ (List.mem_cons_self)))
  obtain ⟨oc, od, kV, doc', pm', an, ct, osl, e, lk, hc⟩ := T.lF.ex
  have hb := T.law.b s₁ [.ref a] KX rfl
  rw [e] at lk hb
  refine LamX.run_ofS (N := N_law) (ps := ["script"]) (k := 14) (us := [.ref a]) (vs := [.ref a]) lk hc sc_law ⟨rfl, by decide, by decide⟩ e0 hb (.cons rfl .nil) rfl fun hr' => ?_
  obtain ⟨t, h1, h2⟩ := law_body (w := w) (base := base) (E := E0) (outer := []) (Q := fun v _ => v = .bl true) T (TB (T.lc, T.lP) (List.mem_cons_of_mem _ (List.mem_cons_self))) (TB (T.jc, T.jP) (List.mem_cons_self)) (A := callerA) (s := s₁) rfl hr' hS hlen htb (fun _ => rfl)
  exact ⟨t, h1.nox, h2⟩
end Tt
open PySem PySem.W PyProof.Rows in
set_option maxRecDepth 100000 in
set_option maxHeartbeats 0 in
theorem PySem.Challenge.cw_tautrounds_k03_whole_renamed_and_least_s_holds : PySem.Challenge.rw_tautrounds_k03_whole_renamed_and_least_s.Holds := by
  w_on; o_law; k_head; (case hw => w_witness2)
  k_fill
  refine' Tt.walk_law (l := PySem.Challenge.rw_tautrounds_k03_whole_renamed_and_least_s) rfl rfl (fun w h Y => PySem.W.km_in_of Y) ?F
  case F =>
    intro w mg fa h Y KX G hmg
    refine' Tt.all_mk KX G hmg ?hn0 ?ht0 ?a_RoundError ?k_RoundError ?q_RoundError ?ty_RoundError ?ga_RoundError ?gg_RoundError ?ex_RoundError ?hd_RoundError ?ca_RoundError ?mo_RoundError ?a_BadNumber ?x_BadNumber ?rv_BadNumber ?sa_BadNumber ?ty_BadNumber ?kc_BadNumber ?i_BadNumber ?t_BadNumber ?l_BadNumber ?c_BadNumber ?k_BadNumber ?nf_BadNumber ?ga_BadNumber ?gg_BadNumber ?ex_BadNumber ?hd_BadNumber ?ca_BadNumber ?mo_BadNumber ?a_BadSkin ?x_BadSkin ?rv_BadSkin ?sa_BadSkin ?ty_BadSkin ?kc_BadSkin ?i_BadSkin ?t_BadSkin ?l_BadSkin ?c_BadSkin ?k_BadSkin ?nf_BadSkin ?ga_BadSkin ?gg_BadSkin ?ex_BadSkin ?hd_BadSkin ?ca_BadSkin ?mo_BadSkin ?a_is_number ?l_is_number ?c_is_number ?k_is_number ?a_is_tuple ?l_is_tuple ?c_is_tuple ?k_is_tuple ?a_is_list ?l_is_list ?c_is_list ?k_is_list ?a_is_row ?l_is_row ?c_is_row ?k_is_row ?a_Skin ?i_Skin ?fn_Skin ?l_Skin ?c_Skin ?k_Skin ?pg_Skin ?hd_Skin ?po_Skin ?sa_Skin ?mk_Skin ?kc_Skin ?ca_Skin ?mo_Skin ?n_Skin_row ?n_Skin_bands ?n_Skin_places ?a_check_skin ?l_check_skin ?c_check_skin ?k_check_skin ?a_end_behind ?l_end_behind ?c_end_behind ?k_end_behind ?a_least_turn ?l_least_turn ?c_least_turn ?k_least_turn ?a_rim_from ?l_rim_from ?c_rim_from ?k_rim_from ?a_rims ?l_rims ?c_rims ?k_rims ?a_mirrored ?l_mirrored ?c_mirrored ?k_mirrored ?a_is_renaming ?l_is_renaming ?c_is_renaming ?k_is_renaming ?a_renamed ?l_renamed ?c_renamed ?k_renamed ?a_row_read_from ?l_row_read_from ?c_row_read_from ?k_row_read_from ?a_least_skin ?l_least_skin ?c_least_skin ?k_least_skin ?a_l_begun ?l_l_begun ?c_l_begun ?k_l_begun ?a_l_mixed ?l_l_mixed ?c_l_mixed ?k_l_mixed ?a_l_take ?l_l_take ?c_l_take ?k_l_take ?a_l_pick ?l_l_pick ?c_l_pick ?k_l_pick ?a_l_shuffled ?l_l_shuffled ?c_l_shuffled ?k_l_shuffled ?a_l_caught ?l_l_caught ?c_l_caught ?k_l_caught ?a_l_number_error ?l_l_number_error ?c_l_number_error ?k_l_number_error ?a_l_skin_error ?l_l_skin_error ?c_l_skin_error ?k_l_skin_error ?a_l_mate ?l_l_mate ?c_l_mate ?k_l_mate ?a_l_turned ?l_l_turned ?c_l_turned ?k_l_turned ?a_l_row ?l_l_row ?c_l_row ?k_l_row ?a_l_least_turn ?l_l_least_turn ?c_l_least_turn ?k_l_least_turn ?a_l_undone ?l_l_undone ?c_l_undone ?k_l_undone ?a_l_rims ?l_l_rims ?c_l_rims ?k_l_rims ?a_l_letters ?l_l_letters ?c_l_letters ?k_l_letters ?a_l_put ?l_l_put ?c_l_put ?k_l_put ?a_l_named ?l_l_named ?c_l_named ?k_l_named ?a_l_least ?l_l_least ?c_l_least ?k_l_least ?a_l_renamings ?l_l_renamings ?c_l_renamings ?k_l_renamings ?a_l_is_renaming ?l_l_is_renaming ?c_l_is_renaming ?k_l_is_renaming ?a_l_judged ?l_l_judged ?c_l_judged ?k_l_judged ?a_l_renamed_right ?l_l_renamed_right ?c_l_renamed_right ?k_l_renamed_right ?a_law ?l_law ?c_law ?k_law ?zabs ?zall ?zbool ?zint ?zisinstance ?zlen ?zlist ?zmin ?zrange ?zrepr ?zsorted ?ztuple ?ztype ?kSS ?kST ?kSN ?kSL ?kSI ?kSkSk ?kSY ?sSR ?kNN ?sNR ?kNoL ?kInL ?kStL ?kDiL ?kTuL ?kNoT ?kInT ?kStT ?kDiT ?kBoI ?kNoI ?kStI ?kTuI ?kLiI ?kInB ?i_eqM ?fn_eqM ?l_eqM ?c_eqM ?k_eqM ?neO ?tgj ?tcj ?njj ?tgl ?tcl ?njl ?ne
    (case hn0 => k_is)
    (case ht0 => k_is)
    (case a_RoundError => k_is)
    (case k_RoundError => k_is)
    (case q_RoundError => k_exc)
    (case ty_RoundError => k_is)
    (case ga_RoundError => k_is)
    (case gg_RoundError => k_is)
    (case ex_RoundError => k_is)
    (case hd_RoundError => k_is)
    (case ca_RoundError => k_is)
    (case mo_RoundError => k_is)
    (case a_BadNumber => k_is)
    (case x_BadNumber => k_is)
    (case rv_BadNumber => decide +kernel)
    (case sa_BadNumber => k_is)
    (case ty_BadNumber => k_is)
    (case kc_BadNumber => k_is)
    (case i_BadNumber => k_is)
    (case t_BadNumber => k_is)
    (case l_BadNumber => k_is)
    (case c_BadNumber => k_is)
    (case k_BadNumber => k_is)
    (case nf_BadNumber => k_is)
    (case ga_BadNumber => k_is)
    (case gg_BadNumber => k_is)
    (case ex_BadNumber => k_is)
    (case hd_BadNumber => k_is)
    (case ca_BadNumber => k_is)
    (case mo_BadNumber => k_is)
    (case a_BadSkin => k_is)
    (case x_BadSkin => k_is)
    (case rv_BadSkin => decide +kernel)
    (case sa_BadSkin => k_is)
    (case ty_BadSkin => k_is)
    (case kc_BadSkin => k_is)
    (case i_BadSkin => k_is)
    (case t_BadSkin => k_is)
    (case l_BadSkin => k_is)
    (case c_BadSkin => k_is)
    (case k_BadSkin => k_is)
    (case nf_BadSkin => k_is)
    (case ga_BadSkin => k_is)
    (case gg_BadSkin => k_is)
    (case ex_BadSkin => k_is)
    (case hd_BadSkin => k_is)
    (case ca_BadSkin => k_is)
    (case mo_BadSkin => k_is)
    (case a_is_number => k_is)
    (case l_is_number => k_is)
    (case c_is_number => k_is)
    (case k_is_number => k_is)
    (case a_is_tuple => k_is)
    (case l_is_tuple => k_is)
    (case c_is_tuple => k_is)
    (case k_is_tuple => k_is)
    (case a_is_list => k_is)
    (case l_is_list => k_is)
    (case c_is_list => k_is)
    (case k_is_list => k_is)
    (case a_is_row => k_is)
    (case l_is_row => k_is)
    (case c_is_row => k_is)
    (case k_is_row => k_is)
    (case a_Skin => k_is)
    (case i_Skin => k_is)
    (case fn_Skin => k_is)
    (case l_Skin => k_is)
    (case c_Skin => k_is)
    (case k_Skin => k_is)
    (case pg_Skin => k_is)
    (case hd_Skin => k_is)
    (case po_Skin => k_is)
    (case sa_Skin => k_is)
    (case mk_Skin => k_is)
    (case kc_Skin => k_is)
    (case ca_Skin => k_is)
    (case mo_Skin => k_is)
    (case n_Skin_row => k_is)
    (case n_Skin_bands => k_is)
    (case n_Skin_places => k_is)
    (case a_check_skin => k_is)
    (case l_check_skin => k_is)
    (case c_check_skin => k_is)
    (case k_check_skin => k_is)
    (case a_end_behind => k_is)
    (case l_end_behind => k_is)
    (case c_end_behind => k_is)
    (case k_end_behind => k_is)
    (case a_least_turn => k_is)
    (case l_least_turn => k_is)
    (case c_least_turn => k_is)
    (case k_least_turn => k_is)
    (case a_rim_from => k_is)
    (case l_rim_from => k_is)
    (case c_rim_from => k_is)
    (case k_rim_from => k_is)
    (case a_rims => k_is)
    (case l_rims => k_is)
    (case c_rims => k_is)
    (case k_rims => k_is)
    (case a_mirrored => k_is)
    (case l_mirrored => k_is)
    (case c_mirrored => k_is)
    (case k_mirrored => k_is)
    (case a_is_renaming => k_is)
    (case l_is_renaming => k_is)
    (case c_is_renaming => k_is)
    (case k_is_renaming => k_is)
    (case a_renamed => k_is)
    (case l_renamed => k_is)
    (case c_renamed => k_is)
    (case k_renamed => k_is)
    (case a_row_read_from => k_is)
    (case l_row_read_from => k_is)
    (case c_row_read_from => k_is)
    (case k_row_read_from => k_is)
    (case a_least_skin => k_is)
    (case l_least_skin => k_is)
    (case c_least_skin => k_is)
    (case k_least_skin => k_is)
    (case a_l_begun => k_is)
    (case l_l_begun => k_is)
    (case c_l_begun => k_is)
    (case k_l_begun => k_is)
    (case a_l_mixed => k_is)
    (case l_l_mixed => k_is)
    (case c_l_mixed => k_is)
    (case k_l_mixed => k_is)
    (case a_l_take => k_is)
    (case l_l_take => k_is)
    (case c_l_take => k_is)
    (case k_l_take => k_is)
    (case a_l_pick => k_is)
    (case l_l_pick => k_is)
    (case c_l_pick => k_is)
    (case k_l_pick => k_is)
    (case a_l_shuffled => k_is)
    (case l_l_shuffled => k_is)
    (case c_l_shuffled => k_is)
    (case k_l_shuffled => k_is)
    (case a_l_caught => k_is)
    (case l_l_caught => k_is)
    (case c_l_caught => k_is)
    (case k_l_caught => k_is)
    (case a_l_number_error => k_is)
    (case l_l_number_error => k_is)
    (case c_l_number_error => k_is)
    (case k_l_number_error => k_is)
    (case a_l_skin_error => k_is)
    (case l_l_skin_error => k_is)
    (case c_l_skin_error => k_is)
    (case k_l_skin_error => k_is)
    (case a_l_mate => k_is)
    (case l_l_mate => k_is)
    (case c_l_mate => k_is)
    (case k_l_mate => k_is)
    (case a_l_turned => k_is)
    (case l_l_turned => k_is)
    (case c_l_turned => k_is)
    (case k_l_turned => k_is)
    (case a_l_row => k_is)
    (case l_l_row => k_is)
    (case c_l_row => k_is)
    (case k_l_row => k_is)
    (case a_l_least_turn => k_is)
    (case l_l_least_turn => k_is)
    (case c_l_least_turn => k_is)
    (case k_l_least_turn => k_is)
    (case a_l_undone => k_is)
    (case l_l_undone => k_is)
    (case c_l_undone => k_is)
    (case k_l_undone => k_is)
    (case a_l_rims => k_is)
    (case l_l_rims => k_is)
    (case c_l_rims => k_is)
    (case k_l_rims => k_is)
    (case a_l_letters => k_is)
    (case l_l_letters => k_is)
    (case c_l_letters => k_is)
    (case k_l_letters => k_is)
    (case a_l_put => k_is)
    (case l_l_put => k_is)
    (case c_l_put => k_is)
    (case k_l_put => k_is)
    (case a_l_named => k_is)
    (case l_l_named => k_is)
    (case c_l_named => k_is)
    (case k_l_named => k_is)
    (case a_l_least => k_is)
    (case l_l_least => k_is)
    (case c_l_least => k_is)
    (case k_l_least => k_is)
    (case a_l_renamings => k_is)
    (case l_l_renamings => k_is)
    (case c_l_renamings => k_is)
    (case k_l_renamings => k_is)
    (case a_l_is_renaming => k_is)
    (case l_l_is_renaming => k_is)
    (case c_l_is_renaming => k_is)
    (case k_l_is_renaming => k_is)
    (case a_l_judged => k_is)
    (case l_l_judged => k_is)
    (case c_l_judged => k_is)
    (case k_l_judged => k_is)
    (case a_l_renamed_right => k_is)
    (case l_l_renamed_right => k_is)
    (case c_l_renamed_right => k_is)
    (case k_l_renamed_right => k_is)
    (case a_law => k_is)
    (case l_law => k_is)
    (case c_law => k_is)
    (case k_law => k_is)
    (case zabs => k_is)
    (case zall => k_is)
    (case zbool => k_is)
    (case zint => k_is)
    (case zisinstance => k_is)
    (case zlen => k_is)
    (case zlist => k_is)
    (case zmin => k_is)
    (case zrange => k_is)
    (case zrepr => k_is)
    (case zsorted => k_is)
    (case ztuple => k_is)
    (case ztype => k_is)
    (case kSS => kit_is)
    (case kST => kit_is)
    (case kSN => kit_is)
    (case kSL => kit_is)
    (case kSI => kit_is)
    (case kSkSk => kit_is)
    (case kSY => kit_is)
    (case sSR => k_is)
    (case kNN => kit_is)
    (case sNR => k_is)
    (case kNoL => kit_is)
    (case kInL => kit_is)
    (case kStL => kit_is)
    (case kDiL => kit_is)
    (case kTuL => kit_is)
    (case kNoT => kit_is)
    (case kInT => kit_is)
    (case kStT => kit_is)
    (case kDiT => kit_is)
    (case kBoI => kit_is)
    (case kNoI => kit_is)
    (case kStI => kit_is)
    (case kTuI => kit_is)
    (case kLiI => kit_is)
    (case kInB => kit_is)
    (case i_eqM => k_is)
    (case fn_eqM => k_is)
    (case l_eqM => k_is)
    (case c_eqM => k_is)
    (case k_eqM => k_is)
    (case neO => k_is)
    (case tgj => exact PySem.W.km_tabs_of Y _ (List.mem_cons_self))
    (case tcj => exact PySem.W.codeHd_of_K KX (by kernel_rfl))
    (case njj => first | kernel_rfl | rfl)
    (case tgl => exact PySem.W.km_tabs_of Y _ (List.mem_cons_of_mem _ (List.mem_cons_self)))
    (case tcl => exact PySem.W.codeHd_of_K KX (by kernel_rfl))
    (case njl => first | kernel_rfl | rfl)
    (case ne => first | decide | decide +kernel | (intro z; cases z))
