import PyProof.Rows.All
import Wide.All
import OpenK.AllK
import Wide.FinOn
import HandS.ForMost
import HandS.ForExc
import HandS.More
import HandS.TupAny
import HandS.Conv
import HandS.Style
import HandS.Strs
import HandS.SortInts
import HandS.Sort
import HandS.DeepEq
import HandS.RaiseMore
import HandS.Lambda
import HandS.EndTab
import HandS.IsInst
import HandS.ExcIs
import HandS.ExcField
import HandS.ExcInit
import HandS.ExcValue
import HandS.CallLocal
import HandS.CallSlots
import HandS.Nested
import PyProof.ReprRoads
import PyProof.ReprLen
import KE.DataMinMax
import HandS.SlotsOwn
import HandS.TupMul
import PyProof.CallFns
import HandS.Deep
import PySem.Challenge.RW_tautrounds_k01_skins_judged
import HandS.MakeKwOnly
import HandS.EndBits
import KE.KNest
import KE.KNestM
import KE.RegKIsAll
set_option Elab.async false
set_option linter.all false
set_option maxRecDepth 100000
set_option maxHeartbeats 4000000
namespace SrtO
open PySem PyProof.Rows Srt
section
variable {prog : Program} {w : World} {A : Around} {E : Value → Shared → Prop} {s : Shared}
theorem tt_collect_tup {l : Addr} {vs : List Value} {Q : List Value → Shared → Prop} (hl : IsTup s.heap l vs.toArray)
    (h : Q vs { s with heap := (s.heap.push (seqObj "list" #[] 0)).update s.heap.objs.size (Obj.mapSeq (· ++ vs.toArray)) }) (hsz : vs.length ≤ sizeLine) :
    wpAny (model prog w) A (collect (.ref l)) Q E s := by
  obtain ⟨o, ho, hc, n, hd⟩ := id hl
  unfold collect
  refine wpAny_bind (wpAny_runValue (codeAny_builtin entry_proto_collect' ?_))
  show wpAny _ _ (do again (.builtin "list.__iadd__" ⟨[← newList [], .ref l], []⟩)) _ _ s
  refine wpAny_bind (wpAny_newList (wpAny_pure ⟨Code.quiet_builtin _ (by decide +kernel), codeAny_builtin entry_list_iadd' ?_⟩))
  show wpAny _ _ (Builtin.List.listExtendWith (.ref s.heap.objs.size) (.ref l) (.ref s.heap.objs.size)) _ _ { s with heap := s.heap.push (seqObj "list" #[] 0) }
  unfold Builtin.List.listExtendWith
  have ho' : (s.heap.push (seqObj "list" #[] 0)).get? l = some o := Heap.get?_push_of_some _ ho
  refine wpAny_bind (wpAny_typeOf (T := "tuple") ⟨o, ho', hc⟩ ?_)
  have ht : (Value.type "tuple" == Value.type "tuple") = true := by rfl
  rw [if_pos (by rw [ht]; simp)]
  refine wpAny_bind (listItems_at ho' hd ?_)
  refine wpAny_bind (listItems_at (xs := #[]) (n := 0) (Heap.get?_push_size _ rfl) rfl ?_)
  rw [if_neg (by simp)]
  refine wpAny_bind (listUpdate_at (xs := #[]) (n := 0) (Heap.get?_push_size _ rfl) rfl ?_ (Nat.zero_le _) (by show (#[] ++ vs.toArray).size ≤ sizeLine + 1; simp only [Array.size_append, List.size_toArray, List.length_nil]; omega))
  refine wpAny_pure ?_
  show wpAny (model prog w) A (do
      let o ← load s.heap.objs.size
      match o.data with
      | .seq xs _ => pure xs.toList
      | _ => unsupported "internal:collect") Q E { s with heap := (s.heap.push (seqObj "list" #[] 0)).update s.heap.objs.size (Obj.mapSeq (· ++ vs.toArray)) }
  refine wpAny_bind (wpAny_load (get?_update_seq (Heap.get?_push_size _ rfl) _) ?_)
  show wpAny _ _ (pure ((#[] : Array Value) ++ vs.toArray).toList) Q E _
  rw [show ((#[] : Array Value) ++ vs.toArray).toList = vs by simp]
  exact wpAny_pure h
theorem tt_sorted_tup {l : Addr} {vs : List Value} {ltv : Value → Value → Bool} {Q : Value → Shared → Prop} (O : Swo ltv) (hl : IsTup s.heap l vs.toArray) (hz : vs.length ≤ sizeLine)
    (hS : 2 ≤ vs.length → ∀ (h₁ : Heap) (a : Addr), h₁.get? a = some (seqObj "list" vs.toArray 0) → (∀ b o, s.heap.get? b = some o → b ≠ a ∧ h₁.get? b = some o) → SortableO prog w A.in1.in1 { s with heap := h₁ } a vs ltv)
    (h : ∀ out : List Value, Srtd ltv out → Stb ltv out vs → Q (.ref (s.heap.objs.size + 1)) { s with heap := sortedAll s.heap vs out.toArray }) :
    wpAny (model prog w) A (call (.builtin "sorted") [.ref l]) Q E s := by
  refine Calls.call_function_entry kind_sorted plain_sorted entry_sorted (args_sorted1 _) ?_
  unfold Builtin.«sorted»
  refine wpAny_bind (m := checkCount "sorted" 1 1 _) (wpAny_pure ?_)
  refine wpAny_bind (tt_collect_tup hl ?_ hz)
  refine wpAny_bind (wpAny_newList ?_ hz)
  have hsz : ((s.heap.push (seqObj "list" #[] 0)).update s.heap.objs.size (Obj.mapSeq (· ++ vs.toArray))).objs.size = s.heap.objs.size + 1 := by
    rw [Heap.size_update, size_push']
  have hoL : (((s.heap.push (seqObj "list" #[] 0)).update s.heap.objs.size (Obj.mapSeq (· ++ vs.toArray))).push (seqObj "list" vs.toArray 0)).get? (s.heap.objs.size + 1) = some (seqObj "list" vs.toArray 0) := by
    rw [← hsz]; exact Heap.get?_push_size _ rfl
  have keep : ∀ b o, s.heap.get? b = some o → b ≠ s.heap.objs.size + 1 ∧ (((s.heap.push (seqObj "list" #[] 0)).update s.heap.objs.size (Obj.mapSeq (· ++ vs.toArray))).push (seqObj "list" vs.toArray 0)).get? b = some o := fun b o q => by
    have hlt : b < s.heap.objs.size := Heap.lt_size q
    refine ⟨Nat.ne_of_lt (Nat.lt_succ_of_lt hlt), Heap.get?_push_of_some _ ?_⟩
    rw [Heap.get?_update_ne _ _ _ _ (Nat.ne_of_lt hlt)]
    exact Heap.get?_push_of_some _ q
  show wpAny _ _ _ _ _ { s with heap := ((s.heap.push (seqObj "list" #[] 0)).update s.heap.objs.size (Obj.mapSeq (· ++ vs.toArray))).push (seqObj "list" vs.toArray 0) }
  rw [hsz]
  refine wpAny_bind (wpAny_holding (wpAny_call_entry slot_list_sort ⟨_, hoL, rfl⟩ entry_list_sort (list_sort_ord O hoL hz (fun h2 => hS h2 _ _ hoL keep) fun out hs hb => ⟨_, rfl, ?_⟩) (args_list_sort _)))
  exact wpAny_pure ⟨_, rfl, h out hs hb⟩
end
end SrtO
namespace L2
open PySem PySem.Spec PyProof.Rows
section
variable {X : Cx}
def rSortedIT (K : PySem.W.Frag) : List V → Hp → VK → Prop := fun vs H Q => ∃ (a : Addr) (ns : List Int), vs = [V.ref a] ∧ SqT K H a (ns.map V.int) ∧
  ∀ (ns' : List Int) (p : Addr), ns'.Perm ns → ns'.Pairwise (· ≤ ·) → H p = none → Q (.ref p) (upd H p (.lst (ns'.map V.int)))
theorem cr_sortedIT : CallR X (.builtin "sorted") (rSortedIT X.K) := by
  intro pins s σ H vs us Q I r h
  obtain ⟨a, ns, rfl, hs, q⟩ := h
  obtain ⟨its, rv, hl, hz⟩ := I.tuple hs
  rw [Vals.ref1 r]
  have hi := rv.ints
  refine SrtO.tt_sorted_tup SrtO.swo_int hl (by rw [← rv.length]; exact hz) (fun h2 h₁ a' _ _ => SrtO.ints_sortable hi h2) fun out h1 h2 => ?_
  obtain ⟨k1, k2, k3⟩ := SrtO.ints_out hi h1 h2
  obtain ⟨ep, he'⟩ := PyProof.Rows.sortedAll_at s.heap its out.toArray
  have hlen : ((out.map SrtO.iv).map V.int).length ≤ sizeLine := by
    rw [List.length_map, k2.length_eq]
    rw [List.length_map] at hz
    exact hz
  exact ⟨.ref _, upd H (s.heap.objs.size + 1) (.lst ((out.map SrtO.iv).map V.int)), I.laid (t' := s.toks) (fun _ _ => PyProof.Rows.sortedAll_old) (Nat.le_succ _) ⟨hlen, out, ep, vals_of_ints k1, he'⟩, rfl, q _ _ k2 k3 (I.hok.fresh (Nat.le_succ _))⟩
def rSortedS2 (K : PySem.W.Frag) : List V → Hp → VK → Prop := fun vs H Q => rSortedI K vs H Q ∨ rSortedIT K vs H Q
theorem cr_sortedS2 : CallR X (.builtin "sorted") (rSortedS2 X.K) := by
  intro pins s σ H vs us Q I r h
  rcases h with h | h
  · exact cr_sortedI pins s σ H vs us Q I r h
  · exact cr_sortedIT pins s σ H vs us Q I r h
theorem mt_tup_indexI : MtR X "tuple.index" (fun x xs H Q => ∃ p, ∃ ys : List Int, ∃ z j, x = .ref p ∧ xs = [.int z] ∧ SqT X.K H p (ys.map V.int) ∧ ys[j]? = some z ∧ (∀ m, m < j → ys[m]? ≠ some z) ∧ Q (.int (j : Nat)) H) := by
  intro pins s σ H x xs v us Q I rx rs h
  obtain ⟨p, ys, z, j, rfl, rfl, hq, hy, hno, q⟩ := h
  cases rx
  obtain ⟨u, rfl, t, rfl⟩ := vals1 rs
  obtain ⟨its, r, pl, hz⟩ := I.tuple hq
  obtain ⟨⟨cls, dd, dt, sl⟩, ho, hc, n, hd⟩ := pl
  simp only at hc hd
  subst hc
  subst hd
  have hl : its.toArray.size = ys.length := by rw [List.size_toArray, ← r.length, List.length_map]
  have hj : j < its.toArray.size := by rw [hl]; exact (List.getElem?_eq_some_iff.mp hy).1
  have at' : ∀ (m : Nat) (hm : m < its.toArray.size), ∃ y t', ys[m]? = some y ∧ its.toArray[m] = Value.int y t' := fun m hm => by
    have hm' : m < ys.length := by rw [← hl]; exact hm
    obtain ⟨w, hw, t', hw'⟩ := r.get (i := m) (x := .int ys[m]) (by simp [hm'])
    refine ⟨ys[m], t', List.getElem?_eq_getElem hm', ?_⟩
    have e := (List.getElem?_eq_some_iff.mp hw).2
    rw [← hw', ← e]
    simp
  have flat : ∀ ys : List Int, (ys.map V.int).all flatV = true := fun ys => by
    induction ys with
    | nil => rfl
    | cons a b ih => rw [List.map_cons, List.all_cons, ih]; rfl
  refine call_meets PySem.F.slot_tuple_index ⟨_, ho, rfl⟩ PySem.F.entry_tuple_index (PySem.F.args_tuple_index_2 _ _) (TI.tuple_indexAt p its.toArray n dd sl (.int z t) (eqU (.int z)) j hj ?_ ?_)
    ⟨ho, fun w hw => mem_eqAt (x := .int z) ⟨t, rfl⟩ rfl r (flat ys) w (by simpa using hw), ⟨.int (j : Nat), H, I.tok _, ⟨_, rfl⟩, q⟩⟩
  · obtain ⟨y, t', h1, h2⟩ := at' j hj
    rw [hy] at h1
    cases h1
    rw [h2]
    show (z == z) = true
    exact beq_self_eq_true z
  · intro m hm hmj
    obtain ⟨y, t', h1, h2⟩ := at' m hm
    rw [h2]
    show (y == z) = false
    exact beq_eq_false_iff_ne.mpr fun e => hno m hmj (by rw [h1, e])
end
end L2
set_option maxRecDepth 100000
set_option maxHeartbeats 4000000
namespace HT
open PySem PySem.Spec PyProof.Rows
section
variable {prog : Program} {w : World} {A : Around} {E : Value → Shared → Prop} {s : Shared}
theorem tt_adjust_rev (n : Nat) : Builtin.Slice.sliceAdjust none none (-1) (n : Int) = ((n : Int) - 1, -1) := by
  unfold Builtin.Slice.sliceAdjust
  simp only [show (-1 : Int) < 0 by decide, if_true]
theorem tt_places_rev (n : Nat) : Builtin.Slice.slicePlaces ((n : Int) - 1) (-1) (-1) = n := by
  unfold Builtin.Slice.slicePlaces
  simp only [show ¬ ((-1 : Int) > 0) by decide, if_false, Int.neg_neg, Int.ediv_one]
  split <;> omega
theorem tt_applied_rev {sl : Addr} {vs : Value} {n : Nat} {Q : Int × Int × Nat → Shared → Prop} (hs : s.heap.IsSliceOf sl .none .none vs) (ps : IsPart vs (some (-1)))
    (h : Q ((n : Int) - 1, -1, n) s) : wpAny (model prog w) A (Builtin.Slice.sliceApplied (.ref sl) (pure (n : Int))) Q E s := by
  obtain ⟨os, hos, hcs, hds⟩ := id hs
  unfold Builtin.Slice.sliceApplied Builtin.Slice.sliceFields
  refine wpAny_bind (wpAny_bind (wpAny_field hos hds (x := .none) rfl (wpAny_bind (wpAny_field hos hds (x := .none) rfl (wpAny_bind (wpAny_field hos hds (x := vs) rfl (wpAny_pure ?_)))))))
  refine wpAny_bind (slicePart_ ps ?_)
  show wpAny _ _ (if ((-1 : Int) == 0) = true then _ else _) _ _ s
  rw [if_neg (by decide)]
  refine wpAny_bind (slicePart_ .none (wpAny_bind (slicePart_ .none (wpAny_bind (wpAny_pure ?_)))))
  show wpAny _ _ (match Builtin.Slice.sliceAdjust none none (-1) (n : Int) with | (lo, hi) => pure (lo, (-1 : Int), Builtin.Slice.slicePlaces lo hi (-1))) _ _ s
  rw [tt_adjust_rev n]
  show wpAny _ _ (pure ((n : Int) - 1, (-1 : Int), Builtin.Slice.slicePlaces ((n : Int) - 1) (-1) (-1))) _ _ s
  rw [tt_places_rev n]
  exact wpAny_pure h
theorem tt_fm {α β : Type} {f g : α → Option β} : ∀ {l : List α}, (∀ x ∈ l, f x = g x) → l.filterMap f = l.filterMap g
  | [], _ => rfl
  | a :: l, h => by
    rw [List.filterMap_cons, List.filterMap_cons, h a List.mem_cons_self, tt_fm fun x hx => h x (List.mem_cons_of_mem _ hx)]
theorem tt_pick_rev (xs : Array Value) : ((List.range xs.size).filterMap fun (m : Nat) => xs[(((xs.size : Int) - 1) + (m : Int) * (-1)).toNat]?).toArray = xs.toList.reverse.toArray := by
  have e : (List.range xs.size).filterMap (fun (m : Nat) => xs[(((xs.size : Int) - 1) + (m : Int) * (-1)).toNat]?) = xs.toList.reverse := by
    have h1 : ∀ m ∈ List.range xs.size, xs[(((xs.size : Int) - 1) + (m : Int) * (-1)).toNat]? = some (xs.toList.reverse.getD m .none) := fun m hm => by
      have hm := List.mem_range.mp hm
      have e1 : (((xs.size : Int) - 1) + (m : Int) * (-1)).toNat = xs.size - 1 - m := by omega
      rw [e1, List.getD_eq_getElem?_getD, List.getElem?_reverse (by simpa using hm)]
      have e2 : xs.size - 1 - m < xs.size := by omega
      simp [e2]
    have h2 : (List.range xs.size).filterMap (fun (m : Nat) => xs[(((xs.size : Int) - 1) + (m : Int) * (-1)).toNat]?) = (List.range xs.size).map fun m => xs.toList.reverse.getD m .none := by
      rw [← List.filterMap_eq_map]
      exact tt_fm h1
    rw [h2]
    refine List.ext_getElem? fun i => ?_
    rw [List.getElem?_map]
    by_cases hi : i < xs.size
    · rw [List.getElem?_range hi]
      have : i < xs.toList.reverse.length := by simpa using hi
      rw [List.getElem?_eq_getElem this]
      simp [List.getD_eq_getElem?_getD, List.getElem?_eq_getElem this]
    · rw [List.getElem?_eq_none (by simpa using hi), List.getElem?_eq_none (by simpa using hi)]
      rfl
  rw [e]
theorem tt_getItem_tuple_rev {t sl : Addr} {items : Array Value} {vs : Value} {Q : Value → Shared → Prop} (ht : IsTup s.heap t items) (hs : s.heap.IsSliceOf sl .none .none vs) (ps : IsPart vs (some (-1)))
    (h : Q (.ref s.heap.objs.size) { s with heap := s.heap.push { cls := .type "tuple", data := .seq items.toList.reverse.toArray } })
    (hsz : items.size ≤ sizeLine) : wpAny (model prog w) A (getItem (.ref t) (.ref sl)) Q E s := by
  have htake : sizeOk (.seq items.toList.reverse.toArray) := by
    show items.toList.reverse.toArray.size ≤ sizeLine
    rw [List.size_toArray, List.length_reverse, Array.length_toList]
    exact hsz
  obtain ⟨os, hos, hcs, hds⟩ := id hs
  have hTs : s.TypeIs (.ref sl) "slice" := ⟨os, hos, hcs⟩
  unfold getItem
  try with_reducible refine wpAny_holding ?_
  first | refine wpAny_bind (wpAny_pure ?_) | skip
  refine wpAny_bind (wpAny_sequenceKey ht.typeIs (by decide) ?_)
  refine wpAny_bind (wpAny_callSpecial?_slot (name := Str.ofString "__getitem__") ht.typeIs PyProof.Rows.slot_tuple_getitem
    (wpAny_call_entry PyProof.Rows.slot_tuple_getitem ht.typeIs entry_tuple_getitem ?_ (args_tuple_getitem _ _)))
  show wpAny _ _ (Builtin.Tuple.tupleItemsOf (.ref t) >>= _) _ _ s
  refine wpAny_bind (tupleItemsOf_ ht ?_)
  refine wpAny_bind (wpAny_typeOf hTs ?_)
  rw [if_pos (by decide)]
  refine wpAny_bind (tt_applied_rev hs ps ?_)
  have hno : ¬ (((items.size : Int) - 1 == 0 && (-1 : Int) == 1 && items.size == items.size) = true) := by
    intro q
    rw [Bool.and_eq_true, Bool.and_eq_true] at q
    exact absurd q.1.2 (by decide)
  show wpAny _ _ (if ((items.size : Int) - 1 == 0 && (-1 : Int) == 1 && items.size == items.size) = true then _ else _) _ _ s
  rw [if_neg hno, tt_pick_rev]
  first
    | exact wpAny_bind (m := Builtin.Tuple.tupleExact _) (wpAny_newObj_type (wpAny_pure ⟨_, rfl, wpAny_pure h⟩) htake)
    | exact wpAny_bind (m := Builtin.Tuple.tupleExact _) (wpAny_newObj_type (wpAny_bind (wpAny_pure (wpAny_pure ⟨_, rfl, wpAny_pure h⟩))) htake)
    | exact wpAny_bind (wpAny_bind (m := Builtin.Tuple.tupleExact _) (wpAny_newObj_type (wpAny_pure (wpAny_pure ⟨_, rfl, wpAny_pure h⟩)) htake))
    | exact wpAny_bind (wpAny_bind (m := Builtin.Tuple.tupleExact _) (wpAny_newObj_type (wpAny_pure ⟨_, rfl, wpAny_pure h⟩) htake))
end
end HT
namespace L2
open PySem PySem.Spec PyProof.Rows
section
variable {X : Cx}
def tRevT (K : PySem.W.Frag) (te : TE) : TE := fun σ H Q => te σ H fun x H1 => ∃ a xs, x = .ref a ∧ SqT K H1 a xs ∧ ∀ p, H1 p = none → Q (.ref p) (upd H1 p (.tup xs.reverse))
theorem pe_revT {e : Expr} {te : TE} {k : Nat} {p1 p2 p3 pos : Pos} (he : PE X e te) : PE X (.Subscript e (.Slice none none (some (.UnaryOp .USub (.Constant (.int 1) k p1) p2)) p3) pos) (tRevT X.K te) := by
  refine ⟨fun pins s σ H Q I h => ?_⟩
  refine Subscript_ (thn (he.run pins s σ H _ I h) fun v s1 ⟨x, H1, I1, r1, q1⟩ => ?_)
  obtain ⟨a, xs, ex, hx, q⟩ := q1
  subst ex
  cases r1
  have hst : PO X (some (.UnaryOp .USub (.Constant (.int 1) k p1) p2)) (tPart (tUn (rU fun i => .int (-i)) (tC (.int 1)))) := po_some (pe_un un_neg pe_int)
  refine wpAny_Slice (wpAny_pure ?_)
  refine wpAny_pure ?_
  refine thn (hst.run pins s1 σ H1 (fun o H4 => o = some (-1) ∧ H4 = H1) I1 ⟨1, rfl, -1, rfl, rfl, rfl⟩) fun vs s4 ⟨o, H4, I4, ps, eo, e4⟩ => ?_
  subst eo e4
  have I5 : Inv X pins σ H4 { s4 with heap := s4.heap.push { cls := .type "slice", data := .fields #[.none, .none, vs] } } := I4.kept (t' := s4.toks) fun b ob q => Heap.get?_push_of_some _ q
  obtain ⟨its, r, ht, hz⟩ := I5.tuple hx
  have hlen := r.length
  show wpAny (model X.prog X.w) X.A (subscriptTail e (.Slice none none (some (.UnaryOp .USub (.Constant (.int 1) k p1) p2)) p3) (.ref a) (.ref s4.heap.objs.size)) (EP X pins σ Q) X.xe { s4 with heap := s4.heap.push { cls := .type "slice", data := .fields #[.none, .none, vs] } }
  refine tail_any (ops := [.ref a, .ref s4.heap.objs.size]) ht.typeIs (PyProof.Rows.slot_tuple_getitem.lookup) ?_ (by with_unfolding_all rfl)
  refine HT.tt_getItem_tuple_rev ht (Heap.IsSliceOf.new _ .none .none vs) ps ?_ (by rw [List.size_toArray]; omega)
  refine ⟨.ref _, _, I5.laid (t' := s4.toks) (o := .tup xs.reverse) (fun b ob q => Heap.get?_push_of_some _ q) (Nat.le_refl _) ?_, rfl, q _ (I5.hok.fresh (Nat.le_refl _))⟩
  exact ⟨by rw [List.length_reverse]; exact hz, _, r.reverse, IsTup.new _ _⟩
end
section
variable {X : Cx} {K : PySem.W.Frag}
theorem ix_listK (h : X.K = K) : IxR X (rIxL K) := by subst h; exact ix_list
theorem ix_tupK (h : X.K = K) : IxR X (rIxT K) := by subst h; exact ix_tup
theorem call_len_seqK (h : X.K = K) : CallR X (.builtin "len") (fun xs H Q => ∃ p ys, xs = [.ref p] ∧ (SqL K H p ys ∨ SqT K H p ys) ∧ Q (.int ys.length) H) := by subst h; exact call_len_seq
theorem op_in_seqK (h : X.K = K) : OpR X (compareOp .In) (rIn K false) := by subst h; exact op_in_seq
theorem op_notIn_seqK (h : X.K = K) : OpR X (compareOp .NotIn) (rIn K true) := by subst h; exact op_notIn_seq
theorem op_eqDK (h : X.K = K) (hu : X.A.units + 64 < cLine) : OpR X (compareOp .Eq) (rEqD K) := by subst h; exact op_eqD hu
theorem op_neDK (h : X.K = K) (hu : X.A.units + 64 < cLine) : OpR X (compareOp .NotEq) (rNeD K) := by subst h; exact op_neD hu
theorem op_catAK (h : X.K = K) : OpR X (binaryOp .Add) (rCatA K) := by subst h; exact op_catA
theorem sl_listK (h : X.K = K) : SlR X (rSlL K) := by subst h; exact sl_list
theorem sl_tupAK (h : X.K = K) : SlR X (rSlA K) := by subst h; exact sl_tupA
theorem call_tuple_ofK (h : X.K = K) : CallR X (.type "tuple") (fun xs H Q => ∃ p ys, xs = [.ref p] ∧ ((SqL K H p ys ∧ ∀ l, H l = none → Q (.ref l) (upd H l (.tup ys))) ∨ (SqT K H p ys ∧ Q (.ref p) H))) := by subst h; exact call_tuple_of
theorem call_list_ofK (h : X.K = K) : CallR X (.type "list") (fun xs H Q => ∃ p ys, xs = [.ref p] ∧ (SqL K H p ys ∨ SqT K H p ys) ∧ ∀ l, H l = none → Q (.ref l) (upd H l (.lst ys))) := by subst h; exact call_list_of
theorem call_type1K (h : X.K = K) : CallR X (.type "type") (rTyp K) := by subst h; exact call_type1
theorem pe_fldK {e : Expr} {ta : TE} {f : Str} {pos : Pos} (h : X.K = K) (he : PE X e ta) (hb : attributeBase e f X.env (eval e X.env) = eval e X.env) : PE X (.Attribute e f pos) (tFld K ta f) := by subst h; exact pe_fld he hb
theorem mt_tup_indexIK (h : X.K = K) : MtR X "tuple.index" (fun x xs H Q => ∃ p, ∃ ys : List Int, ∃ z j, x = .ref p ∧ xs = [.int z] ∧ SqT K H p (ys.map V.int) ∧ ys[j]? = some z ∧ (∀ m, m < j → ys[m]? ≠ some z) ∧ Q (.int (j : Nat)) H) := by subst h; exact mt_tup_indexI
theorem pe_bmK {T name id : String} {r : V → List V → Hp → VK → Prop} {o e : Expr} {es : List Expr} {to : TE} {t : TA} {apos cpos : Pos} (hk : X.K = K) (pa : PlainAttrs T) (slot : Slot T name id) (hty : typeOf (.builtin id) = pure (.type "method_descriptor")) (hm : MtR X id r) (ho : PE X o to) (ha : PA X (e :: es) t)
    (hbase : attributeBase o name X.env (eval o X.env) = eval o X.env := by rfl)
    (hfew : ((backTo cpos (starEach (e :: es) X.env)).all (fun x => !x.1) && (backToKw cpos (keywordEach [] X.env)).all (fun x => x.1.isSome)
      && decide ((e :: es).length + ([] : List Keyword).length + (if ([] : List Keyword).isEmpty then 0 else 1) < 30)) = true := by rfl)
    (hline : (apos.endLine == cpos.line) = true := by rfl) (hpl : (backTo cpos (starEach es X.env)).any (·.1) = false := by rfl) (hs : starEach (e :: es) X.env = (false, eval e X.env) :: starEach es X.env := by rfl) :
    PE X (.Call (.Attribute o name apos) (e :: es) [] cpos) (tBM K T r to t) := by
  subst hk
  first
    | exact pe_bm pa slot hty hm ho ha hbase hfew hline hpl hs
    | exact pe_bm pa slot hty hm ho ha hbase hfew hline hs hpl
    | exact pe_bm pa slot hty hm ho ha hbase hfew hline
    | exact pe_bm pa slot hty hm ho ha
end
end L2
set_option maxRecDepth 100000
set_option maxHeartbeats 4000000
namespace PySem.W
open PySem PySem.Spec PySem.Calls PyProof.Rows
section
variable {prog : Program} {w : World} {A : Around} {E : Value → Shared → Prop} {s : Shared} {K : Frag} {x D : Addr} {ox : Obj}
theorem tt_findObj_data {C : Addr} {od : Option Obj} {name : Str} {a g : Value} (hc : (clsIn K C).isSome = true) (ha : findIn K (.ref C) name = some (some a)) (hg : specialIn K a "__get__" = some (some g)) (ht : takesIn K a = some true) : findObj K C od name = some (.bind g a) := by
  obtain ⟨cd, hc⟩ := Option.isSome_iff_exists.mp hc
  unfold findObj
  rw [hc, Option.bind_some, ha, Option.bind_some]
  simp [hg, ht]
theorem tt_kin_classE {od : Option Obj} {Q : Option Value → Shared → Prop} (hga : findIn K (.ref D) "__getattribute__" = some (some (.builtin "BaseException.__getattribute__"))) (hgt : findIn K (.ref D) "__getattr__" = some none) (hsub : subIn K (.ref D) (.type "BaseException") = some true)
    (hdct : hasDictIn K D = true) (ha : findIn K (.ref D) "__class__" = some (some (.builtin "object.__class__")))
    (hn : specialIn K (.builtin "object.__class__") "__get__" = some (some (.builtin "getset_descriptor.__get__"))) (htk : takesIn K (.builtin "object.__class__") = some true) (hm : mroIn K D (.type "object") = some true)
    (X : K.In s.heap) (I : InstAt s.heap x ox D od) (h : Q (some (.ref D)) { s with toks := s.toks + 1 }) : wpAny (model prog w) A (getAttr? (.ref x) "__class__") Q E s := by
  have hf : findObj K D od "__class__" = some (.bind (.builtin "getset_descriptor.__get__") (.builtin "object.__class__")) := tt_findObj_data (by obtain ⟨cd, hc, _⟩ := any_some hdct; rw [hc]; rfl) ha hn htk
  obtain ⟨hp, g, d, t, os⟩ := s
  have L0 := I.type (M := model prog w)
  have L1 := looks_findIn (M := model prog w) X hga
  have L2 := looks_findIn (M := model prog w) X hgt
  have L3 := looks_find (M := model prog w) X I hf
  have sub : Looks (model prog w) hp (isInstance (.ref x) (.type "BaseException")) true := L0.andThen (looks_subIn X hsub)
  have hx0 : (false && onTheHeap (Value.builtin "BaseException.__getattribute__")) = false := rfl
  have hx2 : (Value.builtin "BaseException.__getattribute__" == Value.builtin "object.__getattribute__") = false := by decide +kernel
  have hx1 : (onTheHeap (Value.ref D) && Value.builtin "BaseException.__getattribute__" == Value.builtin "object.__getattribute__") = false := by rw [hx2]; rfl
  unfold getAttr? getAttrBy? getAttrBy
  refine wpAny_bind (wpAny_mkText (wpAny_bind (wpAny_attempt (wpAny_holding (wpAny_bind (L0.at (wpAny_bind (L1.at ?_))))))))
  show wpAny _ _ (if (onTheHeap (Value.ref D) && Value.builtin "BaseException.__getattribute__" == Value.builtin "object.__getattribute__") = true then _ else _) _ _ _
  rw [hx1, if_neg Bool.false_ne_true]
  unfold getAttrByItsOwn hookBefore
  refine wpAny_bind ?_
  rw [if_pos (show onTheHeap (Value.ref D) = true from rfl)]
  refine L2.at ?_
  refine wpAny_bind (wpAny_attempt (wpAny_holding ?_))
  unfold callGetattribute
  rw [hx0, if_neg Bool.false_ne_true]
  unfold boundAndCalled
  rw [PySem.F.excAttr_ValueError.ga.bind (.ref x)]
  refine wpAny_bind (wpAny_pure ?_)
  show wpAny _ _ (call (.builtin "BaseException.__getattribute__") [.ref x, .str "__class__" t]) _ _ _
  refine wpAny_call (codeAny_call_builtin PySem.F.excAttr_ValueError.ga.plain PySem.F.entry_bexc_ga ?_)
  refine @check_slot (model prog w) _ _ ⟨hp, g, d, t + 1, os⟩ "BaseException.__getattribute__" "BaseException" "__getattribute__" (.ref x) [.str "__class__" t] [] _ (by decide +kernel) (by decide +kernel) sub (PySem.F.args_bexc_ga (.ref x) (.str "__class__" t)) ?_
  unfold Builtin.«object.__getattribute__»
  refine wpAny_bind (wpAny_of_eq (a := ((Value.ref x : Value), [Value.str "__class__" t])) (by first | rfl | (simp only [slotArgs]; rfl)) ?_)
  refine wpAny_bind (wpAny_pure (wpAny_bind (L0.at (wpAny_bind (L3.at ?_)))))
  show wpAny _ _ (holding [Value.builtin "object.__class__"] (call (.builtin "getset_descriptor.__get__") [.builtin "object.__class__", .ref x, .ref D]) >>= ret) _ _ _
  refine wpAny_bind (wpAny_holding (wpAny_call (class_get (s := ⟨hp, g, d, t + 1, os⟩) (ox := ox) (od := od) X I hm ?_)))
  refine wpAny_pure ?_
  show wpAny _ _ (handedOut (.ref D)) _ _ _
  rw [handedOut_of (v := .ref D) rfl]
  first
    | exact wpAny_pure (wpAny_pure h)
    | exact wpAny_pure h
    | exact wpAny_pure (wpAny_bind (wpAny_pure (wpAny_pure h)))
theorem tt_kitx_exc {od : Option Obj} (hga : findIn K (.ref D) "__getattribute__" = some (some (.builtin "BaseException.__getattribute__"))) (hgt : findIn K (.ref D) "__getattr__" = some none) (hsub : subIn K (.ref D) (.type "BaseException") = some true) (hdct : hasDictIn K D = true) (ha : findIn K (.ref D) "__class__" = some (some (.builtin "object.__class__")))
    (hn : specialIn K (.builtin "object.__class__") "__get__" = some (some (.builtin "getset_descriptor.__get__"))) (htk : takesIn K (.builtin "object.__class__") = some true) (hm : mroIn K D (.type "object") = some true) :
    KitX K (.ref x) (.ref D) (fun h => InstAt h x ox D od) where
  ty := fun _ _ _ I => I.type
  it := fun _ _ X _ => by
    obtain ⟨cdD, hcD, _⟩ := any_some hdct
    unfold clsIn at hcD
    split at hcD
    · rename_i c' d' cd' sl' ho
      intro A' Q' E' s' k q
      unfold isType loadHead
      exact wpAny_bind (wpAny_loadPart (k _ _ (X _ _ ho)) (wpAny_pure q))
    · cases hcD
  ne := fun h tp dd its n sl X htp => by
    obtain ⟨cdD, hcD, _⟩ := any_some hdct
    refine Bool.eq_false_iff.mpr fun q => ?_
    have e : D = tp := Value.ref.inj (beq_iff_eq.mp q)
    subst e
    unfold clsIn at hcD
    split at hcD
    · rename_i c' d' cd' sl' ho
      have z := (X _ _ ho).symm.trans htp
      cases z
    · cases hcD
  ca := fun X I k => tt_kin_classE hga hgt hsub hdct ha hn htk hm X I k
end
end PySem.W
namespace L2
open PySem PySem.Spec PyProof.Rows
def exh (cls : Value) (d : Option Addr) (a : Addr) : HO := .ext fun h => ∃ (oe : Obj) (vs : Array Value), h.get? a = some oe ∧ Zc cls d oe ∧ oe.data = .fields vs
theorem exh_ok {P : Program} {w : World} {H : Hp} {h : Heap} {a : Addr} {cls : Value} {d : Option Addr} {oe : Obj} {vs : Array Value} (e : h.get? a = some oe) (z : Zc cls d oe) (hd : oe.data = .fields vs) : ObjOk P w H h a (exh cls d a) :=
  ⟨⟨oe, vs, e, z, hd⟩, ⟨oe, e⟩, fun _ _ ⟨o, v, q, r⟩ k => ⟨o, v, k o q, r⟩⟩
theorem exh_at {P : Program} {w : World} {H : Hp} {h : Heap} {a : Addr} {cls : Value} {d : Option Addr} (hok : HOk P w H h) (e : H a = some (exh cls d a)) : ∃ (oe : Obj) (vs : Array Value), h.get? a = some oe ∧ Zc cls d oe ∧ oe.data = .fields vs := by
  have x : ObjOk P w H h a (.ext fun h => ∃ (oe : Obj) (vs : Array Value), h.get? a = some oe ∧ Zc cls d oe ∧ oe.data = .fields vs) := hok a _ e
  exact x.1
def XdOk (H : Hp) (d : Option Addr) : Prop := d = none ∨ ∃ (dd : Addr) (fs : List (Str × V)), d = some dd ∧ H dd = some (.xd fs)
section
variable {X : Cx} {pins : List (Addr × Obj)} {σ : St} {H : Hp} {s : Shared}
theorem exh_inst {a D : Addr} {d : Option Addr} (I : Inv X pins σ H s) (e : H a = some (exh (.ref D) d a)) (hd : XdOk H d) : ∃ (oe : Obj) (od : Option Obj), PySem.W.InstAt s.heap a oe D od := by
  obtain ⟨⟨oc, odc, oda, osl⟩, vs, h1, ⟨h2, h3⟩, h4⟩ := exh_at I.hok e
  dsimp only at h2 h3 h4
  subst h2 h3 h4
  rcases hd with rfl | ⟨dd, fs, rfl, ed⟩
  · exact ⟨_, none, ⟨h1, rfl, rfl, trivial⟩⟩
  · have hx : ObjOk X.prog X.w H s.heap dd (.xd fs) := I.hok dd _ ed
    obtain ⟨mA, ⟨o, _, _, ho, _⟩, _⟩ := hx
    exact ⟨_, some o, ⟨h1, rfl, rfl, ho⟩⟩
def rIsH (K : PySem.W.Frag) : List V → Hp → VK → Prop := fun xs H Q => ∃ (a D : Addr) (d : Option Addr) (c : V) (cv : Value) (b : Bool), xs = [.ref a, c] ∧ H a = some (exh (.ref D) d a) ∧ XdOk H d ∧ ExcC K D ∧ ClsV c cv ∧ PySem.W.kitOne K (.ref D) cv = some b ∧ Q (.bl b) H
theorem call_isH : CallR X (.builtin "isinstance") (rIsH X.K) := by
  intro pins s σ H xs us Q I r h
  obtain ⟨a, D, d, c, cv, b, rfl, ea, hd, C, hc, e, q⟩ := h
  cases r with
  | cons rx rr =>
    cases rr with
    | cons rt rr =>
      cases rr
      cases rx
      have ec := hc.eq rt
      subst ec
      obtain ⟨oe, od, J⟩ := exh_inst I ea hd
      exact PySem.W.kia_one (PySem.W.tt_kitx_exc C.hg C.hk C.hs C.hd C.ha C.hn C.ht C.hm) I.kIn J e (fun z => nomatch z) fun tk => ⟨.bl b, H, I.kept (t' := tk) fun _ _ z => z, rfl, q⟩
def rIsA (K : PySem.W.Frag) : List V → Hp → VK → Prop := fun xs H Q => rIsH K xs H Q ∨ rIsi K xs H Q
theorem call_isA : CallR X (.builtin "isinstance") (rIsA X.K) := by
  intro pins s σ H xs us Q I r h
  rcases h with h | h
  · exact call_isH pins s σ H xs us Q I r h
  · exact call_isi pins s σ H xs us Q I r h
def tXfH (K : PySem.W.Frag) (n : Str) (te : TE) : TE := fun σ H Q => te σ H fun x H1 => ∃ (a C dd : Addr) (fs : List (Str × V)) (v : V), x = .ref a ∧ H1 a = some (exh (.ref C) (some dd) a) ∧ H1 dd = some (.xd fs) ∧ XfC K C ∧ PySem.W.findIn K (.ref C) n = some none ∧ fs.lookup n = some v ∧ Q v H1
theorem pe_xfH {e : Expr} {te : TE} {pos : Pos} {n : Str} (he : PE X e te) (hb : attributeBase e n X.env (eval e X.env) = eval e X.env := by rfl) :
    PE X (.Attribute e n pos) (tXfH X.K n te) := by
  refine ⟨fun pins s σ H Q I h => ?_⟩
  refine attr_of hb (thn (he.run pins s σ H _ I h) fun u s1 hh => ?_)
  obtain ⟨x, H1, I1, rx, a, C, dd, fs, v, ex, ea, ed, T, hno, l, q⟩ := hh
  subst ex
  obtain rfl : u = Value.ref a := rx
  obtain ⟨oe, vs, ha, hz, hd⟩ := exh_at I1.hok ea
  have hx : ObjOk X.prog X.w H1 s1.heap dd (.xd fs) := I1.hok dd _ ed
  obtain ⟨mA, hns, hr⟩ := hx
  obtain ⟨od, ho, hl⟩ := lookIn_ns hns
  obtain ⟨u, hu, ru⟩ := RelO.some_of (v := v) (o := mA n) (by rw [← l]; exact hr n)
  have J : PySem.W.InstAt s1.heap a oe C (some od) := ⟨ha, hz.1, by unfold PySem.W.notCls; rw [hd] <;> rfl, by rw [hz.2]; exact ho⟩
  exact HandSPX.exc_get I1.kIn J T.ga T.gg T.exC (PySem.W.findObj_own T.hdC hno rfl (by rw [hl, hu])) (handed_of ru) ⟨v, H1, I1.tok _, ru, q⟩
theorem Inv.adopt {a : Addr} {o : Obj} {φ : Heap → Prop} (I : Inv X pins σ H s) (he : s.heap.get? a = some o) (na : H a = none) (n0 : X.s_0.heap.get? a = none) (nL : a ≠ X.env.locals) (np : ∀ p ∈ X.pn ++ pins, p.1 ≠ a)
    (nc : ∀ x c, X.env.cells.lookup x = some c → c ≠ a) (ok : ObjOk X.prog X.w (upd H a (.ext φ)) s.heap a (.ext φ)) : Inv X pins σ (upd H a (.ext φ)) s := by
  refine ⟨I.ok, I.os, I.bare, ⟨I.base.keep, I.base.slot, fun b u q n hx => ?_, I.base.there, fun b xs q => ?_, fun b u v q => ?_, fun b ps q => ?_⟩, I.loc, I.cell, ?_, fun x c e => ?_, fun p hp => ?_, fun b u e => ?_, I.len⟩
  · rw [upd_ne (fun z => by rw [z, n0] at q; cases q)]
    exact I.base.free b u q n hx
  · have z := I.base.tups b xs q
    rw [upd_ne (ne_of_none z na)]
    exact z
  · have z := I.base.frzs b u v q
    rw [upd_ne (ne_of_none z na)]
    exact z
  · obtain ⟨m, z⟩ := I.base.tbls b ps q
    exact ⟨m, by rw [upd_ne (ne_of_none z na)]; exact z⟩
  · rw [upd_ne nL.symm]
    exact I.free
  · rw [upd_ne (nc x c e)]
    exact I.freeC x c e
  · obtain ⟨e1, e2, e3⟩ := I.pin p hp
    exact ⟨e1, by rw [upd_ne (np p hp)]; exact e2, e3⟩
  · by_cases hb : b = a
    · subst hb
      rw [upd_same] at e
      cases e
      exact ok
    · rw [upd_ne hb] at e
      exact (I.hok b u e).stay (fun c v _ q => q) (fun c q => by rw [upd_ne (ne_of_none q na)]; exact q) fun c xs q => by rw [upd_ne (ne_of_none q na)]; exact q
end
end L2
set_option maxRecDepth 100000
set_option maxHeartbeats 4000000
namespace L2
open PySem PySem.Spec PyProof.Rows
def wKeep (K : PySem.W.Frag) (c : Value) (i : Nat) (ts : Addr → Value → Option Addr → TS) (Wout : WX) (D : Ends) : WX := fun cls d σ H =>
  ∃ b, PySem.W.exmOne K cls c = some b ∧ (b = true → ∀ a, H a = none → ts a cls d { nx := fun σ' H' => H' a = none ∧ D.nx (σ'.set i none) (upd H' a (exh cls d a)), rt := fun _ _ => False, bk := fun _ _ => False, ct := fun _ _ => False } (σ.set i (some (.ref a))) H) ∧
    (b = false → Wout cls d σ H)
section
variable {X : Cx} {x n : Str} {c : Value} {i : Nat} {body suite : List Stmt} {b₀ : Stmt} {np pos pos' : Pos} {tb : WX → TS} {ts : Addr → Value → Option Addr → TS} {Wout : WX}
theorem ps_try_keep (hs : X.stack = X.env :: X.outer) (hf : X.env.frame = some X.env.locals) (hex : X.ex = []) (hN : X.N.Nodup) (hi : X.N[i]? = some n) (hln : X.env.kindOf n = some .local) (hc : Names X x c) (tk : Takes X Wout)
    (hb : ∀ (W : WX) (pn : List (Addr × Obj)) (xe : Value → Shared → Prop), Takes (X.tr pn xe) W → PassesOwn (model X.prog X.w) X.A X.env xe → PSs (X.tr pn xe) body (tb W))
    (hsu : ∀ (a : Addr) (oe : Obj) (cls : Value) (d : Option Addr) (pn : List (Addr × Obj)), Zc cls d oe → (∃ vs, oe.data = .fields vs) → PSs (X.suite a ((a, oe) :: pn)) (b₀ :: suite) (ts a cls d)) :
    PS X (.Try body [.ExceptHandler (some (.Name x np)) (some n) (b₀ :: suite) pos'] [] [] pos) (fun D σ H => tb (wKeep X.K c i ts Wout D) D σ H) := by
  refine ⟨fun pins s σ H D I h => ?_⟩
  have ok := I.ok
  have hfr : X.A.frames = some (X.env :: X.outer) := by rw [ok.frames, hs]
  have hloc : Loc X.env.scope n := .inl hln
  refine wpAny_Try_except ?_
  refine wpAny_mono ((hb (wKeep X.K c i ts Wout D) (X.pn ++ pins) (fun e s₁ => wpAny (model X.prog X.w) X.A (noteFrame e X.env) (fun _ s₂ => wpAny (model X.prog X.w) X.A (setFlight e none) (fun _ s₃ =>
    wpAny (model X.prog X.w) X.A (handleBy e X.env [.ExceptHandler (some (.Name x np)) (some n) (b₀ :: suite) pos']) (SP X pins D) X.xe s₃) X.xe s₂) X.xe s₁) (fun u s' xx => ?_) PassesOwn.looking).run [] s σ H D (I.toTry _) h) (fun f s1 hsp => ?_) (fun e s1 he => he)
  ·
    obtain ⟨a, B, sI, pins', σ', H', cls, d, rfl, J', nb, up, sky, na, os, ag, b, hb1, hyes, hno⟩ := xx
    have J : Inv X pins σ' H' sI := J'.ofTry ok
    have sky' : Sky B (X.env :: X.outer) a (Zc cls d) X.env.locals s'.heap := by rw [← hs]; exact sky
    show wpAny (model X.prog X.w) X.A (noteFrame (.ref a) X.env) _ _ _
    refine Sky.land Zc.steady hfr hf sky' fun h3 fl3 up3 => ?_
    have J3 : Inv X pins σ' H' { s' with heap := h3 } := J.landed nb fl3.1 (up.trans up3) os ag
    obtain ⟨oe3, vs3, he3, hz3, hd3⟩ := fl3.there
    have notFr : ∀ {h : Heap} {o : Obj} {vs : Array Value}, h.FunFrames B (X.env :: X.outer) → h.get? a = some o → o.data = .fields vs → a ∉ frs (X.env :: X.outer) := fun {h o vs} ff e dd hm => by
      obtain ⟨_, o', e', hnf⟩ := ff.mem hm
      rw [e] at e'; cases e'
      exact hnf _ dd
    have nfr := notFr fl3.2.2.1 he3 hd3
    have nL : a ≠ X.env.locals := fun z => nfr (List.mem_filterMap.mpr ⟨X.env, List.mem_cons_self, by rw [hf, z]⟩)
    have nF : a ∉ X.fs := fun hm => by
      obtain ⟨e, he, q⟩ := List.mem_filterMap.mp hm
      exact nfr (List.mem_filterMap.mpr ⟨e, List.mem_cons_of_mem _ he, q⟩)
    have nB : B.get? a = none := fl3.2.1
    have nfr' : a ∉ frs X.stack := by rw [hs]; exact nfr
    have nI : sI.heap.get? a = none := by
      cases q : sI.heap.get? a with
      | none => rfl
      | some o =>
        have z := nb a o q nfr'
        rw [nB] at z
        cases z
    have n0 : X.s_0.heap.get? a = none := by
      cases q : X.s_0.heap.get? a with
      | none => rfl
      | some o =>
        obtain ⟨o', q'⟩ := J.base.there a o q (by rw [hex]; exact fun z => nomatch z)
        rw [nI] at q'
        cases q'
    have npin : ∀ p ∈ X.pn ++ pins, p.1 ≠ a := fun p hp z => by
      obtain ⟨e, _⟩ := J.pin p hp
      rw [z, nI] at e
      cases e
    have S3 := J3.suite he3 hd3 na nL nF
    refine wpAny_handleBy_cons (codeAny_handlers_test ?_) (by intro q; cases q)
    have LT : PySem.W.Looks (model X.prog X.w) h3 (typeOf (.ref a)) cls := fun A Q E s k q => wpAny_typeOf_ref (k _ _ he3) (by rw [hz3.1]; exact q)
    have LM := PySem.W.exm_one (M := model X.prog X.w) (J3.kIn) LT hb1
    have test : ∀ {Q : Value → Shared → Prop} {E : Value → Shared → Prop}, Q c { s' with heap := h3 } → wpAny (model X.prog X.w) (X.A.mark (some (.ref a))) (eval (.Name x np) X.env) Q E { s' with heap := h3 } := fun {Q E} q => by
      obtain ⟨hg, hdbg, hm | ⟨hm, hv, hnn⟩⟩ := hc
      · exact ld_glob (X := X.suite a ((a, oe3) :: (X.pn ++ pins))) S3 hg hm q hdbg
      · exact ld_blt (X := X.suite a ((a, oe3) :: (X.pn ++ pins))) S3 hg hm hv q hnn hdbg
    refine test (LM.here ?_)
    cases b with
    | true =>
      refine codeAny_handlers_suite_as ?_
      refine HandSPX.lands_againZ fl3 fun h4 fl4 up4 => ?_
      have J4 : Inv X pins σ' H' { s' with heap := h4 } := J.landed nb fl4.1 ((up.trans up3).trans up4) os ag
      obtain ⟨oe4, vs4, he4, hz4, hd4⟩ := fl4.there
      have S4 := J4.suite he4 hd4 na nL nF
      refine store_ok (X := X.suite a ((a, oe4) :: (X.pn ++ pins))) (v := .ref a) S4 hN hi hloc rfl (fun s5 S5 => ?_) (.inr hln)
      refine wpAny_mono ((hsu a oe4 cls d (X.pn ++ pins) hz4 ⟨_, hd4⟩).run [] s5 _ H' _ S5 (hyes rfl a na)) (fun f s6 hsp => ?_) (fun _ _ z => False.elim z)
      cases f with
      | next =>
        obtain ⟨σ6, H6, S6, n6, q6⟩ := hsp
        obtain ⟨he6, _⟩ := S6.pin (a, oe4) (List.mem_append.mpr (.inl List.mem_cons_self))
        have J6 : Inv X pins σ6 H6 s6 := S6.unsuite ok
        have nc : ∀ y c, X.env.cells.lookup y = some c → c ≠ a := fun y c e z => by
          obtain ⟨v, o, ho, hv⟩ := J6.cell y c e
          rw [z, he6] at ho
          cases ho
          rw [hd4] at hv
          cases hv
        have J7 : Inv X pins σ6 (upd H6 a (exh cls d a)) s6 := J6.adopt he6 n6 n0 nL npin nc (exh_ok he6 hz4 hd4)
        exact gone_ok J7 hN hi hln fun s7 J8 => ⟨_, _, J8, q6⟩
      | brk =>
        obtain ⟨σ6, H6, S6, q6⟩ := hsp
        exact False.elim q6
      | cont =>
        obtain ⟨σ6, H6, S6, q6⟩ := hsp
        exact False.elim q6
      | ret u =>
        obtain ⟨v6, σ6, H6, S6, r6, q6⟩ := hsp
        exact False.elim q6
    | false =>
      show wpAny _ X.A (handleBy (.ref a) X.env []) _ _ _
      refine wpAny_handleBy_nil ?_
      obtain ⟨k1, k2, k3, oe, vs, T, oT, ts', he, hz, hd, h1, hr⟩ := id fl3
      unfold PySem.passOn
      refine wpAny_bind (wpAny_field he hd h1 ?_)
      rw [if_neg (show ¬ ((Value.ref T == Value.none) = true) from by simp)]
      have fin : wpAny (model X.prog X.w) X.A (setFlight (.ref a) X.env.frame) (fun _ s4 => wpAny (model X.prog X.w) X.A (throw (.ref a) : Sem Flow) (SP X pins D) X.xe s4) X.xe { s' with heap := h3 } := by
        rw [hf]
        refine HandSPX.setFlight_upZ fl3 fun h4 hh4 up4 => wpAny_throw (tk _ _ ?_)
        exact ⟨a, B, sI, pins, σ', H', cls, d, rfl, J, nb, (up.trans up3).trans up4, .inr (.inr (by rw [hs]; exact hh4)), na, os, ag, hno rfl⟩
      first
        | exact wpAny_bind (wpAny_pure (wpAny_bind fin))
        | exact wpAny_bind fin
  · cases f with
    | next =>
      obtain ⟨σ', H', J', q⟩ := hsp
      exact wpAny_execs_nil ⟨σ', H', J'.ofTry ok, q⟩
    | brk =>
      obtain ⟨σ', H', J', q⟩ := hsp
      exact ⟨σ', H', J'.ofTry ok, q⟩
    | cont =>
      obtain ⟨σ', H', J', q⟩ := hsp
      exact ⟨σ', H', J'.ofTry ok, q⟩
    | ret u =>
      obtain ⟨v, σ', H', J', r, q⟩ := hsp
      exact ⟨v, σ', H', J'.ofTry ok, r, q⟩
end
end L2
set_option maxRecDepth 100000
set_option maxHeartbeats 4000000
namespace LamX
open PySem PySem.Spec PyProof.Rows L2
section
variable {X : Cx} {pins : List (Addr × Obj)} {σ : L2.St} {H : Hp} {s : Shared}
theorem tt_act {CXg : CXT} {Eg : XK} {names : List Str} {qg : Str} {sg : Scope} {g fl co : Addr} {cdg pm ctv : Value} {ps : Arguments} {bd : Expr} {lsc : Scope} {k i : Nat} {a : Str} {pn : List (Addr × Obj)} {xe : Value → Shared → Prop} {W : WX} {Ew : L2.St → XK} {rd : XK → TE} {p1 p2 : Pos}
    (I : Inv X pins σ H s) (L : LamS X.env.scope lsc) (h1 : s.heap.get? fl = some (PySem.W.kla_obj "<lambda>" (X.env.qual ++ "<lambda>") ps bd lsc (cloFrom X.env.cells lsc.names []) pm co ctv)) (h2 : H fl = none) (h3 : fl ∉ frs X.stack)
    (noArgs : bindArgs (PySem.W.kla_fn "<lambda>" (X.env.qual ++ "<lambda>") ps bd lsc (cloFrom X.env.cells lsc.names []) pm (.ref co) ctv) ⟨[], []⟩ = pure [])
    (tk : Takes ((cxOf CXg X.prog X.w X.K X.mg X.base names qg sg g cdg X.A X.stack s H Eg).tr pn xe) W) (wish : ∀ τ cls d H', Ew τ cls d H' → W cls d τ H') (room : Room (k + 1) (X.A.deeper (envOfC qg sg s.heap.objs.size g cdg)))
    (body : ∀ (E : XK) (A : Around) (outer : List Env) (s : Shared) (H : Hp), Room k (A.deeper (lamEnv X lsc s.heap.objs.size fl co)) → PE (lamCx X A outer s H E lsc fl co) bd (rd E))
    (at_ : names[i]? = some a) (vis : Vis sg a) (n1 : (a == ("__debug__" : Str)) = false) (n2 : (a == ("__classdict__" : Str)) = false) :
    PE ((cxOf CXg X.prog X.w X.K X.mg X.base names qg sg g cdg X.A X.stack s H Eg).tr pn xe) (.Call (.Name a p1) [] [] p2)
      (fun τ G Q => τ[i]? = some (some (.ref fl)) ∧ G co = some (CodeO co (X.env.qual ++ "<lambda>")) ∧ rd (Ew τ) σ G Q) := by
  refine ⟨fun pz sz τ G Q J hyp => ?_⟩
  obtain ⟨slot, code, want⟩ := hyp
  have load := (pe_var (pos := p1) (i := i) at_ vis n1 n2).run pz sz τ G (fun v G' => v = .ref fl ∧ G' = G) J ⟨.ref fl, slot, rfl, rfl⟩
  refine wpAny_Call_Name_kw (thn load fun u s1 ⟨v, G', J1, ru, ev, eG⟩ => ?_)
  subst ev eG
  obtain rfl : u = Value.ref fl := ru
  have here : s1.heap.get? fl = some (PySem.W.kla_obj "<lambda>" (X.env.qual ++ "<lambda>") ps bd lsc (cloFrom X.env.cells lsc.names []) pm co ctv) := J1.base.keep fl _ h1 h2 h3 (fun z => nomatch (show fl ∈ ([] : List Addr) from z))
  refine PySem.W.callWith_F0 ⟨_, _, _, _, here⟩ ?_
  have since : Un (frs X.stack) [] H G' s.heap s1.heap := J1.base
  obtain ⟨⟨oc, fields, tok, ho, hf, hq⟩, _, _⟩ := J1.hok co _ code
  have run : codeAny (model X.prog X.w) (X.A.deeper (envOfC qg sg s.heap.objs.size g cdg)) (.call (.ref fl) ⟨[], []⟩) (CR (L2.CX X.prog X.w) (envOfC qg sg s.heap.objs.size g cdg :: X.stack) X.prog X.w G' s1 Q (Ew τ)) s1 := by
    refine PySem.W.kla_callFunE room.depth here rfl L.co L.gen rfl ⟨co, oc, fields, tok, rfl, ho, hf, hq⟩ ?_
    rw [noArgs]
    refine wpAny_pure (wpAny_newFunctionEnv (fun y hy => (L.own y hy).2) (fun y hy => absurd hy (by simp)) (fun h' ns but => ⟨J1.nolimit.fresh _ but, ?_⟩) L.kind)
    have stays : ∀ b o, s1.heap.get? b = some o → h'.get? b = some o := fun b o e => but.extBut b o (Nat.ne_of_lt (Heap.lt_size e)) (Heap.get?_push_of_some _ e)
    have start : Inv (lamCx X (X.A.deeper (envOfC qg sg s.heap.objs.size g cdg)) (envOfC qg sg s.heap.objs.size g cdg :: X.stack) s1 G' (Ew τ) lsc fl co) [] σ G' { s1 with heap := h', toks := s1.toks + ([] : List (Str × Value)).length } :=
      lam_start2 I L J1.env0 room.hd since ns stays
    show codeAny _ _ (.expr bd (lamEnv X lsc s1.heap.objs.size fl co)) _ _
    refine PySem.W.kla_codeExpr (wpAny_mono ((body (Ew τ) _ _ s1 G' (room.deeper _)).run [] _ _ G' Q start want) (fun v s' ⟨x, G2, J2, rx, q⟩ => ?_) fun e s' q => q)
    exact ⟨x, G2, J2.os, J2.bare, J2.base, J2.hok, rx, q⟩
  refine wpAny_call (codeAny_mono run fun r s' q => ?_)
  match r with
  | .error e => exact tk e s' (XE.of_call J1 (fun cls d G2 z => wish τ cls d G2 z) q)
  | .ok (.ret u) => exact J1.after q
  | .ok .next => exact False.elim q
  | .ok .brk => exact False.elim q
  | .ok .cont => exact False.elim q
end
def GivesToS (X : Cx) (names : List Str) (x : Str) (sg : Scope) (g : Addr) (cdg : Value) (bg : List Stmt) (a : Str) (q : Str) (TT : (XK → Hp → VK → Prop) → Hp → VK → Prop) : Prop :=
  ∀ (fl co : Addr) (s : Shared) (H : Hp) (Q : VK) (tl : XK → Hp → VK → Prop),
    (∀ (W : WX) (pn : List (Addr × Obj)) (xe : Value → Shared → Prop) (Ew : L2.St → XK) (p1 p2 : Pos), Takes ((cxOf C8.CX0 X.prog X.w X.K X.mg X.base names x sg g cdg X.A X.stack s H C8.E0).tr pn xe) W → (∀ τ cls d H', Ew τ cls d H' → W cls d τ H') →
      PE ((cxOf C8.CX0 X.prog X.w X.K X.mg X.base names x sg g cdg X.A X.stack s H C8.E0).tr pn xe) (.Call (.Name a p1) [] [] p2) (fun τ G Q => τ[0]? = some (some (.ref fl)) ∧ G co = some (CodeO co q) ∧ tl (Ew τ) G Q)) →
    H co = some (CodeO co q) → TT tl H Q →
    ∃ t, PSs (cxOf C8.CX0 X.prog X.w X.K X.mg X.base names x sg g cdg X.A X.stack s H C8.E0).nox bg t ∧ t { nx := fun _ H' => Q .non H', rt := Q } (L2.start names [.ref fl]) H
section
variable {X : Cx}
theorem tt_lamcall {T : List (Addr × Str)} {TT : (XK → Hp → VK → Prop) → Hp → VK → Prop} {x a : Str} {g c P : Addr} {k : Nat} {pg : Arguments} {bg : List Stmt} {sg : Scope} {dV kV doc pm cdv ct oc : Value} {an od : Option Addr} {osl : Array (Option Value)} {names : List Str}
    {ps : Arguments} {bd : Expr} {lsc : Scope} {t : XK → TE} {p lpos pos : Pos} (hg : Gl X x) (hm : X.mg x = some (.ref g)) (hk : PySem.W.keepIn X.K (.ref g) = true)
    (lk : X.K.lookup g = some ⟨oc, od, .func (PySem.W.fnOf x x pg bg sg dV kV doc pm an cdv ct), osl⟩) (hcg : PySem.W.codeIn X.K cdv x = true) (hb : L2.Binds X.K (PySem.W.fnOf x x pg bg sg dV kV doc pm an cdv ct) [a] []) (Sg : FnScope names [a] sg) (at_ : names[0]? = some a) (vis : Vis sg a)
    (hG : GivesToS X names x sg g cdv bg a (X.env.qual ++ "<lambda>") TT)
    (TB : TabB X.base X.mg c P) (hcode : X.env.code = .ref c) (hmT : (P, X.env.qual ++ "<lambda>") ∈ T) (hu : ∀ p ∈ T, p.1 = P → p.2 = X.env.qual ++ "<lambda>") (hr : Room (k + 2) X.A) (L : LamS X.env.scope lsc) (hdef : defaultsOf ps X.env = ([], []))
    (noArgs : ∀ (q : Str) (cl : List (Str × Addr)) (pm cv ctv : Value), bindArgs (PySem.W.kla_fn "<lambda>" q ps bd lsc cl pm cv ctv) ⟨[], []⟩ = pure [])
    (body : ∀ (A : Around) (outer : List Env) (s : Shared) (H : Hp) (E : XK) (fl co : Addr), Room k (A.deeper (lamEnv X lsc s.heap.objs.size fl co)) → PE (lamCx X A outer s H E lsc fl co) bd (t E))
    (n0 : (x == ("__debug__" : Str)) = false := by decide) (n1 : (a == ("__debug__" : Str)) = false := by decide) (n2 : (a == ("__classdict__" : Str)) = false := by decide) :
    PE X (.Call (.Name x p) [.Lambda ps bd lsc lpos] [] pos) (tLam T TT t) := by
  refine ⟨fun pins s σ H Q I hyp => ?_⟩
  obtain ⟨tabs, want⟩ := hyp
  refine wpAny_Call_Name_kw (ld_glob I hg hm ?_ n0)
  refine PySem.W.callWith_K (h₀ := X.base) I.ok.mod.kin hk ?_ (by rfl) (by rfl)
  show wpAny _ _ (spliced ((false, eval (.Lambda ps bd lsc lpos) X.env) :: backTo pos (starEach [] X.env))) _ _ s
  refine Calls.spliced_cons (lam_make2 I TB hcode hmT hu tabs hdef (L.has I.ok) fun fl co pm' ctv G s' J eN tabs' f1 f2 f3 fc => ?_)
  refine Calls.spliced_nil ⟨J.kIn, ?_⟩
  have run : codeAny (model X.prog X.w) X.A (.call (.ref g) ⟨[.ref fl], []⟩) (CR C8.CX0 X.stack X.prog X.w G s' Q C8.E0) s' := by
    refine run_ofS (N := names) (ps := [a]) (us := [.ref fl]) (vs := [.ref fl]) lk hcg Sg hr J.env0 (hb s' [.ref fl] J.kIn rfl) (.cons rfl .nil) rfl fun hr' => ?_
    obtain ⟨t', ht', hq'⟩ := hG fl co s' G Q (fun E G' Q' => t E σ G' Q') (fun W pn xe Ew p1 p2 tk wish => tt_act (i := 0) J L f1 f2 f3 (noArgs _ _ _ _ _) tk wish hr' (fun E A outer s H room => body A outer s H E fl co room) at_ vis n1 n2) fc (want G eN tabs')
    exact ⟨t', ht'.nox, hq'⟩
  refine wpAny_call (codeAny_mono run fun r s2 q => ?_)
  match r with
  | .error e => exact (show False from q).elim
  | .ok (.ret u) => exact J.after q
  | .ok .next => exact False.elim q
  | .ok .brk => exact False.elim q
  | .ok .cont => exact False.elim q
end
end LamX
set_option maxRecDepth 100000
set_option maxHeartbeats 4000000
namespace L2
open PySem PySem.Spec PyProof.Rows HT
section
variable {X : Cx} {K : PySem.W.Frag}
def FzT (H : Hp) (a : Addr) (xs : List V) : Prop := ∃ ob : Obj, H a = some (.frz ob (.tup xs)) ∧ ob.dict = none
theorem FzT.sq {H : Hp} {a : Addr} {xs : List V} (h : FzT H a xs) : SqT K H a xs := by
  obtain ⟨ob, h, _⟩ := h
  exact .inl (.inr ⟨ob, h⟩)
theorem FzT.new {H : Hp} {p : Addr} {ob : Obj} {xs : List V} (h : ob.dict = none) : FzT (upd H p (.frz ob (.tup xs))) p xs := ⟨ob, upd_same, h⟩
def NwT (H : Hp) (xs : List V) (Q : VK) : Prop := ∀ (p : Addr) (ob : Obj), H p = none → ob.dict = none → Q (.ref p) (upd H p (.frz ob (.tup xs)))
def rTupF (K : PySem.W.Frag) : List V → Hp → VK → Prop := fun xs H Q => ∃ p ys, xs = [.ref p] ∧ ((SqL K H p ys ∧ NwT H ys Q) ∨ (SqT K H p ys ∧ Q (.ref p) H))
theorem call_tuple_ofF : CallR X (.type "tuple") (rTupF X.K) := by
  intro pins s σ H xs us Q I r h
  obtain ⟨p, ys, rfl, h⟩ := h
  obtain ⟨u, rfl, rx⟩ := vals1 r
  cases rx
  rcases h with ⟨hq, q⟩ | ⟨hq, q⟩
  · obtain ⟨its, rv, pl, hz⟩ := I.list hq
    have hn := rv.length
    refine call_tuple_list pl.isList (fun h' kp => ?_) (by simp only [List.size_toArray] <;> omega)
    have J : Inv X pins σ H { s with heap := h' } := I.kept (t' := s.toks) kp
    have J2 : Inv X pins σ (upd H h'.objs.size (.frz { cls := .type "tuple", data := .seq its.toArray } (.tup ys))) { s with heap := h'.push { cls := .type "tuple", data := .seq its.toArray } } :=
      J.laid (t' := s.toks) (fun b o e => Heap.get?_push_of_some _ e) (Nat.le_refl _) ⟨Heap.get?_push_size _ rfl, hz, its, rv, IsTup.new _ _⟩
    exact ⟨.ref h'.objs.size, _, J2, rfl, q _ _ (J.hok.fresh (Nat.le_refl _)) rfl⟩
  · obtain ⟨its, rv, pl, hz⟩ := I.tuple hq
    exact call_tuple_same pl ⟨.ref p, H, I, rfl, q⟩
def rCatF (K : PySem.W.Frag) : R2 := fun x y H Q => ∃ a b xs ys, x = .ref a ∧ y = .ref b ∧ SqT K H a xs ∧ SqT K H b ys ∧ xs ≠ [] ∧ xs.length + ys.length ≤ sizeLine ∧
  (ys = [] → Q (.ref a) H) ∧ (ys ≠ [] → NwT H (xs ++ ys) Q)
theorem op_catF : OpR X (binaryOp .Add) (rCatF X.K) := by
  intro pins s σ H x y v u Q I rx ry h
  obtain ⟨a, b, xs, ys, rfl, rfl, ha, hb, hx, hz, q1, q2⟩ := h
  cases rx
  cases ry
  obtain ⟨its, r1, p1, _⟩ := I.tuple ha
  obtain ⟨its2, r2, p2, _⟩ := I.tuple hb
  refine HT.cat_tup p1 p2 (fun z => hx (r1.nil_iff.mp z)) (fun z => ⟨.ref a, H, I, rfl, q1 (r2.nil_iff.mp z)⟩) (fun z => ?_) (by rw [← r1.length, ← r2.length]; exact hz)
  refine ⟨.ref s.heap.objs.size, _, I.laid (t' := s.toks) (fun b ob q => Heap.get?_push_of_some _ q) (Nat.le_refl _) ?_, rfl, q2 (fun w => z (r2.nil_iff.mpr w)) _ { cls := .type "tuple", data := .seq (its ++ its2).toArray } (I.hok.fresh (Nat.le_refl _)) rfl⟩
  exact ⟨Heap.get?_push_size _ rfl, by rw [List.length_append]; exact hz, _, r1.append r2, IsTup.new _ _⟩
def tyF (K : PySem.W.Frag) (T : String) (x : V) (H : Hp) : Prop := tyV K T x H ∨ (T = "tuple" ∧ ∃ p xs, x = .ref p ∧ FzT H p xs)
theorem tyF_is {pins : List (Addr × Obj)} {σ : St} {H : Hp} {s : Shared} {T : String} {x : V} {v : Value} (I : Inv X pins σ H s) (r : RelV x v) (ty : tyF X.K T x H) :
    s.TypeIs v T ∧ ∀ a, v = .ref a → ∃ ob, s.heap.get? a = some ob ∧ ob.dict = none := by
  rcases ty with ty | ⟨rfl, p, xs, rfl, ob, h, hd⟩
  · exact tyV_is I r ty
  · cases r
    obtain ⟨e, _, its, _, o, e2, hc, _⟩ := (show ObjOk X.prog X.w H s.heap p (.frz ob (.tup xs)) from I.hok p _ h)
    rw [e] at e2
    cases e2
    refine ⟨⟨ob, e, hc⟩, fun a z => ?_⟩
    cases z
    exact ⟨ob, e, hd⟩
def tBMF (K : PySem.W.Frag) (T : String) (r : V → List V → Hp → VK → Prop) (to : TE) (t : TA) : TE := fun σ H Q => to σ H fun x H1 => tyF K T x H1 ∧ t σ H1 fun xs H2 => r x xs H2 Q
variable {o e : Expr} {es : List Expr} {to : TE} {t : TA} {name : Str} {apos cpos : Pos} {T id : String} {r : V → List V → Hp → VK → Prop}
theorem pe_bmF (pa : PlainAttrs T) (slot : Slot T name id) (hty : typeOf (.builtin id) = pure (.type "method_descriptor")) (hm : MtR X id r) (ho : PE X o to) (ha : PA X (e :: es) t)
    (hbase : attributeBase o name X.env (eval o X.env) = eval o X.env := by rfl)
    (hfew : ((backTo cpos (starEach (e :: es) X.env)).all (fun x => !x.1) && (backToKw cpos (keywordEach [] X.env)).all (fun x => x.1.isSome)
      && decide ((e :: es).length + ([] : List Keyword).length + (if ([] : List Keyword).isEmpty then 0 else 1) < 30)) = true := by rfl)
    (hline : (apos.endLine == cpos.line) = true := by rfl) (hs : starEach (e :: es) X.env = (false, eval e X.env) :: starEach es X.env := by rfl) (hplain : (backTo cpos (starEach es X.env)).any (·.1) = false := by rfl) :
    PE X (.Call (.Attribute o name apos) (e :: es) [] cpos) (tBMF X.K T r to t) := by
  refine ⟨fun pins s σ H Q I h => ?_⟩
  refine wpAny_Call_method_late hbase hfew hline rfl (thn (ho.run pins s σ H _ I h) fun v s1 ⟨x, H1, I1, r1, ty, q1⟩ => ?_)
  obtain ⟨h1, h2⟩ := tyF_is I1 r1 ty
  refine ⟨T, id, pa, slot, hty, h1, h2, ?_⟩
  have hA := ha.run cpos pins s1 σ H1 _ I1 q1
  rw [hs] at hA ⊢
  refine Calls.callWith_builtin (by show (false || (backTo cpos (starEach es X.env)).any (·.1)) = false; rw [hplain] <;> rfl) (Calls.evalArgs_plain ?_)
  exact thn hA fun us s2 ⟨vs, H2, I2, r2, q2⟩ => hm pins s2 σ H2 x vs v us Q I2 r1 r2 q2
theorem pe_bmFK (hk : X.K = K) (pa : PlainAttrs T) (slot : Slot T name id) (hty : typeOf (.builtin id) = pure (.type "method_descriptor")) (hm : MtR X id r) (ho : PE X o to) (ha : PA X (e :: es) t)
    (hbase : attributeBase o name X.env (eval o X.env) = eval o X.env := by rfl)
    (hfew : ((backTo cpos (starEach (e :: es) X.env)).all (fun x => !x.1) && (backToKw cpos (keywordEach [] X.env)).all (fun x => x.1.isSome)
      && decide ((e :: es).length + ([] : List Keyword).length + (if ([] : List Keyword).isEmpty then 0 else 1) < 30)) = true := by rfl)
    (hline : (apos.endLine == cpos.line) = true := by rfl) (hs : starEach (e :: es) X.env = (false, eval e X.env) :: starEach es X.env := by rfl) (hplain : (backTo cpos (starEach es X.env)).any (·.1) = false := by rfl) :
    PE X (.Call (.Attribute o name apos) (e :: es) [] cpos) (tBMF K T r to t) := by
  subst hk
  exact pe_bmF pa slot hty hm ho ha hbase hfew hline hs hplain
end
end L2
set_option maxRecDepth 100000
set_option maxHeartbeats 4000000
namespace L2
open PySem PySem.Spec PyProof.Rows
def Swaps (fd : FuncData) (a b : Str) : Prop := ∀ (s : Shared) (v u : Value), BindsTo s fd ⟨[], [(b, v), (a, u)]⟩ [(a, u), (b, v)]
theorem Fun.swaps {K : PySem.W.Frag} {x qual : Str} {st : Stmt} {f : Addr} {fd : FuncData} {a b : Str} (F : Fun K x qual st f fd)
    (h : ∀ (kV doc pm : Value) (an : Option Addr) (cdv ct v u : Value), bindArgs (PySem.W.fnOf x qual (defArgs st) (defBody st) (defScope st) .none kV doc pm an cdv ct) ⟨[], [(b, v), (a, u)]⟩ = pure [(a, u), (b, v)]) : Swaps fd a b := by
  obtain ⟨oc, od, kV, doc, pm, an, cdv, ct, osl, rfl, lk, hcd⟩ := F.ex
  exact fun s v u => BindsTo.of_eq (h kV doc pm an cdv ct v u)
def tSw (sp : Sp) (E : XK) (t1 t2 : TE) : TE := fun σ H Q => tCons t1 (tCons t2 tNil) σ H fun zs H2 => sp zs.reverse H2 Q E
section
variable {X : Cx} {CX : CXT} {k : Nat} {f : Addr} {fd : FuncData} {a b : Str} {sp : Sp} {E : XK} {x : Str} {p p1 p2 pos : Pos} {e1 e2 : Expr} {t1 t2 : TE}
theorem run_sw {pins : List (Addr × Obj)} {σ : St} {H : Hp} {s : Shared} {Q : VK} {v u : V} {v' u' : Value} (F : FnOk X.prog X.w X.K X.mg X.base CX k f fd [a, b] sp) (hr : Room k X.A) (hb : Swaps fd a b) (hx : Passes CX X E)
    (I : Inv X pins σ H s) (r1 : RelV v v') (r2 : RelV u u') (h : sp [u, v] H Q E) : wpAny (model X.prog X.w) X.A (call (.ref f) [] [(b, v'), (a, u')]) (EP X pins σ Q) X.xe s := by
  refine wpAny_call (codeAny_mono (F.run X.A X.stack s H ⟨[], [(b, v'), (a, u')]⟩ [u', v'] [u, v] Q E hr I.env0 (hb s v' u') (.cons r2 (.cons r1 .nil)) h) fun r s' hq => ?_)
  cases r with
  | error e => exact hx pins σ H s e s' I hq
  | ok fl =>
    cases fl with
    | ret u => exact I.after hq
    | next => exact False.elim hq
    | brk => exact False.elim hq
    | cont => exact False.elim hq
theorem pe_callSw (F : FnOk X.prog X.w X.K X.mg X.base CX k f fd [a, b] sp) (hr : Room k X.A) (hg : Gl X x) (hm : X.mg x = some (.ref f)) (hk : PySem.W.keepIn X.K (.ref f) = true) (hb : Swaps fd a b) (hx : Passes CX X E)
    (h1 : PE X e1 t1) (h2 : PE X e2 t2) (hdb : (x == ("__debug__" : Str)) = false := by decide)
    (hall : (backToKw pos (keywordEach [⟨some b, e1, p1⟩, ⟨some a, e2, p2⟩] X.env)).all (·.1.isSome) = true := by rfl) (hks : (backToKw pos (keywordEach [⟨some b, e1, p1⟩, ⟨some a, e2, p2⟩] X.env)).filterMap (·.1) = [b, a] := by rfl)
    (hpl : ((backTo pos (starEach [] X.env)).any (·.1) || (backToKw pos (keywordEach [⟨some b, e1, p1⟩, ⟨some a, e2, p2⟩] X.env)).any (·.1.isNone)) = false := by rfl) :
    PE X (.Call (.Name x p) [] [⟨some b, e1, p1⟩, ⟨some a, e2, p2⟩] pos) (tSw sp E t1 t2) := by
  refine ⟨fun pins s σ H Q I h => ?_⟩
  refine wpAny_Call_Name_kw (ld_glob I hg hm ?_ hdb)
  refine PySem.W.callWith_KW0 (h₀ := X.base) I.ok.mod.kin hk hall ?_ hpl
  refine thn ((pk_cons h1 (pk_cons h2 pk_nil)).run pos pins s σ H _ I h) fun ws s2 ⟨zs, H2, J, rz, q⟩ => ⟨J.kIn, ?_⟩
  rw [hks]
  have hl := F.len _ _ _ _ q
  rw [List.length_reverse] at hl
  cases rz with
  | nil => exact absurd hl (by simp)
  | cons r1 rz =>
    cases rz with
    | nil => exact absurd hl (by simp)
    | cons r2 rz =>
      cases rz with
      | nil => exact run_sw F hr hb hx J r1 r2 q
      | cons r3 rz => exact absurd hl (by simp)
end
end L2
set_option maxRecDepth 100000
set_option maxHeartbeats 4000000
namespace L2
open PySem PySem.Spec PyProof.Rows
section
variable {X : Cx}
def rShow (K : PySem.W.Frag) : List V → Hp → VK → Prop := fun xs H Q => ∃ (a : Addr) (d : PyData), xs = [.ref a] ∧ Dp K H (.ref a) d ∧ d.showable = true ∧ d.hasDict = false ∧ d.depth ≤ 60 ∧ d.shown.length ≤ sizeLine ∧ Q (.str d.shown) H
theorem call_show (hg : X.A.guards = some []) (hu : X.A.units + 64 < cLine) : CallR X (.builtin "repr") (rShow X.K) := by
  intro pins s σ H xs us Q I r h
  obtain ⟨a, d, rfl, hd, h1, h2, h3, h4, q⟩ := h
  obtain ⟨u, rfl, rx⟩ := vals1 r
  cases rx
  obtain ⟨as, rd⟩ := Dp.reads I d (.ref a) (.ref a) hd rfl
  exact repr_of_reads' rd h1 (fun z => absurd (h2.symm.trans z) (by decide)) hg (by omega) (fun b o e => e) (fun h' u tk k => ⟨.str d.shown, H, I.kept (t' := tk) k, ⟨u, rfl⟩, q⟩) h4
end
end L2
set_option maxRecDepth 100000
set_option maxHeartbeats 4000000
namespace L2
open PySem PySem.Spec PyProof.Rows
open PySem.W (alike alikeAll minD min_list_data)
def rowD (m : List Int) : PyData := .tuple (m.map PyData.int)
theorem alike_ints : ∀ a b : List Int, alikeAll (a.map PyData.int) (b.map PyData.int) = true
  | [], _ => by simp [alikeAll]
  | _ :: _, [] => by simp [alikeAll]
  | x :: a, y :: b => by
    show (alike (.int x) (.int y) && alikeAll (a.map PyData.int) (b.map PyData.int)) = true
    rw [alike_ints a b]
    rfl
theorem depth_ints : ∀ a : List Int, PyData.depthAll (a.map PyData.int) = 0
  | [] => rfl
  | x :: a => by
    show max 0 (PyData.depthAll (a.map PyData.int)) = 0
    rw [depth_ints a]
    rfl
theorem depth_rows : ∀ rs : List (List Int), PyData.depthAll (rs.map rowD) ≤ 1
  | [] => Nat.zero_le _
  | r :: rs => by
    show max (PyData.depthAll (r.map PyData.int) + 1) (PyData.depthAll (rs.map rowD)) ≤ 1
    rw [depth_ints r]
    have := depth_rows rs
    omega
theorem rowD_inj {a b : List Int} (h : rowD a = rowD b) : a = b := by
  unfold rowD at h
  injection h with h
  induction a generalizing b with
  | nil =>
    cases b with
    | nil => rfl
    | cons y b => cases h
  | cons x a ih =>
    cases b with
    | nil => cases h
    | cons y b =>
      rw [List.map_cons, List.map_cons] at h
      injection h with h1 h2
      injection h1 with h1
      rw [h1, ih h2]
theorem pair_at {α β : Type} {F : α → β → Prop} : ∀ {l : List α} {k : List β}, Paired F l k → ∀ {i : Nat} {a : α} {b : β}, l[i]? = some a → k[i]? = some b → F a b
  | _, _, .nil, i, a, b, h, _ => by simp at h
  | _, _, .cons r _, 0, a, b, h, g => by
    simp at h g
    subst h
    subst g
    exact r
  | _, _, .cons _ t, i + 1, a, b, h, g => pair_at t (by simpa using h) (by simpa using g)
section
variable {X : Cx}
theorem dpAll_intsL {K : PySem.W.Frag} (H : Hp) : ∀ ls : List Int, DpAll K H (ls.map V.int) (ls.map PyData.int)
  | [] => .nil
  | a :: l => .cons (.int a) (dpAll_intsL H l)
theorem dpAll_rows {K : PySem.W.Frag} {H : Hp} : ∀ {ps : List Addr} {rows : List (List Int)}, Paired (fun p m => SqT K H p (m.map V.int)) ps rows → DpAll K H (ps.map V.ref) (rows.map rowD)
  | _, _, .nil => .nil
  | _, _, .cons h t => .cons (.tup h (dpAll_intsL H _)) (dpAll_rows t)
def rMinT (K : PySem.W.Frag) : List V → Hp → VK → Prop := fun vs H Q => ∃ (l : Addr) (ps : List Addr) (r0 : List Int) (rs : List (List Int)), vs = [.ref l] ∧ SqL K H l (ps.map V.ref) ∧ Paired (fun p m => SqT K H p (m.map V.int)) ps (r0 :: rs) ∧
  ∀ (i : Nat) (p : Addr), ps[i]? = some p → (∀ m, (r0 :: rs)[i]? = some m → rowD m = minD (rowD r0) (rs.map rowD)) → Q (.ref p) H
theorem cr_minT (hc : X.calm = true) (hu : X.A.units + 64 < cLine) : CallR X (.builtin "min") (rMinT X.K) := by
  intro pins s σ H vs us Q I r h
  obtain ⟨l, ps, r0, rs, rfl, hs, hp, q⟩ := h
  obtain ⟨its, rv, hl, _⟩ := I.list hs
  rw [Vals.ref1 r]
  obtain ⟨as, hr⟩ := Dp.readsAll I _ _ its (dpAll_rows hp) rv
  have hd := depth_rows (r0 :: rs)
  refine min_list_data (I.ok.hd hc) hl.isList (x := rowD r0) (xs := rs.map rowD) (as := as) hr ⟨fun x hx y hy => ?_, fun x hx => ?_⟩ (by show X.A.units + 1 + PyData.depthAll ((r0 :: rs).map rowD) < cLine; omega) fun i v h' tk bs hv hm hk => ?_
  · obtain ⟨a, _, rfl⟩ := List.mem_map.mp (show x ∈ (r0 :: rs).map rowD from hx)
    obtain ⟨b, _, rfl⟩ := List.mem_map.mp (show y ∈ (r0 :: rs).map rowD from hy)
    exact alike_ints a b
  · obtain ⟨a, _, rfl⟩ := List.mem_map.mp (show x ∈ (r0 :: rs).map rowD from hx)
    exact fun z => by cases z
  · have hv' : its[i]? = some v := by simpa using hv
    have hi : i < ps.length := by
      have h1 := (List.getElem?_eq_some_iff.mp hv').1
      have h2 := rv.length
      rw [List.length_map] at h2
      omega
    obtain ⟨v2, e2, rel⟩ := rv.get (i := i) (x := V.ref ps[i]) (by simp [hi])
    rw [hv'] at e2
    cases e2
    obtain rfl : v = .ref ps[i] := rel
    refine ⟨.ref ps[i], H, I.kept (t' := tk) hk, rfl, q i ps[i] (List.getElem?_eq_getElem hi) fun m hm2 => ?_⟩
    obtain ⟨as0, r0'⟩ := Dp.reads I (rowD m) (.ref ps[i]) (.ref ps[i]) (.tup (pair_at hp (List.getElem?_eq_getElem hi) hm2) (dpAll_intsL H m)) rfl
    exact (reads_det (fun b o e _ => hk b o e) r0' hm).1.symm
end
end L2
set_option maxRecDepth 100000
set_option maxHeartbeats 4000000
namespace L2
open PySem PySem.Spec PyProof.Rows
def Swaps3 (fd : FuncData) (a b c : Str) : Prop := ∀ (s : Shared) (v u z : Value), BindsTo s fd ⟨[], [(c, v), (b, u), (a, z)]⟩ [(a, z), (b, u), (c, v)]
theorem Fun.swaps3 {K : PySem.W.Frag} {x qual : Str} {st : Stmt} {f : Addr} {fd : FuncData} {a b c : Str} (F : Fun K x qual st f fd)
    (h : ∀ (kV doc pm : Value) (an : Option Addr) (cdv ct v u z : Value), bindArgs (PySem.W.fnOf x qual (defArgs st) (defBody st) (defScope st) .none kV doc pm an cdv ct) ⟨[], [(c, v), (b, u), (a, z)]⟩ = pure [(a, z), (b, u), (c, v)]) : Swaps3 fd a b c := by
  obtain ⟨oc, od, kV, doc, pm, an, cdv, ct, osl, rfl, lk, hcd⟩ := F.ex
  exact fun s v u z => BindsTo.of_eq (h kV doc pm an cdv ct v u z)
def tSw3 (sp : Sp) (E : XK) (t1 t2 t3 : TE) : TE := fun σ H Q => tCons t1 (tCons t2 (tCons t3 tNil)) σ H fun zs H2 => sp zs.reverse H2 Q E
section
variable {X : Cx} {CX : CXT} {k : Nat} {f : Addr} {fd : FuncData} {a b c : Str} {sp : Sp} {E : XK} {x : Str} {p p1 p2 p3 pos : Pos} {e1 e2 e3 : Expr} {t1 t2 t3 : TE}
theorem run_sw3 {pins : List (Addr × Obj)} {σ : St} {H : Hp} {s : Shared} {Q : VK} {v u z : V} {v' u' z' : Value} (F : FnOk X.prog X.w X.K X.mg X.base CX k f fd [a, b, c] sp) (hr : Room k X.A) (hb : Swaps3 fd a b c) (hx : Passes CX X E)
    (I : Inv X pins σ H s) (r1 : RelV v v') (r2 : RelV u u') (r3 : RelV z z') (h : sp [z, u, v] H Q E) : wpAny (model X.prog X.w) X.A (call (.ref f) [] [(c, v'), (b, u'), (a, z')]) (EP X pins σ Q) X.xe s := by
  refine wpAny_call (codeAny_mono (F.run X.A X.stack s H ⟨[], [(c, v'), (b, u'), (a, z')]⟩ [z', u', v'] [z, u, v] Q E hr I.env0 (hb s v' u' z') (.cons r3 (.cons r2 (.cons r1 .nil))) h) fun r s' hq => ?_)
  cases r with
  | error e => exact hx pins σ H s e s' I hq
  | ok fl =>
    cases fl with
    | ret u => exact I.after hq
    | next => exact False.elim hq
    | brk => exact False.elim hq
    | cont => exact False.elim hq
theorem pe_callSw3 (F : FnOk X.prog X.w X.K X.mg X.base CX k f fd [a, b, c] sp) (hr : Room k X.A) (hg : Gl X x) (hm : X.mg x = some (.ref f)) (hk : PySem.W.keepIn X.K (.ref f) = true) (hb : Swaps3 fd a b c) (hx : Passes CX X E)
    (h1 : PE X e1 t1) (h2 : PE X e2 t2) (h3 : PE X e3 t3) (hdb : (x == ("__debug__" : Str)) = false := by decide)
    (hall : (backToKw pos (keywordEach [⟨some c, e1, p1⟩, ⟨some b, e2, p2⟩, ⟨some a, e3, p3⟩] X.env)).all (·.1.isSome) = true := by rfl) (hks : (backToKw pos (keywordEach [⟨some c, e1, p1⟩, ⟨some b, e2, p2⟩, ⟨some a, e3, p3⟩] X.env)).filterMap (·.1) = [c, b, a] := by rfl)
    (hpl : ((backTo pos (starEach [] X.env)).any (·.1) || (backToKw pos (keywordEach [⟨some c, e1, p1⟩, ⟨some b, e2, p2⟩, ⟨some a, e3, p3⟩] X.env)).any (·.1.isNone)) = false := by rfl) :
    PE X (.Call (.Name x p) [] [⟨some c, e1, p1⟩, ⟨some b, e2, p2⟩, ⟨some a, e3, p3⟩] pos) (tSw3 sp E t1 t2 t3) := by
  refine ⟨fun pins s σ H Q I h => ?_⟩
  refine wpAny_Call_Name_kw (ld_glob I hg hm ?_ hdb)
  refine PySem.W.callWith_KW0 (h₀ := X.base) I.ok.mod.kin hk hall ?_ hpl
  refine thn ((pk_cons h1 (pk_cons h2 (pk_cons h3 pk_nil))).run pos pins s σ H _ I h) fun ws s2 ⟨zs, H2, J, rz, q⟩ => ⟨J.kIn, ?_⟩
  rw [hks]
  have hl := F.len _ _ _ _ q
  rw [List.length_reverse] at hl
  cases rz with
  | nil => exact absurd hl (by simp)
  | cons r1 rz =>
    cases rz with
    | nil => exact absurd hl (by simp)
    | cons r2 rz =>
      cases rz with
      | nil => exact absurd hl (by simp)
      | cons r3 rz =>
        cases rz with
        | nil => exact run_sw3 F hr hb hx J r1 r2 r3 q
        | cons r4 rz => exact absurd hl (by simp)
end
end L2
namespace Wd
def mate (x : Int) : Int := if x % 2 = 0 then x + 1 else x - 1
theorem mate_mate (x : Int) : mate (mate x) = x := by unfold mate; split <;> split <;> omega
theorem mate_eq {a b : Int} : b = mate a ↔ a = mate b := ⟨fun h => by rw [h, mate_mate], fun h => by rw [h, mate_mate]⟩
theorem mate_range {n x : Int} (h0 : 0 ≤ x) (h1 : x < 2 * n) : 0 ≤ mate x ∧ mate x < 2 * n := by unfold mate; split <;> omega
def push (st : List Int) (x : Int) : List Int := if st.getLast? = some (mate x) then st.dropLast else st ++ [x]
def freed (w : List Int) : List Int := w.foldl push []
def undo (w : List Int) : List Int := w.reverse.map mate
def Rd (st : List Int) : Prop := ∀ i a b, st[i]? = some a → st[i + 1]? = some b → b ≠ mate a
theorem rd_nil : Rd [] := fun i a b h => by simp at h
theorem last_get {st : List Int} {a : Int} : st.getLast? = some a ↔ st ≠ [] ∧ st[st.length - 1]? = some a := by
  rw [List.getLast?_eq_getElem?]
  constructor
  · intro h
    refine ⟨fun e => ?_, h⟩
    subst e
    simp at h
  · exact fun h => h.2
theorem rd_push {st : List Int} {x : Int} (h : Rd st) : Rd (push st x) := by
  unfold push
  split
  · intro i a b h1 h2
    have e1 : i + 1 < st.dropLast.length := (List.getElem?_eq_some_iff.mp h2).1
    rw [List.length_dropLast] at e1
    rw [List.getElem?_dropLast, if_pos (by omega)] at h1
    rw [List.getElem?_dropLast, if_pos (by omega)] at h2
    exact h i a b h1 h2
  · rename_i hn
    intro i a b h1 h2
    have e1 : i + 1 < (st ++ [x]).length := (List.getElem?_eq_some_iff.mp h2).1
    rw [List.length_append, List.length_singleton] at e1
    by_cases hi : i + 1 < st.length
    · rw [List.getElem?_append_left (by omega)] at h1
      rw [List.getElem?_append_left hi] at h2
      exact h i a b h1 h2
    · have ei : i + 1 = st.length := by omega
      rw [List.getElem?_append_left (by omega)] at h1
      rw [List.getElem?_append_right (by omega)] at h2
      have e0 : i + 1 - st.length = 0 := by omega
      rw [e0] at h2
      have hb : x = b := by simpa using h2
      subst hb
      intro z
      apply hn
      rw [last_get]
      refine ⟨fun e => by rw [e] at ei; simp at ei, ?_⟩
      have e2 : st.length - 1 = i := by omega
      rw [e2, h1, mate_eq.mp z]
theorem snoc_of_last {st : List Int} {a : Int} (h : st.getLast? = some a) : st.dropLast ++ [a] = st := by
  have hne := (last_get.mp h).1
  have e := List.dropLast_concat_getLast hne
  have e2 : st.getLast hne = a := by
    rw [List.getLast?_eq_some_getLast hne] at h
    exact Option.some.inj h
  rw [e2] at e
  exact e
theorem push_push {st : List Int} {x : Int} (h : Rd st) : push (push st (mate x)) x = st := by
  unfold push
  split
  · rename_i h1
    rw [mate_mate] at h1
    have e := snoc_of_last h1
    have n : ¬ st.dropLast.getLast? = some (mate x) := by
      intro z
      obtain ⟨z1, z2⟩ := last_get.mp z
      have l0 : 0 < st.dropLast.length := List.length_pos_iff.mpr z1
      have hl : st.dropLast.length = st.length - 1 := List.length_dropLast
      have g1 : st[st.dropLast.length - 1]? = some (mate x) := by
        rw [← z2, List.getElem?_dropLast, if_pos (by omega)]
      have g2 : st[st.dropLast.length - 1 + 1]? = some x := by
        have := (last_get.mp h1).2
        have e3 : st.dropLast.length - 1 + 1 = st.length - 1 := by omega
        rw [e3]
        exact this
      exact h _ _ _ g1 g2 (mate_mate x).symm
    rw [if_neg n, e]
  · rename_i h1
    rw [if_pos (by simp), List.dropLast_concat]
theorem rd_fold : ∀ (w : List Int) {st : List Int}, Rd st → Rd (w.foldl push st)
  | [], _, h => h
  | a :: w, _, h => rd_fold w (rd_push h)
theorem snoc_ind {P : List Int → Prop} (h0 : P []) (h1 : ∀ l a, P l → P (l ++ [a])) (l : List Int) : P l := by
  have h : ∀ r : List Int, P r.reverse := by
    intro r
    induction r with
    | nil => exact h0
    | cons a r ih => rw [List.reverse_cons]; exact h1 _ _ ih
  have := h l.reverse
  rwa [List.reverse_reverse] at this
theorem fold_freed {st : List Int} (h : Rd st) (b : List Int) : b.foldl push st = (freed b).foldl push st := by
  induction b using snoc_ind with
  | h0 => rfl
  | h1 l a ih =>
    have e : freed (l ++ [a]) = push (freed l) a := by unfold freed; rw [List.foldl_append]; rfl
    rw [e, List.foldl_append, ih]
    show push ((freed l).foldl push st) a = _
    by_cases c : (freed l).getLast? = some (mate a)
    · have e2 := snoc_of_last c
      unfold push
      rw [if_pos c]
      show push ((freed l).foldl push st) a = _
      conv => lhs; rw [← e2, List.foldl_append]
      exact push_push (rd_fold _ h)
    · have e2 : push (freed l) a = freed l ++ [a] := by unfold push; rw [if_neg c]
      rw [e2, List.foldl_append]
      rfl
theorem rd_freed (w : List Int) : Rd (freed w) := rd_fold w rd_nil
theorem freed_freed (w : List Int) : freed (freed w) = freed w := (fold_freed rd_nil w).symm
theorem freed_app (a b : List Int) : freed (a ++ b) = freed (freed a ++ freed b) := by
  have e1 : freed (a ++ b) = (freed b).foldl push (freed a) := by
    unfold freed
    rw [List.foldl_append]
    exact fold_freed (rd_fold a rd_nil) b
  have e2 : freed (freed a ++ freed b) = (freed b).foldl push (freed a) := by
    show (freed a ++ freed b).foldl push [] = _
    rw [List.foldl_append]
    show (freed b).foldl push (freed (freed a)) = _
    rw [freed_freed]
  rw [e1, e2]
theorem undo_cons (a : Int) (w : List Int) : undo (a :: w) = undo w ++ [mate a] := by
  unfold undo
  rw [List.reverse_cons, List.map_append]
  rfl
theorem fold_undo : ∀ (w : List Int) {st : List Int}, Rd st → (w ++ undo w).foldl push st = st
  | [], _, _ => rfl
  | a :: w, st, h => by
    rw [undo_cons, List.cons_append, List.foldl_cons, ← List.append_assoc, List.foldl_append, fold_undo w (rd_push h)]
    show push (push st a) (mate a) = st
    have := push_push (x := mate a) h
    rw [mate_mate] at this
    exact this
theorem freed_undo (w : List Int) : freed (w ++ undo w) = [] := fold_undo w rd_nil
theorem freed_cut (u v : List Int) (b : Int) : freed (u ++ mate b :: b :: v) = freed (u ++ v) := by
  unfold freed
  rw [List.foldl_append, List.foldl_append, List.foldl_cons, List.foldl_cons, push_push (rd_fold u rd_nil)]
theorem freed_of_rd (w : List Int) : Rd w → freed w = w := by
  induction w using snoc_ind with
  | h0 => intro _; rfl
  | h1 l a ih =>
    intro h
    have hl : Rd l := fun i x y h1 h2 => h i x y (by rw [List.getElem?_append_left (List.getElem?_eq_some_iff.mp h1).1]; exact h1) (by rw [List.getElem?_append_left (List.getElem?_eq_some_iff.mp h2).1]; exact h2)
    have e : freed (l ++ [a]) = push (freed l) a := by unfold freed; rw [List.foldl_append]; rfl
    rw [e, ih hl]
    unfold push
    rw [if_neg]
    intro z
    obtain ⟨z1, z2⟩ := last_get.mp z
    have l0 : 0 < l.length := List.length_pos_iff.mpr z1
    refine h (l.length - 1) (mate a) a (by rw [List.getElem?_append_left (by omega)]; exact z2) ?_ (mate_mate a).symm
    have e3 : l.length - 1 + 1 = l.length := by omega
    rw [e3, List.getElem?_append_right (Nat.le_refl _)]
    simp
theorem mem_push {st : List Int} {x y : Int} (h : y ∈ push st x) : y ∈ st ∨ y = x := by
  unfold push at h
  split at h
  · exact .inl (List.dropLast_subset _ h)
  · simpa using h
theorem mem_fold : ∀ (w : List Int) {st : List Int} {y : Int}, y ∈ w.foldl push st → y ∈ st ∨ y ∈ w
  | [], _, _, h => .inl h
  | a :: w, _, y, h => by
    rcases mem_fold w h with h | h
    · rcases mem_push h with h | h
      · exact .inl h
      · exact .inr (by rw [h]; exact List.mem_cons_self)
    · exact .inr (List.mem_cons_of_mem _ h)
theorem mem_freed {w : List Int} {y : Int} (h : y ∈ freed w) : y ∈ w := by
  rcases mem_fold w h with h | h
  · cases h
  · exact h
theorem len_push (st : List Int) (x : Int) : (push st x).length ≤ st.length + 1 := by
  unfold push
  split
  · rw [List.length_dropLast]; omega
  · rw [List.length_append]; simp
theorem len_fold : ∀ (w : List Int) (st : List Int), (w.foldl push st).length ≤ st.length + w.length
  | [], _ => by simp
  | a :: w, st => by
    have h1 := len_fold w (push st a)
    have h2 := len_push st a
    rw [List.foldl_cons, List.length_cons]
    omega
theorem len_freed (w : List Int) : (freed w).length ≤ w.length := by
  have h := len_fold w []
  show (w.foldl push []).length ≤ _
  simp only [List.length_nil, Nat.zero_add] at h
  exact h
theorem freed_snoc (w : List Int) (a : Int) : freed (w ++ [a]) = push (freed w) a := by unfold freed; rw [List.foldl_append]; rfl
theorem undo_len (w : List Int) : (undo w).length = w.length := by unfold undo; rw [List.length_map, List.length_reverse]
end Wd
set_option maxRecDepth 100000
set_option maxHeartbeats 4000000
namespace L2
open PySem PySem.Spec PyProof.Rows
structure MetAt (K : PySem.W.Frag) (x qual : Str) (st : Stmt) (ps : List Str) (C : Addr) where
  a : Addr
  fd : FuncData
  F : Fun K x qual st a fd
  i : PySem.W.findIn K (.ref C) x = some (some (.ref a))
  n : PySem.W.isFn K (.ref a) = true
  b : Binds K fd ps []
inductive EqY (K : PySem.W.Frag) (H : Hp) (C : Addr) : V → Prop where
  | int (i : Int) : EqY K H C (.int i)
  | ins {b dy : Addr} {fs : List (Str × V)} (h : H b = some (.ins C dy fs)) : EqY K H C (.ref b)
  | lst {b : Addr} {xs : List V} (h : SqL K H b xs) : EqY K H C (.ref b)
  | tup {b : Addr} {xs : List V} (h : SqT K H b xs) : EqY K H C (.ref b)
theorem eo_sub {K : PySem.W.Frag} {C : Addr} {T : String} {l : List String} (e : fastBuiltinMro T = some (l.map Value.type)) : PySem.W.notFirst K C (.type T) = true := by
  have h : PySem.W.subIn K (.type T) (.ref C) = some false := by
    show (fastBuiltinMro T).map (·.contains (.ref C)) = some false
    rw [e]
    show some ((l.map Value.type).contains (.ref C)) = some false
    congr 1
    induction l with
    | nil => rfl
    | cons a l ih => 
      clear e
      show (((Value.ref C) == Value.type a) || (l.map Value.type).contains (.ref C)) = false
      have z : ∀ l : List String, (l.map Value.type).contains (.ref C) = false := fun l => by
        induction l with
        | nil => rfl
        | cons b l ih2 => exact (Bool.or_eq_false_iff.mpr ⟨rfl, ih2⟩)
      exact Bool.or_eq_false_iff.mpr ⟨rfl, z l⟩
  unfold PySem.W.notFirst
  rw [h]
  exact Bool.or_true _
theorem eo_at {M : Model} {h : Heap} {a : Addr} {o : Obj} (ho : h.get? a = some o) : PySem.W.Looks M h (typeOf (.ref a)) o.cls := (PySem.W.Looks.ld ho).andThen .now
theorem EqY.looks {X : Cx} {pins : List (Addr × Obj)} {σ : St} {H : Hp} {s : Shared} {C : Addr} {y : V} {u : Value} (h : EqY X.K H C y) (I : Inv X pins σ H s) (r : RelV y u) :
    ∃ tb, (∀ M : Model, PySem.W.Looks M s.heap (typeOf u) tb) ∧ PySem.W.notFirst X.K C tb = true := by
  cases h with
  | int i =>
    obtain ⟨t, e⟩ := (show ∃ t, u = Value.int i t from r)
    subst e
    exact ⟨.type "int", fun M => .of_pure rfl, eo_sub (l := ["int", "object"]) (by decide +kernel)⟩
  | ins h =>
    cases (show u = Value.ref _ from r)
    obtain ⟨mB, J', _⟩ := ins_get I.hok h
    obtain ⟨od', J', _⟩ := J'.look
    exact ⟨.ref C, fun M => J'.type, by simp [PySem.W.notFirst]⟩
  | lst h =>
    cases (show u = Value.ref _ from r)
    obtain ⟨its, rl, pl, hz⟩ := I.list h
    obtain ⟨o, n, ho, hc, _⟩ := pl
    exact ⟨.type "list", fun M => hc ▸ eo_at ho, eo_sub (l := ["list", "object"]) (by decide +kernel)⟩
  | tup h =>
    cases (show u = Value.ref _ from r)
    obtain ⟨its, rl, ⟨o, ho, hc, pl⟩, hz⟩ := I.tuple h
    exact ⟨.type "tuple", fun M => hc ▸ eo_at ho, eo_sub (l := ["tuple", "object"]) (by decide +kernel)⟩
def rEqO (K : PySem.W.Frag) (C : Addr) (sp : Sp) (E : XK) : R2 := fun x y H Q => ∃ a dx fs, x = .ref a ∧ H a = some (.ins C dx fs) ∧ EqY K H C y ∧ sp [x, y] H Q E
section
variable {X : Cx} {CX : CXT} {k : Nat} {C f : Addr} {fd : FuncData} {ps : List Str} {sp : Sp} {E : XK}
theorem eo_run {A : Around} {pins : List (Addr × Obj)} {σ : St} {H : Hp} {s : Shared} {x y : V} {u v : Value} {Q : VK} (F : FnOk X.prog X.w X.K X.mg X.base CX k f fd ps sp) (hb : Binds X.K fd ps []) (hx : Passes CX X E) (hr : Room k A) (hf : A.frames = X.A.frames)
    (I : Inv X pins σ H s) (rx : RelV x u) (ry : RelV y v) (h : sp [x, y] H Q E) : wpAny (model X.prog X.w) A (call (.ref f) [u, v]) (EP X pins σ Q) X.xe s := by
  have e0 : Env0 X.prog X.w X.K X.mg X.base A X.stack s H := by
    have e := I.env0
    exact ⟨by rw [hf]; exact e.frames, e.mod, e.bs, e.bsz, e.funs, e.frf, e.hok, e.bare⟩
  have hl := F.len _ _ _ _ h
  refine wpAny_call (codeAny_mono (F.run A X.stack s H ⟨[u, v], []⟩ [u, v] [x, y] Q E hr e0 (by
    have := hb s [u, v] I.kIn (by simpa using hl)
    simpa using this) (.cons rx (.cons ry .nil)) h) fun r s' hq => ?_)
  cases r with
  | error e => exact hx pins σ H s e s' I hq
  | ok fl =>
    cases fl with
    | ret w => exact I.after hq
    | next => exact False.elim hq
    | brk => exact False.elim hq
    | cont => exact False.elim hq
theorem op_eqO (F : FnOk X.prog X.w X.K X.mg X.base CX k f fd ps sp) (hs : PySem.W.findIn X.K (.ref C) "__eq__" = some (some (.ref f))) (hfn : PySem.W.isFn X.K (.ref f) = true) (hb : Binds X.K fd ps []) (hr : Room k X.A) (hx : Passes CX X E) :
    OpR X (compareOp .Eq) (rEqO X.K C sp E) := by
  intro pins s σ H x y v u Q I rx ry h
  obtain ⟨a, dx, fs, rfl, ha, hy, q⟩ := h
  cases (show v = Value.ref a from rx)
  obtain ⟨mA, J, _⟩ := ins_get I.hok ha
  obtain ⟨od, J, _⟩ := J.look
  obtain ⟨tb, lk, nf⟩ := hy.looks I ry
  obtain ⟨m, hF⟩ := I.fr
  show wpAny (model X.prog X.w) X.A (richCompare .Eq (.ref a) u) (EP X pins σ Q) X.xe s
  refine PySem.W.cmp_K (op := .Eq) (tb := tb) hr.units0 hF I.ok.mod.kin J (lk _) nf hs hfn ?_
  refine wpAny_mono (eo_run F hb hx hr rfl I (show RelV (.ref a) (.ref a) from rfl) ry q) (fun w s' z => ?_) fun _ _ x => x
  obtain ⟨z', H', I', rz, qz⟩ := z
  exact SlX.cmpback rz ⟨z', H', I', rz, qz⟩
end
end L2
namespace EoN
open PySem PySem.Spec PyProof.Rows PySem.SeqAt
section
variable {M : Model} {prog : Program} {w : World} {A : Around} {E : Value → Shared → Prop} {s : Shared} {K : PySem.W.Frag} {x C f : Addr} {ox : Obj} {od : Option Obj} {b : Value}
theorem entry_ne {Q : Fin → Shared → Prop} (hu : A.units < cLine) (X : K.In s.heap) (I : PySem.W.InstAt s.heap x ox C od) (hs : PySem.W.findIn K (.ref C) "__eq__" = some (some (.ref f))) (hf : PySem.W.isFn K (.ref f) = true)
    (hcall : wpAny (model prog w) A (call (.ref f) [.ref x, b]) (fun v s' => ∃ c, v = .bool c ∧ Q (.done (.ret (.bool (!c)))) s') E s) :
    wpAny (model prog w) A (Builtin.«object.__ne__» ⟨[.ref x, b], []⟩) Q E s := by
  unfold Builtin.«object.__ne__»
  repeat (first
    | with_reducible refine wpAny_cRoomFor hu ?_
    | (refine wpAny_bind (m := callSpecialIfBound? (.ref x) (Str.ofString "__eq__") [b])
        (PySem.W.ifBound_K X I hs hf (wpAny_mono hcall (fun r s' hr => by
          obtain ⟨c, rfl, hq⟩ := hr
          repeat (first | exact hq | exact wpAny_pure hq | exact wpAny_truthy_bool hq | (refine wpAny_bind (m := truthy (.bool _)) (wpAny_truthy_bool ?_)) | wp_step)) fun _ _ e => e)))
    | wp_step)
theorem call_ne {Q : Value → Shared → Prop} (hu : A.in1.units < cLine) (X : K.In s.heap) (I : PySem.W.InstAt s.heap x ox C od) (hm : PySem.W.mroIn K C (.type "object") = some true) (hs : PySem.W.findIn K (.ref C) "__eq__" = some (some (.ref f))) (hf : PySem.W.isFn K (.ref f) = true)
    (hcall : wpAny (model prog w) A.in1 (call (.ref f) [.ref x, b]) (fun v s' => ∃ c, v = .bool c ∧ Q (.bool (!c)) s') E s) :
    wpAny (model prog w) A (call (.builtin "object.__ne__") [.ref x, b]) Q E s :=
  wpAny_call (codeAny_call_builtin F.cmp_object.ne.plain F.cmpEntry_ne (PySem.W.check_slot F.cmpKind_ne F.cmpSplit_ne (I.type.andThen (PySem.W.looks_mroIn X hm)) (F.cmpArgs_ne _ _) (entry_ne hu X I hs hf hcall)))
theorem ifBound_ne {args : List Value} {Q : Option Value → Shared → Prop} (X : K.In s.heap) (I : PySem.W.InstAt s.heap x ox C od) (hs : PySem.W.findIn K (.ref C) "__ne__" = some (some (.builtin "object.__ne__")))
    (h : wpAny M A (call (.builtin "object.__ne__") (.ref x :: args)) (fun v => Q (some v)) E s) : wpAny M A (callSpecialIfBound? (.ref x) "__ne__" args) Q E s := by
  simp only [callSpecialIfBound?, bindSpecialIfBound?]
  refine wpAny_holding (wpAny_bind (wpAny_bind (wpAny_bind (I.type.here ((PySem.W.looks_findIn X hs).here ?_)))))
  refine wpAny_bind (wpAny_askSetting (wpAny_ite ?_))
  have fin : wpAny M A (call (.builtin "object.__ne__") ([.ref x] ++ args) >>= fun v => pure (some v)) Q E s := wpAny_bind (wpAny_mono h (fun v s' h' => wpAny_pure h') fun _ _ h' => h')
  split
  · exact wpAny_bind (wpAny_of_eq (F.cmp_object.ne.bind _) (wpAny_pure (by exact fin)))
  · exact wpAny_tryCatch (wpAny_bind (wpAny_of_eq (F.cmp_object.ne.bind _) (wpAny_pure (by exact fin))))
theorem rc_ne {y : Value} {tb : Value} {Q : Value → Shared → Prop} (hu : A.units < cLine) (hu1 : A.in1.units < cLine) (X : K.In s.heap) (I : PySem.W.InstAt s.heap x ox C od) (hb : PySem.W.Looks (model prog w) s.heap (typeOf y) tb) (hn : PySem.W.notFirst K C tb = true)
    (hm : PySem.W.mroIn K C (.type "object") = some true) (hne : PySem.W.findIn K (.ref C) "__ne__" = some (some (.builtin "object.__ne__"))) (hs : PySem.W.findIn K (.ref C) "__eq__" = some (some (.ref f))) (hf : PySem.W.isFn K (.ref f) = true)
    (hcall : wpAny (model prog w) A.in1 (call (.ref f) [.ref x, y]) (fun v s' => ∃ c, v = .bool c ∧ Q (.bool (!c)) s') E s) : wpAny (model prog w) A (richCompare .NotEq (.ref x) y) Q E s := by
  have one : wpAny (model prog w) A (tryCompare (.ref x) "__ne__" y) (fun r s' => ∃ v, r = some v ∧ Q v s') E s := by
    unfold tryCompare
    refine wpAny_bind (ifBound_ne X I hne (call_ne hu1 X I hm hs hf (wpAny_mono hcall (fun v s' hv => ?_) fun _ _ e => e)))
    obtain ⟨c, rfl, hq⟩ := hv
    exact ⟨c, rfl, wpAny_pure ⟨_, rfl, hq⟩⟩
  unfold richCompare
  simp only [oneThing_ref]
  refine wpAny_holding (wpAny_bind (wpAny_cRoomFor hu ?_))
  refine wpAny_bind (I.type.here (wpAny_bind (hb.here ?_)))
  split
  · rename_i q
    have e : PySem.W.subIn K tb (.ref C) = some false := by
      rcases Bool.or_eq_true_iff.mp hn with e | e
      · rw [beq_iff_eq.mp e] at q; simp at q
      · exact beq_iff_eq.mp e
    refine wpAny_bind ((PySem.W.looks_subIn X e).here ?_)
    simp only [Bool.false_eq_true, if_false]
    refine wpAny_bind (wpAny_mono one (fun r s' z => ?_) fun _ _ e => e)
    obtain ⟨v, rfl, hq⟩ := z
    exact wpAny_pure hq
  · refine wpAny_bind (wpAny_pure ?_)
    simp only [Bool.false_eq_true, if_false]
    refine wpAny_bind (wpAny_mono one (fun r s' z => ?_) fun _ _ e => e)
    obtain ⟨v, rfl, hq⟩ := z
    exact wpAny_pure hq
end
end EoN
namespace L2
open PySem PySem.Spec PyProof.Rows
def rNeO (K : PySem.W.Frag) (C : Addr) (sp : Sp) (E : XK) : R2 := fun x y H Q => ∃ a dx fs, x = .ref a ∧ H a = some (.ins C dx fs) ∧ EqY K H C y ∧ sp [x, y] H (fun v H' => ∃ c, v = .bl c ∧ Q (.bl (!c)) H') E
section
variable {X : Cx} {CX : CXT} {k : Nat} {C f : Addr} {fd : FuncData} {ps : List Str} {sp : Sp} {E : XK}
theorem op_neO (F : FnOk X.prog X.w X.K X.mg X.base CX k f fd ps sp) (hs : PySem.W.findIn X.K (.ref C) "__eq__" = some (some (.ref f))) (hfn : PySem.W.isFn X.K (.ref f) = true) (hb : Binds X.K fd ps [])
    (hne : PySem.W.findIn X.K (.ref C) "__ne__" = some (some (.builtin "object.__ne__"))) (hm : PySem.W.mroIn X.K C (.type "object") = some true) (hr : Room (k + 1) X.A) (hx : Passes CX X E) : OpR X (compareOp .NotEq) (rNeO X.K C sp E) := by
  intro pins s σ H x y v u Q I rx ry h
  obtain ⟨a, dx, fs, rfl, ha, hy, q⟩ := h
  cases (show v = Value.ref a from rx)
  obtain ⟨mA, J, _⟩ := ins_get I.hok ha
  obtain ⟨od, J, _⟩ := J.look
  obtain ⟨tb, lk, nf⟩ := hy.looks I ry
  have hr1 : Room k X.A.in1 := hr.in1
  show wpAny (model X.prog X.w) X.A (richCompare .NotEq (.ref a) u) (EP X pins σ Q) X.xe s
  refine EoN.rc_ne hr.units0 hr1.units0 I.kIn J (lk _) nf hm hne hs hfn ?_
  refine wpAny_mono (eo_run F hb hx hr1 rfl I (show RelV (.ref a) (.ref a) from rfl) ry q) (fun w s' z => ?_) fun _ _ x => x
  obtain ⟨z', H', I', rz, c, ez, qz⟩ := z
  subst ez
  cases (show w = Value.bool c from rz)
  exact ⟨c, rfl, .bl (!c), H', I', rfl, qz⟩
end
end L2
set_option maxRecDepth 100000
set_option maxHeartbeats 4000000
namespace L2
open PySem PySem.Spec PyProof.Rows
theorem tuple_mulS (l : Addr) (items : Array Value) (n : Nat) (dd : Option Addr) (sl : Array (Option Value)) (x : Int) (u : Tok) (c0 : (decide (x < -(2 ^ 63)) || decide (x ≥ 2 ^ 63)) = false) (c1 : (items.isEmpty || x == 1) = true) :
    Meets (Builtin.«tuple.__mul__» ⟨[.ref l, .int x u], []⟩) (fun _ R s => s.heap.get? l = some { cls := .type "tuple", dict := dd, data := .seq items n, slots := sl } ∧ R (.ok (.ret (Value.ref l))) s) :=
  .of_wp fun prog w A R s h => by
    obtain ⟨hp, g, d, tk, os⟩ := s
    obtain ⟨hl, h⟩ := h
    have f1 := AutoSeq1.idx_int
    wp_walk using wpAny_loadPart' hl
    repeat (first
      | (refine wpAny_ite_false (decide_eq_false (by rw [c0]; exact Bool.false_ne_true)) ?_; wp_walk using wpAny_loadPart' hl)
      | (refine wpAny_ite_true (decide_eq_true (by rw [c1])) ?_; wp_walk using wpAny_loadPart' hl)
      | (refine wpAny_ite_true c1 ?_; wp_walk using wpAny_loadPart' hl))
    exact ⟨_, rfl, h⟩
def rRepA (K : PySem.W.Frag) : R2 := fun x y H Q => ∃ l k xs, x = .ref l ∧ y = .int k ∧ SqT K H l xs ∧ xs ≠ [] ∧ 1 ≤ k ∧ k ≤ 1000 ∧ xs.length ≤ 1000 ∧ (k = 1 → Q (.ref l) H) ∧ (2 ≤ k → ∀ p, H p = none → Q (.ref p) (upd H p (.tup (List.replicate k.toNat xs).flatten)))
section
variable {X : Cx} {K : PySem.W.Frag}
theorem op_repA : OpR X (binaryOp .Mult) (rRepA X.K) := by
  intro pins s σ H x y v u Q I rx ry h
  obtain ⟨l, k, xs, rfl, rfl, hT, hne, h1, h2, hz, q1, q2⟩ := h
  by_cases hk : k = 1
  · subst hk
    cases rx
    obtain ⟨t, rfl⟩ := ry
    obtain ⟨its, r, ⟨⟨cls, dd, data, sl⟩, ho, hc, n, hd⟩, hs⟩ := I.tuple hT
    simp only at hc hd
    subst hc hd
    refine wpAny_binaryOp_repeat_ref (T := "tuple") (U := "int") (by decide) ⟨_, ho, rfl⟩ (fun s' => typeIs_int s' 1 t) noFill_tuple_mul F.fills_int_mul F.slot_int_rmul repeat_tuple F.slot_int_index.lookup
      (call_meets F.slot_int_rmul (typeIs_int s 1 t) F.entry_int_rmul (F.args_int_rmul_2 _ _) (int_rmul_tuple 1 t l its.toArray n dd sl)
        ⟨ho, rfl, ⟨_, ho, rfl⟩, call_meets F.slot_tuple_mul ⟨_, ho, rfl⟩ F.entry_tuple_mul (F.args_tuple_mul_2 _ _) (tuple_mulS l its.toArray n dd sl 1 t (by decide) (by simp)) ⟨ho, ?_⟩⟩)
    exact ⟨.ref l, H, I, rfl, q1 rfl⟩
  · exact op_repT pins s σ H _ _ v u Q I rx ry ⟨l, k, xs, rfl, rfl, hT, hne, by omega, h2, hz, q2 (by omega)⟩
theorem op_repAK (h : X.K = K) : OpR X (binaryOp .Mult) (rRepA K) := by subst h; exact op_repA
def rShowS : List V → Hp → VK → Prop := fun xs H Q => ∃ x, xs = [.str x] ∧ (reprText x).length ≤ sizeLine ∧ Q (.str (reprText x)) H
theorem call_showS : CallR X (.builtin "repr") rShowS := by
  intro pins s σ H xs us Q I r h
  obtain ⟨x, rfl, hz, q⟩ := h
  obtain ⟨u, rfl, rx⟩ := vals1 r
  obtain ⟨t, rfl⟩ := rx
  exact PySem.P.repr_of_str ⟨.str (reprText x), H, I.tok _, ⟨_, rfl⟩, q⟩ hz
def rInDT (K : PySem.W.Frag) : R2 := fun x y H Q => ∃ d ds, Dp K H x d ∧ Dp K H y (.tuple ds) ∧ SeqAt.shaped d = true ∧ SeqAt.shaped (.list ds) = true ∧ Q (.bl (ds.any fun z => PyData.eqv z d)) H
theorem op_inDT (hu : X.A.units + 65 < cLine) : OpR X (compareOp .In) (rInDT X.K) := by
  intro pins s σ H x y v u Q I rx ry h
  obtain ⟨d, ds, hd, he, sd, se, q⟩ := h
  obtain ⟨as, r1⟩ := Dp.reads I d x v hd rx
  obtain ⟨bs, r2⟩ := Dp.reads I (.tuple ds) y u he ry
  exact SeqAt.in_tuple_reads r2 r1 (SeqAt.canLay_of_shaped se) (SeqAt.canLay_of_shaped sd) (room_in_shaped sd hu) ⟨.bl _, H, I, rfl, q⟩
theorem Room.units65 {k : Nat} {A : Around} (r : Room k A) : A.units + 65 < cLine := by
  have := r.un
  omega
end
end L2
set_option maxRecDepth 100000
set_option maxHeartbeats 4000000
namespace L2
open PySem PySem.Spec PyProof.Rows
def dic01 : List (Key × V) := [(Sum.inl 0, .int 1), (Sum.inl 1, .int 0)]
def dicD : PyData := .dict [(.int 0, .int 1), (.int 1, .int 0)]
inductive Shw (K : PySem.W.Frag) (H : Hp) : V → Str → Prop where
  | non : Shw K H .non "None"
  | int {i : Int} (h : i.natAbs.log2 < 1920) : Shw K H (.int i) (Str.ofString (toString i))
  | str {x : Str} (h : (reprText x).length ≤ sizeLine) : Shw K H (.str x) (reprText x)
  | ref {a : Addr} {d : PyData} (h : Dp K H (.ref a) d) (h1 : d.showable = true) (h2 : d.hasDict = false) (h3 : d.depth ≤ 60) (h4 : d.shown.length ≤ sizeLine) : Shw K H (.ref a) d.shown
  | dic {a : Addr} (h : H a = some (.dK dic01)) : Shw K H (.ref a) dicD.shown
def rShowV (K : PySem.W.Frag) : List V → Hp → VK → Prop := fun xs H Q => ∃ x t, xs = [x] ∧ Shw K H x t ∧ Q (.str t) H
section
variable {X : Cx}
theorem call_showV (hg : X.A.guards = some []) (hu : X.A.units + 64 < cLine) : CallR X (.builtin "repr") (rShowV X.K) := by
  intro pins s σ H xs us Q I r h
  obtain ⟨x, t, rfl, hs, q⟩ := h
  obtain ⟨u, rfl, rx⟩ := vals1 r
  cases hs with
  | non =>
    cases (show u = Value.none from rx)
    exact PySem.P.repr_of_none ⟨.str "None", H, I.tok _, ⟨_, rfl⟩, q⟩
  | @int i h =>
    obtain ⟨t, e⟩ := (show ∃ t, u = Value.int i t from rx)
    subst e
    exact PySem.P.repr_of_int h ⟨.str (Str.ofString (toString i)), H, I.tok _, ⟨_, rfl⟩, q⟩
  | @str x h =>
    obtain ⟨t, e⟩ := (show ∃ t, u = Value.str x t from rx)
    subst e
    exact PySem.P.repr_of_str ⟨.str (reprText x), H, I.tok _, ⟨_, rfl⟩, q⟩ h
  | @ref a d h h1 h2 h3 h4 =>
    cases (show u = Value.ref a from rx)
    obtain ⟨as, rd⟩ := Dp.reads I d (.ref a) (.ref a) h rfl
    exact repr_of_reads' rd h1 (fun z => absurd (h2.symm.trans z) (by decide)) hg (by omega) (fun b o e => e) (fun h' u tk k => ⟨.str d.shown, H, I.kept (t' := tk) k, ⟨u, rfl⟩, q⟩) h4
  | @dic a h =>
    cases (show u = Value.ref a from rx)
    obtain ⟨hz, hsys, vs, kv, o, es, ep, e, ex, hd, ks, ps, nd⟩ := (show ObjOk X.prog X.w H s.heap a (.dK dic01) from I.hok a _ h)
    obtain ⟨as, rd, hno⟩ : ∃ as, Reads s.heap (.ref a) dicD as ∧ sysModules ∉ as := by
      unfold dic01 at kv
      cases kv with
      | @cons p q1 l k1 r1 kv =>
        cases kv with
        | @cons p2 q2 l2 k2 r2 kv =>
          cases kv
          obtain ⟨qa, qb⟩ := q1
          obtain ⟨qc, qd⟩ := q2
          obtain ⟨z1, z2⟩ := r1
          obtain ⟨z3, z4⟩ := r2
          cases z1
          cases z3
          obtain ⟨t1, z2⟩ := (show ∃ t, qb = Value.int 1 t from z2)
          obtain ⟨t2, z4⟩ := (show ∃ t, qd = Value.int 0 t from z4)
          subst z2
          subst z4
          generalize hl : es.toList = el at ps
          cases ps with
          | @cons e1 kv1 es1 kvs1 i1 v1 ps =>
            cases ps with
            | @cons e2 kv2 es2 kvs2 i2 v2 ps =>
              cases ps
              have hk1 : ∃ t, e1.key = Value.int 0 t := by
                rcases keyIs_shape (show keyIs (Sum.inl 0) e1.key = true from i1) with ⟨i, t, a1, a2⟩ | ⟨y, t, a1, a2⟩
                · cases a1
                  exact ⟨t, a2⟩
                · cases a1
              have hk2 : ∃ t, e2.key = Value.int 1 t := by
                rcases keyIs_shape (show keyIs (Sum.inl 1) e2.key = true from i2) with ⟨i, t, a1, a2⟩ | ⟨y, t, a1, a2⟩
                · cases a1
                  exact ⟨t, a2⟩
                · cases a1
              obtain ⟨t3, k3⟩ := hk1
              obtain ⟨t4, k4⟩ := hk2
              refine ⟨_, Reads.dict (as := [] ++ ([] ++ [])) (bs := [] ++ ([] ++ [])) e ex.1 hd ?_ ?_, ?_⟩
              · rw [hl]
                show ReadsAll s.heap [e1.key, e2.key] [.int 0, .int 1] _
                rw [k3, k4]
                exact .cons (.int 0 t3) (.cons (.int 1 t4) .nil)
              · rw [hl]
                show ReadsAll s.heap [e1.val, e2.val] [.int 1, .int 0] _
                rw [v1, v2]
                exact .cons (.int 1 t1) (.cons (.int 0 t2) .nil)
              · intro z
                simp at z
                rw [← z] at hsys
                simp at hsys
    exact repr_of_reads' rd (by decide +kernel) (fun _ => hno) hg (by have : dicD.depth ≤ 10 := (by decide +kernel); omega) (fun b o e => e) (fun h' u tk k => ⟨.str dicD.shown, H, I.kept (t' := tk) k, ⟨u, rfl⟩, q⟩) (by decide +kernel)
end
end L2
set_option maxRecDepth 100000
set_option maxHeartbeats 4000000
namespace Tt
open PySem L2
structure DefAt (K : PySem.W.Frag) (mg : Str → Option Value) (x : Str) (st : Stmt) (ps : List Str) where
  a : Addr
  fd : FuncData
  F : Fun K x x st a fd
  g : mg x = some (.ref a)
  b : Binds K fd ps []
theorem DefAt.k {K : PySem.W.Frag} {mg : Str → Option Value} {x : Str} {st : Stmt} {ps : List Str} (d : DefAt K mg x st ps) : PySem.W.keepIn K (.ref d.a) = true := d.F.kp
structure Ex0 (K : PySem.W.Frag) (mg : Str → Option Value) (x : Str) where
  C : Addr
  g : mg x = some (.ref C)
  k : PySem.W.keepIn K (.ref C) = true
  q : PySem.W.excIn K C [.type "ValueError", .type "Exception", .type "BaseException", .type "object"] "ValueError.__new__" = true
  ty : PySem.W.typeIn K (.ref C) = some (.type "type")
  ec : ExcC K C
structure Ex1 (K : PySem.W.Frag) (mg : Str → Option Value) (x qual : Str) (st : Stmt) (ps : List Str) (field : Str) where
  C : Addr
  fI : Addr
  fd : FuncData
  g : mg x = some (.ref C)
  o : OexC K C
  i : PySem.W.findIn K (.ref C) "__init__" = some (some (.ref fI))
  t : PySem.W.typeIn K (.ref fI) = some (.type "function")
  F : Fun K "__init__" qual st fI fd
  b : Binds K fd ps []
  n : PySem.W.findIn K (.ref C) field = some none
  xf : XfC K C
  ec : ExcC K C
structure ClsAt (K : PySem.W.Frag) (mg : Str → Option Value) (x qual : Str) (st : Stmt) (ps : List Str) (attrs : List Str) where
  C : Addr
  fI : Addr
  fd : FuncData
  g : mg x = some (.ref C)
  c : Cls K C
  n : ∀ f ∈ attrs, NoAttr K C f
  kk : Mk K C fI
  F : Fun K "__init__" qual st fI fd
  b : Binds K fd ps []
  ha : PySem.W.findIn K (.ref C) "__class__" = some (some (.builtin "object.__class__"))
  hn : PySem.W.specialIn K (.builtin "object.__class__") "__get__" = some (some (.builtin "getset_descriptor.__get__"))
  ht : PySem.W.takesIn K (.builtin "object.__class__") = some true
  hm : PySem.W.mroIn K C (.type "object") = some true
structure FunC (K : PySem.W.Frag) (x qual : Str) (st : Stmt) (f : Addr) (fd : FuncData) (cdv : Value) : Prop where
  ex : ∃ (oc : Value) (od : Option Addr) (kV doc pm : Value) (an : Option Addr) (ct : Value) (osl : Array (Option Value)),
    fd = PySem.W.fnOf x qual (defArgs st) (defBody st) (defScope st) .none kV doc pm an cdv ct ∧ K.lookup f = some ⟨oc, od, .func fd, osl⟩ ∧ PySem.W.codeIn K cdv qual = true
theorem FunC.ok {P : Program} {w : World} {K : PySem.W.Frag} {mg : Str → Option Value} {base : Heap} {x qual : Str} {st : Stmt} {f : Addr} {fd : FuncData} {cdv : Value} {N ps : List Str} {k : Nat} {sp : Sp} (F : FunC K x qual st f fd cdv) (S : FnScope N ps (defScope st)) (len : ∀ vs H Q E, sp vs H Q E → vs.length = ps.length)
    (body : ∀ (A : Around) (outer : List Env) (s : Shared) (H : Hp) (vs : List V) (Q : VK) (E : XK), Room k (A.deeper (PyProof.Rows.envOfC qual (defScope st) s.heap.objs.size f cdv)) → sp vs H Q E →
      ∃ t, PSs (cxOf CX0 P w K mg base N qual (defScope st) f cdv A outer s H E).nox (defBody st) t ∧ t { nx := fun _ H' => Q .non H', rt := Q } (L2.start N vs) H) : FnOk P w K mg base CX0 (k + 1) f fd ps sp := by
  obtain ⟨oc, od, kV, doc, pm, an, ct, osl, rfl, lk, hc⟩ := F.ex
  refine fn_of lk hc S len fun A outer s H vs Q E hr h => ?_
  obtain ⟨t, h1, h2⟩ := body A outer s H vs Q E hr h
  exact ⟨t, h1.nox, h2⟩
def top (i : Nat) : Stmt := PySem.Challenge.pw_tautrounds_k01_skins_judged.main.body.getD i (.Pass ⟨0, 0, 0, 0⟩)
abbrev s_BadNumber_init : Stmt := inClass (top 2) 0
abbrev N_BadNumber_init : List Str := ["self", "part"]
theorem sc_BadNumber_init : FnScope N_BadNumber_init ["self", "part"] (defScope s_BadNumber_init) := ⟨rfl, rfl, rfl, by decide +kernel, rfl, by decide +kernel, by decide +kernel⟩
abbrev s_BadSkin_init : Stmt := inClass (top 3) 0
abbrev N_BadSkin_init : List Str := ["self", "part"]
theorem sc_BadSkin_init : FnScope N_BadSkin_init ["self", "part"] (defScope s_BadSkin_init) := ⟨rfl, rfl, rfl, by decide +kernel, rfl, by decide +kernel, by decide +kernel⟩
abbrev s_is_number : Stmt := top 5
abbrev N_is_number : List Str := ["thing"]
theorem sc_is_number : FnScope N_is_number ["thing"] (defScope s_is_number) := ⟨rfl, rfl, rfl, by decide +kernel, rfl, by decide +kernel, by decide +kernel⟩
abbrev s_is_within : Stmt := top 6
abbrev N_is_within : List Str := ["thing", "low", "high"]
theorem sc_is_within : FnScope N_is_within ["thing", "low", "high"] (defScope s_is_within) := ⟨rfl, rfl, rfl, by decide +kernel, rfl, by decide +kernel, by decide +kernel⟩
abbrev s_is_tuple : Stmt := top 7
abbrev N_is_tuple : List Str := ["thing"]
theorem sc_is_tuple : FnScope N_is_tuple ["thing"] (defScope s_is_tuple) := ⟨rfl, rfl, rfl, by decide +kernel, rfl, by decide +kernel, by decide +kernel⟩
abbrev s_is_list : Stmt := top 8
abbrev N_is_list : List Str := ["thing"]
theorem sc_is_list : FnScope N_is_list ["thing"] (defScope s_is_list) := ⟨rfl, rfl, rfl, by decide +kernel, rfl, by decide +kernel, by decide +kernel⟩
abbrev s_is_row : Stmt := top 10
abbrev N_is_row : List Str := ["row", "end"]
theorem sc_is_row : FnScope N_is_row ["row"] (defScope s_is_row) := ⟨rfl, rfl, rfl, by decide +kernel, rfl, by decide +kernel, by decide +kernel⟩
abbrev s_Skin_init : Stmt := inClass (top 11) 0
abbrev N_Skin_init : List Str := ["self", "row", "start", "end"]
theorem sc_Skin_init : FnScope N_Skin_init ["self", "row"] (defScope s_Skin_init) := ⟨rfl, rfl, rfl, by decide +kernel, rfl, by decide +kernel, by decide +kernel⟩
abbrev s_Skin_eq : Stmt := inClass (top 11) 1
abbrev N_Skin_eq : List Str := ["self", "other"]
theorem sc_Skin_eq : FnScope N_Skin_eq ["self", "other"] (defScope s_Skin_eq) := ⟨rfl, rfl, rfl, by decide +kernel, rfl, by decide +kernel, by decide +kernel⟩
abbrev s_check_skin : Stmt := top 12
abbrev N_check_skin : List Str := ["skin"]
theorem sc_check_skin : FnScope N_check_skin ["skin"] (defScope s_check_skin) := ⟨rfl, rfl, rfl, by decide +kernel, rfl, by decide +kernel, by decide +kernel⟩
abbrev s_is_end : Stmt := top 13
abbrev N_is_end : List Str := ["skin", "thing"]
theorem sc_is_end : FnScope N_is_end ["skin", "thing"] (defScope s_is_end) := ⟨rfl, rfl, rfl, by decide +kernel, rfl, by decide +kernel, by decide +kernel⟩
abbrev s_end_behind : Stmt := top 14
abbrev N_end_behind : List Str := ["skin", "end", "steps"]
theorem sc_end_behind : FnScope N_end_behind ["skin", "end", "steps"] (defScope s_end_behind) := ⟨rfl, rfl, rfl, by decide +kernel, rfl, by decide +kernel, by decide +kernel⟩
abbrev s_next_end : Stmt := top 15
abbrev N_next_end : List Str := ["skin", "end"]
theorem sc_next_end : FnScope N_next_end ["skin", "end"] (defScope s_next_end) := ⟨rfl, rfl, rfl, by decide +kernel, rfl, by decide +kernel, by decide +kernel⟩
abbrev s_l_begun : Stmt := top 17
abbrev N_l_begun : List Str := ["script", "large", "grain"]
theorem sc_l_begun : FnScope N_l_begun ["script"] (defScope s_l_begun) := ⟨rfl, rfl, rfl, by decide +kernel, rfl, by decide +kernel, by decide +kernel⟩
abbrev s_l_mixed : Stmt := top 18
abbrev N_l_mixed : List Str := ["draw", "turn", "found", "great", "blend", "grain"]
theorem sc_l_mixed : FnScope N_l_mixed ["draw"] (defScope s_l_mixed) := ⟨rfl, rfl, rfl, by decide +kernel, rfl, by decide +kernel, by decide +kernel⟩
abbrev s_l_take : Stmt := top 19
abbrev N_l_take : List Str := ["draw", "amount", "found"]
theorem sc_l_take : FnScope N_l_take ["draw", "amount"] (defScope s_l_take) := ⟨rfl, rfl, rfl, by decide +kernel, rfl, by decide +kernel, by decide +kernel⟩
abbrev s_l_pick : Stmt := top 20
abbrev N_l_pick : List Str := ["draw", "some"]
theorem sc_l_pick : FnScope N_l_pick ["draw", "some"] (defScope s_l_pick) := ⟨rfl, rfl, rfl, by decide +kernel, rfl, by decide +kernel, by decide +kernel⟩
abbrev s_l_shuffled : Stmt := top 21
abbrev N_l_shuffled : List Str := ["draw", "some", "left", "found"]
theorem sc_l_shuffled : FnScope N_l_shuffled ["draw", "some"] (defScope s_l_shuffled) := ⟨rfl, rfl, rfl, by decide +kernel, rfl, by decide +kernel, by decide +kernel⟩
abbrev s_l_caught : Stmt := top 22
abbrev N_l_caught : List Str := ["work", "caught", "error"]
theorem sc_l_caught : FnScope N_l_caught ["work"] (defScope s_l_caught) := ⟨rfl, rfl, rfl, by decide +kernel, rfl, by decide +kernel, by decide +kernel⟩
abbrev s_l_number_error : Stmt := top 23
abbrev N_l_number_error : List Str := ["error", "part"]
theorem sc_l_number_error : FnScope N_l_number_error ["error", "part"] (defScope s_l_number_error) := ⟨rfl, rfl, rfl, by decide +kernel, rfl, by decide +kernel, by decide +kernel⟩
abbrev s_l_skin_error : Stmt := top 24
abbrev N_l_skin_error : List Str := ["error"]
theorem sc_l_skin_error : FnScope N_l_skin_error ["error"] (defScope s_l_skin_error) := ⟨rfl, rfl, rfl, by decide +kernel, rfl, by decide +kernel, by decide +kernel⟩
abbrev s_l_turned : Stmt := top 25
abbrev N_l_turned : List Str := ["line", "at"]
theorem sc_l_turned : FnScope N_l_turned ["line"] (defScope s_l_turned) := ⟨rfl, rfl, rfl, by decide +kernel, rfl, by decide +kernel, by decide +kernel⟩
abbrev s_l_row : Stmt := top 26
abbrev N_l_row : List Str := ["draw", "most"]
theorem sc_l_row : FnScope N_l_row ["draw", "most"] (defScope s_l_row) := ⟨rfl, rfl, rfl, by decide +kernel, rfl, by decide +kernel, by decide +kernel⟩
abbrev s_l_is_row : Stmt := top 27
abbrev N_l_is_row : List Str := ["thing", "item"]
theorem sc_l_is_row : FnScope N_l_is_row ["thing"] (defScope s_l_is_row) := ⟨rfl, rfl, rfl, by decide +kernel, rfl, by decide +kernel, by decide +kernel⟩
abbrev s_l_near : Stmt := top 28
abbrev N_l_near : List Str := ["draw", "line", "at", "way", "found", "item"]
theorem sc_l_near : FnScope N_l_near ["draw", "line"] (defScope s_l_near) := ⟨rfl, rfl, rfl, by decide +kernel, rfl, by decide +kernel, by decide +kernel⟩
abbrev s_l_judged : Stmt := top 29
abbrev N_l_judged : List Str := ["draw", "line", "lap", "thing", "found", "shown", "error"]
theorem sc_l_judged : FnScope N_l_judged ["draw", "line"] (defScope s_l_judged) := ⟨rfl, rfl, rfl, by decide +kernel, rfl, by decide +kernel, by decide +kernel⟩
abbrev s_l_ends_right : Stmt := top 30
abbrev N_l_ends_right : List Str := ["draw", "skin", "line", "end", "due", "bad"]
theorem sc_l_ends_right : FnScope N_l_ends_right ["draw", "skin", "line"] (defScope s_l_ends_right) := ⟨rfl, rfl, rfl, by decide +kernel, rfl, by decide +kernel, by decide +kernel⟩
abbrev s_law : Stmt := top 31
abbrev N_law : List Str := ["script", "draw", "turn", "line", "at", "given", "skin", "other", "due", "one"]
theorem sc_law : FnScope N_law ["script"] (defScope s_law) := ⟨rfl, rfl, rfl, by decide +kernel, rfl, by decide +kernel, by decide +kernel⟩
structure Txt (K : PySem.W.Frag) (mg : Str → Option Value) where
  RoundError : Ex0 K mg "RoundError"
  BadNumber : Ex1 K mg "BadNumber" "BadNumber.__init__" s_BadNumber_init ["self", "part"] "part"
  BadSkin : Ex1 K mg "BadSkin" "BadSkin.__init__" s_BadSkin_init ["self", "part"] "part"
  is_number : DefAt K mg "is_number" s_is_number ["thing"]
  is_within : DefAt K mg "is_within" s_is_within ["thing", "low", "high"]
  is_tuple : DefAt K mg "is_tuple" s_is_tuple ["thing"]
  is_list : DefAt K mg "is_list" s_is_list ["thing"]
  is_row : DefAt K mg "is_row" s_is_row ["row"]
  Skin : ClsAt K mg "Skin" "Skin.__init__" s_Skin_init ["self", "row"] ["row", "bands", "places"]
  check_skin : DefAt K mg "check_skin" s_check_skin ["skin"]
  is_end : DefAt K mg "is_end" s_is_end ["skin", "thing"]
  end_behind : DefAt K mg "end_behind" s_end_behind ["skin", "end", "steps"]
  next_end : DefAt K mg "next_end" s_next_end ["skin", "end"]
  l_begun : DefAt K mg "_law_begun" s_l_begun ["script"]
  l_mixed : DefAt K mg "_law_mixed" s_l_mixed ["draw"]
  l_take : DefAt K mg "_law_take" s_l_take ["draw", "amount"]
  l_pick : DefAt K mg "_law_pick" s_l_pick ["draw", "some"]
  l_shuffled : DefAt K mg "_law_shuffled" s_l_shuffled ["draw", "some"]
  l_caught : DefAt K mg "_law_caught" s_l_caught ["work"]
  l_number_error : DefAt K mg "_law_number_error" s_l_number_error ["error", "part"]
  l_skin_error : DefAt K mg "_law_skin_error" s_l_skin_error ["error"]
  l_turned : DefAt K mg "_law_turned" s_l_turned ["line"]
  l_row : DefAt K mg "_law_row" s_l_row ["draw", "most"]
  l_is_row : DefAt K mg "_law_is_row" s_l_is_row ["thing"]
  l_near : DefAt K mg "_law_near" s_l_near ["draw", "line"]
  l_judged : DefAt K mg "_law_judged" s_l_judged ["draw", "line"]
  l_ends_right : DefAt K mg "_law_ends_right" s_l_ends_right ["draw", "skin", "line"]
  law : DefAt K mg "law" s_law ["script"]
  zabs : mg "abs" = none
  zall : mg "all" = none
  zbool : mg "bool" = none
  zint : mg "int" = none
  zisinstance : mg "isinstance" = none
  zlen : mg "len" = none
  zlist : mg "list" = none
  zmin : mg "min" = none
  zrange : mg "range" = none
  zrepr : mg "repr" = none
  zsorted : mg "sorted" = none
  ztuple : mg "tuple" = none
  ztype : mg "type" = none
  kSS : PySem.W.kitOne K (.ref Skin.C) (.ref Skin.C) = some true
  kST : PySem.W.kitOne K (.type "tuple") (.ref Skin.C) = some false
  kSN : PySem.W.kitOne K (.type "NoneType") (.ref Skin.C) = some false
  kSL : PySem.W.kitOne K (.type "list") (.ref Skin.C) = some false
  kSI : PySem.W.kitOne K (.type "int") (.ref Skin.C) = some false
  kSkSk : PySem.W.kitOne K (.ref BadSkin.C) (.ref BadSkin.C) = some true
  sSR : PySem.W.subIn K (.ref BadSkin.C) (.ref RoundError.C) = some true
  kNN : PySem.W.kitOne K (.ref BadNumber.C) (.ref BadNumber.C) = some true
  sNR : PySem.W.subIn K (.ref BadNumber.C) (.ref RoundError.C) = some true
  kNoL : PySem.W.kitOne K (.type "NoneType") (.type "list") = some false
  kInL : PySem.W.kitOne K (.type "int") (.type "list") = some false
  kStL : PySem.W.kitOne K (.type "str") (.type "list") = some false
  kDiL : PySem.W.kitOne K (.type "dict") (.type "list") = some false
  kTuL : PySem.W.kitOne K (.type "tuple") (.type "list") = some false
  kNoT : PySem.W.kitOne K (.type "NoneType") (.type "tuple") = some false
  kInT : PySem.W.kitOne K (.type "int") (.type "tuple") = some false
  kStT : PySem.W.kitOne K (.type "str") (.type "tuple") = some false
  kDiT : PySem.W.kitOne K (.type "dict") (.type "tuple") = some false
  kBoI : PySem.W.kitOne K (.type "bool") (.type "int") = some true
  kNoI : PySem.W.kitOne K (.type "NoneType") (.type "int") = some false
  kStI : PySem.W.kitOne K (.type "str") (.type "int") = some false
  kTuI : PySem.W.kitOne K (.type "tuple") (.type "int") = some false
  kLiI : PySem.W.kitOne K (.type "list") (.type "int") = some false
  kInB : PySem.W.kitOne K (.type "int") (.type "bool") = some false
  eqM : MetAt K "__eq__" "Skin.__eq__" s_Skin_eq ["self", "other"] Skin.C
  neO : PySem.W.findIn K (.ref Skin.C) "__ne__" = some (some (.builtin "object.__ne__"))
  jc : Addr
  jP : Addr
  jF : FunC K "_law_judged" "_law_judged" s_l_judged l_judged.a l_judged.fd (.ref jc)
  ec : Addr
  eP : Addr
  eF : FunC K "_law_ends_right" "_law_ends_right" s_l_ends_right l_ends_right.a l_ends_right.fd (.ref ec)
  lc : Addr
  lP : Addr
  lF : FunC K "law" "law" s_law law.a law.fd (.ref lc)
  ne : jP ≠ lP
  ne_1 : eP ≠ lP
  ne_2 : jP ≠ eP
structure Dw where
  d : Addr
  l : Addr
  c : Addr
def drK (D : Dw) (r t : Int) : List (Key × V) := [(Sum.inr "large", .ref D.l), (Sum.inr "rest", .int r), (Sum.inr "cells", .ref D.c), (Sum.inr "turn", .int t)]
structure DrAt (D : Dw) (H : Hp) (ls cs : List Int) (r t : Int) : Prop where
  hd : H D.d = some (.dK (drK D r t))
  hl : H D.l = some (.lst (ls.map V.int))
  hc : H D.c = some (.lst (cs.map V.int))
  ne : D.l ≠ D.c
  nl : ls.length ≤ 63
  nc : cs.length ≤ 63
def DrOk (D : Dw) (H : Hp) : Prop := ∃ ls cs r t, DrAt D H ls cs r t
def Kp (D : Dw) (H H' : Hp) : Prop := ∀ b o, H b = some o → b ≠ D.d → b ≠ D.l → H' b = some o
theorem Kp.refl {D : Dw} {H : Hp} : Kp D H H := fun _ _ h _ _ => h
theorem Kp.trans {D : Dw} {H H1 H2 : Hp} (a : Kp D H H1) (b : Kp D H1 H2) : Kp D H H2 := fun c o h n m => b c o (a c o h n m) n m
theorem Kp.of {D : Dw} {H H' : Hp} (a : Same H H') : Kp D H H' := fun c o h _ _ => a c o h
theorem Kp.new {D : Dw} {H : Hp} {p : Addr} {o : HO} (h : H p = none) : Kp D H (upd H p o) := fun c u e _ _ => by
  rw [upd_ne (ne_of_none e h)]
  exact e
theorem DrAt.dne {D : Dw} {H : Hp} {ls cs : List Int} {r t : Int} (h : DrAt D H ls cs r t) {b : Addr} {o : HO} (e : H b = some o) (n : ∀ kvs, o ≠ .dK kvs) : b ≠ D.d := fun z => by
  rw [z, h.hd] at e
  exact n _ (Option.some.inj e).symm
theorem DrAt.lne {D : Dw} {H : Hp} {ls cs : List Int} {r t : Int} (h : DrAt D H ls cs r t) {b : Addr} {o : HO} (e : H b = some o) (n : ∀ xs, o ≠ .lst xs) : b ≠ D.l := fun z => by
  rw [z, h.hl] at e
  exact n _ (Option.some.inj e).symm
theorem DrAt.new {D : Dw} {H : Hp} {ls cs : List Int} {r t : Int} (h : DrAt D H ls cs r t) {p : Addr} {o : HO} (n : H p = none) : DrAt D (upd H p o) ls cs r t :=
  ⟨by rw [upd_ne (ne_of_none h.hd n)]; exact h.hd, by rw [upd_ne (ne_of_none h.hl n)]; exact h.hl, by rw [upd_ne (ne_of_none h.hc n)]; exact h.hc, h.ne, h.nl, h.nc⟩
theorem DrAt.same {D : Dw} {H H' : Hp} {ls cs : List Int} {r t : Int} (h : DrAt D H ls cs r t) (s : Same H H') : DrAt D H' ls cs r t := ⟨s _ _ h.hd, s _ _ h.hl, s _ _ h.hc, h.ne, h.nl, h.nc⟩
theorem DrAt.nelc {D : Dw} {H : Hp} {ls cs : List Int} {r t : Int} (h : DrAt D H ls cs r t) : D.l ≠ D.d := h.dne h.hl (fun _ z => nomatch z)
theorem DrAt.necd {D : Dw} {H : Hp} {ls cs : List Int} {r t : Int} (h : DrAt D H ls cs r t) : D.c ≠ D.d := h.dne h.hc (fun _ z => nomatch z)
theorem DrAt.put {D : Dw} {H : Hp} {ls cs : List Int} {r t r' t' : Int} (h : DrAt D H ls cs r t) : DrAt D (upd H D.d (.dK (drK D r' t'))) ls cs r' t' :=
  ⟨upd_same, by rw [upd_ne h.nelc]; exact h.hl, by rw [upd_ne h.necd]; exact h.hc, h.ne, h.nl, h.nc⟩
theorem Kp.put {D : Dw} {H : Hp} {o : HO} : Kp D H (upd H D.d o) := fun b u e n _ => by rw [upd_ne n]; exact e
theorem Kp.putl {D : Dw} {H : Hp} {o : HO} : Kp D H (upd H D.l o) := fun b u e _ n => by rw [upd_ne n]; exact e
theorem DrAt.pop {D : Dw} {H : Hp} {ls cs ls' : List Int} {r t : Int} (h : DrAt D H ls cs r t) (n : ls'.length ≤ 63) : DrAt D (upd H D.l (.lst (ls'.map V.int))) ls' cs r t :=
  ⟨by rw [upd_ne h.nelc.symm]; exact h.hd, upd_same, by rw [upd_ne h.ne.symm]; exact h.hc, h.ne, n, h.nc⟩
theorem val_large (D : Dw) (r t : Int) : valV (drK D r t) (Sum.inr "large") = some (.ref D.l) := rfl
theorem val_rest (D : Dw) (r t : Int) : valV (drK D r t) (Sum.inr "rest") = some (.int r) := rfl
theorem val_cells (D : Dw) (r t : Int) : valV (drK D r t) (Sum.inr "cells") = some (.ref D.c) := rfl
theorem val_turn (D : Dw) (r t : Int) : valV (drK D r t) (Sum.inr "turn") = some (.int t) := rfl
theorem put_rest (D : Dw) (r t r' : Int) : putK (drK D r t) (Sum.inr "rest") (.int r') = drK D r' t := rfl
theorem put_turn (D : Dw) (r t t' : Int) : putK (drK D r t) (Sum.inr "turn") (.int t') = drK D r t' := rfl
end Tt
set_option maxRecDepth 100000
set_option maxHeartbeats 4000000
namespace Tt
open PySem L2
local macro_rules | `(tactic| walk_at "v") => `(tactic| refine ⟨_, rfl, ?_⟩)
local macro_rules | `(tactic| walk_at "ii") => `(tactic| refine ⟨_, _, rfl, rfl, ?_⟩)
section
variable {P : Program} {w : World} {K : PySem.W.Frag} {mg : Str → Option Value} {base : Heap}
def spMixed : Sp := fun vs H Q _ => ∃ D : Dw, vs = [.ref D.d] ∧ DrOk D H ∧ ∀ z H', DrOk D H' → Kp D H H' → Q (.int z) H'
theorem ok_l_mixed (T : Txt K mg) : FnOk P w K mg base CX0 1 T.l_mixed.a T.l_mixed.fd ["draw"] spMixed := by
  refine T.l_mixed.F.ok sc_l_mixed (fun vs H Q E h => ?_) (fun cdv A outer s H vs Q E hr h => ?_)
  · obtain ⟨D, rfl, _⟩ := h
    rfl
  · obtain ⟨D, rfl, ⟨ls, cs, r, t, dr⟩, k⟩ := h
    have hu := hu_of hr
    have nd := sc_l_mixed.nd
    refine ⟨_, pss_cons (ps_dput hu (pv 0) pe_str (pe_op op_add (pe_dget hu (pv 0) pe_str (fun _ _ => rfl)) pe_int) rfl)
      (pss_cons (ps_par (i := 1) (j := 2) rfl nd rfl rfl (by decide) rfl rfl (pa_cons (pe_callTy call_int1 (by rfl) T.zint (by decide +kernel) (pa_cons (pe_dget hu (pv 0) pe_str (fun _ _ => rfl)) pa_nil)) (pa_cons pe_int pa_nil)) rfl)
      (pss_cons (ps_for PassesOwn.never rfl (pi_list (pe_lst (pa_cons pe_int (pa_cons pe_int (pa_cons pe_int pa_nil))))) (pg_name (i := 3) nd rfl (Or.inl rfl))
        (pss_cons (ps_set (i := 4) nd rfl (Or.inl rfl) (pe_op op_mod (pe_op op_add (pe_op op_mul (pv 1) pe_int) (pe_op op_fdiv (pv 3) pe_int)) (pv 3)))
        (pss_cons (ps_for PassesOwn.never rfl (pi_list (pe_dget hu (pv 0) pe_str (fun _ _ => rfl))) (pg_name (i := 5) nd rfl (Or.inl rfl))
          (pss_one (ps_set (i := 4) nd rfl (Or.inl rfl) (pe_op op_mod (pe_op op_add (pe_op op_mul (pv 4) pe_int) (pe_callTy call_int1 (by rfl) T.zint (by decide +kernel) (pa_cons (pv 5) pa_nil))) (pv 3)))))
        (pss_one (ps_set (i := 2) nd rfl (Or.inl rfl) (pe_op op_add (pe_op op_mul (pv 2) pe_int) (pe_op op_mod (pe_op op_pow (pv 4) pe_int) (pv 3))))))))
      (pss_one (ps_ret (pv 2))))), ?_⟩
    refine ⟨_, rfl, _, _, rfl, DGet.k (k := Sum.inr "turn") dr.hd, _, _, rfl, rfl, _, rfl, _, _, rfl, DPut.k (k := Sum.inr "turn") dr.hd (small1000 (by show 4 ≤ 1000; decide)), ?_⟩
    have dr1 : DrAt D (upd H D.d (.dK (drK D r (t + 1)))) ls cs r (t + 1) := dr.put
    have k1 : Kp D H (upd H D.d (.dK (drK D r (t + 1)))) := Kp.put
    generalize hH1 : upd H D.d (.dK (drK D r (t + 1))) = H1 at dr1 k1
    have eH1 : upd H D.d (.dK (putK (drK D r t) (Sum.inr "turn") (.int (t + 1)))) = H1 := hH1
    rw [eH1]
    refine ⟨_, rfl, _, _, rfl, DGet.k (k := Sum.inr "turn") dr1.hd, .inl ⟨_, rfl, ?_⟩⟩
    refine ⟨_, _, rfl, ?_⟩
    refine ⟨(by show 3 ≤ sizeLine; decide), fun p hp => ?_⟩
    have dr2 := dr1.new (o := .lst [.int 2147483629, .int 2147483587, .int 2147483579]) hp
    have k2 : Kp D H1 (upd H1 p (.lst [.int 2147483629, .int 2147483587, .int 2147483579])) := Kp.new hp
    refine ⟨p, rfl, ⟨_, SqL.of upd_same⟩, ?_⟩
    have hp2 : (upd H1 p (.lst [.int 2147483629, .int 2147483587, .int 2147483579])) p = some (.lst [.int 2147483629, .int 2147483587, .int 2147483579]) := upd_same
    generalize upd H1 p (.lst [.int 2147483629, .int 2147483587, .int 2147483579]) = H2 at dr2 k2 hp2
    refine for_list (K := K) (a := p) (xs := [.int 2147483629, .int 2147483587, .int 2147483579]) (fun i σ H' => H' = H2 ∧ ∃ f v3 v4 v5, σ = [some (.ref D.d), some (.int (t + 1)), some (.int f), v3, v4, v5])
      ⟨rfl, 0, _, _, _, rfl⟩ (fun i σ H' _ q => by rw [q.1]; exact SqL.of hp2) ?_ ?_
    · rintro i x σ H' hi ⟨rfl, f, v3, v4, v5, rfl⟩
      obtain ⟨g, rfl, g0, g1⟩ : ∃ g : Int, x = .int g ∧ 0 < g ∧ g < 2147483648 := by
        match i, hi with
        | 0, hi => exact ⟨_, (Option.some.inj hi).symm, by decide, by decide⟩
        | 1, hi => exact ⟨_, (Option.some.inj hi).symm, by decide, by decide⟩
        | 2, hi => exact ⟨_, (Option.some.inj hi).symm, by decide, by decide⟩
      refine ⟨_, rfl, _, _, rfl, rfl, .inr ⟨by decide, by decide⟩, _, rfl, _, _, rfl, rfl, ⟨by decide, by decide⟩, _, _, rfl, rfl, _, rfl, _, _, rfl, rfl, g0, ?_⟩
      refine ⟨_, rfl, _, _, rfl, DGet.k (k := Sum.inr "cells") dr2.hd, _, rfl, ⟨_, SqL.of dr2.hc⟩, ?_⟩
      refine for_list (K := K) (a := D.c) (xs := cs.map V.int) (fun i σ H'' => H'' = H' ∧ ∃ b v5, (0 ≤ b ∧ b < g) ∧ σ = [some (.ref D.d), some (.int (t + 1)), some (.int f), some (.int g), some (.int b), v5])
        ⟨rfl, _, _, ⟨Int.emod_nonneg _ (by omega), Int.emod_lt_of_pos _ g0⟩, rfl⟩ (fun i σ H'' _ q => by rw [q.1]; exact SqL.of dr2.hc) ?_ ?_
      · rintro j y σ H'' hj ⟨rfl, b, v5, hb, rfl⟩
        obtain ⟨z, rfl⟩ : ∃ z, y = V.int z := by
          rw [List.getElem?_map] at hj
          cases e : cs[j]? with
          | none => rw [e] at hj; cases hj
          | some z => rw [e] at hj; exact ⟨z, (Option.some.inj hj).symm⟩
        refine ⟨_, rfl, _, _, rfl, rfl, .inr ⟨by decide, by decide⟩, _, rfl, .inl ⟨_, rfl, _, _, rfl, rfl, _, rfl, _, _, rfl, rfl, g0, ?_⟩⟩
        exact ⟨rfl, _, _, ⟨Int.emod_nonneg _ (by omega), Int.emod_lt_of_pos _ g0⟩, rfl⟩
      · rintro σ H'' ⟨rfl, b, v5, hb, rfl⟩
        refine ⟨_, rfl, _, _, rfl, rfl, .inr ⟨by decide, by decide⟩, _, rfl, _, _, rfl, rfl, ⟨by decide, by decide, by omega⟩, _, rfl, _, _, rfl, rfl, g0, _, _, rfl, rfl, ?_⟩
        exact ⟨rfl, _, _, _, _, rfl⟩
    · rintro σ H' ⟨rfl, f, v3, v4, v5, rfl⟩
      refine ⟨_, rfl, ?_⟩
      exact k _ _ ⟨_, _, _, _, dr2⟩ (k1.trans k2)
end
end Tt
set_option maxRecDepth 100000
set_option maxHeartbeats 4000000
namespace Tt
open PySem L2
section
variable {P : Program} {w : World} {K : PySem.W.Frag} {mg : Str → Option Value} {base : Heap}
theorem dpAll_ints (H : Hp) : ∀ ls : List Int, DpAll K H (ls.map V.int) (ls.map PyData.int)
  | [] => .nil
  | a :: l => .cons (.int a) (dpAll_ints H l)
theorem shapedAll_ints : ∀ ls : List Int, SeqAt.shaped (.list (ls.map PyData.int)) = true
  | [] => by first | rfl | decide
  | a :: l => by
    have h := shapedAll_ints l
    first | exact h | (simp [SeqAt.shaped] at h ⊢) | trace_state
theorem eqv_nil (ls : List Int) : PyData.eqv (.list (ls.map PyData.int)) (.list []) = decide (ls = []) := by
  cases ls with
  | nil => rfl
  | cons a l => simp [PyData.eqv] <;> rfl
theorem yes_t {σ : L2.St} {H : Hp} {A B : Hp → Prop} (h : A H) : tYes σ H (fun b H3 => if b = true then A H3 else B H3) := by
  show if true = true then A H else B H
  rw [if_pos rfl]
  exact h
theorem ints_at {cs : List Int} {j : Nat} {y : V} (hj : (cs.map V.int)[j]? = some y) : ∃ z, y = V.int z ∧ cs[j]? = some z := by
  rw [List.getElem?_map] at hj
  cases e : cs[j]? with
  | none => rw [e] at hj; cases hj
  | some z => rw [e] at hj; exact ⟨z, (Option.some.inj hj).symm, rfl⟩
def spTake : Sp := fun vs H Q _ => ∃ (D : Dw) (m : Int), vs = [.ref D.d, .int m] ∧ 0 < m ∧ m < 1073741824 ∧ DrOk D H ∧ ∀ n H', 0 ≤ n → n < m → DrOk D H' → Kp D H H' → Q (.int n) H'
theorem ok_l_take (T : Txt K mg) : FnOk P w K mg base CX0 2 T.l_take.a T.l_take.fd ["draw", "amount"] spTake := by
  refine T.l_take.F.ok sc_l_take (fun vs H Q E h => ?_) (fun cdv A outer s H vs Q E hr h => ?_)
  · obtain ⟨D, m, rfl, _⟩ := h
    rfl
  · obtain ⟨D, m, rfl, m0, m1, ⟨ls, cs, r, t, dr⟩, k⟩ := h
    have hu := hu_of hr
    have nd := sc_l_take.nd
    refine ⟨_, (pss_cons (ps_if (pt_cmpR op_eq (pe_dget hu (pv 0) pe_str (fun _ _ => rfl)) pe_int (nomark _))
      (pss_one (ps_dput hu (pv 0) pe_str (pe_ifExp (pt_cmpR (op_neD hr.units) (pe_dget hu (pv 0) pe_str (fun _ _ => rfl)) (pe_lst pa_nil) (nomark _)) (pe_bm PySem.F.plainAttrs_list PySem.F.slot_list_pop PySem.F.type_list_pop mt_popAt (pe_dget hu (pv 0) pe_str (fun _ _ => rfl)) (pa_cons pe_int pa_nil)) (pe_call (ok_l_mixed T) (hr.mono (by decide)) (by rfl) T.l_mixed.g T.l_mixed.k T.l_mixed.b .nil pass0 (pa_cons (pv 0) pa_nil))) rfl))
      pss_nil)
    (pss_cons (ps_set (i := 2) nd rfl (Or.inl rfl) (pe_op op_mod (pe_callTy call_int1 (by rfl) T.zint (by decide +kernel) (pa_cons (pe_dget hu (pv 0) pe_str (fun _ _ => rfl)) pa_nil)) (pv 1)))
    (pss_cons (ps_dput hu (pv 0) pe_str (pe_op op_fdiv (pe_callTy call_int1 (by rfl) T.zint (by decide +kernel) (pa_cons (pe_dget hu (pv 0) pe_str (fun _ _ => rfl)) pa_nil)) (pv 1)) rfl)
    (pss_one (ps_ret (pv 2)))))), ?_⟩
    refine ⟨_, rfl, _, _, rfl, DGet.k (k := Sum.inr "rest") dr.hd, rfl, _, rfl, ?_⟩
    have fin : ∀ r' ls' cs' t' H', DrAt D H' ls' cs' r' t' → Kp D H H' → tSeq (tAsg (tOp (rI (fun _ j => 0 < j) fun i j => .int (i % j)) (tCB (fun xs H Q => (∃ i, xs = [.int i] ∧ Q (.int i) H) ∨ ∃ k, xs = [.bl k] ∧ Q (.int (if k then 1 else 0)) H) (tCons (tDGet (tVar 0) (tC (.str "rest"))) tNil)) (tVar 1)) (gName 2))
        (tSeq (sDPut (tVar 0) (tC (.str "rest")) (tOp (rI CDiv fun i j => .int (i / j)) (tCB (fun xs H Q => (∃ i, xs = [.int i] ∧ Q (.int i) H) ∨ ∃ k, xs = [.bl k] ∧ Q (.int (if k then 1 else 0)) H) (tCons (tDGet (tVar 0) (tC (.str "rest"))) tNil)) (tVar 1))) (tRet (tVar 2))) { nx := fun _ H' => Q .non H', rt := Q } [some (.ref D.d), some (.int m), none] H' := by
      intro r' ls' cs' t' H' d' k'
      refine ⟨_, rfl, _, _, rfl, DGet.k (k := Sum.inr "rest") d'.hd, .inl ⟨_, rfl, _, rfl, _, _, rfl, rfl, m0, ?_⟩⟩
      refine ⟨_, rfl, _, _, rfl, DGet.k (k := Sum.inr "rest") d'.hd, .inl ⟨_, rfl, _, rfl, _, _, rfl, rfl, ⟨m0, m1⟩, _, rfl, _, _, rfl, DPut.k (k := Sum.inr "rest") d'.hd (small1000 (by show 4 ≤ 1000; decide)), ?_⟩⟩
      refine ⟨_, rfl, k _ _ (Int.emod_nonneg _ (by omega)) (Int.emod_lt_of_pos _ m0) ⟨ls', cs', r' / m, t', ?_⟩ (k'.trans ?_)⟩
      · exact d'.put
      · exact Kp.put
    refine ite2 (fun _ => ?_) (fun _ => fin r ls cs t H dr Kp.refl)
    refine ⟨_, rfl, _, _, rfl, DGet.k (k := Sum.inr "large") dr.hd, (by show 0 ≤ sizeLine; decide), fun p hp => ?_⟩
    have dr1 := dr.new (o := .lst []) hp
    have k1 : Kp D H (upd H p (.lst [])) := Kp.new hp
    refine ⟨_, _, .lst (SqL.of dr1.hl) (dpAll_ints _ ls), .lst (SqL.of upd_same) .nil, shapedAll_ints ls, rfl, _, rfl, ?_⟩
    rw [eqv_nil]
    cases ls with
    | nil =>
      refine iteF ?_
      refine ⟨_, rfl, D, rfl, ⟨_, _, _, _, dr1⟩, fun z H2 ⟨ls2, cs2, r2, t2, d2⟩ k2 => ?_⟩
      refine ⟨_, rfl, _, _, rfl, DPut.k (k := Sum.inr "rest") d2.hd (small1000 (by show 4 ≤ 1000; decide)), ?_⟩
      exact fin z ls2 cs2 t2 _ (d2.put : DrAt D (upd H2 D.d (.dK (drK D z t2))) ls2 cs2 z t2) ((k1.trans k2).trans Kp.put)
    | cons a l =>
      refine iteT ?_
      refine ⟨_, rfl, _, _, rfl, DGet.k (k := Sum.inr "large") dr1.hd, .inl ⟨rfl, _, SqL.of dr1.hl⟩, D.l, _, 0, 0, _, rfl, rfl, dr1.hl, by decide, by decide, by simp [seqIndex?], rfl, ?_⟩
      have d2 : DrAt D (upd (upd H p (.lst [])) D.l (.lst (l.map V.int))) l cs r t := dr1.pop (Nat.le_trans (Nat.le_succ _) dr.nl)
      refine ⟨_, rfl, _, _, rfl, DPut.k (k := Sum.inr "rest") d2.hd (small1000 (by show 4 ≤ 1000; decide)), ?_⟩
      exact fin a l cs t _ (d2.put : DrAt D (upd _ D.d (.dK (drK D a t))) l cs a t) ((k1.trans Kp.putl).trans Kp.put)
def spPick (K : PySem.W.Frag) : Sp := fun vs H Q _ => ∃ (D : Dw) (p : Addr) (xs : List V), vs = [.ref D.d, .ref p] ∧ (SqL K H p xs ∨ SqT K H p xs) ∧ p ≠ D.l ∧ xs ≠ [] ∧ xs.length < 1073741824 ∧ DrOk D H ∧
  ∀ (i : Nat) x H', xs[i]? = some x → DrOk D H' → Kp D H H' → Q x H'
theorem Kp.seqL {D : Dw} {H H' : Hp} {p : Addr} {xs : List V} (k : Kp D H H') (dr : DrOk D H) (n : p ≠ D.l) (h : SqL K H p xs) : SqL K H' p xs := by
  obtain ⟨ls, cs, r, t, d⟩ := dr
  rcases h with (h | ⟨o, h⟩) | h
  · exact .inl (.inl (k _ _ h (d.dne h fun _ z => nomatch z) n))
  · exact .inl (.inr ⟨o, k _ _ h (d.dne h fun _ z => nomatch z) n⟩)
  · exact .inr h
theorem Kp.seqT {D : Dw} {H H' : Hp} {p : Addr} {xs : List V} (k : Kp D H H') (dr : DrOk D H) (h : SqT K H p xs) : SqT K H' p xs := by
  obtain ⟨ls, cs, r, t, d⟩ := dr
  rcases h with (h | ⟨o, h⟩) | h
  · exact .inl (.inl (k _ _ h (d.dne h fun _ z => nomatch z) (d.lne h fun _ z => nomatch z)))
  · exact .inl (.inr ⟨o, k _ _ h (d.dne h fun _ z => nomatch z) (d.lne h fun _ z => nomatch z)⟩)
  · exact .inr h
theorem ok_l_pick (T : Txt K mg) : FnOk P w K mg base CX0 3 T.l_pick.a T.l_pick.fd ["draw", "some"] (spPick K) := by
  refine T.l_pick.F.ok sc_l_pick (fun vs H Q E h => ?_) (fun cdv A outer s H vs Q E hr h => ?_)
  · obtain ⟨D, p, xs, rfl, _⟩ := h
    rfl
  · obtain ⟨D, p, xs, rfl, hs, np, ne, ln, dr, k⟩ := h
    have hu := hu_of hr
    have nd := sc_l_pick.nd
    refine ⟨_, (pss_one (ps_ret (pe_ix (IxR.or ix_list ix_tup) (pv 1) (pe_call (ok_l_take T) (hr.mono (by decide)) (by rfl) T.l_take.g T.l_take.k T.l_take.b .nil pass0 (pa_cons (pv 0) (pa_cons (pe_callB call_len_seq (by rfl) T.zlen (by decide +kernel) (pa_cons (pv 1) pa_nil)) pa_nil))) (fun _ _ => rfl)))), ?_⟩
    have l0 : 0 < xs.length := List.length_pos_iff.mpr ne
    refine ⟨_, rfl, _, rfl, _, rfl, p, xs, rfl, hs, D, (xs.length : Int), rfl, by omega, by omega, dr, fun n H' n0 n1 dr' k' => ?_⟩
    obtain ⟨m, rfl⟩ := Int.eq_ofNat_of_zero_le n0
    have hn : m < xs.length := by omega
    have hat : atI xs (m : Int) = some xs[m] := atI_nat (List.getElem?_eq_getElem hn)
    have fin : Q xs[m] H' := k m _ H' (List.getElem?_eq_getElem hn) dr' k'
    rcases hs with hs | hs
    · exact .inl ⟨p, xs, m, _, rfl, rfl, k'.seqL dr np hs, hat, fin⟩
    · exact .inr ⟨p, xs, m, _, rfl, rfl, k'.seqT dr hs, hat, fin⟩
def spBegun (K : PySem.W.Frag) : Sp := fun vs H Q _ => ∃ (a : Addr) (ns : List Int), vs = [.ref a] ∧ SqL K H a (ns.map V.int) ∧ ns.length ≤ 63 ∧ ∀ (D : Dw) H', DrOk D H' → Same H H' → Q (.ref D.d) H'
theorem ok_l_begun (T : Txt K mg) : FnOk P w K mg base CX0 1 T.l_begun.a T.l_begun.fd ["script"] (spBegun K) := by
  refine T.l_begun.F.ok sc_l_begun (fun vs H Q E h => ?_) (fun cdv A outer s H vs Q E hr h => ?_)
  · obtain ⟨a, ns, rfl, _⟩ := h
    rfl
  · obtain ⟨a, ns, rfl, hs, hl, k⟩ := h
    have hu := hu_of hr
    have nd := sc_l_begun.nd
    refine ⟨_, (pss_cons (ps_setLc (i := 1) (own := [("grain", 2)]) (g := gName 2) rfl nd rfl rfl (sw_true rfl rfl rfl (by decide +kernel)) (pi_list (pv 0)) (blkOk_by (own := [("grain", 2)]) (N := N_l_begun) (sc := defScope s_l_begun) (by decide +kernel)) (fun _ _ _ _ _ => pg_name (i := 2) nd rfl (Or.inl rfl)) (fun _ _ _ _ _ => pts_one (pt_cmpR op_ge (pe_callB call_abs (by rfl) T.zabs (by decide +kernel) (pa_cons (pv 2) pa_nil)) (pe_op op_pow pe_int pe_int) (nomark _))) (fun _ _ _ _ _ => (pe_op op_sub (pe_callB call_abs (by rfl) T.zabs (by decide +kernel) (pa_cons (pv 2) pa_nil)) (pe_op op_pow pe_int pe_int))))
    (pss_one (ps_ret (pe_disp (pps_cons pe_str (pv 1) (pps_cons pe_str pe_int (pps_cons pe_str (pe_lc (own := [("grain", 2)]) (g := gName 2) rfl nd (pi_list (pv 0)) (blkOk_by (own := [("grain", 2)]) (N := N_l_begun) (sc := defScope s_l_begun) (by decide +kernel)) (fun _ _ _ _ _ => pg_name (i := 2) nd rfl (Or.inl rfl)) (fun _ _ _ _ _ => pts_nil) (fun _ _ _ _ _ => (pe_callB call_abs (by rfl) T.zabs (by decide +kernel) (pa_cons (pv 2) pa_nil)))) (pps_cons pe_str pe_int pps_nil)))) (by rfl) (by rfl) (fun z => by cases z) (by decide))))), ?_⟩
    refine ⟨_, rfl, a, rfl, ⟨_, hs⟩, fun D1 hD1 => lc_list (K := K) (a := a) (xs := ns.map V.int) (fun i H' => ∃ ls : List Int, ls.length ≤ i ∧ H' D1 = some (.lst (ls.map V.int)) ∧ Same H H')
      ⟨[], Nat.le_refl _, upd_same, fun b o e => by rw [upd_ne (ne_of_none e hD1)]; exact e⟩ (fun i H' _ ⟨_, _, _, s⟩ => s.seq hs) ?_ ?_⟩
    · rintro i y H' hi ⟨ls, hls, h1, s1⟩
      obtain ⟨z, rfl, hz⟩ := ints_at hi
      have hi63 : i < ns.length := (List.getElem?_eq_some_iff.mp hz).1
      refine ⟨rfl, _, rfl, _, rfl, _, _, rfl, rfl, ⟨by decide, by decide, by decide⟩, _, _, rfl, rfl, _, rfl, ?_⟩
      refine ite2 (fun _ => ?_) (fun _ => ⟨ls, by omega, h1, s1⟩)
      refine ⟨_, rfl, _, rfl, _, _, rfl, rfl, ⟨by decide, by decide, by decide⟩, _, _, rfl, rfl, _, h1, ?_, ?_⟩
      · rw [List.length_map]
        exact small1000 (by omega)
      · refine ⟨ls ++ [(if z < 0 then -z else z) - 10 ^ (18 : Int).toNat], by rw [List.length_append]; show ls.length + 1 ≤ i + 1; omega, ?_, ?_⟩
        · rw [upd_same, List.map_append]
          rfl
        · intro b o e
          have e1 := s1 b o e
          rw [upd_ne (ne_of_none e hD1)]
          exact e1
    · rintro H1 ⟨ls, hls, h1, s1⟩
      rw [List.length_map] at hls
      refine fun p hp => ?_
      refine ⟨_, rfl, ?_⟩
      have s2 : Same H (upd H1 p (.dK [])) := fun b o e => by rw [upd_ne (ne_of_none (s1 b o e) hp)]; exact s1 b o e
      refine ⟨_, rfl, a, rfl, ⟨_, s2.seq hs⟩, fun D2 hD2 => lc_list (K := K) (a := a) (xs := ns.map V.int) (fun i H' => ∃ cs : List Int, cs.length ≤ i ∧ H' D2 = some (.lst (cs.map V.int)) ∧ Same (upd H1 p (.dK [])) H')
        ⟨[], Nat.le_refl _, upd_same, fun b o e => by rw [upd_ne (ne_of_none e hD2)]; exact e⟩ (fun i H' _ ⟨_, _, _, s⟩ => s.seq (s2.seq hs)) ?_ ?_⟩
      · rintro i y H' hi ⟨cs, hcs, h2, s3⟩
        obtain ⟨z, rfl, hz⟩ := ints_at hi
        have hi63 : i < ns.length := (List.getElem?_eq_some_iff.mp hz).1
        refine ⟨rfl, yes_t ?_⟩
        refine ⟨_, rfl, _, rfl, _, h2, by rw [List.length_map]; exact small1000 (by omega), ?_⟩
        refine ⟨cs ++ [if z < 0 then -z else z], by rw [List.length_append]; show cs.length + 1 ≤ i + 1; omega, ?_, ?_⟩
        · rw [upd_same, List.map_append]
          rfl
        · intro b o e
          rw [upd_ne (ne_of_none e hD2)]
          exact s3 b o e
      · rintro H2 ⟨cs, hcs, h2, s3⟩
        rw [List.length_map] at hcs
        have hp2 : H2 p = some (.dK []) := s3 _ _ upd_same
        have nDp : D2 ≠ p := fun z => by rw [z, upd_same] at hD2; cases hD2
        have nD1p : D1 ≠ p := ne_of_none h1 hp
        have h12 : H2 D1 = some (.lst (ls.map V.int)) := s3 _ _ (by rw [upd_ne nD1p]; exact h1)
        have nD12 : D1 ≠ D2 := fun z => by
          rw [← z, upd_ne nD1p, h1] at hD2
          cases hD2
        refine ⟨hp2, drK ⟨p, D1, D2⟩ 0 0, rfl, by show 4 ≤ 15; decide, ?_⟩
        refine k ⟨p, D1, D2⟩ _ ⟨ls, cs, 0, 0, ⟨upd_same, by rw [upd_ne nD1p]; exact h12, by rw [upd_ne nDp]; exact h2, nD12, by omega, by omega⟩⟩ ?_
        intro b o e
        rw [upd_ne (ne_of_none (s1 b o e) hp)]
        exact s3 _ _ (s2 b o e)
end
end Tt
set_option maxRecDepth 100000
set_option maxHeartbeats 4000000
namespace Tt
open PySem L2
section
variable {P : Program} {w : World} {K : PySem.W.Frag} {mg : Str → Option Value} {base : Heap}
def Off (D : Dw) (b : Addr) : Prop := b ≠ D.d ∧ b ≠ D.l ∧ b ≠ D.c
theorem DrOk.off {D : Dw} {H : Hp} {b : Addr} (h : DrOk D H) (n : H b = none) : Off D b := by
  obtain ⟨ls, cs, r, t, d⟩ := h
  exact ⟨(ne_of_none d.hd n).symm, (ne_of_none d.hl n).symm, (ne_of_none d.hc n).symm⟩
theorem DrOk.new {D : Dw} {H : Hp} {p : Addr} {o : HO} (h : DrOk D H) (n : H p = none) : DrOk D (upd H p o) := by
  obtain ⟨ls, cs, r, t, d⟩ := h
  exact ⟨ls, cs, r, t, d.new n⟩
theorem DrOk.put {D : Dw} {H : Hp} {p : Addr} {o : HO} (h : DrOk D H) (n : Off D p) : DrOk D (upd H p o) := by
  obtain ⟨ls, cs, r, t, d⟩ := h
  exact ⟨ls, cs, r, t, ⟨by rw [upd_ne n.1.symm]; exact d.hd, by rw [upd_ne n.2.1.symm]; exact d.hl, by rw [upd_ne n.2.2.symm]; exact d.hc, d.ne, d.nl, d.nc⟩⟩
theorem DrOk.same {D : Dw} {H H' : Hp} (h : DrOk D H) (s : Same H H') : DrOk D H' := by
  obtain ⟨ls, cs, r, t, d⟩ := h
  exact ⟨ls, cs, r, t, d.same s⟩
theorem Kp.at {D : Dw} {H H' : Hp} {b : Addr} {o : HO} (k : Kp D H H') (n : Off D b) (h : H b = some o) : H' b = some o := k b o h n.1 n.2.1
theorem DrOk.tup {D : Dw} {H H' : Hp} {b : Addr} {xs : List V} (h : DrOk D H) (k : Kp D H H') (e : H b = some (.tup xs)) : H' b = some (.tup xs) := by
  obtain ⟨ls, cs, r, t, d⟩ := h
  exact k b _ e (d.dne e fun _ z => nomatch z) (d.lne e fun _ z => nomatch z)
theorem perm_erase : ∀ {l : List Int} {i : Nat} {a : Int}, l[i]? = some a → (a :: l.eraseIdx i).Perm l
  | [], _, _, h => by simp at h
  | b :: l, 0, a, h => by
    have e : b = a := by simpa using h
    subst e
    exact List.Perm.refl _
  | b :: l, i + 1, a, h => by
    have h' : l[i]? = some a := by simpa using h
    rw [List.eraseIdx_cons_succ]
    exact (List.Perm.swap b a _).trans ((perm_erase h').cons b)
theorem eraseIdx_mapI : ∀ (l : List Int) (i : Nat), (l.map V.int).eraseIdx i = (l.eraseIdx i).map V.int
  | [], _ => rfl
  | _ :: _, 0 => rfl
  | a :: l, i + 1 => by
    rw [List.map_cons, List.eraseIdx_cons_succ, eraseIdx_mapI l i, List.eraseIdx_cons_succ, List.map_cons]
theorem eqv_list_nil (H : Hp) : ∀ {xs : List V} {ds : List PyData}, DpAll K H xs ds → (PyData.eqv (.list ds) (.list []) = decide (xs = []))
  | [], _, .nil => rfl
  | _ :: _, _, .cons _ _ => by simp [PyData.eqv] <;> rfl
def spShuf (K : PySem.W.Frag) : Sp := fun vs H Q _ => ∃ (D : Dw) (p : Addr) (ns : List Int), vs = [.ref D.d, .ref p] ∧ (SqL K H p (ns.map V.int) ∨ SqT K H p (ns.map V.int)) ∧ ns.length ≤ 1000 ∧ DrOk D H ∧
  ∀ (ns' : List Int) q H', ns'.Perm ns → DrOk D H' → Kp D H H' → H q = none → H' q = some (.lst (ns'.map V.int)) → Q (.ref q) H'
theorem ok_l_shuffled (T : Txt K mg) : FnOk P w K mg base CX0 3 T.l_shuffled.a T.l_shuffled.fd ["draw", "some"] (spShuf K) := by
  refine T.l_shuffled.F.ok sc_l_shuffled (fun vs H Q E h => ?_) (fun cdv A outer s H vs Q E hr h => ?_)
  · obtain ⟨D, p, ns, rfl, _⟩ := h
    rfl
  · obtain ⟨D, p, ns, rfl, hs, hl, dr, k⟩ := h
    have hu := hu_of hr
    have nd := sc_l_shuffled.nd
    refine ⟨_, (pss_cons (ps_par (i := 2) (j := 3) rfl nd rfl rfl (by decide) rfl rfl (pa_cons (pe_callTy call_list_of (by rfl) T.zlist (by decide +kernel) (pa_cons (pv 1) pa_nil)) (pa_cons (pe_lst pa_nil) pa_nil)) rfl)
    (pss_cons (ps_while PassesOwn.never (pt_cmpR (op_neD hr.units) (pv 2) (pe_lst pa_nil) (nomark _))
      (pss_one (ps_expr (pe_bm PySem.F.plainAttrs_list PySem.F.slot_list_append PySem.F.type_list_append mt_append (pv 3) (pa_cons (pe_bm PySem.F.plainAttrs_list PySem.F.slot_list_pop PySem.F.type_list_pop mt_popAt (pv 2) (pa_cons (pe_call (ok_l_take T) (hr.mono (by decide)) (by rfl) T.l_take.g T.l_take.k T.l_take.b .nil pass0 (pa_cons (pv 0) (pa_cons (pe_callB call_len_seq (by rfl) T.zlen (by decide +kernel) (pa_cons (pv 2) pa_nil)) pa_nil))) pa_nil)) pa_nil)))))
    (pss_one (ps_ret (pv 3))))), ?_⟩
    refine ⟨_, rfl, p, _, rfl, hs, fun l hl0 => ⟨(by show 0 ≤ sizeLine; decide), fun q hq => ⟨_, _, rfl, ?_⟩⟩⟩
    have d1 := (dr.new (o := .lst (ns.map V.int)) hl0).new (o := .lst []) hq
    have k1 : Kp D H (upd (upd H l (.lst (ns.map V.int))) q (.lst [])) := (Kp.new hl0).trans (Kp.new hq)
    have nlq : l ≠ q := ne_of_none upd_same hq
    have nl : Off D l := dr.off hl0
    have nq : Off D q := (dr.new (o := .lst (ns.map V.int)) hl0).off hq
    have hqH : H q = none := by rw [upd_ne nlq.symm] at hq; exact hq
    have a1 : (upd (upd H l (.lst (ns.map V.int))) q (.lst [])) l = some (.lst (ns.map V.int)) := by rw [upd_ne nlq]; exact upd_same
    have a2 : (upd (upd H l (.lst (ns.map V.int))) q (.lst [])) q = some (.lst []) := upd_same
    generalize upd (upd H l (.lst (ns.map V.int))) q (.lst []) = H1 at d1 k1 a1 a2
    refine while_by (fun σ H' => ∃ (le fo : List Int), σ = [some (.ref D.d), some (.ref p), some (.ref l), some (.ref q)] ∧ H' l = some (.lst (le.map V.int)) ∧ H' q = some (.lst (fo.map V.int)) ∧ (fo ++ le).Perm ns ∧ DrOk D H' ∧ Kp D H H')
      (fun σ H' => match H' l with | some (.lst xs) => xs.length | _ => 0) ⟨ns, [], rfl, a1, a2, List.Perm.refl _, d1, k1⟩ ?_ ?_
    · rintro σ H' ⟨le, fo, rfl, h1, h2, pm, dr', k'⟩
      have hlen : fo.length + le.length = ns.length := by rw [← pm.length_eq, List.length_append]
      refine ⟨_, rfl, (by show 0 ≤ sizeLine; decide), fun e he => ?_⟩
      have e1 : (upd H' e (.lst [])) l = some (.lst (le.map V.int)) := by rw [upd_ne (ne_of_none h1 he)]; exact h1
      have e2 : (upd H' e (.lst [])) q = some (.lst (fo.map V.int)) := by rw [upd_ne (ne_of_none h2 he)]; exact h2
      have d2 : DrOk D (upd H' e (.lst [])) := dr'.new he
      have k2 : Kp D H (upd H' e (.lst [])) := k'.trans (Kp.new he)
      refine ⟨_, _, .lst (SqL.of e1) (dpAll_ints _ le), .lst (SqL.of upd_same) .nil, shapedAll_ints le, rfl, _, rfl, ?_⟩
      rw [eqv_nil]
      refine ite2 (fun c => ?_) (fun c => ?_)
      · have hne : le ≠ [] := by simpa using c
        have l0 : 0 < le.length := List.length_pos_iff.mpr hne
        refine ⟨_, rfl, .inl ⟨rfl, _, SqL.of e2⟩, _, rfl, .inl ⟨rfl, _, SqL.of e1⟩, _, rfl, _, rfl, l, _, rfl, .inl (SqL.of e1), D, _, rfl, ?_⟩
        rw [List.length_map]
        refine ⟨by omega, by omega, d2, fun n H3 n0 n1 d3 k3 => ?_⟩
        obtain ⟨m, rfl⟩ := Int.eq_ofNat_of_zero_le n0
        have hm : m < le.length := by omega
        have f1 : H3 l = some (.lst (le.map V.int)) := k3.at nl e1
        have f2 : H3 q = some (.lst (fo.map V.int)) := k3.at nq e2
        refine ⟨l, _, _, m, V.int le[m], rfl, rfl, f1, by omega, by omega, ?_, ?_, ?_⟩
        · rw [List.length_map]
          have e0 : ¬ ((m : Int) < 0) := by omega
          simp [seqIndex?, e0, hm]
        · rw [List.getElem?_map, List.getElem?_eq_getElem hm]
          rfl
        · have nlq' : q ≠ l := nlq.symm
          have g2 : (upd H3 l (.lst ((le.map V.int).eraseIdx m))) q = some (.lst (fo.map V.int)) := by rw [upd_ne nlq']; exact f2
          refine ⟨q, _, _, rfl, rfl, g2, by rw [List.length_map]; exact small1000 (by omega), ?_⟩
          have ee : (le.map V.int).eraseIdx m = (le.eraseIdx m).map V.int := eraseIdx_mapI le m
          refine ⟨⟨le.eraseIdx m, fo ++ [le[m]], rfl, ?_, ?_, ?_, ?_, ?_⟩, ?_⟩
          · rw [upd_ne nlq, upd_same, ee]
          · rw [upd_same, List.map_append]
            rfl
          · refine List.Perm.trans ?_ pm
            rw [List.append_assoc]
            exact (perm_erase (List.getElem?_eq_getElem hm)).append_left fo
          · exact (d3.put nl).put nq
          · intro b o hb n1 n2
            have hbl : b ≠ l := ne_of_none hb hl0
            have hbq : b ≠ q := ne_of_none hb hqH
            rw [upd_ne hbq, upd_ne hbl]
            exact k3 _ _ (k2 _ _ hb n1 n2) n1 n2
          · show (match (upd (upd H3 l _) q _) l with | some (.lst xs) => xs.length | _ => 0) < (match H' l with | some (.lst xs) => xs.length | _ => 0)
            rw [upd_ne nlq, upd_same, h1, ee]
            show ((le.eraseIdx m).map V.int).length < (le.map V.int).length
            rw [List.length_map, List.length_map, List.length_eraseIdx_of_lt hm]
            omega
      · have hne : le = [] := by simpa using c
        subst hne
        refine ⟨_, rfl, ?_⟩
        rw [List.append_nil] at pm
        exact k fo q _ pm d2 k2 hqH e2
    · rintro σ H Q Q' hq ⟨v, h1, h2, h3⟩
      exact ⟨v, h1, h2, fun p hp => by obtain ⟨d, e, a1, a2, a3, a4, b, eb, h⟩ := h3 p hp; exact ⟨d, e, a1, a2, a3, a4, b, eb, hq _ _ h⟩⟩
end
end Tt
set_option maxRecDepth 100000
set_option maxHeartbeats 4000000
namespace Tt
open PySem L2
section
variable {P : Program} {w : World} {K : PySem.W.Frag} {mg : Str → Option Value} {base : Heap}
theorem xor_mate {x : Int} (h0 : 0 ≤ x) (h1 : x < 12) : Builtin.bitXor x 1 = Wd.mate x := by
  have h : ∀ n : Fin 12, Builtin.bitXor ((n.val : Nat) : Int) 1 = Wd.mate ((n.val : Nat) : Int) := by decide
  obtain ⟨n, rfl⟩ := Int.eq_ofNat_of_zero_le h0
  exact h ⟨n, by omega⟩
theorem same_new {H : Hp} {p : Addr} {o : HO} (n : H p = none) : Same H (upd H p o) := fun b u e => by
  rw [upd_ne (ne_of_none e n)]
  exact e
theorem ints_get {st : List Int} {i : Nat} {a : Int} (h : st[i]? = some a) : (st.map V.int)[i]? = some (V.int a) := by rw [List.getElem?_map, h]; rfl
theorem atI_last {st : List Int} (h : st ≠ []) : ∃ a, st.getLast? = some a ∧ atI (st.map V.int) (-1) = some (V.int a) := by
  have l0 : 0 < st.length := List.length_pos_iff.mpr h
  have hl : st.length - 1 < st.length := by omega
  refine ⟨st[st.length - 1], by rw [List.getLast?_eq_getElem?, List.getElem?_eq_getElem hl], ?_⟩
  unfold atI
  have e : ixN (st.map V.int).length (-1) = some (st.length - 1) := by
    rw [List.length_map]
    unfold ixN
    simp
    omega
  rw [e]
  exact ints_get (List.getElem?_eq_getElem hl)
theorem same_seqT {K : PySem.W.Frag} {H H' : Hp} {a : Addr} {xs : List V} (e : Same H H') (h : SqT K H a xs) : SqT K H' a xs := by
  rcases h with (h | ⟨o, h⟩) | h
  · exact .inl (.inl (e _ _ h))
  · exact .inl (.inr ⟨o, e _ _ h⟩)
  · exact .inr h
end
end Tt
set_option maxRecDepth 100000
set_option maxHeartbeats 4000000
namespace Tt
open PySem L2
section
variable {P : Program} {w : World} {K : PySem.W.Frag} {mg : Str → Option Value} {base : Heap}
def rgI (n : Nat) : List Int := (List.range n).map fun (i : Nat) => (i : Int)
theorem rgV_rgI {n : Int} (h : 0 ≤ n) : rgV 0 n = (rgI n.toNat).map V.int := by
  unfold rgV rgI
  rw [List.map_map, Int.sub_zero]
  exact List.map_congr_left fun a _ => by show V.int (0 + (a : Nat)) = _; rw [Int.zero_add]; rfl
theorem rgI_len (n : Nat) : (rgI n).length = n := by unfold rgI; rw [List.length_map, List.length_range]
def spRow (K : PySem.W.Frag) : Sp := fun vs H Q _ => ∃ (D : Dw) (m : Int), vs = [.ref D.d, .int m] ∧ 0 < m ∧ m ≤ 6 ∧ DrOk D H ∧
  ∀ (n : Nat) (row : List Int) q H', 1 ≤ n → (n : Int) ≤ m → row.Perm (rgI (2 * n)) → DrOk D H' → Kp D H H' → FzT H' q (row.map V.int) → Q (.ref q) H'
theorem ok_l_row (T : Txt K mg) : FnOk P w K mg base CX0 4 T.l_row.a T.l_row.fd ["draw", "most"] (spRow K) := by
  refine T.l_row.F.ok sc_l_row (fun vs H Q E h => ?_) (fun cdv A outer s H vs Q E hr h => ?_)
  · obtain ⟨D, m, rfl, _⟩ := h
    rfl
  · obtain ⟨D, m, rfl, m0, m6, dr, k⟩ := h
    have nd := sc_l_row.nd
    refine ⟨_, (pss_one (ps_ret (pe_callTy call_tuple_ofF (by rfl) T.ztuple (by decide +kernel) (pa_cons (pe_call (ok_l_shuffled T) (hr.mono (by decide)) (by rfl) T.l_shuffled.g T.l_shuffled.k T.l_shuffled.b .nil pass0 (pa_cons (pv 0) (pa_cons (pe_listRg rfl (by rfl) T.zlist (prg_1 (by rfl) T.zrange (pe_op op_add pe_int (pe_op op_mul pe_int (pe_call (ok_l_take T) (hr.mono (by decide)) (by rfl) T.l_take.g T.l_take.k T.l_take.b .nil pass0 (pa_cons (pv 0) (pa_cons (pv 1) pa_nil))))))) pa_nil))) pa_nil)))), ?_⟩
    refine ⟨_, rfl, _, rfl, _, rfl, D, m, rfl, m0, by omega, dr, fun n H1 n0 n1 d1 k1 => ?_⟩
    refine ⟨_, _, rfl, rfl, .inl ⟨by decide, by decide⟩, _, _, rfl, rfl, _, rfl, RgOk.of_le (by omega) (by omega) (by omega) (by omega), fun l hl => ?_⟩
    obtain ⟨j, rfl⟩ := Int.eq_ofNat_of_zero_le n0
    have ej : (2 + 2 * (j : Int)).toNat = 2 * (j + 1) := by omega
    rw [rgV_rgI (by omega), ej] 
    have d2 := d1.new (o := .lst ((rgI (2 * (j + 1))).map V.int)) hl
    refine ⟨D, l, rgI (2 * (j + 1)), rfl, .inl (SqL.of upd_same), by rw [rgI_len]; omega, d2, fun ns' q H3 pm d3 k3 hq h3 => ?_⟩
    refine ⟨q, _, rfl, .inl ⟨SqL.of h3, fun t ob ht hd => ?_⟩⟩
    exact k (j + 1) ns' t _ (by omega) (by omega) pm (d3.new ht) ((k1.trans (Kp.new hl)).trans (k3.trans (Kp.new ht))) (FzT.new hd)
end
end Tt
set_option maxRecDepth 100000
set_option maxHeartbeats 4000000
namespace Tt
open PySem L2
def lenAt (i : Nat) : L2.St → Hp → Nat := fun σ H' => match σ[i]? with
  | some (some (V.ref f)) => (match H' f with
    | some (HO.lst xs) => 1000 - xs.length
    | _ => 0)
  | _ => 0
theorem lenAt_of {i : Nat} {σ : L2.St} {H : Hp} {f : Addr} {xs : List V} (h : σ[i]? = some (some (.ref f))) (e : H f = some (.lst xs)) : lenAt i σ H = 1000 - xs.length := by
  unfold lenAt
  rw [h]
  show (match H f with | some (HO.lst xs) => 1000 - xs.length | _ => 0) = _
  rw [e]
def lenOf (i : Nat) : L2.St → Hp → Nat := fun σ H' => match σ[i]? with
  | some (some (V.ref f)) => (match H' f with
    | some (HO.lst xs) => xs.length
    | _ => 0)
  | _ => 0
theorem lenOf_of {i : Nat} {σ : L2.St} {H : Hp} {f : Addr} {xs : List V} (h : σ[i]? = some (some (.ref f))) (e : H f = some (.lst xs)) : lenOf i σ H = xs.length := by
  unfold lenOf
  rw [h]
  show (match H f with | some (HO.lst xs) => xs.length | _ => 0) = _
  rw [e]
theorem upk {H : Hp} {p b : Addr} {o u : HO} (n : H p = none) (h : H b = some o) : (upd H p u) b = some o := by
  rw [upd_ne (ne_of_none h n)]
  exact h
theorem cut_to (xs : List V) {n : Nat} (h : n ≤ xs.length) : cutV xs none (some (n : Int)) = xs.take n := by
  unfold cutV
  have e : HT.sIx xs.length xs.length (some (n : Int)) = n := by rw [HT.sIx_nat]; omega
  have e0 : HT.sIx xs.length 0 none = 0 := rfl
  rw [e, e0]
  simp
theorem cut_from (xs : List V) {n : Nat} : cutV xs (some (n : Int)) none = xs.drop n := by
  unfold cutV
  have e : HT.sIx xs.length 0 (some (n : Int)) = min n xs.length := HT.sIx_nat ..
  have e0 : HT.sIx xs.length xs.length none = xs.length := rfl
  rw [e, e0, List.take_of_length_le (by rw [List.length_drop]; omega)]
  by_cases h : n ≤ xs.length
  · rw [Nat.min_eq_left h]
  · rw [Nat.min_eq_right (by omega), List.drop_eq_nil_of_le (Nat.le_refl _), List.drop_eq_nil_of_le (by omega)]
section
variable {P : Program} {w : World} {K : PySem.W.Frag} {mg : Str → Option Value} {base : Heap}
def Lt (e : Int) (ns : List Int) : Prop := ∀ x ∈ ns, 0 ≤ x ∧ x < e
theorem Lt.app {e : Int} {a b : List Int} (ha : Lt e a) (hb : Lt e b) : Lt e (a ++ b) := fun x hx => (List.mem_append.mp hx).elim (ha x) (hb x)
theorem Lt.take {e : Int} {a : List Int} (ha : Lt e a) (n : Nat) : Lt e (a.take n) := fun x hx => ha x (List.mem_of_mem_take hx)
theorem Lt.drop {e : Int} {a : List Int} (ha : Lt e a) (n : Nat) : Lt e (a.drop n) := fun x hx => ha x (List.mem_of_mem_drop hx)
theorem Lt.undo {e : Int} {a : List Int} (ev : e % 2 = 0) (ha : Lt e a) : Lt e (Wd.undo a) := fun x hx => by
  unfold Wd.undo at hx
  obtain ⟨y, hy, rfl⟩ := List.mem_map.mp hx
  have h := ha y (by simpa using hy)
  have hb := Wd.mate_range (n := e / 2) h.1 (by omega)
  exact ⟨hb.1, by omega⟩
end
end Tt
set_option maxRecDepth 100000
set_option maxHeartbeats 4000000
namespace Tt
open PySem L2
open LamX (GivesToS CodeO)
def TTc (K : PySem.W.Frag) (RE : Addr) : (XK → Hp → VK → Prop) → Hp → VK → Prop := fun tl H Q =>
  tl (fun cls d H' => PySem.W.exmOne K cls (.ref RE) = some true ∧ ∀ a, H' a = none → Q (.ref a) (upd H' a (exh cls d a))) H (fun _ H' => Q .non H')
theorem caught_gives {X : Cx} {q : Str} {cdg : Value} {g RE : Addr} (hme : X.mg "RoundError" = some (.ref RE)) :
    GivesToS X N_l_caught "_law_caught" (defScope s_l_caught) g cdg (defBody s_l_caught) "work" q (TTc X.K RE) := by
  intro f c' s H Q tl act hc h
  have nd := sc_l_caught.nd
  refine ⟨_, pss_cons (ps_set (i := 1) nd rfl (Or.inl rfl) pe_non)
    (pss_cons (ps_try_keep (X := (cxOf C8.CX0 X.prog X.w X.K X.mg X.base N_l_caught "_law_caught" (defScope s_l_caught) g cdg X.A X.stack s H C8.E0).nox) (c := .ref RE) (i := 2)
      (tb := fun W D σ H => ∃ Ew : L2.St → XK, (∀ τ cls d H', Ew τ cls d H' → W cls d τ H') ∧ σ[0]? = some (some (.ref f)) ∧ H c' = some (CodeO c' q) ∧ tl (Ew σ) H (fun _ H' => D.nx σ H'))
      rfl rfl rfl nd rfl rfl ⟨rfl, by decide, .inl hme⟩ LamX.takes0 (fun W pn xe tk _ => ?_) (fun a oe cls d pn _ _ => pss_one (ps_set (i := 1) nd rfl (Or.inl rfl) (pv 2))))
    (pss_one (ps_ret (pv 1)))), ?_⟩
  · refine ⟨fun pins s' σ H' D I h' => ?_⟩
    obtain ⟨Ew, hW, h1, h2, h3⟩ := h'
    exact (pss_one (ps_expr (act W pn xe Ew _ _ tk hW))).run pins s' σ H' D I ⟨h1, h2, h3⟩
  · refine ⟨fun τ cls d H' => τ = [some (.ref f), some .non, none] ∧ PySem.W.exmOne X.K cls (.ref RE) = some true ∧ ∀ a, H' a = none → Q (.ref a) (upd H' a (exh cls d a)), ?_, rfl, hc, ?_⟩
    · rintro τ cls d H' ⟨rfl, h1, h2⟩
      refine ⟨true, h1, fun _ a ha => ?_, fun z => nomatch z⟩
      exact ⟨_, rfl, ha, _, rfl, h2 a ha⟩
    · have e1 : (fun (cls : Value) (d : Option Addr) (H' : Hp) => ([some (.ref f), some .non, none] : L2.St) = [some (.ref f), some .non, none] ∧ PySem.W.exmOne X.K cls (.ref RE) = some true ∧ ∀ a, H' a = none → Q (.ref a) (upd H' a (exh cls d a))) =
          fun cls d H' => PySem.W.exmOne X.K cls (.ref RE) = some true ∧ ∀ a, H' a = none → Q (.ref a) (upd H' a (exh cls d a)) :=
        funext fun cls => funext fun d => funext fun H' => propext ⟨fun z => z.2, fun z => ⟨rfl, z⟩⟩
      have e2 : (fun (_ : V) (H' : Hp) => ∃ v, ([some (.ref f), some .non, none] : L2.St)[1]? = some (some v) ∧ Q v H') = fun _ H' => Q .non H' :=
        funext fun _ => funext fun H' => propext ⟨fun ⟨v, h1, h2⟩ => by cases h1; exact h2, fun z => ⟨_, rfl, z⟩⟩
      have h' : tl (fun (cls : Value) (d : Option Addr) (H' : Hp) => ([some (.ref f), some .non, none] : L2.St) = [some (.ref f), some .non, none] ∧ PySem.W.exmOne X.K cls (.ref RE) = some true ∧ ∀ a, H' a = none → Q (.ref a) (upd H' a (exh cls d a))) H
          (fun (_ : V) (H' : Hp) => ∃ v, ([some (.ref f), some .non, none] : L2.St)[1]? = some (some v) ∧ Q v H') := by
        rw [e1, e2]
        exact h
      exact h'
end Tt
set_option maxRecDepth 100000
set_option maxHeartbeats 4000000
namespace Tt
open PySem L2
section
variable {P : Program} {w : World} {K : PySem.W.Frag} {mg : Str → Option Value} {base : Heap}
theorem passF {P : Program} {w : World} {X : Cx} : Passes (L2.CX P w) X (fun _ _ _ => False) := fun _ _ _ _ _ _ _ h => by
  obtain ⟨_, _, _, _, _, _, _, _, _, _, _, _, z⟩ := h
  exact z.elim
def inB (lo hi : Int) : V → Bool
  | .int i => decide (lo ≤ i) && decide (i ≤ hi)
  | _ => false
def isI : V → Bool
  | .int _ => true
  | _ => false
theorem TyB.isI {H : Hp} {x : V} {S : String} (t : TyB K H x S) : decide (S = "int") = isI x := by cases t <;> rfl
theorem TyB.isT {H : Hp} {x : V} {S : String} (t : TyB K H x S) : (∃ a xs, x = .ref a ∧ SqT K H a xs ∧ S = "tuple") ∨ decide (S = "tuple") = false := by
  cases t with
  | tup h => exact .inl ⟨_, _, rfl, h, rfl⟩
  | _ => exact .inr rfl
def spNumber (K : PySem.W.Frag) : Sp := fun vs H Q _ => ∃ (x : V) (S : String), vs = [x] ∧ TyB K H x S ∧ Q (.bl (isI x)) H
theorem ok_is_number (T : Txt K mg) : FnOk P w K mg base CX0 1 T.is_number.a T.is_number.fd ["thing"] (spNumber K) := by
  refine T.is_number.F.ok sc_is_number (fun vs H Q E h => ?_) (fun cdv A outer s H vs Q E hr h => ?_)
  · obtain ⟨x, S, rfl, _⟩ := h
    rfl
  · obtain ⟨x, S, rfl, t, k⟩ := h
    refine ⟨_, (pss_one (ps_ret (pe_cmpR op_isTyB (pe_callTy call_type1 (by rfl) T.ztype (by decide +kernel) (pa_cons (pv 0) pa_nil)) (pe_bltn (v := .ty "int") (by rfl) T.zint (by decide +kernel) rfl) (nomark _)))), ?_⟩
    refine ⟨x, rfl, x, S, rfl, t, _, _, rfl, rfl, ?_⟩
    rw [← TyB.isI t] at k
    exact k
def spWithin (K : PySem.W.Frag) : Sp := fun vs H Q _ => ∃ (x : V) (lo hi : Int) (S : String), vs = [x, .int lo, .int hi] ∧ TyB K H x S ∧ Q (.bl (inB lo hi x)) H
theorem ok_is_within (T : Txt K mg) : FnOk P w K mg base CX0 2 T.is_within.a T.is_within.fd ["thing", "low", "high"] (spWithin K) := by
  refine T.is_within.F.ok sc_is_within (fun vs H Q E h => ?_) (fun cdv A outer s H vs Q E hr h => ?_)
  · obtain ⟨x, lo, hi, S, rfl, _⟩ := h
    rfl
  · obtain ⟨x, lo, hi, S, rfl, t, k⟩ := h
    refine ⟨_, (pss_one (ps_ret (pe_and (pe_call (ok_is_number T) (hr.mono (by decide)) (by rfl) T.is_number.g T.is_number.k T.is_number.b .nil pass0 (pa_cons (pv 0) pa_nil)) (pe_one (pe_chain op_le op_le (pv 1) (pv 0) (pv 2)))))), ?_⟩
    refine ⟨x, rfl, x, S, rfl, t, _, rfl, ?_⟩
    cases x with
    | int i =>
      refine iteT ⟨_, rfl, _, rfl, _, _, rfl, rfl, _, rfl, ?_⟩
      have k' : Q (.bl (decide (lo ≤ i) && decide (i ≤ hi))) H := k
      refine ite2 (fun c => ?_) (fun c => ?_)
      · rw [c, Bool.true_and] at k'
        exact ⟨_, rfl, _, _, rfl, rfl, k'⟩
      · have c' : decide (lo ≤ i) = false := by simpa using c
        rw [c', Bool.false_and] at k'
        exact k'
    | _ => exact iteF k
def spTuple (K : PySem.W.Frag) : Sp := fun vs H Q _ => ∃ (x : V) (S : String), vs = [x] ∧ TyB K H x S ∧ Q (.bl (decide (S = "tuple"))) H
theorem ok_is_tuple (T : Txt K mg) : FnOk P w K mg base CX0 1 T.is_tuple.a T.is_tuple.fd ["thing"] (spTuple K) := by
  refine T.is_tuple.F.ok sc_is_tuple (fun vs H Q E h => ?_) (fun cdv A outer s H vs Q E hr h => ?_)
  · obtain ⟨x, S, rfl, _⟩ := h
    rfl
  · obtain ⟨x, S, rfl, t, k⟩ := h
    refine ⟨_, (pss_one (ps_ret (pe_cmpR op_isTyB (pe_callTy call_type1 (by rfl) T.ztype (by decide +kernel) (pa_cons (pv 0) pa_nil)) (pe_bltn (v := .ty "tuple") (by rfl) T.ztuple (by decide +kernel) rfl) (nomark _)))), ?_⟩
    exact ⟨x, rfl, x, S, rfl, t, _, _, rfl, rfl, k⟩
def spList (K : PySem.W.Frag) : Sp := fun vs H Q _ => ∃ (x : V) (S : String), vs = [x] ∧ TyB K H x S ∧ Q (.bl (decide (S = "list") || decide (S = "tuple"))) H
theorem ok_is_list (T : Txt K mg) : FnOk P w K mg base CX0 2 T.is_list.a T.is_list.fd ["thing"] (spList K) := by
  refine T.is_list.F.ok sc_is_list (fun vs H Q E h => ?_) (fun cdv A outer s H vs Q E hr h => ?_)
  · obtain ⟨x, S, rfl, _⟩ := h
    rfl
  · obtain ⟨x, S, rfl, t, k⟩ := h
    refine ⟨_, (pss_one (ps_ret (pe_or (pe_cmpR op_isTyB (pe_callTy call_type1 (by rfl) T.ztype (by decide +kernel) (pa_cons (pv 0) pa_nil)) (pe_bltn (v := .ty "list") (by rfl) T.zlist (by decide +kernel) rfl) (nomark _)) (pe_one (pe_call (ok_is_tuple T) (hr.mono (by decide)) (by rfl) T.is_tuple.g T.is_tuple.k T.is_tuple.b .nil pass0 (pa_cons (pv 0) pa_nil)))))), ?_⟩
    refine ⟨x, rfl, x, S, rfl, t, _, _, rfl, rfl, _, rfl, ?_⟩
    refine ite2 (fun c => ?_) (fun c => ?_)
    · rw [c] at k
      exact k
    · have c' : decide (S = "list") = false := by simpa using c
      rw [c', Bool.false_or] at k
      exact ⟨x, rfl, x, S, rfl, t, k⟩
def skF (r q : Addr) (n : Int) : List (Str × V) := [("row", .ref r), ("bands", .int n), ("places", .ref q)]
def places (row : List Int) : List Int := (List.range row.length).map fun (e : Nat) => (((row.idxOf (e : Int) : Nat)) : Int)
def SkAt (T : Txt K mg) (H : Hp) (p : Addr) (row : List Int) : Prop := ∃ dx r q, H p = some (.ins T.Skin.C dx (skF r q (row.length / 2 : Nat))) ∧ FzT H r (row.map V.int) ∧ FzT H q ((places row).map V.int)
theorem FzT.same {H H' : Hp} {a : Addr} {xs : List V} (h : FzT H a xs) (s : Same H H') : FzT H' a xs := by
  obtain ⟨ob, h1, h2⟩ := h
  exact ⟨ob, s _ _ h1, h2⟩
theorem FzT.kp {D : Dw} {H H' : Hp} {a : Addr} {xs : List V} (h : FzT H a xs) (dr : DrOk D H) (k : Kp D H H') : FzT H' a xs := by
  obtain ⟨ob, h1, h2⟩ := h
  obtain ⟨ls, cs, rr, t, d⟩ := dr
  exact ⟨ob, k _ _ h1 (d.dne h1 fun _ z => nomatch z) (d.lne h1 fun _ z => nomatch z), h2⟩
theorem SkAt.same {T : Txt K mg} {H H' : Hp} {p : Addr} {row : List Int} (h : SkAt T H p row) (s : Same H H') : SkAt T H' p row := by
  obtain ⟨dx, r, q, h1, h2, h3⟩ := h
  exact ⟨dx, r, q, s _ _ h1, FzT.same h2 s, FzT.same h3 s⟩
theorem SkAt.kp {T : Txt K mg} {D : Dw} {H H' : Hp} {p : Addr} {row : List Int} (h : SkAt T H p row) (dr : DrOk D H) (k : Kp D H H') : SkAt T H' p row := by
  obtain ⟨dx, r, q, h1, h2, h3⟩ := h
  obtain ⟨ls, cs, rr, t, d⟩ := id dr
  exact ⟨dx, r, q, k _ _ h1 (d.dne h1 fun _ z => nomatch z) (d.lne h1 fun _ z => nomatch z), FzT.kp h2 dr k, FzT.kp h3 dr k⟩
theorem skF_row (r q : Addr) (n : Int) : (skF r q n).lookup ("row" : Str) = some (V.ref r) := rfl
theorem skF_bands (r q : Addr) (n : Int) : (skF r q n).lookup ("bands" : Str) = some (V.int n) := rfl
theorem nRow (T : Txt K mg) : NoAttr K T.Skin.C "row" := T.Skin.n _ (by decide)
theorem nBands (T : Txt K mg) : NoAttr K T.Skin.C "bands" := T.Skin.n _ (by decide)
theorem nPlaces (T : Txt K mg) : NoAttr K T.Skin.C "places" := T.Skin.n _ (by decide)
inductive SkV (T : Txt K mg) (H : Hp) : V → Bool → Prop where
  | skin {p dx : Addr} {fs : List (Str × V)} (h : H p = some (.ins T.Skin.C dx fs)) : SkV T H (.ref p) true
  | non : SkV T H .non false
  | tup {p : Addr} {xs : List V} (h : FzT H p xs) : SkV T H (.ref p) false
theorem SkV.same {T : Txt K mg} {H H' : Hp} {v : V} {b : Bool} (h : SkV T H v b) (s : Same H H') : SkV T H' v b := by
  cases h with
  | skin h => exact .skin (s _ _ h)
  | non => exact .non
  | tup h => exact .tup (FzT.same h s)
theorem SkAt.v {T : Txt K mg} {H : Hp} {p : Addr} {row : List Int} (h : SkAt T H p row) : SkV T H (.ref p) true := by
  obtain ⟨dx, r, q, h1, _⟩ := h
  exact .skin h1
theorem SkV.isi {T : Txt K mg} {H : Hp} {v : V} {b : Bool} (h : SkV T H v b) : ∃ t, TyX K H v t ∧ PySem.W.kitOne K t (.ref T.Skin.C) = some b := by
  cases h with
  | skin h => exact ⟨_, .base (.ins h T.Skin.c T.Skin.ha T.Skin.hn T.Skin.ht T.Skin.hm), T.kSS⟩
  | non => exact ⟨_, .base .non, T.kSN⟩
  | tup h =>
    obtain ⟨ob, h1, _⟩ := h
    exact ⟨_, .fTuple h1, T.kST⟩
def SkErr (T : Txt K mg) (H : Hp) (E : XK) : Prop := ∀ d H', Same H H' → H' d = some (.xd [("part", .non)]) → E (.ref T.BadSkin.C) (some d) H'
def spExI (T : Txt K mg) : Sp := fun vs H Q _ => ∃ (a : Addr) (v : V), vs = [.ref a, v] ∧ H a = some (exo a T.BadSkin.C none) ∧
  ∀ dx, H dx = none → dx ≠ a → Q .non (upd (upd H dx (exd dx [("part", v)])) a (exo a T.BadSkin.C (some dx)))
theorem ok_BadSkin_init (T : Txt K mg) : FnOk P w K mg base CX0 1 T.BadSkin.fI T.BadSkin.fd ["self", "part"] (spExI T) := by
  refine T.BadSkin.F.ok sc_BadSkin_init (fun vs H Q E h => ?_) (fun cdv A outer s H vs Q E hr h => ?_)
  · obtain ⟨a, v, rfl, _⟩ := h
    rfl
  · obtain ⟨a, v, rfl, ha, k⟩ := h
    refine ⟨_, (pss_one (ps_ost (pv 0) (pv 1))), ?_⟩
    exact ⟨v, rfl, _, rfl, a, T.BadSkin.C, rfl, T.BadSkin.o, T.BadSkin.n, .inl ⟨ha, fun dx n ne => k dx n ne⟩⟩
def spCheckSkin (T : Txt K mg) : Sp := fun vs H Q E => ∃ (v : V) (b : Bool), vs = [v] ∧ SkV T H v b ∧ (b = true → Q .non H) ∧ (b = false → SkErr T H E)
theorem ok_check_skin (T : Txt K mg) : FnOk P w K mg base (L2.CX P w) 3 T.check_skin.a T.check_skin.fd ["skin"] (spCheckSkin T) := by
  refine T.check_skin.F.okX sc_check_skin (fun vs H Q E h => ?_) (fun cdv A outer s H vs Q E hr h => ?_)
  · obtain ⟨v, b, rfl, _⟩ := h
    rfl
  · obtain ⟨v, b, rfl, hv, kT, kF⟩ := h
    refine ⟨_, (pss_one (ps_if (pt_not (pt_val (pe_callB call_isA (by rfl) T.zisinstance (by decide +kernel) (pa_cons (pv 0) (pa_cons (pe_glob (v := .ref T.Skin.C) rfl T.Skin.g rfl) pa_nil)))))
      (pss_one (ps_raise rfl (takes_of rfl rfl rfl rfl) (pmk_oex T.BadSkin.o T.BadSkin.i T.BadSkin.t (ok_BadSkin_init T) (hr.mono (by decide)) T.BadSkin.b .nil pass0 (by rfl) T.BadSkin.g (pa_cons pe_non pa_nil))))
      pss_nil)), ?_⟩
    obtain ⟨t, ht, hk⟩ := hv.isi
    refine ⟨v, rfl, .inr ⟨v, _, t, _, b, rfl, .own T.Skin.C, ht, hk, b, rfl, ?_⟩⟩
    cases b with
    | true => exact iteF (kT rfl)
    | false =>
      refine iteT ⟨(by show 1 ≤ 1000; decide), fun a ha => ?_⟩
      refine ⟨a, .non, rfl, upd_same, fun dx ndx ne => ⟨rfl, dx, ([("part", V.non)] : List (Str × V)), upd_same, ?_, ?_, ?_⟩⟩
      · rw [upd_ne ne, upd_same]
      · rw [upd_ne ne] at ndx
        exact ndx
      · have ndx' : H dx = none := by rw [upd_ne ne] at ndx; exact ndx
        refine kF rfl dx _ (fun b o hb => ?_) upd_same
        have nb : b ≠ a := ne_of_none hb ha
        have nb2 : b ≠ dx := ne_of_none hb ndx'
        rw [upd_ne nb2, del_ne nb, upd_ne nb, upd_ne nb2, upd_ne nb]
        exact hb
end
end Tt
set_option maxRecDepth 100000
set_option maxHeartbeats 4000000
namespace Tt
open PySem L2
section
variable {P : Program} {w : World} {K : PySem.W.Frag} {mg : Str → Option Value} {base : Heap}
theorem eqv_ints : ∀ a b : List Int, PyData.eqv (.list (a.map PyData.int)) (.list (b.map PyData.int)) = decide (a = b)
  | [], [] => rfl
  | [], _ :: _ => by simp [PyData.eqv] <;> rfl
  | _ :: _, [] => by simp [PyData.eqv] <;> rfl
  | x :: a, y :: b => by
    have h := eqv_ints a b
    simp [PyData.eqv, PyData.eqvAll] at h ⊢
    rw [h]
    rfl
theorem perm_sorted {n : Nat} {ns' ns : List Int} (h : ns'.Perm ns) (p : ns'.Pairwise (· ≤ ·)) (q : ns.Perm (rgI n)) : ns' = rgI n := by
  refine List.Perm.eq_of_pairwise (fun a b _ _ h1 h2 => Int.le_antisymm h1 h2) p ?_ (h.trans q)
  unfold rgI
  rw [List.pairwise_map]
  exact List.pairwise_lt_range.imp fun {a b} h => by show (a : Int) ≤ b; omega
theorem perm_len {n : Nat} {row : List Int} (h : row.Perm (rgI n)) : row.length = n := by rw [h.length_eq, rgI_len]
theorem perm_mem {n : Nat} {row : List Int} (h : row.Perm (rgI n)) {x : Int} : x ∈ row ↔ 0 ≤ x ∧ x < n := by
  rw [h.mem_iff]
  unfold rgI
  rw [List.mem_map]
  constructor
  · rintro ⟨a, ha, rfl⟩
    have := List.mem_range.mp ha
    omega
  · rintro ⟨h0, h1⟩
    exact ⟨x.toNat, List.mem_range.mpr (by omega), by omega⟩
theorem turn_perm (row : List Int) (s : Nat) : (row.drop s ++ row.take s).Perm row := by
  have h : (row.drop s ++ row.take s).Perm (row.take s ++ row.drop s) := List.perm_append_comm
  rw [List.take_append_drop] at h
  exact h
theorem idx_at {row : List Int} {x : Int} (h : x ∈ row) : row[row.idxOf x]? = some x ∧ ∀ m, m < row.idxOf x → row[m]? ≠ some x := by
  have hl : row.idxOf x < row.length := List.idxOf_lt_length_of_mem h
  refine ⟨by rw [List.getElem?_eq_getElem hl, List.getElem_idxOf hl], fun m hm e => ?_⟩
  obtain ⟨h1, h2⟩ := List.getElem?_eq_some_iff.mp e
  exact absurd h2 (by simpa using List.not_of_lt_findIdx (xs := row) (p := (· == x)) (i := m) hm)
theorem slT_from {xs : List V} {a : Addr} {H : Hp} {Q : VK} {n : Nat} (hx : 0 < xs.length) (h : SqT K H a xs) (q0 : n = 0 → Q (.ref a) H) (q1 : n ≠ 0 → ∀ p, H p = none → Q (.ref p) (upd H p (.tup (xs.drop n)))) : rSlA K (.ref a) (some (n : Int)) none H Q := by
  refine ⟨a, xs, rfl, h, fun z => q0 ?_, fun nz p hp => ?_⟩
  · rw [HT.sIx_nat] at z
    omega
  · rw [cut_from]
    refine q1 (fun e => nz ?_) p hp
    subst e
    exact ⟨by rw [HT.sIx_nat]; omega, rfl⟩
theorem slT_to {xs : List V} {a : Addr} {H : Hp} {Q : VK} {n : Nat} (hx : n < xs.length) (h : SqT K H a xs) (q1 : ∀ p, H p = none → Q (.ref p) (upd H p (.tup (xs.take n)))) : rSlA K (.ref a) none (some (n : Int)) H Q := by
  refine ⟨a, xs, rfl, h, fun z => ?_, fun _ p hp => ?_⟩
  · rw [HT.sIx_nat] at z
    exfalso
    omega
  · rw [cut_to _ (by omega)]
    exact q1 p hp
theorem noPart_i {σ : L2.St} {H : Hp} {Q : Option Int → Hp → Prop} (h : Q none H) : tNoPart σ H Q := h
def tTurned (K : PySem.W.Frag) (i j : Nat) : TE := tOp (rCatF K) (tCB (rTupF K) (tCons (tSl (rSlA K) (tVar i) (tPart (tVar j)) tNoPart) tNil)) (tCB (rTupF K) (tCons (tSl (rSlA K) (tVar i) tNoPart (tPart (tVar j))) tNil))
theorem row_turned {σ : L2.St} {H : Hp} {Q : VK} {t : Addr} {i j st : Nat} {row : List Int} (h1 : σ[i]? = some (some (.ref t))) (h2 : σ[j]? = some (some (.int (st : Nat)))) (ht : FzT H t (row.map V.int)) (hst : st < row.length) (hl : row.length ≤ 12)
    (k : ∀ (r : Addr) (H4 : Hp), Same H H4 → FzT H4 r ((row.drop st ++ row.take st).map V.int) → Q (.ref r) H4) : tTurned K i j σ H Q := by
  have hx : 0 < (row.map V.int).length := by rw [List.length_map]; omega
  have hd : ((row.drop st).map V.int) ≠ [] := fun z => by
    have := congrArg List.length z
    rw [List.length_map, List.length_drop] at this
    simp at this
    omega
  have hz : ((row.drop st).map V.int).length + ((row.take st).map V.int).length ≤ sizeLine := by
    rw [List.length_map, List.length_map, List.length_drop, List.length_take]
    have : (12 : Nat) ≤ sizeLine := by decide
    omega
  have step : ∀ (a : Addr) (H2 : Hp), Same H H2 → SqT K H2 a ((row.drop st).map V.int) → (st = 0 → a = t) →
      tCB (rTupF K) (tCons (tSl (rSlA K) (tVar i) tNoPart (tPart (tVar j))) tNil) σ H2 fun y H3 => rCatF K (.ref a) y H3 Q := by
    intro a H2 s2 ha hat
    refine ⟨_, h1, noPart_i ⟨_, h2, st, rfl, ?_⟩⟩
    refine slT_to (K := K) (by rw [List.length_map]; exact hst) (FzT.same ht s2).sq (fun b hb => ?_)
    have e1 : (upd H2 b (.tup ((row.map V.int).take st))) b = some (.tup ((row.take st).map V.int)) := by rw [upd_same, List.map_take]
    have s3 : Same H2 (upd H2 b (.tup ((row.map V.int).take st))) := same_new hb
    refine ⟨b, _, rfl, .inr ⟨SqT.of e1, ?_⟩⟩
    refine ⟨a, b, _, _, rfl, rfl, same_seqT s3 ha, SqT.of e1, hd, hz, fun z => ?_, fun z r ob hr hob => ?_⟩
    · have z0 : st = 0 := by
        have := congrArg List.length z
        rw [List.length_map, List.length_take, List.length_nil] at this
        omega
      subst z0
      rw [hat rfl]
      refine k t _ (s2.trans s3) ?_
      rw [show List.drop 0 row ++ List.take 0 row = row by simp]
      exact FzT.same (FzT.same ht s2) s3
    · refine k r _ ((s2.trans s3).trans (same_new hr)) ?_
      rw [List.map_append]
      exact FzT.new hob
  refine ⟨_, h1, _, h2, st, rfl, noPart_i ?_⟩
  refine slT_from (K := K) hx ht.sq (fun z => ?_) (fun nz a ha => ?_)
  · refine ⟨t, _, rfl, .inr ⟨ht.sq, ?_⟩⟩
    refine step t H (fun _ _ h => h) ?_ (fun _ => rfl)
    rw [z, List.drop_zero]
    exact ht.sq
  · have e1 : (upd H a (.tup ((row.map V.int).drop st))) a = some (.tup ((row.drop st).map V.int)) := by rw [upd_same, List.map_drop]
    refine ⟨a, _, rfl, .inr ⟨SqT.of e1, ?_⟩⟩
    refine step a _ (same_new ha) (SqT.of e1) (fun z => absurd z nz)
theorem FzT.ne {H : Hp} {a p : Addr} {xs : List V} {u o : HO} (h : FzT H a xs) (e : H p = some u) (n : ∀ ob x, u ≠ .frz ob x) : FzT (upd H p o) a xs := by
  obtain ⟨ob, h1, h2⟩ := h
  refine ⟨ob, ?_, h2⟩
  rw [upd_ne]
  · exact h1
  · intro z
    subst z
    rw [e] at h1
    exact n _ _ (Option.some.inj h1)
theorem place_at {row : List Int} {i : Nat} (h : i < row.length) : (places row)[i]? = some (((row.idxOf (i : Int) : Nat)) : Int) := by
  unfold places
  rw [List.getElem?_map, List.getElem?_range h]
  rfl
end
end Tt
set_option maxRecDepth 100000
set_option maxHeartbeats 4000000
namespace Tt
open PySem L2
section
variable {P : Program} {w : World} {K : PySem.W.Frag} {mg : Str → Option Value} {base : Heap}
theorem TyB.same {H H' : Hp} {x : V} {S : String} (t : TyB K H x S) (s : Same H H') : TyB K H' x S := by
  cases t with
  | non => exact .non
  | bl b => exact .bl b
  | int i => exact .int i
  | str x => exact .str x
  | byt b => exact .byt b
  | @lst a xs h =>
    have h' : SqL K H' a xs := by
      rcases h with (h | ⟨o, h⟩) | h
      · exact .inl (.inl (s _ _ h))
      · exact .inl (.inr ⟨o, s _ _ h⟩)
      · exact .inr h
    exact .lst h'
  | tup h => exact .tup (same_seqT s h)
  | dK h => exact .dK (s _ _ h)
def hiE (row : List Int) : Int := 2 * ((row.length / 2 : Nat) : Int) - 1
def spIsEnd (T : Txt K mg) : Sp := fun vs H Q _ => ∃ (p : Addr) (row : List Int) (x : V) (S : String), vs = [.ref p, x] ∧ SkAt T H p row ∧ row.length ≤ 12 ∧ TyB K H x S ∧ Q (.bl (inB 0 (hiE row) x)) H
theorem ok_is_end (T : Txt K mg) : FnOk P w K mg base CX0 3 T.is_end.a T.is_end.fd ["skin", "thing"] (spIsEnd T) := by
  refine T.is_end.F.ok sc_is_end (fun vs H Q E h => ?_) (fun cdv A outer s H vs Q E hr h => ?_)
  · obtain ⟨p, row, x, S, rfl, _⟩ := h
    rfl
  · obtain ⟨p, row, x, S, rfl, ⟨dx, r, q, h1, h2, h3⟩, hl, t, k⟩ := h
    refine ⟨_, (pss_one (ps_ret (pe_call (ok_is_within T) (hr.mono (by decide)) (by rfl) T.is_within.g T.is_within.k T.is_within.b .nil pass0 (pa_cons (pv 1) (pa_cons pe_int (pa_cons (pe_op op_sub (pe_op op_mul pe_int (pe_fld (pv 0) rfl)) pe_int) pa_nil)))))), ?_⟩
    refine ⟨x, rfl, _, rfl, p, T.Skin.C, dx, _, _, rfl, h1, T.Skin.c, nBands T, skF_bands .., _, _, rfl, rfl, .inl ⟨by decide, by decide⟩, _, _, rfl, rfl, ?_⟩
    exact ⟨x, 0, hiE row, S, rfl, t, k⟩
end
end Tt
set_option maxRecDepth 100000
set_option maxHeartbeats 4000000
namespace Tt
open PySem L2
section
variable {P : Program} {w : World} {K : PySem.W.Frag} {mg : Str → Option Value} {base : Heap}
def SkOr (T : Txt K mg) (v : V) (H : Hp) (E : XK) (k : Addr → List Int → Prop) : Prop := (SkV T H v false ∧ SkErr T H E) ∨ ∃ (p : Addr) (row : List Int), v = .ref p ∧ SkAt T H p row ∧ (row.length ≤ 12 ∧ row.length % 2 = 0) ∧ k p row
end
end Tt
set_option maxRecDepth 100000
set_option maxHeartbeats 4000000
namespace Tt
open PySem L2
section
variable {P : Program} {w : World} {K : PySem.W.Frag} {mg : Str → Option Value} {base : Heap}
theorem slT_gen {xs : List V} {a : Addr} {H : Hp} {Q : VK} {n : Nat} (h : SqT K H a xs) (q : ∀ b H', Same H H' → SqT K H' b (xs.take n) → Q (.ref b) H') : rSlA K (.ref a) none (some (n : Int)) H Q := by
  by_cases hn : n < xs.length
  · refine slT_to hn h fun p hp => q p _ (same_new hp) (SqT.of upd_same)
  · refine ⟨a, xs, rfl, h, fun _ => q a H (fun _ _ z => z) ?_, fun z => absurd ⟨rfl, ?_⟩ z⟩
    · rw [List.take_of_length_le (by omega)]
      exact h
    · rw [HT.sIx_nat]
      omega
theorem catA_gen {xs ys : List V} {a b : Addr} {H : Hp} {Q : VK} (ha : SqT K H a xs) (hb : SqT K H b ys) (hz : xs.length + ys.length ≤ sizeLine) (q : ∀ c H', Same H H' → SqT K H' c (xs ++ ys) → Q (.ref c) H') : rCatA K (.ref a) (.ref b) H Q := by
  refine ⟨a, b, xs, ys, rfl, rfl, ha, hb, hz, fun z => ?_, fun _ z => ?_, fun _ _ p hp => q p _ (same_new hp) (SqT.of upd_same)⟩
  · subst z
    exact q b H (fun _ _ z => z) hb
  · subst z
    exact q a H (fun _ _ z => z) (by rw [List.append_nil]; exact ha)
theorem slT_genD {xs : List V} {a : Addr} {H : Hp} {Q : VK} {n : Nat} (h : SqT K H a xs) (q : ∀ b H', Same H H' → SqT K H' b (xs.drop n) → Q (.ref b) H') : rSlA K (.ref a) (some (n : Int)) none H Q := by
  by_cases hx : 0 < xs.length
  · refine slT_from hx h (fun z => ?_) fun _ p hp => q p _ (same_new hp) (SqT.of upd_same)
    subst z
    exact q a H (fun _ _ z => z) (by rw [List.drop_zero]; exact h)
  · have e : xs = [] := List.length_eq_zero_iff.mp (by omega)
    subst e
    refine ⟨a, [], rfl, h, fun _ => q a H (fun _ _ z => z) (by rw [List.drop_nil]; exact h), fun z => absurd ⟨by rw [HT.sIx_nat]; simp, rfl⟩ z⟩
end
end Tt
set_option maxRecDepth 100000
set_option maxHeartbeats 4000000
namespace Tt
open PySem L2
open LamX (Tabs TabS TabB ExtN CodeO tLam)
structure FnG (P : Program) (w : World) (K : PySem.W.Frag) (mg : Str → Option Value) (base : Heap) (CX : CXT) (k : Nat) (f : Addr) (fd : FuncData) (ps : List Str) (sp : Sp) : Prop where
  len : ∀ vs H Q E, sp vs H Q E → vs.length = ps.length
  run : ∀ (A : Around) (outer : List Env) (s : Shared) (H : Hp) (args : Args) (us : List Value) (vs : List V) (Q : VK) (E : XK), A.guards = some [] → Room k A → Env0 P w K mg base A outer s H → BindsTo s fd args (ps.zip us) → Vals vs us → sp vs H Q E →
    codeAny (model P w) A (.call (.ref f) args) (CR CX outer P w H s Q E) s
theorem FunC.okG {P : Program} {w : World} {K : PySem.W.Frag} {mg : Str → Option Value} {base : Heap} {x qual : Str} {st : Stmt} {f : Addr} {fd : FuncData} {cdv : Value} {N ps : List Str} {k : Nat} {sp : Sp} (F : FunC K x qual st f fd cdv) (S : FnScope N ps (defScope st)) (len : ∀ vs H Q E, sp vs H Q E → vs.length = ps.length)
    (body : ∀ (A : Around) (outer : List Env) (s : Shared) (H : Hp) (vs : List V) (Q : VK) (E : XK), A.guards = some [] → Room k (A.deeper (PyProof.Rows.envOfC qual (defScope st) s.heap.objs.size f cdv)) → sp vs H Q E →
      ∃ t, PSs (cxOf CX0 P w K mg base N qual (defScope st) f cdv A outer s H E).nox (defBody st) t ∧ t { nx := fun _ H' => Q .non H', rt := Q } (L2.start N vs) H) : FnG P w K mg base CX0 (k + 1) f fd ps sp := by
  refine ⟨len, fun A outer s H args us vs Q E hg hr e0 hb r hsp => ?_⟩
  obtain ⟨oc, od, kV, doc, pm, an, ct, osl, rfl, lk, hc⟩ := F.ex
  refine LamX.run_ofS (N := N) (ps := ps) (k := k) (us := us) (vs := vs) lk hc S hr e0 hb r (len _ _ _ _ hsp) fun hr' => ?_
  obtain ⟨t, h1, h2⟩ := body A outer s H vs Q E hg hr' hsp
  exact ⟨t, h1.nox, h2⟩
theorem FunG {P : Program} {w : World} {K : PySem.W.Frag} {mg : Str → Option Value} {base : Heap} {x qual : Str} {st : Stmt} {f : Addr} {fd : FuncData} {N ps : List Str} {k : Nat} {sp : Sp} (F : Fun K x qual st f fd) (S : FnScope N ps (defScope st)) (len : ∀ vs H Q E, sp vs H Q E → vs.length = ps.length)
    (body : ∀ (cdv : Value) (A : Around) (outer : List Env) (s : Shared) (H : Hp) (vs : List V) (Q : VK) (E : XK), A.guards = some [] → Room k (A.deeper (PyProof.Rows.envOfC qual (defScope st) s.heap.objs.size f cdv)) → sp vs H Q E →
      ∃ t, PSs (cxOf CX0 P w K mg base N qual (defScope st) f cdv A outer s H E).nox (defBody st) t ∧ t { nx := fun _ H' => Q .non H', rt := Q } (L2.start N vs) H) : FnG P w K mg base CX0 (k + 1) f fd ps sp := by
  refine ⟨len, fun A outer s H args us vs Q E hg hr e0 hb r hsp => ?_⟩
  obtain ⟨oc, od, kV, doc, pm, an, cdv, ct, osl, rfl, lk, hc⟩ := F.ex
  refine LamX.run_ofS (N := N) (ps := ps) (k := k) (us := us) (vs := vs) lk hc S hr e0 hb r (len _ _ _ _ hsp) fun hr' => ?_
  obtain ⟨t, h1, h2⟩ := body cdv A outer s H vs Q E hg hr' hsp
  exact ⟨t, h1.nox, h2⟩
section
variable {X : Cx} {CX : CXT} {k : Nat} {f : Addr} {fd : FuncData} {ps : List Str} {sp : Sp} {ds : List Value} {dvs : List V} {E : XK} {x : Str} {p pos : Pos} {e : Expr} {es : List Expr} {t : TA}
theorem pe_callG (F : FnG X.prog X.w X.K X.mg X.base CX k f fd ps sp) (hgd : X.A.guards = some []) (hr : Room k X.A) (hg : Gl X x) (hm : X.mg x = some (.ref f)) (hk : PySem.W.keepIn X.K (.ref f) = true) (hb : Binds X.K fd ps ds) (hd : Vals dvs ds) (hx : Passes CX X E)
    (ha : PA X (e :: es) t) (hdb : (x == ("__debug__" : Str)) = false := by decide) (he : starEach (e :: es) X.env = (false, eval e X.env) :: starEach es X.env := by rfl) (hpl : (backTo pos (starEach es X.env)).any (·.1) = false := by rfl) :
    PE X (.Call (.Name x p) (e :: es) [] pos) (tCall sp dvs E t) := by
  refine ⟨fun pins s σ H Q I h => ?_⟩
  refine wpAny_Call_Name_kw (ld_glob I hg hm ?_ hdb)
  refine PySem.W.callWith_K (h₀ := X.base) I.ok.mod.kin hk (thn (ha.run pos pins s σ H _ I h) fun us s1 ⟨vs, H1, I1, r, q⟩ => ⟨I1.kIn, ?_⟩) he hpl
  have r2 : Vals (vs ++ dvs) (us ++ ds) := r.append hd
  have hl : (us ++ ds).length = ps.length := by rw [← r2.length]; exact F.len _ _ _ _ q
  refine wpAny_call (codeAny_mono (F.run X.A X.stack s1 H1 ⟨us, []⟩ (us ++ ds) (vs ++ dvs) Q E hgd hr I1.env0 (hb s1 us I1.kIn hl) r2 q) fun r s' hq => ?_)
  cases r with
  | error e => exact hx pins σ H1 s1 e s' I1 hq
  | ok fl =>
    cases fl with
    | ret u => exact I1.after hq
    | next => exact False.elim hq
    | brk => exact False.elim hq
    | cont => exact False.elim hq
end
section
variable {X : Cx} {E : XK}
theorem pe_caught (T : Txt X.K X.mg) {Ts : List (Addr × Str)} {c P : Addr} {k : Nat} {ps : Arguments} {bd : Expr} {lsc : Scope} {t : XK → TE} {p lpos pos : Pos} (hg : Gl X "_law_caught") (TB : TabB X.base X.mg c P) (hcode : X.env.code = .ref c) (hmT : (P, X.env.qual ++ "<lambda>") ∈ Ts) (hu : ∀ p ∈ Ts, p.1 = P → p.2 = X.env.qual ++ "<lambda>")
    (hr : Room (k + 2) X.A) (L : LamX.LamS X.env.scope lsc) (hdef : defaultsOf ps X.env = ([], []))
    (noArgs : ∀ (q : Str) (cl : List (Str × Addr)) (pm cv ctv : Value), bindArgs (PySem.W.kla_fn "<lambda>" q ps bd lsc cl pm cv ctv) ⟨[], []⟩ = pure [])
    (body : ∀ (A : Around) (outer : List Env) (s : Shared) (H : Hp) (E : XK) (fl co : Addr), Room k (A.deeper (LamX.lamEnv X lsc s.heap.objs.size fl co)) → PE (LamX.lamCx X A outer s H E lsc fl co) bd (t E)) :
    PE X (.Call (.Name "_law_caught" p) [.Lambda ps bd lsc lpos] [] pos) (tLam Ts (TTc X.K T.RoundError.C) t) := by
  obtain ⟨oc, od, kV, doc, pm, an, cdv, ct, osl, e, lk, hc⟩ := T.l_caught.F.ex
  have hb := T.l_caught.b
  rw [e] at lk hb
  exact LamX.tt_lamcall hg T.l_caught.g T.l_caught.k lk hc hb sc_l_caught rfl (Or.inl rfl) (caught_gives T.RoundError.g) TB hcode hmT hu hr L hdef noArgs body
theorem lamP {A : Around} {outer : List Env} {s : Shared} {H : Hp} {lsc : Scope} {fl co : Addr} : Passes (L2.CX X.prog X.w) (LamX.lamCx X A outer s H E lsc fl co) E := passes_call (takes_of rfl rfl rfl rfl) fun _ _ _ _ h => h
end
section
variable {P : Program} {w : World} {K : PySem.W.Frag} {mg : Str → Option Value} {base : Heap}
theorem sqT_ext {H H' : Hp} {a : Addr} {xs : List V} (e : ExtN H H') (h : SqT K H a xs) : SqT K H' a xs := by
  rcases h with (h | ⟨o, h⟩) | h
  · exact .inl (.inl (e _ _ h fun _ z => nomatch z))
  · exact .inl (.inr ⟨o, e _ _ h fun _ z => nomatch z⟩)
  · exact .inr h
theorem sqL_ext {H H' : Hp} {a : Addr} {xs : List V} (e : ExtN H H') (h : SqL K H a xs) : SqL K H' a xs := by
  rcases h with (h | ⟨o, h⟩) | h
  · exact .inl (.inl (e _ _ h fun _ z => nomatch z))
  · exact .inl (.inr ⟨o, e _ _ h fun _ z => nomatch z⟩)
  · exact .inr h
theorem tyB_ext {H H' : Hp} {x : V} {S : String} (t : TyB K H x S) (e : ExtN H H') : TyB K H' x S := by
  cases t with
  | non => exact .non
  | bl b => exact .bl b
  | int i => exact .int i
  | str x => exact .str x
  | byt b => exact .byt b
  | @lst a xs h =>
    have h' : SqL K H' a xs := sqL_ext e h
    exact .lst h'
  | tup h => exact .tup (sqT_ext e h)
  | dK h => exact .dK (e _ _ h fun _ z => nomatch z)
theorem fzT_ext {H H' : Hp} {a : Addr} {xs : List V} (e : ExtN H H') (h : FzT H a xs) : FzT H' a xs := by
  obtain ⟨ob, h1, h2⟩ := h
  exact ⟨ob, e _ _ h1 (fun _ z => nomatch z), h2⟩
theorem skAt_ext {T : Txt K mg} {H H' : Hp} {p : Addr} {row : List Int} (h : SkAt T H p row) (e : ExtN H H') : SkAt T H' p row := by
  obtain ⟨dx, r, q, h1, h2, h3⟩ := h
  exact ⟨dx, r, q, e _ _ h1 (fun _ z => nomatch z), fzT_ext e h2, fzT_ext e h3⟩
theorem drOk_ext {D : Dw} {H H' : Hp} (h : DrOk D H) (e : ExtN H H') : DrOk D H' := by
  obtain ⟨ls, cs, r, t, d⟩ := h
  exact ⟨ls, cs, r, t, e _ _ d.hd (fun _ z => nomatch z), e _ _ d.hl (fun _ z => nomatch z), e _ _ d.hc (fun _ z => nomatch z), d.ne, d.nl, d.nc⟩
def KpN (D : Dw) (H H' : Hp) : Prop := ∀ b o, H b = some o → b ≠ D.d → b ≠ D.l → (∀ ps, o ≠ .tbl ps) → H' b = some o
theorem KpN.of {D : Dw} {H H' : Hp} (k : Kp D H H') : KpN D H H' := fun b o h n m _ => k b o h n m
theorem KpN.ext {D : Dw} {H H' : Hp} (k : ExtN H H') : KpN D H H' := fun b o h _ _ t => k b o h t
theorem KpN.trans {D : Dw} {H H1 H2 : Hp} (a : KpN D H H1) (b : KpN D H1 H2) : KpN D H H2 := fun c o h n m t => b c o (a c o h n m t) n m t
theorem tabs_kp {D : Dw} {Ts : List (Addr × Str)} {H H' : Hp} (t : Tabs Ts H) (dr : DrOk D H) (k : Kp D H H') : Tabs Ts H' := fun p hp => by
  obtain ⟨ps, h1, h2, h3⟩ := t p hp
  obtain ⟨ls, cs, r, tt, d⟩ := dr
  refine ⟨ps, k _ _ h1 (d.dne h1 fun _ z => nomatch z) (d.lne h1 fun _ z => nomatch z), h2, fun pos cv hc => ?_⟩
  obtain ⟨c, e1, e2⟩ := h3 pos cv hc
  exact ⟨c, e1, k _ _ e2 (d.dne e2 fun _ z => nomatch z) (d.lne e2 fun _ z => nomatch z)⟩
theorem exm_S (T : Txt K mg) : PySem.W.exmOne K (.ref T.BadSkin.C) (.ref T.RoundError.C) = some true := PySem.W.exm_ref T.RoundError.ec.hs T.RoundError.ec.hd T.RoundError.ty T.sSR
def spSkinErr (T : Txt K mg) : Sp := fun vs H Q _ => ∃ (a d : Addr), vs = [.ref a] ∧ H a = some (exh (.ref T.BadSkin.C) (some d) a) ∧ H d = some (.xd [("part", .non)]) ∧ Q (.bl true) H
theorem ok_l_skin_error (T : Txt K mg) : FnOk P w K mg base CX0 1 T.l_skin_error.a T.l_skin_error.fd ["error"] (spSkinErr T) := by
  refine T.l_skin_error.F.ok sc_l_skin_error (fun vs H Q E h => ?_) (fun cdv A outer s H vs Q E hr h => ?_)
  · obtain ⟨a, d, rfl, _⟩ := h
    rfl
  · obtain ⟨a, d, rfl, h1, h2, k⟩ := h
    refine ⟨_, (pss_one (ps_ret (pe_and (pe_callB call_isA (by rfl) T.zisinstance (by decide +kernel) (pa_cons (pv 0) (pa_cons (pe_glob (v := .ref T.BadSkin.C) rfl T.BadSkin.g rfl) pa_nil))) (pe_one (pe_cmpR op_isN (pe_xfH (pv 0)) pe_non (nomark _)))))), ?_⟩
    refine ⟨_, rfl, .inl ⟨a, T.BadSkin.C, some d, _, _, true, rfl, h1, .inr ⟨d, _, rfl, h2⟩, T.BadSkin.ec, .own T.BadSkin.C, T.kSkSk, _, rfl, iteT ?_⟩⟩
    exact ⟨_, rfl, a, T.BadSkin.C, d, _, .non, rfl, h1, h2, T.BadSkin.xf, T.BadSkin.n, rfl, rfl, k⟩
def NoSk (T : Txt K mg) (J : Hp → Prop) (Q : VK) : Prop := ∀ a d H', J H' → H' a = some (exh (.ref T.BadSkin.C) (some d) a) → H' d = some (.xd [("part", .non)]) → Q (.ref a) H'
theorem skErr_of {T : Txt K mg} {J : Hp → Prop} {H1 : Hp} {Q : VK} (js : ∀ H', Same H1 H' → J H') (k : NoSk T J Q) : SkErr T H1 (fun cls d H' => PySem.W.exmOne K cls (.ref T.RoundError.C) = some true ∧ ∀ a, H' a = none → Q (.ref a) (upd H' a (exh cls d a))) := fun d H' s e =>
  ⟨exm_S T, fun a ha => k a d _ (js _ (s.trans (same_new ha))) upd_same (by rw [upd_ne (ne_of_none e ha)]; exact e)⟩
end
end Tt
set_option maxRecDepth 100000
set_option maxHeartbeats 4000000
namespace Tt
open PySem L2
open LamX (ExtN)
section
variable {P : Program} {w : World} {K : PySem.W.Frag} {mg : Str → Option Value} {base : Heap}
def RowP (xs : List V) : Prop := ∃ (n : Nat) (row : List Int), 1 ≤ n ∧ n ≤ 6 ∧ xs = row.map V.int ∧ row.Perm (rgI (2 * n))
inductive RowV (K : PySem.W.Frag) (H : Hp) : V → Bool → Prop where
  | non {x : V} {S : String} (h : TyB K H x S) (hS : S = "NoneType" ∨ S = "int" ∨ S = "str" ∨ S = "dict") : RowV K H x false
  | lst {p : Addr} {xs : List V} {b : Bool} (h : SqL K H p xs) (n : xs.length ≤ 20) (ty : ∀ y ∈ xs, ∃ S, TyB K H y S ∧ S ≠ "dict" ∧ S ≠ "bytes") (hb : b = true ↔ RowP xs) : RowV K H (.ref p) b
  | tup {p : Addr} {xs : List V} {b : Bool} (h : SqT K H p xs) (n : xs.length ≤ 20) (ty : ∀ y ∈ xs, ∃ S, TyB K H y S ∧ S ≠ "dict" ∧ S ≠ "bytes") (hb : b = true ↔ RowP xs) : RowV K H (.ref p) b
theorem RowV.ext {H H' : Hp} {x : V} {b : Bool} (h : RowV K H x b) (e : ExtN H H') : RowV K H' x b := by
  cases h with
  | non h hS => exact .non (tyB_ext h e) hS
  | lst h n ty hb => exact .lst (sqL_ext e h) n (fun y hy => (ty y hy).elim fun S t => ⟨S, tyB_ext t.1 e, t.2⟩) hb
  | tup h n ty hb => exact .tup (sqT_ext e h) n (fun y hy => (ty y hy).elim fun S t => ⟨S, tyB_ext t.1 e, t.2⟩) hb
theorem map_int_inj : ∀ {a b : List Int}, a.map V.int = b.map V.int → a = b
  | [], [], _ => rfl
  | [], _ :: _, h => by cases h
  | _ :: _, [], h => by cases h
  | x :: a, y :: b, h => by
    simp only [List.map_cons, List.cons.injEq, V.int.injEq] at h
    rw [h.1, map_int_inj h.2]
theorem all_ints : ∀ {xs : List V}, xs.all isI = true → ∃ row : List Int, xs = row.map V.int
  | [], _ => ⟨[], rfl⟩
  | x :: xs, h => by
    rw [List.all_cons, Bool.and_eq_true] at h
    obtain ⟨row, e⟩ := all_ints h.2
    cases x with
    | int i => exact ⟨i :: row, by rw [e]; rfl⟩
    | _ => exact absurd h.1 (by simp [isI])
theorem lenIn_of {n m : Nat} (h : n = 2 * m) (h1 : 1 ≤ m) (h6 : m ≤ 6) : inV (.int (n : Int)) [.int 2, .int 4, .int 6, .int 8, .int 10, .int 12] = true := by
  subst h
  have : m = 1 ∨ m = 2 ∨ m = 3 ∨ m = 4 ∨ m = 5 ∨ m = 6 := by omega
  rcases this with rfl | rfl | rfl | rfl | rfl | rfl <;> rfl
theorem lenIn {n : Nat} (hn : n ≤ 20) (h : inV (.int (n : Int)) [.int 2, .int 4, .int 6, .int 8, .int 10, .int 12] = true) : ∃ m, 1 ≤ m ∧ m ≤ 6 ∧ n = 2 * m := by
  have z : ∀ k : Fin 21, inV (.int ((k.val : Nat) : Int)) [.int 2, .int 4, .int 6, .int 8, .int 10, .int 12] = true → (k.val % 2 = 0 ∧ 2 ≤ k.val ∧ k.val ≤ 12) := by decide
  obtain ⟨a, b, c⟩ := z ⟨n, by omega⟩ h
  have a' : n % 2 = 0 := a
  have b' : 2 ≤ n := b
  have c' : n ≤ 12 := c
  exact ⟨n / 2, by omega, by omega, by omega⟩
def spRowV (K : PySem.W.Frag) : Sp := fun vs H Q _ => ∃ (x : V) (b : Bool), vs = [x] ∧ RowV K H x b ∧ ∀ H', Same H H' → Q (.bl b) H'
theorem ok_is_row (T : Txt K mg) : FnOk P w K mg base CX0 3 T.is_row.a T.is_row.fd ["row"] (spRowV K) := by
  refine T.is_row.F.ok sc_is_row (fun vs H Q E h => ?_) (fun cdv A outer s H vs Q E hr h => ?_)
  · obtain ⟨x, b, rfl, _⟩ := h
    rfl
  · obtain ⟨x, b, rfl, hv, k⟩ := h
    have nd := sc_is_row.nd
    cases hv with
    | @non x S h hS =>
      refine ⟨_, (pss_cons (ps_if (PW.pt (pw_or (pt_not (pt_val (pe_call (ok_is_list T) (hr.mono (by decide)) (by rfl) T.is_list.g T.is_list.k T.is_list.b .nil pass0 (pa_cons (pv 0) pa_nil)))) (pw_or1 (pt_cmpR op_notIn_seq (pe_callB call_len_seq (by rfl) T.zlen (by decide +kernel) (pa_cons (pv 0) pa_nil)) (pe_tup (pa_cons pe_int (pa_cons pe_int (pa_cons pe_int (pa_cons pe_int (pa_cons pe_int (pa_cons pe_int pa_nil))))))) rfl))))
      (pss_one (ps_ret pe_bl))
      pss_nil)
    (pss_one (ps_ret (pe_and (pe_callB (cr_all rfl) (by rfl) T.zall (by decide +kernel) (pa_cons (pe_lc (own := [("end", 1)]) (g := gName 1) rfl nd (pi_tup (pv 0)) (blkOk_by (own := [("end", 1)]) (N := N_is_row) (sc := defScope s_is_row) (by decide +kernel)) (fun _ _ _ _ _ => pg_name (i := 1) nd rfl (Or.inl rfl)) (fun _ _ _ _ _ => pts_nil) (fun _ _ _ _ _ => (pe_call (ok_is_number T) (hr.mono (by decide)) (by rfl) T.is_number.g T.is_number.k T.is_number.b .nil pass0 (pa_cons (pv 1) pa_nil)))) pa_nil)) (pe_one (pe_cmpR (op_eqD hr.units) (pe_callB cr_sortedS2 (by rfl) T.zsorted (by decide +kernel) (pa_cons (pv 0) pa_nil)) (pe_listRg rfl (by rfl) T.zlist (prg_1 (by rfl) T.zrange (pe_callB call_len_seq (by rfl) T.zlen (by decide +kernel) (pa_cons (pv 0) pa_nil)))) (nomark _))))))), ?_⟩
      refine ⟨_, rfl, _, _, rfl, h, _, rfl, ?_⟩
      rcases hS with rfl | rfl | rfl | rfl <;> exact iteT (k _ fun _ _ z => z)
    | @lst t xs b h n ty hb =>
      refine ⟨_, (pss_cons (ps_if (PW.pt (pw_or (pt_not (pt_val (pe_call (ok_is_list T) (hr.mono (by decide)) (by rfl) T.is_list.g T.is_list.k T.is_list.b .nil pass0 (pa_cons (pv 0) pa_nil)))) (pw_or1 (pt_cmpR op_notIn_seq (pe_callB call_len_seq (by rfl) T.zlen (by decide +kernel) (pa_cons (pv 0) pa_nil)) (pe_tup (pa_cons pe_int (pa_cons pe_int (pa_cons pe_int (pa_cons pe_int (pa_cons pe_int (pa_cons pe_int pa_nil))))))) rfl))))
      (pss_one (ps_ret pe_bl))
      pss_nil)
    (pss_one (ps_ret (pe_and (pe_callB (cr_all rfl) (by rfl) T.zall (by decide +kernel) (pa_cons (pe_lc (own := [("end", 1)]) (g := gName 1) rfl nd (pi_list (pv 0)) (blkOk_by (own := [("end", 1)]) (N := N_is_row) (sc := defScope s_is_row) (by decide +kernel)) (fun _ _ _ _ _ => pg_name (i := 1) nd rfl (Or.inl rfl)) (fun _ _ _ _ _ => pts_nil) (fun _ _ _ _ _ => (pe_call (ok_is_number T) (hr.mono (by decide)) (by rfl) T.is_number.g T.is_number.k T.is_number.b .nil pass0 (pa_cons (pv 1) pa_nil)))) pa_nil)) (pe_one (pe_cmpR (op_eqD hr.units) (pe_callB cr_sortedS2 (by rfl) T.zsorted (by decide +kernel) (pa_cons (pv 0) pa_nil)) (pe_listRg rfl (by rfl) T.zlist (prg_1 (by rfl) T.zrange (pe_callB call_len_seq (by rfl) T.zlen (by decide +kernel) (pa_cons (pv 0) pa_nil)))) (nomark _))))))), ?_⟩
      refine ⟨_, rfl, _, _, rfl, .lst h, _, rfl, iteF ?_⟩
      refine ⟨_, rfl, t, _, rfl, .inl h, (by show 6 ≤ sizeLine; decide), fun p hp => ?_⟩
      refine ⟨p, _, rfl, .inr (SqT.of upd_same), rfl, rfl, _, rfl, ?_⟩
      have s1 : Same H (upd H p (.tup [.int 2, .int 4, .int 6, .int 8, .int 10, .int 12])) := same_new hp
      generalize upd H p (.tup [.int 2, .int 4, .int 6, .int 8, .int 10, .int 12]) = H1 at s1
      refine ite2 (fun c => ?_) (fun c => ?_)
      · have hf : b = false := by
          cases b with
          | false => rfl
          | true =>
            obtain ⟨n, row, n1, n6, e, pm⟩ := hb.mp rfl
            have hl : xs.length = 2 * n := by rw [e, List.length_map, perm_len pm]
            have c' : (!inV (.int (xs.length : Int)) [.int 2, .int 4, .int 6, .int 8, .int 10, .int 12]) = true := c
            rw [lenIn_of hl n1 n6] at c'
            cases c'
        subst hf
        exact k _ s1
      · obtain ⟨m, m1, m6, hlen⟩ := lenIn (n := xs.length) (by omega) (by simpa using c)
        refine ⟨_, rfl, t, rfl, ⟨_, sqL_ext (.of s1) h⟩, fun D1 hD1 => lc_list (K := K) (a := t) (xs := xs) (fun i H' => H' D1 = some (.lst (((xs.take i).map isI).map V.bl)) ∧ Same H1 H')
          ⟨upd_same, same_new hD1⟩ (fun i H' _ z => sqL_ext (.of (s1.trans z.2)) h) ?_ ?_⟩
        · rintro i y H' hi ⟨h1, s2⟩
          have hil : i < xs.length := (List.getElem?_eq_some_iff.mp hi).1
          obtain ⟨S, ty', _⟩ := ty y (List.mem_of_getElem? hi)
          refine ⟨rfl, yes_t ?_⟩
          refine ⟨_, rfl, _, S, rfl, TyB.same ty' (s1.trans s2), _, h1, ?_, ?_, fun b o hb => ?_⟩
          · rw [List.length_map, List.length_map, List.length_take]
            exact small1000 (by omega)
          · rw [upd_same, List.take_add_one, hi, List.map_append, List.map_append]
            rfl
          · rw [upd_ne (ne_of_none hb hD1)]
            exact s2 b o hb
        · rintro H' ⟨h1, s2⟩
          have e2 : xs.take xs.length = xs := List.take_length
          rw [e2] at h1
          have s3 : Same H H' := s1.trans s2
          refine ⟨D1, xs.map isI, rfl, SqL.of h1, _, rfl, ?_⟩
          have hall : (xs.map isI).all id = xs.all isI := by rw [List.all_map]; rfl
          rw [hall]
          refine ite2 (fun ca => ?_) (fun ca => ?_)
          · obtain ⟨row, ex⟩ := all_ints ca
            subst ex
            rw [List.length_map] at hlen
            refine ⟨_, rfl, .inl ⟨t, row, rfl, sqL_ext (.of s3) h, fun ns' p2 pm2 pw hp2 => ?_⟩⟩
            have s4 : Same H (upd H' p2 (.lst (ns'.map V.int))) := s3.trans (same_new hp2)
            refine ⟨_, rfl, t, _, rfl, .inl (sqL_ext (.of s4) h), _, rfl, RgOk.of_le (by omega) ?_ (by omega) (by omega), fun q hq => ?_⟩
            · rw [List.length_map]
              omega
            · have e1 : (upd (upd H' p2 (.lst (ns'.map V.int))) q (.lst (rgV 0 ((row.map V.int).length : Int)))) q = some (.lst ((rgI (2 * m)).map V.int)) := by
                rw [upd_same, rgV_rgI (by omega), List.length_map, hlen, Int.toNat_natCast]
              have e2 : (upd (upd H' p2 (.lst (ns'.map V.int))) q (.lst (rgV 0 ((row.map V.int).length : Int)))) p2 = some (.lst (ns'.map V.int)) := upk hq upd_same
              refine ⟨_, _, .lst (SqL.of e2) (dpAll_ints _ ns'), .lst (SqL.of e1) (dpAll_ints _ _), shapedAll_ints _, shapedAll_ints _, ?_⟩
              rw [eqv_ints]
              have eb : decide (ns' = rgI (2 * m)) = b := by
                rw [Bool.eq_iff_iff, hb, decide_eq_true_iff]
                constructor
                · intro e
                  exact ⟨m, row, m1, m6, rfl, by rw [← e]; exact pm2.symm⟩
                · rintro ⟨n', row', a1, a2, e, pm⟩
                  have er : row = row' := map_int_inj e
                  subst er
                  have : 2 * n' = 2 * m := by rw [← hlen, perm_len pm]
                  rw [← this]
                  exact perm_sorted pm2 pw pm
              rw [eb]
              exact k _ (s4.trans (same_new hq))
          · have hf : b = false := by
              cases b with
              | false => rfl
              | true =>
                obtain ⟨n, row, n1, n6, e, pm⟩ := hb.mp rfl
                subst e
                exact absurd (by rw [List.all_map]; exact List.all_eq_true.mpr fun _ _ => rfl) ca
            subst hf
            have ca' : xs.all isI = false := by simpa using ca
            exact k _ s3
    | @tup t xs b h n ty hb =>
      refine ⟨_, (pss_cons (ps_if (PW.pt (pw_or (pt_not (pt_val (pe_call (ok_is_list T) (hr.mono (by decide)) (by rfl) T.is_list.g T.is_list.k T.is_list.b .nil pass0 (pa_cons (pv 0) pa_nil)))) (pw_or1 (pt_cmpR op_notIn_seq (pe_callB call_len_seq (by rfl) T.zlen (by decide +kernel) (pa_cons (pv 0) pa_nil)) (pe_tup (pa_cons pe_int (pa_cons pe_int (pa_cons pe_int (pa_cons pe_int (pa_cons pe_int (pa_cons pe_int pa_nil))))))) rfl))))
      (pss_one (ps_ret pe_bl))
      pss_nil)
    (pss_one (ps_ret (pe_and (pe_callB (cr_all rfl) (by rfl) T.zall (by decide +kernel) (pa_cons (pe_lc (own := [("end", 1)]) (g := gName 1) rfl nd (pi_tup (pv 0)) (blkOk_by (own := [("end", 1)]) (N := N_is_row) (sc := defScope s_is_row) (by decide +kernel)) (fun _ _ _ _ _ => pg_name (i := 1) nd rfl (Or.inl rfl)) (fun _ _ _ _ _ => pts_nil) (fun _ _ _ _ _ => (pe_call (ok_is_number T) (hr.mono (by decide)) (by rfl) T.is_number.g T.is_number.k T.is_number.b .nil pass0 (pa_cons (pv 1) pa_nil)))) pa_nil)) (pe_one (pe_cmpR (op_eqD hr.units) (pe_callB cr_sortedS2 (by rfl) T.zsorted (by decide +kernel) (pa_cons (pv 0) pa_nil)) (pe_listRg rfl (by rfl) T.zlist (prg_1 (by rfl) T.zrange (pe_callB call_len_seq (by rfl) T.zlen (by decide +kernel) (pa_cons (pv 0) pa_nil)))) (nomark _))))))), ?_⟩
      refine ⟨_, rfl, _, _, rfl, .tup h, _, rfl, iteF ?_⟩
      refine ⟨_, rfl, t, _, rfl, .inr h, (by show 6 ≤ sizeLine; decide), fun p hp => ?_⟩
      refine ⟨p, _, rfl, .inr (SqT.of upd_same), rfl, rfl, _, rfl, ?_⟩
      have s1 : Same H (upd H p (.tup [.int 2, .int 4, .int 6, .int 8, .int 10, .int 12])) := same_new hp
      generalize upd H p (.tup [.int 2, .int 4, .int 6, .int 8, .int 10, .int 12]) = H1 at s1
      refine ite2 (fun c => ?_) (fun c => ?_)
      · have hf : b = false := by
          cases b with
          | false => rfl
          | true =>
            obtain ⟨n, row, n1, n6, e, pm⟩ := hb.mp rfl
            have hl : xs.length = 2 * n := by rw [e, List.length_map, perm_len pm]
            have c' : (!inV (.int (xs.length : Int)) [.int 2, .int 4, .int 6, .int 8, .int 10, .int 12]) = true := c
            rw [lenIn_of hl n1 n6] at c'
            cases c'
        subst hf
        exact k _ s1
      · obtain ⟨m, m1, m6, hlen⟩ := lenIn (n := xs.length) (by omega) (by simpa using c)
        refine ⟨_, rfl, t, rfl, ⟨_, sqT_ext (.of s1) h⟩, fun D1 hD1 => lc_tup (K := K) (a := t) (xs := xs) (fun i H' => H' D1 = some (.lst (((xs.take i).map isI).map V.bl)) ∧ Same H1 H')
          ⟨upd_same, same_new hD1⟩ (fun i H' _ z => sqT_ext (.of (s1.trans z.2)) h) ?_ ?_⟩
        · rintro i y H' hi ⟨h1, s2⟩
          have hil : i < xs.length := (List.getElem?_eq_some_iff.mp hi).1
          obtain ⟨S, ty', _⟩ := ty y (List.mem_of_getElem? hi)
          refine ⟨rfl, yes_t ?_⟩
          refine ⟨_, rfl, _, S, rfl, TyB.same ty' (s1.trans s2), _, h1, ?_, ?_, fun b o hb => ?_⟩
          · rw [List.length_map, List.length_map, List.length_take]
            exact small1000 (by omega)
          · rw [upd_same, List.take_add_one, hi, List.map_append, List.map_append]
            rfl
          · rw [upd_ne (ne_of_none hb hD1)]
            exact s2 b o hb
        · rintro H' ⟨h1, s2⟩
          have e2 : xs.take xs.length = xs := List.take_length
          rw [e2] at h1
          have s3 : Same H H' := s1.trans s2
          refine ⟨D1, xs.map isI, rfl, SqL.of h1, _, rfl, ?_⟩
          have hall : (xs.map isI).all id = xs.all isI := by rw [List.all_map]; rfl
          rw [hall]
          refine ite2 (fun ca => ?_) (fun ca => ?_)
          · obtain ⟨row, ex⟩ := all_ints ca
            subst ex
            rw [List.length_map] at hlen
            refine ⟨_, rfl, .inr ⟨t, row, rfl, sqT_ext (.of s3) h, fun ns' p2 pm2 pw hp2 => ?_⟩⟩
            have s4 : Same H (upd H' p2 (.lst (ns'.map V.int))) := s3.trans (same_new hp2)
            refine ⟨_, rfl, t, _, rfl, .inr (sqT_ext (.of s4) h), _, rfl, RgOk.of_le (by omega) ?_ (by omega) (by omega), fun q hq => ?_⟩
            · rw [List.length_map]
              omega
            · have e1 : (upd (upd H' p2 (.lst (ns'.map V.int))) q (.lst (rgV 0 ((row.map V.int).length : Int)))) q = some (.lst ((rgI (2 * m)).map V.int)) := by
                rw [upd_same, rgV_rgI (by omega), List.length_map, hlen, Int.toNat_natCast]
              have e2 : (upd (upd H' p2 (.lst (ns'.map V.int))) q (.lst (rgV 0 ((row.map V.int).length : Int)))) p2 = some (.lst (ns'.map V.int)) := upk hq upd_same
              refine ⟨_, _, .lst (SqL.of e2) (dpAll_ints _ ns'), .lst (SqL.of e1) (dpAll_ints _ _), shapedAll_ints _, shapedAll_ints _, ?_⟩
              rw [eqv_ints]
              have eb : decide (ns' = rgI (2 * m)) = b := by
                rw [Bool.eq_iff_iff, hb, decide_eq_true_iff]
                constructor
                · intro e
                  exact ⟨m, row, m1, m6, rfl, by rw [← e]; exact pm2.symm⟩
                · rintro ⟨n', row', a1, a2, e, pm⟩
                  have er : row = row' := map_int_inj e
                  subst er
                  have : 2 * n' = 2 * m := by rw [← hlen, perm_len pm]
                  rw [← this]
                  exact perm_sorted pm2 pw pm
              rw [eb]
              exact k _ (s4.trans (same_new hq))
          · have hf : b = false := by
              cases b with
              | false => rfl
              | true =>
                obtain ⟨n, row, n1, n6, e, pm⟩ := hb.mp rfl
                subst e
                exact absurd (by rw [List.all_map]; exact List.all_eq_true.mpr fun _ _ => rfl) ca
            subst hf
            have ca' : xs.all isI = false := by simpa using ca
            exact k _ s3
end
end Tt
set_option maxRecDepth 100000
set_option maxHeartbeats 4000000
namespace Tt
open PySem L2
open LamX (ExtN)
section
variable {P : Program} {w : World} {K : PySem.W.Frag} {mg : Str → Option Value} {base : Heap}
theorem sqL_ne {H : Hp} {a p : Addr} {xs : List V} {u o : HO} (h : SqL K H a xs) (e : H p = some u) (n1 : ∀ x, u ≠ .lst x) (n2 : ∀ ob x, u ≠ .frz ob x) : SqL K (upd H p o) a xs := by
  rcases h with (h | ⟨ob, h⟩) | h
  · refine .inl (.inl ?_)
    rw [upd_ne]
    · exact h
    · intro z
      subst z
      rw [e] at h
      exact n1 _ (Option.some.inj h)
  · refine .inl (.inr ⟨ob, ?_⟩)
    rw [upd_ne]
    · exact h
    · intro z
      subst z
      rw [e] at h
      exact n2 _ _ (Option.some.inj h)
  · exact .inr h
theorem ints_ty {H : Hp} (row : List Int) : ∀ y ∈ row.map V.int, ∃ S, TyB K H y S ∧ S ≠ "dict" ∧ S ≠ "bytes" := fun y hy => by
  obtain ⟨i, _, rfl⟩ := List.mem_map.mp hy
  exact ⟨_, .int i, by decide, by decide⟩
theorem flat_ints : ∀ row : List Int, (row.map V.int).all flatV = true
  | [] => rfl
  | _ :: l => flat_ints l
theorem no_ahead {row : List Int} {x : Int} {j : Nat} (h : ∀ m, m < j → row[m]? ≠ some x) : ∀ (m : Nat) (z' : V), m < j → (row.map V.int)[m]? = some z' → eqV z' (.int x) = false := fun m z' hm hz => by
  obtain ⟨i, rfl, hi⟩ := ints_at hz
  have ne : i ≠ x := fun e => h m hm (by rw [hi, e])
  show decide (i = x) = false
  exact decide_eq_false ne
def tTurnedL (K : PySem.W.Frag) (i j : Nat) : TE := tOp (rCatF K) (tCB (rTupF K) (tCons (tSl (rSlL K) (tVar i) (tPart (tVar j)) tNoPart) tNil)) (tCB (rTupF K) (tCons (tSl (rSlL K) (tVar i) tNoPart (tPart (tVar j))) tNil))
theorem row_turnedL {σ : L2.St} {H : Hp} {Q : VK} {t : Addr} {i j st : Nat} {row : List Int} (h1 : σ[i]? = some (some (.ref t))) (h2 : σ[j]? = some (some (.int (st : Nat)))) (ht : SqL K H t (row.map V.int)) (hst : st < row.length) (hl : row.length ≤ 12)
    (k : ∀ (r : Addr) (H4 : Hp), Same H H4 → FzT H4 r ((row.drop st ++ row.take st).map V.int) → Q (.ref r) H4) : tTurnedL K i j σ H Q := by
  have hd : ((row.drop st).map V.int) ≠ [] := fun z => by
    have := congrArg List.length z
    rw [List.length_map, List.length_drop] at this
    simp at this
    omega
  have hz : ((row.drop st).map V.int).length + ((row.take st).map V.int).length ≤ sizeLine := by
    rw [List.length_map, List.length_map, List.length_drop, List.length_take]
    have : (12 : Nat) ≤ sizeLine := by decide
    omega
  refine ⟨_, h1, _, h2, st, rfl, noPart_i ⟨t, _, rfl, ht, fun p hp => ?_⟩⟩
  rw [cut_from, ← List.map_drop]
  have s1 : Same H (upd H p (.lst ((row.drop st).map V.int))) := same_new hp
  refine ⟨p, _, rfl, .inl ⟨SqL.of upd_same, fun a ob ha hob => ?_⟩⟩
  generalize upd H p (.lst ((row.drop st).map V.int)) = H1 at s1 ha
  have fa : FzT (upd H1 a (.frz ob (.tup ((row.drop st).map V.int)))) a ((row.drop st).map V.int) := FzT.new hob
  have s2 : Same H (upd H1 a (.frz ob (.tup ((row.drop st).map V.int)))) := s1.trans (same_new ha)
  generalize upd H1 a (.frz ob (.tup ((row.drop st).map V.int))) = H2 at fa s2
  refine ⟨_, h1, noPart_i ⟨_, h2, st, rfl, t, _, rfl, sqL_ext (.of s2) ht, fun p2 hp2 => ?_⟩⟩
  rw [cut_to _ (by rw [List.length_map]; omega), ← List.map_take]
  have s3 : Same H2 (upd H2 p2 (.lst ((row.take st).map V.int))) := same_new hp2
  refine ⟨p2, _, rfl, .inl ⟨SqL.of upd_same, fun b ob2 hb hob2 => ?_⟩⟩
  generalize upd H2 p2 (.lst ((row.take st).map V.int)) = H3 at s3 hb
  have fb : FzT (upd H3 b (.frz ob2 (.tup ((row.take st).map V.int)))) b ((row.take st).map V.int) := FzT.new hob2
  have s4 : Same H2 (upd H3 b (.frz ob2 (.tup ((row.take st).map V.int)))) := s3.trans (same_new hb)
  generalize upd H3 b (.frz ob2 (.tup ((row.take st).map V.int))) = H4 at fb s4
  refine ⟨a, b, _, _, rfl, rfl, (FzT.same fa s4).sq, fb.sq, hd, hz, fun z => ?_, fun z r ob hr hob => ?_⟩
  · have z0 : st = 0 := by
      have := congrArg List.length z
      rw [List.length_map, List.length_take, List.length_nil] at this
      omega
    subst z0
    refine k a _ (s2.trans s4) ?_
    have := FzT.same fa s4
    rw [show List.drop 0 row = row by simp] at this
    rw [show List.drop 0 row ++ List.take 0 row = row by simp]
    exact this
  · refine k r _ ((s2.trans s4).trans (same_new hr)) ?_
    rw [List.map_append]
    exact FzT.new hob
def trn (row : List Int) : List Int := row.drop (row.idxOf 0) ++ row.take (row.idxOf 0)
def RowErr (T : Txt K mg) (H : Hp) (E : XK) : Prop := ∀ d H', Same H H' → H' d = some (.xd [("part", .str "row")]) → E (.ref T.BadSkin.C) (some d) H'
def spSkinI (T : Txt K mg) : Sp := fun vs H Q E => ∃ (p dx : Addr) (x : V), vs = [.ref p, x] ∧ H p = some (.ins T.Skin.C dx []) ∧ ((RowV K H x false ∧ RowErr T H E) ∨
  ∃ (t : Addr) (n : Nat) (row : List Int), x = .ref t ∧ (SqL K H t (row.map V.int) ∨ FzT H t (row.map V.int)) ∧ 1 ≤ n ∧ n ≤ 6 ∧ row.Perm (rgI (2 * n)) ∧
    ∀ H', SkAt T H' p (trn row) → (∀ b o, H b = some o → b ≠ p → H' b = some o) → Q .non H')
theorem ok_Skin_init (T : Txt K mg) : FnOk P w K mg base (L2.CX P w) 4 T.Skin.fI T.Skin.fd ["self", "row"] (spSkinI T) := by
  refine T.Skin.F.okX sc_Skin_init (fun vs H Q E h => ?_) (fun cdv A outer s H vs Q E hr h => ?_)
  · obtain ⟨p, dx, x, rfl, _⟩ := h
    rfl
  · obtain ⟨p, dx, x, rfl, hp, h⟩ := h
    have nd := sc_Skin_init.nd
    have hu := hu_of hr
    rcases h with ⟨hv, he⟩ | ⟨t, n, row, rfl, ht, n1, n6, pm, k⟩
    · refine ⟨_, (pss_cons (ps_if (pt_not (pt_val (pe_call (ok_is_row T) (hr.mono (by decide)) (by rfl) T.is_row.g T.is_row.k T.is_row.b .nil pass0 (pa_cons (pv 1) pa_nil))))
      (pss_one (ps_raise rfl (takes_of rfl rfl rfl rfl) (pmk_oex T.BadSkin.o T.BadSkin.i T.BadSkin.t (ok_BadSkin_init T) (hr.mono (by decide)) T.BadSkin.b .nil pass0 (by rfl) T.BadSkin.g (pa_cons pe_str pa_nil))))
      pss_nil)
    (pss_cons (ps_set (i := 2) nd rfl (Or.inl rfl) (pe_bmF PySem.F.plainAttrs_tuple PySem.F.slot_tuple_index PySem.F.type_tuple_index mt_tup_indexI (pv 1) (pa_cons pe_int pa_nil)))
    (pss_cons (ps_fld (pv 0) (pe_op op_catF (pe_callTy call_tuple_ofF (by rfl) T.ztuple (by decide +kernel) (pa_cons (pe_slice sl_tupA (pv 1) (po_some (pv 2)) po_none) pa_nil)) (pe_callTy call_tuple_ofF (by rfl) T.ztuple (by decide +kernel) (pa_cons (pe_slice sl_tupA (pv 1) po_none (po_some (pv 2))) pa_nil))) rfl)
    (pss_cons (ps_fld (pv 0) (pe_op op_fdiv (pe_callB call_len_seq (by rfl) T.zlen (by decide +kernel) (pa_cons (pv 1) pa_nil)) pe_int) rfl)
    (pss_one (ps_fld (pv 0) (pe_callTy call_tuple_ofF (by rfl) T.ztuple (by decide +kernel) (pa_cons (pe_lc (own := [("end", 3)]) (g := gName 3) rfl nd (pi_range1 rfl T.zrange (pa_cons (pe_callB call_len_seq (by rfl) T.zlen (by decide +kernel) (pa_cons (pv 1) pa_nil)) pa_nil)) (blkOk_by (own := [("end", 3)]) (N := N_Skin_init) (sc := defScope s_Skin_init) (by decide +kernel)) (fun _ _ _ _ _ => pg_name (i := 3) nd rfl (Or.inl rfl)) (fun _ _ _ _ _ => pts_nil) (fun _ _ _ _ _ => (pe_bmFK (K := K) rfl PySem.F.plainAttrs_tuple PySem.F.slot_tuple_index PySem.F.type_tuple_index (mt_tup_indexIK (K := K) rfl) (pe_fldK (K := K) rfl (pv 0) rfl) (pa_cons (pv 3) pa_nil)))) pa_nil)) rfl)))))), ?_⟩
      refine ⟨_, rfl, x, false, rfl, hv, fun H1 s1 => ⟨_, rfl, ?_⟩⟩
      refine iteT ⟨(by show 1 ≤ 1000; decide), fun a ha => ?_⟩
      refine ⟨a, .str "row", rfl, upd_same, fun dx ndx ne => ⟨rfl, dx, ([("part", V.str "row")] : List (Str × V)), upd_same, ?_, ?_, ?_⟩⟩
      · rw [upd_ne ne, upd_same]
      · rw [upd_ne ne] at ndx
        exact ndx
      · have ndx' : H1 dx = none := by rw [upd_ne ne] at ndx; exact ndx
        refine he dx _ (fun b o hb => ?_) upd_same
        have hb1 := s1 _ _ hb
        have nb : b ≠ a := ne_of_none hb1 ha
        have nb2 : b ≠ dx := ne_of_none hb1 ndx'
        rw [upd_ne nb2, del_ne nb, upd_ne nb, upd_ne nb2, upd_ne nb]
        exact hb1
    · have hlen := perm_len pm
      rcases ht with ht | ht
      · refine ⟨_, (pss_cons (ps_if (pt_not (pt_val (pe_call (ok_is_row T) (hr.mono (by decide)) (by rfl) T.is_row.g T.is_row.k T.is_row.b .nil pass0 (pa_cons (pv 1) pa_nil))))
      (pss_one (ps_raise rfl (takes_of rfl rfl rfl rfl) (pmk_oex T.BadSkin.o T.BadSkin.i T.BadSkin.t (ok_BadSkin_init T) (hr.mono (by decide)) T.BadSkin.b .nil pass0 (by rfl) T.BadSkin.g (pa_cons pe_str pa_nil))))
      pss_nil)
    (pss_cons (ps_set (i := 2) nd rfl (Or.inl rfl) (pe_bm PySem.F.plainAttrs_list PySem.F.slot_list_index PySem.F.type_list_index mt_index (pv 1) (pa_cons pe_int pa_nil)))
    (pss_cons (ps_fld (pv 0) (pe_op op_catF (pe_callTy call_tuple_ofF (by rfl) T.ztuple (by decide +kernel) (pa_cons (pe_slice sl_list (pv 1) (po_some (pv 2)) po_none) pa_nil)) (pe_callTy call_tuple_ofF (by rfl) T.ztuple (by decide +kernel) (pa_cons (pe_slice sl_list (pv 1) po_none (po_some (pv 2))) pa_nil))) rfl)
    (pss_cons (ps_fld (pv 0) (pe_op op_fdiv (pe_callB call_len_seq (by rfl) T.zlen (by decide +kernel) (pa_cons (pv 1) pa_nil)) pe_int) rfl)
    (pss_one (ps_fld (pv 0) (pe_callTy call_tuple_ofF (by rfl) T.ztuple (by decide +kernel) (pa_cons (pe_lc (own := [("end", 3)]) (g := gName 3) rfl nd (pi_range1 rfl T.zrange (pa_cons (pe_callB call_len_seq (by rfl) T.zlen (by decide +kernel) (pa_cons (pv 1) pa_nil)) pa_nil)) (blkOk_by (own := [("end", 3)]) (N := N_Skin_init) (sc := defScope s_Skin_init) (by decide +kernel)) (fun _ _ _ _ _ => pg_name (i := 3) nd rfl (Or.inl rfl)) (fun _ _ _ _ _ => pts_nil) (fun _ _ _ _ _ => (pe_bmFK (K := K) rfl PySem.F.plainAttrs_tuple PySem.F.slot_tuple_index PySem.F.type_tuple_index (mt_tup_indexIK (K := K) rfl) (pe_fldK (K := K) rfl (pv 0) rfl) (pa_cons (pv 3) pa_nil)))) pa_nil)) rfl)))))), ?_⟩
        refine ⟨_, rfl, .ref t, true, rfl, .lst ht (by rw [List.length_map]; omega) (ints_ty row) (by simp only [true_iff]; exact ⟨n, row, n1, n6, rfl, pm⟩), fun H1 s1 => ⟨_, rfl, iteF ?_⟩⟩
        have ht1 := sqL_ext (.of s1) ht
        have hp1 := s1 _ _ hp
        have h0 : (0 : Int) ∈ row := (perm_mem pm).mpr (by omega)
        obtain ⟨i0, i1⟩ := idx_at h0
        have hst : row.idxOf 0 < row.length := List.idxOf_lt_length_of_mem h0
        refine ⟨_, rfl, .inl ⟨rfl, _, ht1⟩, t, row.map V.int, .int 0, row.idxOf 0, .int 0, rfl, rfl, ht1, rfl, flat_ints row, ints_get i0, by decide, no_ahead i1, ?_⟩
        generalize hs0 : row.idxOf 0 = st at i0 hst
        clear i1
        refine row_turnedL (K := K) (i := 1) (j := 2) rfl rfl ht1 hst (by omega) (fun r H4 s4 fr => ?_)
        generalize hrow : row.drop st ++ row.take st = row2 at fr
        have pm2 : row2.Perm (rgI (2 * n)) := by rw [← hrow]; exact (turn_perm row st).trans pm
        have hlen2 : row2.length = 2 * n := perm_len pm2
        have hp4 : H4 p = some (.ins T.Skin.C dx []) := s4 _ _ hp1
        refine ⟨_, rfl, p, T.Skin.C, dx, [], rfl, hp4, T.Skin.c, nRow T, (by show 0 < 1000; decide), ?_⟩
        have hp5 : (upd H4 p (.ins T.Skin.C dx (putF "row" (.ref r) []))) p = some (.ins T.Skin.C dx [("row", .ref r)]) := upd_same
        have fr5 : FzT (upd H4 p (.ins T.Skin.C dx (putF "row" (.ref r) []))) r (row2.map V.int) := FzT.ne fr hp4 (fun _ _ z => nomatch z)
        have ft5 : SqL K (upd H4 p (.ins T.Skin.C dx (putF "row" (.ref r) []))) t (row.map V.int) := sqL_ne (sqL_ext (.of s4) ht1) hp4 (fun _ z => nomatch z) (fun _ _ z => nomatch z)
        have k5 : ∀ b o, H b = some o → b ≠ p → (upd H4 p (.ins T.Skin.C dx (putF "row" (.ref r) []))) b = some o := fun b o hb nb => by
          rw [upd_ne nb]
          exact s4 _ _ (s1 _ _ hb)
        generalize upd H4 p (.ins T.Skin.C dx (putF "row" (.ref r) [])) = H5 at hp5 fr5 ft5 k5
        refine ⟨_, rfl, t, _, rfl, .inl ft5, _, _, rfl, rfl, ⟨by decide, by decide⟩, ?_⟩
        refine ⟨_, rfl, p, T.Skin.C, dx, _, rfl, hp5, T.Skin.c, nBands T, (by show 1 < 1000; decide), ?_⟩
        have ebands : ((row.map V.int).length : Int) / 2 = ((row2.length / 2 : Nat) : Int) := by
          rw [List.length_map, hlen2, hlen]
          rfl
        have eV : ((fun (i j : Int) => V.int (i / j)) ((row.map V.int).length : Int) 2) = V.int ((row2.length / 2 : Nat) : Int) := congrArg V.int ebands
        rw [eV]
        have hp6 : (upd H5 p (.ins T.Skin.C dx (putF "bands" (.int ((row2.length / 2 : Nat) : Int)) [("row", .ref r)]))) p = some (.ins T.Skin.C dx [("row", .ref r), ("bands", .int ((row2.length / 2 : Nat) : Int))]) := upd_same
        have fr6 : FzT (upd H5 p (.ins T.Skin.C dx (putF "bands" (.int ((row2.length / 2 : Nat) : Int)) [("row", .ref r)]))) r (row2.map V.int) := FzT.ne fr5 hp5 (fun _ _ z => nomatch z)
        have ft6 : SqL K (upd H5 p (.ins T.Skin.C dx (putF "bands" (.int ((row2.length / 2 : Nat) : Int)) [("row", .ref r)]))) t (row.map V.int) := sqL_ne ft5 hp5 (fun _ z => nomatch z) (fun _ _ z => nomatch z)
        have k6 : ∀ b o, H b = some o → b ≠ p → (upd H5 p (.ins T.Skin.C dx (putF "bands" (.int ((row2.length / 2 : Nat) : Int)) [("row", .ref r)]))) b = some o := fun b o hb nb => by
          rw [upd_ne nb]
          exact k5 b o hb nb
        generalize upd H5 p (.ins T.Skin.C dx (putF "bands" (.int ((row2.length / 2 : Nat) : Int)) [("row", .ref r)])) = H6 at hp6 fr6 ft6 k6
        refine ⟨_, rfl, t, _, rfl, .inl ft6, _, rfl, by omega, by rw [List.length_map]; omega, fun D1 hD1 => ?_⟩
        refine lc_range (lo := 0) (n := ((row.map V.int).length : Int).toNat) (fun i H' => H' D1 = some (.lst (((places row2).take i).map V.int)) ∧ Same H6 H')
          ⟨upd_same, same_new hD1⟩ ?_ ?_
        · rintro i H' hi ⟨h1, s2⟩
          have hi2 : i < row2.length := by rw [List.length_map, hlen] at hi; omega
          have hm : (i : Int) ∈ row2 := (perm_mem pm2).mpr (by omega)
          obtain ⟨j0, j1⟩ := idx_at hm
          refine ⟨rfl, yes_t ?_⟩
          refine ⟨_, rfl, p, _, _, _, _, rfl, s2 _ _ hp6, T.Skin.c, nRow T, rfl, .inr ⟨rfl, r, _, rfl, FzT.same fr6 s2⟩, ?_⟩
          refine ⟨_, rfl, r, row2, i, _, rfl, by rw [Int.zero_add], (FzT.same fr6 s2).sq, j0, j1, ?_⟩
          refine ⟨_, h1, ?_, ?_⟩
          · rw [List.length_map, List.length_take]
            exact small1000 (by omega)
          · refine ⟨?_, fun b o hb => ?_⟩
            · rw [upd_same, List.take_add_one, place_at hi2, List.map_append]
              rfl
            · rw [upd_ne (ne_of_none hb hD1)]
              exact s2 b o hb
        · rintro H' ⟨h1, s2⟩
          have e2 : (places row2).take ((row.map V.int).length : Int).toNat = places row2 := by
            refine List.take_of_length_le ?_
            unfold places
            rw [List.length_map, List.length_map, List.length_range]
            omega
          rw [e2] at h1
          refine ⟨D1, _, rfl, .inl ⟨SqL.of h1, fun q ob hq hob => ?_⟩⟩
          have s3 : Same H6 (upd H' q (.frz ob (.tup ((places row2).map V.int)))) := s2.trans (same_new hq)
          have fq : FzT (upd H' q (.frz ob (.tup ((places row2).map V.int)))) q ((places row2).map V.int) := FzT.new hob
          generalize upd H' q (.frz ob (.tup ((places row2).map V.int))) = H7 at s3 fq
          refine ⟨_, rfl, p, T.Skin.C, dx, _, rfl, s3 _ _ hp6, T.Skin.c, nPlaces T, (by show 2 < 1000; decide), ?_⟩
          refine k _ ?_ (fun b o hb nb => ?_)
          · rw [show trn row = row2 by unfold trn; rw [hs0]; exact hrow]
            exact ⟨dx, r, q, upd_same, FzT.ne (FzT.same fr6 s3) (s3 _ _ hp6) (fun _ _ z => nomatch z), FzT.ne fq (s3 _ _ hp6) (fun _ _ z => nomatch z)⟩
          · rw [upd_ne nb]
            exact s3 _ _ (k6 b o hb nb)
      · refine ⟨_, (pss_cons (ps_if (pt_not (pt_val (pe_call (ok_is_row T) (hr.mono (by decide)) (by rfl) T.is_row.g T.is_row.k T.is_row.b .nil pass0 (pa_cons (pv 1) pa_nil))))
      (pss_one (ps_raise rfl (takes_of rfl rfl rfl rfl) (pmk_oex T.BadSkin.o T.BadSkin.i T.BadSkin.t (ok_BadSkin_init T) (hr.mono (by decide)) T.BadSkin.b .nil pass0 (by rfl) T.BadSkin.g (pa_cons pe_str pa_nil))))
      pss_nil)
    (pss_cons (ps_set (i := 2) nd rfl (Or.inl rfl) (pe_bmF PySem.F.plainAttrs_tuple PySem.F.slot_tuple_index PySem.F.type_tuple_index mt_tup_indexI (pv 1) (pa_cons pe_int pa_nil)))
    (pss_cons (ps_fld (pv 0) (pe_op op_catF (pe_callTy call_tuple_ofF (by rfl) T.ztuple (by decide +kernel) (pa_cons (pe_slice sl_tupA (pv 1) (po_some (pv 2)) po_none) pa_nil)) (pe_callTy call_tuple_ofF (by rfl) T.ztuple (by decide +kernel) (pa_cons (pe_slice sl_tupA (pv 1) po_none (po_some (pv 2))) pa_nil))) rfl)
    (pss_cons (ps_fld (pv 0) (pe_op op_fdiv (pe_callB call_len_seq (by rfl) T.zlen (by decide +kernel) (pa_cons (pv 1) pa_nil)) pe_int) rfl)
    (pss_one (ps_fld (pv 0) (pe_callTy call_tuple_ofF (by rfl) T.ztuple (by decide +kernel) (pa_cons (pe_lc (own := [("end", 3)]) (g := gName 3) rfl nd (pi_range1 rfl T.zrange (pa_cons (pe_callB call_len_seq (by rfl) T.zlen (by decide +kernel) (pa_cons (pv 1) pa_nil)) pa_nil)) (blkOk_by (own := [("end", 3)]) (N := N_Skin_init) (sc := defScope s_Skin_init) (by decide +kernel)) (fun _ _ _ _ _ => pg_name (i := 3) nd rfl (Or.inl rfl)) (fun _ _ _ _ _ => pts_nil) (fun _ _ _ _ _ => (pe_bmFK (K := K) rfl PySem.F.plainAttrs_tuple PySem.F.slot_tuple_index PySem.F.type_tuple_index (mt_tup_indexIK (K := K) rfl) (pe_fldK (K := K) rfl (pv 0) rfl) (pa_cons (pv 3) pa_nil)))) pa_nil)) rfl)))))), ?_⟩
        refine ⟨_, rfl, .ref t, true, rfl, .tup ht.sq (by rw [List.length_map]; omega) (ints_ty row) (by simp only [true_iff]; exact ⟨n, row, n1, n6, rfl, pm⟩), fun H1 s1 => ⟨_, rfl, iteF ?_⟩⟩
        have ht1 := FzT.same ht s1
        have hp1 := s1 _ _ hp
        have h0 : (0 : Int) ∈ row := (perm_mem pm).mpr (by omega)
        obtain ⟨i0, i1⟩ := idx_at h0
        have hst : row.idxOf 0 < row.length := List.idxOf_lt_length_of_mem h0
        refine ⟨_, rfl, .inr ⟨rfl, t, _, rfl, ht1⟩, t, row, 0, row.idxOf 0, rfl, rfl, ht1.sq, i0, i1, ?_⟩
        generalize hs0 : row.idxOf 0 = st at i0 hst
        clear i1
        refine row_turned (K := K) (i := 1) (j := 2) rfl rfl ht1 hst (by omega) (fun r H4 s4 fr => ?_)
        generalize hrow : row.drop st ++ row.take st = row2 at fr
        have pm2 : row2.Perm (rgI (2 * n)) := by rw [← hrow]; exact (turn_perm row st).trans pm
        have hlen2 : row2.length = 2 * n := perm_len pm2
        have hp4 : H4 p = some (.ins T.Skin.C dx []) := s4 _ _ hp1
        refine ⟨_, rfl, p, T.Skin.C, dx, [], rfl, hp4, T.Skin.c, nRow T, (by show 0 < 1000; decide), ?_⟩
        have hp5 : (upd H4 p (.ins T.Skin.C dx (putF "row" (.ref r) []))) p = some (.ins T.Skin.C dx [("row", .ref r)]) := upd_same
        have fr5 : FzT (upd H4 p (.ins T.Skin.C dx (putF "row" (.ref r) []))) r (row2.map V.int) := FzT.ne fr hp4 (fun _ _ z => nomatch z)
        have ft5 : FzT (upd H4 p (.ins T.Skin.C dx (putF "row" (.ref r) []))) t (row.map V.int) := FzT.ne (FzT.same ht1 s4) hp4 (fun _ _ z => nomatch z)
        have k5 : ∀ b o, H b = some o → b ≠ p → (upd H4 p (.ins T.Skin.C dx (putF "row" (.ref r) []))) b = some o := fun b o hb nb => by
          rw [upd_ne nb]
          exact s4 _ _ (s1 _ _ hb)
        generalize upd H4 p (.ins T.Skin.C dx (putF "row" (.ref r) [])) = H5 at hp5 fr5 ft5 k5
        refine ⟨_, rfl, t, _, rfl, .inr ft5.sq, _, _, rfl, rfl, ⟨by decide, by decide⟩, ?_⟩
        refine ⟨_, rfl, p, T.Skin.C, dx, _, rfl, hp5, T.Skin.c, nBands T, (by show 1 < 1000; decide), ?_⟩
        have ebands : ((row.map V.int).length : Int) / 2 = ((row2.length / 2 : Nat) : Int) := by
          rw [List.length_map, hlen2, hlen]
          rfl
        have eV : ((fun (i j : Int) => V.int (i / j)) ((row.map V.int).length : Int) 2) = V.int ((row2.length / 2 : Nat) : Int) := congrArg V.int ebands
        rw [eV]
        have hp6 : (upd H5 p (.ins T.Skin.C dx (putF "bands" (.int ((row2.length / 2 : Nat) : Int)) [("row", .ref r)]))) p = some (.ins T.Skin.C dx [("row", .ref r), ("bands", .int ((row2.length / 2 : Nat) : Int))]) := upd_same
        have fr6 : FzT (upd H5 p (.ins T.Skin.C dx (putF "bands" (.int ((row2.length / 2 : Nat) : Int)) [("row", .ref r)]))) r (row2.map V.int) := FzT.ne fr5 hp5 (fun _ _ z => nomatch z)
        have ft6 : FzT (upd H5 p (.ins T.Skin.C dx (putF "bands" (.int ((row2.length / 2 : Nat) : Int)) [("row", .ref r)]))) t (row.map V.int) := FzT.ne ft5 hp5 (fun _ _ z => nomatch z)
        have k6 : ∀ b o, H b = some o → b ≠ p → (upd H5 p (.ins T.Skin.C dx (putF "bands" (.int ((row2.length / 2 : Nat) : Int)) [("row", .ref r)]))) b = some o := fun b o hb nb => by
          rw [upd_ne nb]
          exact k5 b o hb nb
        generalize upd H5 p (.ins T.Skin.C dx (putF "bands" (.int ((row2.length / 2 : Nat) : Int)) [("row", .ref r)])) = H6 at hp6 fr6 ft6 k6
        refine ⟨_, rfl, t, _, rfl, .inr ft6.sq, _, rfl, by omega, by rw [List.length_map]; omega, fun D1 hD1 => ?_⟩
        refine lc_range (lo := 0) (n := ((row.map V.int).length : Int).toNat) (fun i H' => H' D1 = some (.lst (((places row2).take i).map V.int)) ∧ Same H6 H')
          ⟨upd_same, same_new hD1⟩ ?_ ?_
        · rintro i H' hi ⟨h1, s2⟩
          have hi2 : i < row2.length := by rw [List.length_map, hlen] at hi; omega
          have hm : (i : Int) ∈ row2 := (perm_mem pm2).mpr (by omega)
          obtain ⟨j0, j1⟩ := idx_at hm
          refine ⟨rfl, yes_t ?_⟩
          refine ⟨_, rfl, p, _, _, _, _, rfl, s2 _ _ hp6, T.Skin.c, nRow T, rfl, .inr ⟨rfl, r, _, rfl, FzT.same fr6 s2⟩, ?_⟩
          refine ⟨_, rfl, r, row2, i, _, rfl, by rw [Int.zero_add], (FzT.same fr6 s2).sq, j0, j1, ?_⟩
          refine ⟨_, h1, ?_, ?_⟩
          · rw [List.length_map, List.length_take]
            exact small1000 (by omega)
          · refine ⟨?_, fun b o hb => ?_⟩
            · rw [upd_same, List.take_add_one, place_at hi2, List.map_append]
              rfl
            · rw [upd_ne (ne_of_none hb hD1)]
              exact s2 b o hb
        · rintro H' ⟨h1, s2⟩
          have e2 : (places row2).take ((row.map V.int).length : Int).toNat = places row2 := by
            refine List.take_of_length_le ?_
            unfold places
            rw [List.length_map, List.length_map, List.length_range]
            omega
          rw [e2] at h1
          refine ⟨D1, _, rfl, .inl ⟨SqL.of h1, fun q ob hq hob => ?_⟩⟩
          have s3 : Same H6 (upd H' q (.frz ob (.tup ((places row2).map V.int)))) := s2.trans (same_new hq)
          have fq : FzT (upd H' q (.frz ob (.tup ((places row2).map V.int)))) q ((places row2).map V.int) := FzT.new hob
          generalize upd H' q (.frz ob (.tup ((places row2).map V.int))) = H7 at s3 fq
          refine ⟨_, rfl, p, T.Skin.C, dx, _, rfl, s3 _ _ hp6, T.Skin.c, nPlaces T, (by show 2 < 1000; decide), ?_⟩
          refine k _ ?_ (fun b o hb nb => ?_)
          · rw [show trn row = row2 by unfold trn; rw [hs0]; exact hrow]
            exact ⟨dx, r, q, upd_same, FzT.ne (FzT.same fr6 s3) (s3 _ _ hp6) (fun _ _ z => nomatch z), FzT.ne fq (s3 _ _ hp6) (fun _ _ z => nomatch z)⟩
          · rw [upd_ne nb]
            exact s3 _ _ (k6 b o hb nb)
end
end Tt
set_option maxRecDepth 100000
set_option maxHeartbeats 4000000
namespace Tt
open PySem L2
open LamX (ExtN)
section
variable {P : Program} {w : World} {K : PySem.W.Frag} {mg : Str → Option Value} {base : Heap}
theorem call_isAK {X : Cx} (h : X.K = K) : CallR X (.builtin "isinstance") (rIsA K) := by subst h; exact call_isA
theorem TyB.x {H : Hp} {x : V} {S : String} (t : TyB K H x S) : TyX K H x (.type S) := by
  cases t with
  | non => exact .base .non
  | bl b => exact .base (.bl b)
  | int i => exact .base (.int i)
  | str x => exact .base (.str x)
  | byt b => exact .byt b
  | lst h =>
    rcases h with (h | ⟨o, h⟩) | ⟨o, its, n, h1, h2, _⟩
    · exact .base (.lst h)
    · exact .base (.frz h)
    · exact .kList h1 h2
  | tup h =>
    rcases h with (h | ⟨o, h⟩) | ⟨o, its, n, h1, h2, _⟩
    · exact .base (.tup h)
    · exact .fTuple h
    · exact .kTuple h1 h2
  | dK h => exact .base (.dK h)
theorem kit_self (S : String) : PySem.W.kitOne K (.type S) (.type S) = some true := by
  unfold PySem.W.kitOne
  rw [if_pos (by simp)]
def spExN (T : Txt K mg) : Sp := fun vs H Q _ => ∃ (a : Addr) (v : V), vs = [.ref a, v] ∧ H a = some (exo a T.BadNumber.C none) ∧
  ∀ dx, H dx = none → dx ≠ a → Q .non (upd (upd H dx (exd dx [("part", v)])) a (exo a T.BadNumber.C (some dx)))
theorem ok_BadNumber_init (T : Txt K mg) : FnOk P w K mg base CX0 1 T.BadNumber.fI T.BadNumber.fd ["self", "part"] (spExN T) := by
  refine T.BadNumber.F.ok sc_BadNumber_init (fun vs H Q E h => ?_) (fun cdv A outer s H vs Q E hr h => ?_)
  · obtain ⟨a, v, rfl, _⟩ := h
    rfl
  · obtain ⟨a, v, rfl, ha, k⟩ := h
    refine ⟨_, (pss_one (ps_ost (pv 0) (pv 1))), ?_⟩
    exact ⟨v, rfl, _, rfl, a, T.BadNumber.C, rfl, T.BadNumber.o, T.BadNumber.n, .inl ⟨ha, fun dx n ne => k dx n ne⟩⟩
def NumErr (T : Txt K mg) (part : Str) (H : Hp) (E : XK) : Prop := ∀ d H', Same H H' → H' d = some (.xd [("part", .str part)]) → E (.ref T.BadNumber.C) (some d) H'
def spNumError (T : Txt K mg) : Sp := fun vs H Q _ => ∃ (a d : Addr), vs = [.ref a, .str "end"] ∧ H a = some (exh (.ref T.BadNumber.C) (some d) a) ∧ H d = some (.xd [("part", .str "end")]) ∧ Q (.bl true) H
theorem ok_l_number_error (T : Txt K mg) : FnOk P w K mg base CX0 1 T.l_number_error.a T.l_number_error.fd ["error", "part"] (spNumError T) := by
  refine T.l_number_error.F.ok sc_l_number_error (fun vs H Q E h => ?_) (fun cdv A outer s H vs Q E hr h => ?_)
  · obtain ⟨a, d, rfl, _⟩ := h
    rfl
  · obtain ⟨a, d, rfl, h1, h2, k⟩ := h
    refine ⟨_, (pss_one (ps_ret (pe_and (pe_callB call_isA (by rfl) T.zisinstance (by decide +kernel) (pa_cons (pv 0) (pa_cons (pe_glob (v := .ref T.BadNumber.C) rfl T.BadNumber.g rfl) pa_nil))) (pe_one (pe_cmpR op_eq (pe_callB call_showS (by rfl) T.zrepr (by decide +kernel) (pa_cons (pe_xfH (pv 0)) pa_nil)) (pe_callB call_showS (by rfl) T.zrepr (by decide +kernel) (pa_cons (pv 1) pa_nil)) (nomark _)))))), ?_⟩
    have hz : (reprText "end").length ≤ sizeLine := by decide +kernel
    refine ⟨_, rfl, .inl ⟨a, T.BadNumber.C, some d, _, _, true, rfl, h1, .inr ⟨d, _, rfl, h2⟩, T.BadNumber.ec, .own T.BadNumber.C, T.kNN, _, rfl, iteT ?_⟩⟩
    refine ⟨_, rfl, a, T.BadNumber.C, d, _, .str "end", rfl, h1, h2, T.BadNumber.xf, T.BadNumber.n, rfl, "end", rfl, hz, ?_⟩
    refine ⟨_, rfl, "end", rfl, hz, rfl, ?_⟩
    rw [show decide (V.str (reprText "end") = V.str (reprText "end")) = true from decide_eq_true rfl]
    exact k
theorem ixN_n {n j : Nat} (h : j < n) : ixN n (j : Int) = some j := by
  unfold ixN
  rw [if_pos (by omega), if_pos (by omega)]
  simp
theorem atI_n {xs : List V} {j : Nat} {v : V} (h : xs[j]? = some v) : atI xs (j : Int) = some v := by
  have hl := (List.getElem?_eq_some_iff.mp h).1
  unfold atI
  rw [ixN_n hl]
  exact h
def nxt (row : List Int) (e : Int) : Int := row.getD ((row.idxOf e + 1) % row.length) 0
theorem nxt_at {row : List Int} {e : Int} (h : row ≠ []) : row[(row.idxOf e + 1) % row.length]? = some (nxt row e) := by
  have hl : (row.idxOf e + 1) % row.length < row.length := Nat.mod_lt _ (List.length_pos_iff.mpr h)
  unfold nxt
  rw [List.getD_eq_getElem?_getD, List.getElem?_eq_getElem hl]
  rfl
theorem skF_places (r q : Addr) (n : Int) : (skF r q n).lookup ("places" : Str) = some (V.ref q) := rfl
def spBehind (T : Txt K mg) : Sp := fun vs H Q _ => ∃ (p : Addr) (row : List Int) (n : Nat) (e : Int), vs = [.ref p, .int e, .int 1] ∧ SkAt T H p row ∧ n ≤ 6 ∧ row.Perm (rgI (2 * n)) ∧ 0 ≤ e ∧ e < 2 * n ∧ Q (.int (nxt row e)) H
theorem ok_end_behind (T : Txt K mg) : FnOk P w K mg base CX0 1 T.end_behind.a T.end_behind.fd ["skin", "end", "steps"] (spBehind T) := by
  refine T.end_behind.F.ok sc_end_behind (fun vs H Q E h => ?_) (fun cdv A outer s H vs Q E hr h => ?_)
  · obtain ⟨p, row, n, e, rfl, _⟩ := h
    rfl
  · obtain ⟨p, row, n, e, rfl, ⟨dx, r, q, a1, a2, a3⟩, n6, pm, e0, e1, k⟩ := h
    obtain ⟨j, rfl⟩ := Int.eq_ofNat_of_zero_le e0
    have hlen := perm_len pm
    have hne : row ≠ [] := fun z => by rw [z] at hlen; simp at hlen; omega
    have hj : j < row.length := by omega
    refine ⟨_, (pss_one (ps_ret (pe_ix ix_tup (pe_fld (pv 0) rfl) (pe_op op_mod (pe_op op_add (pe_ix ix_tup (pe_fld (pv 0) rfl) (pv 1) (fun _ _ => rfl)) (pv 2)) (pe_callB call_len_seq (by rfl) T.zlen (by decide +kernel) (pa_cons (pe_fld (pv 0) rfl) pa_nil))) (fun _ _ => rfl)))), ?_⟩
    refine ⟨_, rfl, p, T.Skin.C, dx, _, _, rfl, a1, T.Skin.c, nRow T, skF_row .., ?_⟩
    refine ⟨_, rfl, p, T.Skin.C, dx, _, _, rfl, a1, T.Skin.c, nPlaces T, skF_places .., _, rfl, q, _, _, _, rfl, rfl, a3.sq, atI_n (ints_get (place_at hj)), ?_⟩
    refine ⟨_, rfl, _, _, rfl, rfl, ?_⟩
    refine ⟨_, rfl, p, T.Skin.C, dx, _, _, rfl, a1, T.Skin.c, nRow T, skF_row .., r, _, rfl, .inr a2.sq, ?_⟩
    refine ⟨_, _, rfl, rfl, by rw [List.length_map]; omega, ?_⟩
    refine ⟨r, _, _, _, rfl, rfl, a2.sq, (by rw [List.length_map]; exact atI_n (j := (row.idxOf (j : Int) + 1) % row.length) (v := .int (nxt row (j : Int))) (ints_get (nxt_at hne))), k⟩
def spNext (T : Txt K mg) : Sp := fun vs H Q E => ∃ (v x : V), vs = [v, x] ∧ ((SkV T H v false ∧ SkErr T H E) ∨ ∃ (p : Addr) (row : List Int) (n : Nat) (S : String), v = .ref p ∧ SkAt T H p row ∧ 1 ≤ n ∧ n ≤ 6 ∧ row.Perm (rgI (2 * n)) ∧ TyB K H x S ∧
  ((inB 0 (hiE row) x = false ∧ NumErr T "end" H E) ∨ ∃ e : Int, x = .int e ∧ 0 ≤ e ∧ e < 2 * n ∧ Q (.int (nxt row e)) H))
theorem ok_next_end (T : Txt K mg) : FnOk P w K mg base (L2.CX P w) 4 T.next_end.a T.next_end.fd ["skin", "end"] (spNext T) := by
  refine T.next_end.F.okX sc_next_end (fun vs H Q E h => ?_) (fun cdv A outer s H vs Q E hr h => ?_)
  · obtain ⟨v, x, rfl, _⟩ := h
    rfl
  · obtain ⟨v, x, rfl, h⟩ := h
    refine ⟨_, (pss_cons (ps_expr (pe_callS (ok_check_skin T) (hr.mono (by decide)) (by rfl) T.check_skin.g T.check_skin.k T.check_skin.b (fun σ => passAt (takes_of rfl rfl rfl rfl) σ) (pa_cons (pv 0) pa_nil)))
    (pss_cons (ps_if (pt_not (pt_val (pe_call (ok_is_end T) (hr.mono (by decide)) (by rfl) T.is_end.g T.is_end.k T.is_end.b .nil pass0 (pa_cons (pv 0) (pa_cons (pv 1) pa_nil)))))
      (pss_one (ps_raise rfl (takes_of rfl rfl rfl rfl) (pmk_oex T.BadNumber.o T.BadNumber.i T.BadNumber.t (ok_BadNumber_init T) (hr.mono (by decide)) T.BadNumber.b .nil pass0 (by rfl) T.BadNumber.g (pa_cons pe_str pa_nil))))
      pss_nil)
    (pss_one (ps_ret (pe_call (ok_end_behind T) (hr.mono (by decide)) (by rfl) T.end_behind.g T.end_behind.k T.end_behind.b .nil pass0 (pa_cons (pv 0) (pa_cons (pv 1) (pa_cons pe_int pa_nil)))))))), ?_⟩
    rcases h with ⟨hv, he⟩ | ⟨p, row, n, S, rfl, sk, n1, n6, pm, ty, h⟩
    · exact ⟨v, rfl, v, false, rfl, hv, (fun z => nomatch z), fun _ => he⟩
    · have hlen := perm_len pm
      have eh : hiE row = 2 * n - 1 := by unfold hiE; omega
      refine ⟨_, rfl, _, true, rfl, sk.v, (fun _ => ?_), fun z => nomatch z⟩
      refine ⟨_, rfl, _, rfl, p, row, x, S, rfl, sk, by omega, ty, _, rfl, ?_⟩
      rcases h with ⟨hb, he⟩ | ⟨e, rfl, e0, e1, k⟩
      · rw [hb]
        refine iteT ⟨(by show 1 ≤ 1000; decide), fun a ha => ?_⟩
        refine ⟨a, .str "end", rfl, upd_same, fun dx ndx ne => ⟨rfl, dx, ([("part", V.str "end")] : List (Str × V)), upd_same, ?_, ?_, ?_⟩⟩
        · rw [upd_ne ne, upd_same]
        · rw [upd_ne ne] at ndx
          exact ndx
        · have ndx' : H dx = none := by rw [upd_ne ne] at ndx; exact ndx
          refine he dx _ (fun b o hb => ?_) upd_same
          have nb : b ≠ a := ne_of_none hb ha
          have nb2 : b ≠ dx := ne_of_none hb ndx'
          rw [upd_ne nb2, del_ne nb, upd_ne nb, upd_ne nb2, upd_ne nb]
          exact hb
      · have hb : inB 0 (hiE row) (.int e) = true := by
          show (decide (0 ≤ e) && decide (e ≤ hiE row)) = true
          rw [decide_eq_true e0, decide_eq_true (by omega)]
          rfl
        rw [hb]
        refine iteF ?_
        exact ⟨_, rfl, _, rfl, p, row, n, e, rfl, sk, n6, pm, e0, e1, k⟩
theorem eqv_tups : ∀ a b : List Int, PyData.eqv (.tuple (a.map PyData.int)) (.tuple (b.map PyData.int)) = decide (a = b)
  | [], [] => rfl
  | [], _ :: _ => by simp [PyData.eqv] <;> rfl
  | _ :: _, [] => by simp [PyData.eqv] <;> rfl
  | x :: a, y :: b => by
    have h := eqv_tups a b
    simp [PyData.eqv, PyData.eqvAll] at h ⊢
    rw [h]
    rfl
theorem shapedTup (a : List Int) : SeqAt.shaped (.tuple (a.map PyData.int)) = true := shapedAll_ints a
inductive EqV (T : Txt K mg) (row : List Int) (H : Hp) : V → Bool → Prop where
  | skin {q : Addr} {row2 : List Int} (h : SkAt T H q row2) : EqV T row H (.ref q) (decide (row = row2))
  | int (i : Int) : EqV T row H (.int i) false
  | lst {q : Addr} {xs : List V} (h : SqL K H q xs) : EqV T row H (.ref q) false
  | tup {q : Addr} {xs : List V} (h : SqT K H q xs) : EqV T row H (.ref q) false
theorem EqV.y {T : Txt K mg} {row : List Int} {H : Hp} {y : V} {b : Bool} (h : EqV T row H y b) : EqY K H T.Skin.C y := by
  cases h with
  | skin h =>
    obtain ⟨dx, r, q, h1, _⟩ := h
    exact .ins h1
  | int i => exact .int i
  | lst h => exact .lst h
  | tup h => exact .tup h
def spEqS (T : Txt K mg) : Sp := fun vs H Q _ => ∃ (p : Addr) (row : List Int) (y : V) (b : Bool), vs = [.ref p, y] ∧ SkAt T H p row ∧ EqV T row H y b ∧ Q (.bl b) H
theorem ok_Skin_eq (T : Txt K mg) : FnOk P w K mg base CX0 1 T.eqM.a T.eqM.fd ["self", "other"] (spEqS T) := by
  refine T.eqM.F.ok sc_Skin_eq (fun vs H Q E h => ?_) (fun cdv A outer s H vs Q E hr h => ?_)
  · obtain ⟨p, row, y, b, rfl, _⟩ := h
    rfl
  · obtain ⟨p, row, y, b, rfl, sk, hy, k⟩ := h
    refine ⟨_, (pss_one (ps_ret (pe_and (pe_callB call_isA (by rfl) T.zisinstance (by decide +kernel) (pa_cons (pv 1) (pa_cons (pe_glob (v := .ref T.Skin.C) rfl T.Skin.g rfl) pa_nil))) (pe_one (pe_cmpR (op_eqD hr.units) (pe_fld (pv 0) rfl) (pe_fld (pv 1) rfl) (nomark _)))))), ?_⟩
    cases hy with
    | @skin q row2 h =>
      obtain ⟨t, ht, hk⟩ := (SkAt.v h).isi
      obtain ⟨dx, r, q1, a1, a2, a3⟩ := sk
      obtain ⟨dx', r', q1', b1, b2, b3⟩ := h
      refine ⟨_, rfl, .inr ⟨_, _, t, _, true, rfl, .own T.Skin.C, ht, hk, _, rfl, iteT ?_⟩⟩
      refine ⟨_, rfl, p, T.Skin.C, dx, _, _, rfl, a1, T.Skin.c, nRow T, skF_row .., _, rfl, q, T.Skin.C, dx', _, _, rfl, b1, T.Skin.c, nRow T, skF_row .., ?_⟩
      refine ⟨_, _, .tup a2.sq (dpAll_ints _ _), .tup b2.sq (dpAll_ints _ _), shapedTup _, shapedTup _, ?_⟩
      rw [eqv_tups]
      exact k
    | int i => exact ⟨_, rfl, .inr ⟨_, _, _, _, false, rfl, .own T.Skin.C, Tt.TyB.x (K := K) (H := H) (.int i), T.kSI, _, rfl, iteF k⟩⟩
    | lst h => exact ⟨_, rfl, .inr ⟨_, _, _, _, false, rfl, .own T.Skin.C, Tt.TyB.x (K := K) (H := H) (.lst h), T.kSL, _, rfl, iteF k⟩⟩
    | tup h => exact ⟨_, rfl, .inr ⟨_, _, _, _, false, rfl, .own T.Skin.C, Tt.TyB.x (K := K) (H := H) (.tup h), T.kST, _, rfl, iteF k⟩⟩
end
end Tt
set_option maxRecDepth 100000
set_option maxHeartbeats 4000000
namespace Tt
open PySem L2
open LamX (ExtN)
section
variable {P : Program} {w : World} {K : PySem.W.Frag} {mg : Str → Option Value} {base : Heap}
theorem kit_first {t a b : Value} (h : PySem.W.kitOne K t a = some true) : PySem.W.kitAny K t [a, b] = some true := by
  simp [PySem.W.kitAny, h]
theorem kit_second {t a b : Value} {c : Bool} (h : PySem.W.kitOne K t a = some false) (h2 : PySem.W.kitOne K t b = some c) : PySem.W.kitAny K t [a, b] = some c := by
  cases c <;> simp [PySem.W.kitAny, h, h2]
def spTrn (K : PySem.W.Frag) : Sp := fun vs H Q _ => ∃ (t : Addr) (row : List Int), vs = [.ref t] ∧ (SqL K H t (row.map V.int) ∨ FzT H t (row.map V.int)) ∧ (0 : Int) ∈ row ∧ row.length ≤ 12 ∧
  ∀ r H', Same H H' → FzT H' r ((trn row).map V.int) → Q (.ref r) H'
theorem ok_l_turned (T : Txt K mg) : FnOk P w K mg base CX0 1 T.l_turned.a T.l_turned.fd ["line"] (spTrn K) := by
  refine T.l_turned.F.ok sc_l_turned (fun vs H Q E h => ?_) (fun cdv A outer s H vs Q E hr h => ?_)
  · obtain ⟨t, row, rfl, _⟩ := h
    rfl
  · obtain ⟨t, row, rfl, ht, h0, hl, k⟩ := h
    have nd := sc_l_turned.nd
    obtain ⟨i0, i1⟩ := idx_at h0
    have hst : row.idxOf 0 < row.length := List.idxOf_lt_length_of_mem h0
    rcases ht with ht | ht
    · refine ⟨_, (pss_cons (ps_set (i := 1) nd rfl (Or.inl rfl) (pe_bm PySem.F.plainAttrs_list PySem.F.slot_list_index PySem.F.type_list_index mt_index (pe_callTy call_list_of (by rfl) T.zlist (by decide +kernel) (pa_cons (pv 0) pa_nil)) (pa_cons pe_int pa_nil)))
    (pss_one (ps_ret (pe_op op_catF (pe_callTy call_tuple_ofF (by rfl) T.ztuple (by decide +kernel) (pa_cons (pe_slice sl_list (pv 0) (po_some (pv 1)) po_none) pa_nil)) (pe_callTy call_tuple_ofF (by rfl) T.ztuple (by decide +kernel) (pa_cons (pe_slice sl_list (pv 0) po_none (po_some (pv 1))) pa_nil)))))), ?_⟩
      refine ⟨_, rfl, t, _, rfl, .inl ht, fun l hl0 => ?_⟩
      have s1 : Same H (upd H l (.lst (row.map V.int))) := same_new hl0
      refine ⟨.inl ⟨rfl, _, SqL.of upd_same⟩, l, row.map V.int, .int 0, row.idxOf 0, .int 0, rfl, rfl, SqL.of upd_same, rfl, flat_ints row, ints_get i0, by decide, no_ahead i1, ?_⟩
      exact row_turnedL (K := K) (i := 0) (j := 1) rfl rfl (sqL_ext (.of s1) ht) hst hl (fun r H4 s4 fr => k r H4 (s1.trans s4) fr)
    · refine ⟨_, (pss_cons (ps_set (i := 1) nd rfl (Or.inl rfl) (pe_bm PySem.F.plainAttrs_list PySem.F.slot_list_index PySem.F.type_list_index mt_index (pe_callTy call_list_of (by rfl) T.zlist (by decide +kernel) (pa_cons (pv 0) pa_nil)) (pa_cons pe_int pa_nil)))
    (pss_one (ps_ret (pe_op op_catF (pe_callTy call_tuple_ofF (by rfl) T.ztuple (by decide +kernel) (pa_cons (pe_slice sl_tupA (pv 0) (po_some (pv 1)) po_none) pa_nil)) (pe_callTy call_tuple_ofF (by rfl) T.ztuple (by decide +kernel) (pa_cons (pe_slice sl_tupA (pv 0) po_none (po_some (pv 1))) pa_nil)))))), ?_⟩
      refine ⟨_, rfl, t, _, rfl, .inr ht.sq, fun l hl0 => ?_⟩
      have s1 : Same H (upd H l (.lst (row.map V.int))) := same_new hl0
      refine ⟨.inl ⟨rfl, _, SqL.of upd_same⟩, l, row.map V.int, .int 0, row.idxOf 0, .int 0, rfl, rfl, SqL.of upd_same, rfl, flat_ints row, ints_get i0, by decide, no_ahead i1, ?_⟩
      exact row_turned (K := K) (i := 0) (j := 1) rfl rfl (FzT.same ht s1) hst hl (fun r H4 s4 fr => k r H4 (s1.trans s4) fr)
theorem nonI (T : Txt K mg) {H : Hp} {y : V} {S : String} (t : TyB K H y S) (h : S ≠ "dict" ∧ S ≠ "bytes") :
    (isI y = false ∧ PySem.W.kitOne K (.type S) (.type "int") = some false) ∨ (isI y = false ∧ PySem.W.kitOne K (.type S) (.type "int") = some true ∧ PySem.W.kitOne K (.type S) (.type "bool") = some true) ∨
    (isI y = true ∧ PySem.W.kitOne K (.type S) (.type "int") = some true ∧ PySem.W.kitOne K (.type S) (.type "bool") = some false) := by
  cases t with
  | non => exact .inl ⟨rfl, T.kNoI⟩
  | bl b => exact .inr (.inl ⟨rfl, T.kBoI, kit_self _⟩)
  | int i => exact .inr (.inr ⟨rfl, kit_self _, T.kInB⟩)
  | str x => exact .inl ⟨rfl, T.kStI⟩
  | byt b => exact absurd rfl h.2
  | lst h => exact .inl ⟨rfl, T.kLiI⟩
  | tup h => exact .inl ⟨rfl, T.kTuI⟩
  | dK h' => exact absurd rfl h.1
theorem ok_l_is_row (T : Txt K mg) : FnOk P w K mg base CX0 1 T.l_is_row.a T.l_is_row.fd ["thing"] (spRowV K) := by
  refine T.l_is_row.F.ok sc_l_is_row (fun vs H Q E h => ?_) (fun cdv A outer s H vs Q E hr h => ?_)
  · obtain ⟨x, b, rfl, _⟩ := h
    rfl
  · obtain ⟨x, b, rfl, hv, k⟩ := h
    have nd := sc_l_is_row.nd
    cases hv with
    | @non x S h hS =>
      refine ⟨_, (pss_cons (ps_if (PW.pt (pw_or (pt_not (pt_val (pe_callB call_isiT (by rfl) T.zisinstance (by decide +kernel) (pa_cons (pv 0) (pa_cons (pe_tup (pa_cons (pe_bltn (v := .ty "list") (by rfl) T.zlist (by decide +kernel) rfl) (pa_cons (pe_bltn (v := .ty "tuple") (by rfl) T.ztuple (by decide +kernel) rfl) pa_nil))) pa_nil))))) (pw_or1 (pt_cmpR op_notIn_seq (pe_callB call_len_seq (by rfl) T.zlen (by decide +kernel) (pa_cons (pv 0) pa_nil)) (pe_lst (pa_cons pe_int (pa_cons pe_int (pa_cons pe_int (pa_cons pe_int (pa_cons pe_int (pa_cons pe_int pa_nil))))))) rfl))))
      (pss_one (ps_ret pe_bl))
      pss_nil)
    (pss_cons (ps_if (pt_cmpR (op_neD hr.units) (pe_lc (own := [("item", 1)]) (g := gName 1) rfl nd (pi_tup (pv 0)) (blkOk_by (own := [("item", 1)]) (N := N_l_is_row) (sc := defScope s_l_is_row) (by decide +kernel)) (fun _ _ _ _ _ => pg_name (i := 1) nd rfl (Or.inl rfl)) (fun _ _ _ _ _ => pts_one (PW.pt (pw_or (pt_not (pt_val (pe_callB (call_isAK (K := K) rfl) (by rfl) T.zisinstance (by decide +kernel) (pa_cons (pv 1) (pa_cons (pe_bltn (v := .ty "int") (by rfl) T.zint (by decide +kernel) rfl) pa_nil))))) (pw_or1 (pt_val (pe_callB (call_isAK (K := K) rfl) (by rfl) T.zisinstance (by decide +kernel) (pa_cons (pv 1) (pa_cons (pe_bltn (v := .ty "bool") (by rfl) T.zbool (by decide +kernel) rfl) pa_nil)))))))) (fun _ _ _ _ _ => pe_int)) (pe_lst pa_nil) (nomark _))
      (pss_one (ps_ret pe_bl))
      pss_nil)
    (pss_one (ps_ret (pe_cmpR (op_eqD hr.units) (pe_callB cr_sortedS2 (by rfl) T.zsorted (by decide +kernel) (pa_cons (pv 0) pa_nil)) (pe_listRg rfl (by rfl) T.zlist (prg_1 (by rfl) T.zrange (pe_callB call_len_seq (by rfl) T.zlen (by decide +kernel) (pa_cons (pv 0) pa_nil)))) (nomark _)))))), ?_⟩
      refine ⟨_, rfl, (by show 2 ≤ sizeLine; decide), fun tp htp => ?_⟩
      have s0 : Same H (upd H tp (.tup [.ty "list", .ty "tuple"])) := same_new htp
      have kt : PySem.W.kitAny K (.type S) [.type "list", .type "tuple"] = some false := by
        rcases hS with rfl | rfl | rfl | rfl
        · exact kit_second T.kNoL T.kNoT
        · exact kit_second T.kInL T.kInT
        · exact kit_second T.kStL T.kStT
        · exact kit_second T.kDiL T.kDiT
      refine ⟨_, tp, _, _, _, false, rfl, upd_same, .cons (.ty _) (.cons (.ty _) .nil), Tt.TyB.x (K := K) (TyB.same h s0), kt, _, rfl, iteT (iteT (k _ s0))⟩
    | @lst t xs b h n ty hb =>
      refine ⟨_, (pss_cons (ps_if (PW.pt (pw_or (pt_not (pt_val (pe_callB call_isiT (by rfl) T.zisinstance (by decide +kernel) (pa_cons (pv 0) (pa_cons (pe_tup (pa_cons (pe_bltn (v := .ty "list") (by rfl) T.zlist (by decide +kernel) rfl) (pa_cons (pe_bltn (v := .ty "tuple") (by rfl) T.ztuple (by decide +kernel) rfl) pa_nil))) pa_nil))))) (pw_or1 (pt_cmpR op_notIn_seq (pe_callB call_len_seq (by rfl) T.zlen (by decide +kernel) (pa_cons (pv 0) pa_nil)) (pe_lst (pa_cons pe_int (pa_cons pe_int (pa_cons pe_int (pa_cons pe_int (pa_cons pe_int (pa_cons pe_int pa_nil))))))) rfl))))
      (pss_one (ps_ret pe_bl))
      pss_nil)
    (pss_cons (ps_if (pt_cmpR (op_neD hr.units) (pe_lc (own := [("item", 1)]) (g := gName 1) rfl nd (pi_list (pv 0)) (blkOk_by (own := [("item", 1)]) (N := N_l_is_row) (sc := defScope s_l_is_row) (by decide +kernel)) (fun _ _ _ _ _ => pg_name (i := 1) nd rfl (Or.inl rfl)) (fun _ _ _ _ _ => pts_one (PW.pt (pw_or (pt_not (pt_val (pe_callB (call_isAK (K := K) rfl) (by rfl) T.zisinstance (by decide +kernel) (pa_cons (pv 1) (pa_cons (pe_bltn (v := .ty "int") (by rfl) T.zint (by decide +kernel) rfl) pa_nil))))) (pw_or1 (pt_val (pe_callB (call_isAK (K := K) rfl) (by rfl) T.zisinstance (by decide +kernel) (pa_cons (pv 1) (pa_cons (pe_bltn (v := .ty "bool") (by rfl) T.zbool (by decide +kernel) rfl) pa_nil)))))))) (fun _ _ _ _ _ => pe_int)) (pe_lst pa_nil) (nomark _))
      (pss_one (ps_ret pe_bl))
      pss_nil)
    (pss_one (ps_ret (pe_cmpR (op_eqD hr.units) (pe_callB cr_sortedS2 (by rfl) T.zsorted (by decide +kernel) (pa_cons (pv 0) pa_nil)) (pe_listRg rfl (by rfl) T.zlist (prg_1 (by rfl) T.zrange (pe_callB call_len_seq (by rfl) T.zlen (by decide +kernel) (pa_cons (pv 0) pa_nil)))) (nomark _)))))), ?_⟩
      refine ⟨_, rfl, (by show 2 ≤ sizeLine; decide), fun tp htp => ?_⟩
      have s0 : Same H (upd H tp (.tup [.ty "list", .ty "tuple"])) := same_new htp
      refine ⟨_, tp, _, _, _, true, rfl, upd_same, .cons (.ty _) (.cons (.ty _) .nil), Tt.TyB.x (K := K) (.lst (sqL_ext (.of s0) h)), kit_first (kit_self _), _, rfl, iteF ?_⟩
      generalize upd H tp (.tup [.ty "list", .ty "tuple"]) = H0 at s0
      refine ⟨_, rfl, t, _, rfl, .inl (sqL_ext (.of s0) h), (by show 6 ≤ sizeLine; decide), fun p hp => ?_⟩
      refine ⟨p, _, rfl, .inl (SqL.of upd_same), rfl, rfl, _, rfl, ?_⟩
      have s1 : Same H (upd H0 p (.lst [.int 2, .int 4, .int 6, .int 8, .int 10, .int 12])) := s0.trans (same_new hp)
      generalize upd H0 p (.lst [.int 2, .int 4, .int 6, .int 8, .int 10, .int 12]) = H1 at s1
      have no : ¬ RowP xs → ∀ H', Same H H' → Q (.bl false) H' := fun z H' s' => by
        have hf : b = false := by
          cases b with
          | false => rfl
          | true => exact absurd (hb.mp rfl) z
        rw [hf] at k
        exact k H' s'
      refine ite2 (fun c => ?_) (fun c => ?_)
      · refine no (fun z => ?_) _ s1
        obtain ⟨n, row, n1, n6, e, pm⟩ := z
        have hl : xs.length = 2 * n := by rw [e, List.length_map, perm_len pm]
        have c' : (!inV (.int (xs.length : Int)) [.int 2, .int 4, .int 6, .int 8, .int 10, .int 12]) = true := c
        rw [lenIn_of hl n1 n6] at c'
        cases c'
      · obtain ⟨m, m1, m6, hlen⟩ := lenIn (n := xs.length) (by omega) (by simpa using c)
        refine ⟨_, rfl, t, rfl, ⟨_, sqL_ext (.of s1) h⟩, fun D1 hD1 => lc_list (K := K) (a := t) (xs := xs) (fun i H' => ∃ c : Nat, c ≤ i ∧ H' D1 = some (.lst ((List.replicate c (1 : Int)).map V.int)) ∧ (c = 0 ↔ (xs.take i).all isI = true) ∧ Same H1 H')
          ⟨0, Nat.le_refl _, upd_same, ⟨fun _ => rfl, fun _ => rfl⟩, same_new hD1⟩ (fun i H' _ z => sqL_ext (.of (s1.trans z.choose_spec.2.2.2)) h) ?_ ?_⟩
        · rintro i y H' hi ⟨c, hc, h1, hiff, s2⟩
          have hil : i < xs.length := (List.getElem?_eq_some_iff.mp hi).1
          obtain ⟨S, ty0, nS⟩ := ty y (List.mem_of_getElem? hi)
          have tyy := TyB.same ty0 (s1.trans s2)
          have tk : (xs.take (i + 1)).all isI = ((xs.take i).all isI && isI y) := by
            rw [List.take_add_one, hi, List.all_append]
            simp
          have yes : isI y = false → ∃ acc, H' D1 = some (.lst acc) ∧ acc.length < sizeLine ∧ (∃ c : Nat, c ≤ i + 1 ∧ (upd H' D1 (.lst (acc ++ [.int 1]))) D1 = some (.lst ((List.replicate c (1 : Int)).map V.int)) ∧ (c = 0 ↔ (xs.take (i + 1)).all isI = true) ∧ Same H1 (upd H' D1 (.lst (acc ++ [.int 1])))) := fun q => by
            refine ⟨_, h1, by rw [List.length_map, List.length_replicate]; exact small1000 (by omega), c + 1, by omega, ?_, ?_, fun b o hb => ?_⟩
            · rw [upd_same, List.replicate_succ', List.map_append]
              rfl
            · rw [tk, q, Bool.and_false]
              simp
            · rw [upd_ne (ne_of_none hb hD1)]
              exact s2 b o hb
          have nay : isI y = true → (∃ c : Nat, c ≤ i + 1 ∧ H' D1 = some (.lst ((List.replicate c (1 : Int)).map V.int)) ∧ (c = 0 ↔ (xs.take (i + 1)).all isI = true) ∧ Same H1 H') := fun q => by
            refine ⟨c, by omega, h1, ?_, s2⟩
            rw [tk, q, Bool.and_true]
            exact hiff
          refine ⟨rfl, ?_⟩
          rcases nonI T tyy nS with ⟨e, q⟩ | ⟨e, q, q2⟩ | ⟨e, q, q2⟩
          · exact ⟨_, rfl, .inr ⟨_, _, _, _, false, rfl, .ty _, Tt.TyB.x tyy, q, _, rfl, iteT (iteT (yes e))⟩⟩
          · exact ⟨_, rfl, .inr ⟨_, _, _, _, true, rfl, .ty _, Tt.TyB.x tyy, q, _, rfl, iteF ⟨_, rfl, .inr ⟨_, _, _, _, true, rfl, .ty _, Tt.TyB.x tyy, q2, _, rfl, iteT (yes e)⟩⟩⟩⟩
          · exact ⟨_, rfl, .inr ⟨_, _, _, _, true, rfl, .ty _, Tt.TyB.x tyy, q, _, rfl, iteF ⟨_, rfl, .inr ⟨_, _, _, _, false, rfl, .ty _, Tt.TyB.x tyy, q2, _, rfl, iteF (nay e)⟩⟩⟩⟩
        · rintro H' ⟨c, hc, h1, hiff, s2⟩
          rw [List.take_length] at hiff
          refine ⟨(by show 0 ≤ sizeLine; decide), fun l hl0 => ?_⟩
          have sN : Same H' (upd H' l (.lst [])) := same_new hl0
          refine ⟨.list ((List.replicate c (1 : Int)).map PyData.int), .list [], .lst (SqL.of (sN _ _ h1)) (dpAll_ints _ _), .lst (SqL.of upd_same) .nil, shapedAll_ints _, rfl, ?_⟩
          have ev : PyData.eqv (.list ((List.replicate c (1 : Int)).map PyData.int)) (.list []) = decide (List.replicate c (1 : Int) = []) := eqv_ints (List.replicate c (1 : Int)) []
          rw [ev]
          have s3 : Same H (upd H' l (.lst [])) := (s1.trans s2).trans sN
          generalize upd H' l (.lst []) = H2 at s3
          refine ⟨_, rfl, ?_⟩
          by_cases c0 : c = 0
          · have al := hiff.mp c0
            subst c0
            refine iteF ?_
            obtain ⟨row, ex⟩ := all_ints al
            subst ex
            rw [List.length_map] at hlen
            refine ⟨_, rfl, .inl ⟨t, row, rfl, sqL_ext (.of s3) h, fun ns' p2 pm2 pw hp2 => ?_⟩⟩
            have s4 : Same H (upd H2 p2 (.lst (ns'.map V.int))) := s3.trans (same_new hp2)
            refine ⟨_, rfl, t, _, rfl, .inl (sqL_ext (.of s4) h), _, rfl, RgOk.of_le (by omega) ?_ (by omega) (by omega), fun q hq => ?_⟩
            · rw [List.length_map]
              omega
            · have e1 : (upd (upd H2 p2 (.lst (ns'.map V.int))) q (.lst (rgV 0 ((row.map V.int).length : Int)))) q = some (.lst ((rgI (2 * m)).map V.int)) := by
                rw [upd_same, rgV_rgI (by omega), List.length_map, hlen, Int.toNat_natCast]
              have e2 : (upd (upd H2 p2 (.lst (ns'.map V.int))) q (.lst (rgV 0 ((row.map V.int).length : Int)))) p2 = some (.lst (ns'.map V.int)) := upk hq upd_same
              refine ⟨_, _, .lst (SqL.of e2) (dpAll_ints _ ns'), .lst (SqL.of e1) (dpAll_ints _ _), shapedAll_ints _, shapedAll_ints _, ?_⟩
              rw [eqv_ints]
              have eb : decide (ns' = rgI (2 * m)) = b := by
                rw [Bool.eq_iff_iff, hb, decide_eq_true_iff]
                constructor
                · intro e
                  exact ⟨m, row, m1, m6, rfl, by rw [← e]; exact pm2.symm⟩
                · rintro ⟨n', row', a1, a2, e, pm⟩
                  have er : row = row' := map_int_inj e
                  subst er
                  have : 2 * n' = 2 * m := by rw [← hlen, perm_len pm]
                  rw [← this]
                  exact perm_sorted pm2 pw pm
              rw [eb]
              exact k _ (s4.trans (same_new hq))
          · have ne : List.replicate c (1 : Int) ≠ [] := fun z => c0 (by have := congrArg List.length z; simpa using this)
            have ed : decide (List.replicate c (1 : Int) = []) = false := decide_eq_false ne
            rw [ed]
            refine iteT (no (fun z => ?_) _ s3)
            obtain ⟨n, row, n1, n6, e, pm⟩ := z
            subst e
            exact c0 (hiff.mpr (by rw [List.all_map]; exact List.all_eq_true.mpr fun _ _ => rfl))
    | @tup t xs b h n ty hb =>
      refine ⟨_, (pss_cons (ps_if (PW.pt (pw_or (pt_not (pt_val (pe_callB call_isiT (by rfl) T.zisinstance (by decide +kernel) (pa_cons (pv 0) (pa_cons (pe_tup (pa_cons (pe_bltn (v := .ty "list") (by rfl) T.zlist (by decide +kernel) rfl) (pa_cons (pe_bltn (v := .ty "tuple") (by rfl) T.ztuple (by decide +kernel) rfl) pa_nil))) pa_nil))))) (pw_or1 (pt_cmpR op_notIn_seq (pe_callB call_len_seq (by rfl) T.zlen (by decide +kernel) (pa_cons (pv 0) pa_nil)) (pe_lst (pa_cons pe_int (pa_cons pe_int (pa_cons pe_int (pa_cons pe_int (pa_cons pe_int (pa_cons pe_int pa_nil))))))) rfl))))
      (pss_one (ps_ret pe_bl))
      pss_nil)
    (pss_cons (ps_if (pt_cmpR (op_neD hr.units) (pe_lc (own := [("item", 1)]) (g := gName 1) rfl nd (pi_tup (pv 0)) (blkOk_by (own := [("item", 1)]) (N := N_l_is_row) (sc := defScope s_l_is_row) (by decide +kernel)) (fun _ _ _ _ _ => pg_name (i := 1) nd rfl (Or.inl rfl)) (fun _ _ _ _ _ => pts_one (PW.pt (pw_or (pt_not (pt_val (pe_callB (call_isAK (K := K) rfl) (by rfl) T.zisinstance (by decide +kernel) (pa_cons (pv 1) (pa_cons (pe_bltn (v := .ty "int") (by rfl) T.zint (by decide +kernel) rfl) pa_nil))))) (pw_or1 (pt_val (pe_callB (call_isAK (K := K) rfl) (by rfl) T.zisinstance (by decide +kernel) (pa_cons (pv 1) (pa_cons (pe_bltn (v := .ty "bool") (by rfl) T.zbool (by decide +kernel) rfl) pa_nil)))))))) (fun _ _ _ _ _ => pe_int)) (pe_lst pa_nil) (nomark _))
      (pss_one (ps_ret pe_bl))
      pss_nil)
    (pss_one (ps_ret (pe_cmpR (op_eqD hr.units) (pe_callB cr_sortedS2 (by rfl) T.zsorted (by decide +kernel) (pa_cons (pv 0) pa_nil)) (pe_listRg rfl (by rfl) T.zlist (prg_1 (by rfl) T.zrange (pe_callB call_len_seq (by rfl) T.zlen (by decide +kernel) (pa_cons (pv 0) pa_nil)))) (nomark _)))))), ?_⟩
      refine ⟨_, rfl, (by show 2 ≤ sizeLine; decide), fun tp htp => ?_⟩
      have s0 : Same H (upd H tp (.tup [.ty "list", .ty "tuple"])) := same_new htp
      refine ⟨_, tp, _, _, _, true, rfl, upd_same, .cons (.ty _) (.cons (.ty _) .nil), Tt.TyB.x (K := K) (.tup (sqT_ext (.of s0) h)), kit_second T.kTuL (kit_self _), _, rfl, iteF ?_⟩
      generalize upd H tp (.tup [.ty "list", .ty "tuple"]) = H0 at s0
      refine ⟨_, rfl, t, _, rfl, .inr (sqT_ext (.of s0) h), (by show 6 ≤ sizeLine; decide), fun p hp => ?_⟩
      refine ⟨p, _, rfl, .inl (SqL.of upd_same), rfl, rfl, _, rfl, ?_⟩
      have s1 : Same H (upd H0 p (.lst [.int 2, .int 4, .int 6, .int 8, .int 10, .int 12])) := s0.trans (same_new hp)
      generalize upd H0 p (.lst [.int 2, .int 4, .int 6, .int 8, .int 10, .int 12]) = H1 at s1
      have no : ¬ RowP xs → ∀ H', Same H H' → Q (.bl false) H' := fun z H' s' => by
        have hf : b = false := by
          cases b with
          | false => rfl
          | true => exact absurd (hb.mp rfl) z
        rw [hf] at k
        exact k H' s'
      refine ite2 (fun c => ?_) (fun c => ?_)
      · refine no (fun z => ?_) _ s1
        obtain ⟨n, row, n1, n6, e, pm⟩ := z
        have hl : xs.length = 2 * n := by rw [e, List.length_map, perm_len pm]
        have c' : (!inV (.int (xs.length : Int)) [.int 2, .int 4, .int 6, .int 8, .int 10, .int 12]) = true := c
        rw [lenIn_of hl n1 n6] at c'
        cases c'
      · obtain ⟨m, m1, m6, hlen⟩ := lenIn (n := xs.length) (by omega) (by simpa using c)
        refine ⟨_, rfl, t, rfl, ⟨_, sqT_ext (.of s1) h⟩, fun D1 hD1 => lc_tup (K := K) (a := t) (xs := xs) (fun i H' => ∃ c : Nat, c ≤ i ∧ H' D1 = some (.lst ((List.replicate c (1 : Int)).map V.int)) ∧ (c = 0 ↔ (xs.take i).all isI = true) ∧ Same H1 H')
          ⟨0, Nat.le_refl _, upd_same, ⟨fun _ => rfl, fun _ => rfl⟩, same_new hD1⟩ (fun i H' _ z => sqT_ext (.of (s1.trans z.choose_spec.2.2.2)) h) ?_ ?_⟩
        · rintro i y H' hi ⟨c, hc, h1, hiff, s2⟩
          have hil : i < xs.length := (List.getElem?_eq_some_iff.mp hi).1
          obtain ⟨S, ty0, nS⟩ := ty y (List.mem_of_getElem? hi)
          have tyy := TyB.same ty0 (s1.trans s2)
          have tk : (xs.take (i + 1)).all isI = ((xs.take i).all isI && isI y) := by
            rw [List.take_add_one, hi, List.all_append]
            simp
          have yes : isI y = false → ∃ acc, H' D1 = some (.lst acc) ∧ acc.length < sizeLine ∧ (∃ c : Nat, c ≤ i + 1 ∧ (upd H' D1 (.lst (acc ++ [.int 1]))) D1 = some (.lst ((List.replicate c (1 : Int)).map V.int)) ∧ (c = 0 ↔ (xs.take (i + 1)).all isI = true) ∧ Same H1 (upd H' D1 (.lst (acc ++ [.int 1])))) := fun q => by
            refine ⟨_, h1, by rw [List.length_map, List.length_replicate]; exact small1000 (by omega), c + 1, by omega, ?_, ?_, fun b o hb => ?_⟩
            · rw [upd_same, List.replicate_succ', List.map_append]
              rfl
            · rw [tk, q, Bool.and_false]
              simp
            · rw [upd_ne (ne_of_none hb hD1)]
              exact s2 b o hb
          have nay : isI y = true → (∃ c : Nat, c ≤ i + 1 ∧ H' D1 = some (.lst ((List.replicate c (1 : Int)).map V.int)) ∧ (c = 0 ↔ (xs.take (i + 1)).all isI = true) ∧ Same H1 H') := fun q => by
            refine ⟨c, by omega, h1, ?_, s2⟩
            rw [tk, q, Bool.and_true]
            exact hiff
          refine ⟨rfl, ?_⟩
          rcases nonI T tyy nS with ⟨e, q⟩ | ⟨e, q, q2⟩ | ⟨e, q, q2⟩
          · exact ⟨_, rfl, .inr ⟨_, _, _, _, false, rfl, .ty _, Tt.TyB.x tyy, q, _, rfl, iteT (iteT (yes e))⟩⟩
          · exact ⟨_, rfl, .inr ⟨_, _, _, _, true, rfl, .ty _, Tt.TyB.x tyy, q, _, rfl, iteF ⟨_, rfl, .inr ⟨_, _, _, _, true, rfl, .ty _, Tt.TyB.x tyy, q2, _, rfl, iteT (yes e)⟩⟩⟩⟩
          · exact ⟨_, rfl, .inr ⟨_, _, _, _, true, rfl, .ty _, Tt.TyB.x tyy, q, _, rfl, iteF ⟨_, rfl, .inr ⟨_, _, _, _, false, rfl, .ty _, Tt.TyB.x tyy, q2, _, rfl, iteF (nay e)⟩⟩⟩⟩
        · rintro H' ⟨c, hc, h1, hiff, s2⟩
          rw [List.take_length] at hiff
          refine ⟨(by show 0 ≤ sizeLine; decide), fun l hl0 => ?_⟩
          have sN : Same H' (upd H' l (.lst [])) := same_new hl0
          refine ⟨.list ((List.replicate c (1 : Int)).map PyData.int), .list [], .lst (SqL.of (sN _ _ h1)) (dpAll_ints _ _), .lst (SqL.of upd_same) .nil, shapedAll_ints _, rfl, ?_⟩
          have ev : PyData.eqv (.list ((List.replicate c (1 : Int)).map PyData.int)) (.list []) = decide (List.replicate c (1 : Int) = []) := eqv_ints (List.replicate c (1 : Int)) []
          rw [ev]
          have s3 : Same H (upd H' l (.lst [])) := (s1.trans s2).trans sN
          generalize upd H' l (.lst []) = H2 at s3
          refine ⟨_, rfl, ?_⟩
          by_cases c0 : c = 0
          · have al := hiff.mp c0
            subst c0
            refine iteF ?_
            obtain ⟨row, ex⟩ := all_ints al
            subst ex
            rw [List.length_map] at hlen
            refine ⟨_, rfl, .inr ⟨t, row, rfl, sqT_ext (.of s3) h, fun ns' p2 pm2 pw hp2 => ?_⟩⟩
            have s4 : Same H (upd H2 p2 (.lst (ns'.map V.int))) := s3.trans (same_new hp2)
            refine ⟨_, rfl, t, _, rfl, .inr (sqT_ext (.of s4) h), _, rfl, RgOk.of_le (by omega) ?_ (by omega) (by omega), fun q hq => ?_⟩
            · rw [List.length_map]
              omega
            · have e1 : (upd (upd H2 p2 (.lst (ns'.map V.int))) q (.lst (rgV 0 ((row.map V.int).length : Int)))) q = some (.lst ((rgI (2 * m)).map V.int)) := by
                rw [upd_same, rgV_rgI (by omega), List.length_map, hlen, Int.toNat_natCast]
              have e2 : (upd (upd H2 p2 (.lst (ns'.map V.int))) q (.lst (rgV 0 ((row.map V.int).length : Int)))) p2 = some (.lst (ns'.map V.int)) := upk hq upd_same
              refine ⟨_, _, .lst (SqL.of e2) (dpAll_ints _ ns'), .lst (SqL.of e1) (dpAll_ints _ _), shapedAll_ints _, shapedAll_ints _, ?_⟩
              rw [eqv_ints]
              have eb : decide (ns' = rgI (2 * m)) = b := by
                rw [Bool.eq_iff_iff, hb, decide_eq_true_iff]
                constructor
                · intro e
                  exact ⟨m, row, m1, m6, rfl, by rw [← e]; exact pm2.symm⟩
                · rintro ⟨n', row', a1, a2, e, pm⟩
                  have er : row = row' := map_int_inj e
                  subst er
                  have : 2 * n' = 2 * m := by rw [← hlen, perm_len pm]
                  rw [← this]
                  exact perm_sorted pm2 pw pm
              rw [eb]
              exact k _ (s4.trans (same_new hq))
          · have ne : List.replicate c (1 : Int) ≠ [] := fun z => c0 (by have := congrArg List.length z; simpa using this)
            have ed : decide (List.replicate c (1 : Int) = []) = false := decide_eq_false ne
            rw [ed]
            refine iteT (no (fun z => ?_) _ s3)
            obtain ⟨n, row, n1, n6, e, pm⟩ := z
            subst e
            exact c0 (hiff.mpr (by rw [List.all_map]; exact List.all_eq_true.mpr fun _ _ => rfl))
end
end Tt
set_option maxRecDepth 100000
set_option maxHeartbeats 4000000
namespace Tt
open PySem L2
open LamX (ExtN)
section
variable {P : Program} {w : World} {K : PySem.W.Frag} {mg : Str → Option Value} {base : Heap}
def Gd (d : PyData) : Prop := d.showable = true ∧ d.hasDict = false ∧ d.depth ≤ 2 ∧ d.shown.length ≤ 20
theorem gd_int {i : Int} (h0 : -1 ≤ i) (h1 : i ≤ 99) : Gd (.int i) := by
  have z : ∀ n : Fin 101, (PyData.showable (.int (((n.val : Nat) : Int) - 1))) = true ∧ (PyData.shown (.int (((n.val : Nat) : Int) - 1))).length ≤ 20 := by decide +kernel
  obtain ⟨k, e⟩ := Int.eq_ofNat_of_zero_le (show 0 ≤ i + 1 by omega)
  have e' : i = (k : Int) - 1 := by omega
  subst e'
  obtain ⟨a, b⟩ := z ⟨k, by omega⟩
  exact ⟨a, rfl, Nat.zero_le _, b⟩
theorem gd_sh : ∀ ds : List PyData, (∀ d ∈ ds, Gd d) → PyData.showableAll ds = true
  | [], _ => rfl
  | d :: ds, h => by
    show (d.showable && PyData.showableAll ds) = true
    rw [(h d List.mem_cons_self).1, gd_sh ds fun y hy => h y (List.mem_cons_of_mem _ hy)]
    rfl
theorem gd_hd : ∀ ds : List PyData, (∀ d ∈ ds, Gd d) → PyData.hasDictAll ds = false
  | [], _ => rfl
  | d :: ds, h => by
    show (d.hasDict || PyData.hasDictAll ds) = false
    rw [(h d List.mem_cons_self).2.1, gd_hd ds fun y hy => h y (List.mem_cons_of_mem _ hy)]
    rfl
theorem gd_dp : ∀ ds : List PyData, (∀ d ∈ ds, Gd d) → PyData.depthAll ds ≤ 2
  | [], _ => Nat.zero_le _
  | d :: ds, h => by
    have h1 := (h d List.mem_cons_self).2.2.1
    have h2 := gd_dp ds fun y hy => h y (List.mem_cons_of_mem _ hy)
    show max d.depth (PyData.depthAll ds) ≤ 2
    omega
theorem gd_ln : ∀ ds : List PyData, (∀ d ∈ ds, Gd d) → ((PyData.shownAll ds).map (·.length)).sum ≤ 20 * ds.length ∧ (PyData.shownAll ds).length = ds.length
  | [], _ => ⟨Nat.le_refl _, rfl⟩
  | d :: ds, h => by
    have h1 := (h d List.mem_cons_self).2.2.2
    obtain ⟨i1, i2⟩ := gd_ln ds fun y hy => h y (List.mem_cons_of_mem _ hy)
    constructor
    · show d.shown.length + ((PyData.shownAll ds).map (·.length)).sum ≤ 20 * (ds.length + 1)
      omega
    · show (PyData.shownAll ds).length + 1 = ds.length + 1
      omega
def Itt (K : PySem.W.Frag) (H : Hp) (y : V) : Prop := ∃ d S, Dp K H y d ∧ Gd d ∧ TyB K H y S ∧ S ≠ "dict" ∧ S ≠ "bytes"
theorem Itt.int {H : Hp} {i : Int} (h0 : -1 ≤ i) (h1 : i ≤ 99) : Itt K H (.int i) := ⟨_, _, .int i, gd_int h0 h1, .int i, by decide, by decide⟩
theorem Itt.bl {H : Hp} (b : Bool) : Itt K H (.bl b) := ⟨_, _, .bl b, by cases b <;> exact ⟨by decide +kernel, by decide +kernel, by decide +kernel, by decide +kernel⟩, .bl b, by decide, by decide⟩
theorem Itt.non {H : Hp} : Itt K H .non := ⟨_, _, .non, ⟨by decide +kernel, by decide +kernel, by decide +kernel, by decide +kernel⟩, .non, by decide, by decide⟩
theorem dpAll_of {H : Hp} : ∀ xs : List V, (∀ y ∈ xs, Itt K H y) → ∃ ds, DpAll K H xs ds ∧ (∀ d ∈ ds, Gd d) ∧ ds.length = xs.length
  | [], _ => ⟨[], .nil, fun _ h => absurd h (by simp), rfl⟩
  | y :: xs, h => by
    obtain ⟨d, S, h1, h2, _⟩ := h y List.mem_cons_self
    obtain ⟨ds, a, b, c⟩ := dpAll_of xs fun z hz => h z (List.mem_cons_of_mem _ hz)
    refine ⟨d :: ds, .cons h1 a, fun z hz => ?_, by rw [List.length_cons, List.length_cons, c]⟩
    rcases List.mem_cons.mp hz with e | hz
    · rw [e]
      exact h2
    · exact b z hz
theorem sz1000 : (1000 : Nat) ≤ sizeLine := by decide
theorem shw_lst {H : Hp} {p : Addr} {xs : List V} (h : SqL K H p xs) (n : xs.length ≤ 20) (it : ∀ y ∈ xs, Itt K H y) : ∃ t, Shw K H (.ref p) t := by
  obtain ⟨ds, a, b, c⟩ := dpAll_of xs it
  obtain ⟨l1, l2⟩ := gd_ln ds b
  have h0 := listText_len_le (PyData.shownAll ds)
  have z := sz1000
  exact ⟨_, .ref (d := .list ds) (.lst h a) (gd_sh ds b) (gd_hd ds b) (by have := gd_dp ds b; show PyData.depthAll ds + 1 ≤ 60; omega) (by show (listText (PyData.shownAll ds)).length ≤ sizeLine; omega)⟩
theorem shw_tup {H : Hp} {p : Addr} {xs : List V} (h : SqT K H p xs) (n : xs.length ≤ 20) (it : ∀ y ∈ xs, Itt K H y) : ∃ t, Shw K H (.ref p) t := by
  obtain ⟨ds, a, b, c⟩ := dpAll_of xs it
  obtain ⟨l1, l2⟩ := gd_ln ds b
  have h0 := tupleText_len_le (PyData.shownAll ds)
  have z := sz1000
  exact ⟨_, .ref (d := .tuple ds) (.tup h a) (gd_sh ds b) (gd_hd ds b) (by have := gd_dp ds b; show PyData.depthAll ds + 1 ≤ 60; omega) (by show (tupleText (PyData.shownAll ds)).length ≤ sizeLine; omega)⟩
inductive Thg (K : PySem.W.Frag) (H : Hp) : V → Bool → Prop where
  | non {x : V} {S : String} (h : TyB K H x S) (hS : S = "NoneType" ∨ S = "int" ∨ S = "str" ∨ S = "dict") : Thg K H x false
  | lst {p : Addr} {xs : List V} {b : Bool} (h : SqL K H p xs) (n : xs.length ≤ 20) (ty : ∀ y ∈ xs, ∃ S, TyB K H y S ∧ S ≠ "dict" ∧ S ≠ "bytes") (hb : b = true ↔ RowP xs) : Thg K H (.ref p) b
  | tup {p : Addr} {xs : List V} {b : Bool} (h : SqT K H p xs) (n : xs.length ≤ 20) (ty : ∀ y ∈ xs, ∃ S, TyB K H y S ∧ S ≠ "dict" ∧ S ≠ "bytes") (hb : b = true ↔ RowP xs) (hz : b = true → FzT H p xs) : Thg K H (.ref p) b
theorem Thg.row {H : Hp} {x : V} {b : Bool} (h : Thg K H x b) : RowV K H x b := by
  cases h with
  | non h hS => exact .non h hS
  | lst h n ty hb => exact .lst h n ty hb
  | tup h n ty hb hz => exact .tup h n ty hb
theorem Thg.ext {H H' : Hp} {x : V} {b : Bool} (h : Thg K H x b) (e : ExtN H H') : Thg K H' x b := by
  cases h with
  | non h n1 => exact .non (tyB_ext h e) n1
  | lst h n ty hb => exact .lst (sqL_ext e h) n (fun y hy => (ty y hy).elim fun S t => ⟨S, tyB_ext t.1 e, t.2⟩) hb
  | tup h n ty hb hz => exact .tup (sqT_ext e h) n (fun y hy => (ty y hy).elim fun S t => ⟨S, tyB_ext t.1 e, t.2⟩) hb fun z => fzT_ext e (hz z)
structure NearV (K : PySem.W.Frag) (H : Hp) (x : V) : Prop where
  th : ∃ b, Thg K H x b
  sh : ∃ t, Shw K H x t
theorem itt_ty {H : Hp} {xs : List V} (it : ∀ y ∈ xs, Itt K H y) : ∀ y ∈ xs, ∃ S, TyB K H y S ∧ S ≠ "dict" ∧ S ≠ "bytes" := fun y hy => by
  obtain ⟨d, S, _, _, t, n⟩ := it y hy
  exact ⟨S, t, n⟩
theorem near_lst {H : Hp} {p : Addr} {xs : List V} (h : SqL K H p xs) (n : xs.length ≤ 20) (it : ∀ y ∈ xs, Itt K H y) : NearV K H (.ref p) := by
  refine ⟨?_, shw_lst h n it⟩
  rcases Classical.em (RowP xs) with z | z
  · exact ⟨true, .lst h n (itt_ty it) (by simp [z])⟩
  · exact ⟨false, .lst h n (itt_ty it) (by simp [z])⟩
theorem near_tup {H : Hp} {p : Addr} {xs : List V} (h : FzT H p xs) (n : xs.length ≤ 20) (it : ∀ y ∈ xs, Itt K H y) : NearV K H (.ref p) := by
  refine ⟨?_, shw_tup h.sq n it⟩
  rcases Classical.em (RowP xs) with z | z
  · exact ⟨true, .tup h.sq n (itt_ty it) (by simp [z]) fun _ => h⟩
  · exact ⟨false, .tup h.sq n (itt_ty it) (by simp [z]) fun z => nomatch z⟩
theorem near_tupB {H : Hp} {p : Addr} {xs : List V} (h : SqT K H p xs) (n : xs.length ≤ 20) (it : ∀ y ∈ xs, Itt K H y) (z : ¬ RowP xs) : NearV K H (.ref p) :=
  ⟨⟨false, .tup h n (itt_ty it) (by simp [z]) fun z => nomatch z⟩, shw_tup h n it⟩
theorem itts {H : Hp} {ns : List Int} (h : ∀ x ∈ ns, -1 ≤ x ∧ x ≤ 99) : ∀ y ∈ ns.map V.int, Itt K H y := fun y hy => by
  obtain ⟨i, hi, rfl⟩ := List.mem_map.mp hy
  exact .int (h i hi).1 (h i hi).2
def Sds (D : Dw) (L : List (Addr × HO)) (H : Hp) : Prop := ∀ q ∈ L, H q.1 = some q.2 ∧ Off D q.1
theorem Sds.nil {D : Dw} {H : Hp} : Sds D [] H := fun _ h => absurd h (by simp)
theorem Sds.same {D : Dw} {L : List (Addr × HO)} {H H' : Hp} (h : Sds D L H) (s : Same H H') : Sds D L H' := fun q hq => ⟨s _ _ (h q hq).1, (h q hq).2⟩
theorem Sds.kp {D : Dw} {L : List (Addr × HO)} {H H' : Hp} (h : Sds D L H) (k : Kp D H H') : Sds D L H' := fun q hq => ⟨k.at (h q hq).2 (h q hq).1, (h q hq).2⟩
theorem Sds.add {D : Dw} {L : List (Addr × HO)} {H : Hp} {p : Addr} {o : HO} (h : Sds D L H) (d : DrOk D H) (n : H p = none) : Sds D ((p, o) :: L) (upd H p o) := fun q hq => by
  rcases List.mem_cons.mp hq with e | hq
  · subst e
    exact ⟨upd_same, d.off n⟩
  · exact ⟨upk n (h q hq).1, (h q hq).2⟩
theorem Sds.of {D : Dw} {L : List (Addr × HO)} {H : Hp} (h : Sds D L H) {p : Addr} {o : HO} (m : (p, o) ∈ L) : H p = some o := (h _ m).1
structure Nr (K : PySem.W.Frag) (D : Dw) (t : Addr) (row : List Int) (H0 H : Hp) : Prop where
  dr : DrOk D H
  kp : Kp D H0 H
  ln : FzT H t (row.map V.int)
theorem Nr.same {D : Dw} {t : Addr} {row : List Int} {H0 H H' : Hp} (c : Nr K D t row H0 H) (s : Same H H') : Nr K D t row H0 H' := ⟨c.dr.same s, c.kp.trans (.of s), FzT.same c.ln s⟩
theorem Nr.kpd {D : Dw} {t : Addr} {row : List Int} {H0 H H' : Hp} (c : Nr K D t row H0 H) (d : DrOk D H') (k : Kp D H H') : Nr K D t row H0 H' := ⟨d, c.kp.trans k, FzT.kp c.ln c.dr k⟩
theorem Nr.put {D : Dw} {t f : Addr} {row : List Int} {H0 H : Hp} {xs : List V} {o : HO} (c : Nr K D t row H0 H) (n : H0 f = none) (ff : Off D f) (hf : H f = some (.lst xs)) : Nr K D t row H0 (upd H f o) := by
  refine ⟨c.dr.put ff, fun b u e n1 n2 => ?_, FzT.ne c.ln hf fun _ _ z => nomatch z⟩
  rw [upd_ne (ne_of_none e n)]
  exact c.kp b u e n1 n2
theorem sds_put {D : Dw} {L : List (Addr × HO)} {H : Hp} {f : Addr} {o : HO} (h : Sds D L H) (n : ∀ q ∈ L, q.1 ≠ f) : Sds D L (upd H f o) := fun q hq => by
  refine ⟨?_, (h q hq).2⟩
  rw [upd_ne (n q hq)]
  exact (h q hq).1
def spNear (K : PySem.W.Frag) : Sp := fun vs H Q _ => ∃ (D : Dw) (t : Addr) (row : List Int) (n : Nat), vs = [.ref D.d, .ref t] ∧ FzT H t (row.map V.int) ∧ 1 ≤ n ∧ n ≤ 6 ∧ row.Perm (rgI (2 * n)) ∧ DrOk D H ∧
  ∀ x H', NearV K H' x → DrOk D H' → Kp D H H' → Q x H'
end
end Tt
set_option maxRecDepth 100000
set_option maxHeartbeats 4000000
namespace Tt
open PySem L2
section
variable {P : Program} {w : World} {K : PySem.W.Frag} {mg : Str → Option Value} {base : Heap}
theorem noE : ¬ RowP [] := by
  rintro ⟨n, row, n1, n6, e, pm⟩
  have := congrArg List.length e
  rw [List.length_map, perm_len pm] at this
  simp at this
  omega
theorem no4 : ¬ RowP [.int 0, .int 1, .int 2, .int 2] := by
  rintro ⟨n, row, n1, n6, e, pm⟩
  have el : row = [0, 1, 2, 2] := (map_int_inj (a := [0, 1, 2, 2]) (b := row) e).symm
  subst el
  have := perm_len pm
  have en : n = 2 := by
    simp at this
    omega
  subst en
  have : (3 : Int) ∈ ([0, 1, 2, 2] : List Int) := (perm_mem pm).mpr ⟨by decide, by decide⟩
  simp at this
theorem ok_l_near (T : Txt K mg) : FnOk P w K mg base CX0 4 T.l_near.a T.l_near.fd ["draw", "line"] (spNear K) := by
  refine T.l_near.F.ok sc_l_near (fun vs H Q E h => ?_) (fun cdv A outer s H0 vs Q E hr h => ?_)
  · obtain ⟨D, t, row, n, rfl, _⟩ := h
    rfl
  · obtain ⟨D, t, row, n, rfl, ht, n1, n6, pm, dr, k⟩ := h
    have nd := sc_l_near.nd
    have hu := hu_of hr
    have hlen := perm_len pm
    have lm : (row.map V.int).length = row.length := List.length_map ..
    have hne : row ≠ [] := fun z => by rw [z] at hlen; simp at hlen; omega
    have rr : ∀ x ∈ row, 0 ≤ x ∧ x < 12 := fun x hx => by have := (perm_mem pm).mp hx; omega
    have ri : ∀ x ∈ row, -1 ≤ x ∧ x ≤ 99 := fun x hx => by have := rr x hx; omega
    have sz := sz1000
    refine ⟨_, (pss_cons (ps_par (i := 2) (j := 3) rfl nd rfl rfl (by decide) rfl rfl (pa_cons (pe_call (ok_l_take T) (hr.mono (by decide)) (by rfl) T.l_take.g T.l_take.k T.l_take.b .nil pass0 (pa_cons (pv 0) (pa_cons (pe_callB call_len_seq (by rfl) T.zlen (by decide +kernel) (pa_cons (pv 1) pa_nil)) pa_nil))) (pa_cons (pe_call (ok_l_take T) (hr.mono (by decide)) (by rfl) T.l_take.g T.l_take.k T.l_take.b .nil pass0 (pa_cons (pv 0) (pa_cons pe_int pa_nil))) pa_nil)) rfl)
    (pss_cons (ps_set (i := 4) nd rfl (Or.inl rfl) (pe_callTy call_list_of (by rfl) T.zlist (by decide +kernel) (pa_cons (pv 1) pa_nil)))
    (pss_cons (ps_if (pt_cmpR op_eq (pv 3) pe_int (nomark _))
      (pss_one (ps_asg (pe_call (ok_l_pick T) (hr.mono (by decide)) (by rfl) T.l_pick.g T.l_pick.k T.l_pick.b .nil pass0 (pa_cons (pv 0) (pa_cons (pe_lst (pa_cons pe_bl (pa_cons pe_bl (pa_cons pe_non (pa_cons pe_str (pa_cons (pe_tup (pa_cons pe_int pa_nil)) (pa_cons (pe_un un_neg pe_int) (pa_cons (pe_callB call_len_seq (by rfl) T.zlen (by decide +kernel) (pa_cons (pv 1) pa_nil)) (pa_cons pe_int pa_nil))))))))) pa_nil))) (pg_sub (pv 4) (pv 2) set_list (fun _ => rfl))))
      pss_nil)
    (pss_cons (ps_if (pt_cmpR op_eq (pv 3) pe_int (nomark _))
      (pss_one (ps_asg (pe_ix ix_list (pv 4) (pe_op op_sub (pv 2) pe_int) (fun _ _ => rfl)) (pg_sub (pv 4) (pv 2) set_list (fun _ => rfl))))
      pss_nil)
    (pss_cons (ps_if (pt_cmpR op_eq (pv 3) pe_int (nomark _))
      (pss_one (ps_expr (pe_bm PySem.F.plainAttrs_list PySem.F.slot_list_pop PySem.F.type_list_pop mt_popAt (pv 4) (pa_cons (pv 2) pa_nil))))
      pss_nil)
    (pss_cons (ps_if (pt_cmpR op_eq (pv 3) pe_int (nomark _))
      (pss_one (ps_set (i := 4) nd rfl (Or.inl rfl) (pe_op op_cat (pv 4) (pe_lst (pa_cons (pe_op op_add (pe_callB call_len_seq (by rfl) T.zlen (by decide +kernel) (pa_cons (pv 1) pa_nil)) (pe_call (ok_l_take T) (hr.mono (by decide)) (by rfl) T.l_take.g T.l_take.k T.l_take.b .nil pass0 (pa_cons (pv 0) (pa_cons pe_int pa_nil)))) pa_nil)))))
      pss_nil)
    (pss_cons (ps_if (pt_cmpR op_eq (pv 3) pe_int (nomark _))
      (pss_one (ps_set (i := 4) nd rfl (Or.inl rfl) (pe_op op_cat (pv 4) (pe_lst (pa_cons (pe_callB call_len_seq (by rfl) T.zlen (by decide +kernel) (pa_cons (pv 1) pa_nil)) (pa_cons (pe_op op_add (pe_callB call_len_seq (by rfl) T.zlen (by decide +kernel) (pa_cons (pv 1) pa_nil)) pe_int) pa_nil))))))
      pss_nil)
    (pss_cons (ps_if (pt_cmpR op_eq (pv 3) pe_int (nomark _))
      (pss_one (ps_setLc (i := 4) (own := [("item", 5)]) (g := gName 5) rfl nd rfl rfl (sw_true rfl rfl rfl (by decide +kernel)) (pi_list (pv 4)) (blkOk_by (own := [("item", 5)]) (N := N_l_near) (sc := defScope s_l_near) (by decide +kernel)) (fun _ _ _ _ _ => pg_name (i := 5) nd rfl (Or.inl rfl)) (fun _ _ _ _ _ => pts_nil) (fun _ _ _ _ _ => (pe_op op_add (pv 5) pe_int))))
      pss_nil)
    (pss_cons (ps_if (pt_cmpR op_eq (pv 3) pe_int (nomark _))
      (pss_one (ps_set (i := 4) nd rfl (Or.inl rfl) (pe_call (ok_l_pick T) (hr.mono (by decide)) (by rfl) T.l_pick.g T.l_pick.k T.l_pick.b .nil pass0 (pa_cons (pv 0) (pa_cons (pe_lst (pa_cons pe_non (pa_cons pe_int (pa_cons pe_str (pa_cons (pe_disp (pps_cons pe_int pe_int (pps_cons pe_int pe_int pps_nil)) (by rfl) (by rfl) (fun z => by cases z) (by decide)) (pa_cons (pe_lst pa_nil) (pa_cons (pe_tup pa_nil) (pa_cons (pe_lst (pa_cons pe_int pa_nil)) (pa_cons (pe_listRg rfl (by rfl) T.zlist (prg_1 (by rfl) T.zrange pe_int)) (pa_cons (pe_lst (pa_cons (pe_lst (pa_cons pe_int (pa_cons pe_int pa_nil))) pa_nil)) (pa_cons (pe_tup (pa_cons pe_int (pa_cons pe_int (pa_cons pe_int (pa_cons pe_int pa_nil))))) (pa_cons (pe_listRg rfl (by rfl) T.zlist (prg_1 (by rfl) T.zrange pe_int)) pa_nil)))))))))))) pa_nil)))))
      pss_nil)
    (pss_one (ps_ret (pe_ifExp (pt_cmpR op_eq (pv 3) pe_int (nomark _)) (pe_callTy call_tuple_ofF (by rfl) T.ztuple (by decide +kernel) (pa_cons (pv 4) pa_nil)) (pv 4))))))))))))), ?_⟩
    refine ⟨_, rfl, _, rfl, t, _, rfl, .inr ht.sq, D, _, rfl, by rw [lm]; omega, by rw [lm]; omega, dr, fun a H1 a0 a1 d1 k1 => ?_⟩
    rw [lm] at a1
    obtain ⟨a, rfl⟩ := Int.eq_ofNat_of_zero_le a0
    have ha : a < row.length := by omega
    refine ⟨_, rfl, D, 9, rfl, by decide, by decide, d1, fun m H2 m0 m1 d2 k2 => ?_⟩
    have c2 : Nr K D t row H0 H2 := ⟨d2, k1.trans k2, FzT.kp (FzT.kp ht dr k1) d1 k2⟩
    clear d1 d2 k1 k2
    refine ⟨_, _, rfl, ?_⟩
    refine ⟨_, rfl, t, _, rfl, .inr c2.ln.sq, fun f hf0 => ?_⟩
    have f0 : H0 f = none := by
      cases q : H0 f with
      | none => rfl
      | some o =>
        exfalso
        by_cases h1 : f = D.d
        · obtain ⟨ls, cs, r, tt, d⟩ := c2.dr
          rw [h1, d.hd] at hf0
          cases hf0
        · by_cases h2 : f = D.l
          · obtain ⟨ls, cs, r, tt, d⟩ := c2.dr
            rw [h2, d.hl] at hf0
            cases hf0
          · rw [c2.kp f o q h1 h2] at hf0
            cases hf0
    have of : Off D f := c2.dr.off hf0
    have c := c2.same (same_new (o := .lst (row.map V.int)) hf0)
    have hf : (upd H2 f (.lst (row.map V.int))) f = some (.lst (row.map V.int)) := upd_same
    generalize upd H2 f (.lst (row.map V.int)) = H at c hf
    clear c2 hf0
    obtain ⟨m, rfl⟩ := Int.eq_ofNat_of_zero_le m0
    have hm : m = 0 ∨ m = 1 ∨ m = 2 ∨ m = 3 ∨ m = 4 ∨ m = 5 ∨ m = 6 ∨ m = 7 ∨ m = 8 := by omega
    clear m0 m1
    rcases hm with rfl | rfl | rfl | rfl | rfl | rfl | rfl | rfl | rfl
    ·
      refine ⟨_, rfl, rfl, _, rfl, ite2 (fun _ => ?_) (fun c => absurd (by decide) c)⟩
      refine ⟨_, rfl, (by show 1 ≤ sizeLine; decide), fun q hq => ⟨1, rfl, _, rfl, t, _, rfl, .inr (FzT.same c.ln (same_new hq)).sq, (by show 8 ≤ sizeLine; decide), fun l hl => ?_⟩⟩
      have d1 := c.dr.new (o := .tup [.int 0]) hq
      have c1 := c.same (same_new (o := .tup [.int 0]) hq)
      have st : Sds D [(q, .tup [.int 0]), (f, .lst (row.map V.int))] (upd H q (.tup [.int 0])) := Sds.add (fun z hz => by rw [List.mem_singleton.mp hz]; exact ⟨hf, of⟩) c.dr hq
      refine ⟨D, l, _, rfl, .inl (SqL.of upd_same), (d1.off hl).2.1, by simp, (by show 8 < 1073741824; decide), d1.new hl, fun i x H3 hi d3 k3 => ?_⟩
      have kk := (Kp.new (D := D) (o := .lst [.bl true, .bl false, .non, .str "0", .ref q, .int (-1), .int ((row.map V.int).length : Int), .int 99]) hl).trans k3
      have c3 := c1.kpd d3 kk
      have st3 := st.kp kk
      have g3 : H3 f = some (.lst (row.map V.int)) := st3.of (List.mem_cons_of_mem _ List.mem_cons_self)
      have gq : H3 q = some (.tup [.int 0]) := st3.of List.mem_cons_self
      have nqf : q ≠ f := fun z => by rw [z] at hq; rw [hf] at hq; cases hq
      refine ⟨_, rfl, _, rfl, f, _, _, a, rfl, rfl, g3, by rw [lm]; exact ixN_n ha, ?_⟩
      have c4 := c3.put (o := .lst ((row.map V.int).set a x)) f0 of g3
      have gf : (upd H3 f (.lst ((row.map V.int).set a x))) f = some (.lst ((row.map V.int).set a x)) := upd_same
      have gq4 : (upd H3 f (.lst ((row.map V.int).set a x))) q = some (.tup [.int 0]) := by rw [upd_ne nqf]; exact gq
      generalize upd H3 f (.lst ((row.map V.int).set a x)) = H4 at c4 gf gq4
      have hx : Itt K H4 x := by
        have hx := List.mem_of_getElem? hi
        simp only [List.mem_cons, List.not_mem_nil, or_false] at hx
        rcases hx with rfl | rfl | rfl | rfl | rfl | rfl | rfl | rfl
        · exact .bl _
        · exact .bl _
        · exact .non
        · exact ⟨_, _, .str _, ⟨by decide +kernel, by decide +kernel, by decide +kernel, by decide +kernel⟩, .str _, by decide, by decide⟩
        · exact ⟨.tuple [.int 0], _, .tup (SqT.of gq4) (.cons (.int 0) .nil), ⟨by decide +kernel, by decide +kernel, by decide +kernel, by decide +kernel⟩, .tup (SqT.of gq4), by decide, by decide⟩
        · exact .int (by decide) (by decide)
        · exact .int (by rw [lm]; omega) (by rw [lm]; omega)
        · exact .int (by decide) (by decide)
      have fin := k _ _ (near_lst (SqL.of gf) (by rw [List.length_set, lm]; omega) (fun y hy => (List.mem_or_eq_of_mem_set hy).elim (itts ri y) fun e => e ▸ hx)) c4.dr c4.kp
      refine ⟨_, rfl, rfl, _, rfl, ite2 (fun c => absurd c (by decide)) (fun _ => ?_)⟩
      refine ⟨_, rfl, rfl, _, rfl, ite2 (fun c => absurd c (by decide)) (fun _ => ?_)⟩
      refine ⟨_, rfl, rfl, _, rfl, ite2 (fun c => absurd c (by decide)) (fun _ => ?_)⟩
      refine ⟨_, rfl, rfl, _, rfl, ite2 (fun c => absurd c (by decide)) (fun _ => ?_)⟩
      refine ⟨_, rfl, rfl, _, rfl, ite2 (fun c => absurd c (by decide)) (fun _ => ?_)⟩
      refine ⟨_, rfl, rfl, _, rfl, ite2 (fun c => absurd c (by decide)) (fun _ => ?_)⟩
      refine ⟨_, rfl, rfl, _, rfl, ite2 (fun c => absurd c (by decide)) (fun _ => ?_)⟩
      exact ⟨_, rfl, fin⟩
    ·
      refine ⟨_, rfl, rfl, _, rfl, ite2 (fun c => absurd c (by decide)) (fun _ => ?_)⟩
      refine ⟨_, rfl, rfl, _, rfl, ite2 (fun _ => ?_) (fun c => absurd (by decide) c)⟩
      obtain ⟨z, hz, az⟩ : ∃ z ∈ row, atI (row.map V.int) ((a : Int) - 1) = some (.int z) := by
        rcases Nat.eq_zero_or_pos a with h0 | h0
        · subst h0
          obtain ⟨z, h1, h2⟩ := atI_last hne
          exact ⟨z, List.mem_of_getLast? h1, h2⟩
        · have e : (a : Int) - 1 = ((a - 1 : Nat) : Int) := by omega
          have hl : a - 1 < row.length := by omega
          exact ⟨row[a - 1], List.getElem_mem hl, by rw [e]; exact atI_n (ints_get (List.getElem?_eq_getElem hl))⟩
      refine ⟨_, rfl, _, rfl, _, _, rfl, rfl, f, _, _, _, rfl, rfl, SqL.of hf, az, ?_⟩
      refine ⟨_, rfl, _, rfl, f, _, _, a, rfl, rfl, hf, by rw [lm]; exact ixN_n ha, ?_⟩
      have c4 := c.put (o := .lst ((row.map V.int).set a (.int z))) f0 of hf
      have fin := k _ _ (near_lst (SqL.of upd_same) (by rw [List.length_set, lm]; omega) (fun y hy => (List.mem_or_eq_of_mem_set hy).elim (itts ri y) fun e => by rw [e]; exact .int (ri z hz).1 (ri z hz).2)) c4.dr c4.kp
      refine ⟨_, rfl, rfl, _, rfl, ite2 (fun c => absurd c (by decide)) (fun _ => ?_)⟩
      refine ⟨_, rfl, rfl, _, rfl, ite2 (fun c => absurd c (by decide)) (fun _ => ?_)⟩
      refine ⟨_, rfl, rfl, _, rfl, ite2 (fun c => absurd c (by decide)) (fun _ => ?_)⟩
      refine ⟨_, rfl, rfl, _, rfl, ite2 (fun c => absurd c (by decide)) (fun _ => ?_)⟩
      refine ⟨_, rfl, rfl, _, rfl, ite2 (fun c => absurd c (by decide)) (fun _ => ?_)⟩
      refine ⟨_, rfl, rfl, _, rfl, ite2 (fun c => absurd c (by decide)) (fun _ => ?_)⟩
      exact ⟨_, rfl, fin⟩
    ·
      refine ⟨_, rfl, rfl, _, rfl, ite2 (fun c => absurd c (by decide)) (fun _ => ?_)⟩
      refine ⟨_, rfl, rfl, _, rfl, ite2 (fun c => absurd c (by decide)) (fun _ => ?_)⟩
      refine ⟨_, rfl, rfl, _, rfl, ite2 (fun _ => ?_) (fun c => absurd (by decide) c)⟩
      refine ⟨_, rfl, .inl ⟨rfl, _, SqL.of hf⟩, _, rfl, f, _, _, a, _, rfl, rfl, hf, by omega, by omega, ?_, ints_get (List.getElem?_eq_getElem ha), ?_⟩
      · rw [lm]
        simp [seqIndex?]
        omega
      have c4 := c.put (o := .lst ((row.map V.int).eraseIdx a)) f0 of hf
      have fin := k _ _ (near_lst (SqL.of upd_same) (by have := List.length_eraseIdx_le (row.map V.int) a; omega) (fun y hy => itts ri y (List.mem_of_mem_eraseIdx hy))) c4.dr c4.kp
      refine ⟨_, rfl, rfl, _, rfl, ite2 (fun c => absurd c (by decide)) (fun _ => ?_)⟩
      refine ⟨_, rfl, rfl, _, rfl, ite2 (fun c => absurd c (by decide)) (fun _ => ?_)⟩
      refine ⟨_, rfl, rfl, _, rfl, ite2 (fun c => absurd c (by decide)) (fun _ => ?_)⟩
      refine ⟨_, rfl, rfl, _, rfl, ite2 (fun c => absurd c (by decide)) (fun _ => ?_)⟩
      refine ⟨_, rfl, rfl, _, rfl, ite2 (fun c => absurd c (by decide)) (fun _ => ?_)⟩
      exact ⟨_, rfl, fin⟩
    ·
      refine ⟨_, rfl, rfl, _, rfl, ite2 (fun c => absurd c (by decide)) (fun _ => ?_)⟩
      refine ⟨_, rfl, rfl, _, rfl, ite2 (fun c => absurd c (by decide)) (fun _ => ?_)⟩
      refine ⟨_, rfl, rfl, _, rfl, ite2 (fun c => absurd c (by decide)) (fun _ => ?_)⟩
      refine ⟨_, rfl, rfl, _, rfl, ite2 (fun _ => ?_) (fun c => absurd (by decide) c)⟩
      refine ⟨_, rfl, _, rfl, t, _, rfl, .inr c.ln.sq, _, rfl, D, 2, rfl, by decide, by decide, c.dr, fun m H3 m0 m1 d3 k3 => ⟨_, _, rfl, rfl, (by show 1 ≤ sizeLine; decide), fun l hl => ?_⟩⟩
      have c3 := c.kpd d3 k3
      have g3 := k3.at of hf
      have c4 := c3.same (same_new (o := .lst [.int (((row.map V.int).length : Int) + m)]) hl)
      refine ⟨f, l, _, _, rfl, rfl, upk hl g3, upd_same, by rw [lm]; show row.length + 1 ≤ sizeLine; omega, fun l2 hl2 => ?_⟩
      have c5 := c4.same (same_new (o := .lst (row.map V.int ++ [.int (((row.map V.int).length : Int) + m)])) hl2)
      have fin := k _ _ (near_lst (SqL.of upd_same) (by rw [List.length_append, lm]; show row.length + 1 ≤ 20; omega) (fun y hy => (List.mem_append.mp hy).elim (itts ri y) fun h => by rw [List.mem_singleton.mp h, lm]; exact .int (by omega) (by omega))) c5.dr c5.kp
      refine ⟨_, rfl, rfl, _, rfl, ite2 (fun c => absurd c (by decide)) (fun _ => ?_)⟩
      refine ⟨_, rfl, rfl, _, rfl, ite2 (fun c => absurd c (by decide)) (fun _ => ?_)⟩
      refine ⟨_, rfl, rfl, _, rfl, ite2 (fun c => absurd c (by decide)) (fun _ => ?_)⟩
      refine ⟨_, rfl, rfl, _, rfl, ite2 (fun c => absurd c (by decide)) (fun _ => ?_)⟩
      exact ⟨_, rfl, fin⟩
    ·
      refine ⟨_, rfl, rfl, _, rfl, ite2 (fun c => absurd c (by decide)) (fun _ => ?_)⟩
      refine ⟨_, rfl, rfl, _, rfl, ite2 (fun c => absurd c (by decide)) (fun _ => ?_)⟩
      refine ⟨_, rfl, rfl, _, rfl, ite2 (fun c => absurd c (by decide)) (fun _ => ?_)⟩
      refine ⟨_, rfl, rfl, _, rfl, ite2 (fun c => absurd c (by decide)) (fun _ => ?_)⟩
      refine ⟨_, rfl, rfl, _, rfl, ite2 (fun _ => ?_) (fun c => absurd (by decide) c)⟩
      refine ⟨_, rfl, _, rfl, t, _, rfl, .inr c.ln.sq, _, rfl, t, _, rfl, .inr c.ln.sq, _, _, rfl, rfl, (by show 2 ≤ sizeLine; decide), fun l hl => ?_⟩
      have c4 := c.same (same_new (o := .lst [.int ((row.map V.int).length : Int), .int (((row.map V.int).length : Int) + 1)]) hl)
      refine ⟨f, l, _, _, rfl, rfl, upk hl hf, upd_same, by rw [lm]; show row.length + 2 ≤ sizeLine; omega, fun l2 hl2 => ?_⟩
      have c5 := c4.same (same_new (o := .lst (row.map V.int ++ [.int ((row.map V.int).length : Int), .int (((row.map V.int).length : Int) + 1)])) hl2)
      have fin := k _ _ (near_lst (SqL.of upd_same) (by rw [List.length_append, lm]; show row.length + 2 ≤ 20; omega) (fun y hy => (List.mem_append.mp hy).elim (itts ri y) fun h => by
        simp only [List.mem_cons, List.not_mem_nil, or_false] at h
        rcases h with rfl | rfl
        · exact .int (by rw [lm]; omega) (by rw [lm]; omega)
        · exact .int (by rw [lm]; omega) (by rw [lm]; omega))) c5.dr c5.kp
      refine ⟨_, rfl, rfl, _, rfl, ite2 (fun c => absurd c (by decide)) (fun _ => ?_)⟩
      refine ⟨_, rfl, rfl, _, rfl, ite2 (fun c => absurd c (by decide)) (fun _ => ?_)⟩
      refine ⟨_, rfl, rfl, _, rfl, ite2 (fun c => absurd c (by decide)) (fun _ => ?_)⟩
      exact ⟨_, rfl, fin⟩
    ·
      refine ⟨_, rfl, rfl, _, rfl, ite2 (fun c => absurd c (by decide)) (fun _ => ?_)⟩
      refine ⟨_, rfl, rfl, _, rfl, ite2 (fun c => absurd c (by decide)) (fun _ => ?_)⟩
      refine ⟨_, rfl, rfl, _, rfl, ite2 (fun c => absurd c (by decide)) (fun _ => ?_)⟩
      refine ⟨_, rfl, rfl, _, rfl, ite2 (fun c => absurd c (by decide)) (fun _ => ?_)⟩
      refine ⟨_, rfl, rfl, _, rfl, ite2 (fun c => absurd c (by decide)) (fun _ => ?_)⟩
      refine ⟨_, rfl, rfl, _, rfl, ite2 (fun _ => ?_) (fun c => absurd (by decide) c)⟩
      refine ⟨_, rfl, f, rfl, ⟨_, SqL.of hf⟩, fun D1 hD1 => lc_list (K := K) (a := f) (xs := row.map V.int) (fun i H' => H' D1 = some (.lst (((row.take i).map (· + 1)).map V.int)) ∧ Same H H')
        ⟨upd_same, same_new hD1⟩ (fun i H' _ z => SqL.of (z.2 _ _ hf)) ?_ ?_⟩
      · rintro i y H' hi ⟨h1, s2⟩
        obtain ⟨x, rfl, hx⟩ := ints_at hi
        have hil : i < row.length := (List.getElem?_eq_some_iff.mp hx).1
        refine ⟨rfl, yes_t ?_⟩
        refine ⟨_, rfl, _, _, rfl, rfl, _, h1, ?_, ?_, fun b o hb => ?_⟩
        · rw [List.length_map, List.length_map, List.length_take]
          exact small1000 (by omega)
        · rw [upd_same, List.take_add_one, hx, List.map_append, List.map_append]
          rfl
        · rw [upd_ne (ne_of_none hb hD1)]
          exact s2 b o hb
      · rintro H' ⟨h1, s2⟩
        have e2 : row.take (row.map V.int).length = row := by rw [lm, List.take_length]
        rw [e2] at h1
        have c4 := c.same s2
        have ri2 : ∀ x ∈ row.map (· + 1), -1 ≤ x ∧ x ≤ 99 := fun x hx => by
          obtain ⟨y, hy, rfl⟩ := List.mem_map.mp hx
          have := rr y hy
          omega
        have fin := k _ _ (near_lst (SqL.of h1) (by rw [List.length_map, List.length_map]; omega) (itts ri2)) c4.dr c4.kp
        refine ⟨_, rfl, rfl, _, rfl, ite2 (fun c => absurd c (by decide)) (fun _ => ?_)⟩
        refine ⟨_, rfl, rfl, _, rfl, ite2 (fun c => absurd c (by decide)) (fun _ => ?_)⟩
        exact ⟨_, rfl, fin⟩
    ·
      refine ⟨_, rfl, rfl, _, rfl, ite2 (fun c => absurd c (by decide)) (fun _ => ?_)⟩
      refine ⟨_, rfl, rfl, _, rfl, ite2 (fun c => absurd c (by decide)) (fun _ => ?_)⟩
      refine ⟨_, rfl, rfl, _, rfl, ite2 (fun c => absurd c (by decide)) (fun _ => ?_)⟩
      refine ⟨_, rfl, rfl, _, rfl, ite2 (fun c => absurd c (by decide)) (fun _ => ?_)⟩
      refine ⟨_, rfl, rfl, _, rfl, ite2 (fun c => absurd c (by decide)) (fun _ => ?_)⟩
      refine ⟨_, rfl, rfl, _, rfl, ite2 (fun c => absurd c (by decide)) (fun _ => ?_)⟩
      refine ⟨_, rfl, rfl, _, rfl, ite2 (fun _ => ?_) (fun c => absurd (by decide) c)⟩
      refine ⟨_, rfl, fun p1 hp1 => ⟨upd_same, [(Sum.inl 0, .int 1), (Sum.inl 1, .int 0)], rfl, by decide, ?_⟩⟩
      have c1 : Nr K D t row H0 (upd (upd H p1 (.dK [])) p1 (.dK dic01)) := by
        have e : upd (upd H p1 (.dK [])) p1 (.dK dic01) = upd H p1 (.dK dic01) := by
          funext b
          by_cases hb : b = p1
          · subst hb
            rw [upd_same, upd_same]
          · rw [upd_ne hb, upd_ne hb, upd_ne hb]
        rw [e]
        exact c.same (same_new hp1)
      have st1 : Sds D [(p1, .dK dic01)] (upd (upd H p1 (.dK [])) p1 (.dK dic01)) := fun q hq => by
        rw [List.mem_singleton.mp hq]
        exact ⟨upd_same, c.dr.off hp1⟩
      have eM : mergeK [] [(Sum.inl 0, V.int 1), (Sum.inl 1, V.int 0)] = dic01 := by decide +kernel
      rw [eM]
      generalize upd (upd H p1 (.dK [])) p1 (.dK dic01) = H1 at c1 st1
      refine ⟨(by show 0 ≤ sizeLine; decide), fun p2 hp2 => ?_⟩
      have st2 := st1.add (o := .lst []) c1.dr hp2
      have c2 := c1.same (same_new (o := .lst []) hp2)
      generalize upd H1 p2 (.lst []) = H2 at c2 st2
      refine ⟨(by show 0 ≤ sizeLine; decide), fun p3 hp3 => ?_⟩
      have st3 := st2.add (o := .tup []) c2.dr hp3
      have c3 := c2.same (same_new (o := .tup []) hp3)
      generalize upd H2 p3 (.tup []) = H3 at c3 st3
      refine ⟨(by show 1 ≤ sizeLine; decide), fun p4 hp4 => ?_⟩
      have st4 := st3.add (o := .lst [.int 0]) c3.dr hp4
      have c4 := c3.same (same_new (o := .lst [.int 0]) hp4)
      generalize upd H3 p4 (.lst [.int 0]) = H4 at c4 st4
      refine ⟨14, rfl, RgOk.of_le (by decide) (by decide) (by decide) (by decide), fun p5 hp5 => ?_⟩
      have st5 := st4.add (o := .lst (rgV 0 14)) c4.dr hp5
      have c5 := c4.same (same_new (o := .lst (rgV 0 14)) hp5)
      generalize upd H4 p5 (.lst (rgV 0 14)) = H5 at c5 st5
      refine ⟨(by show 2 ≤ sizeLine; decide), fun p6 hp6 => ?_⟩
      have st6 := st5.add (o := .lst [.int 0, .int 1]) c5.dr hp6
      have c6 := c5.same (same_new (o := .lst [.int 0, .int 1]) hp6)
      generalize upd H5 p6 (.lst [.int 0, .int 1]) = H6 at c6 st6
      refine ⟨(by show 1 ≤ sizeLine; decide), fun p7 hp7 => ?_⟩
      have st7 := st6.add (o := .lst [.ref p6]) c6.dr hp7
      have c7 := c6.same (same_new (o := .lst [.ref p6]) hp7)
      generalize upd H6 p7 (.lst [.ref p6]) = H7 at c7 st7
      refine ⟨(by show 4 ≤ sizeLine; decide), fun p8 hp8 => ?_⟩
      have st8 := st7.add (o := .tup [.int 0, .int 1, .int 2, .int 2]) c7.dr hp8
      have c8 := c7.same (same_new (o := .tup [.int 0, .int 1, .int 2, .int 2]) hp8)
      generalize upd H7 p8 (.tup [.int 0, .int 1, .int 2, .int 2]) = H8 at c8 st8
      refine ⟨13, rfl, RgOk.of_le (by decide) (by decide) (by decide) (by decide), fun p9 hp9 => ?_⟩
      have st9 := st8.add (o := .lst (rgV 0 13)) c8.dr hp9
      have c9 := c8.same (same_new (o := .lst (rgV 0 13)) hp9)
      generalize upd H8 p9 (.lst (rgV 0 13)) = H9 at c9 st9
      refine ⟨(by show 11 ≤ sizeLine; decide), fun l hl => ?_⟩
      refine ⟨D, l, _, rfl, .inl (SqL.of upd_same), (c9.dr.off hl).2.1, by simp, (by show 11 < 1073741824; decide), c9.dr.new hl, fun i x Hx hi dx kx => ?_⟩
      have kk := (Kp.new (D := D) (o := .lst [.non, .int 5, .str "01", .ref p1, .ref p2, .ref p3, .ref p4, .ref p5, .ref p7, .ref p8, .ref p9]) hl).trans kx
      have cx := c9.kpd dx kk
      have sx := st9.kp kk
      have r14 : ∀ x ∈ rgI 14, -1 ≤ x ∧ x ≤ 99 := by decide
      have r13 : ∀ x ∈ rgI 13, -1 ≤ x ∧ x ≤ 99 := by decide
      have fin := k x Hx (by
        have hx := List.mem_of_getElem? hi
        simp only [List.mem_cons, List.not_mem_nil, or_false] at hx
        rcases hx with rfl | rfl | rfl | rfl | rfl | rfl | rfl | rfl | rfl | rfl | rfl
        · exact ⟨⟨_, .non .non (.inl rfl)⟩, _, .non⟩
        · exact ⟨⟨_, .non (.int 5) (.inr (.inl rfl))⟩, _, .int (by decide)⟩
        · exact ⟨⟨_, .non (.str _) (.inr (.inr (.inl rfl)))⟩, _, .str (by decide +kernel)⟩
        · have g : Hx p1 = some (.dK dic01) := sx.of (by repeat (first | exact List.mem_cons_self | apply List.mem_cons_of_mem))
          exact ⟨⟨_, .non (.dK g) (.inr (.inr (.inr rfl)))⟩, _, .dic g⟩
        · exact near_lst (SqL.of (sx.of (o := .lst []) (by repeat (first | exact List.mem_cons_self | apply List.mem_cons_of_mem)))) (by decide) (fun y hy => absurd hy (by simp))
        · exact near_tupB (SqT.of (sx.of (o := .tup []) (by repeat (first | exact List.mem_cons_self | apply List.mem_cons_of_mem)))) (by decide) (fun y hy => absurd hy (by simp)) noE
        · exact near_lst (SqL.of (sx.of (o := .lst [.int 0]) (by repeat (first | exact List.mem_cons_self | apply List.mem_cons_of_mem)))) (by decide) (itts (ns := [0]) (by decide))
        · have g : Hx p5 = some (.lst (rgV 0 14)) := sx.of (by repeat (first | exact List.mem_cons_self | apply List.mem_cons_of_mem))
          rw [rgV_rgI (by decide)] at g
          exact near_lst (SqL.of g) (by decide) (itts r14)
        · have g7 : Hx p7 = some (.lst [.ref p6]) := sx.of (by repeat (first | exact List.mem_cons_self | apply List.mem_cons_of_mem))
          have g6 : Hx p6 = some (.lst [.int 0, .int 1]) := sx.of (by repeat (first | exact List.mem_cons_self | apply List.mem_cons_of_mem))
          exact near_lst (SqL.of g7) (by show 1 ≤ 20; decide) (fun y hy => by
            rw [List.mem_singleton.mp hy]
            exact ⟨.list [.int 0, .int 1], _, .lst (SqL.of g6) (.cons (.int 0) (.cons (.int 1) .nil)), ⟨by decide +kernel, by decide +kernel, by decide +kernel, by decide +kernel⟩, .lst (SqL.of g6), by decide, by decide⟩)
        · exact near_tupB (SqT.of (sx.of (o := .tup [.int 0, .int 1, .int 2, .int 2]) (by repeat (first | exact List.mem_cons_self | apply List.mem_cons_of_mem)))) (by show 4 ≤ 20; decide) (itts (ns := [0, 1, 2, 2]) (by decide)) no4
        · have g : Hx p9 = some (.lst (rgV 0 13)) := sx.of (by repeat (first | exact List.mem_cons_self | apply List.mem_cons_of_mem))
          rw [rgV_rgI (by decide)] at g
          exact near_lst (SqL.of g) (by decide) (itts r13)) cx.dr cx.kp
      refine ⟨_, rfl, rfl, _, rfl, ite2 (fun c => absurd c (by decide)) (fun _ => ?_)⟩
      exact ⟨_, rfl, fin⟩
    ·
      refine ⟨_, rfl, rfl, _, rfl, ite2 (fun c => absurd c (by decide)) (fun _ => ?_)⟩
      refine ⟨_, rfl, rfl, _, rfl, ite2 (fun c => absurd c (by decide)) (fun _ => ?_)⟩
      refine ⟨_, rfl, rfl, _, rfl, ite2 (fun c => absurd c (by decide)) (fun _ => ?_)⟩
      refine ⟨_, rfl, rfl, _, rfl, ite2 (fun c => absurd c (by decide)) (fun _ => ?_)⟩
      refine ⟨_, rfl, rfl, _, rfl, ite2 (fun c => absurd c (by decide)) (fun _ => ?_)⟩
      refine ⟨_, rfl, rfl, _, rfl, ite2 (fun c => absurd c (by decide)) (fun _ => ?_)⟩
      refine ⟨_, rfl, rfl, _, rfl, ite2 (fun c => absurd c (by decide)) (fun _ => ?_)⟩
      refine ⟨_, rfl, rfl, _, rfl, ite2 (fun _ => ?_) (fun c => absurd (by decide) c)⟩
      refine ⟨_, rfl, f, _, rfl, .inl ⟨SqL.of hf, fun p ob hp hob => ?_⟩⟩
      have c4 := c.same (same_new (o := .frz ob (.tup (row.map V.int))) hp)
      exact k _ _ (near_tup (FzT.new hob) (by rw [lm]; omega) (itts ri)) c4.dr c4.kp
    ·
      refine ⟨_, rfl, rfl, _, rfl, ite2 (fun c => absurd c (by decide)) (fun _ => ?_)⟩
      refine ⟨_, rfl, rfl, _, rfl, ite2 (fun c => absurd c (by decide)) (fun _ => ?_)⟩
      refine ⟨_, rfl, rfl, _, rfl, ite2 (fun c => absurd c (by decide)) (fun _ => ?_)⟩
      refine ⟨_, rfl, rfl, _, rfl, ite2 (fun c => absurd c (by decide)) (fun _ => ?_)⟩
      refine ⟨_, rfl, rfl, _, rfl, ite2 (fun c => absurd c (by decide)) (fun _ => ?_)⟩
      refine ⟨_, rfl, rfl, _, rfl, ite2 (fun c => absurd c (by decide)) (fun _ => ?_)⟩
      refine ⟨_, rfl, rfl, _, rfl, ite2 (fun c => absurd c (by decide)) (fun _ => ?_)⟩
      refine ⟨_, rfl, rfl, _, rfl, ite2 (fun c => absurd c (by decide)) (fun _ => ?_)⟩
      exact ⟨_, rfl, k _ _ (near_lst (SqL.of hf) (by rw [lm]; omega) (itts ri)) c.dr c.kp⟩
end
end Tt
set_option maxRecDepth 100000
set_option maxHeartbeats 4000000
namespace Tt
open PySem L2
open LamX (Tabs TabS TabB ExtN CodeO tLam)
section
variable {X : Cx} {p p1 p2 p3 p4 pos : Pos} {to t : TE}
theorem gen_ap (hl : (p2.endLine == pos.line) = true) (h1 : PE X (.Name "found" p1) to) (h2 : PE X (.Call (.Name "Skin" p) [.Name "thing" p3] [] p4) t) : PE X (.Call (.Attribute (.Name "found" p1) "append" p2) [.Call (.Name "Skin" p) [.Name "thing" p3] [] p4] [] pos) (tBM X.K "list" rAppend to (tCons t tNil)) :=
  pe_bm PySem.F.plainAttrs_list PySem.F.slot_list_append PySem.F.type_list_append mt_append h1 (pa_cons h2 pa_nil) rfl rfl hl rfl rfl
end
section
variable {X : Cx} {A : Around} {outer : List Env} {s : Shared} {H : Hp} {E : XK} {lsc : Scope} {fl co : Addr} {p p1 p2 p3 p4 pos : Pos} {kk k2 : Nat}
theorem lb_sk (T : Txt X.K X.mg) (hr : Room 5 (A.deeper (LamX.lamEnv X lsc s.heap.objs.size fl co))) (n3 : X.N[3]? = some ("thing" : Str)) (n4 : X.N[4]? = some ("found" : Str)) (v3 : Vis lsc "thing") (v4 : Vis lsc "found") (hg : Gl (LamX.lamCx X A outer s H E lsc fl co) "Skin") (hl : (p2.endLine == pos.line) = true) :
    PE (LamX.lamCx X A outer s H E lsc fl co) (.Call (.Attribute (.Name "found" p1) "append" p2) [.Call (.Name "Skin" p) [.Name "thing" p3] [] p4] [] pos) (tBM X.K "list" rAppend (tVar 4) (tCons (tMake T.Skin.C (spSkinI T) [] E (tCons (tVar 3) tNil)) tNil)) :=
  gen_ap (X := LamX.lamCx X A outer s H E lsc fl co) hl (pv (X := LamX.lamCx X A outer s H E lsc fl co) 4 n4 v4) (pe_make (X := LamX.lamCx X A outer s H E lsc fl co) (CX := L2.CX X.prog X.w) T.Skin.kk (ok_Skin_init T) hr hg T.Skin.g T.Skin.b .nil lamP (pa_cons (pv (X := LamX.lamCx X A outer s H E lsc fl co) 3 n3 v3) pa_nil))
theorem lb_ne (T : Txt X.K X.mg) (hr : Room 4 (A.deeper (LamX.lamEnv X lsc s.heap.objs.size fl co))) (n1 : X.N[1]? = some ("skin" : Str)) (n5 : X.N[5]? = some ("bad" : Str)) (v1 : Vis lsc "skin") (v5 : Vis lsc "bad") (hg : Gl (LamX.lamCx X A outer s H E lsc fl co) "next_end") :
    PE (LamX.lamCx X A outer s H E lsc fl co) (.Call (.Name "next_end" p) [.Name "skin" p1, .Name "bad" p2] [] pos) (tCall (spNext T) [] E (tCons (tVar 1) (tCons (tVar 5) tNil))) := by
  refine pe_call (CX := L2.CX X.prog X.w) (ok_next_end T) hr hg T.next_end.g T.next_end.k T.next_end.b .nil lamP (pa_cons ?_ (pa_cons ?_ pa_nil))
  · exact pv (X := LamX.lamCx X A outer s H E lsc fl co) 1 n1 v1
  · exact pv (X := LamX.lamCx X A outer s H E lsc fl co) 5 n5 v5
theorem lb_nl (T : Txt X.K X.mg) (hr : Room 4 (A.deeper (LamX.lamEnv X lsc s.heap.objs.size fl co))) (n2 : X.N[2]? = some ("line" : Str)) (n5 : X.N[5]? = some ("bad" : Str)) (v2 : Vis lsc "line") (v5 : Vis lsc "bad") (hg : Gl (LamX.lamCx X A outer s H E lsc fl co) "next_end") :
    PE (LamX.lamCx X A outer s H E lsc fl co) (.Call (.Name "next_end" p) [.Name "line" p1, .Name "bad" p2] [] pos) (tCall (spNext T) [] E (tCons (tVar 2) (tCons (tVar 5) tNil))) := by
  refine pe_call (CX := L2.CX X.prog X.w) (ok_next_end T) hr hg T.next_end.g T.next_end.k T.next_end.b .nil lamP (pa_cons ?_ (pa_cons ?_ pa_nil))
  · exact pv (X := LamX.lamCx X A outer s H E lsc fl co) 2 n2 v2
  · exact pv (X := LamX.lamCx X A outer s H E lsc fl co) 5 n5 v5
theorem lb_nn (T : Txt X.K X.mg) (hr : Room 4 (A.deeper (LamX.lamEnv X lsc s.heap.objs.size fl co))) (hg : Gl (LamX.lamCx X A outer s H E lsc fl co) "next_end") :
    PE (LamX.lamCx X A outer s H E lsc fl co) (.Call (.Name "next_end" p) [.Constant .none kk p1, .Constant .none k2 p2] [] pos) (tCall (spNext T) [] E (tCons (tC .non) (tCons (tC .non) tNil))) :=
  pe_call (CX := L2.CX X.prog X.w) (ok_next_end T) hr hg T.next_end.g T.next_end.k T.next_end.b .nil lamP (pa_cons pe_non (pa_cons pe_non pa_nil))
end
section
variable {P : Program} {w : World} {K : PySem.W.Frag} {mg : Str → Option Value} {base : Heap}
theorem sw_next_end (T : Txt K mg) : Swaps T.next_end.fd "skin" "end" := T.next_end.F.swaps fun _ _ _ _ _ _ _ _ => rfl
theorem exm_N (T : Txt K mg) : PySem.W.exmOne K (.ref T.BadNumber.C) (.ref T.RoundError.C) = some true := PySem.W.exm_ref T.RoundError.ec.hs T.RoundError.ec.hd T.RoundError.ty T.sNR
def jQ : Str := (("_law_judged" : Str) ++ ".<locals>.") ++ "<lambda>"
def eQ : Str := (("_law_ends_right" : Str) ++ ".<locals>.") ++ "<lambda>"
def lQ : Str := (("law" : Str) ++ ".<locals>.") ++ "<lambda>"
abbrev jTs (T : Txt K mg) : List (Addr × Str) := [(T.jP, jQ), (T.eP, eQ), (T.lP, lQ)]
structure TBs (T : Txt K mg) (base : Heap) : Prop where
  j : TabB base mg T.jc T.jP
  e : TabB base mg T.ec T.eP
theorem tabs_put {Ts : List (Addr × Str)} {H : Hp} {f : Addr} {xs : List V} {o : HO} (t : Tabs Ts H) (hf : H f = some (.lst xs)) : Tabs Ts (upd H f o) := fun p hp => by
  obtain ⟨ps, h1, h2, h3⟩ := t p hp
  refine ⟨ps, ?_, h2, fun pos cv hc => ?_⟩
  · rw [upd_ne]
    · exact h1
    · intro z
      rw [z, hf] at h1
      cases h1
  · obtain ⟨c, e1, e2⟩ := h3 pos cv hc
    refine ⟨c, e1, ?_⟩
    rw [upd_ne]
    · exact e2
    · intro z
      rw [z, hf] at e2
      cases e2
structure Jj (K : PySem.W.Frag) (Ts : List (Addr × Str)) (D : Dw) (t : Addr) (row : List Int) (H0 H : Hp) : Prop where
  ln : FzT H t (row.map V.int)
  dr : DrOk D H
  tb : Tabs Ts H
  kp : KpN D H0 H
section
variable {T : Txt K mg} {Ts : List (Addr × Str)} {D : Dw} {t : Addr} {row : List Int} {H0 H H' : Hp}
theorem Jj.ext (j : Jj K Ts D t row H0 H) (e : ExtN H H') (tb : Tabs Ts H') : Jj K Ts D t row H0 H' := ⟨fzT_ext e j.ln, drOk_ext j.dr e, tb, j.kp.trans (.ext e)⟩
theorem Jj.same (j : Jj K Ts D t row H0 H) (e : Same H H') : Jj K Ts D t row H0 H' := j.ext (.of e) (j.tb.ext e)
theorem Jj.kpd (j : Jj K Ts D t row H0 H) (d : DrOk D H') (k : Kp D H H') : Jj K Ts D t row H0 H' := ⟨FzT.kp j.ln j.dr k, d, tabs_kp j.tb j.dr k, j.kp.trans (.of k)⟩
def Later (D : Dw) (H0 : Hp) (f : Addr) : Prop := ∀ b o, H0 b = some o → b ≠ D.d → b ≠ D.l → (∀ ps, o ≠ .tbl ps) → b ≠ f
theorem Later.of {f : Addr} (k : KpN D H0 H) (n : H f = none) : Later D H0 f := fun b o h n1 n2 n3 z => by
  rw [← z, k b o h n1 n2 n3] at n
  cases n
theorem Jj.put {f : Addr} {xs : List V} {o : HO} (j : Jj K Ts D t row H0 H) (l : Later D H0 f) (of : Off D f) (hf : H f = some (.lst xs)) : Jj K Ts D t row H0 (upd H f o) :=
  ⟨FzT.ne j.ln hf (fun _ _ z => nomatch z), j.dr.put of, tabs_put j.tb hf, fun b u e n1 n2 n3 => by rw [upd_ne (l b u e n1 n2 n3)]; exact j.kp b u e n1 n2 n3⟩
theorem sqL_put {a f : Addr} {xs : List V} {o : HO} (h : SqL K H a xs) (hf : H f = some (.lst [])) (ne : xs ≠ []) : SqL K (upd H f o) a xs := by
  rcases h with (h | ⟨ob, h⟩) | h
  · refine .inl (.inl ?_)
    rw [upd_ne]
    · exact h
    · intro z
      rw [z, hf] at h
      cases h
      exact ne rfl
  · refine .inl (.inr ⟨ob, ?_⟩)
    rw [upd_ne]
    · exact h
    · intro z
      rw [z, hf] at h
      cases h
  · exact .inr h
theorem lam_sk {σ : L2.St} {Q : VK} {x : V} {b : Bool} {fo : Addr} (j : Jj K Ts D t row H0 H) (h3 : σ[3]? = some (some x)) (h4 : σ[4]? = some (some (.ref fo))) (hf : H fo = some (.lst [])) (of : Off D fo) (lt : Later D H0 fo) (hx : Thg K H x b)
    (k1 : b = true → ∀ p t2 rw2 H', x = .ref t2 → (SqL K H t2 (rw2.map V.int) ∨ FzT H t2 (rw2.map V.int)) → (∃ n, 1 ≤ n ∧ n ≤ 6 ∧ rw2.Perm (rgI (2 * n))) → (∀ xs, xs ≠ [] → SqL K H t2 xs → SqL K H' t2 xs) → (∀ xs, FzT H t2 xs → FzT H' t2 xs) → Jj K Ts D t row H0 H' → H' fo = some (.lst [.ref p]) → SkAt T H' p (trn rw2) → Q .non H')
    (k2 : b = false → ∀ a d H', Jj K Ts D t row H0 H' → ExtN H H' → H' a = some (exh (.ref T.BadSkin.C) (some d) a) → H' d = some (.xd [("part", .str "row")]) → Q (.ref a) H') :
    tLam Ts (TTc K T.RoundError.C) (fun E => tBM K "list" rAppend (tVar 4) (tCons (tMake T.Skin.C (spSkinI T) [] E (tCons (tVar 3) tNil)) tNil)) σ H Q := by
  refine ⟨j.tb, fun H1 e1 t1 => ?_⟩
  have j1 := j.ext e1 t1
  have hf1 : H1 fo = some (.lst []) := e1 _ _ hf fun _ z => nomatch z
  have hx1 := hx.ext e1
  refine ⟨_, h4, .inl ⟨rfl, _, SqL.of hf1⟩, _, h3, fun p dx hp hdx ne => ?_⟩
  have sM : Same H1 (upd (upd H1 dx (.own p)) p (.ins T.Skin.C dx [])) := fun b o hb => by
    rw [upd_ne (ne_of_none hb hp), upd_ne (ne_of_none hb hdx)]
    exact hb
  have hp2 : (upd (upd H1 dx (.own p)) p (.ins T.Skin.C dx [])) p = some (.ins T.Skin.C dx []) := upd_same
  have hx2 := hx1.ext (.of sM)
  generalize upd (upd H1 dx (.own p)) p (.ins T.Skin.C dx []) = H2 at sM hp2 hx2
  cases b with
  | false =>
    refine ⟨p, dx, x, rfl, hp2, .inl ⟨hx2.row, fun d H3 s3 hd => ⟨exm_S T, fun a ha => ?_⟩⟩⟩
    exact k2 rfl a d _ (((j1.same sM).same s3).same (same_new ha)) (e1.trans (.of ((sM.trans s3).trans (same_new ha)))) upd_same (upk ha hd)
  | true =>
    obtain ⟨t2, n, rw2, rfl, hs, n1, n6, pm⟩ : ∃ (t2 : Addr) (n : Nat) (rw2 : List Int), x = .ref t2 ∧ (SqL K H t2 (rw2.map V.int) ∨ FzT H t2 (rw2.map V.int)) ∧ 1 ≤ n ∧ n ≤ 6 ∧ rw2.Perm (rgI (2 * n)) := by
      cases hx with
      | lst h n ty hb =>
        obtain ⟨m, rw2, m1, m6, e, pm⟩ := hb.mp rfl
        subst e
        exact ⟨_, m, rw2, rfl, .inl h, m1, m6, pm⟩
      | tup h n ty hb hz =>
        obtain ⟨m, rw2, m1, m6, e, pm⟩ := hb.mp rfl
        subst e
        exact ⟨_, m, rw2, rfl, .inr (hz rfl), m1, m6, pm⟩
    have up : ∀ {Ha Hb : Hp}, Same Ha Hb → (SqL K Ha t2 (rw2.map V.int) ∨ FzT Ha t2 (rw2.map V.int)) → (SqL K Hb t2 (rw2.map V.int) ∨ FzT Hb t2 (rw2.map V.int)) := fun s h => h.elim (fun h => .inl (sqL_ext (.of s) h)) fun h => .inr (FzT.same h s)
    refine ⟨p, dx, _, rfl, hp2, .inr ⟨t2, n, rw2, rfl, up sM (hs.elim (fun h => .inl (sqL_ext e1 h)) fun h => .inr (fzT_ext e1 h)), n1, n6, pm, fun H3 sk k3 => ⟨rfl, ?_⟩⟩⟩
    have s3 : Same H1 H3 := fun b o hb => k3 b o (sM b o hb) (ne_of_none hb hp)
    have hf3 := s3 _ _ hf1
    refine ⟨fo, [], .ref p, rfl, rfl, hf3, by decide, ?_⟩
    have hlen := perm_len pm
    refine k1 rfl p t2 rw2 _ rfl hs ⟨n, n1, n6, pm⟩ (fun xs ne h => sqL_put (sqL_ext (.of s3) (sqL_ext e1 h)) hf3 ne) (fun xs h => FzT.ne (FzT.same (fzT_ext e1 h) s3) hf3 fun _ _ z => nomatch z) ((j1.same s3).put lt of hf3) upd_same ?_
    obtain ⟨dx', r, q, a1, a2, a3⟩ := sk
    refine ⟨dx', r, q, ?_, FzT.ne a2 hf3 (fun _ _ z => nomatch z), FzT.ne a3 hf3 (fun _ _ z => nomatch z)⟩
    rw [upd_ne]
    · exact a1
    · intro z
      rw [z, hf3] at a1
      cases a1
end
end
end Tt
set_option maxRecDepth 100000
set_option maxHeartbeats 4000000
namespace Tt
open PySem L2
open LamX (Tabs TabS TabB ExtN CodeO tLam)
section
variable {P : Program} {w : World} {K : PySem.W.Frag} {mg : Str → Option Value} {base : Heap}
mutual
theorem dp_same {H H' : Hp} (s : Same H H') : ∀ (d : PyData) (v : V), Dp K H v d → Dp K H' v d
  | .none, _, h => by cases h; constructor
  | .bool _, _, h => by cases h; constructor
  | .int _, _, h => by cases h; constructor
  | .str _, _, h => by cases h; constructor
  | .list ds, _, h => by
    cases h with
    | lst h1 h2 => exact .lst (sqL_ext (.of s) h1) (dpAll_same s ds _ h2)
  | .tuple ds, _, h => by
    cases h with
    | tup h1 h2 => exact .tup (sqT_ext (.of s) h1) (dpAll_same s ds _ h2)
  | .dict _, _, h => by cases h
theorem dpAll_same {H H' : Hp} (s : Same H H') : ∀ (ds : List PyData) (vs : List V), DpAll K H vs ds → DpAll K H' vs ds
  | [], _, h => by cases h; exact .nil
  | d :: ds, _, h => by
    cases h with
    | cons h1 h2 => exact .cons (dp_same s d _ h1) (dpAll_same s ds _ h2)
end
theorem shw_same {H H' : Hp} {x : V} {t : Str} (h : Shw K H x t) (s : Same H H') : Shw K H' x t := by
  cases h with
  | non => exact .non
  | int h => exact .int h
  | str h => exact .str h
  | ref h h1 h2 h3 h4 => exact .ref (dp_same s _ _ h) h1 h2 h3 h4
  | dic h => exact .dic (s _ _ h)
theorem shw_L {H : Hp} {t : Addr} {row : List Int} {n : Nat} (h : SqL K H t (row.map V.int)) (n6 : n ≤ 6) (pm : row.Perm (rgI (2 * n))) : Shw K H (.ref t) (PyData.list (row.map PyData.int)).shown := by
  have b : ∀ d ∈ row.map PyData.int, Gd d := fun d hd => by
    obtain ⟨i, hi, rfl⟩ := List.mem_map.mp hd
    have := (perm_mem pm).mp hi
    exact gd_int (by omega) (by omega)
  have hl := perm_len pm
  obtain ⟨l1, l2⟩ := gd_ln _ b
  rw [List.length_map] at l1 l2
  have h0 := listText_len_le (PyData.shownAll (row.map PyData.int))
  have z := sz1000
  exact .ref (.lst h (dpAll_ints _ _)) (gd_sh _ b) (gd_hd _ b) (by have := gd_dp _ b; show PyData.depthAll _ + 1 ≤ 60; omega) (by show (listText (PyData.shownAll _)).length ≤ sizeLine; omega)
theorem shw_T {H : Hp} {t : Addr} {row : List Int} {n : Nat} (h : SqT K H t (row.map V.int)) (n6 : n ≤ 6) (pm : row.Perm (rgI (2 * n))) : Shw K H (.ref t) (PyData.tuple (row.map PyData.int)).shown := by
  have b : ∀ d ∈ row.map PyData.int, Gd d := fun d hd => by
    obtain ⟨i, hi, rfl⟩ := List.mem_map.mp hd
    have := (perm_mem pm).mp hi
    exact gd_int (by omega) (by omega)
  have hl := perm_len pm
  obtain ⟨l1, l2⟩ := gd_ln _ b
  rw [List.length_map] at l1 l2
  have h0 := tupleText_len_le (PyData.shownAll (row.map PyData.int))
  have z := sz1000
  exact .ref (.tup h (dpAll_ints _ _)) (gd_sh _ b) (gd_hd _ b) (by have := gd_dp _ b; show PyData.depthAll _ + 1 ≤ 60; omega) (by show (tupleText (PyData.shownAll _)).length ≤ sizeLine; omega)
def spJudged (T : Txt K mg) : Sp := fun vs H Q _ => ∃ (D : Dw) (t : Addr) (row : List Int) (n : Nat), vs = [.ref D.d, .ref t] ∧ FzT H t (row.map V.int) ∧ 1 ≤ n ∧ n ≤ 6 ∧ row.Perm (rgI (2 * n)) ∧ DrOk D H ∧ Tabs (jTs T) H ∧
  ∀ H', DrOk D H' → KpN D H H' → Tabs (jTs T) H' → Q (.bl true) H'
theorem ok_l_judged (T : Txt K mg) (TBj : TBs T base) : FnG P w K mg base CX0 9 T.l_judged.a T.l_judged.fd ["draw", "line"] (spJudged T) := by
  have TB := TBj.j
  have hmT : (T.jP, (("_law_judged" : Str) ++ ".<locals>.") ++ "<lambda>") ∈ jTs T := List.mem_cons_self
  have hu : ∀ p ∈ jTs T, p.1 = T.jP → p.2 = (("_law_judged" : Str) ++ ".<locals>.") ++ "<lambda>" := fun p hp hq => by
    rcases List.mem_cons.mp hp with e | hp
    · subst e
      exact Eq.refl jQ
    · rcases List.mem_cons.mp hp with e | hp
      · subst e
        exact absurd hq.symm T.ne_2
      · have e := List.mem_singleton.mp hp
        subst e
        exact absurd hq.symm T.ne
  refine T.jF.okG sc_l_judged (fun vs H Q E h => ?_) (fun A outer s H vs Q E hA hr h => ?_)
  · obtain ⟨D, t, row, n, rfl, _⟩ := h
    rfl
  · obtain ⟨D, t, row, n, rfl, ht, n1, n6, pm, dr, tb, k⟩ := h
    have nd := sc_l_judged.nd
    have hg : (cxOf CX0 P w K mg base N_l_judged "_law_judged" (defScope s_l_judged) T.l_judged.a (.ref T.jc) A outer s H E).nox.A.guards = some [] := hA
    refine ⟨_, (pss_cons (ps_for PassesOwn.never rfl (pi_range1 rfl T.zrange (pa_cons pe_int pa_nil)) (pg_name (i := 2) nd rfl (Or.inl rfl))
      (pss_cons (ps_asg (pe_tup (pa_cons (pe_call (ok_l_near T) (hr.mono (by decide)) (by rfl) T.l_near.g T.l_near.k T.l_near.b .nil pass0 (pa_cons (pv 0) (pa_cons (pv 1) pa_nil))) (pa_cons (pe_lst pa_nil) pa_nil))) (pg_tup rfl (pgs_cons (pg_name (i := 3) nd rfl (Or.inr rfl)) (pgs_cons (pg_name (i := 4) nd rfl (Or.inr rfl)) pgs_nil))))
      (pss_cons (ps_set (i := 5) nd rfl (Or.inl rfl) (pe_callB (call_showV hg hr.units) (by rfl) T.zrepr (by decide +kernel) (pa_cons (pv 3) pa_nil)))
      (pss_cons (ps_set (i := 6) nd rfl (Or.inl rfl) (pe_caught (k := 5) T (by rfl) TB rfl hmT hu (hr.mono (by decide)) (LamX.lamS_by (sc := defScope s_l_judged) (by decide +kernel)) rfl (fun _ _ _ _ _ => rfl) (fun _ _ _ _ _ _ _ hr => lb_sk T hr rfl rfl (Or.inr (Or.inr rfl)) (Or.inr (Or.inr rfl)) (by rfl) rfl)))
      (pss_one (ps_if (pt_val (pe_call (ok_l_is_row T) (hr.mono (by decide)) (by rfl) T.l_is_row.g T.l_is_row.k T.l_is_row.b .nil pass0 (pa_cons (pv 3) pa_nil)))
        (pss_one (ps_if (PW.pt (pw_or (pt_cmpR op_notN (pv 6) pe_non (nomark _)) (pw_or (pt_cmpR (op_neD hr.units) (pe_fld (pe_ix ix_list (pv 4) pe_int (fun _ _ => rfl)) rfl) (pe_call (ok_l_turned T) (hr.mono (by decide)) (by rfl) T.l_turned.g T.l_turned.k T.l_turned.b .nil pass0 (pa_cons (pv 3) pa_nil)) (nomark _)) (pw_or1 (pt_cmpR op_ne (pe_callB (call_showV hg hr.units) (by rfl) T.zrepr (by decide +kernel) (pa_cons (pv 3) pa_nil)) (pv 5) (nomark _))))))
          (pss_one (ps_ret pe_bl))
          pss_nil))
        (pss_one (ps_if (PW.pt (pw_or (pt_not (pt_val (pe_callB call_isA (by rfl) T.zisinstance (by decide +kernel) (pa_cons (pv 6) (pa_cons (pe_glob (v := .ref T.BadSkin.C) rfl T.BadSkin.g rfl) pa_nil))))) (pw_or1 (pt_cmpR op_ne (pe_xfH (pv 6)) pe_str (nomark _)))))
          (pss_one (ps_ret pe_bl))
          pss_nil))))))))
    (pss_one (ps_ret pe_bl))), ?_⟩
    have j0 : Jj K (jTs T) D t row H H := ⟨ht, dr, tb, fun _ _ h _ _ _ => h⟩
    refine ⟨_, rfl, by decide, by decide, ?_⟩
    refine for_range (lo := 0) (fun i σ H' => ∃ v2 v3 v4 v5 v6, σ = [some (.ref D.d), some (.ref t), v2, v3, v4, v5, v6] ∧ Jj K (jTs T) D t row H H') ⟨none, none, none, none, none, rfl, j0⟩ ?_ ?_
    · rintro i σ H1 hi ⟨v2, v3, v4, v5, v6, rfl, j1⟩
      refine ⟨_, rfl, _, rfl, D, t, row, n, rfl, j1.ln, n1, n6, pm, j1.dr, fun x H2 nv d2 k2 => ⟨(by show 0 ≤ sizeLine; decide), fun fo hfo => ⟨(by show 2 ≤ sizeLine; decide), fun tp htp => ?_⟩⟩⟩
      have j2 := j1.kpd d2 k2
      have lt : Later D H fo := .of j2.kp hfo
      have of : Off D fo := d2.off hfo
      have s2 : Same H2 (upd (upd H2 fo (.lst [])) tp (.tup [x, .ref fo])) := (same_new hfo).trans (same_new htp)
      have hf4 : (upd (upd H2 fo (.lst [])) tp (.tup [x, .ref fo])) fo = some (.lst []) := upk htp upd_same
      have ht4 : (upd (upd H2 fo (.lst [])) tp (.tup [x, .ref fo])) tp = some (.tup [x, .ref fo]) := upd_same
      generalize upd (upd H2 fo (.lst [])) tp (.tup [x, .ref fo]) = H4 at s2 hf4 ht4
      have j4 := j2.same s2
      obtain ⟨⟨b, th⟩, txt0, sh0⟩ := nv
      have th4 := th.ext (.of s2)
      refine ⟨tp, [x, .ref fo], rfl, SqT.of ht4, rfl, ?_⟩
      obtain ⟨txt, sh, again⟩ : ∃ txt, Shw K H4 x txt ∧ (b = true → ∀ t2 H', x = .ref t2 → (∀ xs, xs ≠ [] → SqL K H4 t2 xs → SqL K H' t2 xs) → (∀ xs, FzT H4 t2 xs → FzT H' t2 xs) → Shw K H' x txt) := by
        cases b with
        | false => exact ⟨txt0, shw_same sh0 s2, fun z => nomatch z⟩
        | true =>
          cases th4 with
          | lst h n' ty hb =>
            obtain ⟨m, rw2, m1, m6, e, pm2⟩ := hb.mp rfl
            subst e
            refine ⟨_, shw_L h m6 pm2, fun _ t2 H' e kl kt => ?_⟩
            cases e
            refine shw_L (kl _ (fun z => ?_) h) m6 pm2
            have := congrArg List.length z
            rw [List.length_map, perm_len pm2] at this
            simp at this
            omega
          | tup h n' ty hb hz =>
            obtain ⟨m, rw2, m1, m6, e, pm2⟩ := hb.mp rfl
            subst e
            refine ⟨_, shw_T h m6 pm2, fun _ t2 H' e kl kt => ?_⟩
            cases e
            exact shw_T (kt _ (hz rfl)).sq m6 pm2
      refine ⟨_, _, rfl, _, _, rfl, rfl, ?_⟩
      refine ⟨_, rfl, x, txt, rfl, sh, ?_⟩
      refine lam_sk (K := K) j4 rfl rfl hf4 of lt th4 (fun hb p t2 rw2 H5 ex hs hn kl kt j5 hf5 sk => ?_) (fun hb a d H5 j5 e5 ha hd => ?_)
      · subst hb
        subst ex
        have sh5 := again rfl t2 H5 rfl kl kt
        obtain ⟨m, m1, m6, pm2⟩ := hn
        have ne2 : rw2.map V.int ≠ [] := fun z => by
          have := congrArg List.length z
          rw [List.length_map, perm_len pm2] at this
          simp at this
          omega
        have hs5 : SqL K H5 t2 (rw2.map V.int) ∨ FzT H5 t2 (rw2.map V.int) := hs.elim (fun h => .inl (kl _ ne2 h)) fun h => .inr (kt _ h)
        have rv : RowV K H5 (.ref t2) true := hs5.elim (fun h => .lst h (by rw [List.length_map, perm_len pm2]; omega) (ints_ty rw2) (by simp only [true_iff]; exact ⟨m, rw2, m1, m6, rfl, pm2⟩)) fun h => .tup h.sq (by rw [List.length_map, perm_len pm2]; omega) (ints_ty rw2) (by simp only [true_iff]; exact ⟨m, rw2, m1, m6, rfl, pm2⟩)
        refine ⟨_, rfl, .ref t2, true, rfl, rv, fun H6 s6 => ⟨true, rfl, iteT ?_⟩⟩
        have j6 := j5.same s6
        have hf6 := s6 _ _ hf5
        have sk6 := sk.same s6
        have sh6 := shw_same sh5 s6
        have hs6 : SqL K H6 t2 (rw2.map V.int) ∨ FzT H6 t2 (rw2.map V.int) := hs5.elim (fun h => .inl (sqL_ext (.of s6) h)) fun h => .inr (FzT.same h s6)
        clear j4 j5 hf5 sk sh5 hs5 rv s6
        refine ⟨_, rfl, rfl, _, rfl, ite2 (fun c => absurd c (by decide)) (fun _ => ?_)⟩
        obtain ⟨dx, r, q, a1, a2, a3⟩ := id sk6
        refine ⟨_, rfl, fo, _, 0, _, rfl, rfl, SqL.of hf6, rfl, p, T.Skin.C, dx, _, _, rfl, a1, T.Skin.c, nRow T, skF_row .., ?_⟩
        refine ⟨_, rfl, t2, rw2, rfl, hs6, (perm_mem pm2).mpr (by omega), by rw [perm_len pm2]; omega, fun r2 H7 s7 f7 => ?_⟩
        refine ⟨_, _, .tup (FzT.same a2 s7).sq (dpAll_ints _ _), .tup f7.sq (dpAll_ints _ _), shapedTup _, shapedTup _, _, rfl, ?_⟩
        rw [eqv_tups, decide_eq_true rfl]
        refine iteF ?_
        refine ⟨_, rfl, _, txt, rfl, shw_same sh6 s7, _, rfl, rfl, _, rfl, ite2 (fun c => absurd c (by simp)) (fun _ => ?_)⟩
        exact ⟨_, _, _, _, _, rfl, j6.same s7⟩
      · subst hb
        have th5 := th4.ext e5
        refine ⟨_, rfl, x, false, rfl, th5.row, fun H6 s6 => ⟨false, rfl, iteF ?_⟩⟩
        have j6 := j5.same s6
        have ha6 := s6 _ _ ha
        have hd6 := s6 _ _ hd
        refine ⟨_, rfl, .inl ⟨a, T.BadSkin.C, some d, _, _, true, rfl, ha6, .inr ⟨d, _, rfl, hd6⟩, T.BadSkin.ec, .own T.BadSkin.C, T.kSkSk, _, rfl, iteF ?_⟩⟩
        refine ⟨_, rfl, a, T.BadSkin.C, d, _, .str "row", rfl, ha6, hd6, T.BadSkin.xf, T.BadSkin.n, rfl, rfl, _, rfl, ite2 (fun c => absurd c (by decide)) (fun _ => ?_)⟩
        exact ⟨_, _, _, _, _, rfl, j6⟩
    · rintro σ H' ⟨v2, v3, v4, v5, v6, rfl, j⟩
      exact k H' j.dr j.kp j.tb
end
end Tt
set_option maxRecDepth 100000
set_option maxHeartbeats 4000000
namespace Tt
open PySem L2
open LamX (Tabs TabS TabB ExtN CodeO tLam)
section
variable {P : Program} {w : World} {K : PySem.W.Frag} {mg : Str → Option Value} {base : Heap}
theorem nil_i {σ : L2.St} {H : Hp} {Q : List V → Hp → Prop} (h : Q [] H) : tNil σ H Q := h
theorem nxt_mem {row : List Int} {e : Int} (h : row ≠ []) : nxt row e ∈ row := List.mem_of_getElem? (nxt_at h)
theorem show2i {H : Hp} {Q : VK} {l : Addr} {z : Int} (h0 : -1 ≤ z) (h1 : z ≤ 99) (hl : SqL K H l [.int z, .int z]) (k : Q (.str (PyData.list [.int z, .int z]).shown) H) : rShow K [.ref l] H Q := by
  have b : ∀ d ∈ [PyData.int z, PyData.int z], Gd d := fun d hd => by
    simp only [List.mem_cons, List.not_mem_nil, or_false, or_self] at hd
    rw [hd]
    exact gd_int h0 h1
  obtain ⟨l1, l2⟩ := gd_ln _ b
  have h0 := listText_len_le (PyData.shownAll [PyData.int z, PyData.int z])
  have z' := sz1000
  have e2 : [PyData.int z, PyData.int z].length = 2 := rfl
  exact ⟨l, .list [.int z, .int z], rfl, .lst hl (.cons (.int z) (.cons (.int z) .nil)), gd_sh _ b, gd_hd _ b, by have := gd_dp _ b; show PyData.depthAll _ + 1 ≤ 60; omega, by show (listText (PyData.shownAll _)).length ≤ sizeLine; omega, k⟩
structure Ee (T : Txt K mg) (Ts : List (Addr × Str)) (D : Dw) (p t : Addr) (row : List Int) (H0 H : Hp) : Prop where
  sk : SkAt T H p row
  ln : FzT H t (row.map V.int)
  dr : DrOk D H
  tb : Tabs Ts H
  kp : KpN D H0 H
section
variable {T : Txt K mg} {Ts : List (Addr × Str)} {D : Dw} {p t : Addr} {row : List Int} {H0 H H' : Hp} {σ : L2.St} {Q : VK} {x : V} {n : Nat}
theorem Ee.ext (j : Ee T Ts D p t row H0 H) (e : ExtN H H') (tb : Tabs Ts H') : Ee T Ts D p t row H0 H' := ⟨skAt_ext j.sk e, fzT_ext e j.ln, drOk_ext j.dr e, tb, j.kp.trans (.ext e)⟩
theorem Ee.same (j : Ee T Ts D p t row H0 H) (e : Same H H') : Ee T Ts D p t row H0 H' := j.ext (.of e) (j.tb.ext e)
theorem lam_ne (j : Ee T Ts D p t row H0 H) (n1 : 1 ≤ n) (n6 : n ≤ 6) (pm : row.Perm (rgI (2 * n))) (h1 : σ[1]? = some (some (.ref p))) (h5 : σ[5]? = some (some x)) (hx : ∃ S, TyB K H x S ∧ inB 0 (hiE row) x = false)
    (k : ∀ a d H', Ee T Ts D p t row H0 H' → ExtN H H' → H' a = some (exh (.ref T.BadNumber.C) (some d) a) → H' d = some (.xd [("part", .str "end")]) → Q (.ref a) H') :
    tLam Ts (TTc K T.RoundError.C) (fun E => tCall (spNext T) [] E (tCons (tVar 1) (tCons (tVar 5) tNil))) σ H Q := by
  refine ⟨j.tb, fun H1 e1 t1 => ?_⟩
  have j1 := j.ext e1 t1
  obtain ⟨S, ty, nb⟩ := hx
  refine ⟨_, h1, _, h5, _, _, rfl, .inr ⟨p, row, n, S, rfl, j1.sk, n1, n6, pm, tyB_ext ty e1, .inl ⟨nb, fun d H2 s2 hd => ⟨exm_N T, fun a ha => ?_⟩⟩⟩⟩
  exact k a d _ ((j1.same s2).same (same_new ha)) (e1.trans (.of (s2.trans (same_new ha)))) upd_same (upk ha hd)
theorem lam_nl (j : Ee T Ts D p t row H0 H) (h2 : σ[2]? = some (some (.ref t))) (h5 : σ[5]? = some (some x))
    (k : ∀ a d H', Ee T Ts D p t row H0 H' → ExtN H H' → H' a = some (exh (.ref T.BadSkin.C) (some d) a) → H' d = some (.xd [("part", .non)]) → Q (.ref a) H') :
    tLam Ts (TTc K T.RoundError.C) (fun E => tCall (spNext T) [] E (tCons (tVar 2) (tCons (tVar 5) tNil))) σ H Q := by
  refine ⟨j.tb, fun H1 e1 t1 => ?_⟩
  have j1 := j.ext e1 t1
  refine ⟨_, h2, _, h5, _, _, rfl, .inl ⟨.tup j1.ln, fun d H2 s2 hd => ⟨exm_S T, fun a ha => ?_⟩⟩⟩
  exact k a d _ ((j1.same s2).same (same_new ha)) (e1.trans (.of (s2.trans (same_new ha)))) upd_same (upk ha hd)
end
def spEnds (T : Txt K mg) : Sp := fun vs H Q _ => ∃ (D : Dw) (p t : Addr) (row : List Int) (n : Nat), vs = [.ref D.d, .ref p, .ref t] ∧ SkAt T H p row ∧ FzT H t (row.map V.int) ∧ 1 ≤ n ∧ n ≤ 6 ∧ row.Perm (rgI (2 * n)) ∧ DrOk D H ∧ Tabs (jTs T) H ∧
  ∀ H', DrOk D H' → KpN D H H' → Tabs (jTs T) H' → Q (.bl true) H'
theorem ok_l_ends_right (T : Txt K mg) (TBj : TBs T base) : FnG P w K mg base CX0 9 T.l_ends_right.a T.l_ends_right.fd ["draw", "skin", "line"] (spEnds T) := by
  have TB := TBj.e
  have hmT : (T.eP, (("_law_ends_right" : Str) ++ ".<locals>.") ++ "<lambda>") ∈ jTs T := List.mem_cons_of_mem _ List.mem_cons_self
  have hu : ∀ p ∈ jTs T, p.1 = T.eP → p.2 = (("_law_ends_right" : Str) ++ ".<locals>.") ++ "<lambda>" := fun p hp hq => by
    rcases List.mem_cons.mp hp with e | hp
    · subst e
      exact absurd hq T.ne_2
    · rcases List.mem_cons.mp hp with e | hp
      · subst e
        exact Eq.refl eQ
      · have e := List.mem_singleton.mp hp
        subst e
        exact absurd hq.symm T.ne_1
  refine T.eF.okG sc_l_ends_right (fun vs H Q E h => ?_) (fun A outer s H vs Q E hA hr h => ?_)
  · obtain ⟨D, p, t, row, n, rfl, _⟩ := h
    rfl
  · obtain ⟨D, p, t, row, n, rfl, sk, ht, n1, n6, pm, dr, tb, k⟩ := h
    have nd := sc_l_ends_right.nd
    have hg : (cxOf CX0 P w K mg base N_l_ends_right "_law_ends_right" (defScope s_l_ends_right) T.l_ends_right.a (.ref T.ec) A outer s H E).nox.A.guards = some [] := hA
    have hlen := perm_len pm
    have lm : (row.map V.int).length = row.length := List.length_map ..
    have hne : row ≠ [] := fun z => by rw [z] at hlen; simp at hlen; omega
    have eh : hiE row = 2 * n - 1 := by unfold hiE; omega
    refine ⟨_, (pss_cons (ps_for PassesOwn.never rfl (pi_range1 rfl T.zrange (pa_cons (pe_callB call_len_seq (by rfl) T.zlen (by decide +kernel) (pa_cons (pv 2) pa_nil)) pa_nil)) (pg_name (i := 3) nd rfl (Or.inl rfl))
      (pss_cons (ps_set (i := 4) nd rfl (Or.inl rfl) (pe_ix ix_tup (pv 2) (pe_op op_mod (pe_callTy call_int1 (by rfl) T.zint (by decide +kernel) (pa_cons (pe_op op_add (pe_bmF PySem.F.plainAttrs_tuple PySem.F.slot_tuple_index PySem.F.type_tuple_index mt_tup_indexI (pv 2) (pa_cons (pv 3) pa_nil)) pe_int) pa_nil)) (pe_callB call_len_seq (by rfl) T.zlen (by decide +kernel) (pa_cons (pv 2) pa_nil))) (fun _ _ => rfl)))
      (pss_one (ps_if (pt_cmpR op_ne (pe_callB (call_show hg hr.units) (by rfl) T.zrepr (by decide +kernel) (pa_cons (pe_lst (pa_cons (pe_call (ok_next_end T) (hr.mono (by decide)) (by rfl) T.next_end.g T.next_end.k T.next_end.b .nil passF (pa_cons (pv 1) (pa_cons (pv 3) pa_nil))) (pa_cons (pe_callSw (ok_next_end T) (hr.mono (by decide)) (by rfl) T.next_end.g T.next_end.k (sw_next_end T) passF (pv 3) (pv 1)) pa_nil))) pa_nil)) (pe_callB (call_show hg hr.units) (by rfl) T.zrepr (by decide +kernel) (pa_cons (pe_lst (pa_cons (pv 4) (pa_cons (pv 4) pa_nil))) pa_nil)) (nomark _))
        (pss_one (ps_ret pe_bl))
        pss_nil))))
    (pss_cons (ps_for PassesOwn.never rfl (pi_list (pe_lst (pa_cons (pe_un un_neg pe_int) (pa_cons (pe_callB call_len_seq (by rfl) T.zlen (by decide +kernel) (pa_cons (pv 2) pa_nil)) (pa_cons pe_bl (pa_cons pe_non (pa_cons pe_str (pa_cons (pe_tup (pa_cons pe_int pa_nil)) (pa_cons pe_bl pa_nil))))))))) (pg_name (i := 5) nd rfl (Or.inr rfl))
      (pss_cons (ps_if (pt_not (pt_val (pe_call (ok_l_number_error T) (hr.mono (by decide)) (by rfl) T.l_number_error.g T.l_number_error.k T.l_number_error.b .nil pass0 (pa_cons (pe_caught (k := 4) T (by rfl) TB rfl hmT hu (hr.mono (by decide)) (LamX.lamS_by (sc := defScope s_l_ends_right) (by decide +kernel)) rfl (fun _ _ _ _ _ => rfl) (fun _ _ _ _ _ _ _ hr => lb_ne T hr rfl rfl (Or.inr (Or.inr rfl)) (Or.inr (Or.inr rfl)) (by rfl))) (pa_cons pe_str pa_nil)))))
        (pss_one (ps_ret pe_bl))
        pss_nil)
      (pss_one (ps_if (pt_not (pt_val (pe_call (ok_l_skin_error T) (hr.mono (by decide)) (by rfl) T.l_skin_error.g T.l_skin_error.k T.l_skin_error.b .nil pass0 (pa_cons (pe_caught (k := 4) T (by rfl) TB rfl hmT hu (hr.mono (by decide)) (LamX.lamS_by (sc := defScope s_l_ends_right) (by decide +kernel)) rfl (fun _ _ _ _ _ => rfl) (fun _ _ _ _ _ _ _ hr => lb_nl T hr rfl rfl (Or.inr (Or.inr rfl)) (Or.inr (Or.inr rfl)) (by rfl))) pa_nil))))
        (pss_one (ps_ret pe_bl))
        pss_nil))))
    (pss_one (ps_ret pe_bl)))), ?_⟩
    have j0 : Ee T (jTs T) D p t row H H := ⟨sk, ht, dr, tb, fun _ _ h _ _ _ => h⟩
    refine ⟨_, rfl, t, _, rfl, .inr ht.sq, _, rfl, by omega, by omega, ?_⟩
    refine for_range (lo := 0) (fun i σ H' => ∃ v3 v4 v5, σ = [some (.ref D.d), some (.ref p), some (.ref t), v3, v4, v5] ∧ Ee T (jTs T) D p t row H H') ⟨none, none, none, rfl, j0⟩ ?_ ?_
    · rintro i σ H1 hi ⟨v3, v4, v5, rfl, j1⟩
      have hi' : i < 2 * n := by rw [lm, hlen] at hi; omega
      have hm : (i : Int) ∈ row := (perm_mem pm).mpr (by omega)
      obtain ⟨i0, i1⟩ := idx_at hm
      have nm := (perm_mem pm).mp (nxt_mem (e := (i : Int)) hne)
      refine ⟨_, rfl, _, rfl, .inr ⟨rfl, t, _, rfl, j1.ln⟩, _, rfl, t, row, i, _, rfl, by rw [Int.zero_add], j1.ln.sq, i0, i1, ?_⟩
      refine ⟨_, _, rfl, rfl, .inl ⟨_, rfl, _, rfl, t, _, rfl, .inr j1.ln.sq, _, _, rfl, rfl, by rw [lm]; omega, ?_⟩⟩
      refine ⟨t, _, _, _, rfl, rfl, j1.ln.sq, (by rw [lm]; exact atI_n (j := (row.idxOf (i : Int) + 1) % row.length) (v := .int (nxt row (i : Int))) (ints_get (nxt_at hne))), ?_⟩
      refine ⟨_, rfl, _, rfl, _, _, rfl, .inr ⟨p, row, n, _, rfl, j1.sk, n1, n6, pm, .int _, .inr ⟨(i : Int), by rw [Int.zero_add], by omega, by omega, ?_⟩⟩⟩
      refine ⟨_, rfl, _, rfl, _, _, rfl, .inr ⟨p, row, n, _, rfl, j1.sk, n1, n6, pm, .int _, .inr ⟨(i : Int), by rw [Int.zero_add], by omega, by omega, (by show 2 ≤ sizeLine; decide), fun l hl => ?_⟩⟩⟩
      have j2 := j1.same (same_new (o := .lst [.int (nxt row (i : Int)), .int (nxt row (i : Int))]) hl)
      refine nil_i (show2i (K := K) (by omega) (by omega) (SqL.of upd_same) ?_)
      refine ⟨_, rfl, _, rfl, (by show 2 ≤ sizeLine; decide), fun l2 hl2 => ?_⟩
      have j3 := j2.same (same_new (o := .lst [.int (nxt row (i : Int)), .int (nxt row (i : Int))]) hl2)
      refine nil_i (show2i (K := K) (by omega) (by omega) (SqL.of upd_same) ⟨rfl, _, rfl, ite2 (fun c => absurd c (by simp)) (fun _ => ?_)⟩)
      exact ⟨_, _, _, rfl, j3⟩
    · rintro σ H1 ⟨v3, v4, v5, rfl, j1⟩
      refine ⟨1, rfl, _, rfl, t, _, rfl, .inr j1.ln.sq, (by show 1 ≤ sizeLine; decide), fun q hq => ⟨(by show 7 ≤ sizeLine; decide), fun l hl => ?_⟩⟩
      have j2 := (j1.same (same_new (o := .tup [.int 0]) hq)).same (same_new (o := .lst [.int (-1), .int ((row.map V.int).length : Int), .bl true, .non, .str "0", .ref q, .bl false]) hl)
      have gq := upk (u := .lst [.int (-1), .int ((row.map V.int).length : Int), .bl true, .non, .str "0", .ref q, .bl false]) hl (upd_same (H := H1) (a := q) (o := .tup [.int 0]))
      have gl : (upd (upd H1 q (.tup [.int 0])) l (.lst [.int (-1), .int ((row.map V.int).length : Int), .bl true, .non, .str "0", .ref q, .bl false])) l = some (.lst [.int (-1), .int ((row.map V.int).length : Int), .bl true, .non, .str "0", .ref q, .bl false]) := upd_same
      generalize upd (upd H1 q (.tup [.int 0])) l (.lst [.int (-1), .int ((row.map V.int).length : Int), .bl true, .non, .str "0", .ref q, .bl false]) = H2 at j2 gq gl
      refine ⟨l, rfl, ⟨_, SqL.of gl⟩, ?_⟩
      refine for_list (K := K) (a := l) (xs := [.int (-1), .int ((row.map V.int).length : Int), .bl true, .non, .str "0", .ref q, .bl false]) (fun i σ H' => ∃ v3 v4 v5, σ = [some (.ref D.d), some (.ref p), some (.ref t), v3, v4, v5] ∧ Ee T (jTs T) D p t row H H' ∧ ExtN H2 H')
        ⟨_, _, _, rfl, j2, .of fun _ _ z => z⟩ (fun i σ H' _ z => by obtain ⟨_, _, _, _, _, e⟩ := z; exact SqL.of (e _ _ gl fun _ z => nomatch z)) ?_ ?_
      · rintro i x σ H3 hi ⟨v3, v4, v5, rfl, j3, e3⟩
        have gq3 : H3 q = some (.tup [.int 0]) := e3 _ _ gq fun _ z => nomatch z
        have hx : ∃ S, TyB K H3 x S ∧ inB 0 (hiE row) x = false := by
          have hx := List.mem_of_getElem? hi
          simp only [List.mem_cons, List.not_mem_nil, or_false] at hx
          rcases hx with rfl | rfl | rfl | rfl | rfl | rfl | rfl
          · exact ⟨_, .int _, rfl⟩
          · refine ⟨_, .int _, ?_⟩
            show (decide (0 ≤ ((row.map V.int).length : Int)) && decide (((row.map V.int).length : Int) ≤ hiE row)) = false
            rw [decide_eq_false (show ¬ ((row.map V.int).length : Int) ≤ hiE row by rw [lm]; omega), Bool.and_false]
          · exact ⟨_, .bl _, rfl⟩
          · exact ⟨_, .non, rfl⟩
          · exact ⟨_, .str _, rfl⟩
          · exact ⟨_, .tup (SqT.of gq3), rfl⟩
          · exact ⟨_, .bl _, rfl⟩
        refine lam_ne (K := K) j3 n1 n6 pm rfl rfl hx fun a d H4 j4 e4 ha hd => ?_
        refine ⟨a, d, rfl, ha, hd, true, rfl, iteF ?_⟩
        refine lam_nl (K := K) j4 rfl rfl fun a2 d2 H5 j5 e5 ha2 hd2 => ?_
        exact ⟨a2, d2, rfl, ha2, hd2, true, rfl, iteF ⟨_, _, _, rfl, j5, (e3.trans e4).trans e5⟩⟩
      · rintro σ H' ⟨v3, v4, v5, rfl, j, e⟩
        exact k H' j.dr j.kp j.tb
end
end Tt
set_option maxRecDepth 100000
set_option maxHeartbeats 4000000
namespace Tt
open PySem L2
section
variable {P : Program} {w : World} {K : PySem.W.Frag} {mg : Str → Option Value} {base : Heap}
theorem kb_Skin (T : Txt K mg) : KBn K T.Skin.fd ["self", "row"] 1 ["row"] (fun us ws => us ++ ws) (fun vs zs => vs ++ zs) := by
  obtain ⟨oc, od, kV, doc, pm, an, cdv, ct, osl, e, lk, hcd⟩ := T.Skin.F.ex
  refine ⟨fun s us ws X l1 l2 => ?_, fun r1 r2 => r1.append r2⟩
  rw [e]
  match us, ws, l1, l2 with
  | [u], [w], _, _ => exact BindsTo.of_eq rfl
theorem cat_turned {σ : L2.St} {H : Hp} {Q : VK} {t : Addr} {i j st : Nat} {row : List Int} (h1 : σ[i]? = some (some (.ref t))) (h2 : σ[j]? = some (some (.int (st : Nat)))) (ht : FzT H t (row.map V.int)) (hst : st < row.length) (hl : row.length ≤ 12)
    (k : ∀ (r : Addr) (H4 : Hp), Same H H4 → FzT H4 r ((row.drop st ++ row.take st).map V.int) → Q (.ref r) H4) : tOp (rCatF K) (tSl (rSlA K) (tVar i) (tPart (tVar j)) tNoPart) (tSl (rSlA K) (tVar i) tNoPart (tPart (tVar j))) σ H Q := by
  have hx : 0 < (row.map V.int).length := by rw [List.length_map]; omega
  have hd : ((row.drop st).map V.int) ≠ [] := fun z => by
    have := congrArg List.length z
    rw [List.length_map, List.length_drop] at this
    simp at this
    omega
  have hz : ((row.drop st).map V.int).length + ((row.take st).map V.int).length ≤ sizeLine := by
    rw [List.length_map, List.length_map, List.length_drop, List.length_take]
    have : (12 : Nat) ≤ sizeLine := by decide
    omega
  have step : ∀ (a : Addr) (H2 : Hp), Same H H2 → SqT K H2 a ((row.drop st).map V.int) → (st = 0 → a = t) →
      tSl (rSlA K) (tVar i) tNoPart (tPart (tVar j)) σ H2 fun y H3 => rCatF K (.ref a) y H3 Q := by
    intro a H2 s2 ha hat
    refine ⟨_, h1, noPart_i ⟨_, h2, st, rfl, ?_⟩⟩
    refine slT_to (K := K) (by rw [List.length_map]; exact hst) (FzT.same ht s2).sq (fun b hb => ?_)
    have e1 : (upd H2 b (.tup ((row.map V.int).take st))) b = some (.tup ((row.take st).map V.int)) := by rw [upd_same, List.map_take]
    have s3 : Same H2 (upd H2 b (.tup ((row.map V.int).take st))) := same_new hb
    refine ⟨a, b, _, _, rfl, rfl, same_seqT s3 ha, SqT.of e1, hd, hz, fun z => ?_, fun z r ob hr hob => ?_⟩
    · have z0 : st = 0 := by
        have := congrArg List.length z
        rw [List.length_map, List.length_take, List.length_nil] at this
        omega
      subst z0
      rw [hat rfl]
      refine k t _ (s2.trans s3) ?_
      rw [show List.drop 0 row ++ List.take 0 row = row by simp]
      exact FzT.same (FzT.same ht s2) s3
    · refine k r _ ((s2.trans s3).trans (same_new hr)) ?_
      rw [List.map_append]
      exact FzT.new hob
  refine ⟨_, h1, _, h2, st, rfl, noPart_i ?_⟩
  refine slT_from (K := K) hx ht.sq (fun z => ?_) (fun nz a ha => ?_)
  · refine step t H (fun _ _ h => h) ?_ (fun _ => rfl)
    rw [z, List.drop_zero]
    exact ht.sq
  · have e1 : (upd H a (.tup ((row.map V.int).drop st))) a = some (.tup ((row.drop st).map V.int)) := by rw [upd_same, List.map_drop]
    exact step a _ (same_new ha) (SqT.of e1) (fun z => absurd z nz)
theorem rot_trn {a b : List Int} (ha : (0 : Int) ∈ a) (hb : (0 : Int) ∉ b) : trn (a ++ b) = trn (b ++ a) := by
  have hk : a.idxOf 0 < a.length := List.idxOf_lt_length_of_mem ha
  unfold trn
  rw [List.idxOf_append, if_pos ha, List.idxOf_append, if_neg hb]
  generalize List.idxOf 0 a = k at hk
  have d1 : (a ++ b).drop k = a.drop k ++ b := List.drop_append_of_le_length (by omega)
  have t1 : (a ++ b).take k = a.take k := List.take_append_of_le_length (by omega)
  have d2 : (b ++ a).drop (k + b.length) = a.drop k := by rw [List.drop_append, List.drop_eq_nil_of_le (by omega), Nat.add_sub_cancel, List.nil_append]
  have t2 : (b ++ a).take (k + b.length) = b ++ a.take k := by rw [List.take_append, List.take_of_length_le (by omega), Nat.add_sub_cancel]
  rw [d1, t1, d2, t2, List.append_assoc]
theorem trn_rot {row : List Int} {n st : Nat} (pm : row.Perm (rgI (2 * n))) (n1 : 1 ≤ n) : trn (row.drop st ++ row.take st) = trn row := by
  have nd : row.Nodup := by
    rw [pm.nodup_iff]
    unfold rgI
    exact List.Pairwise.map _ (fun a b h => by intro z; exact h (by omega)) List.nodup_range
  have h0 : (0 : Int) ∈ row := (perm_mem pm).mpr (by omega)
  have e : row.take st ++ row.drop st = row := List.take_append_drop st row
  rw [← e, List.nodup_append] at nd
  obtain ⟨_, _, dis⟩ := nd
  rw [← e] at h0
  rcases List.mem_append.mp h0 with h | h
  · have hb : (0 : Int) ∉ row.drop st := fun z => dis _ h _ z rfl
    have := rot_trn h hb
    rw [← this, e]
  · have hb : (0 : Int) ∉ row.take st := fun z => dis _ z _ h rfl
    have := rot_trn h hb
    rw [this, e]
theorem SkAt.put {T : Txt K mg} {H : Hp} {p f : Addr} {row : List Int} {xs : List V} {o : HO} (h : SkAt T H p row) (hf : H f = some (.lst xs)) : SkAt T (upd H f o) p row := by
  obtain ⟨dx, r, q, a1, a2, a3⟩ := h
  refine ⟨dx, r, q, ?_, FzT.ne a2 hf (fun _ _ z => nomatch z), FzT.ne a3 hf (fun _ _ z => nomatch z)⟩
  rw [upd_ne]
  · exact a1
  · intro z
    rw [z, hf] at a1
    cases a1
end
end Tt
set_option maxRecDepth 100000
set_option maxHeartbeats 4000000
namespace Tt
open PySem L2
open LamX (Tabs TabS TabB ExtN CodeO tLam)
section
variable {P : Program} {w : World} {K : PySem.W.Frag} {mg : Str → Option Value} {base : Heap}
def pairD (R : List Int) (z : Int) : PyData := .tuple [.tuple (R.map PyData.int), .int z]
theorem showP {H : Hp} {Q : VK} {l r : Addr} {R : List Int} {z : Int} {n : Nat} (hl : SqT K H l [.ref r, .int z]) (hr : SqT K H r (R.map V.int)) (n6 : n ≤ 6) (pm : R.Perm (rgI (2 * n))) (z0 : -1 ≤ z) (z1 : z ≤ 99) (k : Q (.str (pairD R z).shown) H) : rShow K [.ref l] H Q := by
  have b : ∀ d ∈ R.map PyData.int, Gd d := fun d hd => by
    obtain ⟨i, hi, rfl⟩ := List.mem_map.mp hd
    have := (perm_mem pm).mp hi
    exact gd_int (by omega) (by omega)
  have hl2 := perm_len pm
  obtain ⟨l1, l2⟩ := gd_ln _ b
  rw [List.length_map] at l1 l2
  have gz := gd_int z0 z1
  have h1 := tupleText_len_le (PyData.shownAll (R.map PyData.int))
  have h0 := tupleText_len_le [tupleText (PyData.shownAll (R.map PyData.int)), PyData.shown (.int z)]
  simp only [List.map_cons, List.map_nil, List.sum_cons, List.sum_nil, List.length_cons, List.length_nil] at h0
  have gz4 := gz.2.2.2
  have sz := sz1000
  have dp := gd_dp _ b
  refine ⟨l, pairD R z, rfl, .tup hl (.cons (.tup hr (dpAll_ints _ _)) (.cons (.int z) .nil)), ?_, ?_, ?_, ?_, k⟩
  · show (PyData.showableAll (R.map PyData.int) && ((PyData.int z).showable && true)) = true
    rw [gd_sh _ b, gz.1]
    rfl
  · show (PyData.hasDictAll (R.map PyData.int) || (false || false)) = false
    rw [gd_hd _ b]
    rfl
  · show max (PyData.depthAll (R.map PyData.int) + 1) (max 0 0) + 1 ≤ 60
    omega
  · show (tupleText [tupleText (PyData.shownAll (R.map PyData.int)), PyData.shown (.int z)]).length ≤ sizeLine
    omega
theorem KpN.at {D : Dw} {H H' : Hp} {b : Addr} {o : HO} (k : KpN D H H') (dr : DrOk D H) (h : H b = some o) (n1 : ∀ kvs, o ≠ .dK kvs) (n2 : ∀ xs, o ≠ .lst xs) (n3 : ∀ ps, o ≠ .tbl ps) : H' b = some o := by
  obtain ⟨ls, cs, r, t, d⟩ := dr
  exact k b o h (d.dne h n1) (d.lne h n2) n3
theorem FzT.kpn {D : Dw} {H H' : Hp} {a : Addr} {xs : List V} (h : FzT H a xs) (dr : DrOk D H) (k : KpN D H H') : FzT H' a xs := by
  obtain ⟨ob, h1, h2⟩ := h
  exact ⟨ob, k.at dr h1 (fun _ z => nomatch z) (fun _ z => nomatch z) (fun _ z => nomatch z), h2⟩
theorem SkAt.kpn {T : Txt K mg} {D : Dw} {H H' : Hp} {p : Addr} {row : List Int} (h : SkAt T H p row) (dr : DrOk D H) (k : KpN D H H') : SkAt T H' p row := by
  obtain ⟨dx, r, q, h1, h2, h3⟩ := h
  exact ⟨dx, r, q, k.at dr h1 (fun _ z => nomatch z) (fun _ z => nomatch z) (fun _ z => nomatch z), FzT.kpn h2 dr k, FzT.kpn h3 dr k⟩
structure Lw (T : Txt K mg) (D : Dw) (p p2 q : Addr) (row : List Int) (H : Hp) : Prop where
  dr : DrOk D H
  tb : Tabs (jTs T) H
  s1 : SkAt T H p (trn row)
  s2 : SkAt T H p2 (trn row)
  ln : FzT H q (row.map V.int)
section
variable {T : Txt K mg} {D : Dw} {p p2 q : Addr} {row : List Int} {H H' : Hp}
theorem Lw.same (c : Lw T D p p2 q row H) (s : Same H H') : Lw T D p p2 q row H' := ⟨c.dr.same s, c.tb.ext s, c.s1.same s, c.s2.same s, FzT.same c.ln s⟩
theorem Lw.kpd (c : Lw T D p p2 q row H) (d : DrOk D H') (k : Kp D H H') : Lw T D p p2 q row H' := ⟨d, tabs_kp c.tb c.dr k, c.s1.kp c.dr k, c.s2.kp c.dr k, FzT.kp c.ln c.dr k⟩
theorem Lw.put {f : Addr} {xs : List V} {o : HO} (c : Lw T D p p2 q row H) (of : Off D f) (hf : H f = some (.lst xs)) : Lw T D p p2 q row (upd H f o) := ⟨c.dr.put of, tabs_put c.tb hf, c.s1.put hf, c.s2.put hf, FzT.ne c.ln hf fun _ _ z => nomatch z⟩
end
theorem law_body (T : Txt K mg) (TBe : TabB base mg T.ec T.eP) (TB : TabB base mg T.lc T.lP) (TBj0 : TabB base mg T.jc T.jP) {A : Around} {outer : List Env} {s : Shared} {H : Hp} {E : XK} {Q : VK} {a : Addr} {zs : List Int} (hA : A.guards = some []) (hr : Room 14 (A.deeper (PyProof.Rows.envOfC "law" (defScope s_law) s.heap.objs.size T.law.a (.ref T.lc))))
    (hs : SqL K H a (zs.map V.int)) (hl : zs.length ≤ 63) (tb : Tabs (jTs T) H) (k : ∀ H', Q (.bl true) H') :
    ∃ t, PSs (cxOf CX0 P w K mg base N_law "law" (defScope s_law) T.law.a (.ref T.lc) A outer s H E).nox (defBody s_law) t ∧ t { nx := fun _ H' => Q .non H', rt := Q } (L2.start N_law [.ref a]) H := by
  have nd := sc_law.nd
  have TBj : TBs T base := ⟨TBj0, TBe⟩
  have hg : (cxOf CX0 P w K mg base N_law "law" (defScope s_law) T.law.a (.ref T.lc) A outer s H E).nox.A.guards = some [] := hA
  have hmT : (T.lP, (("law" : Str) ++ ".<locals>.") ++ "<lambda>") ∈ jTs T := List.mem_cons_of_mem _ (List.mem_cons_of_mem _ List.mem_cons_self)
  have hu : ∀ p ∈ jTs T, p.1 = T.lP → p.2 = (("law" : Str) ++ ".<locals>.") ++ "<lambda>" := fun p hp hq => by
    rcases List.mem_cons.mp hp with e | hp
    · subst e
      exact absurd hq T.ne
    · rcases List.mem_cons.mp hp with e | hp
      · subst e
        exact absurd hq T.ne_1
      · have e := List.mem_singleton.mp hp
        subst e
        exact Eq.refl lQ
  refine ⟨_, (pss_cons (ps_set (i := 1) nd rfl (Or.inl rfl) (pe_call (ok_l_begun T) (hr.mono (by decide)) (by rfl) T.l_begun.g T.l_begun.k T.l_begun.b .nil pass0 (pa_cons (pv 0) pa_nil)))
    (pss_cons (ps_for PassesOwn.never rfl (pi_range1 rfl T.zrange (pa_cons (pe_op op_add pe_int (pe_callB (call_min2 rfl) (by rfl) T.zmin (by decide +kernel) (pa_cons (pe_callB call_len_seq (by rfl) T.zlen (by decide +kernel) (pa_cons (pv 0) pa_nil)) (pa_cons pe_int pa_nil)))) pa_nil)) (pg_name (i := 2) nd rfl (Or.inl rfl))
      (pss_cons (ps_set (i := 3) nd rfl (Or.inl rfl) (pe_call (ok_l_row T) (hr.mono (by decide)) (by rfl) T.l_row.g T.l_row.k T.l_row.b .nil pass0 (pa_cons (pv 1) (pa_cons pe_int pa_nil))))
      (pss_cons (ps_par (i := 4) (j := 5) rfl nd rfl rfl (by decide) rfl rfl (pa_cons (pe_call (ok_l_take T) (hr.mono (by decide)) (by rfl) T.l_take.g T.l_take.k T.l_take.b .nil pass0 (pa_cons (pv 1) (pa_cons (pe_callB call_len_seq (by rfl) T.zlen (by decide +kernel) (pa_cons (pv 3) pa_nil)) pa_nil))) (pa_cons (pe_callTy call_list_of (by rfl) T.zlist (by decide +kernel) (pa_cons (pv 3) pa_nil)) pa_nil)) rfl)
      (pss_cons (ps_par (i := 6) (j := 7) rfl nd rfl rfl (by decide) rfl rfl (pa_cons (pe_make T.Skin.kk (ok_Skin_init T) (hr.mono (by decide)) (by rfl) T.Skin.g T.Skin.b .nil passF (pa_cons (pv 5) pa_nil)) (pa_cons (pe_makeK0 T.Skin.kk (ok_Skin_init T) (hr.mono (by decide)) (by rfl) T.Skin.g (kb_Skin T) passF (pk_cons (pe_op op_catF (pe_slice sl_tupA (pv 3) (po_some (pv 4)) po_none) (pe_slice sl_tupA (pv 3) po_none (po_some (pv 4)))) pk_nil)) pa_nil)) rfl)
      (pss_cons (ps_expr (pe_bm0 PySem.F.plainAttrs_list PySem.F.slot_list_reverse PySem.F.type_list_reverse mt_reverse (pv 5)))
      (pss_cons (ps_expr (pe_bm PySem.F.plainAttrs_list PySem.F.slot_list_append PySem.F.type_list_append mt_append (pv 5) (pa_cons pe_int pa_nil)))
      (pss_cons (ps_set (i := 8) nd rfl (Or.inl rfl) (pe_call (ok_l_turned T) (hr.mono (by decide)) (by rfl) T.l_turned.g T.l_turned.k T.l_turned.b .nil pass0 (pa_cons (pv 3) pa_nil)))
      (pss_cons (ps_if (PW.pt (pw_or (pt_cmpR op_ne (pe_callB (call_show hg hr.units) (by rfl) T.zrepr (by decide +kernel) (pa_cons (pe_tup (pa_cons (pe_fld (pv 6) rfl) (pa_cons (pe_fld (pv 6) rfl) pa_nil))) pa_nil)) (pe_callB (call_show hg hr.units) (by rfl) T.zrepr (by decide +kernel) (pa_cons (pe_tup (pa_cons (pv 8) (pa_cons (pe_op op_fdiv (pe_callB call_len_seq (by rfl) T.zlen (by decide +kernel) (pa_cons (pv 3) pa_nil)) pe_int) pa_nil))) pa_nil)) (nomark _)) (pw_or1 (pt_not (pt_val (pe_callB call_isA (by rfl) T.zisinstance (by decide +kernel) (pa_cons (pe_fld (pv 6) rfl) (pa_cons (pe_bltn (v := .ty "tuple") (by rfl) T.ztuple (by decide +kernel) rfl) pa_nil))))))))
        (pss_one (ps_ret pe_bl))
        pss_nil)
      (pss_cons (ps_if (PW.pt (pw_or (pt_not (pt_cmpR (op_eqO (ok_Skin_eq T) T.eqM.i T.eqM.n T.eqM.b (hr.mono (by decide)) pass0) (pv 6) (pv 7) (nomark _))) (pw_or (pt_cmpR (op_neO (ok_Skin_eq T) T.eqM.i T.eqM.n T.eqM.b T.neO T.Skin.hm (hr.mono (by decide)) pass0) (pv 6) (pv 7) (nomark _)) (pw_or1 (pt_cmpR (op_neD hr.units) (pe_fld (pv 7) rfl) (pv 8) (nomark _))))))
        (pss_one (ps_ret pe_bl))
        pss_nil)
      (pss_cons (ps_set (i := 9) nd rfl (Or.inl rfl) (pe_call (ok_l_row T) (hr.mono (by decide)) (by rfl) T.l_row.g T.l_row.k T.l_row.b .nil pass0 (pa_cons (pv 1) (pa_cons pe_int pa_nil))))
      (pss_cons (ps_if (PW.pt (pw_or (pt_cmpR op_ne (pe_cmpR (op_eqO (ok_Skin_eq T) T.eqM.i T.eqM.n T.eqM.b (hr.mono (by decide)) pass0) (pv 6) (pe_make T.Skin.kk (ok_Skin_init T) (hr.mono (by decide)) (by rfl) T.Skin.g T.Skin.b .nil passF (pa_cons (pv 9) pa_nil)) (nomark _)) (pe_cmpR (op_eqD hr.units) (pe_call (ok_l_turned T) (hr.mono (by decide)) (by rfl) T.l_turned.g T.l_turned.k T.l_turned.b .nil pass0 (pa_cons (pv 9) pa_nil)) (pv 8) (nomark _)) (nomark _)) (pw_or (pt_cmpR (op_eqO (ok_Skin_eq T) T.eqM.i T.eqM.n T.eqM.b (hr.mono (by decide)) pass0) (pv 6) (pv 8) (nomark _)) (pw_or (pt_cmpR (op_eqO (ok_Skin_eq T) T.eqM.i T.eqM.n T.eqM.b (hr.mono (by decide)) pass0) (pv 6) (pe_callTy call_list_of (by rfl) T.zlist (by decide +kernel) (pa_cons (pv 8) pa_nil)) (nomark _)) (pw_or1 (pt_cmpR (op_eqO (ok_Skin_eq T) T.eqM.i T.eqM.n T.eqM.b (hr.mono (by decide)) pass0) (pv 6) (pe_op op_fdiv (pe_callB call_len_seq (by rfl) T.zlen (by decide +kernel) (pa_cons (pv 8) pa_nil)) pe_int) (nomark _)))))))
        (pss_one (ps_ret pe_bl))
        pss_nil)
      (pss_one (ps_if (PW.pt (pw_or (pt_not (pt_val (pe_callG (ok_l_judged T TBj) hg (hr.mono (by decide)) (by rfl) T.l_judged.g T.l_judged.k T.l_judged.b .nil pass0 (pa_cons (pv 1) (pa_cons (pv 3) pa_nil))))) (pw_or1 (pt_not (pt_val (pe_callG (ok_l_ends_right T TBj) hg (hr.mono (by decide)) (by rfl) T.l_ends_right.g T.l_ends_right.k T.l_ends_right.b .nil pass0 (pa_cons (pv 1) (pa_cons (pv 6) (pa_cons (pv 8) pa_nil)))))))))
        (pss_one (ps_ret pe_bl))
        pss_nil)))))))))))))
    (pss_one (ps_ret (pe_call (ok_l_skin_error T) (hr.mono (by decide)) (by rfl) T.l_skin_error.g T.l_skin_error.k T.l_skin_error.b .nil pass0 (pa_cons (pe_caught (k := 4) T (by rfl) TB rfl hmT hu (hr.mono (by decide)) (LamX.lamS_by (sc := defScope s_law) (by decide +kernel)) rfl (fun _ _ _ _ _ => rfl) (fun _ _ _ _ _ _ _ hr => lb_nn T hr (by rfl))) pa_nil)))))), ?_⟩
  refine ⟨_, rfl, a, zs, rfl, hs, hl, fun D H1 d1 s1 => ?_⟩
  have tb1 := tb.ext s1
  have hs1 : SqL K H1 a (zs.map V.int) := Same.seq s1 hs
  refine ⟨_, rfl, a, _, rfl, .inl hs1, _, _, rfl, _, _, rfl, rfl, _, rfl, ?_, ?_, ?_⟩
  · split <;> omega
  · split <;> omega
  refine for_range (lo := 0) (fun i σ H' => ∃ v2 v3 v4 v5 v6 v7 v8 v9, σ = [some (.ref a), some (.ref D.d), v2, v3, v4, v5, v6, v7, v8, v9] ∧ DrOk D H' ∧ Tabs (jTs T) H') ⟨none, none, none, none, none, none, none, none, rfl, d1, tb1⟩ ?_ ?_
  · rintro i σ H2 hi ⟨v2, v3, v4, v5, v6, v7, v8, v9, rfl, d2, tb2⟩
    refine ⟨_, rfl, D, 6, rfl, by decide, by decide, d2, fun n row q H3 n1 n6 pm d3 k3 fq => ?_⟩
    have n6' : n ≤ 6 := by omega
    have tb3 := tabs_kp tb2 d2 k3
    have hlen := perm_len pm
    have lm : (row.map V.int).length = row.length := List.length_map ..
    refine ⟨_, rfl, _, rfl, q, _, rfl, .inr fq.sq, D, _, rfl, by rw [lm]; omega, by rw [lm]; omega, d3, fun st H4 st0 st1 d4 k4 => ?_⟩
    obtain ⟨st, rfl⟩ := Int.eq_ofNat_of_zero_le st0
    have hst : st < row.length := by rw [lm] at st1; omega
    have tb4 := tabs_kp tb3 d3 k4
    have fq4 := FzT.kp fq d3 k4
    refine ⟨_, rfl, q, _, rfl, .inr fq4.sq, fun g hg0 => ⟨_, _, rfl, ?_⟩⟩
    have og : Off D g := d4.off hg0
    have sg : Same H4 (upd H4 g (.lst (row.map V.int))) := same_new hg0
    have d5 := d4.same sg
    have tb5 := tb4.ext sg
    have fq5 := FzT.same fq4 sg
    have gg : (upd H4 g (.lst (row.map V.int))) g = some (.lst (row.map V.int)) := upd_same
    generalize upd H4 g (.lst (row.map V.int)) = H5 at d5 tb5 fq5 gg
    clear sg hg0 d4 d3 d2 k3 k4 tb2 tb3 tb4 fq fq4
    refine ⟨_, rfl, fun p dx hp hdx ne => ?_⟩
    have sA : Same H5 (upd (upd H5 dx (.own p)) p (.ins T.Skin.C dx [])) := (same_new hdx).trans (same_new (by rw [upd_ne ne.symm]; exact hp))
    refine ⟨p, dx, _, rfl, upd_same, .inr ⟨g, n, row, rfl, .inl (SqL.of (sA _ _ gg)), n1, n6', pm, fun H6 sk kp => ⟨rfl, ?_⟩⟩⟩
    have s6 : Same H5 H6 := fun b o hb => kp b o (sA b o hb) (ne_of_none hb hp)
    have d6 := d5.same s6
    have tb6 := tb5.ext s6
    have fq6 := FzT.same fq5 s6
    have gg6 := s6 _ _ gg
    clear sA s6 kp hp hdx ne d5 tb5 fq5 gg
    refine cat_turned (K := K) (i := 3) (j := 4) rfl rfl fq6 hst (by omega) fun r H7 s7 fr => ⟨rfl, rfl, fun p2 dx2 hp2 hdx2 ne2 => ?_⟩
    have sB : Same H7 (upd (upd H7 dx2 (.own p2)) p2 (.ins T.Skin.C dx2 [])) := (same_new hdx2).trans (same_new (by rw [upd_ne ne2.symm]; exact hp2))
    refine ⟨p2, dx2, _, rfl, upd_same, .inr ⟨r, n, _, rfl, .inr (FzT.same fr sB), n1, n6', (turn_perm row st).trans pm, fun H8 sk2 kp2 => ⟨rfl, _, _, rfl, ?_⟩⟩⟩
    have s8 : Same H6 H8 := s7.trans fun b o hb => kp2 b o (sB b o hb) (ne_of_none hb hp2)
    rw [trn_rot pm n1] at sk2
    have c : Lw T D p p2 q row H8 := ⟨d6.same s8, tb6.ext s8, sk.same s8, sk2, FzT.same fq6 s8⟩
    have gg8 := s8 _ _ gg6
    clear s7 s8 sB kp2 hp2 hdx2 ne2 sk sk2 d6 tb6 fq6 gg6 fr
    refine ⟨_, rfl, .inl ⟨rfl, _, SqL.of gg8⟩, g, _, rfl, rfl, gg8, ?_⟩
    have c9 := c.put (o := .lst (row.map V.int).reverse) og gg8
    have gg9 : (upd H8 g (.lst (row.map V.int).reverse)) g = some (.lst (row.map V.int).reverse) := upd_same
    generalize upd H8 g (.lst (row.map V.int).reverse) = H9 at c9 gg9
    refine ⟨_, rfl, .inl ⟨rfl, _, SqL.of gg9⟩, g, _, .int 0, rfl, rfl, gg9, by rw [List.length_reverse, lm]; exact small1000 (by omega), ?_⟩
    have c10 := c9.put (o := .lst ((row.map V.int).reverse ++ [.int 0])) og gg9
    generalize upd H9 g (.lst ((row.map V.int).reverse ++ [.int 0])) = H10 at c10
    clear c c9 gg8 gg9
    have m0 : (0 : Int) ∈ row := (perm_mem pm).mpr (by omega)
    have pmR : (trn row).Perm (rgI (2 * n)) := (turn_perm row _).trans pm
    refine ⟨_, rfl, q, row, rfl, .inr c10.ln, m0, by omega, fun r8 H11 s11 f11 => ?_⟩
    have c11 := c10.same s11
    clear s11 c10
    obtain ⟨dx, ra, qa, a1, a2, a3⟩ := id c11.s1
    have lR := perm_len pmR
    have ez : (((trn row).length / 2 : Nat) : Int) = ((row.map V.int).length : Int) / 2 := by
      rw [lm, lR, hlen]
      omega
    refine ⟨_, rfl, p, T.Skin.C, dx, _, _, rfl, a1, T.Skin.c, nRow T, skF_row .., _, rfl, p, T.Skin.C, dx, _, _, rfl, a1, T.Skin.c, nBands T, skF_bands .., (by show 2 ≤ sizeLine; decide), fun l1 hl1 => ?_⟩
    have sL : Same H11 (upd H11 l1 (.tup [.ref ra, .int (((trn row).length / 2 : Nat) : Int)])) := same_new hl1
    have c12 := c11.same sL
    have f12 := FzT.same f11 sL
    refine nil_i (showP (K := K) (SqT.of upd_same) (FzT.same a2 sL).sq n6' pmR (by omega) (by omega) ?_)
    generalize upd H11 l1 (.tup [.ref ra, .int (((trn row).length / 2 : Nat) : Int)]) = H12 at c12 f12
    clear sL a1 a2 a3 c11 f11 hl1
    refine ⟨_, rfl, _, rfl, q, _, rfl, .inr c12.ln.sq, _, _, rfl, rfl, ⟨by decide, by decide⟩, (by show 2 ≤ sizeLine; decide), fun l2 hl2 => ?_⟩
    have sM : Same H12 (upd H12 l2 (.tup [.ref r8, .int (((row.map V.int).length : Int) / 2)])) := same_new hl2
    have c13 := c12.same sM
    have f13 := FzT.same f12 sM
    refine nil_i (showP (K := K) (SqT.of upd_same) f13.sq n6' pmR (by rw [← ez]; omega) (by rw [← ez]; omega) ⟨rfl, _, rfl, ite2 (fun c => absurd c (by rw [ez]; simp)) (fun _ => ?_)⟩)
    generalize upd H12 l2 (.tup [.ref r8, .int (((row.map V.int).length : Int) / 2)]) = H13 at c13 f13
    clear sM c12 f12 hl2
    obtain ⟨dx, ra, qa, a1, a2, a3⟩ := id c13.s1
    obtain ⟨dy, rb, qb, b1, b2, b3⟩ := id c13.s2
    refine ⟨_, rfl, p, T.Skin.C, dx, _, _, rfl, a1, T.Skin.c, nRow T, skF_row .., .inr ⟨_, _, _, _, true, rfl, .ty _, Tt.TyB.x (K := K) (.tup a2.sq), kit_self _, _, rfl, iteF ?_⟩⟩
    refine ⟨_, rfl, _, rfl, p, dx, _, rfl, a1, Tt.EqV.y (T := T) (row := trn row) (.skin c13.s2), p, trn row, _, _, rfl, c13.s1, .skin c13.s2, _, rfl, ite2 (fun c => absurd c (by simp)) (fun _ => ?_)⟩
    refine ⟨_, rfl, _, rfl, p, dx, _, rfl, a1, Tt.EqV.y (T := T) (row := trn row) (.skin c13.s2), p, trn row, _, _, rfl, c13.s1, .skin c13.s2, _, rfl, _, rfl, ite2 (fun c => absurd c (by simp)) (fun _ => ?_)⟩
    refine ⟨_, rfl, p2, T.Skin.C, dy, _, _, rfl, b1, T.Skin.c, nRow T, skF_row .., _, rfl, _, _, .tup b2.sq (dpAll_ints _ _), .tup f13.sq (dpAll_ints _ _), shapedTup _, shapedTup _, _, rfl, ite2 (fun c => absurd c (by rw [eqv_tups]; simp)) (fun _ => ?_)⟩
    clear a1 a2 a3 b1 b2 b3
    refine ⟨_, rfl, D, 6, rfl, by decide, by decide, c13.dr, fun n' one q1 H14 m1 m6 pm1 d14 k14 fo => ?_⟩
    have c14 := c13.kpd d14 k14
    have f14 := FzT.kp f13 c13.dr k14
    clear c13 f13 k14
    refine ⟨_, rfl, _, rfl, fun p3 dx3 hp3 hdx3 ne3 => ?_⟩
    have sC : Same H14 (upd (upd H14 dx3 (.own p3)) p3 (.ins T.Skin.C dx3 [])) := (same_new hdx3).trans (same_new (by rw [upd_ne ne3.symm]; exact hp3))
    refine ⟨p3, dx3, _, rfl, upd_same, .inr ⟨q1, n', one, rfl, .inr (FzT.same fo sC), m1, by omega, pm1, fun H15 sk3 kp3 => ⟨rfl, ?_⟩⟩⟩
    have s15 : Same H14 H15 := fun b o hb => kp3 b o (sC b o hb) (ne_of_none hb hp3)
    have c15 := c14.same s15
    have f15 := FzT.same f14 s15
    have fo15 := FzT.same fo s15
    clear sC kp3 hp3 hdx3 ne3 c14 f14 fo s15
    obtain ⟨dx, ra, qa, a1, a2, a3⟩ := id c15.s1
    refine ⟨p, dx, _, rfl, a1, Tt.EqV.y (T := T) (row := trn row) (.skin sk3), p, trn row, _, _, rfl, c15.s1, .skin sk3, ?_⟩
    refine ⟨_, rfl, q1, one, rfl, .inr fo15, (perm_mem pm1).mpr (by omega), by rw [perm_len pm1]; omega, fun r9 H16 s16 f9 => ?_⟩
    have c16 := c15.same s16
    have f16 := FzT.same f15 s16
    refine ⟨_, rfl, _, _, .tup f9.sq (dpAll_ints _ _), .tup f16.sq (dpAll_ints _ _), shapedTup _, shapedTup _, rfl, _, rfl, ite2 (fun c => absurd c (by rw [eqv_tups]; simp [eq_comm])) (fun _ => ?_)⟩
    clear c15 f15 fo15 a1 a2 a3 sk3 s16 f9
    obtain ⟨dx, ra, qa, a1, a2, a3⟩ := id c16.s1
    refine ⟨_, rfl, _, rfl, p, dx, _, rfl, a1, Tt.EqV.y (T := T) (row := trn row) (.tup f16.sq), p, trn row, _, _, rfl, c16.s1, .tup f16.sq, _, rfl, iteF ?_⟩
    refine ⟨_, rfl, _, rfl, r8, _, rfl, .inr f16.sq, fun l3 hl3 => ?_⟩
    have c17 := c16.same (same_new (o := .lst ((trn row).map V.int)) hl3)
    have f17 := FzT.same f16 (same_new (o := .lst ((trn row).map V.int)) hl3)
    have g17 : (upd H16 l3 (.lst ((trn row).map V.int))) l3 = some (.lst ((trn row).map V.int)) := upd_same
    generalize upd H16 l3 (.lst ((trn row).map V.int)) = H17 at c17 f17 g17
    clear c16 f16 a1 a2 a3 hl3
    obtain ⟨dx, ra, qa, a1, a2, a3⟩ := id c17.s1
    refine ⟨p, dx, _, rfl, a1, Tt.EqV.y (T := T) (row := trn row) (.lst (SqL.of g17)), p, trn row, _, _, rfl, c17.s1, .lst (SqL.of g17), _, rfl, iteF ?_⟩
    refine ⟨_, rfl, _, rfl, r8, _, rfl, .inr f17.sq, _, _, rfl, rfl, ⟨by decide, by decide⟩, p, dx, _, rfl, a1, .int _, p, trn row, _, _, rfl, c17.s1, .int _, _, rfl, iteF ?_⟩
    clear a1 a2 a3
    refine ⟨_, rfl, _, rfl, D, q, row, n, rfl, c17.ln, n1, n6', pm, c17.dr, c17.tb, fun H18 d18 k18 t18 => ⟨true, rfl, iteF ?_⟩⟩
    refine ⟨_, rfl, _, rfl, _, rfl, D, p, r8, trn row, n, rfl, SkAt.kpn c17.s1 c17.dr k18, FzT.kpn f17 c17.dr k18, n1, n6', pmR, d18, t18, fun H19 d19 k19 t19 => ⟨true, rfl, iteF ?_⟩⟩
    exact ⟨_, _, _, _, _, _, _, _, rfl, d19, t19⟩
  · rintro σ H' ⟨v2, v3, v4, v5, v6, v7, v8, v9, rfl, d, tb⟩
    refine ⟨tb, fun H3 e3 t3 => ?_⟩
    refine ⟨_, _, rfl, .inl ⟨.non, fun d4 H4 s4 hd => ⟨exm_S T, fun a4 ha => ?_⟩⟩⟩
    exact ⟨a4, d4, rfl, upd_same, upk ha hd, k _⟩
end
end Tt
set_option maxRecDepth 100000
set_option maxHeartbeats 4000000
namespace Tt
open PySem PySem.Spec PyProof.Rows L2
open LamX (TabB)
def firstH (a : Addr) (ts : List (Addr × Addr)) (u : Option HO) : Hp := fun b => if b = a then u else if b ∈ ts.map (·.2) then some (.tbl #[]) else none
theorem firstH_a {a : Addr} {ts : List (Addr × Addr)} {u : Option HO} : firstH a ts u a = u := if_pos rfl
theorem firstH_t {a t : Addr} {ts : List (Addr × Addr)} {u : Option HO} (n : t ≠ a) (h : t ∈ ts.map (·.2)) : firstH a ts u t = some (.tbl #[]) := (if_neg n).trans (if_pos h)
theorem firstH_o {a b : Addr} {ts : List (Addr × Addr)} {u : Option HO} (n : b ≠ a) (m : b ∉ ts.map (·.2)) : firstH a ts u b = none := (if_neg n).trans (if_neg m)
theorem law_run {P : Program} {w : World} {K : PySem.W.Frag} {mg mb : Str → Option Value} {fa a : Addr} {ts : List (Addr × Addr)} {s₁ : Shared} {vs : List Value} {ns : List Int}
    (KX : K.In s₁.heap) (hg : s₁.heap.Ns mainGlobals mg) (hb : s₁.heap.Ns builtinsNs mb) (hbb : ∀ x : Str, x ≠ "__name__" → mb x = bootBuiltins x) (lim : s₁.heap.NoLimit) (gens : s₁.gens = #[])
    (hts : ∀ p ∈ ts, s₁.heap.get? p.2 = some { cls := .none, data := .fields #[] } ∧ K.lookup p.2 = none ∧ PySem.W.CodeHd s₁.heap p.1 p.2)
    (bmain : ∃ (bm : Addr) (ob : Obj), mg "__builtins__" = some (.ref bm) ∧ bm ≠ builtinsNs ∧ s₁.heap.get? bm = some ob ∧ ob.cls = .type "module" ∧ ob.dict = some builtinsNs ∧ ob.data = .plain)
    (ha : s₁.heap.get? a = some { cls := .type "list", data := .seq vs.toArray }) (hi : IntsAre vs ns) (hl : ns.length ≤ sizeLine)
    (run : ∀ (base : Heap) (H : Hp), (∀ p ∈ ts, TabB base mg p.1 p.2) → Env0 P w K mg base callerA [] s₁ H → (∀ p ∈ ts, H p.2 = some (.tbl #[])) → SqL K H a (ns.map V.int) → codeAny (model P w) callerA (.call (.ref fa) ⟨[.ref a], []⟩) (CR CX0 [] P w H s₁ (fun v _ => v = .bl true) E0) s₁) :
    codeAny (model P w) callerA (.call (.ref fa) ⟨[.ref a], []⟩) (fun r s' => r = .ok (.ret (.bool true)) ∧ OldK s₁.heap s'.heap ∧ s'.os = s₁.os ∧ AllBare s'.gens) s₁ := by
  have rv := vals_ints hi
  have mem : ∀ {t : Addr}, t ∈ ts.map (·.2) → ∃ c, (c, t) ∈ ts := fun {t} h => by
    obtain ⟨⟨c, t'⟩, h1, rfl⟩ := List.mem_map.mp h
    exact ⟨c, h1⟩
  have nta : ∀ t ∈ ts.map (·.2), t ≠ a := fun t ht z => by
    obtain ⟨c, hc⟩ := mem ht
    have h1 := (hts _ hc).1
    rw [z, ha] at h1
    have z' : Data.seq vs.toArray _ = Data.fields #[] := congrArg Obj.data (Option.some.inj h1)
    cases z'
  obtain ⟨u, hu, hS, hK⟩ : ∃ u : Option HO, (u = none ∨ u = some (.frz { cls := .type "list", data := .seq vs.toArray } (.lst (ns.map V.int)))) ∧ SqL K (firstH a ts u) a (ns.map V.int) ∧ (u ≠ none → K.lookup a = none) := by
    cases hk : K.lookup a with
    | none => exact ⟨_, .inr rfl, .inl (.inr ⟨_, firstH_a⟩), fun _ => rfl⟩
    | some o =>
      have e := KX a o hk
      rw [ha] at e
      cases e
      exact ⟨none, .inl rfl, .inr ⟨_, vs.toArray, _, hk, rfl, rfl, rfl, by rw [List.size_toArray, hi.length]; exact hl, by simpa using rv⟩, fun z => absurd rfl z⟩
  have hT : ∀ t ∈ ts.map (·.2), firstH a ts u t = some (.tbl #[]) := fun t ht => firstH_t (nta t ht) ht
  have look : ∀ b x, firstH a ts u b = some x → (b = a ∧ u = some x) ∨ (b ∈ ts.map (·.2) ∧ x = .tbl #[]) := fun b x e => by
    by_cases h1 : b = a
    · subst h1
      exact .inl ⟨rfl, firstH_a.symm.trans e⟩
    · by_cases h2 : b ∈ ts.map (·.2)
      · rw [hT b h2] at e
        exact .inr ⟨h2, (Option.some.inj e).symm⟩
      · rw [firstH_o h1 h2] at e
        cases e
  generalize hH : firstH a ts u = H at hS hT look
  have free : ∀ {b : Addr} {o : Obj}, s₁.heap.get? b = some o → (∀ vs n, o.data ≠ .seq vs n) → o.data ≠ .fields #[] → H b = none := fun {b o} e h1 h2 => by
    cases q : H b with
    | none => rfl
    | some x =>
      rcases look b x q with ⟨rfl, _⟩ | ⟨hb, _⟩
      · rw [ha] at e
        cases e
        exact (h1 _ _ rfl).elim
      · obtain ⟨c, hc⟩ := mem hb
        rw [(hts _ hc).1] at e
        cases e
        exact (h2 rfl).elim
  have dict : ∀ {b : Addr} {m : Str → Option Value}, s₁.heap.Ns b m → (hidT s₁.heap H).Ns b m := fun {b m} ⟨o, es, ep, e, d, r⟩ =>
    ⟨o, es, ep, hidT_get e (free e (fun _ _ z => by rw [d] at z; cases z) (fun z => by rw [d] at z; cases z)), d, r⟩
  have kin : K.In (hidT s₁.heap H) := fun b o e => hidT_get (KX b o e) (by
    cases q : H b with
    | none => rfl
    | some x =>
      rcases look b x q with ⟨rfl, hx⟩ | ⟨hb, _⟩
      · rw [hK (by rw [hx]; simp)] at e
        cases e
      · obtain ⟨c, hc⟩ := mem hb
        rw [(hts _ hc).2.1] at e
        cases e)
  have mod : L2.Mod K mg (hidT s₁.heap H) := ⟨kin, dict hg, ⟨mb, dict hb, hbb⟩, let ⟨mc, h1, h2⟩ := lim; ⟨mc, dict h1, h2⟩⟩
  have TB : ∀ p ∈ ts, TabB (hidT s₁.heap H) mg p.1 p.2 := fun p hp => by
    obtain ⟨ht, nt, C⟩ := hts p hp
    refine ⟨?_, ?_, fun z => ?_⟩
    · obtain ⟨o, us, file, tf, flags, tg, inF, text, tt, e1, r1, r2, r3, rest⟩ := C
      refine ⟨o, us, file, tf, flags, tg, inF, text, tt, hidT_get e1 (free e1 (fun _ _ z => by rw [r2] at z; cases z) fun z => ?_), r1, r2, r3, rest⟩
      rw [r2] at z
      cases z
      simp at r3
    · obtain ⟨bm, ob, b1, b2, b3, b4, b5, b6⟩ := bmain
      refine ⟨bm, ob, b1, b2, fun q => ?_, fun q => ?_, hidT_get b3 (free b3 (fun _ _ z => by rw [b6] at z; cases z) (fun z => by rw [b6] at z; cases z)), b4, b5, b6⟩
      · obtain ⟨o, es, ep, e, hd, _⟩ := hg
        rw [q, e] at b3
        cases b3
        rw [hd] at b6
        cases b6
      · rw [q, ht] at b3
        cases b3
        cases b6
    · obtain ⟨o, es, ep, e, hd, _⟩ := hg
      rw [z, ht] at e
      cases e
      cases hd
  have hok : HOk P w H s₁.heap := fun b x e => by
    rcases look b x e with ⟨rfl, hx⟩ | ⟨hb, rfl⟩
    · rcases hu with rfl | rfl
      · cases hx
      · cases hx
        exact ⟨ha, by rw [List.length_map]; exact hl, vs, _, rv, ha⟩
    · obtain ⟨c, hc⟩ := mem hb
      exact (hts _ hc).1
  have e0 : Env0 P w K mg (hidT s₁.heap H) callerA [] s₁ H := ⟨rfl, mod, fun b o e => of_hidT e, Nat.le_of_eq (hidT_size _ _), trivial, fun b hb => absurd (show b ∈ ([] : List Addr) from hb) (by simp), hok, .of_eq gens⟩
  refine codeAny_mono (run _ H TB e0 (fun p hp => hT _ (List.mem_map_of_mem hp)) hS) fun r s' h => ?_
  match r, h with
  | .error e, h => exact (show False from h).elim
  | .ok .next, h => exact (show False from h).elim
  | .ok .brk, h => exact (show False from h).elim
  | .ok .cont, h => exact (show False from h).elim
  | .ok (.ret v'), h =>
    obtain ⟨v, H', os, bare, un, hok', rr, rfl⟩ := h
    obtain rfl : v' = Value.bool true := rr
    have ends : ∀ t ∈ ts.map (·.2), ∃ more : Array Value, s'.heap.get? t = some { cls := .none, data := .fields more } := fun t ht => by
      obtain ⟨more, e3⟩ := un.tbls t #[] (hT t ht)
      have e4 : s'.heap.get? t = some { cls := .none, data := .fields (#[] ++ more) } := hok' t _ e3
      rw [Array.empty_append] at e4
      exact ⟨more, e4⟩
    have stay : ∀ b o, b ∉ ts.map (·.2) → s₁.heap.get? b = some o → s'.heap.get? b = some o := fun b o nb e => by
      cases q : H b with
      | none => exact un.keep b o e q (fun z => absurd (show b ∈ ([] : List Addr) from z) (by simp)) (by simp)
      | some x =>
        rcases look b x q with ⟨rfl, hx⟩ | ⟨hb, _⟩
        · rcases hu with rfl | rfl
          · cases hx
          · cases hx
            obtain ⟨e1, _⟩ := hok b _ q
            obtain ⟨e2, _⟩ := hok' b _ (un.frzs b _ _ q)
            rw [e] at e1
            cases e1
            exact e2
        · exact absurd hb nb
    refine ⟨rfl, ⟨fun b o e => ?_, fun b o e => ?_⟩, os, bare⟩
    · by_cases nb : b ∈ ts.map (·.2)
      · obtain ⟨c, hc⟩ := mem nb
        obtain ⟨ht, nt, C⟩ := hts _ hc
        obtain ⟨more, e4⟩ := ends b nb
        have ht' : s₁.heap.get? b = some { cls := .none, data := .fields #[] } := ht
        rw [ht'] at e
        cases e
        exact .inr (.inl ⟨(C.tab ht).isCodeTable, rfl, #[], more, rfl, by rw [Array.empty_append]; exact e4⟩)
      · exact .inl (stay b o nb e)
    · by_cases nb : b ∈ ts.map (·.2)
      · obtain ⟨more, e4⟩ := ends b nb
        exact ⟨_, e4⟩
      · exact ⟨o, stay b o nb e⟩
end Tt
set_option maxRecDepth 100000
set_option maxHeartbeats 4000000
namespace Tt
open PySem PySem.Spec PyProof.Rows L2
open LamX (TabB)
theorem all_mk {K : PySem.W.Frag} {h : Heap} {mg : Str → Option Value} {fa jc jP ec eP lc lP : Addr} (X : K.In h) (G : h.Ns mainGlobals mg) (hfa : mg "law" = some (.ref fa))
    {C_RoundError : Addr}
    {C_BadNumber : Addr}
    {od_BadNumber an_BadNumber : Option Addr} {sl_BadNumber : Array (Option Value)} {oc_BadNumber kV_BadNumber dc_BadNumber pm_BadNumber cd_BadNumber ct_BadNumber : Value} {f_BadNumber : Addr}
    {nm_BadNumber qn_BadNumber : Str} {N_BadNumber : Addr} {bs_BadNumber bm_BadNumber : List Value} {sn_BadNumber : List Str} {sb_BadNumber : List Value} {ab_BadNumber : Bool} {co_BadNumber : Option Bool} {dd_BadNumber : Option Addr} {m0_BadNumber m1_BadNumber m2_BadNumber m3_BadNumber m5_BadNumber : Option Value}
    {C_BadSkin : Addr}
    {od_BadSkin an_BadSkin : Option Addr} {sl_BadSkin : Array (Option Value)} {oc_BadSkin kV_BadSkin dc_BadSkin pm_BadSkin cd_BadSkin ct_BadSkin : Value} {f_BadSkin : Addr}
    {nm_BadSkin qn_BadSkin : Str} {N_BadSkin : Addr} {bs_BadSkin bm_BadSkin : List Value} {sn_BadSkin : List Str} {sb_BadSkin : List Value} {ab_BadSkin : Bool} {co_BadSkin : Option Bool} {dd_BadSkin : Option Addr} {m0_BadSkin m1_BadSkin m2_BadSkin m3_BadSkin m5_BadSkin : Option Value}
    {od_is_number an_is_number : Option Addr} {sl_is_number : Array (Option Value)} {oc_is_number kV_is_number dc_is_number pm_is_number cd_is_number ct_is_number : Value} {f_is_number : Addr}
    {od_is_within an_is_within : Option Addr} {sl_is_within : Array (Option Value)} {oc_is_within kV_is_within dc_is_within pm_is_within cd_is_within ct_is_within : Value} {f_is_within : Addr}
    {od_is_tuple an_is_tuple : Option Addr} {sl_is_tuple : Array (Option Value)} {oc_is_tuple kV_is_tuple dc_is_tuple pm_is_tuple cd_is_tuple ct_is_tuple : Value} {f_is_tuple : Addr}
    {od_is_list an_is_list : Option Addr} {sl_is_list : Array (Option Value)} {oc_is_list kV_is_list dc_is_list pm_is_list cd_is_list ct_is_list : Value} {f_is_list : Addr}
    {od_is_row an_is_row : Option Addr} {sl_is_row : Array (Option Value)} {oc_is_row kV_is_row dc_is_row pm_is_row cd_is_row ct_is_row : Value} {f_is_row : Addr}
    {C_Skin : Addr}
    {od_Skin an_Skin : Option Addr} {sl_Skin : Array (Option Value)} {oc_Skin kV_Skin dc_Skin pm_Skin cd_Skin ct_Skin : Value} {f_Skin : Addr}
    {od_check_skin an_check_skin : Option Addr} {sl_check_skin : Array (Option Value)} {oc_check_skin kV_check_skin dc_check_skin pm_check_skin cd_check_skin ct_check_skin : Value} {f_check_skin : Addr}
    {od_is_end an_is_end : Option Addr} {sl_is_end : Array (Option Value)} {oc_is_end kV_is_end dc_is_end pm_is_end cd_is_end ct_is_end : Value} {f_is_end : Addr}
    {od_end_behind an_end_behind : Option Addr} {sl_end_behind : Array (Option Value)} {oc_end_behind kV_end_behind dc_end_behind pm_end_behind cd_end_behind ct_end_behind : Value} {f_end_behind : Addr}
    {od_next_end an_next_end : Option Addr} {sl_next_end : Array (Option Value)} {oc_next_end kV_next_end dc_next_end pm_next_end cd_next_end ct_next_end : Value} {f_next_end : Addr}
    {od_l_begun an_l_begun : Option Addr} {sl_l_begun : Array (Option Value)} {oc_l_begun kV_l_begun dc_l_begun pm_l_begun cd_l_begun ct_l_begun : Value} {f_l_begun : Addr}
    {od_l_mixed an_l_mixed : Option Addr} {sl_l_mixed : Array (Option Value)} {oc_l_mixed kV_l_mixed dc_l_mixed pm_l_mixed cd_l_mixed ct_l_mixed : Value} {f_l_mixed : Addr}
    {od_l_take an_l_take : Option Addr} {sl_l_take : Array (Option Value)} {oc_l_take kV_l_take dc_l_take pm_l_take cd_l_take ct_l_take : Value} {f_l_take : Addr}
    {od_l_pick an_l_pick : Option Addr} {sl_l_pick : Array (Option Value)} {oc_l_pick kV_l_pick dc_l_pick pm_l_pick cd_l_pick ct_l_pick : Value} {f_l_pick : Addr}
    {od_l_shuffled an_l_shuffled : Option Addr} {sl_l_shuffled : Array (Option Value)} {oc_l_shuffled kV_l_shuffled dc_l_shuffled pm_l_shuffled cd_l_shuffled ct_l_shuffled : Value} {f_l_shuffled : Addr}
    {od_l_caught an_l_caught : Option Addr} {sl_l_caught : Array (Option Value)} {oc_l_caught kV_l_caught dc_l_caught pm_l_caught cd_l_caught ct_l_caught : Value} {f_l_caught : Addr}
    {od_l_number_error an_l_number_error : Option Addr} {sl_l_number_error : Array (Option Value)} {oc_l_number_error kV_l_number_error dc_l_number_error pm_l_number_error cd_l_number_error ct_l_number_error : Value} {f_l_number_error : Addr}
    {od_l_skin_error an_l_skin_error : Option Addr} {sl_l_skin_error : Array (Option Value)} {oc_l_skin_error kV_l_skin_error dc_l_skin_error pm_l_skin_error cd_l_skin_error ct_l_skin_error : Value} {f_l_skin_error : Addr}
    {od_l_turned an_l_turned : Option Addr} {sl_l_turned : Array (Option Value)} {oc_l_turned kV_l_turned dc_l_turned pm_l_turned cd_l_turned ct_l_turned : Value} {f_l_turned : Addr}
    {od_l_row an_l_row : Option Addr} {sl_l_row : Array (Option Value)} {oc_l_row kV_l_row dc_l_row pm_l_row cd_l_row ct_l_row : Value} {f_l_row : Addr}
    {od_l_is_row an_l_is_row : Option Addr} {sl_l_is_row : Array (Option Value)} {oc_l_is_row kV_l_is_row dc_l_is_row pm_l_is_row cd_l_is_row ct_l_is_row : Value} {f_l_is_row : Addr}
    {od_l_near an_l_near : Option Addr} {sl_l_near : Array (Option Value)} {oc_l_near kV_l_near dc_l_near pm_l_near cd_l_near ct_l_near : Value} {f_l_near : Addr}
    {od_l_judged an_l_judged : Option Addr} {sl_l_judged : Array (Option Value)} {oc_l_judged kV_l_judged dc_l_judged pm_l_judged ct_l_judged : Value} {f_l_judged : Addr}
    {od_l_ends_right an_l_ends_right : Option Addr} {sl_l_ends_right : Array (Option Value)} {oc_l_ends_right kV_l_ends_right dc_l_ends_right pm_l_ends_right ct_l_ends_right : Value} {f_l_ends_right : Addr}
    {od_law an_law : Option Addr} {sl_law : Array (Option Value)} {oc_law kV_law dc_law pm_law ct_law : Value} {f_law : Addr}
    {od_eqM an_eqM : Option Addr} {sl_eqM : Array (Option Value)} {oc_eqM kV_eqM dc_eqM pm_eqM cd_eqM ct_eqM : Value} {f_eqM : Addr}
    (hn0 : PySem.W.specialIn K (.builtin "object.__class__") "__get__" = some (some (.builtin "getset_descriptor.__get__")))
    (ht0 : PySem.W.takesIn K (.builtin "object.__class__") = some true)
    (a_RoundError : PySem.W.nsIn K mainGlobals "RoundError" = some (some (.ref C_RoundError)))
    (k_RoundError : PySem.W.keepIn K (.ref C_RoundError) = true)
    (q_RoundError : PySem.W.excIn K C_RoundError [.type "ValueError", .type "Exception", .type "BaseException", .type "object"] "ValueError.__new__" = true)
    (ty_RoundError : PySem.W.typeIn K (.ref C_RoundError) = some (.type "type"))
    (ga_RoundError : PySem.W.findIn K (.ref C_RoundError) "__getattribute__" = some (some (.builtin "BaseException.__getattribute__")))
    (gg_RoundError : PySem.W.findIn K (.ref C_RoundError) "__getattr__" = some none)
    (ex_RoundError : PySem.W.subIn K (.ref C_RoundError) (.type "BaseException") = some true)
    (hd_RoundError : PySem.W.hasDictIn K C_RoundError = true)
    (ca_RoundError : PySem.W.findIn K (.ref C_RoundError) "__class__" = some (some (.builtin "object.__class__")))
    (mo_RoundError : PySem.W.mroIn K C_RoundError (.type "object") = some true)
    (a_BadNumber : PySem.W.nsIn K mainGlobals "BadNumber" = some (some (.ref C_BadNumber)))
    (x_BadNumber : K.lookup C_BadNumber = some (excClassObj nm_BadNumber qn_BadNumber C_BadNumber N_BadNumber bs_BadNumber bm_BadNumber true sn_BadNumber sb_BadNumber ab_BadNumber co_BadNumber dd_BadNumber m0_BadNumber m1_BadNumber m2_BadNumber m3_BadNumber m5_BadNumber "ValueError.__new__"))
    (rv_BadNumber : PySem.HandSPX.refsVE bm_BadNumber = true)
    (sa_BadNumber : PySem.W.findIn K (.ref C_BadNumber) "__setattr__" = some (some (.builtin "object.__setattr__")))
    (ty_BadNumber : PySem.W.typeIn K (.ref C_BadNumber) = some (.type "type"))
    (kc_BadNumber : PySem.W.keepIn K (.ref C_BadNumber) = true)
    (i_BadNumber : PySem.W.findIn K (.ref C_BadNumber) "__init__" = some (some (.ref f_BadNumber)))
    (t_BadNumber : PySem.W.typeIn K (.ref f_BadNumber) = some (.type "function"))
    (l_BadNumber : K.lookup f_BadNumber = some ⟨oc_BadNumber, od_BadNumber, .func (PySem.W.fnOf "__init__" "BadNumber.__init__" (defArgs s_BadNumber_init) (defBody s_BadNumber_init) (defScope s_BadNumber_init) .none kV_BadNumber dc_BadNumber pm_BadNumber an_BadNumber cd_BadNumber ct_BadNumber), sl_BadNumber⟩)
    (c_BadNumber : PySem.W.codeIn K cd_BadNumber "BadNumber.__init__" = true)
    (k_BadNumber : PySem.W.keepIn K (.ref f_BadNumber) = true)
    (nf_BadNumber : PySem.W.findIn K (.ref C_BadNumber) "part" = some none)
    (ga_BadNumber : PySem.W.findIn K (.ref C_BadNumber) "__getattribute__" = some (some (.builtin "BaseException.__getattribute__")))
    (gg_BadNumber : PySem.W.findIn K (.ref C_BadNumber) "__getattr__" = some none)
    (ex_BadNumber : PySem.W.subIn K (.ref C_BadNumber) (.type "BaseException") = some true)
    (hd_BadNumber : PySem.W.hasDictIn K C_BadNumber = true)
    (ca_BadNumber : PySem.W.findIn K (.ref C_BadNumber) "__class__" = some (some (.builtin "object.__class__")))
    (mo_BadNumber : PySem.W.mroIn K C_BadNumber (.type "object") = some true)
    (a_BadSkin : PySem.W.nsIn K mainGlobals "BadSkin" = some (some (.ref C_BadSkin)))
    (x_BadSkin : K.lookup C_BadSkin = some (excClassObj nm_BadSkin qn_BadSkin C_BadSkin N_BadSkin bs_BadSkin bm_BadSkin true sn_BadSkin sb_BadSkin ab_BadSkin co_BadSkin dd_BadSkin m0_BadSkin m1_BadSkin m2_BadSkin m3_BadSkin m5_BadSkin "ValueError.__new__"))
    (rv_BadSkin : PySem.HandSPX.refsVE bm_BadSkin = true)
    (sa_BadSkin : PySem.W.findIn K (.ref C_BadSkin) "__setattr__" = some (some (.builtin "object.__setattr__")))
    (ty_BadSkin : PySem.W.typeIn K (.ref C_BadSkin) = some (.type "type"))
    (kc_BadSkin : PySem.W.keepIn K (.ref C_BadSkin) = true)
    (i_BadSkin : PySem.W.findIn K (.ref C_BadSkin) "__init__" = some (some (.ref f_BadSkin)))
    (t_BadSkin : PySem.W.typeIn K (.ref f_BadSkin) = some (.type "function"))
    (l_BadSkin : K.lookup f_BadSkin = some ⟨oc_BadSkin, od_BadSkin, .func (PySem.W.fnOf "__init__" "BadSkin.__init__" (defArgs s_BadSkin_init) (defBody s_BadSkin_init) (defScope s_BadSkin_init) .none kV_BadSkin dc_BadSkin pm_BadSkin an_BadSkin cd_BadSkin ct_BadSkin), sl_BadSkin⟩)
    (c_BadSkin : PySem.W.codeIn K cd_BadSkin "BadSkin.__init__" = true)
    (k_BadSkin : PySem.W.keepIn K (.ref f_BadSkin) = true)
    (nf_BadSkin : PySem.W.findIn K (.ref C_BadSkin) "part" = some none)
    (ga_BadSkin : PySem.W.findIn K (.ref C_BadSkin) "__getattribute__" = some (some (.builtin "BaseException.__getattribute__")))
    (gg_BadSkin : PySem.W.findIn K (.ref C_BadSkin) "__getattr__" = some none)
    (ex_BadSkin : PySem.W.subIn K (.ref C_BadSkin) (.type "BaseException") = some true)
    (hd_BadSkin : PySem.W.hasDictIn K C_BadSkin = true)
    (ca_BadSkin : PySem.W.findIn K (.ref C_BadSkin) "__class__" = some (some (.builtin "object.__class__")))
    (mo_BadSkin : PySem.W.mroIn K C_BadSkin (.type "object") = some true)
    (a_is_number : PySem.W.nsIn K mainGlobals "is_number" = some (some (.ref f_is_number)))
    (l_is_number : K.lookup f_is_number = some ⟨oc_is_number, od_is_number, .func (PySem.W.fnOf "is_number" "is_number" (defArgs s_is_number) (defBody s_is_number) (defScope s_is_number) .none kV_is_number dc_is_number pm_is_number an_is_number cd_is_number ct_is_number), sl_is_number⟩)
    (c_is_number : PySem.W.codeIn K cd_is_number "is_number" = true)
    (k_is_number : PySem.W.keepIn K (.ref f_is_number) = true)
    (a_is_within : PySem.W.nsIn K mainGlobals "is_within" = some (some (.ref f_is_within)))
    (l_is_within : K.lookup f_is_within = some ⟨oc_is_within, od_is_within, .func (PySem.W.fnOf "is_within" "is_within" (defArgs s_is_within) (defBody s_is_within) (defScope s_is_within) .none kV_is_within dc_is_within pm_is_within an_is_within cd_is_within ct_is_within), sl_is_within⟩)
    (c_is_within : PySem.W.codeIn K cd_is_within "is_within" = true)
    (k_is_within : PySem.W.keepIn K (.ref f_is_within) = true)
    (a_is_tuple : PySem.W.nsIn K mainGlobals "is_tuple" = some (some (.ref f_is_tuple)))
    (l_is_tuple : K.lookup f_is_tuple = some ⟨oc_is_tuple, od_is_tuple, .func (PySem.W.fnOf "is_tuple" "is_tuple" (defArgs s_is_tuple) (defBody s_is_tuple) (defScope s_is_tuple) .none kV_is_tuple dc_is_tuple pm_is_tuple an_is_tuple cd_is_tuple ct_is_tuple), sl_is_tuple⟩)
    (c_is_tuple : PySem.W.codeIn K cd_is_tuple "is_tuple" = true)
    (k_is_tuple : PySem.W.keepIn K (.ref f_is_tuple) = true)
    (a_is_list : PySem.W.nsIn K mainGlobals "is_list" = some (some (.ref f_is_list)))
    (l_is_list : K.lookup f_is_list = some ⟨oc_is_list, od_is_list, .func (PySem.W.fnOf "is_list" "is_list" (defArgs s_is_list) (defBody s_is_list) (defScope s_is_list) .none kV_is_list dc_is_list pm_is_list an_is_list cd_is_list ct_is_list), sl_is_list⟩)
    (c_is_list : PySem.W.codeIn K cd_is_list "is_list" = true)
    (k_is_list : PySem.W.keepIn K (.ref f_is_list) = true)
    (a_is_row : PySem.W.nsIn K mainGlobals "is_row" = some (some (.ref f_is_row)))
    (l_is_row : K.lookup f_is_row = some ⟨oc_is_row, od_is_row, .func (PySem.W.fnOf "is_row" "is_row" (defArgs s_is_row) (defBody s_is_row) (defScope s_is_row) .none kV_is_row dc_is_row pm_is_row an_is_row cd_is_row ct_is_row), sl_is_row⟩)
    (c_is_row : PySem.W.codeIn K cd_is_row "is_row" = true)
    (k_is_row : PySem.W.keepIn K (.ref f_is_row) = true)
    (a_Skin : PySem.W.nsIn K mainGlobals "Skin" = some (some (.ref C_Skin)))
    (i_Skin : PySem.W.findIn K (.ref C_Skin) "__init__" = some (some (.ref f_Skin)))
    (fn_Skin : PySem.W.isFn K (.ref f_Skin) = true)
    (l_Skin : K.lookup f_Skin = some ⟨oc_Skin, od_Skin, .func (PySem.W.fnOf "__init__" "Skin.__init__" (defArgs s_Skin_init) (defBody s_Skin_init) (defScope s_Skin_init) .none kV_Skin dc_Skin pm_Skin an_Skin cd_Skin ct_Skin), sl_Skin⟩)
    (c_Skin : PySem.W.codeIn K cd_Skin "Skin.__init__" = true)
    (k_Skin : PySem.W.keepIn K (.ref f_Skin) = true)
    (pg_Skin : PySem.W.plainGet K C_Skin Str.empty = true)
    (hd_Skin : PySem.W.hasDictIn K C_Skin = true)
    (po_Skin : PySem.W.plainOver K C_Skin = true)
    (sa_Skin : PySem.W.findIn K (.ref C_Skin) "__setattr__" = some (some (.builtin "object.__setattr__")))
    (mk_Skin : PySem.W.makesIn K C_Skin = true)
    (kc_Skin : PySem.W.keepIn K (.ref C_Skin) = true)
    (ca_Skin : PySem.W.findIn K (.ref C_Skin) "__class__" = some (some (.builtin "object.__class__")))
    (mo_Skin : PySem.W.mroIn K C_Skin (.type "object") = some true)
    (n_Skin_row : PySem.W.findIn K (.ref C_Skin) "row" = some none)
    (n_Skin_bands : PySem.W.findIn K (.ref C_Skin) "bands" = some none)
    (n_Skin_places : PySem.W.findIn K (.ref C_Skin) "places" = some none)
    (a_check_skin : PySem.W.nsIn K mainGlobals "check_skin" = some (some (.ref f_check_skin)))
    (l_check_skin : K.lookup f_check_skin = some ⟨oc_check_skin, od_check_skin, .func (PySem.W.fnOf "check_skin" "check_skin" (defArgs s_check_skin) (defBody s_check_skin) (defScope s_check_skin) .none kV_check_skin dc_check_skin pm_check_skin an_check_skin cd_check_skin ct_check_skin), sl_check_skin⟩)
    (c_check_skin : PySem.W.codeIn K cd_check_skin "check_skin" = true)
    (k_check_skin : PySem.W.keepIn K (.ref f_check_skin) = true)
    (a_is_end : PySem.W.nsIn K mainGlobals "is_end" = some (some (.ref f_is_end)))
    (l_is_end : K.lookup f_is_end = some ⟨oc_is_end, od_is_end, .func (PySem.W.fnOf "is_end" "is_end" (defArgs s_is_end) (defBody s_is_end) (defScope s_is_end) .none kV_is_end dc_is_end pm_is_end an_is_end cd_is_end ct_is_end), sl_is_end⟩)
    (c_is_end : PySem.W.codeIn K cd_is_end "is_end" = true)
    (k_is_end : PySem.W.keepIn K (.ref f_is_end) = true)
    (a_end_behind : PySem.W.nsIn K mainGlobals "end_behind" = some (some (.ref f_end_behind)))
    (l_end_behind : K.lookup f_end_behind = some ⟨oc_end_behind, od_end_behind, .func (PySem.W.fnOf "end_behind" "end_behind" (defArgs s_end_behind) (defBody s_end_behind) (defScope s_end_behind) .none kV_end_behind dc_end_behind pm_end_behind an_end_behind cd_end_behind ct_end_behind), sl_end_behind⟩)
    (c_end_behind : PySem.W.codeIn K cd_end_behind "end_behind" = true)
    (k_end_behind : PySem.W.keepIn K (.ref f_end_behind) = true)
    (a_next_end : PySem.W.nsIn K mainGlobals "next_end" = some (some (.ref f_next_end)))
    (l_next_end : K.lookup f_next_end = some ⟨oc_next_end, od_next_end, .func (PySem.W.fnOf "next_end" "next_end" (defArgs s_next_end) (defBody s_next_end) (defScope s_next_end) .none kV_next_end dc_next_end pm_next_end an_next_end cd_next_end ct_next_end), sl_next_end⟩)
    (c_next_end : PySem.W.codeIn K cd_next_end "next_end" = true)
    (k_next_end : PySem.W.keepIn K (.ref f_next_end) = true)
    (a_l_begun : PySem.W.nsIn K mainGlobals "_law_begun" = some (some (.ref f_l_begun)))
    (l_l_begun : K.lookup f_l_begun = some ⟨oc_l_begun, od_l_begun, .func (PySem.W.fnOf "_law_begun" "_law_begun" (defArgs s_l_begun) (defBody s_l_begun) (defScope s_l_begun) .none kV_l_begun dc_l_begun pm_l_begun an_l_begun cd_l_begun ct_l_begun), sl_l_begun⟩)
    (c_l_begun : PySem.W.codeIn K cd_l_begun "_law_begun" = true)
    (k_l_begun : PySem.W.keepIn K (.ref f_l_begun) = true)
    (a_l_mixed : PySem.W.nsIn K mainGlobals "_law_mixed" = some (some (.ref f_l_mixed)))
    (l_l_mixed : K.lookup f_l_mixed = some ⟨oc_l_mixed, od_l_mixed, .func (PySem.W.fnOf "_law_mixed" "_law_mixed" (defArgs s_l_mixed) (defBody s_l_mixed) (defScope s_l_mixed) .none kV_l_mixed dc_l_mixed pm_l_mixed an_l_mixed cd_l_mixed ct_l_mixed), sl_l_mixed⟩)
    (c_l_mixed : PySem.W.codeIn K cd_l_mixed "_law_mixed" = true)
    (k_l_mixed : PySem.W.keepIn K (.ref f_l_mixed) = true)
    (a_l_take : PySem.W.nsIn K mainGlobals "_law_take" = some (some (.ref f_l_take)))
    (l_l_take : K.lookup f_l_take = some ⟨oc_l_take, od_l_take, .func (PySem.W.fnOf "_law_take" "_law_take" (defArgs s_l_take) (defBody s_l_take) (defScope s_l_take) .none kV_l_take dc_l_take pm_l_take an_l_take cd_l_take ct_l_take), sl_l_take⟩)
    (c_l_take : PySem.W.codeIn K cd_l_take "_law_take" = true)
    (k_l_take : PySem.W.keepIn K (.ref f_l_take) = true)
    (a_l_pick : PySem.W.nsIn K mainGlobals "_law_pick" = some (some (.ref f_l_pick)))
    (l_l_pick : K.lookup f_l_pick = some ⟨oc_l_pick, od_l_pick, .func (PySem.W.fnOf "_law_pick" "_law_pick" (defArgs s_l_pick) (defBody s_l_pick) (defScope s_l_pick) .none kV_l_pick dc_l_pick pm_l_pick an_l_pick cd_l_pick ct_l_pick), sl_l_pick⟩)
    (c_l_pick : PySem.W.codeIn K cd_l_pick "_law_pick" = true)
    (k_l_pick : PySem.W.keepIn K (.ref f_l_pick) = true)
    (a_l_shuffled : PySem.W.nsIn K mainGlobals "_law_shuffled" = some (some (.ref f_l_shuffled)))
    (l_l_shuffled : K.lookup f_l_shuffled = some ⟨oc_l_shuffled, od_l_shuffled, .func (PySem.W.fnOf "_law_shuffled" "_law_shuffled" (defArgs s_l_shuffled) (defBody s_l_shuffled) (defScope s_l_shuffled) .none kV_l_shuffled dc_l_shuffled pm_l_shuffled an_l_shuffled cd_l_shuffled ct_l_shuffled), sl_l_shuffled⟩)
    (c_l_shuffled : PySem.W.codeIn K cd_l_shuffled "_law_shuffled" = true)
    (k_l_shuffled : PySem.W.keepIn K (.ref f_l_shuffled) = true)
    (a_l_caught : PySem.W.nsIn K mainGlobals "_law_caught" = some (some (.ref f_l_caught)))
    (l_l_caught : K.lookup f_l_caught = some ⟨oc_l_caught, od_l_caught, .func (PySem.W.fnOf "_law_caught" "_law_caught" (defArgs s_l_caught) (defBody s_l_caught) (defScope s_l_caught) .none kV_l_caught dc_l_caught pm_l_caught an_l_caught cd_l_caught ct_l_caught), sl_l_caught⟩)
    (c_l_caught : PySem.W.codeIn K cd_l_caught "_law_caught" = true)
    (k_l_caught : PySem.W.keepIn K (.ref f_l_caught) = true)
    (a_l_number_error : PySem.W.nsIn K mainGlobals "_law_number_error" = some (some (.ref f_l_number_error)))
    (l_l_number_error : K.lookup f_l_number_error = some ⟨oc_l_number_error, od_l_number_error, .func (PySem.W.fnOf "_law_number_error" "_law_number_error" (defArgs s_l_number_error) (defBody s_l_number_error) (defScope s_l_number_error) .none kV_l_number_error dc_l_number_error pm_l_number_error an_l_number_error cd_l_number_error ct_l_number_error), sl_l_number_error⟩)
    (c_l_number_error : PySem.W.codeIn K cd_l_number_error "_law_number_error" = true)
    (k_l_number_error : PySem.W.keepIn K (.ref f_l_number_error) = true)
    (a_l_skin_error : PySem.W.nsIn K mainGlobals "_law_skin_error" = some (some (.ref f_l_skin_error)))
    (l_l_skin_error : K.lookup f_l_skin_error = some ⟨oc_l_skin_error, od_l_skin_error, .func (PySem.W.fnOf "_law_skin_error" "_law_skin_error" (defArgs s_l_skin_error) (defBody s_l_skin_error) (defScope s_l_skin_error) .none kV_l_skin_error dc_l_skin_error pm_l_skin_error an_l_skin_error cd_l_skin_error ct_l_skin_error), sl_l_skin_error⟩)
    (c_l_skin_error : PySem.W.codeIn K cd_l_skin_error "_law_skin_error" = true)
    (k_l_skin_error : PySem.W.keepIn K (.ref f_l_skin_error) = true)
    (a_l_turned : PySem.W.nsIn K mainGlobals "_law_turned" = some (some (.ref f_l_turned)))
    (l_l_turned : K.lookup f_l_turned = some ⟨oc_l_turned, od_l_turned, .func (PySem.W.fnOf "_law_turned" "_law_turned" (defArgs s_l_turned) (defBody s_l_turned) (defScope s_l_turned) .none kV_l_turned dc_l_turned pm_l_turned an_l_turned cd_l_turned ct_l_turned), sl_l_turned⟩)
    (c_l_turned : PySem.W.codeIn K cd_l_turned "_law_turned" = true)
    (k_l_turned : PySem.W.keepIn K (.ref f_l_turned) = true)
    (a_l_row : PySem.W.nsIn K mainGlobals "_law_row" = some (some (.ref f_l_row)))
    (l_l_row : K.lookup f_l_row = some ⟨oc_l_row, od_l_row, .func (PySem.W.fnOf "_law_row" "_law_row" (defArgs s_l_row) (defBody s_l_row) (defScope s_l_row) .none kV_l_row dc_l_row pm_l_row an_l_row cd_l_row ct_l_row), sl_l_row⟩)
    (c_l_row : PySem.W.codeIn K cd_l_row "_law_row" = true)
    (k_l_row : PySem.W.keepIn K (.ref f_l_row) = true)
    (a_l_is_row : PySem.W.nsIn K mainGlobals "_law_is_row" = some (some (.ref f_l_is_row)))
    (l_l_is_row : K.lookup f_l_is_row = some ⟨oc_l_is_row, od_l_is_row, .func (PySem.W.fnOf "_law_is_row" "_law_is_row" (defArgs s_l_is_row) (defBody s_l_is_row) (defScope s_l_is_row) .none kV_l_is_row dc_l_is_row pm_l_is_row an_l_is_row cd_l_is_row ct_l_is_row), sl_l_is_row⟩)
    (c_l_is_row : PySem.W.codeIn K cd_l_is_row "_law_is_row" = true)
    (k_l_is_row : PySem.W.keepIn K (.ref f_l_is_row) = true)
    (a_l_near : PySem.W.nsIn K mainGlobals "_law_near" = some (some (.ref f_l_near)))
    (l_l_near : K.lookup f_l_near = some ⟨oc_l_near, od_l_near, .func (PySem.W.fnOf "_law_near" "_law_near" (defArgs s_l_near) (defBody s_l_near) (defScope s_l_near) .none kV_l_near dc_l_near pm_l_near an_l_near cd_l_near ct_l_near), sl_l_near⟩)
    (c_l_near : PySem.W.codeIn K cd_l_near "_law_near" = true)
    (k_l_near : PySem.W.keepIn K (.ref f_l_near) = true)
    (a_l_judged : PySem.W.nsIn K mainGlobals "_law_judged" = some (some (.ref f_l_judged)))
    (l_l_judged : K.lookup f_l_judged = some ⟨oc_l_judged, od_l_judged, .func (PySem.W.fnOf "_law_judged" "_law_judged" (defArgs s_l_judged) (defBody s_l_judged) (defScope s_l_judged) .none kV_l_judged dc_l_judged pm_l_judged an_l_judged (.ref jc) ct_l_judged), sl_l_judged⟩)
    (c_l_judged : PySem.W.codeIn K (.ref jc) "_law_judged" = true)
    (k_l_judged : PySem.W.keepIn K (.ref f_l_judged) = true)
    (a_l_ends_right : PySem.W.nsIn K mainGlobals "_law_ends_right" = some (some (.ref f_l_ends_right)))
    (l_l_ends_right : K.lookup f_l_ends_right = some ⟨oc_l_ends_right, od_l_ends_right, .func (PySem.W.fnOf "_law_ends_right" "_law_ends_right" (defArgs s_l_ends_right) (defBody s_l_ends_right) (defScope s_l_ends_right) .none kV_l_ends_right dc_l_ends_right pm_l_ends_right an_l_ends_right (.ref ec) ct_l_ends_right), sl_l_ends_right⟩)
    (c_l_ends_right : PySem.W.codeIn K (.ref ec) "_law_ends_right" = true)
    (k_l_ends_right : PySem.W.keepIn K (.ref f_l_ends_right) = true)
    (a_law : PySem.W.nsIn K mainGlobals "law" = some (some (.ref f_law)))
    (l_law : K.lookup f_law = some ⟨oc_law, od_law, .func (PySem.W.fnOf "law" "law" (defArgs s_law) (defBody s_law) (defScope s_law) .none kV_law dc_law pm_law an_law (.ref lc) ct_law), sl_law⟩)
    (c_law : PySem.W.codeIn K (.ref lc) "law" = true)
    (k_law : PySem.W.keepIn K (.ref f_law) = true)
    (zabs : PySem.W.nsIn K mainGlobals "abs" = some none)
    (zall : PySem.W.nsIn K mainGlobals "all" = some none)
    (zbool : PySem.W.nsIn K mainGlobals "bool" = some none)
    (zint : PySem.W.nsIn K mainGlobals "int" = some none)
    (zisinstance : PySem.W.nsIn K mainGlobals "isinstance" = some none)
    (zlen : PySem.W.nsIn K mainGlobals "len" = some none)
    (zlist : PySem.W.nsIn K mainGlobals "list" = some none)
    (zmin : PySem.W.nsIn K mainGlobals "min" = some none)
    (zrange : PySem.W.nsIn K mainGlobals "range" = some none)
    (zrepr : PySem.W.nsIn K mainGlobals "repr" = some none)
    (zsorted : PySem.W.nsIn K mainGlobals "sorted" = some none)
    (ztuple : PySem.W.nsIn K mainGlobals "tuple" = some none)
    (ztype : PySem.W.nsIn K mainGlobals "type" = some none)
    (kSS : PySem.W.kitOne K (.ref C_Skin) (.ref C_Skin) = some true)
    (kST : PySem.W.kitOne K (.type "tuple") (.ref C_Skin) = some false)
    (kSN : PySem.W.kitOne K (.type "NoneType") (.ref C_Skin) = some false)
    (kSL : PySem.W.kitOne K (.type "list") (.ref C_Skin) = some false)
    (kSI : PySem.W.kitOne K (.type "int") (.ref C_Skin) = some false)
    (kSkSk : PySem.W.kitOne K (.ref C_BadSkin) (.ref C_BadSkin) = some true)
    (sSR : PySem.W.subIn K (.ref C_BadSkin) (.ref C_RoundError) = some true)
    (kNN : PySem.W.kitOne K (.ref C_BadNumber) (.ref C_BadNumber) = some true)
    (sNR : PySem.W.subIn K (.ref C_BadNumber) (.ref C_RoundError) = some true)
    (kNoL : PySem.W.kitOne K (.type "NoneType") (.type "list") = some false)
    (kInL : PySem.W.kitOne K (.type "int") (.type "list") = some false)
    (kStL : PySem.W.kitOne K (.type "str") (.type "list") = some false)
    (kDiL : PySem.W.kitOne K (.type "dict") (.type "list") = some false)
    (kTuL : PySem.W.kitOne K (.type "tuple") (.type "list") = some false)
    (kNoT : PySem.W.kitOne K (.type "NoneType") (.type "tuple") = some false)
    (kInT : PySem.W.kitOne K (.type "int") (.type "tuple") = some false)
    (kStT : PySem.W.kitOne K (.type "str") (.type "tuple") = some false)
    (kDiT : PySem.W.kitOne K (.type "dict") (.type "tuple") = some false)
    (kBoI : PySem.W.kitOne K (.type "bool") (.type "int") = some true)
    (kNoI : PySem.W.kitOne K (.type "NoneType") (.type "int") = some false)
    (kStI : PySem.W.kitOne K (.type "str") (.type "int") = some false)
    (kTuI : PySem.W.kitOne K (.type "tuple") (.type "int") = some false)
    (kLiI : PySem.W.kitOne K (.type "list") (.type "int") = some false)
    (kInB : PySem.W.kitOne K (.type "int") (.type "bool") = some false)
    (i_eqM : PySem.W.findIn K (.ref C_Skin) "__eq__" = some (some (.ref f_eqM)))
    (fn_eqM : PySem.W.isFn K (.ref f_eqM) = true)
    (l_eqM : K.lookup f_eqM = some ⟨oc_eqM, od_eqM, .func (PySem.W.fnOf "__eq__" "Skin.__eq__" (defArgs s_Skin_eq) (defBody s_Skin_eq) (defScope s_Skin_eq) .none kV_eqM dc_eqM pm_eqM an_eqM cd_eqM ct_eqM), sl_eqM⟩)
    (c_eqM : PySem.W.codeIn K cd_eqM "Skin.__eq__" = true)
    (k_eqM : PySem.W.keepIn K (.ref f_eqM) = true)
    (neO : PySem.W.findIn K (.ref C_Skin) "__ne__" = some (some (.builtin "object.__ne__")))
    (tgj : h.get? jP = some { cls := .none, data := .fields #[] }) (tcj : PySem.W.CodeHd h jc jP) (njj : K.lookup jP = none) (tge : h.get? eP = some { cls := .none, data := .fields #[] }) (tce : PySem.W.CodeHd h ec eP) (nje : K.lookup eP = none) (tgl : h.get? lP = some { cls := .none, data := .fields #[] }) (tcl : PySem.W.CodeHd h lc lP) (njl : K.lookup lP = none) (ne : jP ≠ lP) (ne_1 : eP ≠ lP) (ne_2 : jP ≠ eP) :
    ∃ T : Txt K mg, fa = T.law.a ∧ (h.get? T.jP = some { cls := .none, data := .fields #[] } ∧ K.lookup T.jP = none ∧ PySem.W.CodeHd h T.jc T.jP) ∧ (h.get? T.eP = some { cls := .none, data := .fields #[] } ∧ K.lookup T.eP = none ∧ PySem.W.CodeHd h T.ec T.eP) ∧ (h.get? T.lP = some { cls := .none, data := .fields #[] } ∧ K.lookup T.lP = none ∧ PySem.W.CodeHd h T.lc T.lP) := by
  have no_Skin : ∀ f ∈ (["row", "bands", "places"] : List Str), NoAttr K C_Skin f := fun f hf => by
      simp only [List.mem_cons, List.not_mem_nil, or_false] at hf
      rcases hf with rfl | rfl | rfl
      · exact n_Skin_row
      · exact n_Skin_bands
      · exact n_Skin_places
  have e := hfa.symm.trans (PySem.W.mg_of X G a_law)
  cases e
  refine ⟨{
    RoundError := ⟨C_RoundError, PySem.W.mg_of X G a_RoundError, k_RoundError, q_RoundError, ty_RoundError, ⟨ga_RoundError, gg_RoundError, ex_RoundError, hd_RoundError, ca_RoundError, hn0, ht0, mo_RoundError⟩⟩,
    BadNumber := ⟨C_BadNumber, f_BadNumber, _, PySem.W.mg_of X G a_BadNumber, ⟨⟨_, _, _, _, _, _, _, _, _, _, _, _, _, _, _, x_BadNumber, rv_BadNumber⟩, sa_BadNumber, ex_BadNumber, ty_BadNumber, kc_BadNumber⟩, i_BadNumber, t_BadNumber, fun_mk (st := s_BadNumber_init) l_BadNumber c_BadNumber k_BadNumber, (fun_mk (st := s_BadNumber_init) l_BadNumber c_BadNumber k_BadNumber).binds (ps := ["self", "part"]) (fun _ _ _ _ _ _ us hl => match us, hl with | [_, _], _ => rfl), nf_BadNumber, ⟨ga_BadNumber, gg_BadNumber, ex_BadNumber, hd_BadNumber⟩, ⟨ga_BadNumber, gg_BadNumber, ex_BadNumber, hd_BadNumber, ca_BadNumber, hn0, ht0, mo_BadNumber⟩⟩,
    BadSkin := ⟨C_BadSkin, f_BadSkin, _, PySem.W.mg_of X G a_BadSkin, ⟨⟨_, _, _, _, _, _, _, _, _, _, _, _, _, _, _, x_BadSkin, rv_BadSkin⟩, sa_BadSkin, ex_BadSkin, ty_BadSkin, kc_BadSkin⟩, i_BadSkin, t_BadSkin, fun_mk (st := s_BadSkin_init) l_BadSkin c_BadSkin k_BadSkin, (fun_mk (st := s_BadSkin_init) l_BadSkin c_BadSkin k_BadSkin).binds (ps := ["self", "part"]) (fun _ _ _ _ _ _ us hl => match us, hl with | [_, _], _ => rfl), nf_BadSkin, ⟨ga_BadSkin, gg_BadSkin, ex_BadSkin, hd_BadSkin⟩, ⟨ga_BadSkin, gg_BadSkin, ex_BadSkin, hd_BadSkin, ca_BadSkin, hn0, ht0, mo_BadSkin⟩⟩,
    is_number := ⟨f_is_number, _, fun_mk (st := s_is_number) l_is_number c_is_number k_is_number, PySem.W.mg_of X G a_is_number, (fun_mk (st := s_is_number) l_is_number c_is_number k_is_number).binds (ps := ["thing"]) (fun _ _ _ _ _ _ us hl => match us, hl with | [_], _ => rfl)⟩,
    is_within := ⟨f_is_within, _, fun_mk (st := s_is_within) l_is_within c_is_within k_is_within, PySem.W.mg_of X G a_is_within, (fun_mk (st := s_is_within) l_is_within c_is_within k_is_within).binds (ps := ["thing", "low", "high"]) (fun _ _ _ _ _ _ us hl => match us, hl with | [_, _, _], _ => rfl)⟩,
    is_tuple := ⟨f_is_tuple, _, fun_mk (st := s_is_tuple) l_is_tuple c_is_tuple k_is_tuple, PySem.W.mg_of X G a_is_tuple, (fun_mk (st := s_is_tuple) l_is_tuple c_is_tuple k_is_tuple).binds (ps := ["thing"]) (fun _ _ _ _ _ _ us hl => match us, hl with | [_], _ => rfl)⟩,
    is_list := ⟨f_is_list, _, fun_mk (st := s_is_list) l_is_list c_is_list k_is_list, PySem.W.mg_of X G a_is_list, (fun_mk (st := s_is_list) l_is_list c_is_list k_is_list).binds (ps := ["thing"]) (fun _ _ _ _ _ _ us hl => match us, hl with | [_], _ => rfl)⟩,
    is_row := ⟨f_is_row, _, fun_mk (st := s_is_row) l_is_row c_is_row k_is_row, PySem.W.mg_of X G a_is_row, (fun_mk (st := s_is_row) l_is_row c_is_row k_is_row).binds (ps := ["row"]) (fun _ _ _ _ _ _ us hl => match us, hl with | [_], _ => rfl)⟩,
    Skin := ⟨C_Skin, f_Skin, _, PySem.W.mg_of X G a_Skin, ⟨pg_Skin, hd_Skin, po_Skin, sa_Skin⟩, no_Skin, ⟨mk_Skin, i_Skin, fn_Skin, kc_Skin⟩, fun_mk (st := s_Skin_init) l_Skin c_Skin k_Skin, (fun_mk (st := s_Skin_init) l_Skin c_Skin k_Skin).binds (ps := ["self", "row"]) (fun _ _ _ _ _ _ us hl => match us, hl with | [_, _], _ => rfl), ca_Skin, hn0, ht0, mo_Skin⟩,
    check_skin := ⟨f_check_skin, _, fun_mk (st := s_check_skin) l_check_skin c_check_skin k_check_skin, PySem.W.mg_of X G a_check_skin, (fun_mk (st := s_check_skin) l_check_skin c_check_skin k_check_skin).binds (ps := ["skin"]) (fun _ _ _ _ _ _ us hl => match us, hl with | [_], _ => rfl)⟩,
    is_end := ⟨f_is_end, _, fun_mk (st := s_is_end) l_is_end c_is_end k_is_end, PySem.W.mg_of X G a_is_end, (fun_mk (st := s_is_end) l_is_end c_is_end k_is_end).binds (ps := ["skin", "thing"]) (fun _ _ _ _ _ _ us hl => match us, hl with | [_, _], _ => rfl)⟩,
    end_behind := ⟨f_end_behind, _, fun_mk (st := s_end_behind) l_end_behind c_end_behind k_end_behind, PySem.W.mg_of X G a_end_behind, (fun_mk (st := s_end_behind) l_end_behind c_end_behind k_end_behind).binds (ps := ["skin", "end", "steps"]) (fun _ _ _ _ _ _ us hl => match us, hl with | [_, _, _], _ => rfl)⟩,
    next_end := ⟨f_next_end, _, fun_mk (st := s_next_end) l_next_end c_next_end k_next_end, PySem.W.mg_of X G a_next_end, (fun_mk (st := s_next_end) l_next_end c_next_end k_next_end).binds (ps := ["skin", "end"]) (fun _ _ _ _ _ _ us hl => match us, hl with | [_, _], _ => rfl)⟩,
    l_begun := ⟨f_l_begun, _, fun_mk (st := s_l_begun) l_l_begun c_l_begun k_l_begun, PySem.W.mg_of X G a_l_begun, (fun_mk (st := s_l_begun) l_l_begun c_l_begun k_l_begun).binds (ps := ["script"]) (fun _ _ _ _ _ _ us hl => match us, hl with | [_], _ => rfl)⟩,
    l_mixed := ⟨f_l_mixed, _, fun_mk (st := s_l_mixed) l_l_mixed c_l_mixed k_l_mixed, PySem.W.mg_of X G a_l_mixed, (fun_mk (st := s_l_mixed) l_l_mixed c_l_mixed k_l_mixed).binds (ps := ["draw"]) (fun _ _ _ _ _ _ us hl => match us, hl with | [_], _ => rfl)⟩,
    l_take := ⟨f_l_take, _, fun_mk (st := s_l_take) l_l_take c_l_take k_l_take, PySem.W.mg_of X G a_l_take, (fun_mk (st := s_l_take) l_l_take c_l_take k_l_take).binds (ps := ["draw", "amount"]) (fun _ _ _ _ _ _ us hl => match us, hl with | [_, _], _ => rfl)⟩,
    l_pick := ⟨f_l_pick, _, fun_mk (st := s_l_pick) l_l_pick c_l_pick k_l_pick, PySem.W.mg_of X G a_l_pick, (fun_mk (st := s_l_pick) l_l_pick c_l_pick k_l_pick).binds (ps := ["draw", "some"]) (fun _ _ _ _ _ _ us hl => match us, hl with | [_, _], _ => rfl)⟩,
    l_shuffled := ⟨f_l_shuffled, _, fun_mk (st := s_l_shuffled) l_l_shuffled c_l_shuffled k_l_shuffled, PySem.W.mg_of X G a_l_shuffled, (fun_mk (st := s_l_shuffled) l_l_shuffled c_l_shuffled k_l_shuffled).binds (ps := ["draw", "some"]) (fun _ _ _ _ _ _ us hl => match us, hl with | [_, _], _ => rfl)⟩,
    l_caught := ⟨f_l_caught, _, fun_mk (st := s_l_caught) l_l_caught c_l_caught k_l_caught, PySem.W.mg_of X G a_l_caught, (fun_mk (st := s_l_caught) l_l_caught c_l_caught k_l_caught).binds (ps := ["work"]) (fun _ _ _ _ _ _ us hl => match us, hl with | [_], _ => rfl)⟩,
    l_number_error := ⟨f_l_number_error, _, fun_mk (st := s_l_number_error) l_l_number_error c_l_number_error k_l_number_error, PySem.W.mg_of X G a_l_number_error, (fun_mk (st := s_l_number_error) l_l_number_error c_l_number_error k_l_number_error).binds (ps := ["error", "part"]) (fun _ _ _ _ _ _ us hl => match us, hl with | [_, _], _ => rfl)⟩,
    l_skin_error := ⟨f_l_skin_error, _, fun_mk (st := s_l_skin_error) l_l_skin_error c_l_skin_error k_l_skin_error, PySem.W.mg_of X G a_l_skin_error, (fun_mk (st := s_l_skin_error) l_l_skin_error c_l_skin_error k_l_skin_error).binds (ps := ["error"]) (fun _ _ _ _ _ _ us hl => match us, hl with | [_], _ => rfl)⟩,
    l_turned := ⟨f_l_turned, _, fun_mk (st := s_l_turned) l_l_turned c_l_turned k_l_turned, PySem.W.mg_of X G a_l_turned, (fun_mk (st := s_l_turned) l_l_turned c_l_turned k_l_turned).binds (ps := ["line"]) (fun _ _ _ _ _ _ us hl => match us, hl with | [_], _ => rfl)⟩,
    l_row := ⟨f_l_row, _, fun_mk (st := s_l_row) l_l_row c_l_row k_l_row, PySem.W.mg_of X G a_l_row, (fun_mk (st := s_l_row) l_l_row c_l_row k_l_row).binds (ps := ["draw", "most"]) (fun _ _ _ _ _ _ us hl => match us, hl with | [_, _], _ => rfl)⟩,
    l_is_row := ⟨f_l_is_row, _, fun_mk (st := s_l_is_row) l_l_is_row c_l_is_row k_l_is_row, PySem.W.mg_of X G a_l_is_row, (fun_mk (st := s_l_is_row) l_l_is_row c_l_is_row k_l_is_row).binds (ps := ["thing"]) (fun _ _ _ _ _ _ us hl => match us, hl with | [_], _ => rfl)⟩,
    l_near := ⟨f_l_near, _, fun_mk (st := s_l_near) l_l_near c_l_near k_l_near, PySem.W.mg_of X G a_l_near, (fun_mk (st := s_l_near) l_l_near c_l_near k_l_near).binds (ps := ["draw", "line"]) (fun _ _ _ _ _ _ us hl => match us, hl with | [_, _], _ => rfl)⟩,
    l_judged := ⟨f_l_judged, _, fun_mk (st := s_l_judged) l_l_judged c_l_judged k_l_judged, PySem.W.mg_of X G a_l_judged, (fun_mk (st := s_l_judged) l_l_judged c_l_judged k_l_judged).binds (ps := ["draw", "line"]) (fun _ _ _ _ _ _ us hl => match us, hl with | [_, _], _ => rfl)⟩,
    l_ends_right := ⟨f_l_ends_right, _, fun_mk (st := s_l_ends_right) l_l_ends_right c_l_ends_right k_l_ends_right, PySem.W.mg_of X G a_l_ends_right, (fun_mk (st := s_l_ends_right) l_l_ends_right c_l_ends_right k_l_ends_right).binds (ps := ["draw", "skin", "line"]) (fun _ _ _ _ _ _ us hl => match us, hl with | [_, _, _], _ => rfl)⟩,
    law := ⟨fa, _, fun_mk (st := s_law) l_law c_law k_law, PySem.W.mg_of X G a_law, (fun_mk (st := s_law) l_law c_law k_law).binds (ps := ["script"]) (fun _ _ _ _ _ _ us hl => match us, hl with | [_], _ => rfl)⟩,
    zabs := PySem.W.mg_none_of X G zabs,
    zall := PySem.W.mg_none_of X G zall,
    zbool := PySem.W.mg_none_of X G zbool,
    zint := PySem.W.mg_none_of X G zint,
    zisinstance := PySem.W.mg_none_of X G zisinstance,
    zlen := PySem.W.mg_none_of X G zlen,
    zlist := PySem.W.mg_none_of X G zlist,
    zmin := PySem.W.mg_none_of X G zmin,
    zrange := PySem.W.mg_none_of X G zrange,
    zrepr := PySem.W.mg_none_of X G zrepr,
    zsorted := PySem.W.mg_none_of X G zsorted,
    ztuple := PySem.W.mg_none_of X G ztuple,
    ztype := PySem.W.mg_none_of X G ztype,
    kSS := kSS,
    kST := kST,
    kSN := kSN,
    kSL := kSL,
    kSI := kSI,
    kSkSk := kSkSk,
    sSR := sSR,
    kNN := kNN,
    sNR := sNR,
    kNoL := kNoL,
    kInL := kInL,
    kStL := kStL,
    kDiL := kDiL,
    kTuL := kTuL,
    kNoT := kNoT,
    kInT := kInT,
    kStT := kStT,
    kDiT := kDiT,
    kBoI := kBoI,
    kNoI := kNoI,
    kStI := kStI,
    kTuI := kTuI,
    kLiI := kLiI,
    kInB := kInB,
    eqM := ⟨f_eqM, _, fun_mk (st := s_Skin_eq) l_eqM c_eqM k_eqM, i_eqM, fn_eqM, (fun_mk (st := s_Skin_eq) l_eqM c_eqM k_eqM).binds (ps := ["self", "other"]) (fun _ _ _ _ _ _ us hl => match us, hl with | [_, _], _ => rfl)⟩,
    neO := neO,
    jc := jc,
    jP := jP,
    jF := ⟨_, _, _, _, _, _, _, _, rfl, l_l_judged, c_l_judged⟩,
    ec := ec,
    eP := eP,
    eF := ⟨_, _, _, _, _, _, _, _, rfl, l_l_ends_right, c_l_ends_right⟩,
    lc := lc,
    lP := lP,
    lF := ⟨_, _, _, _, _, _, _, _, rfl, l_law, c_law⟩,
    ne := ne,
    ne_1 := ne_1,
    ne_2 := ne_2 }, rfl, ⟨tgj, njj, tcj⟩, ⟨tge, nje, tce⟩, ⟨tgl, njl, tcl⟩⟩
theorem walk_law {l : PySem.W.OpenLaw} {q : Program} {loose : List Str} {XP : (Str → Option Value) → Heap → Prop} {YP : World → Heap → Prop} {d : DefRec} {K : Params → PySem.W.Frag} (hn : l.most = some 63) (hdf : d.params.defaults = [])
    (hY : ∀ (w : World) (h : Heap), YP w h → (K w.params).In h)
    (F : ∀ (w : World) (mg : Str → Option Value) (fa : Addr) (h : Heap), YP w h → (K w.params).In h → h.Ns mainGlobals mg → mg d.name = some (.ref fa) →
      ∃ T : Txt (K w.params) mg, fa = T.law.a ∧ (h.get? T.jP = some { cls := .none, data := .fields #[] } ∧ (K w.params).lookup T.jP = none ∧ PySem.W.CodeHd h T.jc T.jP) ∧ (h.get? T.eP = some { cls := .none, data := .fields #[] } ∧ (K w.params).lookup T.eP = none ∧ PySem.W.CodeHd h T.ec T.eP) ∧ (h.get? T.lP = some { cls := .none, data := .fields #[] } ∧ (K w.params).lookup T.lP = none ∧ PySem.W.CodeHd h T.lc T.lP)) :
    PySem.W.WalkO q loose XP YP l.row.toRowW d [] (fun f vs => PySem.call f vs) := by
  refine Att.attach_callB hn hdf fun w s₀ s₁ mg mb fa o pm cd doc a vs ns G Y ho hd hcd hmg hobj hints hlen hbits hg => ?_
  have KX := hY w _ Y
  obtain ⟨T, rfl, h_j, h_e, h_l⟩ := F w mg fa _ Y KX G.T.g hmg
  refine law_run (ts := [(T.jc, T.jP), (T.ec, T.eP), (T.lc, T.lP)]) KX G.T.g G.T.b G.T.builtins G.T.nolimit hg (fun p hp => ?_) G.T.bmain hobj hints (Nat.le_trans hlen (by decide)) fun base H TB e0 hT hS => ?_
  · simp only [List.mem_cons, List.not_mem_nil, or_false] at hp
    rcases hp with rfl | rfl | rfl
    · exact h_j
    · exact h_e
    · exact h_l
  have htb : LamX.Tabs (jTs T) H := fun p hp => by
    simp only [List.mem_cons, List.not_mem_nil, or_false] at hp
    rcases hp with rfl | rfl | rfl
    · exact LamX.TabS.nil (hT (T.jc, T.jP) (List.mem_cons_self))
    · exact LamX.TabS.nil (hT (T.ec, T.eP) (List.mem_cons_of_mem _ (List.mem_cons_self)))
    · exact LamX.TabS.nil (hT (T.lc, T.lP) (List.mem_cons_of_mem _ (List.mem_cons_of_mem _ (List.mem_cons_self))))
  obtain ⟨oc, od, kV, doc', pm', an, ct, osl, e, lk, hc⟩ := T.lF.ex
  have hb := T.law.b s₁ [.ref a] KX rfl
  rw [e] at lk hb
  refine LamX.run_ofS (N := N_law) (ps := ["script"]) (k := 14) (us := [.ref a]) (vs := [.ref a]) lk hc sc_law ⟨rfl, by decide, by decide⟩ e0 hb (.cons rfl .nil) rfl fun hr' => ?_
  obtain ⟨t, h1, h2⟩ := law_body (w := w) (base := base) (E := E0) (outer := []) (Q := fun v _ => v = .bl true) T (TB (T.ec, T.eP) (List.mem_cons_of_mem _ (List.mem_cons_self))) (TB (T.lc, T.lP) (List.mem_cons_of_mem _ (List.mem_cons_of_mem _ (List.mem_cons_self)))) (TB (T.jc, T.jP) (List.mem_cons_self)) (A := callerA) (s := s₁) rfl hr' hS hlen htb (fun _ => rfl)
  exact ⟨t, h1.nox, h2⟩
end Tt
open PySem PySem.W PyProof.Rows in
set_option maxRecDepth 100000 in
set_option maxHeartbeats 0 in
theorem PySem.Challenge.cw_tautrounds_k01_skins_judged_holds : PySem.Challenge.rw_tautrounds_k01_skins_judged.Holds := by
  w_on; o_law; k_head; (case hw => w_witness2)
  k_fill
  refine' Tt.walk_law (l := PySem.Challenge.rw_tautrounds_k01_skins_judged) rfl rfl (fun w h Y => PySem.W.km_in_of Y) ?F
  case F =>
    intro w mg fa h Y KX G hmg
    refine' Tt.all_mk KX G hmg ?hn0 ?ht0 ?a_RoundError ?k_RoundError ?q_RoundError ?ty_RoundError ?ga_RoundError ?gg_RoundError ?ex_RoundError ?hd_RoundError ?ca_RoundError ?mo_RoundError ?a_BadNumber ?x_BadNumber ?rv_BadNumber ?sa_BadNumber ?ty_BadNumber ?kc_BadNumber ?i_BadNumber ?t_BadNumber ?l_BadNumber ?c_BadNumber ?k_BadNumber ?nf_BadNumber ?ga_BadNumber ?gg_BadNumber ?ex_BadNumber ?hd_BadNumber ?ca_BadNumber ?mo_BadNumber ?a_BadSkin ?x_BadSkin ?rv_BadSkin ?sa_BadSkin ?ty_BadSkin ?kc_BadSkin ?i_BadSkin ?t_BadSkin ?l_BadSkin ?c_BadSkin ?k_BadSkin ?nf_BadSkin ?ga_BadSkin ?gg_BadSkin ?ex_BadSkin ?hd_BadSkin ?ca_BadSkin ?mo_BadSkin ?a_is_number ?l_is_number ?c_is_number ?k_is_number ?a_is_within ?l_is_within ?c_is_within ?k_is_within ?a_is_tuple ?l_is_tuple ?c_is_tuple ?k_is_tuple ?a_is_list ?l_is_list ?c_is_list ?k_is_list ?a_is_row ?l_is_row ?c_is_row ?k_is_row ?a_Skin ?i_Skin ?fn_Skin ?l_Skin ?c_Skin ?k_Skin ?pg_Skin ?hd_Skin ?po_Skin ?sa_Skin ?mk_Skin ?kc_Skin ?ca_Skin ?mo_Skin ?n_Skin_row ?n_Skin_bands ?n_Skin_places ?a_check_skin ?l_check_skin ?c_check_skin ?k_check_skin ?a_is_end ?l_is_end ?c_is_end ?k_is_end ?a_end_behind ?l_end_behind ?c_end_behind ?k_end_behind ?a_next_end ?l_next_end ?c_next_end ?k_next_end ?a_l_begun ?l_l_begun ?c_l_begun ?k_l_begun ?a_l_mixed ?l_l_mixed ?c_l_mixed ?k_l_mixed ?a_l_take ?l_l_take ?c_l_take ?k_l_take ?a_l_pick ?l_l_pick ?c_l_pick ?k_l_pick ?a_l_shuffled ?l_l_shuffled ?c_l_shuffled ?k_l_shuffled ?a_l_caught ?l_l_caught ?c_l_caught ?k_l_caught ?a_l_number_error ?l_l_number_error ?c_l_number_error ?k_l_number_error ?a_l_skin_error ?l_l_skin_error ?c_l_skin_error ?k_l_skin_error ?a_l_turned ?l_l_turned ?c_l_turned ?k_l_turned ?a_l_row ?l_l_row ?c_l_row ?k_l_row ?a_l_is_row ?l_l_is_row ?c_l_is_row ?k_l_is_row ?a_l_near ?l_l_near ?c_l_near ?k_l_near ?a_l_judged ?l_l_judged ?c_l_judged ?k_l_judged ?a_l_ends_right ?l_l_ends_right ?c_l_ends_right ?k_l_ends_right ?a_law ?l_law ?c_law ?k_law ?zabs ?zall ?zbool ?zint ?zisinstance ?zlen ?zlist ?zmin ?zrange ?zrepr ?zsorted ?ztuple ?ztype ?kSS ?kST ?kSN ?kSL ?kSI ?kSkSk ?sSR ?kNN ?sNR ?kNoL ?kInL ?kStL ?kDiL ?kTuL ?kNoT ?kInT ?kStT ?kDiT ?kBoI ?kNoI ?kStI ?kTuI ?kLiI ?kInB ?i_eqM ?fn_eqM ?l_eqM ?c_eqM ?k_eqM ?neO ?tgj ?tcj ?njj ?tge ?tce ?nje ?tgl ?tcl ?njl ?ne ?ne_1 ?ne_2
    (case hn0 => k_is)
    (case ht0 => k_is)
    (case a_RoundError => k_is)
    (case k_RoundError => k_is)
    (case q_RoundError => k_exc)
    (case ty_RoundError => k_is)
    (case ga_RoundError => k_is)
    (case gg_RoundError => k_is)
    (case ex_RoundError => k_is)
    (case hd_RoundError => k_is)
    (case ca_RoundError => k_is)
    (case mo_RoundError => k_is)
    (case a_BadNumber => k_is)
    (case x_BadNumber => k_is)
    (case rv_BadNumber => decide +kernel)
    (case sa_BadNumber => k_is)
    (case ty_BadNumber => k_is)
    (case kc_BadNumber => k_is)
    (case i_BadNumber => k_is)
    (case t_BadNumber => k_is)
    (case l_BadNumber => k_is)
    (case c_BadNumber => k_is)
    (case k_BadNumber => k_is)
    (case nf_BadNumber => k_is)
    (case ga_BadNumber => k_is)
    (case gg_BadNumber => k_is)
    (case ex_BadNumber => k_is)
    (case hd_BadNumber => k_is)
    (case ca_BadNumber => k_is)
    (case mo_BadNumber => k_is)
    (case a_BadSkin => k_is)
    (case x_BadSkin => k_is)
    (case rv_BadSkin => decide +kernel)
    (case sa_BadSkin => k_is)
    (case ty_BadSkin => k_is)
    (case kc_BadSkin => k_is)
    (case i_BadSkin => k_is)
    (case t_BadSkin => k_is)
    (case l_BadSkin => k_is)
    (case c_BadSkin => k_is)
    (case k_BadSkin => k_is)
    (case nf_BadSkin => k_is)
    (case ga_BadSkin => k_is)
    (case gg_BadSkin => k_is)
    (case ex_BadSkin => k_is)
    (case hd_BadSkin => k_is)
    (case ca_BadSkin => k_is)
    (case mo_BadSkin => k_is)
    (case a_is_number => k_is)
    (case l_is_number => k_is)
    (case c_is_number => k_is)
    (case k_is_number => k_is)
    (case a_is_within => k_is)
    (case l_is_within => k_is)
    (case c_is_within => k_is)
    (case k_is_within => k_is)
    (case a_is_tuple => k_is)
    (case l_is_tuple => k_is)
    (case c_is_tuple => k_is)
    (case k_is_tuple => k_is)
    (case a_is_list => k_is)
    (case l_is_list => k_is)
    (case c_is_list => k_is)
    (case k_is_list => k_is)
    (case a_is_row => k_is)
    (case l_is_row => k_is)
    (case c_is_row => k_is)
    (case k_is_row => k_is)
    (case a_Skin => k_is)
    (case i_Skin => k_is)
    (case fn_Skin => k_is)
    (case l_Skin => k_is)
    (case c_Skin => k_is)
    (case k_Skin => k_is)
    (case pg_Skin => k_is)
    (case hd_Skin => k_is)
    (case po_Skin => k_is)
    (case sa_Skin => k_is)
    (case mk_Skin => k_is)
    (case kc_Skin => k_is)
    (case ca_Skin => k_is)
    (case mo_Skin => k_is)
    (case n_Skin_row => k_is)
    (case n_Skin_bands => k_is)
    (case n_Skin_places => k_is)
    (case a_check_skin => k_is)
    (case l_check_skin => k_is)
    (case c_check_skin => k_is)
    (case k_check_skin => k_is)
    (case a_is_end => k_is)
    (case l_is_end => k_is)
    (case c_is_end => k_is)
    (case k_is_end => k_is)
    (case a_end_behind => k_is)
    (case l_end_behind => k_is)
    (case c_end_behind => k_is)
    (case k_end_behind => k_is)
    (case a_next_end => k_is)
    (case l_next_end => k_is)
    (case c_next_end => k_is)
    (case k_next_end => k_is)
    (case a_l_begun => k_is)
    (case l_l_begun => k_is)
    (case c_l_begun => k_is)
    (case k_l_begun => k_is)
    (case a_l_mixed => k_is)
    (case l_l_mixed => k_is)
    (case c_l_mixed => k_is)
    (case k_l_mixed => k_is)
    (case a_l_take => k_is)
    (case l_l_take => k_is)
    (case c_l_take => k_is)
    (case k_l_take => k_is)
    (case a_l_pick => k_is)
    (case l_l_pick => k_is)
    (case c_l_pick => k_is)
    (case k_l_pick => k_is)
    (case a_l_shuffled => k_is)
    (case l_l_shuffled => k_is)
    (case c_l_shuffled => k_is)
    (case k_l_shuffled => k_is)
    (case a_l_caught => k_is)
    (case l_l_caught => k_is)
    (case c_l_caught => k_is)
    (case k_l_caught => k_is)
    (case a_l_number_error => k_is)
    (case l_l_number_error => k_is)
    (case c_l_number_error => k_is)
    (case k_l_number_error => k_is)
    (case a_l_skin_error => k_is)
    (case l_l_skin_error => k_is)
    (case c_l_skin_error => k_is)
    (case k_l_skin_error => k_is)
    (case a_l_turned => k_is)
    (case l_l_turned => k_is)
    (case c_l_turned => k_is)
    (case k_l_turned => k_is)
    (case a_l_row => k_is)
    (case l_l_row => k_is)
    (case c_l_row => k_is)
    (case k_l_row => k_is)
    (case a_l_is_row => k_is)
    (case l_l_is_row => k_is)
    (case c_l_is_row => k_is)
    (case k_l_is_row => k_is)
    (case a_l_near => k_is)
    (case l_l_near => k_is)
    (case c_l_near => k_is)
    (case k_l_near => k_is)
    (case a_l_judged => k_is)
    (case l_l_judged => k_is)
    (case c_l_judged => k_is)
    (case k_l_judged => k_is)
    (case a_l_ends_right => k_is)
    (case l_l_ends_right => k_is)
    (case c_l_ends_right => k_is)
    (case k_l_ends_right => k_is)
    (case a_law => k_is)
    (case l_law => k_is)
    (case c_law => k_is)
    (case k_law => k_is)
    (case zabs => k_is)
    (case zall => k_is)
    (case zbool => k_is)
    (case zint => k_is)
    (case zisinstance => k_is)
    (case zlen => k_is)
    (case zlist => k_is)
    (case zmin => k_is)
    (case zrange => k_is)
    (case zrepr => k_is)
    (case zsorted => k_is)
    (case ztuple => k_is)
    (case ztype => k_is)
    (case kSS => kit_is)
    (case kST => kit_is)
    (case kSN => kit_is)
    (case kSL => kit_is)
    (case kSI => kit_is)
    (case kSkSk => kit_is)
    (case sSR => k_is)
    (case kNN => kit_is)
    (case sNR => k_is)
    (case kNoL => kit_is)
    (case kInL => kit_is)
    (case kStL => kit_is)
    (case kDiL => kit_is)
    (case kTuL => kit_is)
    (case kNoT => kit_is)
    (case kInT => kit_is)
    (case kStT => kit_is)
    (case kDiT => kit_is)
    (case kBoI => kit_is)
    (case kNoI => kit_is)
    (case kStI => kit_is)
    (case kTuI => kit_is)
    (case kLiI => kit_is)
    (case kInB => kit_is)
    (case i_eqM => k_is)
    (case fn_eqM => k_is)
    (case l_eqM => k_is)
    (case c_eqM => k_is)
    (case k_eqM => k_is)
    (case neO => k_is)
    (case tgj => exact PySem.W.km_tabs_of Y _ (List.mem_cons_of_mem _ (List.mem_cons_self)))
    (case tcj => exact PySem.W.codeHd_of_K KX (by kernel_rfl))
    (case njj => first | kernel_rfl | rfl)
    (case tge => exact PySem.W.km_tabs_of Y _ (List.mem_cons_self))
    (case tce => exact PySem.W.codeHd_of_K KX (by kernel_rfl))
    (case nje => first | kernel_rfl | rfl)
    (case tgl => exact PySem.W.km_tabs_of Y _ (List.mem_cons_of_mem _ (List.mem_cons_of_mem _ (List.mem_cons_self))))
    (case tcl => exact PySem.W.codeHd_of_K KX (by kernel_rfl))
    (case njl => first | kernel_rfl | rfl)
    (case ne => first | decide | decide +kernel | (intro z; cases z))
    (case ne_1 => first | decide | decide +kernel | (intro z; cases z))
    (case ne_2 => first | decide | decide +kernel | (intro z; cases z))
