import PyProof.Rows.All
import Wide.All
import OpenK.AllK
import Wide.FinOn
import HandS.ForMost
import HandS.Flow
import HandS.OwnEq
import HandS.More
import HandS.DictComp
import HandS.List
import KE.KEqDict
import KE.KDictKeyed
import KE.KRevSl
import PyProof.InstNe
import HandS.IsInst
import HandS.SortRule
import HandS.Property
import HandS.ClsMeth
import HandS.Star
import HandS.Codes
import HandS.Strs
import HandS.SetFor
import HandS.RaiseMore
import HandS.Wide
import HandS.Style
import HandS.Walk
import HandS.Zip
import HandS.TupAny
import HandS.Conv
import HandS.Comp
import HandS.Defaults
import HandS.SortKw
import HandS.NamedTupSort
import HandS.Iter
import KE.GoesEnum
import HandS.TupSets
import HandS.SortInts
import PySem.Challenge.RW_wearswings_k57_sizes_and_loads_compared
set_option Elab.async false
set_option linter.all false
set_option maxRecDepth 100000
set_option maxHeartbeats 16000000
/-! del xs[-3:-1] of a list of at least three -/
namespace DS
open PySem PySem.Spec PyProof.Rows L2
def sel (start stop step : Int) (i : Nat) : Bool :=
  if step > 0 then start ≤ i && i < stop && (i - start) % step == 0 else stop < i && i ≤ start && (start - i) % (-step) == 0
theorem sel_iff (a c : Int) (i : Nat) : sel a c 1 i = decide (a ≤ i ∧ (i : Int) < c) := by
  unfold sel
  rw [if_pos (by decide)]
  have e : ((((i : Int) - a) % 1) == 0) = true := by rw [Int.emod_one]; rfl
  rw [e, Bool.and_true]
  by_cases h1 : a ≤ (i : Int) <;> by_cases h2 : (i : Int) < c <;> simp [h1, h2]
def cutOut (a c : Int) (xs : Array Value) : Array Value := (xs.toList.zipIdx.filterMap fun (x, k) => if sel a c 1 k then none else some x).toArray
theorem keep_all {a c : Int} : ∀ (l : List Value) (s : Nat), ((s + l.length : Nat) : Int) ≤ a → (l.zipIdx s).filterMap (fun (x, k) => if sel a c 1 k then none else some x) = l
  | [], _, _ => rfl
  | x :: l, s, h => by
    rw [List.zipIdx_cons, List.filterMap_cons]
    have e : sel a c 1 s = false := by rw [sel_iff]; exact decide_eq_false (by simp only [List.length_cons] at h; omega)
    have ih := keep_all (a := a) (c := c) l (s + 1) (by simp only [List.length_cons] at h; omega)
    simp only [e, Bool.false_eq_true, if_false]
    rw [ih]
theorem cut_three (pre : List Value) (x y z : Value) : cutOut ((pre.length : Nat) : Int) (((pre.length + 2 : Nat)) : Int) (pre ++ [x, y, z]).toArray = (pre ++ [z]).toArray := by
  unfold cutOut
  congr 1
  show ((pre ++ [x, y, z]).zipIdx.filterMap _) = _
  rw [List.zipIdx_append, List.filterMap_append, keep_all pre 0 (by omega)]
  congr 1
  have e1 : sel ((pre.length : Nat) : Int) (((pre.length + 2 : Nat)) : Int) 1 pre.length = true := by rw [sel_iff]; exact decide_eq_true (by omega)
  have e2 : sel ((pre.length : Nat) : Int) (((pre.length + 2 : Nat)) : Int) 1 (pre.length + 1) = true := by rw [sel_iff]; exact decide_eq_true (by omega)
  have e3 : sel ((pre.length : Nat) : Int) (((pre.length + 2 : Nat)) : Int) 1 (pre.length + 1 + 1) = false := by rw [sel_iff]; exact decide_eq_false (by omega)
  simp only [Nat.zero_add, List.zipIdx_cons, List.zipIdx_nil, List.filterMap_cons, List.filterMap_nil, e1, e2, e3, if_true, Bool.false_eq_true, if_false]
theorem bounds31 (n : Nat) : sliceBounds (some (-3)) (some (-1)) none (n + 3) = (((n : Nat) : Int), ((n + 2 : Nat) : Int), 1) := by
  simp only [sliceBounds, Option.getD_none]
  have h1 : (-3 : Int) < 0 := by decide
  have h2 : (-1 : Int) < 0 := by decide
  simp only [h1, h2, if_true, show (1 : Int) > 0 by decide]
  congr 1
  · omega
  · congr 1; omega
section
variable {prog : Program} {w : World} {A : Around} {E : Value → Shared → Prop} {s : Shared}
theorem del31 {l sl : Addr} {its : Array Value} {n : Nat} {vl vu : Value} {Q : Unit → Shared → Prop} (e : s.heap.get? l = some { cls := .type "list", data := .seq its n }) (hs : s.heap.IsSliceOf sl vl vu .none)
    (pl : IsPart vl (some (-3))) (pu : IsPart vu (some (-1))) (m : Nat) (hm : its.size = m + 3) (hz : its.size ≤ sizeLine)
    (h : Q () { s with heap := s.heap.update l (Obj.mapSeq (cutOut (m : Int) ((m + 2 : Nat) : Int))) }) : wpAny (model prog w) A (delItem (.ref l) (.ref sl)) Q E s := by
  have hl : s.heap.IsList l its := PySem.IsL.isList e
  obtain ⟨os, hos, hcs, hds⟩ := id hs
  have hT : s.TypeIs (.ref sl) "slice" := ⟨os, hos, hcs⟩
  have hst : ¬ ((rawPart none == rawInt 0) = true) := Bool.false_ne_true
  refine wpAny_delItem_slot hl.typeIs (by decide) F.slot_list_delitem (wpAny_call_entry F.slot_list_delitem hl.typeIs F.entry_list_delitem ?_ (F.args_list_delitem_2 _ _))
  unfold Builtin.«list.__delitem__»
  refine wpAny_bind (wpAny_of_eq (a := (Value.ref l, [Value.ref sl])) (by first | rfl | kernel_rfl) ?_)
  show wpAny _ _ (Builtin.List.listSubscript? (.ref sl) >>= _) _ _ s
  unfold Builtin.List.listSubscript?
  refine wpAny_bind (wpAny_bind (wpAny_specialOf hT slice_no_index ?_))
  simp only [Option.isNone_none, if_true]
  refine wpAny_pure ?_
  show wpAny _ _ (typeOf (.ref sl) >>= _) _ _ s
  refine wpAny_bind (wpAny_typeOf hT ?_)
  first
    | rw [if_neg (by decide)]
    | refine PySem.W.KFB.if_not (by decide) ?_
  rw [listSliceParts_eq]
  refine wpAny_bind (wpAny_bind (wpAny_field hos hds rfl (wpAny_bind (wpAny_listPart .none ?_))))
  rw [if_neg hst]
  refine wpAny_bind (wpAny_field hos hds rfl (wpAny_bind (wpAny_listPart pl ?_)))
  refine wpAny_bind (wpAny_field hos hds rfl (wpAny_bind (wpAny_listPart pu (wpAny_pure ?_))))
  unfold Builtin.List.listItems
  refine wpAny_bind (wpAny_bind (wpAny_seqItems e rfl (wpAny_pure ?_)))
  rw [hm]
  refine wpAny_bind (wpAny_of_eq ((sliceIndices_raw (some (-3)) (some (-1)) none (m + 3) (by simp)).trans (congrArg (pure : Int × Int × Int → Sem (Int × Int × Int)) (bounds31 m))) ?_)
  refine wpAny_bind (wpAny_rule ?_)
  have hz2 : (cutOut (m : Int) ((m + 2 : Nat) : Int) its).size ≤ sizeLine + 1 := by
    unfold cutOut
    rw [List.size_toArray]
    refine Nat.le_trans (List.length_filterMap_le _ _) ?_
    rw [List.length_zipIdx, Array.length_toList]
    omega
  show wpAny _ _ (updateSeq l (cutOut (m : Int) ((m + 2 : Nat) : Int)) >>= _) _ _ s
  refine wpAny_bind (wpAny_updateSeq (hz := hz) (_hz' := hz2) e rfl ?_)
  refine wpAny_bind (wpAny_letGo ?_)
  first
    | exact wpAny_pure ⟨.none, rfl, h⟩
    | exact wpAny_pure h
end
theorem split3 : ∀ {pre : List V} {x1 y1 z1 : V} {its : List Value}, Vals (pre ++ [x1, y1, z1]) its → ∃ ip i1 i2 i3, its = ip ++ [i1, i2, i3] ∧ Vals pre ip ∧ RelV x1 i1 ∧ RelV y1 i2 ∧ RelV z1 i3
  | [], _, _, _, _, .cons r1 (.cons r2 (.cons r3 .nil)) => ⟨[], _, _, _, rfl, .nil, r1, r2, r3⟩
  | _ :: pre, _, _, _, _, .cons r0 t => by
    obtain ⟨ip, i1, i2, i3, e, rp, h⟩ := split3 (pre := pre) t
    exact ⟨_ :: ip, i1, i2, i3, by rw [e]; rfl, .cons r0 rp, h⟩
section
variable {X : Cx}
/-- del xs[-3:-1] of a list of at least three -/
def tDel31 (to : TE) (tl th : TO) : TS := fun D σ H => to σ H fun x H1 => tl σ H1 fun l H2 => th σ H2 fun u H3 => l = some (-3) ∧ u = some (-1) ∧ ∃ (a : Addr) (pre : List V) (x1 y1 z1 : V), x = .ref a ∧ H3 a = some (.lst (pre ++ [x1, y1, z1])) ∧
  D.nx σ (upd H3 a (.lst (pre ++ [z1])))
theorem ps_del31 {o : Expr} {lo hi : Option Expr} {to : TE} {tl th : TO} {tpos p2 pos : Pos} (ho : PE X o to) (hl : PO X lo tl) (hu : PO X hi th) : PS X (.Delete [.Subscript o (.Slice lo hi none p2) tpos] pos) (tDel31 to tl th) := by
  refine ⟨fun pins s σ H D I h => ?_⟩
  refine wpAny_Delete (wpAny_deleteEach_cons (wpAny_delete_Subscript (thn (ho.run pins s σ H _ I h) fun u s1 ⟨x, H1, I1, rx, q1⟩ => ?_)))
  refine wpAny_Slice (thn (hl.run pins s1 σ H1 _ I1 q1) fun vl s2 ⟨l, H2, I2, pl, q2⟩ => thn (hu.run pins s2 σ H2 _ I2 q2) fun vu s3 ⟨w, H3, I3, pu, q3⟩ => ?_)
  rw [evalPart_none]
  refine wpAny_pure ?_
  obtain ⟨e1, e2, a, pre, x1, y1, z1, rfl, hH, q⟩ := q3
  subst e1 e2
  cases (show u = Value.ref a from rx)
  have I4 : Inv X pins σ H3 { s3 with heap := s3.heap.push { cls := .type "slice", data := .fields #[vl, vu, .none] } } := I3.kept (t' := s3.toks) fun b o e => Heap.get?_push_of_some _ e
  obtain ⟨z, its, n, r, hlen, e⟩ := I4.lstM hH
  have hn : its.length = pre.length + 3 := by rw [← hlen]; simp
  obtain ⟨ip, i1, i2, i3, ei, rp, r1, r2, r3⟩ : ∃ ip i1 i2 i3, its = ip ++ [i1, i2, i3] ∧ Vals pre ip ∧ RelV x1 i1 ∧ RelV y1 i2 ∧ RelV z1 i3 := split3 r
  subst ei
  have hp : ip.length = pre.length := rp.length.symm
  refine del31 e (Heap.IsSliceOf.new ..) pl pu pre.length (by rw [List.size_toArray]; exact hn) (by rw [List.size_toArray, ← hlen]; exact z) (wpAny_deleteEach_nil ⟨σ, _, I4.lset (ys := pre ++ [z1]) (its' := ip ++ [i3]) (t' := s3.toks) hH e ?_ (rp.append (.cons r3 .nil)) ?_, q⟩)
  · rw [← hp]
    exact cut_three ip i1 i2 i3
  · have := z
    simp only [List.length_append, List.length_cons, List.length_nil] at this ⊢
    omega
end
end DS

/-! set(xs) of a list of ints, with the order's ledger kept (for sorted behind it) -/
namespace KS
open PySem PySem.Spec PyProof.Rows L2
abbrev leer (w : World) : Obj := { cls := .type "set", dict := none, data := .set #[] 0 (.fresh 0 0 (!w.params.followText "set-order")) }
section
variable {P : Program} {w : World} {A : Around} {E : Value → Shared → Prop} {s : Shared}
/-- what stands behind set's own __init__ -/
abbrev Made (w : World) (s : Shared) (ns : List Int) (Q : Shared → Prop) : Prop :=
  ∀ (g : Heap) (tk c : Nat), SetR w g s.heap.objs.size (fun j => decide (j ∈ ns)) c → c ≤ ns.length → (∀ b o, s.heap.get? b = some o → g.get? b = some o) → Q { s with heap := g, toks := tk }
set_option maxHeartbeats 6400000 in
theorem set_lst {l : Addr} {its : Array Value} (ns : List Int) {Q : Value → Shared → Prop} (hh : A.handled = none) (hl : s.heap.IsList l its) (hit : IntsAre its.toList ns) (hb : ns.length + 1 < scanBound)
    (h : Made w s ns (Q (.ref s.heap.objs.size))) : wpAny (model P w) A (call (.type "set") [.ref l]) Q E s := by
  have hn : its.size = ns.length := by
    rw [← Array.length_toList]; exact IntsAre.length hit
  obtain ⟨c0, t0, hm⟩ := F.called_set.mro
  have k1 := F.called_set.made; have k2 := F.called_set.sub; have k3 := F.called_set.notType; have k4 := F.called_set.canCreate; have k5 := F.typeCall_set_1 (.ref l)
  refine wpAny_call (codeAny_of_tree (show wpAny _ _ (callAny (.type "set") _) _ _ _ from ?_))
  have uu : A.under (.builtin "type.__call__" ⟨[.type "set", .ref l], []⟩) = A.in1 := Around.under_plain (weight_type_call_type "set" [.ref l] []) rfl
  refine wpAny_pure ⟨Code.quiet_builtin _ (by decide +kernel), codeAny_builtin F.entry_type_call ?_⟩
  rw [show A.under (.builtin "type.__call__" { ({ pos := [Value.ref l] } : Args) with pos := .type "set" :: [Value.ref l] }) = A.in1 from uu]
  repeat (any_goals (first | assumption | wp_step))
  have hs0 : (s.heap.push (leer w)).get? s.heap.objs.size = some (leer w) := Heap.get?_push_size _ rfl
  refine codeAny_mono (code_set_led1 (.ref l) (E := E) (Q₁ := fun x s1 => x = .ref s.heap.objs.size ∧ s1 = { s with heap := s.heap.push (leer w) }) ⟨rfl, rfl⟩) fun r1 s1 e1 => ?_
  match r1, e1 with
  | .error _, e1 => exact e1
  | .ok (.next), e1 => exact e1.elim
  | .ok (.brk), e1 => exact e1.elim
  | .ok (.cont), e1 => exact e1.elim
  | .ok (.ret x), e1 =>
    obtain ⟨rfl, rfl⟩ := e1
    have hT : Shared.TypeIs { s with heap := s.heap.push (leer w) } (.ref s.heap.objs.size) "set" := ⟨_, hs0, rfl⟩
    have j1 := F.called_set.init.lookup; have j2 := F.called_set.init.bind (.ref s.heap.objs.size)
    repeat (any_goals (first | assumption | wp_step))
    refine codeAny_mono (codeAny_call_builtin (R := wants (fun v s2 => v = .none ∧ ∃ g tk c, s2 = { s with heap := g, toks := tk } ∧ SetR w g s.heap.objs.size (fun j => decide (j ∈ ns)) c ∧ c ≤ ns.length ∧ ∀ b o, s.heap.get? b = some o → g.get? b = some o) E)
      F.called_set.init.plain F.entry_set_init (check_set_init_1 hT ?_)) fun r2 s2 e2 => ?_
    · obtain ⟨ol, a1, a2, nl, a3⟩ := hl
      obtain ⟨xc, xd, xt, xs⟩ := ol
      simp only at a2 a3
      subst a2 a3
      have a4 : (s.heap.push (leer w)).get? l = some { cls := .type "list", dict := xd, data := .seq its nl, slots := xs } := Heap.get?_push_of_some _ a1
      have b1 := F.sub_list_set; have b2 := F.sub_list_frozenset; have b3 : (Value.type "list" == Value.type "dict") = false := by decide
      have a5 : (s.heap.push (leer w)).IsList l its := ⟨_, a4, rfl, nl, rfl⟩
      unfold Builtin.«set.__init__» noKeywords Builtin.Frozenset.updateFrom
      generalize hPI : pyIter = PI
      wp_walk
      subst hPI
      refine wpAny_pyIter_list a5 (wpAny_bind (wpAny_runValue ?_))
      have lt := Heap.lt_size a1
      have sz : (s.heap.push (leer w)).objs.size = s.heap.objs.size + 1 := Heap.size_push ..
      have d1 : l ≠ (s.heap.push (leer w)).objs.size := by rw [sz]; exact Nat.ne_of_lt (Nat.lt_succ_of_lt lt)
      have d2 : s.heap.objs.size ∉ [(s.heap.push (leer w)).objs.size, l] := by
        rw [sz]; intro z; rcases List.mem_cons.mp z with z | z
        · exact absurd z (Nat.ne_of_lt (Nat.lt_succ_self _))
        · exact absurd (List.mem_singleton.mp z) (Nat.ne_of_gt lt)
      have vl : ∀ i v, its[i]? = some v → ∃ (k : Int) (t : Tok), ns[i]? = some k ∧ v = Value.int k t := fun i v e => by
        have hi : i < ns.length := by rw [← hn]; exact (Array.getElem?_eq_some_iff.mp e).1
        obtain ⟨t, et⟩ := IntsAre.int_at hit i v (by rw [Array.getElem?_toList]; exact e)
        exact ⟨ns[i], t, List.getElem?_eq_getElem hi, by rw [et, List.getD_eq_getElem?_getD, List.getElem?_eq_getElem hi]; rfl⟩
      have hq : A.in1.in1.in1.handled = none := by simp [hh]
      refine set_update_ints ((Walks.list hq _ l d1 its).toS) s.heap.objs.size d2 ns hn hb vl (its.size - 0) 0 _ (by omega) (Nat.zero_le _) ⟨⟨_, Heap.get?_push_size _ rfl, rfl, rfl⟩, a5.push _⟩
        ⟨0, Nat.le_refl 0, setR_new_at (Heap.get?_push_of_some _ hs0)⟩ fun s3 c3 mv hc3 R3 => ?_
      obtain ⟨g3, gg, dd, tk3, oo⟩ := s3
      obtain rfl : gg = s.gens := mv.gens
      obtain rfl : dd = s.drawn := mv.drawn
      obtain rfl : oo = s.os := mv.os
      refine (show wpAny _ _ _ _ _ _ from wpAny_pure (show wpAny _ _ (ret Value.none) _ _ _ from wpAny_pure ⟨rfl, g3, tk3, c3, rfl, R3, by omega, fun b o e => ?_⟩))
      have hb0 := Heap.lt_size e
      exact mv.heap b o (by rw [sz]; intro z; rcases List.mem_cons.mp z with z | z
                            · exact absurd z (Nat.ne_of_lt hb0)
                            · exact absurd (List.mem_singleton.mp z) (Nat.ne_of_lt (Nat.lt_succ_of_lt hb0))) (Heap.get?_push_of_some _ (Heap.get?_push_of_some _ e))
    · match r2, e2 with
      | .error _, e2 => exact e2
      | .ok (.next), e2 => exact e2.elim
      | .ok (.brk), e2 => exact e2.elim
      | .ok (.cont), e2 => exact e2.elim
      | .ok (.ret y), e2 =>
        obtain ⟨rfl, g, tk, c, rfl, R2, hc, hk⟩ := e2
        repeat (any_goals (first | assumption | wp_step))
        exact h _ _ _ R2 hc hk
end
section
variable {X : Cx}
/-- set(xs) of a list of ints -/
def rSetL (w : World) (K : PySem.W.Frag) : List V → Hp → VK → Prop := fun vs H Q => ∃ (a : Addr) (ns : List Int), vs = [V.ref a] ∧ SqL K H a (ns.map V.int) ∧ ns.length ≤ 1000 ∧
  ∀ (p : Addr) (c : Nat), H p = none → c ≤ ns.length → Q (.ref p) (upd H p (SetO w p (fun j => decide (j ∈ ns)) c))
theorem cr_setL (hc : X.calm = true) : CallR X (.type "set") (rSetL X.w X.K) := by
  intro pins s σ H vs us Q I r h
  obtain ⟨a, ns, rfl, hS, hlen, q⟩ := h
  rw [Vals.ref1 r]
  obtain ⟨its, rv, pl, hz⟩ := I.list hS
  refine set_lst ns (I.ok.hd hc) pl.isList (by simpa using ints_of_vals rv) (by unfold scanBound; omega) fun g tk c R hcn k => ?_
  exact ⟨.ref _, _, I.laid (t' := tk) k (Nat.le_refl _) (setO_new R), rfl, q _ c (I.hok.fresh (Nat.le_refl _)) hcn⟩
end
end KS

/-! repr(xs) of a list of ints; a law's def whose body knows that no repr is under way -/
namespace KG
open PySem PySem.Spec PyProof.Rows L2
/-! ### the text of a list of ints -/
def datL (ns : List Int) : PyData := .list (ns.map PyData.int)
def reprL (ns : List Int) : Str := (datL ns).shown
theorem small_log {i : Int} {k : Nat} (h0 : 0 < k) (h : i.natAbs < 2 ^ k) : i.natAbs.log2 < k := PySem.Flt.log2_lt_of h0 h
theorem show_all : ∀ (ns : List Int), (∀ n ∈ ns, n.natAbs < 2 ^ 40) → PyData.showableAll (ns.map PyData.int) = true
  | [], _ => rfl
  | a :: r, h => by
    have h1 : a.natAbs.log2 < 1920 := Nat.lt_of_lt_of_le (small_log (by decide) (h a List.mem_cons_self)) (by decide)
    have h2 := show_all r fun n hn => h n (List.mem_cons_of_mem _ hn)
    simp only [List.map_cons, PyData.showableAll, PyData.showable, h2, h1, decide_true, Bool.and_self]
theorem nodict_all : ∀ (ns : List Int), PyData.hasDictAll (ns.map PyData.int) = false
  | [] => rfl
  | a :: r => by simp only [List.map_cons, PyData.hasDictAll, PyData.hasDict, nodict_all r, Bool.or_self]
theorem depth_all : ∀ (ns : List Int), PyData.depthAll (ns.map PyData.int) ≤ 1
  | [] => Nat.zero_le _
  | a :: r => by
    have := depth_all r
    simp only [List.map_cons, PyData.depthAll, PyData.depth]
    omega
theorem leaves_all : ∀ (ns : List Int), (∀ n ∈ ns, n.natAbs < 10 ^ 12) → PyData.leavesShortAll 13 (ns.map PyData.int) = true
  | [], _ => rfl
  | a :: r, h => by
    have h2 := leaves_all r fun n hn => h n (List.mem_cons_of_mem _ hn)
    have h1 : (PyData.shown (.int a)).length ≤ 13 := by
      have := PySem.int_text_length_le10 (a := a) (k := 12) (by decide) (h a List.mem_cons_self)
      have e : (PyData.shown (.int a)).length = (toString a).length := by
        simp only [PyData.shown]
        exact PySem.ofString_length _
      omega
    simp only [List.map_cons, PyData.leavesShortAll, PyData.leavesShort, h2, Bool.and_true, decide_eq_true_eq]
    exact h1
theorem weight_all : ∀ (ns : List Int), (∀ n ∈ ns, n.natAbs < 2 ^ 39) → PyData.weightAll (ns.map PyData.int) ≤ 60 * ns.length
  | [], _ => Nat.le_refl _
  | a :: r, h => by
    have h1 := weight_all r fun n hn => h n (List.mem_cons_of_mem _ hn)
    have h2 : a.natAbs.log2 < 39 := small_log (by decide) (h a List.mem_cons_self)
    simp only [List.map_cons, PyData.weightAll, PyData.weight, List.length_cons]
    split <;> omega
theorem repr_fits {ns : List Int} (h : ∀ n ∈ ns, n.natAbs < 2 ^ 39) (hl : ns.length ≤ 2000) : (reprL ns).length ≤ sizeLine := by
  refine PyData.shown_fits (B := 13) (by decide) (by decide) ?_ ?_
  · show PyData.leavesShort 13 (.list _) = true
    simp only [PyData.leavesShort, leaves_all ns fun n hn => Nat.lt_trans (h n hn) (by decide)]
  · show PyData.weight (.list _) ≤ _
    have := weight_all ns h
    simp only [PyData.weight]
    omega
theorem reads_all {h : Heap} : ∀ {us : List Value} {ns : List Int}, IntsAre us ns → ReadsAll h us (ns.map PyData.int) []
  | _, _, .nil => .nil
  | _, _, .cons n t r => by
    have z := ReadsAll.cons (Reads.int (h := h) n t) (reads_all r)
    exact z
section
variable {X : Cx}
/-- repr(xs) of a list of ints, while no repr is under way -/
def rReprL (K : PySem.W.Frag) : List V → Hp → VK → Prop := fun vs H Q => ∃ (a : Addr) (ns : List Int), vs = [V.ref a] ∧ SqL K H a (ns.map V.int) ∧ (∀ n ∈ ns, n.natAbs < 2 ^ 39) ∧ ns.length ≤ 2000 ∧ Q (.str (reprL ns)) H
theorem cr_reprL (hg : X.A.guards = some []) (hu : X.A.units + 100 < cLine) : CallR X (.builtin "repr") (rReprL X.K) := by
  intro pins s σ H vs us Q I r h
  obtain ⟨a, ns, rfl, hS, hb, hl, q⟩ := h
  rw [Vals.ref1 r]
  obtain ⟨its, rv, ⟨o, n, ho, hc, hdn, hd⟩, hz⟩ := I.list hS
  have rd : Reads s.heap (.ref a) (datL ns) [a] := .list ho hc hd (reads_all (by simpa using ints_of_vals rv))
  refine repr_of_reads' rd (by show PyData.showable (.list _) = true; simp only [PyData.showable]; exact show_all ns fun m hm => Nat.lt_trans (hb m hm) (by decide)) (PyData.noDict_hsm (by show PyData.hasDict (.list _) = false; simp only [PyData.hasDict]; exact nodict_all ns)) hg
    (by have := depth_all ns; show X.A.units + (PyData.depth (.list _) + 1) < cLine; simp only [PyData.depth]; omega) (fun _ _ e => e) (fun g u tk k => ?_) (repr_fits hb hl)
  exact ⟨.str (reprL ns), H, I.kept k, ⟨u, rfl⟩, q⟩
end
end KG

/-! the def of the law itself, called where no repr is under way -/
namespace KW
open PySem PySem.Spec PyProof.Rows L2
/-- the def at f keeps sp where it is called with no repr under way -/
def Kept (P : Program) (w : World) (K : PySem.W.Frag) (mg : Str → Option Value) (base : Heap) (k : Nat) (f : Addr) (fd : FuncData) (ps : List Str) (sp : Sp) : Prop :=
  ∀ (A : Around) (outer : List Env) (s : Shared) (H : Hp) (args : Args) (us : List Value) (vs : List V) (Q : VK) (E : XK), A.guards = some [] → Room k A → Env0 P w K mg base A outer s H →
    BindsTo s fd args (ps.zip us) → Vals vs us → sp vs H Q E → codeAny (model P w) A (.call (.ref f) args) (CR CX0 outer P w H s Q E) s
section
variable {P : Program} {w : World} {K : PySem.W.Frag} {mg : Str → Option Value} {base : Heap}
theorem kept_of {x qual : Str} {st : Stmt} {f : Addr} {fd : FuncData} {N ps : List Str} {k : Nat} {sp : Sp} (F : Fun K x qual st f fd) (S : FnScope N ps (defScope st)) (len : ∀ vs H Q E, sp vs H Q E → vs.length = ps.length)
    (hb : ∀ (cdv : Value) (A : Around) (outer : List Env) (s : Shared) (H : Hp) (vs : List V) (Q : VK) (E : XK), A.guards = some [] → Room k (A.deeper (envOfC qual (defScope st) s.heap.objs.size f cdv)) → sp vs H Q E →
      ∃ t, PSs (cxOf CX0 P w K mg base N qual (defScope st) f cdv A outer s H E).nox (defBody st) t ∧ t { nx := fun _ H' => Q .non H', rt := Q } (start N vs) H) : Kept P w K mg base (k + 1) f fd ps sp := by
  obtain ⟨oc, od, kV, doc, pm, an, cdv, ct, osl, e1, lk, hcd⟩ := F.ex
  subst e1
  intro A outer s H args us vs Q E hg hr e0 bnd r hsp
  obtain ⟨t, d, q⟩ := hb cdv A outer s H vs Q E hg (hr.deeper _) hsp
  have lv := len _ _ _ _ hsp
  have kin : K.In s.heap := e0.mod.kin.keeps fun b o e => (e0.bs b o e).1
  have kd : ∀ y ∈ ps.zip us, (defScope st).names.lookup y.1 = some .local ∨ ((defScope st).names.lookup y.1 = some .cell ∧ ((cellsFrom (s.heap.objs.size + 1) (defScope st).names []).lookup y.1).isSome = true) := by
    rintro ⟨n, v⟩ hy
    exact (S.par n (List.of_mem_zip hy).1).imp id fun z => ⟨z, PySem.W.cellsFrom_some _ _ _ (.inl z)⟩
  refine codeAny_call_function hr.depth (kin _ _ lk) rfl S.co S.gen rfl (PySem.W.codeRec_of kin hcd) (bnd _ _ _ _ (wpAny_newFunctionEnv_cells S.kind kd fun env he s1 x1 => ?_))
  subst he
  refine ⟨(e0.mod.nolimit.keeps fun b o e => (e0.bs b o e).1).keeps x1.toInCall.keep, codeAny_func (wpAny_mono (d.nox.run [] s1 (start N vs) H _ (inv_start S hr.hd e0 lv r x1) q) (fun fl s2 z => ?_) fun _ _ z => z)⟩
  match fl, z with
  | .ret u, ⟨v, σ2, H2, J, rv, q2⟩ => exact ⟨v, H2, J.os, J.bare, J.base, J.hok, rv, q2⟩
  | .next, ⟨σ2, H2, J, q2⟩ => exact ⟨V.non, H2, J.os, J.bare, J.base, J.hok, rfl, q2⟩
  | .brk, ⟨_, _, _, q2⟩ => exact q2.elim
  | .cont, ⟨_, _, _, q2⟩ => exact q2.elim
/-- the heap that tracks the script alone, or nothing where it is the text's own -/
def hpOf (K : PySem.W.Frag) (a : Addr) (o : Obj) (xs : List V) : Hp := fun b => if b = a ∧ K.lookup a = none then some (.frz o (.lst xs)) else none
theorem hpOf_some {K : PySem.W.Frag} {a b : Addr} {o : Obj} {xs : List V} {u : HO} (e : hpOf K a o xs b = some u) : b = a ∧ K.lookup a = none ∧ u = .frz o (.lst xs) := by
  unfold hpOf at e
  split at e
  · rename_i z
    exact ⟨z.1, z.2, (Option.some.inj e).symm⟩
  · cases e
theorem run_law {mb : Str → Option Value} {k : Nat} {fa a : Addr} {fd : FuncData} {x : Str} {sp : Sp} {s1 : Shared} {vs : List Value} {ns : List Int}
    (kin : K.In s1.heap) (h1 : s1.heap.Ns mainGlobals mg) (h2 : s1.heap.Ns builtinsNs mb) (h3 : ∀ y : Str, y ≠ "__name__" → mb y = bootBuiltins y) (h4 : s1.heap.NoLimit) (h5 : s1.gens = #[])
    (ha : s1.heap.get? a = some { cls := .type "list", data := .seq vs.toArray }) (hi : IntsAre vs ns) (hl : ns.length ≤ sizeLine) (hr : Room k callerA)
    (F : ∀ bs : Heap, K.In bs → bs.Ns mainGlobals mg → Kept P w K mg bs k fa fd [x] sp) (hbd : ∀ (s : Shared) (u : Value), BindsTo s fd ⟨[u], []⟩ [(x, u)])
    (hsp : ∀ H : Hp, Only H → SqL K H a (ns.map V.int) → sp [.ref a] H (fun v _ => v = .bl true) fun _ _ _ => False) :
    codeAny (model P w) callerA (.call (.ref fa) ⟨[.ref a], []⟩) (fun r s' => r = .ok (.ret (.bool true)) ∧ OldK s1.heap s'.heap ∧ s'.os = s1.os ∧ AllBare s'.gens) s1 := by
  have rv := vals_ints hi
  let ob : Obj := { cls := .type "list", data := .seq vs.toArray }
  generalize hH : hpOf K a ob (ns.map V.int) = H
  have hsome : ∀ {b u}, H b = some u → b = a ∧ K.lookup a = none ∧ u = .frz ob (.lst (ns.map V.int)) := fun {b u} e => hpOf_some (by rw [hH]; exact e)
  have hO : Only H := fun b => by
    cases e : H b with
    | none => exact .inl rfl
    | some u => exact .inr ⟨_, _, by rw [(hsome e).2.2]⟩
  have hS : SqL K H a (ns.map V.int) := by
    cases e : K.lookup a with
    | none => exact .inl (.inr ⟨ob, by rw [← hH]; exact if_pos ⟨rfl, e⟩⟩)
    | some o =>
      have e2 := kin a o e
      rw [ha] at e2
      cases e2
      exact .inr ⟨_, vs.toArray, _, e, rfl, rfl, rfl, by rw [List.size_toArray, hi.length]; exact hl, by simpa using rv⟩
  have hok : HOk P w H s1.heap := fun b u e => by
    obtain ⟨rfl, _, rfl⟩ := hsome e
    exact ⟨ha, by rw [List.length_map]; exact hl, vs, _, rv, ha⟩
  have free : ∀ {b : Addr} {o : Obj} {es : Array DictEntry} {ep : Nat}, s1.heap.get? b = some o → o.data = .dict es ep → H b = none := fun {b o es ep} e d => by
    cases z : H b with
    | none => rfl
    | some u =>
      obtain ⟨rfl, _, _⟩ := hsome z
      rw [ha] at e
      cases e
      cases d
  have toB : ∀ {b : Addr} {m : Str → Option Value}, s1.heap.Ns b m → (hidT s1.heap H).Ns b m := fun {b m} ⟨o, es, ep, e, d, r⟩ => ⟨o, es, ep, hidT_get e (free e d), d, r⟩
  have kB : K.In (hidT s1.heap H) := fun b o e => hidT_get (kin b o e) (by
    cases z : H b with
    | none => rfl
    | some u =>
      obtain ⟨rfl, z2, _⟩ := hsome z
      rw [z2] at e
      cases e)
  obtain ⟨mc, m1, m2⟩ := h4
  have e0 : Env0 P w K mg (hidT s1.heap H) callerA [] s1 H := ⟨rfl, ⟨kB, toB h1, ⟨mb, toB h2, h3⟩, ⟨mc, toB m1, m2⟩⟩, fun b o e => of_hidT e, Nat.le_of_eq (hidT_size _ _), trivial, fun b hb => (List.not_mem_nil (show b ∈ ([] : List Addr) from hb)).elim, hok, .of_eq h5⟩
  refine codeAny_mono (F _ kB (toB h1) callerA [] s1 H ⟨[.ref a], []⟩ [.ref a] [.ref a] _ _ rfl hr e0 (hbd s1 (.ref a)) (.cons rfl .nil) (hsp H hO hS)) fun r s2 z => ?_
  match r, z with
  | .error _, z => exact z.elim
  | .ok .next, z => exact z.elim
  | .ok .brk, z => exact z.elim
  | .ok .cont, z => exact z.elim
  | .ok (.ret u), ⟨v, H2, os, bare, un, hok2, rr, q⟩ =>
    have q2 : v = .bl true := q
    subst q2
    obtain rfl : u = Value.bool true := rr
    refine ⟨rfl, OldK.of_keep fun b o e => ?_, os, bare⟩
    cases z : H b with
    | none => exact un.keep b o e z (fun m => (List.not_mem_nil (show b ∈ ([] : List Addr) from m)).elim) (by simp)
    | some u =>
      obtain ⟨_, _, rfl⟩ := hsome z
      have t1 := (hok b _ z).1
      have t2 := (hok2 b _ (un.frzs b ob _ z)).1
      rw [e] at t1
      rw [t2, ← t1]
/-- the end: the law's promise over the written part alone -/
theorem walk_kept {l : PySem.W.OpenLaw} {n k : Nat} {q : Program} {loose : List Str} {XP : (Str → Option Value) → Heap → Prop} {YP : World → Heap → Prop} {d : DefRec} {KK : Params → PySem.W.Frag} {sp : PySem.W.Frag → Sp} {x : Str}
    (hn : l.most = some n) (hn2 : n ≤ sizeLine) (hdf : d.params.defaults = []) (hr : Room k callerA) (hY : ∀ (w : World) (h : Heap), YP w h → (KK w.params).In h)
    (F : ∀ (w : World) (mg : Str → Option Value) (fa : Addr) (h : Heap), (KK w.params).In h → h.Ns mainGlobals mg → mg d.name = some (.ref fa) →
      ∃ fd : FuncData, (∀ (s : Shared) (u : Value), BindsTo s fd ⟨[u], []⟩ [(x, u)]) ∧ ∀ bs : Heap, (KK w.params).In bs → bs.Ns mainGlobals mg → Kept l.prog w (KK w.params) mg bs k fa fd [x] (sp (KK w.params)))
    (hsp : ∀ (K : PySem.W.Frag) (H : Hp) (a : Addr) (ns : List Int), ns.length ≤ n → Only H → SqL K H a (ns.map V.int) → sp K [.ref a] H (fun v _ => v = .bl true) fun _ _ _ => False) :
    PySem.W.WalkO q loose XP YP l.row.toRowW d [] (fun f vs => PySem.call f vs) := by
  refine Att.attach_call hn hdf fun w s0 s1 mg mb fa o pm cd doc a vs ns G Y ho hd hcd hmg hobj hints hlen hg => ?_
  obtain ⟨fd, hb, hF⟩ := F w mg fa _ (hY w _ Y) G.T.g hmg
  exact run_law (hY w _ Y) G.T.g G.T.b G.T.builtins G.T.nolimit hg hobj hints (Nat.le_trans hlen hn2) hr hF hb fun H hO hS => hsp (KK w.params) H a ns hlen hO hS
end
end KW

/-! turning points, as mathematics: the stack's way and the law's way -/
namespace PM
/-- r lies between its neighbours b and a -/
abbrev Btw (r b a : Int) : Prop := (b < r ∧ r < a) ∨ (a < r ∧ r < b)
/-- the stack's way from b, a (a on top) on -/
def tq : Int → Int → List Int → List Int
  | _, a, [] => [a]
  | b, a, r :: l => if a = r then tq b a l else if Btw a b r then tq b r l else a :: tq a r l
def ts : Int → List Int → List Int
  | a, [] => [a]
  | a, r :: l => if a = r then ts a l else a :: tq a r l
def tp : List Int → List Int
  | [] => []
  | x :: l => ts x l
/-- repeated readings once -/
def ddf : Int → List Int → List Int
  | _, [] => []
  | p, x :: l => if x = p then ddf p l else x :: ddf x l
def dd : List Int → List Int
  | [] => []
  | x :: l => x :: ddf x l
/-- the law's way, over readings that differ from their neighbours -/
def lq : Int → Int → List Int → List Int
  | _, c, [] => [c]
  | p, c, d :: l => if (decide (c > p) = decide (c > d)) then c :: lq c d l else lq c d l
def lp : List Int → List Int
  | [] => []
  | [x] => [x]
  | x :: y :: l => x :: lq x y l
theorem tq_lq : ∀ (l : List Int) (b p a : Int), a ≠ b → a ≠ p → (a > b ↔ a > p) → tq b a l = lq p a (ddf a l)
  | [], _, _, _, _, _, _ => rfl
  | r :: l, b, p, a, h1, h2, h3 => by
    simp only [tq, ddf]
    by_cases e : a = r
    · rw [if_pos e, if_pos e.symm]
      exact tq_lq l b p a h1 h2 h3
    · rw [if_neg e, if_neg (show ¬ r = a from fun z => e z.symm)]
      simp only [lq]
      by_cases bt : Btw a b r
      · rw [if_pos bt]
        have hk : ¬ (decide (a > p) = decide (a > r)) := by
          intro z
          rw [decide_eq_decide] at z
          omega
        rw [if_neg hk]
        exact tq_lq l b a r (by omega) (fun z => e z.symm) (by omega)
      · rw [if_neg bt]
        have hk : decide (a > p) = decide (a > r) := by
          rw [decide_eq_decide]
          omega
        rw [if_pos hk]
        rw [tq_lq l a a r (fun z => e z.symm) (fun z => e z.symm) Iff.rfl]
theorem ts_lp : ∀ (l : List Int) (a : Int), ts a l = lp (a :: ddf a l)
  | [], _ => rfl
  | r :: l, a => by
    simp only [ts, ddf]
    by_cases e : a = r
    · rw [if_pos e, if_pos e.symm]
      exact ts_lp l a
    · rw [if_neg e, if_neg (show ¬ r = a from fun z => e z.symm)]
      rw [tq_lq l a a r (fun z => e z.symm) (fun z => e z.symm) Iff.rfl]
      rfl
theorem tp_lp (ns : List Int) : tp ns = lp (dd ns) := by
  cases ns with
  | nil => rfl
  | cons a l => exact ts_lp l a
/-- what the stack leaves, goes through the stack as it is -/
theorem tq_again : ∀ (l : List Int) (b a : Int), a ≠ b → ∃ x s, tq b a l = x :: s ∧ x ≠ b ∧ (x > b ↔ a > b) ∧ tq b x s = x :: s
  | [], b, a, h => ⟨a, [], rfl, h, Iff.rfl, rfl⟩
  | r :: l, b, a, h => by
    simp only [tq]
    by_cases e : a = r
    · rw [if_pos e]
      exact tq_again l b a h
    · rw [if_neg e]
      by_cases bt : Btw a b r
      · rw [if_pos bt]
        obtain ⟨x, s, h1, h2, h3, h4⟩ := tq_again l b r (by omega)
        exact ⟨x, s, h1, h2, by omega, h4⟩
      · rw [if_neg bt]
        obtain ⟨y, s, h1, h2, h3, h4⟩ := tq_again l a r (fun z => e z.symm)
        refine ⟨a, y :: s, by rw [h1], h, Iff.rfl, ?_⟩
        simp only [tq]
        have n1 : ¬ Btw a b y := by
          intro z
          have h6 : r > a ↔ y > a := h3.symm
          omega
        rw [if_neg (fun z : a = y => h2 z.symm), if_neg n1, h4]
theorem ts_again : ∀ (l : List Int) (a : Int), tp (ts a l) = ts a l
  | [], _ => rfl
  | r :: l, a => by
    simp only [ts]
    by_cases e : a = r
    · rw [if_pos e]
      exact ts_again l a
    · rw [if_neg e]
      obtain ⟨x, s, h1, h2, _, h4⟩ := tq_again l a r (fun z => e z.symm)
      rw [h1]
      show ts a (x :: s) = a :: x :: s
      simp only [ts]
      rw [if_neg (fun z : a = x => h2 z.symm), h4]
theorem tp_again (ns : List Int) : tp (tp ns) = tp ns := by
  cases ns with
  | nil => rfl
  | cons a l => exact ts_again l a
theorem tq_last : ∀ (l : List Int) (b a z : Int), (a :: l).getLast? = some z → tq b a (l ++ [z]) = tq b a l
  | [], b, a, z, h => by
    have e : a = z := Option.some.inj h
    subst e
    show tq b a [a] = [a]
    simp only [tq, if_true]
  | r :: l, b, a, z, h => by
    have h2 : (r :: l).getLast? = some z := by rw [List.getLast?_cons_cons] at h; exact h
    show tq b a (r :: (l ++ [z])) = tq b a (r :: l)
    simp only [tq]
    by_cases e : a = r
    · rw [if_pos e, if_pos e]
      subst e
      exact tq_last l b a z h2
    · rw [if_neg e, if_neg e, tq_last l b r z h2, tq_last l a r z h2]
theorem ts_last : ∀ (l : List Int) (a z : Int), (a :: l).getLast? = some z → ts a (l ++ [z]) = ts a l
  | [], a, z, h => by
    have e : a = z := Option.some.inj h
    subst e
    show ts a [a] = [a]
    simp only [ts, if_true]
  | r :: l, a, z, h => by
    have h2 : (r :: l).getLast? = some z := by rw [List.getLast?_cons_cons] at h; exact h
    show ts a (r :: (l ++ [z])) = ts a (r :: l)
    simp only [ts]
    by_cases e : a = r
    · rw [if_pos e, if_pos e]
      subst e
      exact ts_last l a z h2
    · rw [if_neg e, if_neg e, tq_last l a r z h2]
theorem tp_last (ns : List Int) (z : Int) (h : ns.getLast? = some z) : tp (ns ++ [z]) = tp ns := by
  cases ns with
  | nil => simp at h
  | cons a l => exact ts_last l a z h
/-- sizes and bounds -/
theorem tq_mem : ∀ (l : List Int) (b a x : Int), x ∈ tq b a l → x = a ∨ x ∈ l
  | [], _, _, x, h => .inl (List.mem_singleton.mp h)
  | r :: l, b, a, x, h => by
    simp only [tq] at h
    split at h
    · rcases tq_mem l b a x h with z | z
      · exact .inl z
      · exact .inr (List.mem_cons_of_mem _ z)
    · split at h
      · rcases tq_mem l b r x h with z | z
        · rw [z]; exact .inr List.mem_cons_self
        · exact .inr (List.mem_cons_of_mem _ z)
      · rcases List.mem_cons.mp h with z | z
        · exact .inl z
        · rcases tq_mem l a r x z with z | z
          · rw [z]; exact .inr List.mem_cons_self
          · exact .inr (List.mem_cons_of_mem _ z)
theorem tq_len : ∀ (l : List Int) (b a : Int), (tq b a l).length ≤ l.length + 1
  | [], _, _ => Nat.le_refl _
  | r :: l, b, a => by
    have h1 := tq_len l b a
    have h2 := tq_len l b r
    have h3 := tq_len l a r
    simp only [tq, List.length_cons]
    split
    · omega
    · split
      · omega
      · rw [List.length_cons]; omega
theorem ts_mem : ∀ (l : List Int) (a x : Int), x ∈ ts a l → x = a ∨ x ∈ l
  | [], _, x, h => .inl (List.mem_singleton.mp h)
  | r :: l, a, x, h => by
    simp only [ts] at h
    split at h
    · rcases ts_mem l a x h with z | z
      · exact .inl z
      · exact .inr (List.mem_cons_of_mem _ z)
    · rcases List.mem_cons.mp h with z | z
      · exact .inl z
      · rcases tq_mem l a r x z with z | z
        · rw [z]; exact .inr List.mem_cons_self
        · exact .inr (List.mem_cons_of_mem _ z)
theorem ts_len : ∀ (l : List Int) (a : Int), (ts a l).length ≤ l.length + 1
  | [], _ => Nat.le_refl _
  | r :: l, a => by
    have h1 := ts_len l a
    have h2 := tq_len l a r
    simp only [ts, List.length_cons]
    split
    · omega
    · rw [List.length_cons]; omega
theorem tp_mem {ns : List Int} {x : Int} (h : x ∈ tp ns) : x ∈ ns := by
  cases ns with
  | nil => exact h
  | cons a l =>
    rcases ts_mem l a x h with z | z
    · rw [z]; exact List.mem_cons_self
    · exact List.mem_cons_of_mem _ z
theorem tp_len (ns : List Int) : (tp ns).length ≤ ns.length := by
  cases ns with
  | nil => exact Nat.le_refl _
  | cons a l => exact ts_len l a
/-- the swings of turning points -/
def rg (a b : Int) : Int × Int := (if b < a then b else a, if b > a then b else a)
def sw : List Int → List (Int × Int)
  | x :: y :: l => rg x y :: sw (y :: l)
  | _ => []
theorem sw_len : ∀ ps : List Int, (sw ps).length = ps.length - 1
  | [] => rfl
  | [_] => rfl
  | x :: y :: l => by
    have := sw_len (y :: l)
    simp only [sw, List.length_cons] at this ⊢
    omega
theorem sw_take : ∀ (ps : List Int) (i : Nat) (x y : Int), ps[i]? = some x → ps[i + 1]? = some y → (sw ps).take (i + 1) = (sw ps).take i ++ [rg x y]
  | [], _, _, _, h, _ => by simp at h
  | [_], 0, _, _, _, h => by simp at h
  | [_], i + 1, _, _, h, _ => by simp at h
  | a :: b :: l, 0, x, y, h, h2 => by
    have e1 : a = x := Option.some.inj h
    have e2 : b = y := Option.some.inj h2
    subst e1 e2
    rfl
  | a :: b :: l, i + 1, x, y, h, h2 => by
    have ih := sw_take (b :: l) i x y h h2
    show rg a b :: (sw (b :: l)).take (i + 1) = rg a b :: (sw (b :: l)).take i ++ [rg x y]
    rw [ih]
    rfl
theorem sw_mem : ∀ (ps : List Int) (B : Nat), (∀ x ∈ ps, x.natAbs < B) → ∀ r ∈ sw ps, r.1.natAbs < B ∧ r.2.natAbs < B
  | [], _, _, r, h => by simp [sw] at h
  | [_], _, _, r, h => by simp [sw] at h
  | x :: y :: l, B, hb, r, h => by
    rcases List.mem_cons.mp (show r ∈ rg x y :: sw (y :: l) from h) with z | z
    · have h1 := hb x List.mem_cons_self
      have h2 := hb y (List.mem_cons_of_mem _ List.mem_cons_self)
      rw [z]
      unfold rg
      constructor <;> (dsimp only; split <;> assumption)
    · exact sw_mem (y :: l) B (fun x hx => hb x (List.mem_cons_of_mem _ hx)) r z
end PM

/-! points taken out, in any order: one count -/
namespace RM
open PM
/-- of four points in a row, the middle two may be taken out -/
abbrev Taken (a b c d : Int) : Prop := ((rg a b).1 ≤ (rg b c).1 ∧ (rg b c).2 ≤ (rg a b).2) ∧ ((rg c d).1 ≤ (rg b c).1 ∧ (rg b c).2 ≤ (rg c d).2)
/-- up and down by turns -/
def ZZ : List Int → Prop
  | x :: y :: z :: r => ((x < y ∧ z < y) ∨ (y < x ∧ y < z)) ∧ ZZ (y :: z :: r)
  | [x, y] => x ≠ y
  | _ => True
inductive Step : List Int → Int × Int → List Int → Prop
  | here {a b c d : Int} {post : List Int} : Taken a b c d → Step (a :: b :: c :: d :: post) (rg b c) (a :: d :: post)
  | there {x : Int} {p q : List Int} {cy : Int × Int} : Step p cy q → Step (x :: p) cy (x :: q)
theorem ZZ.tail {x : Int} : ∀ {p : List Int}, ZZ (x :: p) → ZZ p
  | [], _ => trivial
  | [_], _ => trivial
  | [y, z], h => by
    have h1 := h.1
    show y ≠ z
    omega
  | y :: z :: u :: r, h => h.2
theorem Step.head {x : Int} {p q : List Int} {cy : Int × Int} (h : Step (x :: p) cy q) : ∃ q', q = x :: q' := by
  cases h with
  | here _ => exact ⟨_, rfl⟩
  | there _ => exact ⟨_, rfl⟩
theorem Step.len {p q : List Int} {cy : Int × Int} (h : Step p cy q) : p.length = q.length + 2 := by
  induction h with
  | here _ => simp only [List.length_cons]
  | there _ ih => simp only [List.length_cons]; omega
theorem rg_up {a b : Int} (h : a < b) : rg a b = (a, b) := by unfold rg; rw [if_neg (by omega), if_pos (by omega)]
theorem rg_down {a b : Int} (h : b < a) : rg a b = (b, a) := by unfold rg; rw [if_pos h, if_neg (by omega)]
/-- among points that go up and down -/
theorem taken_iff {a b c d : Int} (h : ZZ (a :: b :: c :: d :: [])) : Taken a b c d ↔ (a < b ∧ c < b ∧ c < d ∧ a ≤ c ∧ b ≤ d) ∨ (b < a ∧ b < c ∧ d < c ∧ c ≤ a ∧ d ≤ b) := by
  have h1 := h.1
  have h2 := h.2.1
  unfold Taken
  rcases h1 with ⟨x, y⟩ | ⟨x, y⟩
  · have z : c < d := by omega
    rw [rg_up x, rg_down y, rg_up z]
    dsimp only
    omega
  · have z : d < c := by omega
    rw [rg_down x, rg_up y, rg_down z]
    dsimp only
    omega
theorem ZZ.four {a b c d : Int} {r : List Int} (h : ZZ (a :: b :: c :: d :: r)) : ZZ (a :: b :: c :: d :: []) := by
  refine ⟨h.1, h.2.1, ?_⟩
  have := h.2.1
  show c ≠ d
  omega
theorem zz_here {a b c d : Int} : ∀ {post : List Int}, ZZ (a :: b :: c :: d :: post) → Taken a b c d → ZZ (a :: d :: post)
  | [], h, t => by
    rcases (taken_iff h.four).mp t with z | z
    · show a ≠ d
      omega
    · show a ≠ d
      omega
  | e :: r, h, t => by
    have h3 := h.2.2.1
    refine ⟨?_, h.2.2.2⟩
    rcases (taken_iff h.four).mp t with z | z <;> omega
theorem zz_cons {x y : Int} {p : List Int} (h : ZZ (x :: y :: p)) : x ≠ y := by
  cases p with
  | nil => exact h
  | cons z r => have := h.1; omega
theorem ZZ.step {p q : List Int} {cy : Int × Int} (h : Step p cy q) : ZZ p → ZZ q := by
  induction h with
  | here t => exact fun z => zz_here z t
  | @there x p q cy h ih =>
    intro z
    have zq := ih z.tail
    cases h with
    | @here a b c d post t =>
      have z1 := z.1
      have ti := (taken_iff z.tail.four).mp t
      refine ⟨?_, zq⟩
      rcases ti with t | t <;> omega
    | @there y p' q' cy' h' =>
      cases q' with
      | nil =>
        have := h'.len
        exact zz_cons z
      | cons u v =>
        cases p' with
        | nil => have := h'.len; simp at this
        | cons u' v' =>
          obtain ⟨v'', e⟩ := h'.head
          have e1 : u = u' := (List.cons.inj e).1
          subst e1
          exact ⟨z.1, zq⟩
/-- two ways to go on meet again -/
theorem diamond {p p1 : List Int} {c1 : Int × Int} (h1 : Step p c1 p1) : ∀ {p2 : List Int} {c2 : Int × Int}, Step p c2 p2 → ZZ p → (c1 = c2 ∧ p1 = p2) ∨ ∃ p3, Step p1 c2 p3 ∧ Step p2 c1 p3 := by
  have key : ∀ {a b c d : Int} {post : List Int} {p2 : List Int} {c2 : Int × Int}, Taken a b c d → Step (b :: c :: d :: post) c2 p2 → ZZ (a :: b :: c :: d :: post) →
      (rg b c = c2 ∧ a :: d :: post = a :: p2) ∨ ∃ p3, Step (a :: d :: post) c2 p3 ∧ Step (a :: p2) (rg b c) p3 := by
    intro a b c d post p2 c2 t h z
    have t1 := (taken_iff z.four).mp t
    cases h with
    | @here _ _ _ e post' t2 =>
      have t3 := (taken_iff z.tail.four).mp t2
      have ebd : b = d := by omega
      subst ebd
      refine .inl ⟨?_, rfl⟩
      have z1 := z.1
      rcases z1 with ⟨x, y⟩ | ⟨x, y⟩
      · rw [rg_down y, rg_up y]
      · rw [rg_up y, rg_down y]
    | @there _ _ q2 _ h2 =>
      cases h2 with
      | @here _ _ e f post' t2 =>
        have t3 := (taken_iff z.tail.tail.four).mp t2
        have za : ZZ (a :: d :: e :: f :: post') := zz_here z t
        have zb : ZZ (a :: b :: c :: f :: post') := ZZ.step (.there (.there (.here t2))) z
        exact .inr ⟨a :: f :: post', .here ((taken_iff za.four).mpr (by omega)), .here ((taken_iff zb.four).mpr (by omega))⟩
      | @there _ _ q3 _ h3 =>
        obtain ⟨q4, rfl⟩ := h3.head
        exact .inr ⟨a :: d :: q4, .there h3, .here t⟩
  induction h1 with
  | @here a b c d post t =>
    intro p2 c2 h2 z
    cases h2 with
    | here _ => exact .inl ⟨rfl, rfl⟩
    | @there _ _ q2 _ h2 => exact key t h2 z
  | @there x p q cy h1 ih =>
    intro p2 c2 h2 z
    cases h2 with
    | @here a b c d post t =>
      rcases key t h1 z with ⟨e1, e2⟩ | ⟨p3, s1, s2⟩
      · exact .inl ⟨e1.symm, e2.symm⟩
      · exact .inr ⟨p3, s2, s1⟩
    | @there _ _ q2 _ h2 =>
      rcases ih h2 z.tail with ⟨e1, e2⟩ | ⟨p3, s1, s2⟩
      · exact .inl ⟨e1, by rw [e2]⟩
      · exact .inr ⟨x :: p3, .there s1, .there s2⟩
inductive Run : List Int → List (Int × Int) → List Int → Prop
  | nil (p : List Int) : Run p [] p
  | cons {p q r : List Int} {c : Int × Int} {cs : List (Int × Int)} : Step p c q → Run q cs r → Run p (c :: cs) r
/-- nothing can be taken out -/
def NF (p : List Int) : Prop := ∀ c q, ¬ Step p c q
theorem Run.snoc {p q r : List Int} {c : Int × Int} {cs : List (Int × Int)} (h : Run p cs q) (s : Step q c r) : Run p (cs ++ [c]) r := by
  induction h with
  | nil p => exact .cons s (.nil _)
  | cons h1 _ ih => exact .cons h1 (ih s)
theorem Run.zz {p q : List Int} {cs : List (Int × Int)} (h : Run p cs q) : ZZ p → ZZ q := by
  induction h with
  | nil p => exact id
  | cons h1 _ ih => exact fun z => ih (ZZ.step h1 z)
theorem Run.len {p q : List Int} {cs : List (Int × Int)} (h : Run p cs q) : p.length = q.length + 2 * cs.length := by
  induction h with
  | nil p => simp
  | cons h1 _ ih => have := h1.len; rw [List.length_cons]; omega
theorem ends : ∀ (n : Nat) (p : List Int), p.length ≤ n → ∃ cs r, Run p cs r ∧ NF r
  | 0, p, h => ⟨[], p, .nil p, fun c q s => by have := s.len; omega⟩
  | n + 1, p, h => by
    by_cases e : ∃ c q, Step p c q
    · obtain ⟨c, q, s⟩ := e
      have := s.len
      obtain ⟨cs, r, h1, h2⟩ := ends n q (by omega)
      exact ⟨c :: cs, r, .cons s h1, h2⟩
    · exact ⟨[], p, .nil p, fun c q s => e ⟨c, q, s⟩⟩
/-- in whatever order points are taken out, the same cycles and the same rest come out -/
theorem unique : ∀ (n : Nat) (p : List Int), p.length ≤ n → ZZ p → ∀ {cs ds : List (Int × Int)} {r s : List Int}, Run p cs r → NF r → Run p ds s → NF s → r = s ∧ cs.Perm ds := by
  intro n
  induction n with
  | zero =>
    intro p hp z cs ds r s h1 n1 h2 n2
    cases h1 with
    | nil _ => cases h2 with
      | nil _ => exact ⟨rfl, .nil⟩
      | cons s2 _ => exact absurd s2 (n1 _ _)
    | cons s1 _ => have := s1.len; omega
  | succ n ih =>
    intro p hp z cs ds r s h1 n1 h2 n2
    cases h1 with
    | nil _ => cases h2 with
      | nil _ => exact ⟨rfl, .nil⟩
      | cons s2 _ => exact absurd s2 (n1 _ _)
    | @cons _ q1 _ c1 cs' s1 r1 =>
      cases h2 with
      | nil _ => exact absurd s1 (n2 _ _)
      | @cons _ q2 _ c2 ds' s2 r2 =>
        have l1 := s1.len
        have l2 := s2.len
        rcases diamond s1 s2 z with ⟨e1, e2⟩ | ⟨p3, t1, t2⟩
        · subst e1 e2
          obtain ⟨e, pm⟩ := ih q1 (by omega) (ZZ.step s1 z) r1 n1 r2 n2
          exact ⟨e, pm.cons _⟩
        · obtain ⟨es, t, r3, n3⟩ := ends p3.length p3 (Nat.le_refl _)
          obtain ⟨e1, m1⟩ := ih q1 (by omega) (ZZ.step s1 z) r1 n1 (.cons t1 r3) n3
          obtain ⟨e2, m2⟩ := ih q2 (by omega) (ZZ.step s2 z) r2 n2 (.cons t2 r3) n3
          refine ⟨e1.trans e2.symm, ?_⟩
          exact ((m1.cons c1).trans (.swap c2 c1 es)).trans (m2.symm.cons c2)
theorem one_count {p : List Int} (z : ZZ p) {cs ds : List (Int × Int)} {r s : List Int} (h1 : Run p cs r) (n1 : NF r) (h2 : Run p ds s) (n2 : NF s) : r = s ∧ cs.Perm ds := unique p.length p (Nat.le_refl _) z h1 n1 h2 n2
/-! ### the stack's way -/
theorem Step.suffix {p q : List Int} {cy : Int × Int} (h : Step p cy q) (l : List Int) : Step (p ++ l) cy (q ++ l) := by
  induction h with
  | here t => exact .here t
  | there _ ih => exact .there ih
theorem Step.prefix {p q : List Int} {cy : Int × Int} (h : Step p cy q) : ∀ l : List Int, Step (l ++ p) cy (l ++ q)
  | [] => h
  | x :: l => .there (h.prefix l)
theorem step_last {p : List Int} {cy : Int × Int} {q : List Int} (h : Step p cy q) : ∀ {m : List Int} {x : Int}, p = m ++ [x] → (∃ q', Step m cy q' ∧ q = q' ++ [x]) ∨ ∃ pre a b c, p = pre ++ [a, b, c, x] ∧ Taken a b c x := by
  induction h with
  | @here a b c d post t =>
    intro m x e
    rcases List.eq_nil_or_concat post with rfl | ⟨post', y, rfl⟩
    · have e2 : [a, b, c] ++ [d] = m ++ [x] := e
      obtain ⟨_, e4⟩ := List.append_inj' e2 rfl
      have e5 : d = x := (List.cons.inj e4).1
      subst e5
      exact .inr ⟨[], a, b, c, rfl, t⟩
    · have e2 : (a :: b :: c :: d :: post') ++ [y] = m ++ [x] := by rw [← e]; simp
      obtain ⟨e3, e4⟩ := List.append_inj' e2 rfl
      have e5 : y = x := (List.cons.inj e4).1
      subst e5 e3
      exact .inl ⟨a :: d :: post', .here t, by simp⟩
  | @there y p q cy h ih =>
    intro m x e
    cases m with
    | nil =>
      have e2 : p = [] := (List.cons.inj e).2
      subst e2
      cases h
    | cons y' m' =>
      obtain ⟨e1, e2⟩ := List.cons.inj e
      subst e1
      rcases ih e2 with ⟨q', s, e3⟩ | ⟨pre, a, b, c, e3, t⟩
      · exact .inl ⟨y :: q', .there s, by rw [e3]; rfl⟩
      · exact .inr ⟨y :: pre, a, b, c, by rw [e3]; rfl, t⟩
theorem nf_push {m : List Int} {x : Int} (h : NF m) (n : ∀ pre a b c, m ++ [x] = pre ++ [a, b, c, x] → ¬ Taken a b c x) : NF (m ++ [x]) := by
  intro cy q s
  rcases step_last s rfl with ⟨q', s', _⟩ | ⟨pre, a, b, c, e, t⟩
  · exact h _ _ s'
  · exact n pre a b c e t
theorem nf_prefix {m l : List Int} (h : NF (m ++ l)) : NF m := fun cy q s => h _ _ (s.suffix l)
/-- turning points go up and down -/
theorem tq_zz : ∀ (l : List Int) (b a : Int), a ≠ b → ∃ x s, tq b a l = x :: s ∧ (x > b ↔ a > b) ∧ x ≠ b ∧ ZZ (b :: x :: s)
  | [], b, a, h => ⟨a, [], rfl, Iff.rfl, h, fun z => h z.symm⟩
  | r :: l, b, a, h => by
    simp only [tq]
    by_cases e : a = r
    · rw [if_pos e]
      exact tq_zz l b a h
    · rw [if_neg e]
      by_cases bt : Btw a b r
      · rw [if_pos bt]
        obtain ⟨x, s, h1, h2, h3, h4⟩ := tq_zz l b r (by omega)
        exact ⟨x, s, h1, by omega, h3, h4⟩
      · rw [if_neg bt]
        obtain ⟨y, s, h1, h2, h3, h4⟩ := tq_zz l a r (fun z => e z.symm)
        refine ⟨a, y :: s, by rw [h1], Iff.rfl, h, ?_, h4⟩
        have h5 : y > a ↔ r > a := h2
        omega
theorem ts_zz : ∀ (l : List Int) (a : Int), ZZ (ts a l)
  | [], _ => trivial
  | r :: l, a => by
    simp only [ts]
    by_cases e : a = r
    · rw [if_pos e]
      exact ts_zz l a
    · rw [if_neg e]
      obtain ⟨x, s, h1, _, _, h4⟩ := tq_zz l a r (fun z => e z.symm)
      rw [h1]
      exact h4
theorem tp_zz (ns : List Int) : ZZ (tp ns) := by
  cases ns with
  | nil => exact trivial
  | cons a l => exact ts_zz l a
end RM

/-! heaps; the texts of data; a walk over two tuples -/
namespace KA
open PySem PySem.Spec PyProof.Rows L2
theorem same_new {H : Hp} {p : Addr} {o : HO} (h : H p = none) : Same H (upd H p o) := fun b x e => by
  rw [upd_ne (ne_of_none e h)]
  exact e
theorem same_again {H0 H : Hp} {p : Addr} {o : HO} (h : H0 p = none) (s : Same H0 H) : Same H0 (upd H p o) := fun b x e => by
  rw [upd_ne (ne_of_none e h)]
  exact s b x e
theorem SqT_same {K : PySem.W.Frag} {H H' : Hp} {a : Addr} {xs : List V} (e : Same H H') (h : SqT K H a xs) : SqT K H' a xs := by
  rcases h with (h | ⟨o, h⟩) | h
  · exact .inl (.inl (e _ _ h))
  · exact .inl (.inr ⟨o, e _ _ h⟩)
  · exact .inr h
theorem int_at {ns : List Int} {i : Nat} {x : V} (h : (ns.map V.int)[i]? = some x) : ∃ r, ns[i]? = some r ∧ x = .int r := by
  rw [List.getElem?_map] at h
  cases e : ns[i]? with
  | none => rw [e] at h; cases h
  | some r => rw [e] at h; exact ⟨r, rfl, (Option.some.inj h).symm⟩
theorem small3000 {n : Nat} (h : n ≤ 3000) : n < sizeLine := Nat.lt_of_le_of_lt h (by decide)
theorem at_int {ns : List Int} {i : Nat} {r : Int} (h : ns[i]? = some r) : (ns.map V.int)[i]? = some (.int r) := by
  rw [List.getElem?_map, h]
  rfl
end KA
namespace KB
end KB
namespace PH
open PySem PySem.Spec PyProof.Rows L2 KA
/-- a list or a tuple of xs stands at a -/
def Sq (K : PySem.W.Frag) (H : Hp) (a : Addr) (xs : List V) : Prop := SqL K H a xs ∨ SqT K H a xs
theorem Sq.same {K : PySem.W.Frag} {H H' : Hp} {a : Addr} {xs : List V} (h : Sq K H a xs) (e : Same H H') : Sq K H' a xs := h.elim (fun z => .inl (e.seq z)) (fun z => .inr (SqT_same e z))
/-- pairs of ints stand at the refs of xs -/
def PairsAt (H : Hp) : List V → List (Int × Int) → Prop
  | [], [] => True
  | x :: xs, r :: rs => (∃ p, x = .ref p ∧ H p = some (.tup [.int r.1, .int r.2])) ∧ PairsAt H xs rs
  | _, _ => False
theorem PairsAt.same {H H' : Hp} (e : Same H H') : ∀ {xs : List V} {rs : List (Int × Int)}, PairsAt H xs rs → PairsAt H' xs rs
  | [], [], _ => trivial
  | x :: xs, r :: rs, ⟨⟨p, h1, h2⟩, h3⟩ => ⟨⟨p, h1, e _ _ h2⟩, PairsAt.same e h3⟩
  | [], _ :: _, h => h.elim
  | _ :: _, [], h => h.elim
theorem PairsAt.length {H : Hp} : ∀ {xs : List V} {rs : List (Int × Int)}, PairsAt H xs rs → xs.length = rs.length
  | [], [], _ => rfl
  | x :: xs, r :: rs, ⟨_, h3⟩ => by rw [List.length_cons, List.length_cons, PairsAt.length h3]
  | [], _ :: _, h => h.elim
  | _ :: _, [], h => h.elim
theorem PairsAt.append {H : Hp} : ∀ {xs ys : List V} {rs ss : List (Int × Int)}, PairsAt H xs rs → PairsAt H ys ss → PairsAt H (xs ++ ys) (rs ++ ss)
  | [], _, [], _, _, h => h
  | x :: xs, _, r :: rs, _, ⟨h1, h2⟩, h => ⟨h1, PairsAt.append h2 h⟩
  | [], _, _ :: _, _, h, _ => h.elim
  | _ :: _, _, [], _, h, _ => h.elim
theorem PairsAt.take {H : Hp} : ∀ {xs : List V} {rs : List (Int × Int)} (n : Nat), PairsAt H xs rs → PairsAt H (xs.take n) (rs.take n)
  | [], [], n, _ => by simp [PairsAt]
  | x :: xs, r :: rs, 0, _ => trivial
  | x :: xs, r :: rs, n + 1, ⟨h1, h2⟩ => ⟨h1, PairsAt.take n h2⟩
  | [], _ :: _, _, h => h.elim
  | _ :: _, [], _, h => h.elim
theorem PairsAt.get {H : Hp} : ∀ {xs : List V} {rs : List (Int × Int)} {i : Nat} {x : V}, PairsAt H xs rs → xs[i]? = some x → ∃ p a b, x = .ref p ∧ H p = some (.tup [.int a, .int b])
  | x :: xs, r :: rs, 0, y, ⟨⟨p, h1, h2⟩, _⟩, e => ⟨p, r.1, r.2, by rw [← h1]; exact (Option.some.inj e).symm, h2⟩
  | x :: xs, r :: rs, i + 1, y, ⟨_, h⟩, e => PairsAt.get h e
  | [], [], i, y, _, e => by simp at e
  | [], _ :: _, _, _, h, _ => h.elim
  | _ :: _, [], _, _, h, _ => h.elim
/-! ### data -/
def dInts (ns : List Int) : List PyData := ns.map PyData.int
def dPairs (rs : List (Int × Int)) : List PyData := rs.map fun r => .tuple [.int r.1, .int r.2]
theorem dp_ints {K : PySem.W.Frag} {H : Hp} : ∀ ns : List Int, DpAll K H (ns.map V.int) (dInts ns)
  | [] => .nil
  | n :: ns => .cons (.int n) (dp_ints ns)
theorem dp_pairs {K : PySem.W.Frag} {H : Hp} : ∀ {xs : List V} {rs : List (Int × Int)}, PairsAt H xs rs → DpAll K H xs (dPairs rs)
  | [], [], _ => .nil
  | x :: xs, r :: rs, ⟨⟨p, h1, h2⟩, h3⟩ => by
    subst h1
    exact .cons (.tup (SqT.of h2) (.cons (.int _) (.cons (.int _) .nil))) (dp_pairs h3)
  | [], _ :: _, h => h.elim
  | _ :: _, [], h => h.elim
theorem lay_ints : ∀ ns : List Int, PyData.canLayAll0 (dInts ns) = true
  | [] => rfl
  | n :: ns => by
    show (PyData.canLay0 (.int n) && PyData.canLayAll0 (dInts ns)) = true
    rw [lay_ints ns]
    simp only [PyData.canLay0, Bool.and_true]
theorem lay_pairs : ∀ rs : List (Int × Int), PyData.canLayAll0 (dPairs rs) = true
  | [] => rfl
  | r :: rs => by
    show (PyData.canLay0 (.tuple [.int r.1, .int r.2]) && PyData.canLayAll0 (dPairs rs)) = true
    rw [lay_pairs rs]
    simp only [PyData.canLay0, PyData.canLayAll0, Bool.and_true]
theorem depth_pairs : ∀ rs : List (Int × Int), PyData.depthAll (dPairs rs) ≤ 3
  | [] => Nat.zero_le _
  | r :: rs => by
    have h := depth_pairs rs
    show max (PyData.depth (.tuple [.int r.1, .int r.2])) (PyData.depthAll (dPairs rs)) ≤ 3
    simp only [PyData.depth, PyData.depthAll]
    omega
theorem shaped_of {d : PyData} (h1 : d.canLay0 = true) (h2 : d.depth ≤ 64) : SeqAt.shaped d = true := by
  unfold SeqAt.shaped
  rw [h1, decide_eq_true h2]
  rfl
theorem shaped_lst (ns : List Int) : SeqAt.shaped (.list (dInts ns)) = true :=
  shaped_of (by simp only [PyData.canLay0, lay_ints]) (by have := KG.depth_all ns; show PyData.depth (.list (ns.map PyData.int)) ≤ 64; simp only [PyData.depth]; omega)
theorem shaped_tup (ns : List Int) : SeqAt.shaped (.tuple (dInts ns)) = true :=
  shaped_of (by simp only [PyData.canLay0, lay_ints]) (by have := KG.depth_all ns; show PyData.depth (.tuple (ns.map PyData.int)) ≤ 64; simp only [PyData.depth]; omega)
theorem shaped_prs (rs : List (Int × Int)) : SeqAt.shaped (.list (dPairs rs)) = true :=
  shaped_of (by simp only [PyData.canLay0, lay_pairs]) (by have := depth_pairs rs; simp only [PyData.depth]; omega)
theorem eqv_same {d : PyData} (h : SeqAt.shaped d = true) : PyData.eqv d d = true := by
  refine SeqAt.eqv_refl d ?_
  unfold SeqAt.shaped at h
  rw [Bool.and_eq_true] at h
  exact h.1
/-- what repr asks of data -/
structure Nice (d : PyData) : Prop where
  show' : d.showable = true
  dict : d.hasDict = false
  depth : d.depth ≤ 10
  fits : d.shown.length ≤ sizeLine
theorem nice_lst {ns : List Int} (h : ∀ n ∈ ns, n.natAbs < 2 ^ 39) (hl : ns.length ≤ 2000) : Nice (.list (dInts ns)) :=
  ⟨by simp only [PyData.showable]; exact KG.show_all ns fun m hm => Nat.lt_trans (h m hm) (by decide), by simp only [PyData.hasDict]; exact KG.nodict_all ns,
    by have := KG.depth_all ns; show PyData.depth (.list (ns.map PyData.int)) ≤ 10; simp only [PyData.depth]; omega, KG.repr_fits h hl⟩
theorem nice_tup {ns : List Int} (h : ∀ n ∈ ns, n.natAbs < 2 ^ 39) (hl : ns.length ≤ 2000) : Nice (.tuple (dInts ns)) :=
  ⟨by simp only [PyData.showable]; exact KG.show_all ns fun m hm => Nat.lt_trans (h m hm) (by decide), by simp only [PyData.hasDict]; exact KG.nodict_all ns,
    by have := KG.depth_all ns; show PyData.depth (.tuple (ns.map PyData.int)) ≤ 10; simp only [PyData.depth]; omega, by
      refine PyData.shown_fits (B := 13) (by decide) (by decide) ?_ ?_
      · simp only [PyData.leavesShort]
        exact KG.leaves_all ns fun n hn => Nat.lt_trans (h n hn) (by decide)
      · have := KG.weight_all ns h
        show PyData.weight (.tuple (ns.map PyData.int)) ≤ _
        simp only [PyData.weight]
        omega⟩
theorem leaf_int {a : Int} (h : a.natAbs < 2 ^ 39) : PyData.leavesShort 13 (.int a) = true := by
  have := KG.leaves_all [a] fun n hn => by rw [List.mem_singleton.mp hn]; exact Nat.lt_trans h (by decide)
  simpa only [List.map_cons, List.map_nil, PyData.leavesShortAll, Bool.and_true] using this
theorem show_int {a : Int} (h : a.natAbs < 2 ^ 39) : PyData.showable (.int a) = true := by
  have := KG.show_all [a] fun n hn => by rw [List.mem_singleton.mp hn]; exact Nat.lt_trans h (by decide)
  simpa only [List.map_cons, List.map_nil, PyData.showableAll, Bool.and_true] using this
theorem weight_int {a : Int} (h : a.natAbs < 2 ^ 39) : PyData.weight (.int a) + 1 ≤ 60 := by
  have := KG.weight_all [a] fun n hn => by rw [List.mem_singleton.mp hn]; exact h
  simp only [List.map_cons, List.map_nil, PyData.weightAll, List.length_singleton] at this
  omega
theorem pairs_show : ∀ rs : List (Int × Int), (∀ r ∈ rs, r.1.natAbs < 2 ^ 39 ∧ r.2.natAbs < 2 ^ 39) → PyData.showableAll (dPairs rs) = true
  | [], _ => rfl
  | r :: rs, h => by
    have h1 := h r List.mem_cons_self
    show (PyData.showable (.tuple [.int r.1, .int r.2]) && PyData.showableAll (dPairs rs)) = true
    rw [pairs_show rs fun x hx => h x (List.mem_cons_of_mem _ hx)]
    have e1 := show_int h1.1
    have e2 := show_int h1.2
    simp only [PyData.showable, PyData.showableAll] at e1 e2 ⊢
    rw [e1, e2]
    rfl
theorem pairs_dict : ∀ rs : List (Int × Int), PyData.hasDictAll (dPairs rs) = false
  | [] => rfl
  | r :: rs => by
    show (PyData.hasDict (.tuple [.int r.1, .int r.2]) || PyData.hasDictAll (dPairs rs)) = false
    rw [pairs_dict rs]
    simp only [PyData.hasDict, PyData.hasDictAll, Bool.or_self]
theorem pairs_leaves : ∀ rs : List (Int × Int), (∀ r ∈ rs, r.1.natAbs < 2 ^ 39 ∧ r.2.natAbs < 2 ^ 39) → PyData.leavesShortAll 13 (dPairs rs) = true
  | [], _ => rfl
  | r :: rs, h => by
    have h1 := h r List.mem_cons_self
    show (PyData.leavesShort 13 (.tuple [.int r.1, .int r.2]) && PyData.leavesShortAll 13 (dPairs rs)) = true
    rw [pairs_leaves rs fun x hx => h x (List.mem_cons_of_mem _ hx)]
    have e : PyData.leavesShort 13 (.tuple [.int r.1, .int r.2]) = PyData.leavesShortAll 13 [.int r.1, .int r.2] := by simp only [PyData.leavesShort]
    have e' : PyData.leavesShortAll 13 [.int r.1, .int r.2] = (PyData.leavesShort 13 (.int r.1) && (PyData.leavesShort 13 (.int r.2) && true)) := by simp only [PyData.leavesShortAll]
    rw [e, e', leaf_int h1.1, leaf_int h1.2]
    rfl
theorem pairs_weight : ∀ rs : List (Int × Int), (∀ r ∈ rs, r.1.natAbs < 2 ^ 39 ∧ r.2.natAbs < 2 ^ 39) → PyData.weightAll (dPairs rs) ≤ 130 * rs.length
  | [], _ => Nat.le_refl _
  | r :: rs, h => by
    have h1 := h r List.mem_cons_self
    have h2 := pairs_weight rs fun x hx => h x (List.mem_cons_of_mem _ hx)
    have w1 := weight_int h1.1
    have w2 := weight_int h1.2
    have e : PyData.weightAll (dPairs (r :: rs)) = PyData.weight (.tuple [.int r.1, .int r.2]) + 1 + PyData.weightAll (dPairs rs) := by
      show PyData.weightAll (_ :: _) = _
      simp only [PyData.weightAll]
      rfl
    have e2 : PyData.weight (.tuple [.int r.1, .int r.2]) = PyData.weight (.int r.1) + 1 + (PyData.weight (.int r.2) + 1 + 0) := by simp only [PyData.weight, PyData.weightAll]
    rw [e, e2, List.length_cons]
    omega
theorem nice_prs {rs : List (Int × Int)} (h : ∀ r ∈ rs, r.1.natAbs < 2 ^ 39 ∧ r.2.natAbs < 2 ^ 39) (hl : rs.length ≤ 2000) : Nice (.list (dPairs rs)) :=
  ⟨by simp only [PyData.showable]; exact pairs_show rs h, by simp only [PyData.hasDict]; exact pairs_dict rs, by have := depth_pairs rs; simp only [PyData.depth]; omega, by
    refine PyData.shown_fits (B := 13) (by decide) (by decide) ?_ ?_
    · simp only [PyData.leavesShort]
      exact pairs_leaves rs h
    · have := pairs_weight rs h
      simp only [PyData.weight]
      omega⟩
section
variable {X : Cx}
/-- repr of data at an address, while no repr is under way -/
def rReprD (K : PySem.W.Frag) : List V → Hp → VK → Prop := fun vs H Q => ∃ (a : Addr) (d : PyData), vs = [V.ref a] ∧ Dp K H (.ref a) d ∧ Nice d ∧ Q (.str d.shown) H
theorem cr_reprD (hg : X.A.guards = some []) (hu : X.A.units + 100 < cLine) : CallR X (.builtin "repr") (rReprD X.K) := by
  intro pins s σ H vs us Q I r h
  obtain ⟨a, d, rfl, hd, nc, q⟩ := h
  rw [Vals.ref1 r]
  obtain ⟨as, rd⟩ := Dp.reads I d (.ref a) (.ref a) hd rfl
  refine repr_of_reads' rd nc.show' (PyData.noDict_hsm nc.dict) hg (by have := nc.depth; omega) (fun _ _ e => e) (fun g u tk k => ?_) nc.fits
  exact ⟨.str d.shown, H, I.kept k, ⟨u, rfl⟩, q⟩
theorem cr_reprB : CallR X (.builtin "repr") (fun vs H Q => ∃ b : Bool, vs = [V.bl b] ∧ Q (.str (if b = true then "True" else "False")) H) := by
  intro pins s σ H vs us Q I r h
  obtain ⟨b, rfl, q⟩ := h
  obtain ⟨u, rfl, ru⟩ := vals1 r
  cases ru
  exact PySem.P.repr_of_bool ⟨.str _, H, I.tok _, ⟨_, rfl⟩, q⟩
end
section
variable {K : PySem.W.Frag} {a b : Addr} {xs ys : List V}
theorem walk_tups {n : Nat} (hn : n = min xs.length ys.length) : Walk (RZ.ItzT K a b) n (fun H => SqT K H a xs ∧ SqT K H b ys) (YPair (fun i => xs[i]?) (fun i => ys[i]?)) := by
  refine ⟨fun i H hi q => ⟨xs, ys, xs[i]'(by omega), ys[i]'(by omega), q.1, q.2, List.getElem?_eq_getElem (by omega), List.getElem?_eq_getElem (by omega)⟩, fun H q => ⟨xs, ys, q.1, q.2, by omega⟩, fun i H v H' _ q y => ?_⟩
  obtain ⟨T, x, z, h1, h2, h3, h4, h5⟩ := y
  exact ⟨T, x, z, h1, h2, h3, h4 xs q.1, h5 ys q.2⟩
end
/-- two promises of one def -/
theorem both {P : Program} {w : World} {K : PySem.W.Frag} {mg : Str → Option Value} {base : Heap} {CX : CXT} {k : Nat} {f : Addr} {fd : FuncData} {ps : List Str} {sp sp' : Sp}
    (F : FnOk P w K mg base CX k f fd ps sp) (G : FnOk P w K mg base CX k f fd ps sp') : FnOk P w K mg base CX k f fd ps (fun vs H Q E => sp vs H Q E ∨ sp' vs H Q E) :=
  ⟨fun vs H Q E h => h.elim (F.len vs H Q E) (G.len vs H Q E), fun A outer s H args us vs Q E hr e0 hb r h => h.elim (F.run A outer s H args us vs Q E hr e0 hb r) (G.run A outer s H args us vs Q E hr e0 hb r)⟩
end PH

namespace KA
open PySem PySem.Spec PyProof.Rows L2
def topS (i : Nat) : Stmt := PySem.Challenge.pw_wearswings_k57_sizes_and_loads_compared.main.body.getD i (.Pass ⟨0, 0, 0, 0⟩)
end KA
namespace KD
open PySem PySem.Spec PyProof.Rows L2 KA
abbrev sFeed : Stmt := topS 25
abbrev sTake : Stmt := topS 26
abbrev sPick : Stmt := topS 27
theorem scFeed : FnScope ["script", "index", "cell", "great"] ["script", "index"] (defScope sFeed) := ⟨rfl, rfl, rfl, by decide +kernel, rfl, by decide +kernel, by decide +kernel⟩
theorem scTake : FnScope ["feed", "size", "digit"] ["feed", "size"] (defScope sTake) := ⟨rfl, rfl, rfl, by decide +kernel, rfl, by decide +kernel, by decide +kernel⟩
theorem scPick : FnScope ["feed", "options"] ["feed", "options"] (defScope sPick) := ⟨rfl, rfl, rfl, by decide +kernel, rfl, by decide +kernel, by decide +kernel⟩
/-- a feed stands at p -/
def FeedAt (H : Hp) (p : Addr) : Prop := ∃ d st : Int, 0 ≤ d ∧ 0 ≤ st ∧ st < 2305843009213693951 ∧ H p = some (.lst [.int d, .int st])
/-- all that was tracked is as it was, but what stands at f -/
def Ch (f : Addr) (H H' : Hp) : Prop := ∀ b o, b ≠ f → H b = some o → H' b = some o
theorem Ch.refl (f : Addr) (H : Hp) : Ch f H H := fun _ _ _ e => e
theorem Ch.trans {f : Addr} {H H1 H2 : Hp} (a : Ch f H H1) (b : Ch f H1 H2) : Ch f H H2 := fun c o n e => b c o n (a c o n e)
theorem Ch.of_same {f : Addr} {H H' : Hp} (s : Same H H') : Ch f H H' := fun c o _ e => s c o e
theorem Ch.put {f : Addr} {H : Hp} {o : HO} : Ch f H (upd H f o) := fun b x n e => by rw [upd_ne n]; exact e
theorem Ch.new {f p : Addr} {H : Hp} {o : HO} (h : H p = none) : Ch f H (upd H p o) := .of_same (same_new h)
theorem Ch.again {f p : Addr} {H0 H : Hp} {o : HO} (h : H0 p = none) (c : Ch f H0 H) : Ch f H0 (upd H p o) := fun b x n e => by
  rw [upd_ne (ne_of_none e h)]
  exact c b x n e
theorem Ch.free {f p : Addr} {H H' : Hp} (c : Ch f H H') (n : p ≠ f) (h : H' p = none) : H p = none := by
  cases e : H p with
  | none => rfl
  | some o =>
    rw [c p o n e] at h
    cases h
theorem Ch.seq {K : PySem.W.Frag} {f : Addr} {H H' : Hp} {a : Addr} {xs : List V} (c : Ch f H H') (n : a ≠ f) (h : SqL K H a xs) : SqL K H' a xs := by
  rcases h with (h | ⟨o, h⟩) | h
  · exact .inl (.inl (c _ _ n h))
  · exact .inl (.inr ⟨o, c _ _ n h⟩)
  · exact .inr h
/-- what stood ahead of the feed is as it was -/
theorem Ch.old {f : Addr} {H0 H H' : Hp} (c : Ch f H H') (hf : H0 f = none) (s : Same H0 H) : Same H0 H' := fun b o e => c b o (ne_of_none e hf) (s b o e)
theorem FeedAt.ne {H : Hp} {f p : Addr} (h : FeedAt H f) (n : H p = none) : p ≠ f := by
  obtain ⟨d, st, _, _, _, e⟩ := h
  exact fun z => by rw [z, e] at n; cases n
theorem FeedAt.upd {H : Hp} {f p : Addr} {o : HO} (h : FeedAt H f) (n : p ≠ f) : FeedAt (upd H p o) f := by
  obtain ⟨d, st, h1, h2, h3, e⟩ := h
  exact ⟨d, st, h1, h2, h3, by rw [upd_ne n.symm]; exact e⟩
theorem FeedAt.same {H H' : Hp} {f : Addr} (h : FeedAt H f) (s : Same H H') : FeedAt H' f := by
  obtain ⟨d, st, h1, h2, h3, e⟩ := h
  exact ⟨d, st, h1, h2, h3, s _ _ e⟩
section
variable {P : Program} {w : World} {K : PySem.W.Frag} {mg : Str → Option Value} {base : Heap}
def spFeed (K : PySem.W.Frag) : Sp := fun vs H Q _ => ∃ (a : Addr) (ns : List Int) (k : Int), vs = [.ref a, .int k] ∧ SqL K H a (ns.map V.int) ∧ 0 ≤ k ∧ k ≤ 100 ∧
  ∀ H' p, Same H H' → H p = none → FeedAt H' p → Q (.ref p) H'
theorem ok_feed {f : Addr} {fd : FuncData} {k : Nat} (F : Fun K "_law_feed" "_law_feed" sFeed f fd) (ml : mg "len" = none) (mm : mg "max" = none) (ma : mg "abs" = none) : FnOk P w K mg base CX0 (k + 1) f fd ["script", "index"] (spFeed K) := by
  refine F.ok scFeed (fun vs H Q E h => ?_) (fun cdv A outer s H vs Q E hr h => ?_)
  · obtain ⟨a, ns, z, rfl, _⟩ := h
    rfl
  · obtain ⟨a, ns, z, rfl, hS, h0, h1, q⟩ := h
    refine ⟨_, pss_cons (ps_set (i := 2) scFeed.nd rfl (.inl rfl) (pe_ifExp (pt_cmpR op_lt (pv 1) (pe_callB call_len_seq (by rfl) ml PySem.boot_len (pa_cons (pv 0) pa_nil)) (nomark _)) (pe_ix ix_list (pv 0) (pv 1) (fun _ _ => rfl)) (pe_op op_add (pe_op op_mul pe_int (pv 1)) pe_int)))
      (pss_cons (ps_set (i := 3) scFeed.nd rfl (.inl rfl) (pe_op op_sub (pe_callB call_abs (by rfl) ma (by decide +kernel) (pa_cons (pv 2) pa_nil)) (pe_op op_pow pe_int pe_int)))
      (pss_one (ps_ret (pe_lst (pa_cons (pe_callB (call_max2 rfl) (by rfl) mm (by decide +kernel) (pa_cons pe_int (pa_cons (pv 3) pa_nil))) (pa_cons (pe_op op_mod (pe_op op_add (pe_op op_mul (pv 2) pe_int) (pe_op op_mul pe_int (pe_op op_add (pv 1) pe_int))) pe_int) pa_nil)))))), ?_⟩
    refine ⟨.int z, rfl, .ref a, rfl, a, ns.map V.int, rfl, .inl hS, z, _, rfl, rfl, _, rfl, ite2 (fun e => ?_) (fun e => ?_)⟩
    · have hz : z < ((ns.map V.int).length : Nat) := of_decide_eq_true e
      rw [List.length_map] at hz
      obtain ⟨j, rfl⟩ : ∃ j : Nat, z = (j : Int) := ⟨z.toNat, by omega⟩
      have hj : j < ns.length := by omega
      have gj : (ns.map V.int)[j]? = some (.int ns[j]) := by rw [List.getElem?_map, List.getElem?_eq_getElem hj]; rfl
      refine ⟨.ref a, rfl, .int j, rfl, a, _, _, _, rfl, rfl, hS, atI_nat gj, ?_⟩
      refine ⟨.int _, rfl, _, rfl, 10, 18, rfl, rfl, ⟨by decide, by decide, by decide⟩, _, _, rfl, rfl, .int _, rfl, 0, _, rfl, ?_⟩
      refine ⟨.int _, rfl, _, _, rfl, rfl, .inr ⟨by decide, by decide⟩, .int _, rfl, _, 1, rfl, rfl, 3935559000370003845, _, rfl, rfl, .inl ⟨by decide, by decide⟩, _, _, rfl, rfl, _, _, rfl, rfl, by show (0 : Int) < 2305843009213693951; decide, ?_⟩
      refine ⟨by show 2 ≤ sizeLine; decide, fun p np => q _ p (same_new np) np ⟨_, _, ?_, Int.emod_nonneg _ (by decide), Int.emod_lt_of_pos _ (by decide), upd_same⟩⟩
      split <;> omega
    · refine ⟨.int z, rfl, 59, z, rfl, rfl, .inl ⟨by decide, by decide⟩, _, _, rfl, rfl, ?_⟩
      refine ⟨.int _, rfl, _, rfl, 10, 18, rfl, rfl, ⟨by decide, by decide, by decide⟩, _, _, rfl, rfl, .int _, rfl, 0, _, rfl, ?_⟩
      refine ⟨.int _, rfl, _, _, rfl, rfl, .inr ⟨by decide, by decide⟩, .int _, rfl, _, 1, rfl, rfl, 3935559000370003845, _, rfl, rfl, .inl ⟨by decide, by decide⟩, _, _, rfl, rfl, _, _, rfl, rfl, by show (0 : Int) < 2305843009213693951; decide, ?_⟩
      refine ⟨by show 2 ≤ sizeLine; decide, fun p np => q _ p (same_new np) np ⟨_, _, ?_, Int.emod_nonneg _ (by decide), Int.emod_lt_of_pos _ (by decide), upd_same⟩⟩
      split <;> omega
def spTake : Sp := fun vs H Q _ => ∃ (f : Addr) (m : Int), vs = [.ref f, .int m] ∧ 0 < m ∧ m < 2 ^ 64 ∧ FeedAt H f ∧ ∀ H' r, Ch f H H' → FeedAt H' f → 0 ≤ r → r < m → Q (.int r) H'
theorem ok_take {f : Addr} {fd : FuncData} {k : Nat} (F : Fun K "_law_take" "_law_take" sTake f fd) : FnOk P w K mg base CX0 (k + 1) f fd ["feed", "size"] spTake := by
  refine F.ok scTake (fun vs H Q E h => ?_) (fun cdv A outer s H vs Q E hr h => ?_)
  · obtain ⟨a, m, rfl, _⟩ := h
    rfl
  · obtain ⟨f, m, rfl, m0, m1, ⟨d, st, d0, t0, t1, hf⟩, q⟩ := h
    refine ⟨_, pss_cons (ps_if (pt_cmpR op_gt (pe_ix ix_list (pv 0) pe_int (fun _ _ => rfl)) pe_int (nomark _))
        (pss_cons (ps_set (i := 2) scTake.nd rfl (.inl rfl) (pe_op op_mod (pe_ix ix_list (pv 0) pe_int (fun _ _ => rfl)) (pv 1)))
          (pss_cons (ps_asg (pe_op op_fdivW (pe_ix ix_list (pv 0) pe_int (fun _ _ => rfl)) (pv 1)) (pg_sub (pv 0) pe_int set_list)) (pss_one (ps_ret (pv 2))))) pss_nil)
      (pss_cons (ps_asg (pe_op op_mod (pe_op op_add (pe_op op_mul (pe_ix ix_list (pv 0) pe_int (fun _ _ => rfl)) pe_int) pe_int) pe_int) (pg_sub (pv 0) pe_int set_list))
      (pss_one (ps_ret (pe_op op_mod (pe_op op_fdiv (pe_ix ix_list (pv 0) pe_int (fun _ _ => rfl)) pe_int) (pv 1))))), ?_⟩
    have a0 : atI [V.int d, V.int st] 0 = some (.int d) := rfl
    have a1 : atI [V.int d, V.int st] 1 = some (.int st) := rfl
    refine ⟨.ref f, rfl, f, _, 0, .int d, rfl, rfl, SqL.of hf, a0, d, 0, rfl, rfl, _, rfl, ite2 (fun e => ?_) (fun e => ?_)⟩
    · have hd : d > 0 := of_decide_eq_true e
      refine ⟨.ref f, rfl, f, _, 0, .int d, rfl, rfl, SqL.of hf, a0, .int m, rfl, d, m, rfl, rfl, m0, ?_⟩
      refine ⟨.ref f, rfl, f, _, 0, .int d, rfl, rfl, SqL.of hf, a0, .int m, rfl, d, m, rfl, rfl, wide_div (b := 64) m0 (by omega) (by decide) (by decide), ?_⟩
      refine ⟨.ref f, rfl, f, _, 0, 0, rfl, rfl, hf, rfl, .int (d % m), rfl, ?_⟩
      refine q _ _ Ch.put ⟨d / m, st, Int.ediv_nonneg d0 (by omega), t0, t1, upd_same⟩ (Int.emod_nonneg _ (by omega)) (Int.emod_lt_of_pos _ m0)
    · refine ⟨.ref f, rfl, f, _, 1, .int st, rfl, rfl, SqL.of hf, a1, st, 742938285, rfl, rfl, .inr ⟨by decide, by decide⟩, _, _, rfl, rfl, _, _, rfl, rfl, by show (0 : Int) < 2305843009213693951; decide, ?_⟩
      refine ⟨.ref f, rfl, f, _, 1, 1, rfl, rfl, hf, rfl, ?_⟩
      refine ⟨.ref f, rfl, f, _, 1, _, rfl, rfl, SqL.of upd_same, rfl, _, 16777216, rfl, rfl, ⟨by decide, by decide⟩, .int m, rfl, _, m, rfl, rfl, m0, ?_⟩
      exact q _ _ Ch.put ⟨d, _, d0, Int.emod_nonneg _ (by decide), Int.emod_lt_of_pos _ (by decide), upd_same⟩ (Int.emod_nonneg _ (by omega)) (Int.emod_lt_of_pos _ m0)
def spPick (K : PySem.W.Frag) : Sp := fun vs H Q _ => ∃ (f c : Addr) (xs : List V), vs = [.ref f, .ref c] ∧ c ≠ f ∧ SqL K H c xs ∧ 0 < xs.length ∧ xs.length ≤ 1000 ∧ FeedAt H f ∧
  ∀ H' (j : Nat) v, xs[j]? = some v → Ch f H H' → FeedAt H' f → Q v H'
theorem ok_pick {f fT : Addr} {fd fdT : FuncData} {k : Nat} (F : Fun K "_law_pick" "_law_pick" sPick f fd) (FT : Fun K "_law_take" "_law_take" sTake fT fdT) (gT : mg "_law_take" = some (.ref fT)) (bT : Binds K fdT ["feed", "size"] []) (ml : mg "len" = none) :
    FnOk P w K mg base CX0 (k + 2) f fd ["feed", "options"] (spPick K) := by
  have GT : FnOk P w K mg base CX0 (k + 1) fT fdT ["feed", "size"] spTake := ok_take FT
  refine F.ok scPick (fun vs H Q E h => ?_) (fun cdv A outer s H vs Q E hr h => ?_)
  · obtain ⟨a, m, xs, rfl, _⟩ := h
    rfl
  · obtain ⟨f, c, xs, rfl, ncf, hS, l0, l1, hf, q⟩ := h
    refine ⟨_, pss_one (ps_ret (pe_ix ix_list (pv 1) (pe_call GT hr (by rfl) gT FT.kp bT .nil pass0 (pa_cons (pv 0) (pa_cons (pe_callB call_len_seq (by rfl) ml PySem.boot_len (pa_cons (pv 1) pa_nil)) pa_nil))) (fun _ _ => rfl))), ?_⟩
    refine ⟨.ref c, rfl, .ref f, rfl, .ref c, rfl, c, xs, rfl, .inl hS, f, _, rfl, by omega, by omega, hf, fun H' r ch fe r0 r1 => ?_⟩
    obtain ⟨j, rfl⟩ : ∃ j : Nat, r = (j : Int) := ⟨r.toNat, by omega⟩
    have hj : j < xs.length := by omega
    exact ⟨c, xs, _, xs[j], rfl, rfl, ch.seq ncf hS, atI_nat (List.getElem?_eq_getElem hj), q H' j _ (List.getElem?_eq_getElem hj) ch fe⟩
end
end KD

/-! the program's turning points and swings -/
namespace PA
open PySem PySem.Spec PyProof.Rows L2 KA PH PM
abbrev sCont : Stmt := topS 999
abbrev sRng : Stmt := topS 2
abbrev sTP : Stmt := topS 3
abbrev sBtw : Stmt := topS 5
abbrev sLO : Stmt := topS 4
abbrev sSw : Stmt := topS 6
theorem scRng : FnScope ["one", "other"] ["one", "other"] (defScope sRng) := ⟨rfl, rfl, rfl, by decide +kernel, rfl, by decide +kernel, by decide +kernel⟩
theorem scTP : FnScope ["load", "points", "reading"] ["load"] (defScope sTP) := ⟨rfl, rfl, rfl, by decide +kernel, rfl, by decide +kernel, by decide +kernel⟩
theorem scLO : FnScope ["points", "reading", "last"] ["points", "reading"] (defScope sLO) := ⟨rfl, rfl, rfl, by decide +kernel, rfl, by decide +kernel, by decide +kernel⟩
theorem scBtw : FnScope ["reading", "before", "after"] ["reading", "before", "after"] (defScope sBtw) := ⟨rfl, rfl, rfl, by decide +kernel, rfl, by decide +kernel, by decide +kernel⟩
theorem scSw : FnScope ["load", "points", "one", "other"] ["load"] (defScope sSw) := ⟨rfl, rfl, rfl, by decide +kernel, rfl, by decide +kernel, by decide +kernel⟩
section
variable {P : Program} {w : World} {K : PySem.W.Frag} {mg : Str → Option Value} {base : Heap}
def spCont (K : PySem.W.Frag) : Sp := fun vs H Q _ => ∃ (p q : Addr) (a b c d : Int), vs = [.ref p, .ref q] ∧ SqT K H p [.int a, .int b] ∧ SqT K H q [.int c, .int d] ∧ Q (.bl (decide (a ≤ c) && decide (d ≤ b))) H
def spRng : Sp := fun vs H Q _ => ∃ (a b : Int), vs = [.int a, .int b] ∧ ∀ p, H p = none → Q (.ref p) (upd H p (.tup [.int (rg a b).1, .int (rg a b).2]))
theorem ok_Rng {f : Addr} {fd : FuncData} {k : Nat} (F : Fun K "range_of" "range_of" sRng f fd) (mn : mg "min" = none) (mx : mg "max" = none) : FnOk P w K mg base CX0 (k + 1) f fd ["one", "other"] spRng := by
  refine F.ok scRng (fun vs H Q E h => ?_) (fun cdv A outer s H vs Q E hr h => ?_)
  · obtain ⟨a, b, rfl, _⟩ := h
    rfl
  · obtain ⟨a, b, rfl, hq⟩ := h
    refine ⟨_, pss_one (ps_ret (pe_tup (pa_cons (pe_callB (call_min2 rfl) (by rfl) mn (by decide +kernel) (pa_cons (pv 0) (pa_cons (pv 1) pa_nil))) (pa_cons (pe_callB (call_max2 rfl) (by rfl) mx (by decide +kernel) (pa_cons (pv 0) (pa_cons (pv 1) pa_nil))) pa_nil)))), ?_⟩
    exact ⟨.int a, rfl, .int b, rfl, a, b, rfl, .int a, rfl, .int b, rfl, a, b, rfl, by show 2 ≤ sizeLine; decide, fun p np => hq p np⟩
def spBtw : Sp := fun vs H Q _ => ∃ (r b a : Int), vs = [.int r, .int b, .int a] ∧ Q (.bl (decide (Btw r b a))) H
theorem ok_btw {f : Addr} {fd : FuncData} {k : Nat} (F : Fun K "_lies_between" "_lies_between" sBtw f fd) : FnOk P w K mg base CX0 (k + 1) f fd ["reading", "before", "after"] spBtw := by
  refine F.ok scBtw (fun vs H Q E h => ?_) (fun cdv A outer s H vs Q E hr h => ?_)
  · obtain ⟨r, b, a, rfl, _⟩ := h
    rfl
  · obtain ⟨r, b, a, rfl, hq⟩ := h
    refine ⟨_, pss_one (ps_ret (pe_or (pe_chain op_lt op_lt (pv 1) (pv 0) (pv 2)) (pe_one (pe_chain op_lt op_lt (pv 2) (pv 0) (pv 1))))), ?_⟩
    refine ⟨.int b, rfl, .int r, rfl, b, r, rfl, rfl, _, rfl, ?_⟩
    have second : ¬ (b < r ∧ r < a) → tOrV (fun _ H Q => Q (.bl false) H) (tChain (fun x y H Q => ∃ i j, x = .int i ∧ y = .int j ∧ Q (.bl (decide (i < j))) H) (fun x y H Q => ∃ i j, x = .int i ∧ y = .int j ∧ Q (.bl (decide (i < j))) H) (tVar 2) (tVar 0) (tVar 1)) [some (.int r), some (.int b), some (.int a)] H Q := by
      intro hn
      refine ⟨false, rfl, iteF ⟨.int a, rfl, .int r, rfl, a, r, rfl, rfl, _, rfl, ?_⟩⟩
      by_cases e : a < r
      · rw [decide_eq_true e]
        refine iteT ⟨.int b, rfl, r, b, rfl, rfl, ?_⟩
        have e2 : decide (Btw r b a) = decide (r < b) := by rw [decide_eq_decide]; omega
        rw [e2] at hq
        exact hq
      · rw [decide_eq_false e]
        have e2 : decide (Btw r b a) = false := decide_eq_false (by omega)
        rw [e2] at hq
        exact iteF hq
    by_cases e : b < r
    · rw [decide_eq_true e]
      refine iteT ⟨.int a, rfl, r, a, rfl, rfl, _, rfl, ?_⟩
      by_cases e2 : r < a
      · rw [decide_eq_true e2]
        have e3 : decide (Btw r b a) = true := decide_eq_true (.inl ⟨e, e2⟩)
        rw [e3] at hq
        exact iteT hq
      · rw [decide_eq_false e2]
        obtain ⟨_, h1, h2⟩ := second (fun z => e2 z.2)
        cases h1
        exact h2
    · rw [decide_eq_false e]
      obtain ⟨_, h1, h2⟩ := second (fun z => e z.1)
      cases h1
      exact iteF ⟨false, rfl, h2⟩
end
end PA

/-! places, sorted pairs, the stack's turns -/
namespace RN
open PM RM
def takenAt (ps : List Int) (i : Nat) : Bool := match ps.drop i with
  | a :: b :: c :: d :: _ => decide (Taken a b c d)
  | _ => false
theorem taken_here {ps : List Int} {i : Nat} (h : takenAt ps i = true) : ∃ pre a b c d post, ps = pre ++ a :: b :: c :: d :: post ∧ pre.length = i ∧ Taken a b c d := by
  unfold takenAt at h
  split at h
  · rename_i a b c d post e
    refine ⟨ps.take i, a, b, c, d, post, by rw [← e, List.take_append_drop], ?_, of_decide_eq_true h⟩
    have : (ps.drop i).length = post.length + 4 := by rw [e]; simp
    rw [List.length_drop] at this
    rw [List.length_take]
    omega
  · cases h
theorem taken_get {ps : List Int} {i : Nat} {a b c d : Int} (h0 : ps[i]? = some a) (h1 : ps[i + 1]? = some b) (h2 : ps[i + 2]? = some c) (h3 : ps[i + 3]? = some d) : takenAt ps i = decide (Taken a b c d) := by
  have e : ∀ {j : Nat} {r : Int}, ps[j]? = some r → ps.drop j = r :: ps.drop (j + 1) := fun {j r} h => by
    obtain ⟨k1, k2⟩ := List.getElem?_eq_some_iff.mp h
    rw [List.drop_eq_getElem_cons k1, k2]
  unfold takenAt
  rw [e h0, e h1, e h2, e h3]
theorem taken_lt {ps : List Int} {i : Nat} (h : takenAt ps i = true) : i < ps.length - 3 := by
  obtain ⟨pre, a, b, c, d, post, e, hl, _⟩ := taken_here h
  rw [e]
  simp only [List.length_append, List.length_cons]
  omega
theorem step_at {ps q : List Int} {cy : Int × Int} (h : Step ps cy q) : ∃ i, takenAt ps i = true := by
  induction h with
  | here t => exact ⟨0, decide_eq_true t⟩
  | there _ ih =>
    obtain ⟨i, e⟩ := ih
    exact ⟨i + 1, e⟩
def plc (ps : List Int) : List Int := ((List.range (ps.length - 3)).filter (takenAt ps)).map fun (i : Nat) => (i : Int) + 1
theorem plc_mem {ps : List Int} {x : Int} (h : x ∈ plc ps) : ∃ i : Nat, x = (i : Int) + 1 ∧ takenAt ps i = true := by
  obtain ⟨i, hi, e⟩ := List.mem_map.mp h
  exact ⟨i, e.symm, (List.mem_filter.mp hi).2⟩
theorem nf_of_plc {ps : List Int} (h : plc ps = []) : NF ps := by
  intro c q s
  obtain ⟨i, e⟩ := step_at s
  have : (i : Int) + 1 ∈ plc ps := List.mem_map.mpr ⟨i, List.mem_filter.mpr ⟨List.mem_range.mpr (taken_lt e), e⟩, rfl⟩
  rw [h] at this
  cases this
theorem plc_of_nf {ps : List Int} (h : NF ps) : plc ps = [] := by
  cases e : plc ps with
  | nil => rfl
  | cons x l =>
    have hx : x ∈ plc ps := by rw [e]; exact List.mem_cons_self
    obtain ⟨i, _, t⟩ := plc_mem hx
    obtain ⟨pre, a, b, c, d, post, e2, _, tk⟩ := taken_here t
    rw [e2] at h
    exact absurd ((Step.here tk).prefix pre) (h _ _)
theorem Run.suffix {p q : List Int} {cs : List (Int × Int)} (h : Run p cs q) (l : List Int) : Run (p ++ l) cs (q ++ l) := by
  induction h with
  | nil p => exact .nil _
  | cons s _ ih => exact .cons (s.suffix l) ih
theorem Run.ends {p r : List Int} {cs : List (Int × Int)} (h : Run p cs r) : (cs = [] ∧ p = r) ∨ 2 ≤ r.length := by
  induction h with
  | nil p => exact .inl ⟨rfl, rfl⟩
  | @cons p q r c cs s h ih =>
    refine .inr ?_
    rcases ih with ⟨_, e⟩ | e
    · subst e
      have : ∀ {p q : List Int} {c : Int × Int}, Step p c q → 2 ≤ q.length := by
        intro p q c s
        induction s with
        | here _ => simp only [List.length_cons]; omega
        | there _ ih => simp only [List.length_cons]; omega
      exact this s
    · exact e
theorem tq_zig : ∀ (l : List Int) (b a : Int), ZZ (b :: a :: l) → tq b a l = a :: l
  | [], _, _, _ => rfl
  | r :: l, b, a, z => by
    have h1 := z.1
    simp only [tq]
    rw [if_neg (by omega), if_neg (by omega), tq_zig l a r z.2]
theorem zz_tp {ps : List Int} (z : ZZ ps) : tp ps = ps := by
  match ps, z with
  | [], _ => rfl
  | [x], _ => rfl
  | x :: y :: l, z =>
    show ts x (y :: l) = _
    simp only [ts]
    rw [if_neg (zz_cons z), tq_zig l x y z]
/-- pairs in their order -/
abbrev Le (r s : Int × Int) : Prop := r.1 < s.1 ∨ (r.1 = s.1 ∧ r.2 ≤ s.2)
theorem le_anti {r s : Int × Int} (h1 : Le r s) (h2 : Le s r) : r = s := by
  obtain ⟨a, b⟩ := r
  obtain ⟨c, d⟩ := s
  have e1 : a = c := by simp only [Le] at h1 h2; omega
  have e2 : b = d := by simp only [Le] at h1 h2; omega
  rw [e1, e2]
theorem sorted_same : ∀ {l m : List (Int × Int)}, l.Perm m → l.Pairwise Le → m.Pairwise Le → l = m
  | [], m, h, _, _ => (List.Perm.nil_eq h)
  | x :: l, m, h, h1, h2 => by
    cases m with
    | nil => exact absurd h.length_eq (by simp)
    | cons y m =>
      have hx := List.pairwise_cons.mp h1
      have hy := List.pairwise_cons.mp h2
      have e : x = y := by
        have m1 : x ∈ y :: m := h.mem_iff.mp List.mem_cons_self
        have m2 : y ∈ x :: l := h.mem_iff.mpr List.mem_cons_self
        rcases List.mem_cons.mp m1 with e | e
        · exact e
        · rcases List.mem_cons.mp m2 with e' | e'
          · exact e'.symm
          · exact le_anti (hx.1 y e') (hy.1 x e)
      subst e
      rw [sorted_same ((List.perm_cons x).mp h) hx.2 hy.2]
end RN

/-! readings put behind a rest one by one -/
namespace RS
open PM RM RN
/-- the last of some points is none any more with a reading behind it -/
def lo : List Int → Int → Bool
  | [], _ => false
  | [u], r => decide (u = r)
  | [b, u], r => decide (u = r) || decide (Btw u b r)
  | _ :: u :: v :: t, r => lo (u :: v :: t) r
def push : List Int → Int → List Int
  | [], r => [r]
  | [u], r => if u = r then [r] else [u, r]
  | [b, u], r => if u = r ∨ Btw u b r then [b, r] else [b, u, r]
  | b :: u :: v :: t, r => b :: push (u :: v :: t) r
theorem lo_two : ∀ (dn : List Int) (b u r : Int), lo (dn ++ [b, u]) r = (decide (u = r) || decide (Btw u b r))
  | [], _, _, _ => rfl
  | [x], _, _, _ => rfl
  | x :: y :: dn, b, u, r => by
    have h := lo_two (y :: dn) b u r
    cases dn with
    | nil => exact h
    | cons z dn => exact h
theorem push_lo : ∀ (p : List Int) (r : Int), push p r = (if lo p r = true then p.dropLast else p) ++ [r]
  | [], _ => rfl
  | [u], r => by
    simp only [push, lo, decide_eq_true_eq]
    split <;> simp
  | [b, u], r => by
    simp only [push, lo, Bool.or_eq_true, decide_eq_true_eq]
    split <;> simp
  | b :: u :: v :: t, r => by
    have h := push_lo (u :: v :: t) r
    simp only [push, lo]
    rw [h]
    by_cases e : lo (u :: v :: t) r = true
    · simp [e]
    · simp [e]
theorem push_two (dn : List Int) (b u r : Int) : push (dn ++ [b, u]) r = if u = r ∨ Btw u b r then dn ++ [b, r] else dn ++ [b, u, r] := by
  rw [push_lo, lo_two]
  simp only [Bool.or_eq_true, decide_eq_true_eq]
  split
  · rw [show dn ++ [b, u] = (dn ++ [b]) ++ [u] by simp, List.dropLast_concat]; simp
  · simp
theorem push_cons (b : Int) : ∀ {p : List Int} (r : Int), 2 ≤ p.length → push (b :: p) r = b :: push p r
  | [], _, h => by simp at h
  | [_], _, h => by simp at h
  | _ :: _ :: _, _, _ => rfl
theorem tq_ne (b a : Int) : ∀ l, 1 ≤ (tq b a l).length
  | [] => Nat.le_refl _
  | r :: l => by
    simp only [tq]
    split
    · exact tq_ne b a l
    · split
      · exact tq_ne b r l
      · simp
theorem tq_push : ∀ (l : List Int) (b a r : Int), b :: tq b a (l ++ [r]) = push (b :: tq b a l) r
  | [], b, a, r => by
    show b :: tq b a [r] = push [b, a] r
    simp only [tq, push]
    by_cases e : a = r
    · rw [if_pos e, if_pos (Or.inl e), e]
    · rw [if_neg e]
      by_cases bt : Btw a b r
      · rw [if_pos bt, if_pos (Or.inr bt)]
      · rw [if_neg bt, if_neg (fun z => z.elim e bt)]
  | x :: l, b, a, r => by
    simp only [List.cons_append, tq]
    by_cases e : a = x
    · rw [if_pos e, if_pos e]
      exact tq_push l b a r
    · rw [if_neg e, if_neg e]
      by_cases bt : Btw a b x
      · rw [if_pos bt, if_pos bt]
        exact tq_push l b x r
      · rw [if_neg bt, if_neg bt, tq_push l a x r, push_cons b r (by have := tq_ne a x l; simp; omega)]
theorem ts_push : ∀ (l : List Int) (a r : Int), ts a (l ++ [r]) = push (ts a l) r
  | [], a, r => by
    show ts a [r] = push [a] r
    simp only [ts, push]
    by_cases e : a = r
    · rw [if_pos e, if_pos e, e]
    · rw [if_neg e, if_neg e]
      rfl
  | x :: l, a, r => by
    simp only [List.cons_append, ts]
    by_cases e : a = x
    · rw [if_pos e, if_pos e]
      exact ts_push l a r
    · rw [if_neg e, if_neg e]
      exact tq_push l a x r
theorem tp_push (l : List Int) (r : Int) : tp (l ++ [r]) = push (tp l) r := by
  cases l with
  | nil => rfl
  | cons a l => exact ts_push l a r
theorem tp_take {ns : List Int} {i : Nat} {r : Int} (h : ns[i]? = some r) : tp (ns.take (i + 1)) = push (tp (ns.take i)) r := by
  rw [List.take_add_one, h]
  exact tp_push _ _
/-- with points that go up and down, so they go on -/
theorem zz_push {p : List Int} (r : Int) (h : ZZ p) : ZZ (push p r) := by
  have e := tp_push p r
  rw [zz_tp h] at e
  rw [← e]
  exact tp_zz _
theorem taken_abs {a b c d : Int} (h : ZZ (a :: b :: c :: d :: [])) : Taken a b c d ↔ (((b - a).natAbs : Int) ≥ ((c - b).natAbs : Int) ∧ ((d - c).natAbs : Int) ≥ ((c - b).natAbs : Int)) := by
  rw [taken_iff h]
  have h1 := h.1
  have h2 := h.2.1
  omega
theorem zz_at {ps : List Int} : ZZ ps → ∀ {i : Nat} {a b c d : Int}, ps[i]? = some a → ps[i + 1]? = some b → ps[i + 2]? = some c → ps[i + 3]? = some d → ZZ [a, b, c, d] := by
  intro h
  induction ps with
  | nil => intro i a b c d h0; cases h0
  | cons x p ih =>
    intro i a b c d h0 h1 h2 h3
    cases i with
    | succ i => exact ih h.tail h0 h1 h2 h3
    | zero =>
      match p, h, h1, h2, h3 with
      | y :: z :: u :: t, h, h1, h2, h3 =>
        obtain rfl := Option.some.inj h0
        obtain rfl := Option.some.inj h1
        obtain rfl := Option.some.inj h2
        obtain rfl := Option.some.inj h3
        exact h.four
theorem zz_mid {pre : List Int} {a b c d : Int} {post : List Int} (h : ZZ (pre ++ a :: b :: c :: d :: post)) : ZZ [a, b, c, d] := by
  induction pre with
  | nil => exact h.four
  | cons x p ih => exact ih h.tail
theorem zz_mid3 {pre : List Int} {a b c : Int} {post : List Int} (h : ZZ (pre ++ a :: b :: c :: post)) : ((a < b ∧ c < b) ∨ (b < a ∧ b < c)) := by
  induction pre with
  | nil => exact h.1
  | cons x p ih => exact ih h.tail
theorem step_on {p q : List Int} {cy : Int × Int} (s : Step p cy q) : ∀ {m : List Int} {b u : Int}, p = m ++ [b, u] → ZZ p →
    ∃ m' b', q = m' ++ [b', u] ∧ (b < u ↔ b' < u) ∧ (u < b ↔ u < b') ∧ ∀ r, (b < u → u ≤ r) → (u < b → r ≤ u) → Step (m ++ [b, r]) cy (m' ++ [b', r]) := by
  induction s with
  | @here a b1 c d post t =>
    intro m b u e z
    have ti := (taken_iff z.four).mp t
    rcases List.eq_nil_or_concat post with rfl | ⟨post1, y, rfl⟩
    · have e2 : [a, b1] ++ [c, d] = m ++ [b, u] := e
      obtain ⟨rfl, e4⟩ := List.append_inj' e2 rfl
      injection e4 with e5 e6
      injection e6 with e6 _
      subst e5 e6
      refine ⟨[], a, rfl, by omega, by omega, fun r h1 h2 => ?_⟩
      have zr : ZZ [a, b1, c, r] := ⟨z.1, by have := z.2.1; constructor; have := z.1; omega; show c ≠ r; omega⟩
      exact .here ((taken_iff zr).mpr (by omega))
    · rcases List.eq_nil_or_concat post1 with rfl | ⟨post2, x, rfl⟩
      · have e2 : [a, b1, c] ++ [d, y] = m ++ [b, u] := e
        obtain ⟨rfl, e4⟩ := List.append_inj' e2 rfl
        injection e4 with e5 e6
        injection e6 with e6 _
        subst e5 e6
        exact ⟨[a], d, rfl, Iff.rfl, Iff.rfl, fun r _ _ => .here t⟩
      · have e2 : (a :: b1 :: c :: d :: post2) ++ [x, y] = m ++ [b, u] := by rw [← e]; simp
        obtain ⟨rfl, e4⟩ := List.append_inj' e2 rfl
        injection e4 with e5 e6
        injection e6 with e6 _
        subst e5 e6
        exact ⟨a :: d :: post2, x, by simp, Iff.rfl, Iff.rfl, fun r _ _ => .here t⟩
  | @there x p q cy s ih =>
    intro m b u e z
    cases m with
    | nil =>
      have hl := s.len
      injection e with _ e
      rw [e] at hl
      simp at hl
    | cons y m =>
      injection e with e1 e2
      subst e1
      obtain ⟨m', b', h1, h2, h3, h4⟩ := ih e2 z.tail
      exact ⟨x :: m', b', by rw [h1]; rfl, h2, h3, fun r k1 k2 => .there (h4 r k1 k2)⟩
theorem run_on {p q : List Int} {cs : List (Int × Int)} (h : Run p cs q) : ∀ {m : List Int} {b u : Int}, p = m ++ [b, u] → ZZ p →
    ∃ m' b', q = m' ++ [b', u] ∧ (b < u ↔ b' < u) ∧ (u < b ↔ u < b') ∧ ∀ r, (b < u → u ≤ r) → (u < b → r ≤ u) → Run (m ++ [b, r]) cs (m' ++ [b', r]) := by
  induction h with
  | nil p => exact fun {m b u} e z => ⟨m, b, e, Iff.rfl, Iff.rfl, fun r _ _ => .nil _⟩
  | @cons p q r0 c cs s run ih =>
    intro m b u e z
    obtain ⟨m1, b1, h1, h2, h3, h4⟩ := step_on s e z
    obtain ⟨m2, b2, k1, k2, k3, k4⟩ := ih h1 (ZZ.step s z)
    exact ⟨m2, b2, k1, h2.trans k2, h3.trans k3, fun r j1 j2 => .cons (h4 r j1 j2) (k4 r (fun z => j1 (h2.mpr z)) (fun z => j2 (h3.mpr z)))⟩
theorem step_two {p q : List Int} {c : Int × Int} (s : Step p c q) : 2 ≤ q.length := by
  induction s with
  | here _ => simp only [List.length_cons]; omega
  | there _ ih => simp only [List.length_cons]; omega
theorem two_last {p : List Int} (h : 2 ≤ p.length) : ∃ m b u, p = m ++ [b, u] := by
  rcases List.eq_nil_or_concat p with rfl | ⟨m1, d, rfl⟩
  · simp at h
  · rcases List.eq_nil_or_concat m1 with rfl | ⟨m2, c, rfl⟩
    · simp at h
    · exact ⟨m2, c, d, by simp⟩
/-- a reading behind a load is a reading behind its rest -/
theorem run_push {p q : List Int} {cs : List (Int × Int)} (h : Run p cs q) (z : ZZ p) (r : Int) : Run (push p r) cs (push q r) := by
  by_cases h2 : 2 ≤ p.length
  · obtain ⟨m, b, u, rfl⟩ := two_last h2
    obtain ⟨m', b', rfl, e1, e2, e3⟩ := run_on h rfl z
    rw [push_two, push_two]
    by_cases hb : u = r ∨ Btw u b r
    · have hb' : u = r ∨ Btw u b' r := hb.imp id (fun k => by omega)
      rw [if_pos hb, if_pos hb']
      exact e3 r (fun k => by omega) (fun k => by omega)
    · have hb' : ¬ (u = r ∨ Btw u b' r) := fun k => hb (k.imp id (fun k => by omega))
      rw [if_neg hb, if_neg hb']
      have := RN.Run.suffix h [r]
      simpa using this
  · cases h with
    | nil _ => exact .nil _
    | cons s _ =>
      have := s.len
      have := step_two s
      exact absurd (show 2 ≤ p.length by omega) h2
theorem Run.append {p q r : List Int} {cs ds : List (Int × Int)} (h : Run p cs q) (k : Run q ds r) : Run p (cs ++ ds) r := by
  induction h with
  | nil p => exact k
  | cons s _ ih => exact .cons s (ih k)
/-- one reading more -/
theorem stream {ns : List Int} {i : Nat} {r : Int} {cs cs2 : List (Int × Int)} {rs rs2 : List Int} (hr : ns[i]? = some r) (h : Run (tp (ns.take i)) cs rs) (k : Run (push rs r) cs2 rs2) : Run (tp (ns.take (i + 1))) (cs ++ cs2) rs2 := by
  rw [tp_take hr]
  exact Run.append (run_push h (tp_zz _) r) k
theorem push_len (p : List Int) (r : Int) : (push p r).length ≤ p.length + 1 := by
  rw [push_lo]
  split <;> simp
end RS

/-! turning_points, swings -/
namespace PB
open PySem PySem.Spec PyProof.Rows L2 KA PH PM PA RM RS
theorem atI_last2 (xs : List V) (u v : V) : atI (xs ++ [u] ++ [v]) (-2) = some u := by
  have hl : (xs ++ [u] ++ [v]).length = xs.length + 2 := by simp
  have h : ixN (xs ++ [u] ++ [v]).length (-2) = some xs.length := by
    unfold ixN
    rw [hl, if_neg (by decide), if_pos (by omega)]
    congr 1
    omega
  unfold atI
  rw [h]
  show (xs ++ [u] ++ [v])[xs.length]? = some u
  simp
theorem drop_at {ns : List Int} {i : Nat} {r : Int} (h : ns[i]? = some r) : ns.drop i = r :: ns.drop (i + 1) := by
  obtain ⟨h1, h2⟩ := List.getElem?_eq_some_iff.mp h
  rw [List.drop_eq_getElem_cons h1, h2]
section
variable {P : Program} {w : World} {K : PySem.W.Frag} {mg : Str → Option Value} {base : Heap}
def spTPl (K : PySem.W.Frag) : Sp := fun vs H Q _ => ∃ (a : Addr) (ns : List Int), vs = [.ref a] ∧ SqL K H a (ns.map V.int) ∧ ns.length ≤ 2500 ∧ ∀ H' p, Same H H' → H p = none → H' p = some (.tup ((tp ns).map V.int)) → Q (.ref p) H'
def spTPt (K : PySem.W.Frag) : Sp := fun vs H Q _ => ∃ (a : Addr) (ns : List Int), vs = [.ref a] ∧ SqT K H a (ns.map V.int) ∧ ns.length ≤ 2500 ∧ ∀ H' p, Same H H' → H p = none → H' p = some (.tup ((tp ns).map V.int)) → Q (.ref p) H'
abbrev spTP (K : PySem.W.Frag) : Sp := fun vs H Q E => spTPl K vs H Q E ∨ spTPt K vs H Q E
def spLO (K : PySem.W.Frag) : Sp := fun vs H Q _ => ∃ (a : Addr) (ps : List Int) (r : Int), vs = [.ref a, .int r] ∧ SqL K H a (ps.map V.int) ∧ Q (.bl (lo ps r)) H
theorem ends3 (ps : List Int) : ps = [] ∨ (∃ u, ps = [u]) ∨ ∃ dn b u, ps = dn ++ [b, u] := by
  rcases List.eq_nil_or_concat ps with h | ⟨m1, d, h⟩
  · exact .inl h
  · rcases List.eq_nil_or_concat m1 with h1 | ⟨m2, c, h1⟩
    · subst h1
      exact .inr (.inl ⟨d, by rw [h]; rfl⟩)
    · subst h1
      exact .inr (.inr ⟨m2, c, d, by rw [h]; simp⟩)
theorem ok_LO {f fB : Addr} {fd fdB : FuncData} {k : Nat} (F : Fun K "is_left_out" "is_left_out" sLO f fd) (FB : Fun K "_lies_between" "_lies_between" sBtw fB fdB) (gB : mg "_lies_between" = some (.ref fB)) (bB : Binds K fdB ["reading", "before", "after"] [])
    (ml : mg "len" = none) : FnOk P w K mg base CX0 (k + 2) f fd ["points", "reading"] (spLO K) := by
  have GB : FnOk P w K mg base CX0 (k + 1) fB fdB ["reading", "before", "after"] spBtw := ok_btw FB
  refine F.ok scLO (fun vs H Q E h => ?_) (fun cdv A outer s H vs Q E hr h => ?_)
  · obtain ⟨a, ps, r, rfl, _⟩ := h
    rfl
  · obtain ⟨a, ps, r, rfl, hS, hq⟩ := h
    refine ⟨_, pss_cons (ps_if (pt_not (pt_truth (pv 0) (by intro _; rfl))) (pss_one (ps_ret pe_bl)) pss_nil)
      (pss_cons (ps_set (i := 2) scLO.nd rfl (.inl rfl) (pe_ix ix_list (pv 0) (pe_un un_neg pe_int) (fun _ _ => rfl)))
      (pss_one (ps_ret (pe_or (pe_cmpR op_eq (pv 2) (pv 1) (nomark _)) (pe_one (pe_and (pe_cmpR op_gt (pe_callB call_len_seq (by rfl) ml PySem.boot_len (pa_cons (pv 0) pa_nil)) pe_int (nomark _))
        (pe_one (pe_call GB hr (by rfl) gB FB.kp bB .nil pass0 (pa_cons (pv 2) (pa_cons (pe_ix ix_list (pv 0) (pe_un un_neg pe_int) (fun _ _ => rfl)) (pa_cons (pv 1) pa_nil))))))))))), ?_⟩
    rcases ends3 ps with rfl | ⟨u, rfl⟩ | ⟨dn, b, u, rfl⟩
    · refine ⟨.ref a, rfl, false, .inl ⟨[], hS, rfl⟩, ?_⟩
      refine iteT ?_
      exact hq
    · refine ⟨.ref a, rfl, true, .inl ⟨[.int u], hS, rfl⟩, ?_⟩
      refine iteF ?_
      refine ⟨.ref a, rfl, 1, rfl, a, _, -1, .int u, rfl, rfl, hS, rfl, .int u, rfl, .int r, rfl, rfl, _, rfl, ?_⟩
      by_cases e : u = r
      · rw [show lo [u] r = true from decide_eq_true e] at hq
        rw [decide_eq_true (show V.int u = V.int r by rw [e])]
        exact iteT hq
      · rw [show lo [u] r = false from decide_eq_false e] at hq
        rw [decide_eq_false (show ¬ V.int u = V.int r from fun z => e (V.int.inj z))]
        exact iteF ⟨.ref a, rfl, a, _, rfl, .inl hS, _, _, rfl, rfl, _, rfl, iteF hq⟩
    · have em : ((dn ++ [b, u]).map V.int) = (dn.map V.int ++ [V.int b]) ++ [V.int u] := by simp
      rw [em] at hS
      have e0 : (!((dn.map V.int ++ [V.int b]) ++ [V.int u]).isEmpty) = true := by cases dn <;> rfl
      have hL : ((dn.map V.int ++ [V.int b]) ++ [V.int u]).length = dn.length + 2 := by simp
      rw [lo_two] at hq
      refine ⟨.ref a, rfl, true, .inl ⟨_, hS, e0.symm⟩, ?_⟩
      refine iteF ?_
      refine ⟨.ref a, rfl, 1, rfl, a, _, -1, .int u, rfl, rfl, hS, atI_last _ _, .int u, rfl, .int r, rfl, rfl, _, rfl, ?_⟩
      by_cases e : u = r
      · rw [decide_eq_true e, Bool.true_or] at hq
        rw [decide_eq_true (show V.int u = V.int r by rw [e])]
        exact iteT hq
      · rw [decide_eq_false e, Bool.false_or] at hq
        rw [decide_eq_false (show ¬ V.int u = V.int r from fun z => e (V.int.inj z))]
        have h2 : decide ((((dn.map V.int ++ [V.int b]) ++ [V.int u]).length : Int) > 1) = true := decide_eq_true (by rw [hL]; omega)
        refine iteF ⟨.ref a, rfl, a, _, rfl, .inl hS, _, _, rfl, rfl, _, rfl, ?_⟩
        rw [h2]
        exact iteT ⟨.int u, rfl, .ref a, rfl, 2, rfl, a, _, -2, .int b, rfl, rfl, hS, atI_last2 _ _ _, .int r, rfl, u, b, r, rfl, hq⟩
theorem ok_TPl {f fL : Addr} {fd fdL : FuncData} {k : Nat} (F : Fun K "turning_points" "turning_points" sTP f fd) (GL : FnOk P w K mg base CX0 (k + 2) fL fdL ["points", "reading"] (spLO K)) (gL : mg "is_left_out" = some (.ref fL)) (kL : PySem.W.keepIn K (.ref fL) = true) (bL : Binds K fdL ["points", "reading"] [])
    (mt : mg "tuple" = none) : FnOk P w K mg base CX0 (k + 3) f fd ["load"] (spTPl K) := by
  refine F.ok scTP (fun vs H Q E h => ?_) (fun cdv A outer s H vs Q E hr h => ?_)
  · obtain ⟨a, ns, rfl, _⟩ := h
    rfl
  · obtain ⟨a, ns, rfl, hS, hlen, hq⟩ := h
    refine ⟨_, pss_cons (ps_set (i := 1) scTP.nd rfl (.inl rfl) (pe_lst pa_nil))
      (pss_cons (ps_for PassesOwn.never rfl (pi_list (pv 0)) (pg_name (i := 2) scTP.nd rfl (.inl rfl))
        (pss_cons (ps_if (pt_val (pe_call GL hr (by rfl) gL kL bL .nil pass0 (pa_cons (pv 1) (pa_cons (pv 2) pa_nil))))
              (pss_one (ps_expr (pe_bm0 PySem.F.plainAttrs_list PySem.F.slot_list_pop PySem.F.type_list_pop mt_pop (pv 1)))) pss_nil)
            (pss_one (ps_expr (pe_bm PySem.F.plainAttrs_list PySem.F.slot_list_append PySem.F.type_list_append mt_append (pv 1) (pa_cons (pv 2) pa_nil))))))
      (pss_one (ps_ret (pe_callTy call_tuple_of (by rfl) mt (by decide +kernel) (pa_cons (pv 1) pa_nil))))), ?_⟩
    refine ⟨Nat.zero_le _, fun D nD => ?_⟩
    have sm : ∀ o, Same H (upd H D o) := fun o => same_new nD
    refine ⟨.ref a, rfl, a, rfl, ⟨_, (sm _).seq hS⟩, for_list (K := K) (a := a) (xs := ns.map V.int)
      (fun i σ H' => ∃ (r2 : Option V), σ = [some (.ref a), some (.ref D), r2] ∧ H' = upd H D (.lst ((tp (ns.take i)).map V.int)) ∧ (tp (ns.take i)).length ≤ i) ?_ ?_ ?_ ?_⟩
    · exact ⟨none, rfl, rfl, Nat.le_refl _⟩
    · rintro i σ H' _ ⟨r2, rfl, rfl, _⟩
      exact (sm _).seq hS
    · rintro i x σ H' hx ⟨r2, rfl, rfl, hpl⟩
      obtain ⟨r, hr2, rfl⟩ := int_at hx
      have hin : i < ns.length := (List.getElem?_eq_some_iff.mp hr2).1
      rw [tp_take hr2]
      generalize tp (ns.take i) = ps at hpl ⊢
      have hpl2 := Nat.le_trans (push_len ps r) (Nat.succ_le_succ hpl)
      refine ⟨.ref D, rfl, .int r, rfl, D, ps, r, rfl, SqL.of upd_same, _, rfl, ?_⟩
      have hp := push_lo ps r
      cases hl : lo ps r with
      | true =>
        rw [hl, if_pos rfl] at hp
        have hne : ps ≠ [] := fun z => by rw [z] at hl; cases hl
        obtain ⟨ps', u, rfl⟩ : ∃ ps' u, ps = ps' ++ [u] := by
          rcases List.eq_nil_or_concat ps with h | ⟨m1, d, h⟩
          · exact absurd h hne
          · exact ⟨m1, d, by rw [h]; simp⟩
        rw [List.dropLast_concat] at hp
        have em : (ps' ++ [u]).map V.int = ps'.map V.int ++ [V.int u] := by simp
        have hl' : (ps' ++ [u]).length = ps'.length + 1 := by simp
        refine iteT ⟨.ref D, rfl, .inl ⟨rfl, _, SqL.of upd_same⟩, D, ps'.map V.int ++ [V.int u], .int u, rfl, rfl, by rw [upd_same, em], by simp, ?_⟩
        refine ⟨.ref D, rfl, .inl ⟨rfl, _, SqL.of upd_same⟩, .int r, rfl, D, ps'.map V.int, _, rfl, rfl, by rw [upd_same, List.dropLast_concat], by rw [List.length_map]; exact small3000 (by omega), _, rfl, ?_, hpl2⟩
        rw [upd_upd, upd_upd, hp, List.map_append]
        rfl
      | false =>
        rw [hl, if_neg (by decide)] at hp
        refine iteF ?_
        refine ⟨.ref D, rfl, .inl ⟨rfl, _, SqL.of upd_same⟩, .int r, rfl, D, _, _, rfl, rfl, upd_same, by rw [List.length_map]; exact small3000 (by omega), _, rfl, ?_, hpl2⟩
        rw [upd_upd, hp, List.map_append]
        rfl
    · rintro σ H' ⟨r2, rfl, rfl, hpl⟩
      have et : ns.take (ns.map V.int).length = ns := by rw [List.length_map]; exact List.take_length
      rw [et]
      exact ⟨.ref D, rfl, D, _, rfl, .inl ⟨SqL.of upd_same, fun l nl => hq _ l ((sm _).trans (same_new nl)) ((sm _).free nl) upd_same⟩⟩
theorem ok_TPt {f fL : Addr} {fd fdL : FuncData} {k : Nat} (F : Fun K "turning_points" "turning_points" sTP f fd) (GL : FnOk P w K mg base CX0 (k + 2) fL fdL ["points", "reading"] (spLO K)) (gL : mg "is_left_out" = some (.ref fL)) (kL : PySem.W.keepIn K (.ref fL) = true) (bL : Binds K fdL ["points", "reading"] [])
    (mt : mg "tuple" = none) : FnOk P w K mg base CX0 (k + 3) f fd ["load"] (spTPt K) := by
  refine F.ok scTP (fun vs H Q E h => ?_) (fun cdv A outer s H vs Q E hr h => ?_)
  · obtain ⟨a, ns, rfl, _⟩ := h
    rfl
  · obtain ⟨a, ns, rfl, hS, hlen, hq⟩ := h
    refine ⟨_, pss_cons (ps_set (i := 1) scTP.nd rfl (.inl rfl) (pe_lst pa_nil))
      (pss_cons (ps_for PassesOwn.never rfl (pi_tup (pv 0)) (pg_name (i := 2) scTP.nd rfl (.inl rfl))
        (pss_cons (ps_if (pt_val (pe_call GL hr (by rfl) gL kL bL .nil pass0 (pa_cons (pv 1) (pa_cons (pv 2) pa_nil))))
              (pss_one (ps_expr (pe_bm0 PySem.F.plainAttrs_list PySem.F.slot_list_pop PySem.F.type_list_pop mt_pop (pv 1)))) pss_nil)
            (pss_one (ps_expr (pe_bm PySem.F.plainAttrs_list PySem.F.slot_list_append PySem.F.type_list_append mt_append (pv 1) (pa_cons (pv 2) pa_nil))))))
      (pss_one (ps_ret (pe_callTy call_tuple_of (by rfl) mt (by decide +kernel) (pa_cons (pv 1) pa_nil))))), ?_⟩
    refine ⟨Nat.zero_le _, fun D nD => ?_⟩
    have sm : ∀ o, Same H (upd H D o) := fun o => same_new nD
    refine ⟨.ref a, rfl, a, rfl, ⟨_, SqT_same (sm _) hS⟩, for_tup (K := K) (a := a) (xs := ns.map V.int)
      (fun i σ H' => ∃ (r2 : Option V), σ = [some (.ref a), some (.ref D), r2] ∧ H' = upd H D (.lst ((tp (ns.take i)).map V.int)) ∧ (tp (ns.take i)).length ≤ i) ?_ ?_ ?_ ?_⟩
    · exact ⟨none, rfl, rfl, Nat.le_refl _⟩
    · rintro i σ H' _ ⟨r2, rfl, rfl, _⟩
      exact SqT_same (sm _) hS
    · rintro i x σ H' hx ⟨r2, rfl, rfl, hpl⟩
      obtain ⟨r, hr2, rfl⟩ := int_at hx
      have hin : i < ns.length := (List.getElem?_eq_some_iff.mp hr2).1
      rw [tp_take hr2]
      generalize tp (ns.take i) = ps at hpl ⊢
      have hpl2 := Nat.le_trans (push_len ps r) (Nat.succ_le_succ hpl)
      refine ⟨.ref D, rfl, .int r, rfl, D, ps, r, rfl, SqL.of upd_same, _, rfl, ?_⟩
      have hp := push_lo ps r
      cases hl : lo ps r with
      | true =>
        rw [hl, if_pos rfl] at hp
        have hne : ps ≠ [] := fun z => by rw [z] at hl; cases hl
        obtain ⟨ps', u, rfl⟩ : ∃ ps' u, ps = ps' ++ [u] := by
          rcases List.eq_nil_or_concat ps with h | ⟨m1, d, h⟩
          · exact absurd h hne
          · exact ⟨m1, d, by rw [h]; simp⟩
        rw [List.dropLast_concat] at hp
        have em : (ps' ++ [u]).map V.int = ps'.map V.int ++ [V.int u] := by simp
        have hl' : (ps' ++ [u]).length = ps'.length + 1 := by simp
        refine iteT ⟨.ref D, rfl, .inl ⟨rfl, _, SqL.of upd_same⟩, D, ps'.map V.int ++ [V.int u], .int u, rfl, rfl, by rw [upd_same, em], by simp, ?_⟩
        refine ⟨.ref D, rfl, .inl ⟨rfl, _, SqL.of upd_same⟩, .int r, rfl, D, ps'.map V.int, _, rfl, rfl, by rw [upd_same, List.dropLast_concat], by rw [List.length_map]; exact small3000 (by omega), _, rfl, ?_, hpl2⟩
        rw [upd_upd, upd_upd, hp, List.map_append]
        rfl
      | false =>
        rw [hl, if_neg (by decide)] at hp
        refine iteF ?_
        refine ⟨.ref D, rfl, .inl ⟨rfl, _, SqL.of upd_same⟩, .int r, rfl, D, _, _, rfl, rfl, upd_same, by rw [List.length_map]; exact small3000 (by omega), _, rfl, ?_, hpl2⟩
        rw [upd_upd, hp, List.map_append]
        rfl
    · rintro σ H' ⟨r2, rfl, rfl, hpl⟩
      have et : ns.take (ns.map V.int).length = ns := by rw [List.length_map]; exact List.take_length
      rw [et]
      exact ⟨.ref D, rfl, D, _, rfl, .inl ⟨SqL.of upd_same, fun l nl => hq _ l ((sm _).trans (same_new nl)) ((sm _).free nl) upd_same⟩⟩
end
end PB

/-! swings; the law's own points -/
namespace PC
open PySem PySem.Spec PyProof.Rows L2 KA PH PM PA PB RM RS
theorem cut_to (xs : List V) (k : Nat) : cutV xs none (some ((k : Nat) : Int)) = xs.take k := by
  unfold cutV
  rw [HT.sIx_none, HT.sIx_nat]
  simp only [Nat.sub_zero, List.drop_zero]
  rcases Nat.le_total k xs.length with h | h
  · rw [Nat.min_eq_left h]
  · rw [Nat.min_eq_right h, List.take_length, List.take_of_length_le h]
theorem cut_from (xs : List V) (k : Nat) : cutV xs (some ((k : Nat) : Int)) none = xs.drop k := by
  unfold cutV
  rw [HT.sIx_nat, HT.sIx_none]
  rcases Nat.le_total k xs.length with h | h
  · rw [Nat.min_eq_left h, List.take_of_length_le (by rw [List.length_drop]; omega)]
  · rw [Nat.min_eq_right h, Nat.sub_self, List.drop_eq_nil_of_le h]
    rfl
/-- a list of i pairs stands at R, what was tracked stands -/
def Prs (H0 : Hp) (R : Addr) (ps : List Int) (i : Nat) (H : Hp) : Prop := Same H0 H ∧ ∃ xs, H R = some (.lst xs) ∧ PairsAt H xs ((sw ps).take i)
theorem Prs.start {H0 : Hp} {R : Addr} (ps : List Int) (n : H0 R = none) : Prs H0 R ps 0 (upd H0 R (.lst [])) := ⟨same_new n, [], upd_same, trivial⟩
theorem Prs.turn {H0 H1 H2 : Hp} {R q : Addr} {ps : List Int} {i : Nat} {x y : Int} (g : Prs H0 R ps i H1) (n : H0 R = none) (s : Same H1 H2) (nq : H2 q = none) (hx : ps[i]? = some x) (hy : ps[i + 1]? = some y) (hl : ps.length ≤ 2500) :
    ∃ acc, (upd H2 q (.tup [.int (rg x y).1, .int (rg x y).2])) R = some (.lst acc) ∧ acc.length < sizeLine ∧ Prs H0 R ps (i + 1) (upd (upd H2 q (.tup [.int (rg x y).1, .int (rg x y).2])) R (.lst (acc ++ [.ref q]))) := by
  obtain ⟨s0, xs, e, pa⟩ := g
  have e2 := s _ _ e
  have nRq : R ≠ q := ne_of_none e2 nq
  have sq : Same H2 (upd H2 q (.tup [.int (rg x y).1, .int (rg x y).2])) := same_new nq
  have hi : i < ps.length := (List.getElem?_eq_some_iff.mp hx).1
  have hxl : xs.length ≤ i := by rw [pa.length, List.length_take]; omega
  refine ⟨xs, sq _ _ e2, small3000 (by omega), same_again n ((s0.trans s).trans sq), xs ++ [.ref q], upd_same, ?_⟩
  rw [sw_take ps i x y hx hy]
  have other : ∀ {ys : List V} {rs : List (Int × Int)}, PairsAt H1 ys rs → PairsAt (upd (upd H2 q (.tup [.int (rg x y).1, .int (rg x y).2])) R (.lst (xs ++ [.ref q]))) ys rs := by
    intro ys
    induction ys with
    | nil => intro rs h; cases rs with
      | nil => trivial
      | cons _ _ => exact h.elim
    | cons z zs ih =>
      intro rs h
      cases rs with
      | nil => exact h.elim
      | cons r rs =>
        obtain ⟨⟨p, h1, h2⟩, h3⟩ := h
        have h4 := sq _ _ (s _ _ h2)
        have npR : p ≠ R := fun z => by rw [z, e] at h2; cases h2
        exact ⟨⟨p, h1, by rw [upd_ne npR]; exact h4⟩, ih h3⟩
  refine PairsAt.append (other pa) ⟨⟨q, rfl, ?_⟩, trivial⟩
  rw [upd_ne nRq.symm, upd_same]
theorem Prs.all {H0 H : Hp} {R : Addr} {ps : List Int} {i : Nat} (g : Prs H0 R ps i H) (h : ps.length - 1 ≤ i) : ∃ xs, H R = some (.lst xs) ∧ PairsAt H xs (sw ps) := by
  obtain ⟨_, xs, e, pa⟩ := g
  rw [List.take_of_length_le (by rw [sw_len]; exact h)] at pa
  exact ⟨xs, e, pa⟩
section
variable {P : Program} {w : World} {K : PySem.W.Frag} {mg : Str → Option Value} {base : Heap}
def spSw (K : PySem.W.Frag) : Sp := fun vs H Q _ => ∃ (a : Addr) (ns : List Int), vs = [.ref a] ∧ Sq K H a (ns.map V.int) ∧ ns.length ≤ 2500 ∧ ∀ H' p xs, Same H H' → H p = none → H' p = some (.lst xs) → PairsAt H' xs (sw (tp ns)) → Q (.ref p) H'
theorem ok_sw {f fP fR : Addr} {fd fdP fdR : FuncData} {k : Nat} (F : Fun K "swings" "swings" sSw f fd) (GP : FnOk P w K mg base CX0 (k + 2) fP fdP ["load"] (spTP K)) (gP : mg "turning_points" = some (.ref fP)) (kP : PySem.W.keepIn K (.ref fP) = true) (bP : Binds K fdP ["load"] [])
    (GR : FnOk P w K mg base CX0 (k + 1) fR fdR ["one", "other"] spRng) (gR : mg "range_of" = some (.ref fR)) (kR : PySem.W.keepIn K (.ref fR) = true) (bR : Binds K fdR ["one", "other"] []) (mz : mg "zip" = none) : FnOk P w K mg base CX0 (k + 3) f fd ["load"] (spSw K) := by
  refine F.ok scSw (fun vs H Q E h => ?_) (fun cdv A outer s H vs Q E hr h => ?_)
  · obtain ⟨a, ns, rfl, _⟩ := h
    rfl
  · obtain ⟨a, ns, rfl, hS, hlen, hq⟩ := h
    have h1 := hr.mono (Nat.le_succ (k + 1))
    refine ⟨_, pss_cons (ps_set (i := 1) scSw.nd rfl (.inl rfl) (pe_call GP hr (by rfl) gP kP bP .nil pass0 (pa_cons (pv 0) pa_nil)))
      (pss_one (ps_ret (pe_lc (own := [("one", 2), ("other", 3)]) (g := gTup K 2 (gCons (gName 2) (gCons (gName 3) gNil))) rfl scSw.nd
        (RZ.pi_zipA (by rfl) mz (pa_cons (pv 1) (pa_cons (pe_slice sl_tupA (pv 1) (po_some pe_int) po_none) pa_nil)))
        (blkOk_by (own := [("one", 2), ("other", 3)]) (N := ["load", "points", "one", "other"]) (sc := defScope sSw) (by decide +kernel))
        (fun _ _ _ _ _ => pg_tup rfl (pgs_cons (pg_name (i := 2) scSw.nd rfl (Or.inl rfl) (Or.inr rfl)) (pgs_cons (pg_name (i := 3) scSw.nd rfl (Or.inl rfl) (Or.inr rfl)) pgs_nil)))
        (fun _ _ _ _ _ => pts_nil) (fun _ _ _ _ _ => pe_call GR h1 (by rfl) gR kR bR .nil pass0 (pa_cons (pv 2) (pa_cons (pv 3) pa_nil)))))), ?_⟩
    refine ⟨.ref a, rfl, ?_⟩
    have hps : (tp ns).length ≤ 2500 := Nat.le_trans (tp_len ns) hlen
    rcases hS with hS | hS
    · refine .inl ⟨a, ns, rfl, hS, hlen, fun H1 t s1 nt et => ?_⟩
      refine ⟨.ref t, rfl, .ref t, rfl, 1, rfl, t, (tp ns).map V.int, rfl, SqT.of et, fun hw => ?_, fun hn c nc => ?_⟩
      · have e0 : (tp ns).map V.int = [] := by
          have z := hw.1
          rw [show (some (1 : Int)) = some ((1 : Nat) : Int) from rfl, HT.sIx_nat] at z
          exact List.length_eq_zero_iff.mp (by omega)
        have hc : SqT K H1 t (((tp ns).map V.int).drop 1) := by
          rw [e0]
          rw [e0] at et
          exact SqT.of et
        have s2 := Same.refl H1
        refine ⟨t, t, (tp ns).map V.int, ((tp ns).map V.int).drop 1, rfl, .inr ⟨SqT.of (s2 _ _ et), hc, fun R nR => lc_it (walk_tups (K := K) (a := t) (b := t) (xs := (tp ns).map V.int) (ys := ((tp ns).map V.int).drop 1) (n := (tp ns).length - 1) (by rw [List.length_drop, List.length_map]; omega))
          (fun i H' => Prs H1 R (tp ns) i H') (Prs.start _ nR) (fun i H' _ g => ⟨SqT.of (g.1 _ _ (s2 _ _ et)), SqT_same g.1 hc⟩) ?_ ?_⟩⟩
        · rintro i x H3 H4 hi g ⟨T, u, v, rfl, nT, rfl, g1, g2⟩
          have g1 : ((tp ns).map V.int)[i]? = some u := g1
          have g2 : (((tp ns).map V.int).drop 1)[i]? = some v := g2
          rw [List.getElem?_drop, Nat.add_comm 1 i] at g2
          obtain ⟨x, hx, rfl⟩ := int_at g1
          obtain ⟨y, hy, rfl⟩ := int_at g2
          refine ⟨T, [.int x, .int y], rfl, SqT.of upd_same, rfl, .int x, [.int y], rfl, .int y, [], rfl, rfl, rfl, ?_⟩
          refine iteT (B := True) ?_
          exact ⟨.int x, rfl, .int y, rfl, x, y, rfl, fun q nq => g.turn nR (same_new nT) nq hx hy hps⟩
        · intro H' g
          obtain ⟨xs, e, pa⟩ := g.all (Nat.le_refl _)
          exact hq H' R xs ((s1.trans s2).trans g.1) ((s1.trans s2).free nR) e pa
      · have hc : SqT K (upd H1 c (.tup (cutV ((tp ns).map V.int) (some 1) none))) c (((tp ns).map V.int).drop 1) := SqT.of (by rw [upd_same, show (some (1 : Int)) = some ((1 : Nat) : Int) from rfl, cut_from])
        have s2 : Same H1 (upd H1 c (.tup (cutV ((tp ns).map V.int) (some 1) none))) := same_new nc
        refine ⟨t, c, (tp ns).map V.int, ((tp ns).map V.int).drop 1, rfl, .inr ⟨SqT.of (s2 _ _ et), hc, fun R nR => lc_it (walk_tups (K := K) (a := t) (b := c) (xs := (tp ns).map V.int) (ys := ((tp ns).map V.int).drop 1) (n := (tp ns).length - 1) (by rw [List.length_drop, List.length_map]; omega))
          (fun i H' => Prs _ R (tp ns) i H') (Prs.start _ nR) (fun i H' _ g => ⟨SqT.of (g.1 _ _ (s2 _ _ et)), SqT_same g.1 hc⟩) ?_ ?_⟩⟩
        · rintro i x H3 H4 hi g ⟨T, u, v, rfl, nT, rfl, g1, g2⟩
          have g1 : ((tp ns).map V.int)[i]? = some u := g1
          have g2 : (((tp ns).map V.int).drop 1)[i]? = some v := g2
          rw [List.getElem?_drop, Nat.add_comm 1 i] at g2
          obtain ⟨x, hx, rfl⟩ := int_at g1
          obtain ⟨y, hy, rfl⟩ := int_at g2
          refine ⟨T, [.int x, .int y], rfl, SqT.of upd_same, rfl, .int x, [.int y], rfl, .int y, [], rfl, rfl, rfl, ?_⟩
          refine iteT (B := True) ?_
          exact ⟨.int x, rfl, .int y, rfl, x, y, rfl, fun q nq => g.turn nR (same_new nT) nq hx hy hps⟩
        · intro H' g
          obtain ⟨xs, e, pa⟩ := g.all (Nat.le_refl _)
          exact hq H' R xs ((s1.trans s2).trans g.1) ((s1.trans s2).free nR) e pa
    · refine .inr ⟨a, ns, rfl, hS, hlen, fun H1 t s1 nt et => ?_⟩
      refine ⟨.ref t, rfl, .ref t, rfl, 1, rfl, t, (tp ns).map V.int, rfl, SqT.of et, fun hw => ?_, fun hn c nc => ?_⟩
      · have e0 : (tp ns).map V.int = [] := by
          have z := hw.1
          rw [show (some (1 : Int)) = some ((1 : Nat) : Int) from rfl, HT.sIx_nat] at z
          exact List.length_eq_zero_iff.mp (by omega)
        have hc : SqT K H1 t (((tp ns).map V.int).drop 1) := by
          rw [e0]
          rw [e0] at et
          exact SqT.of et
        have s2 := Same.refl H1
        refine ⟨t, t, (tp ns).map V.int, ((tp ns).map V.int).drop 1, rfl, .inr ⟨SqT.of (s2 _ _ et), hc, fun R nR => lc_it (walk_tups (K := K) (a := t) (b := t) (xs := (tp ns).map V.int) (ys := ((tp ns).map V.int).drop 1) (n := (tp ns).length - 1) (by rw [List.length_drop, List.length_map]; omega))
          (fun i H' => Prs H1 R (tp ns) i H') (Prs.start _ nR) (fun i H' _ g => ⟨SqT.of (g.1 _ _ (s2 _ _ et)), SqT_same g.1 hc⟩) ?_ ?_⟩⟩
        · rintro i x H3 H4 hi g ⟨T, u, v, rfl, nT, rfl, g1, g2⟩
          have g1 : ((tp ns).map V.int)[i]? = some u := g1
          have g2 : (((tp ns).map V.int).drop 1)[i]? = some v := g2
          rw [List.getElem?_drop, Nat.add_comm 1 i] at g2
          obtain ⟨x, hx, rfl⟩ := int_at g1
          obtain ⟨y, hy, rfl⟩ := int_at g2
          refine ⟨T, [.int x, .int y], rfl, SqT.of upd_same, rfl, .int x, [.int y], rfl, .int y, [], rfl, rfl, rfl, ?_⟩
          refine iteT (B := True) ?_
          exact ⟨.int x, rfl, .int y, rfl, x, y, rfl, fun q nq => g.turn nR (same_new nT) nq hx hy hps⟩
        · intro H' g
          obtain ⟨xs, e, pa⟩ := g.all (Nat.le_refl _)
          exact hq H' R xs ((s1.trans s2).trans g.1) ((s1.trans s2).free nR) e pa
      · have hc : SqT K (upd H1 c (.tup (cutV ((tp ns).map V.int) (some 1) none))) c (((tp ns).map V.int).drop 1) := SqT.of (by rw [upd_same, show (some (1 : Int)) = some ((1 : Nat) : Int) from rfl, cut_from])
        have s2 : Same H1 (upd H1 c (.tup (cutV ((tp ns).map V.int) (some 1) none))) := same_new nc
        refine ⟨t, c, (tp ns).map V.int, ((tp ns).map V.int).drop 1, rfl, .inr ⟨SqT.of (s2 _ _ et), hc, fun R nR => lc_it (walk_tups (K := K) (a := t) (b := c) (xs := (tp ns).map V.int) (ys := ((tp ns).map V.int).drop 1) (n := (tp ns).length - 1) (by rw [List.length_drop, List.length_map]; omega))
          (fun i H' => Prs _ R (tp ns) i H') (Prs.start _ nR) (fun i H' _ g => ⟨SqT.of (g.1 _ _ (s2 _ _ et)), SqT_same g.1 hc⟩) ?_ ?_⟩⟩
        · rintro i x H3 H4 hi g ⟨T, u, v, rfl, nT, rfl, g1, g2⟩
          have g1 : ((tp ns).map V.int)[i]? = some u := g1
          have g2 : (((tp ns).map V.int).drop 1)[i]? = some v := g2
          rw [List.getElem?_drop, Nat.add_comm 1 i] at g2
          obtain ⟨x, hx, rfl⟩ := int_at g1
          obtain ⟨y, hy, rfl⟩ := int_at g2
          refine ⟨T, [.int x, .int y], rfl, SqT.of upd_same, rfl, .int x, [.int y], rfl, .int y, [], rfl, rfl, rfl, ?_⟩
          refine iteT (B := True) ?_
          exact ⟨.int x, rfl, .int y, rfl, x, y, rfl, fun q nq => g.turn nR (same_new nT) nq hx hy hps⟩
        · intro H' g
          obtain ⟨xs, e, pa⟩ := g.all (Nat.le_refl _)
          exact hq H' R xs ((s1.trans s2).trans g.1) ((s1.trans s2).free nR) e pa
end
end PC

/-! places, points taken out -/
namespace QE
open PySem PySem.Spec PyProof.Rows L2 KA PH PM PA PB PC RM RN RS
abbrev sMT : Stmt := topS 9
abbrev sPB : Stmt := topS 10
abbrev sCo : Stmt := topS 11
abbrev sClass : Stmt := topS 12
abbrev sLaw : Stmt := topS 43
theorem scMT : FnScope ["points", "place", "size"] ["points", "place"] (defScope sMT) := ⟨rfl, rfl, rfl, by decide +kernel, rfl, by decide +kernel, by decide +kernel⟩
theorem Sq.ix {K : PySem.W.Frag} {H : Hp} {a : Addr} {xs : List V} {z : Int} {v : V} {Q : VK} (h : Sq K H a xs) (e : atI xs z = some v) (q : Q v H) : rIx K (.ref a) (.int z) H Q := by
  rcases h with h | h
  · exact .inl ⟨a, xs, z, v, rfl, rfl, h, e, q⟩
  · exact .inr (.inl ⟨a, xs, z, v, rfl, rfl, h, e, q⟩)
section
variable {P : Program} {w : World} {K : PySem.W.Frag} {mg : Str → Option Value} {base : Heap}
def spMT (K : PySem.W.Frag) : Sp := fun vs H Q _ => ∃ (a : Addr) (ps : List Int) (i : Nat) (z x y t u : Int), vs = [.ref a, .int z] ∧ z = (i : Int) + 1 ∧ Sq K H a (ps.map V.int) ∧ ZZ ps ∧ ps[i]? = some x ∧ ps[i + 1]? = some y ∧ ps[i + 2]? = some t ∧ ps[i + 3]? = some u ∧
  ∀ H', Same H H' → Q (.bl (takenAt ps i)) H'
theorem abs_i (i : Int) : (if i < 0 then -i else i) = (i.natAbs : Int) := by split <;> omega
theorem ok_MT {f : Addr} {fd : FuncData} {k : Nat} (F : Fun K "_may_be_taken" "_may_be_taken" sMT f fd) (ma : mg "abs" = none) : FnOk P w K mg base CX0 (k + 1) f fd ["points", "place"] (spMT K) := by
  refine F.ok scMT (fun vs H Q E h => ?_) (fun cdv A outer s H vs Q E hr h => ?_)
  · obtain ⟨a, ps, i, z, x, y, t, u, rfl, _⟩ := h
    rfl
  · obtain ⟨a, ps, i, z, x, y, t, u, rfl, rfl, hS, zz, e0, e1, e2, e3, hq⟩ := h
    refine ⟨_, pss_cons (ps_set (i := 2) scMT.nd rfl (.inl rfl) (pe_callB call_abs (by rfl) ma (by decide +kernel) (pa_cons (pe_op op_sub (pe_ix ix_seq (pv 0) (pe_op op_add (pv 1) pe_int) (fun _ _ => rfl)) (pe_ix ix_seq (pv 0) (pv 1) (fun _ _ => rfl))) pa_nil)))
      (pss_one (ps_ret (pe_and (pe_cmpR op_ge (pe_callB call_abs (by rfl) ma (by decide +kernel) (pa_cons (pe_op op_sub (pe_ix ix_seq (pv 0) (pv 1) (fun _ _ => rfl)) (pe_ix ix_seq (pv 0) (pe_op op_sub (pv 1) pe_int) (fun _ _ => rfl))) pa_nil)) (pv 2) (nomark _))
        (pe_one (pe_cmpR op_ge (pe_callB call_abs (by rfl) ma (by decide +kernel) (pa_cons (pe_op op_sub (pe_ix ix_seq (pv 0) (pe_op op_add (pv 1) pe_int) (fun _ _ => rfl)) (pe_ix ix_seq (pv 0) (pe_op op_add (pv 1) pe_int) (fun _ _ => rfl))) pa_nil)) (pv 2) (nomark _)))))), ?_⟩
    have a0 : atI (ps.map V.int) ((i : Int) + 1 - 1) = some (.int x) := at_of (j := i) (by omega) (at_int e0)
    have a1 : atI (ps.map V.int) ((i : Int) + 1) = some (.int y) := at_of (j := i + 1) (by omega) (at_int e1)
    have a2 : atI (ps.map V.int) ((i : Int) + 1 + 1) = some (.int t) := at_of (j := i + 2) (by omega) (at_int e2)
    have a3 : atI (ps.map V.int) ((i : Int) + 1 + 2) = some (.int u) := at_of (j := i + 3) (by omega) (at_int e3)
    have hq2 := hq H (Same.refl H)
    rw [taken_get e0 e1 e2 e3] at hq2
    have eT : decide (Taken x y t u) = (decide (((y - x).natAbs : Int) ≥ ((t - y).natAbs : Int)) && decide (((u - t).natAbs : Int) ≥ ((t - y).natAbs : Int))) := by
      rw [← Bool.decide_and, decide_eq_decide]
      exact taken_abs (zz_at zz e0 e1 e2 e3)
    rw [eT] at hq2
    refine ⟨.ref a, rfl, .int ((i : Int) + 1), rfl, _, 1, rfl, rfl, Sq.ix hS a2 ⟨.ref a, rfl, .int ((i : Int) + 1), rfl, Sq.ix hS a1 ⟨t, y, rfl, rfl, _, rfl, ?_⟩⟩⟩
    refine ⟨.ref a, rfl, .int ((i : Int) + 1), rfl, Sq.ix hS a1 ⟨.ref a, rfl, .int ((i : Int) + 1), rfl, _, 1, rfl, rfl, Sq.ix hS a0 ⟨y, x, rfl, rfl, _, rfl, ?_⟩⟩⟩
    refine ⟨_, rfl, _, _, rfl, rfl, _, rfl, ?_⟩
    rw [abs_i, abs_i]
    cases h1 : decide (((y - x).natAbs : Int) ≥ ((t - y).natAbs : Int)) with
    | true =>
      rw [h1, Bool.true_and] at hq2
      refine iteT ⟨.ref a, rfl, .int ((i : Int) + 1), rfl, _, 2, rfl, rfl, Sq.ix hS a3 ⟨.ref a, rfl, .int ((i : Int) + 1), rfl, _, 1, rfl, rfl, Sq.ix hS a2 ⟨u, t, rfl, rfl, _, rfl, ?_⟩⟩⟩
      refine ⟨_, rfl, _, _, rfl, rfl, ?_⟩
      rw [abs_i]
      exact hq2
    | false =>
      rw [h1, Bool.false_and] at hq2
      exact iteF hq2
def spRem (K : PySem.W.Frag) : Sp := fun vs H Q _ => ∃ (a : Addr) (ps : List Int), vs = [.ref a] ∧ Sq K H a (ps.map V.int) ∧ ZZ ps ∧ ps.length ≤ 2500 ∧ ∀ H' p, Same H H' → H p = none → H' p = some (.tup ((plc ps).map V.int)) → Q (.ref p) H'
end
end QE

/-! take; the stack -/
namespace QF
open PySem PySem.Spec PyProof.Rows L2 KA PH PM PA PB PC RM RN RS QE
theorem scPB : FnScope ["rest", "reading", "cycles"] ["rest", "reading"] (defScope sPB) := ⟨rfl, rfl, rfl, by decide +kernel, rfl, by decide +kernel, by decide +kernel⟩
theorem scCo : FnScope ["load", "cycles", "rest", "reading"] ["load"] (defScope sCo) := ⟨rfl, rfl, rfl, by decide +kernel, rfl, by decide +kernel, by decide +kernel⟩
theorem taken_all {ps : List Int} {i : Nat} (h : takenAt ps i = true) : ∃ x y t u, ps[i]? = some x ∧ ps[i + 1]? = some y ∧ ps[i + 2]? = some t ∧ ps[i + 3]? = some u := by
  have := taken_lt h
  exact ⟨_, _, _, _, List.getElem?_eq_getElem (by omega), List.getElem?_eq_getElem (by omega), List.getElem?_eq_getElem (by omega), List.getElem?_eq_getElem (by omega)⟩
section
variable {P : Program} {w : World} {K : PySem.W.Frag} {mg : Str → Option Value} {base : Heap}
def spIR (K : PySem.W.Frag) : Sp := fun vs H Q _ => ∃ (a : Addr) (ps : List Int) (i : Nat) (z : Int), vs = [.ref a, .int z] ∧ z = (i : Int) + 1 ∧ Sq K H a (ps.map V.int) ∧ ZZ ps ∧ takenAt ps i = true ∧ ∀ H', Same H H' → Q (.bl true) H'
def spNum : Sp := fun vs H Q _ => ∃ z : Int, vs = [.int z] ∧ Q (.bl true) H
end
end QF

/-! the stack -/
namespace QG
open PySem PySem.Spec PyProof.Rows L2 KA PH PM PA PB PC RM RN RS KD QE QF
theorem atI_last3 (xs : List V) (u v w : V) : atI (xs ++ [u, v, w]) (-3) = some u := by
  have hl : (xs ++ [u, v, w]).length = xs.length + 3 := by simp
  have h : ixN (xs ++ [u, v, w]).length (-3) = some xs.length := by
    unfold ixN
    rw [hl, if_neg (by decide), if_pos (by omega)]
    congr 1
    omega
  unfold atI
  rw [h]
  show (xs ++ [u, v, w])[xs.length]? = some u
  simp
theorem atI_last2' (xs : List V) (u v w : V) : atI (xs ++ [u, v, w]) (-2) = some v := by
  have := atI_last2 (xs ++ [u]) v w
  simpa using this
theorem last3 : ∀ {m : List Int}, 3 ≤ m.length → ∃ pre b c d, m = pre ++ [b, c, d] := by
  intro m h
  rcases List.eq_nil_or_concat m with rfl | ⟨m1, d, rfl⟩
  · simp at h
  · rcases List.eq_nil_or_concat m1 with rfl | ⟨m2, c, rfl⟩
    · simp at h
    · rcases List.eq_nil_or_concat m2 with rfl | ⟨m3, b, rfl⟩
      · simp at h
      · exact ⟨m3, b, c, d, by simp⟩
theorem pairs_upd {H : Hp} {R : Addr} {l l' : List V} (e : H R = some (.lst l)) : ∀ {xs : List V} {rs : List (Int × Int)}, PairsAt H xs rs → PairsAt (upd H R (.lst l')) xs rs
  | [], [], _ => trivial
  | x :: xs, r :: rs, ⟨⟨p, h1, h2⟩, h3⟩ => ⟨⟨p, h1, by rw [upd_ne (fun z => by rw [z, e] at h2; cases h2)]; exact h2⟩, pairs_upd e h3⟩
  | [], _ :: _, h => h.elim
  | _ :: _, [], h => h.elim
section
variable {P : Program} {w : World} {K : PySem.W.Frag} {mg : Str → Option Value} {base : Heap}
def spTPq (K : PySem.W.Frag) : Sp := fun vs H Q _ => ∃ (a : Addr) (ns : List Int), vs = [.ref a] ∧ Sq K H a (ns.map V.int) ∧ ns.length ≤ 2500 ∧ ∀ H' p, Same H H' → H p = none → H' p = some (.tup ((tp ns).map V.int)) → Q (.ref p) H'
theorem tpq_of {k : Nat} {f : Addr} {fd : FuncData} (G : FnOk P w K mg base CX0 k f fd ["load"] (spTP K)) : FnOk P w K mg base CX0 k f fd ["load"] (spTPq K) :=
  G.imp fun vs H Q E ⟨a, ns, e, hs, hl, q⟩ => hs.elim (fun z => .inl ⟨a, ns, e, z, hl, q⟩) (fun z => .inr ⟨a, ns, e, z, hl, q⟩)
theorem ch_pairs {f : Addr} {H H' : Hp} {l : List V} (c : Ch f H H') (e : H f = some (.lst l)) : ∀ {xs : List V} {rs : List (Int × Int)}, PairsAt H xs rs → PairsAt H' xs rs
  | [], [], _ => trivial
  | x :: xs, r :: rs, ⟨⟨p, h1, h2⟩, h3⟩ => ⟨⟨p, h1, c _ _ (fun z => by rw [z, e] at h2; cases h2) h2⟩, ch_pairs c e h3⟩
  | [], _ :: _, h => h.elim
  | _ :: _, [], h => h.elim
/-- what put_behind holds -/
structure Bhd (H : Hp) (C R : Addr) (xs : List V) (cs : List (Int × Int)) (rs : List Int) (Hx : Hp) : Prop where
  ch : Ch R H Hx
  c : Hx C = some (.lst xs)
  pa : PairsAt Hx xs cs
  r : Hx R = some (.lst (rs.map V.int))
theorem Bhd.same {H : Hp} {C R : Addr} {xs : List V} {cs : List (Int × Int)} {rs : List Int} {H1 H2 : Hp} (g : Bhd H C R xs cs rs H1) (s : Same H1 H2) : Bhd H C R xs cs rs H2 :=
  ⟨g.ch.trans (.of_same s), s _ _ g.c, g.pa.same s, s _ _ g.r⟩
theorem Bhd.rest {H : Hp} {C R : Addr} {xs : List V} {cs : List (Int × Int)} {rs : List Int} {H1 : Hp} (g : Bhd H C R xs cs rs H1) (nCR : C ≠ R) (rs' : List Int) : Bhd H C R xs cs rs' (upd H1 R (.lst (rs'.map V.int))) :=
  ⟨g.ch.trans .put, by rw [upd_ne nCR]; exact g.c, pairs_upd g.r g.pa, upd_same⟩
theorem Bhd.cyc {H : Hp} {C R q : Addr} {xs : List V} {cs : List (Int × Int)} {rs : List Int} {H1 : Hp} {c : Int × Int} (g : Bhd H C R xs cs rs H1) (nC : H C = none) (nCR : C ≠ R) (hq : H1 q = some (.tup [.int c.1, .int c.2])) :
    Bhd H C R (xs ++ [.ref q]) (cs ++ [c]) rs (upd H1 C (.lst (xs ++ [.ref q]))) :=
  ⟨Ch.again nC g.ch, upd_same, PairsAt.append (pairs_upd g.c g.pa) ⟨⟨q, rfl, by rw [upd_ne (fun z => by rw [z, g.c] at hq; cases hq)]; exact hq⟩, trivial⟩, by rw [upd_ne nCR.symm]; exact g.r⟩
def spPB : Sp := fun vs H Q _ => ∃ (R : Addr) (rs : List Int) (r : Int), vs = [.ref R, .int r] ∧ H R = some (.lst (rs.map V.int)) ∧ ZZ rs ∧ NF rs ∧ rs.length ≤ 2500 ∧
  ∀ H' p xs cs rs', Ch R H H' → H p = none → H' p = some (.lst xs) → PairsAt H' xs cs → H' R = some (.lst (rs'.map V.int)) → Run (push rs r) cs rs' → NF rs' → Q (.ref p) H'
theorem ok_PB {f fL fM fR : Addr} {fd fdL fdM fdR : FuncData} {k : Nat} (F : Fun K "put_behind" "put_behind" sPB f fd)
    (GL : FnOk P w K mg base CX0 (k + 2) fL fdL ["points", "reading"] (spLO K)) (gL : mg "is_left_out" = some (.ref fL)) (kL : PySem.W.keepIn K (.ref fL) = true) (bL : Binds K fdL ["points", "reading"] [])
    (GM : FnOk P w K mg base CX0 (k + 2) fM fdM ["points", "place"] (spMT K)) (gM : mg "_may_be_taken" = some (.ref fM)) (kM : PySem.W.keepIn K (.ref fM) = true) (bM : Binds K fdM ["points", "place"] [])
    (GR : FnOk P w K mg base CX0 (k + 2) fR fdR ["one", "other"] spRng) (gR : mg "range_of" = some (.ref fR)) (kR : PySem.W.keepIn K (.ref fR) = true) (bR : Binds K fdR ["one", "other"] [])
    (ml : mg "len" = none) : FnOk P w K mg base CX0 (k + 3) f fd ["rest", "reading"] spPB := by
  refine F.ok scPB (fun vs H Q E h => ?_) (fun cdv A outer s H vs Q E hr h => ?_)
  · obtain ⟨R, rs, r, rfl, _⟩ := h
    rfl
  · obtain ⟨R, rs0, r, rfl, eR, zz0, nf0, hlen, hq⟩ := h
    refine ⟨_, pss_cons (ps_if (pt_val (pe_call GL hr (by rfl) gL kL bL .nil pass0 (pa_cons (pv 0) (pa_cons (pv 1) pa_nil))))
          (pss_one (ps_expr (pe_bm0 PySem.F.plainAttrs_list PySem.F.slot_list_pop PySem.F.type_list_pop mt_pop (pv 0)))) pss_nil)
      (pss_cons (ps_expr (pe_bm PySem.F.plainAttrs_list PySem.F.slot_list_append PySem.F.type_list_append mt_append (pv 0) (pa_cons (pv 1) pa_nil)))
      (pss_cons (ps_set (i := 2) scPB.nd rfl (.inl rfl) (pe_lst pa_nil))
      (pss_cons (ps_while PassesOwn.never
            (PW.pt (pw_and (pt_cmpR op_gt (pe_callB call_len_seq (by rfl) ml PySem.boot_len (pa_cons (pv 0) pa_nil)) pe_int (nomark _)) (pw_and1 (pt_val (pe_call GM hr (by rfl) gM kM bM .nil pass0 (pa_cons (pv 0) (pa_cons (pe_op op_sub (pe_callB call_len_seq (by rfl) ml PySem.boot_len (pa_cons (pv 0) pa_nil)) pe_int) pa_nil)))))))
            (pss_cons (ps_expr (pe_bm PySem.F.plainAttrs_list PySem.F.slot_list_append PySem.F.type_list_append mt_append (pv 2) (pa_cons (pe_call GR hr (by rfl) gR kR bR .nil pass0 (pa_cons (pe_ix ix_list (pv 0) (pe_un un_neg pe_int) (fun _ _ => rfl)) (pa_cons (pe_ix ix_list (pv 0) (pe_un un_neg pe_int) (fun _ _ => rfl)) pa_nil))) pa_nil)))
              (pss_one (DS.ps_del31 (pv 0) (po_some (pe_un un_neg pe_int)) (po_some (pe_un un_neg pe_int))))))
      (pss_one (ps_ret (pv 2)))))), ?_⟩
    have zz1 : ZZ (push rs0 r) := zz_push r zz0
    have hp := push_lo rs0 r
    have hpl := push_len rs0 r
    refine ⟨.ref R, rfl, .int r, rfl, R, rs0, r, rfl, SqL.of eR, _, rfl, ?_⟩
    obtain ⟨m, nfm, em, hm1⟩ : ∃ m, NF m ∧ push rs0 r = m ++ [r] ∧ m = (if lo rs0 r = true then rs0.dropLast else rs0) := by
      refine ⟨_, ?_, hp, rfl⟩
      split
      · rcases List.eq_nil_or_concat rs0 with h | ⟨m1, d, h⟩
        · rw [h] at nf0 ⊢
          exact nf0
        · have h : rs0 = m1 ++ [d] := by rw [h]; simp
          rw [h] at nf0 ⊢
          rw [List.dropLast_concat]
          exact nf_prefix nf0
      · exact nf0
    rw [em] at zz1 hpl hq
    have hml : m.length ≤ 2500 := by
      rw [hm1]
      split
      · rw [List.length_dropLast]; omega
      · exact hlen
    have e1 : m.map V.int ++ [V.int r] = (m ++ [r]).map V.int := by rw [List.map_append]; rfl
    have start : ∀ C, (upd H R (.lst ((m ++ [r]).map V.int))) C = none → Bhd H C R [] [] (m ++ [r]) (upd (upd H R (.lst ((m ++ [r]).map V.int))) C (.lst [])) ∧ C ≠ R ∧ H C = none := by
      intro C nC
      have nCR : C ≠ R := fun z => by rw [z, upd_same] at nC; cases nC
      have nC0 : H C = none := by rw [upd_ne nCR] at nC; exact nC
      refine ⟨⟨.again nC0 .put, upd_same, trivial, by rw [upd_ne nCR.symm, upd_same]⟩, nCR, nC0⟩
    cases hl : lo rs0 r
    · rw [hl, if_neg (by decide)] at hm1
      subst hm1
      refine iteF ?_
      refine ⟨.ref R, rfl, .inl ⟨rfl, _, SqL.of eR⟩, .int r, rfl, R, _, _, rfl, rfl, eR, by rw [List.length_map]; exact small3000 (by omega), ?_⟩
      rw [e1]
      refine ⟨Nat.zero_le _, fun C nC => ?_⟩
      obtain ⟨g1, nCR, nC0⟩ := start C nC
      generalize upd (upd H R (.lst ((m ++ [r]).map V.int))) C (.lst []) = Hs at g1 ⊢
      refine ⟨fun n σ Hx => ∃ (xs : List V) (cs : List (Int × Int)) (mm : List Int), n = mm.length ∧ σ = [some (.ref R), some (.int r), some (.ref C)] ∧ Bhd H C R xs cs (mm ++ [r]) Hx ∧ Run (m ++ [r]) cs (mm ++ [r]) ∧ NF mm,
        ⟨_, [], [], m, rfl, rfl, g1, .nil _, nfm⟩, ?_⟩
      clear g1
      rintro n σ Hx ⟨xs, cs, mm, rfl, rfl, g, run, nf⟩
      have hrl := run.len
      simp only [List.length_append, List.length_singleton] at hrl
      have zzm := run.zz zz1
      have hm : ((mm ++ [r]).map V.int).length = mm.length + 1 := by simp
      refine ⟨.ref R, rfl, R, _, rfl, .inl (SqL.of g.r), _, 3, rfl, rfl, _, rfl, ?_⟩
      by_cases h3 : 3 ≤ mm.length
      · rw [show decide ((((mm ++ [r]).map V.int).length : Int) > 3) = true from decide_eq_true (by rw [hm]; omega)]
        obtain ⟨pre, b, c, d, rfl⟩ := last3 h3
        have hml : (pre ++ [b, c, d]).length = pre.length + 3 := by simp
        have el : pre ++ [b, c, d] ++ [r] = pre ++ b :: c :: d :: r :: [] := by simp
        have q0 : (pre ++ [b, c, d] ++ [r])[pre.length]? = some b := by rw [el, List.getElem?_append_right (by omega)]; simp
        have q1 : (pre ++ [b, c, d] ++ [r])[pre.length + 1]? = some c := by rw [el, List.getElem?_append_right (by omega)]; simp
        have q2 : (pre ++ [b, c, d] ++ [r])[pre.length + 2]? = some d := by rw [el, List.getElem?_append_right (by omega)]; simp
        have q3 : (pre ++ [b, c, d] ++ [r])[pre.length + 3]? = some r := by rw [el, List.getElem?_append_right (by omega)]; simp
        refine iteT ⟨.ref R, rfl, .ref R, rfl, R, _, rfl, .inl (SqL.of g.r), _, 3, rfl, rfl, R, pre ++ [b, c, d] ++ [r], pre.length, _, b, c, d, r, rfl, by rw [hm, hml]; omega, .inl (SqL.of g.r), zzm, q0, q1, q2, q3, fun H2 s2 => ⟨_, rfl, ?_⟩⟩
        have g2 := g.same s2
        rw [taken_get q0 q1 q2 q3]
        by_cases tk : Taken b c d r
        · rw [decide_eq_true tk]
          refine iteT ⟨fun σ Hx => ∃ m', m' < (pre ++ [b, c, d]).length ∧ ∃ (xs : List V) (cs : List (Int × Int)) (mm : List Int), m' = mm.length ∧ σ = [some (.ref R), some (.int r), some (.ref C)] ∧ Bhd H C R xs cs (mm ++ [r]) Hx ∧ Run (m ++ [r]) cs (mm ++ [r]) ∧ NF mm, fun _ _ z => z, ?_⟩
          have eR : H2 R = some (.lst ((pre ++ [b]).map V.int ++ [V.int c, V.int d, V.int r])) := by
            rw [g2.r]
            simp [List.map_append]
          refine ⟨.ref C, rfl, .inl ⟨rfl, _, SqL.of g2.c⟩, .ref R, rfl, 3, rfl, R, _, -3, .int c, rfl, rfl, SqL.of eR, atI_last3 _ _ _ _, .ref R, rfl, 2, rfl, R, _, -2, .int d, rfl, rfl, SqL.of eR, atI_last2' _ _ _ _, c, d, rfl, fun q nq => ?_⟩
          have s3 := same_new (o := .tup [.int (rg c d).1, .int (rg c d).2]) nq
          have g3 := (g2.same s3).cyc nC0 nCR (upd_same (H := H2) (a := q) (o := .tup [.int (rg c d).1, .int (rg c d).2]))
          have hxl : xs.length ≤ 2500 := by rw [g2.pa.length]; omega
          refine ⟨C, xs, .ref q, rfl, rfl, s3 _ _ g2.c, small3000 (by omega), ?_⟩
          have eR3 : (upd (upd H2 q (.tup [.int (rg c d).1, .int (rg c d).2])) C (.lst (xs ++ [.ref q]))) R = some (.lst ((pre ++ [b]).map V.int ++ [V.int c, V.int d, V.int r])) := by
            rw [upd_ne nCR.symm]
            exact s3 _ _ eR
          refine ⟨.ref R, rfl, 3, rfl, _, rfl, 1, rfl, _, rfl, rfl, rfl, R, (pre ++ [b]).map V.int, .int c, .int d, .int r, rfl, eR3, ?_⟩
          have g4 := g3.rest nCR (pre ++ [b] ++ [r])
          have e5 : (pre ++ [b]).map V.int ++ [V.int r] = (pre ++ [b] ++ [r]).map V.int := by simp [List.map_append]
          rw [e5]
          refine ⟨(pre ++ [b]).length, by simp, _, _, pre ++ [b], rfl, rfl, g4, ?_, nf_prefix (l := [c, d]) (by simpa using nf)⟩
          refine run.snoc ?_
          rw [el, List.append_assoc]
          exact (Step.here tk).prefix pre
        · rw [decide_eq_false tk]
          refine iteF ?_
          refine ⟨.ref C, rfl, hq _ C xs cs _ g2.ch nC0 g2.c g2.pa g2.r run (nf_push nf fun pre' b' c' d' e => ?_)⟩
          have e6 : pre' ++ [b', c', d', r] = (pre' ++ [b', c', d']) ++ [r] := by simp
          rw [e6] at e
          obtain ⟨e7, _⟩ := List.append_inj' e rfl
          obtain ⟨_, e8⟩ := List.append_inj' e7 rfl
          injection e8 with h1 h2
          injection h2 with h2 h3
          injection h3 with h3 _
          subst h1 h2 h3
          exact tk
      · rw [show decide ((((mm ++ [r]).map V.int).length : Int) > 3) = false from decide_eq_false (by rw [hm]; omega)]
        refine iteF ?_
        refine iteF ?_
        refine ⟨.ref C, rfl, hq _ C xs cs _ g.ch nC0 g.c g.pa g.r run (nf_push nf fun pre' b' c' d' e => ?_)⟩
        have : (mm ++ [r]).length = (pre' ++ [b', c', d', r]).length := by rw [e]
        simp only [List.length_append, List.length_cons, List.length_nil] at this
        omega
    · rw [hl, if_pos rfl] at hm1
      obtain ⟨u, hu⟩ : ∃ u, rs0 = m ++ [u] := by
        rcases List.eq_nil_or_concat rs0 with h | ⟨m1, d, h⟩
        · rw [h] at hl; cases hl
        · refine ⟨d, ?_⟩
          rw [hm1, h]
          simp
      have eR2 : H R = some (.lst (m.map V.int ++ [V.int u])) := by rw [eR, hu]; simp
      refine iteT ⟨.ref R, rfl, .inl ⟨rfl, _, SqL.of eR⟩, R, m.map V.int ++ [V.int u], .int u, rfl, rfl, eR2, by simp, ?_⟩
      refine ⟨.ref R, rfl, .inl ⟨rfl, _, SqL.of upd_same⟩, .int r, rfl, R, m.map V.int, _, rfl, rfl, by rw [upd_same, List.dropLast_concat], by rw [List.length_map]; exact small3000 (by omega), ?_⟩
      rw [upd_upd, e1]
      refine ⟨Nat.zero_le _, fun C nC => ?_⟩
      obtain ⟨g1, nCR, nC0⟩ := start C nC
      generalize upd (upd H R (.lst ((m ++ [r]).map V.int))) C (.lst []) = Hs at g1 ⊢
      refine ⟨fun n σ Hx => ∃ (xs : List V) (cs : List (Int × Int)) (mm : List Int), n = mm.length ∧ σ = [some (.ref R), some (.int r), some (.ref C)] ∧ Bhd H C R xs cs (mm ++ [r]) Hx ∧ Run (m ++ [r]) cs (mm ++ [r]) ∧ NF mm,
        ⟨_, [], [], m, rfl, rfl, g1, .nil _, nfm⟩, ?_⟩
      clear g1
      rintro n σ Hx ⟨xs, cs, mm, rfl, rfl, g, run, nf⟩
      have hrl := run.len
      simp only [List.length_append, List.length_singleton] at hrl
      have zzm := run.zz zz1
      have hm : ((mm ++ [r]).map V.int).length = mm.length + 1 := by simp
      refine ⟨.ref R, rfl, R, _, rfl, .inl (SqL.of g.r), _, 3, rfl, rfl, _, rfl, ?_⟩
      by_cases h3 : 3 ≤ mm.length
      · rw [show decide ((((mm ++ [r]).map V.int).length : Int) > 3) = true from decide_eq_true (by rw [hm]; omega)]
        obtain ⟨pre, b, c, d, rfl⟩ := last3 h3
        have hml : (pre ++ [b, c, d]).length = pre.length + 3 := by simp
        have el : pre ++ [b, c, d] ++ [r] = pre ++ b :: c :: d :: r :: [] := by simp
        have q0 : (pre ++ [b, c, d] ++ [r])[pre.length]? = some b := by rw [el, List.getElem?_append_right (by omega)]; simp
        have q1 : (pre ++ [b, c, d] ++ [r])[pre.length + 1]? = some c := by rw [el, List.getElem?_append_right (by omega)]; simp
        have q2 : (pre ++ [b, c, d] ++ [r])[pre.length + 2]? = some d := by rw [el, List.getElem?_append_right (by omega)]; simp
        have q3 : (pre ++ [b, c, d] ++ [r])[pre.length + 3]? = some r := by rw [el, List.getElem?_append_right (by omega)]; simp
        refine iteT ⟨.ref R, rfl, .ref R, rfl, R, _, rfl, .inl (SqL.of g.r), _, 3, rfl, rfl, R, pre ++ [b, c, d] ++ [r], pre.length, _, b, c, d, r, rfl, by rw [hm, hml]; omega, .inl (SqL.of g.r), zzm, q0, q1, q2, q3, fun H2 s2 => ⟨_, rfl, ?_⟩⟩
        have g2 := g.same s2
        rw [taken_get q0 q1 q2 q3]
        by_cases tk : Taken b c d r
        · rw [decide_eq_true tk]
          refine iteT ⟨fun σ Hx => ∃ m', m' < (pre ++ [b, c, d]).length ∧ ∃ (xs : List V) (cs : List (Int × Int)) (mm : List Int), m' = mm.length ∧ σ = [some (.ref R), some (.int r), some (.ref C)] ∧ Bhd H C R xs cs (mm ++ [r]) Hx ∧ Run (m ++ [r]) cs (mm ++ [r]) ∧ NF mm, fun _ _ z => z, ?_⟩
          have eR : H2 R = some (.lst ((pre ++ [b]).map V.int ++ [V.int c, V.int d, V.int r])) := by
            rw [g2.r]
            simp [List.map_append]
          refine ⟨.ref C, rfl, .inl ⟨rfl, _, SqL.of g2.c⟩, .ref R, rfl, 3, rfl, R, _, -3, .int c, rfl, rfl, SqL.of eR, atI_last3 _ _ _ _, .ref R, rfl, 2, rfl, R, _, -2, .int d, rfl, rfl, SqL.of eR, atI_last2' _ _ _ _, c, d, rfl, fun q nq => ?_⟩
          have s3 := same_new (o := .tup [.int (rg c d).1, .int (rg c d).2]) nq
          have g3 := (g2.same s3).cyc nC0 nCR (upd_same (H := H2) (a := q) (o := .tup [.int (rg c d).1, .int (rg c d).2]))
          have hxl : xs.length ≤ 2500 := by rw [g2.pa.length]; omega
          refine ⟨C, xs, .ref q, rfl, rfl, s3 _ _ g2.c, small3000 (by omega), ?_⟩
          have eR3 : (upd (upd H2 q (.tup [.int (rg c d).1, .int (rg c d).2])) C (.lst (xs ++ [.ref q]))) R = some (.lst ((pre ++ [b]).map V.int ++ [V.int c, V.int d, V.int r])) := by
            rw [upd_ne nCR.symm]
            exact s3 _ _ eR
          refine ⟨.ref R, rfl, 3, rfl, _, rfl, 1, rfl, _, rfl, rfl, rfl, R, (pre ++ [b]).map V.int, .int c, .int d, .int r, rfl, eR3, ?_⟩
          have g4 := g3.rest nCR (pre ++ [b] ++ [r])
          have e5 : (pre ++ [b]).map V.int ++ [V.int r] = (pre ++ [b] ++ [r]).map V.int := by simp [List.map_append]
          rw [e5]
          refine ⟨(pre ++ [b]).length, by simp, _, _, pre ++ [b], rfl, rfl, g4, ?_, nf_prefix (l := [c, d]) (by simpa using nf)⟩
          refine run.snoc ?_
          rw [el, List.append_assoc]
          exact (Step.here tk).prefix pre
        · rw [decide_eq_false tk]
          refine iteF ?_
          refine ⟨.ref C, rfl, hq _ C xs cs _ g2.ch nC0 g2.c g2.pa g2.r run (nf_push nf fun pre' b' c' d' e => ?_)⟩
          have e6 : pre' ++ [b', c', d', r] = (pre' ++ [b', c', d']) ++ [r] := by simp
          rw [e6] at e
          obtain ⟨e7, _⟩ := List.append_inj' e rfl
          obtain ⟨_, e8⟩ := List.append_inj' e7 rfl
          injection e8 with h1 h2
          injection h2 with h2 h3
          injection h3 with h3 _
          subst h1 h2 h3
          exact tk
      · rw [show decide ((((mm ++ [r]).map V.int).length : Int) > 3) = false from decide_eq_false (by rw [hm]; omega)]
        refine iteF ?_
        refine iteF ?_
        refine ⟨.ref C, rfl, hq _ C xs cs _ g.ch nC0 g.c g.pa g.r run (nf_push nf fun pre' b' c' d' e => ?_)⟩
        have : (mm ++ [r]).length = (pre' ++ [b', c', d', r]).length := by rw [e]
        simp only [List.length_append, List.length_cons, List.length_nil] at this
        omega
/-- what _counted holds -/
structure Stk (H : Hp) (C R : Addr) (xs : List V) (cs : List (Int × Int)) (rs : List Int) (Hx : Hp) : Prop where
  sm : Same H Hx
  c : Hx C = some (.lst xs)
  pa : PairsAt Hx xs cs
  r : Hx R = some (.lst (rs.map V.int))
def spCoL (K : PySem.W.Frag) : Sp := fun vs H Q _ => ∃ (a : Addr) (ns : List Int), vs = [.ref a] ∧ SqL K H a (ns.map V.int) ∧ ns.length ≤ 2500 ∧
  ∀ H' p c r xs cs rs, Same H H' → H p = none → H' p = some (.tup [.ref c, .ref r]) → H' c = some (.lst xs) → PairsAt H' xs cs → H' r = some (.lst (rs.map V.int)) → Run (tp ns) cs rs → NF rs → Q (.ref p) H'
def spCoT (K : PySem.W.Frag) : Sp := fun vs H Q _ => ∃ (a : Addr) (ns : List Int), vs = [.ref a] ∧ SqT K H a (ns.map V.int) ∧ ns.length ≤ 2500 ∧
  ∀ H' p c r xs cs rs, Same H H' → H p = none → H' p = some (.tup [.ref c, .ref r]) → H' c = some (.lst xs) → PairsAt H' xs cs → H' r = some (.lst (rs.map V.int)) → Run (tp ns) cs rs → NF rs → Q (.ref p) H'
theorem ok_Col {f fB : Addr} {fd fdB : FuncData} {k : Nat} (F : Fun K "_counted" "_counted" sCo f fd)
    (GB : FnOk P w K mg base CX0 (k + 3) fB fdB ["rest", "reading"] spPB) (gB : mg "put_behind" = some (.ref fB)) (kB : PySem.W.keepIn K (.ref fB) = true) (bB : Binds K fdB ["rest", "reading"] []) :
    FnOk P w K mg base CX0 (k + 4) f fd ["load"] (spCoL K) := by
  refine F.ok scCo (fun vs H Q E h => ?_) (fun cdv A outer s H vs Q E hr h => ?_)
  · obtain ⟨a, ns, rfl, _⟩ := h
    rfl
  · obtain ⟨a, ns, rfl, hS, hlen, hq⟩ := h
    refine ⟨_, pss_cons (ps_par (i := 1) (j := 2) (by rfl) scCo.nd rfl rfl (by decide) rfl rfl (pa_cons (pe_lst pa_nil) (pa_cons (pe_lst pa_nil) pa_nil)) (by rfl))
      (pss_cons (ps_for PassesOwn.never rfl (pi_list (pv 0)) (pg_name (i := 3) scCo.nd rfl (.inl rfl))
        (pss_one (ps_expr (pe_bm PySem.F.plainAttrs_list PySem.F.slot_list_extend PySem.F.type_list_extend mt_extend (pv 1) (pa_cons (pe_call GB hr (by rfl) gB kB bB .nil pass0 (pa_cons (pv 2) (pa_cons (pv 3) pa_nil))) pa_nil)))))
      (pss_one (ps_ret (pe_tup (pa_cons (pv 1) (pa_cons (pv 2) pa_nil)))))), ?_⟩
    refine ⟨Nat.zero_le _, fun C nC => ⟨Nat.zero_le _, fun R nR => ⟨.ref C, .ref R, rfl, ?_⟩⟩⟩
    have nCR : C ≠ R := fun z => by rw [← z, upd_same] at nR; cases nR
    have nR0 : H R = none := (same_new nC).free nR
    have sm0 : Same H (upd (upd H C (.lst [])) R (.lst [])) := (same_new nC).trans (same_new nR)
    have eC0 : (upd (upd H C (.lst [])) R (.lst [])) C = some (.lst []) := by rw [upd_ne nCR, upd_same]
    have eR0 : (upd (upd H C (.lst [])) R (.lst [])) R = some (.lst []) := upd_same
    generalize upd (upd H C (.lst [])) R (.lst []) = H0 at sm0 eC0 eR0 ⊢
    have hts : ∀ i, tp (ns.take i) = tp (ns.take i) := fun _ => rfl
    refine ⟨.ref a, rfl, a, rfl, ⟨_, sm0.seq hS⟩, for_list (K := K) (a := a) (xs := ns.map V.int) (fun i σ Hx => ∃ (xs : List V) (cs : List (Int × Int)) (rs : List Int) (r3 : Option V), σ = [some (.ref a), some (.ref C), some (.ref R), r3] ∧
      Stk H C R xs cs rs Hx ∧ Run (tp (ns.take i)) cs rs ∧ NF rs) ?_ ?_ ?_ ?_⟩
    · exact ⟨[], [], [], none, rfl, ⟨sm0, eC0, trivial, eR0⟩, .nil _, fun c q s => by have := s.len; simp at this⟩
    · rintro i σ Hx _ ⟨xs, cs, rs, r3, rfl, g, _⟩
      exact g.sm.seq hS
    · rintro i x σ Hx hx ⟨xs, cs, rs, r3, rfl, g, run, nf⟩
      obtain ⟨r, hr2, rfl⟩ := int_at hx
      have hin : i < ns.length := (List.getElem?_eq_some_iff.mp hr2).1
      have hrl := run.len
      have htl := tp_len (ns.take i)
      rw [List.length_take] at htl
      have zz := run.zz (tp_zz (ns.take i))
      refine ⟨.ref C, rfl, .inl ⟨rfl, _, SqL.of g.c⟩, .ref R, rfl, .int r, rfl, R, rs, r, rfl, g.r, zz, nf, by omega, fun H2 p ys cs2 rs2 ch np ep pa2 eR2 run2 nf2 => ?_⟩
      have eC2 : H2 C = some (.lst xs) := ch _ _ nCR g.c
      have npC : p ≠ C := fun z => by rw [z, g.c] at np; cases np
      have npR : p ≠ R := fun z => by rw [z, g.r] at np; cases np
      have sm2 : Same H H2 := fun b o e => ch b o (ne_of_none e nR0) (g.sm b o e)
      have run3 := stream hr2 run run2
      have hrl3 := run3.len
      have htl3 := tp_len (ns.take (i + 1))
      rw [List.length_take] at htl3
      have hxl := g.pa.length
      have hyl := pa2.length
      rw [List.length_append] at hrl3
      refine ⟨C, p, xs, ys, rfl, rfl, eC2, ep, Nat.le_of_lt (small3000 (by omega)), _, cs ++ cs2, rs2, _, rfl, ⟨same_again nC sm2, upd_same, ?_, by rw [upd_ne nCR.symm]; exact eR2⟩, run3, nf2⟩
      exact PairsAt.append (pairs_upd eC2 (ch_pairs ch g.r g.pa)) (pairs_upd eC2 pa2)
    · rintro σ Hx ⟨xs, cs, rs, r3, rfl, g, run, nf⟩
      have et2 : ns.take (ns.map V.int).length = ns := by rw [List.length_map]; exact List.take_length
      rw [et2] at run
      refine ⟨.ref C, rfl, .ref R, rfl, by show 2 ≤ sizeLine; decide, fun p np => ?_⟩
      have sp := same_new (o := .tup [.ref C, .ref R]) np
      exact hq _ p C R xs cs rs (g.sm.trans sp) (g.sm.free np) upd_same (sp _ _ g.c) (g.pa.same sp) (sp _ _ g.r) run nf
theorem ok_Cot {f fB : Addr} {fd fdB : FuncData} {k : Nat} (F : Fun K "_counted" "_counted" sCo f fd)
    (GB : FnOk P w K mg base CX0 (k + 3) fB fdB ["rest", "reading"] spPB) (gB : mg "put_behind" = some (.ref fB)) (kB : PySem.W.keepIn K (.ref fB) = true) (bB : Binds K fdB ["rest", "reading"] []) :
    FnOk P w K mg base CX0 (k + 4) f fd ["load"] (spCoT K) := by
  refine F.ok scCo (fun vs H Q E h => ?_) (fun cdv A outer s H vs Q E hr h => ?_)
  · obtain ⟨a, ns, rfl, _⟩ := h
    rfl
  · obtain ⟨a, ns, rfl, hS, hlen, hq⟩ := h
    refine ⟨_, pss_cons (ps_par (i := 1) (j := 2) (by rfl) scCo.nd rfl rfl (by decide) rfl rfl (pa_cons (pe_lst pa_nil) (pa_cons (pe_lst pa_nil) pa_nil)) (by rfl))
      (pss_cons (ps_for PassesOwn.never rfl (pi_tup (pv 0)) (pg_name (i := 3) scCo.nd rfl (.inl rfl))
        (pss_one (ps_expr (pe_bm PySem.F.plainAttrs_list PySem.F.slot_list_extend PySem.F.type_list_extend mt_extend (pv 1) (pa_cons (pe_call GB hr (by rfl) gB kB bB .nil pass0 (pa_cons (pv 2) (pa_cons (pv 3) pa_nil))) pa_nil)))))
      (pss_one (ps_ret (pe_tup (pa_cons (pv 1) (pa_cons (pv 2) pa_nil)))))), ?_⟩
    refine ⟨Nat.zero_le _, fun C nC => ⟨Nat.zero_le _, fun R nR => ⟨.ref C, .ref R, rfl, ?_⟩⟩⟩
    have nCR : C ≠ R := fun z => by rw [← z, upd_same] at nR; cases nR
    have nR0 : H R = none := (same_new nC).free nR
    have sm0 : Same H (upd (upd H C (.lst [])) R (.lst [])) := (same_new nC).trans (same_new nR)
    have eC0 : (upd (upd H C (.lst [])) R (.lst [])) C = some (.lst []) := by rw [upd_ne nCR, upd_same]
    have eR0 : (upd (upd H C (.lst [])) R (.lst [])) R = some (.lst []) := upd_same
    generalize upd (upd H C (.lst [])) R (.lst []) = H0 at sm0 eC0 eR0 ⊢
    have hts : ∀ i, tp (ns.take i) = tp (ns.take i) := fun _ => rfl
    refine ⟨.ref a, rfl, a, rfl, ⟨_, SqT_same sm0 hS⟩, for_tup (K := K) (a := a) (xs := ns.map V.int) (fun i σ Hx => ∃ (xs : List V) (cs : List (Int × Int)) (rs : List Int) (r3 : Option V), σ = [some (.ref a), some (.ref C), some (.ref R), r3] ∧
      Stk H C R xs cs rs Hx ∧ Run (tp (ns.take i)) cs rs ∧ NF rs) ?_ ?_ ?_ ?_⟩
    · exact ⟨[], [], [], none, rfl, ⟨sm0, eC0, trivial, eR0⟩, .nil _, fun c q s => by have := s.len; simp at this⟩
    · rintro i σ Hx _ ⟨xs, cs, rs, r3, rfl, g, _⟩
      exact SqT_same g.sm hS
    · rintro i x σ Hx hx ⟨xs, cs, rs, r3, rfl, g, run, nf⟩
      obtain ⟨r, hr2, rfl⟩ := int_at hx
      have hin : i < ns.length := (List.getElem?_eq_some_iff.mp hr2).1
      have hrl := run.len
      have htl := tp_len (ns.take i)
      rw [List.length_take] at htl
      have zz := run.zz (tp_zz (ns.take i))
      refine ⟨.ref C, rfl, .inl ⟨rfl, _, SqL.of g.c⟩, .ref R, rfl, .int r, rfl, R, rs, r, rfl, g.r, zz, nf, by omega, fun H2 p ys cs2 rs2 ch np ep pa2 eR2 run2 nf2 => ?_⟩
      have eC2 : H2 C = some (.lst xs) := ch _ _ nCR g.c
      have npC : p ≠ C := fun z => by rw [z, g.c] at np; cases np
      have npR : p ≠ R := fun z => by rw [z, g.r] at np; cases np
      have sm2 : Same H H2 := fun b o e => ch b o (ne_of_none e nR0) (g.sm b o e)
      have run3 := stream hr2 run run2
      have hrl3 := run3.len
      have htl3 := tp_len (ns.take (i + 1))
      rw [List.length_take] at htl3
      have hxl := g.pa.length
      have hyl := pa2.length
      rw [List.length_append] at hrl3
      refine ⟨C, p, xs, ys, rfl, rfl, eC2, ep, Nat.le_of_lt (small3000 (by omega)), _, cs ++ cs2, rs2, _, rfl, ⟨same_again nC sm2, upd_same, ?_, by rw [upd_ne nCR.symm]; exact eR2⟩, run3, nf2⟩
      exact PairsAt.append (pairs_upd eC2 (ch_pairs ch g.r g.pa)) (pairs_upd eC2 pa2)
    · rintro σ Hx ⟨xs, cs, rs, r3, rfl, g, run, nf⟩
      have et2 : ns.take (ns.map V.int).length = ns := by rw [List.length_map]; exact List.take_length
      rw [et2] at run
      refine ⟨.ref C, rfl, .ref R, rfl, by show 2 ≤ sizeLine; decide, fun p np => ?_⟩
      have sp := same_new (o := .tup [.ref C, .ref R]) np
      exact hq _ p C R xs cs rs (g.sm.trans sp) (g.sm.free np) upd_same (sp _ _ g.c) (g.pa.same sp) (sp _ _ g.r) run nf
def spCo (K : PySem.W.Frag) : Sp := fun vs H Q _ => ∃ (a : Addr) (ns : List Int), vs = [.ref a] ∧ Sq K H a (ns.map V.int) ∧ ns.length ≤ 2500 ∧
  ∀ H' p c r xs cs rs, Same H H' → H p = none → H' p = some (.tup [.ref c, .ref r]) → H' c = some (.lst xs) → PairsAt H' xs cs → H' r = some (.lst (rs.map V.int)) → Run (tp ns) cs rs → NF rs → Q (.ref p) H'
theorem ok_Co {f fB : Addr} {fd fdB : FuncData} {k : Nat} (F : Fun K "_counted" "_counted" sCo f fd)
    (GB : FnOk P w K mg base CX0 (k + 3) fB fdB ["rest", "reading"] spPB) (gB : mg "put_behind" = some (.ref fB)) (kB : PySem.W.keepIn K (.ref fB) = true) (bB : Binds K fdB ["rest", "reading"] []) :
    FnOk P w K mg base CX0 (k + 4) f fd ["load"] (spCo K) :=
  (both (ok_Col F GB gB kB bB) (ok_Cot F GB gB kB bB)).imp fun vs H Q E ⟨a, ns, e, hs, hl, q⟩ => hs.elim (fun z => .inl ⟨a, ns, e, z, hl, q⟩) (fun z => .inr ⟨a, ns, e, z, hl, q⟩)
end
end QG

/-! changes of a load, as mathematics -/
namespace KM
/-- how often a letter differs from the one before, the first of all being a -/
def cf : Bool → List Bool → Nat
  | _, [] => 0
  | a, b :: r => (if a = b then 0 else 1) + cf b r
def cnt : List Bool → Nat
  | [] => 0
  | a :: r => cf a r
def cfO : Option Bool → List Bool → Nat
  | none, l => cnt l
  | some a, l => cf a l
/-- the letter of a reading: true for L -/
def lett (lo hi : Int) (r : Int) : Option Bool := if r ≤ lo then some true else if hi ≤ r then some false else none
def lets (lo hi : Int) (ns : List Int) : List Bool := ns.filterMap (lett lo hi)
def chg (ns : List Int) (lo hi : Int) : Nat := cnt (lets lo hi ns)
theorem cf_tri (a b : Bool) : ∀ l : List Bool, cf a l ≤ (if a = b then 0 else 1) + cf b l
  | [] => Nat.zero_le _
  | c :: r => by
    simp only [cf]
    cases a <;> cases b <;> cases c <;> simp <;> omega
theorem cf_mono : ∀ {l m : List Bool}, l.Sublist m → ∀ a, cf a l ≤ cf a m := by
  intro l m h
  induction h with
  | slnil => intro a; exact Nat.le_refl _
  | @cons l m b h ih =>
    intro a
    have h1 := cf_tri a b l
    have h2 := ih b
    simp only [cf]
    omega
  | @cons_cons l m b h ih =>
    intro a
    have h2 := ih b
    simp only [cf]
    omega
theorem cnt_mono : ∀ {l m : List Bool}, l.Sublist m → cnt l ≤ cnt m := by
  intro l m h
  induction h with
  | slnil => exact Nat.le_refl _
  | @cons l m b h ih =>
    cases m with
    | nil =>
      cases h
      exact Nat.le_refl _
    | cons d r =>
      show cnt l ≤ (if b = d then 0 else 1) + cf d r
      have : cnt (d :: r) = cf d r := rfl
      omega
  | @cons_cons l m b h ih => exact cf_mono h b
theorem lets_sub {lo hi lo2 hi2 : Int} (h1 : lo ≤ lo2) (h2 : hi2 ≤ hi) (h3 : lo2 < hi2) : ∀ ns : List Int, (lets lo hi ns).Sublist (lets lo2 hi2 ns)
  | [] => .slnil
  | r :: t => by
    have ih := lets_sub h1 h2 h3 t
    have key : lett lo hi r = none ∨ lett lo hi r = lett lo2 hi2 r := by
      unfold lett
      by_cases a : r ≤ lo
      · right
        rw [if_pos a, if_pos (by omega)]
      · rw [if_neg a]
        by_cases b : hi ≤ r
        · right
          rw [if_pos b, if_neg (by omega), if_pos (by omega)]
        · left
          rw [if_neg b]
    show ((r :: t).filterMap (lett lo hi)).Sublist ((r :: t).filterMap (lett lo2 hi2))
    rw [List.filterMap_cons, List.filterMap_cons]
    rcases key with e | e
    · rw [e]
      dsimp only
      cases lett lo2 hi2 r with
      | none => exact ih
      | some b => exact .cons _ ih
    · rw [← e]
      cases lett lo hi r with
      | none => exact ih
      | some b => exact .cons_cons _ ih
theorem chg_range {lo hi lo2 hi2 : Int} (h1 : lo ≤ lo2) (h2 : hi2 ≤ hi) (h3 : lo2 < hi2) (ns : List Int) : chg ns lo hi ≤ chg ns lo2 hi2 := cnt_mono (lets_sub h1 h2 h3 ns)
theorem chg_sub {l m : List Int} (h : l.Sublist m) (lo hi : Int) : chg l lo hi ≤ chg m lo hi := cnt_mono (h.filterMap _)
theorem chg_put (ns : List Int) (k : Nat) (v lo hi : Int) : chg ns lo hi ≤ chg (ns.take k ++ [v] ++ ns.drop k) lo hi := by
  refine chg_sub ?_ lo hi
  have e : ns = ns.take k ++ ns.drop k := (List.take_append_drop k ns).symm
  have h1 : (ns.take k).Sublist (ns.take k ++ [v]) := List.sublist_append_left _ _
  have h2 := h1.append (List.Sublist.refl (ns.drop k))
  rw [List.take_append_drop] at h2
  exact h2
theorem lets_drop {lo hi : Int} {ns : List Int} {i : Nat} {r : Int} (h : ns[i]? = some r) : lets lo hi (ns.drop i) = (match lett lo hi r with | none => lets lo hi (ns.drop (i + 1)) | some b => b :: lets lo hi (ns.drop (i + 1))) := by
  obtain ⟨h1, h2⟩ := List.getElem?_eq_some_iff.mp h
  rw [List.drop_eq_getElem_cons h1, h2]
  unfold lets
  rw [List.filterMap_cons]
  cases lett lo hi r <;> rfl
theorem lets_take {lo hi : Int} {ns : List Int} {i : Nat} {r : Int} (h : ns[i]? = some r) : lets lo hi (ns.take (i + 1)) = (match lett lo hi r with | none => lets lo hi (ns.take i) | some b => lets lo hi (ns.take i) ++ [b]) := by
  rw [List.take_add_one, h]
  unfold lets
  rw [List.filterMap_append]
  show _ ++ List.filterMap _ [r] = _
  rw [List.filterMap_cons]
  cases lett lo hi r with
  | none => simp
  | some b => rfl
theorem lets_len (lo hi : Int) (ns : List Int) : (lets lo hi ns).length ≤ ns.length := List.length_filterMap_le _ _
/-- the number of turns of a zip with itself, one on, whose two differ -/
theorem cnt_drop {l : List Bool} {i : Nat} {a b : Bool} (h1 : l[i]? = some a) (h2 : l[i + 1]? = some b) : cnt (l.drop i) = (if a = b then 0 else 1) + cnt (l.drop (i + 1)) := by
  obtain ⟨k1, e1⟩ := List.getElem?_eq_some_iff.mp h1
  obtain ⟨k2, e2⟩ := List.getElem?_eq_some_iff.mp h2
  rw [List.drop_eq_getElem_cons k1, e1, List.drop_eq_getElem_cons k2, e2]
  rfl
theorem cnt_end {l : List Bool} {i : Nat} (h : l.length ≤ i + 1) : cnt (l.drop i) = 0 := by
  have : (l.drop i).length ≤ 1 := by rw [List.length_drop]; omega
  match l.drop i, this with
  | [], _ => rfl
  | [_], _ => rfl
end KM

/-! changes decide the half-cycles, as mathematics -/
namespace RC
open KM PM RM RN
/-- a range holds another one -/
def hl (lo hi : Int) (r : Int × Int) : Bool := decide (r.1 ≤ lo) && decide (hi ≤ r.2)
def nh (lo hi : Int) (rs : List (Int × Int)) : Nat := rs.countP (hl lo hi)
def b1 (b : Bool) : Nat := if b = true then 1 else 0
theorem nh_cons (lo hi : Int) (r : Int × Int) (rs : List (Int × Int)) : nh lo hi (r :: rs) = b1 (hl lo hi r) + nh lo hi rs := by
  unfold nh b1
  rw [List.countP_cons]
  omega
theorem nh_app (lo hi : Int) (rs ss : List (Int × Int)) : nh lo hi (rs ++ ss) = nh lo hi rs + nh lo hi ss := List.countP_append
theorem nh_perm {lo hi : Int} {rs ss : List (Int × Int)} (h : rs.Perm ss) : nh lo hi rs = nh lo hi ss := h.countP_eq _
/-- a letter is read, some before -/
def cl (lo hi : Int) (o : Option Bool) (ns : List Int) : Nat := cfO o (lets lo hi ns)
def d2 (o : Option Bool) (b : Bool) : Nat := match o with
  | none => 0
  | some a => if a = b then 0 else 1
theorem cl_nil (lo hi : Int) (o : Option Bool) : cl lo hi o [] = 0 := by cases o <;> rfl
theorem cl_cons (lo hi : Int) (o : Option Bool) (x : Int) (ns : List Int) : cl lo hi o (x :: ns) = match lett lo hi x with
    | none => cl lo hi o ns
    | some b => d2 o b + cl lo hi (some b) ns := by
  unfold cl lets
  rw [List.filterMap_cons]
  cases lett lo hi x with
  | none => rfl
  | some b =>
    cases o with
    | none => show cf b _ = 0 + cf b _; omega
    | some a => rfl
theorem lett_lo {lo hi x : Int} (h : x ≤ lo) : lett lo hi x = some true := if_pos h
theorem lett_hi {lo hi x : Int} (h0 : lo < hi) (h : hi ≤ x) : lett lo hi x = some false := by unfold lett; rw [if_neg (by omega), if_pos h]
theorem lett_no {lo hi x : Int} (h1 : lo < x) (h2 : x < hi) : lett lo hi x = none := by unfold lett; rw [if_neg (by omega), if_neg (by omega)]
theorem lett3 (lo hi x : Int) (h0 : lo < hi) : (x ≤ lo ∧ lett lo hi x = some true) ∨ (hi ≤ x ∧ lett lo hi x = some false) ∨ (lo < x ∧ x < hi ∧ lett lo hi x = none) := by
  by_cases a : x ≤ lo
  · exact .inl ⟨a, lett_lo a⟩
  · by_cases b : hi ≤ x
    · exact .inr (.inl ⟨b, lett_hi h0 b⟩)
    · exact .inr (.inr ⟨by omega, by omega, lett_no (by omega) (by omega)⟩)
theorem hl_iff {lo hi : Int} {a b : Int} : hl lo hi (a, b) = decide (a ≤ lo ∧ hi ≤ b) := by
  unfold hl
  by_cases h1 : a ≤ lo <;> by_cases h2 : hi ≤ b <;> simp [h1, h2]
theorem four_up {lo hi a b c d : Int} (h0 : lo < hi) (post : List Int) (o : Option Bool) (h1 : a ≤ c) (h2 : c < b) (h3 : b ≤ d) : cl lo hi o (a :: b :: c :: d :: post) = cl lo hi o (a :: d :: post) + 2 * b1 (hl lo hi (c, b)) := by
  rw [hl_iff]
  simp only [cl_cons]
  rcases lett3 lo hi a h0 with ⟨x1, e1⟩ | ⟨x1, e1⟩ | ⟨x1, y1, e1⟩ <;> rcases lett3 lo hi b h0 with ⟨x2, e2⟩ | ⟨x2, e2⟩ | ⟨x2, y2, e2⟩ <;> rcases lett3 lo hi c h0 with ⟨x3, e3⟩ | ⟨x3, e3⟩ | ⟨x3, y3, e3⟩ <;> rcases lett3 lo hi d h0 with ⟨x4, e4⟩ | ⟨x4, e4⟩ | ⟨x4, y4, e4⟩ <;> first
    | (exfalso; omega)
    | (rw [decide_eq_true (by omega), e1, e2, e3, e4]; simp only [d2, b1]; cases o with
        | none => simp <;> omega
        | some p => cases p <;> simp <;> omega)
    | (rw [decide_eq_false (by omega), e1, e2, e3, e4]; simp only [d2, b1]; cases o with
        | none => simp
        | some p => cases p <;> simp)
theorem four_down {lo hi a b c d : Int} (h0 : lo < hi) (post : List Int) (o : Option Bool) (h1 : c ≤ a) (h2 : b < c) (h3 : d ≤ b) : cl lo hi o (a :: b :: c :: d :: post) = cl lo hi o (a :: d :: post) + 2 * b1 (hl lo hi (b, c)) := by
  rw [hl_iff]
  simp only [cl_cons]
  rcases lett3 lo hi a h0 with ⟨x1, e1⟩ | ⟨x1, e1⟩ | ⟨x1, y1, e1⟩ <;> rcases lett3 lo hi b h0 with ⟨x2, e2⟩ | ⟨x2, e2⟩ | ⟨x2, y2, e2⟩ <;> rcases lett3 lo hi c h0 with ⟨x3, e3⟩ | ⟨x3, e3⟩ | ⟨x3, y3, e3⟩ <;> rcases lett3 lo hi d h0 with ⟨x4, e4⟩ | ⟨x4, e4⟩ | ⟨x4, y4, e4⟩ <;> first
    | (exfalso; omega)
    | (rw [decide_eq_true (by omega), e1, e2, e3, e4]; simp only [d2, b1]; cases o with
        | none => simp <;> omega
        | some p => cases p <;> simp <;> omega)
    | (rw [decide_eq_false (by omega), e1, e2, e3, e4]; simp only [d2, b1]; cases o with
        | none => simp
        | some p => cases p <;> simp)
theorem cl_step {lo hi : Int} (h0 : lo < hi) {p q : List Int} {c : Int × Int} (h : Step p c q) : ZZ p → ∀ o, cl lo hi o p = cl lo hi o q + 2 * b1 (hl lo hi c) := by
  induction h with
  | @here a b c d post t =>
    intro z o
    rcases (taken_iff z.four).mp t with ⟨x1, x2, x3, x4, x5⟩ | ⟨x1, x2, x3, x4, x5⟩
    · rw [rg_down x2]; exact four_up h0 post o x4 x2 x5
    · rw [rg_up x2]; exact four_down h0 post o x4 x2 x5
  | @there x p q cy s ih =>
    intro z o
    rw [cl_cons, cl_cons]
    cases lett lo hi x with
    | none => exact ih z.tail o
    | some b =>
      have := ih z.tail (some b)
      show d2 o b + cl lo hi (some b) p = d2 o b + cl lo hi (some b) q + _
      omega
theorem cl_run {lo hi : Int} (h0 : lo < hi) {p q : List Int} {cs : List (Int × Int)} (h : Run p cs q) : ZZ p → ∀ o, cl lo hi o p = cl lo hi o q + 2 * nh lo hi cs := by
  induction h with
  | nil p => intro _ o; rfl
  | cons s _ ih =>
    intro z o
    rw [cl_step h0 s z o, ih (ZZ.step s z) o, nh_cons]
    omega
/-! the load and its turning points -/
theorem cl_same {lo hi : Int} (o : Option Bool) (a : Int) (l : List Int) : cl lo hi o (a :: a :: l) = cl lo hi o (a :: l) := by
  simp only [cl_cons]
  cases lett lo hi a with
  | none => rfl
  | some b => simp [d2]
theorem cl_btw {lo hi : Int} (h0 : lo < hi) (o : Option Bool) {b a r : Int} (l : List Int) (h : Btw a b r) : cl lo hi o (b :: a :: r :: l) = cl lo hi o (b :: r :: l) := by
  simp only [cl_cons]
  rcases lett3 lo hi a h0 with ⟨x1, e1⟩ | ⟨x1, e1⟩ | ⟨x1, y1, e1⟩ <;> rcases lett3 lo hi b h0 with ⟨x2, e2⟩ | ⟨x2, e2⟩ | ⟨x2, y2, e2⟩ <;> rcases lett3 lo hi r h0 with ⟨x3, e3⟩ | ⟨x3, e3⟩ | ⟨x3, y3, e3⟩ <;> first
    | (exfalso; omega)
    | (rw [e1, e2, e3]; done)
    | (rw [e1, e2, e3]; cases o with
        | none => simp [d2]
        | some p => cases p <;> simp [d2])
theorem cl_tq {lo hi : Int} (h0 : lo < hi) : ∀ (l : List Int) (o : Option Bool) (b a : Int), cl lo hi o (b :: tq b a l) = cl lo hi o (b :: a :: l)
  | [], _, _, _ => rfl
  | r :: l, o, b, a => by
    simp only [tq]
    by_cases e : a = r
    · rw [if_pos e, cl_tq h0 l o b a, ← e, cl_cons lo hi o b (a :: a :: l), cl_cons lo hi o b (a :: l)]
      cases lett lo hi b with
      | none => exact (cl_same _ _ _).symm
      | some x => exact congrArg _ (cl_same _ _ _).symm
    · rw [if_neg e]
      by_cases bt : Btw a b r
      · rw [if_pos bt, cl_tq h0 l o b r, cl_btw h0 o l bt]
      · rw [if_neg bt, cl_cons lo hi o b (a :: tq a r l), cl_cons lo hi o b (a :: r :: l)]
        cases lett lo hi b with
        | none => exact cl_tq h0 l o a r
        | some x => exact congrArg (d2 o x + ·) (cl_tq h0 l (some x) a r)
theorem cl_ts {lo hi : Int} (h0 : lo < hi) : ∀ (l : List Int) (o : Option Bool) (a : Int), cl lo hi o (ts a l) = cl lo hi o (a :: l)
  | [], _, _ => rfl
  | r :: l, o, a => by
    simp only [ts]
    by_cases e : a = r
    · rw [if_pos e, cl_ts h0 l o a, ← e, cl_same]
    · rw [if_neg e, cl_tq h0 l o a r]
theorem cl_tp {lo hi : Int} (h0 : lo < hi) (ns : List Int) : cl lo hi none (tp ns) = chg ns lo hi := by
  cases ns with
  | nil => rfl
  | cons a l => exact cl_ts h0 l none a
/-! the rest: swings that grow and then shrink -/
def In (u v : Int) (ps : List Int) : Prop := ∀ x ∈ ps, u ≤ x ∧ x ≤ v
/-- each swing within the one before -/
def Con : List Int → Prop
  | x :: y :: z :: r => ((y < x ∧ y < z ∧ z ≤ x) ∨ (x < y ∧ z < y ∧ x ≤ z)) ∧ Con (y :: z :: r)
  | _ => True
theorem Con.inside : ∀ {r : List Int} {x y : Int}, Con (x :: y :: r) → x ≠ y → In (if x < y then x else y) (if x < y then y else x) (x :: y :: r)
  | [], x, y, _, h => by
    intro w hw
    rcases List.mem_cons.mp hw with e | hw
    · subst e; split <;> omega
    · rcases List.mem_cons.mp hw with e | hw
      · subst e; split <;> omega
      · exact absurd hw (List.not_mem_nil)
  | z :: r, x, y, c, h => by
    have ih := Con.inside c.2 (by have := c.1; omega)
    intro w hw
    have c1 := c.1
    rcases List.mem_cons.mp hw with e | hw
    · subst e; split <;> omega
    · have := ih w hw
      by_cases e1 : y < z
      · rw [if_pos e1, if_pos e1] at this
        rw [if_neg (by omega), if_neg (by omega)]
        omega
      · rw [if_neg e1, if_neg e1] at this
        rw [if_pos (by omega), if_pos (by omega)]
        omega
theorem nf_con : ∀ {r : List Int} {x y z : Int}, ZZ (x :: y :: z :: r) → NF (x :: y :: z :: r) → ((y < x ∧ z ≤ x) ∨ (x < y ∧ x ≤ z)) → Con (x :: y :: z :: r)
  | [], x, y, z, zz, _, h => ⟨by have := zz.1; omega, trivial⟩
  | w :: r, x, y, z, zz, n, h => by
    have z1 := zz.1
    have z2 := zz.2.1
    refine ⟨by omega, nf_con zz.2 (fun c q s => n _ _ (.there s)) ?_⟩
    have nt : ¬ Taken x y z w := fun t => n _ _ (.here t)
    rw [taken_iff zz.four] at nt
    omega
theorem one_letter {lo hi : Int} {b : Bool} : ∀ (l : List Int) (o : Option Bool), (o = none ∨ o = some b) → (∀ x ∈ l, lett lo hi x = none ∨ lett lo hi x = some b) → cl lo hi o l = 0
  | [], o, _, _ => cl_nil lo hi o
  | x :: l, o, h1, h2 => by
    have ih := fun o h => one_letter l o h (fun x hx => h2 x (List.mem_cons_of_mem _ hx))
    rw [cl_cons]
    rcases h2 x List.mem_cons_self with e | e
    · rw [e]; exact ih o h1
    · rw [e]
      show d2 o b + cl lo hi (some b) l = 0
      rw [ih _ (.inr rfl)]
      rcases h1 with e | e
      · rw [e]; rfl
      · rw [e]; simp [d2]
theorem con_one {lo hi x y : Int} (h0 : lo < hi) {r : List Int} (h : In (if x < y then x else y) (if x < y then y else x) (x :: y :: r)) (ne : x ≠ y) : cl lo hi none (x :: y :: r) = b1 (hl lo hi (rg x y)) + cl lo hi none (y :: r) := by
  have out : ∀ u v, u < v → In u v (x :: y :: r) → hl lo hi (u, v) = false → cl lo hi none (x :: y :: r) = 0 ∧ cl lo hi none (y :: r) = 0 := by
    intro u v huv hin hn
    rw [hl_iff] at hn
    have hn := of_decide_eq_false hn
    by_cases a : u ≤ lo
    · have hb : v < hi := by omega
      have key : ∀ w ∈ x :: y :: r, lett lo hi w = none ∨ lett lo hi w = some true := fun w hw => by
        have := hin w hw
        rcases lett3 lo hi w h0 with ⟨_, e⟩ | ⟨z, e⟩ | ⟨_, _, e⟩
        · exact .inr e
        · omega
        · exact .inl e
      exact ⟨one_letter _ _ (.inl rfl) key, one_letter _ _ (.inl rfl) fun w hw => key w (List.mem_cons_of_mem _ hw)⟩
    · have key : ∀ w ∈ x :: y :: r, lett lo hi w = none ∨ lett lo hi w = some false := fun w hw => by
        have := hin w hw
        rcases lett3 lo hi w h0 with ⟨z, e⟩ | ⟨z, e⟩ | ⟨_, _, e⟩
        · omega
        · exact .inr e
        · exact .inl e
      exact ⟨one_letter _ _ (.inl rfl) key, one_letter _ _ (.inl rfl) fun w hw => key w (List.mem_cons_of_mem _ hw)⟩
  rcases (show x < y ∨ y < x by omega) with h1 | h1
  · rw [if_pos h1, if_pos h1] at h
    rw [rg_up h1]
    cases e : hl lo hi (x, y) with
    | false => obtain ⟨e1, e2⟩ := out x y h1 h e; rw [e1, e2]; rfl
    | true =>
      rw [hl_iff] at e
      have e := of_decide_eq_true e
      rw [cl_cons lo hi none x, cl_cons lo hi none y, lett_lo e.1, lett_hi h0 e.2]
      show d2 none true + cl lo hi (some true) (y :: r) = b1 true + (d2 none false + cl lo hi (some false) r)
      rw [cl_cons, lett_hi h0 e.2]
      simp [d2, b1]
  · rw [if_neg (by omega), if_neg (by omega)] at h
    rw [rg_down h1]
    cases e : hl lo hi (y, x) with
    | false => obtain ⟨e1, e2⟩ := out y x h1 h e; rw [e1, e2]; rfl
    | true =>
      rw [hl_iff] at e
      have e := of_decide_eq_true e
      rw [cl_cons lo hi none x, cl_cons lo hi none y, lett_lo e.1, lett_hi h0 e.2]
      show d2 none false + cl lo hi (some false) (y :: r) = b1 true + (d2 none true + cl lo hi (some true) r)
      rw [cl_cons, lett_lo e.1]
      simp [d2, b1]
theorem wide_one {lo hi x y z : Int} (h0 : lo < hi) {r : List Int} (h : (y < x ∧ x < z) ∨ (x < y ∧ z < x)) : cl lo hi none (x :: y :: z :: r) = b1 (hl lo hi (rg x y)) + cl lo hi none (y :: z :: r) := by
  rcases h with ⟨h1, h2⟩ | ⟨h1, h2⟩
  · rw [rg_down h1, hl_iff]
    simp only [cl_cons]
    rcases lett3 lo hi x h0 with ⟨x1, e1⟩ | ⟨x1, e1⟩ | ⟨x1, y1, e1⟩ <;> rcases lett3 lo hi y h0 with ⟨x2, e2⟩ | ⟨x2, e2⟩ | ⟨x2, y2, e2⟩ <;> rcases lett3 lo hi z h0 with ⟨x3, e3⟩ | ⟨x3, e3⟩ | ⟨x3, y3, e3⟩ <;> first
      | (exfalso; omega)
      | (rw [decide_eq_true (by omega), e1, e2, e3]; simp [d2, b1]; done)
      | (rw [decide_eq_false (by omega), e1, e2, e3]; simp [d2, b1]; done)
  · rw [rg_up h1, hl_iff]
    simp only [cl_cons]
    rcases lett3 lo hi x h0 with ⟨x1, e1⟩ | ⟨x1, e1⟩ | ⟨x1, y1, e1⟩ <;> rcases lett3 lo hi y h0 with ⟨x2, e2⟩ | ⟨x2, e2⟩ | ⟨x2, y2, e2⟩ <;> rcases lett3 lo hi z h0 with ⟨x3, e3⟩ | ⟨x3, e3⟩ | ⟨x3, y3, e3⟩ <;> first
      | (exfalso; omega)
      | (rw [decide_eq_true (by omega), e1, e2, e3]; simp [d2, b1]; done)
      | (rw [decide_eq_false (by omega), e1, e2, e3]; simp [d2, b1]; done)
theorem nf_nh {lo hi : Int} (h0 : lo < hi) : ∀ (ps : List Int), ZZ ps → NF ps → cl lo hi none ps = nh lo hi (sw ps)
  | [], _, _ => rfl
  | [x], _, _ => by
    rw [cl_cons]
    cases lett lo hi x <;> rfl
  | [x, y], zz, _ => by
    have zz : x ≠ y := zz
    show _ = nh lo hi [rg x y]
    rw [nh_cons, con_one h0 (Con.inside (r := []) (x := x) (y := y) (show Con [x, y] from trivial) zz) zz]
    show _ + cl lo hi none [y] = _ + 0
    rw [cl_cons]
    cases lett lo hi y <;> rfl
  | x :: y :: z :: r, zz, n => by
    have ih := nf_nh h0 (y :: z :: r) zz.2 (fun c q s => n _ _ (.there s))
    show _ = nh lo hi (rg x y :: sw (y :: z :: r))
    rw [nh_cons, ← ih]
    have z1 := zz.1
    by_cases h : (y < x ∧ z ≤ x) ∨ (x < y ∧ x ≤ z)
    · exact con_one h0 (Con.inside (nf_con zz n h) (by omega)) (by omega)
    · exact wide_one h0 (by omega)
/-- the changes of a load are the half-cycles that hold the range -/
theorem chg_count {lo hi : Int} (h0 : lo < hi) {ns rs : List Int} {cs : List (Int × Int)} (h : Run (tp ns) cs rs) (n : NF rs) : chg ns lo hi = 2 * nh lo hi cs + nh lo hi (sw rs) := by
  rw [← cl_tp h0, cl_run h0 h (tp_zz ns), nf_nh h0 rs (h.zz (tp_zz ns)) n]
  omega
/-! just a range: the second difference -/
theorem just_one (lo hi : Int) (r : Int × Int) : b1 (decide (r = (lo, hi))) + b1 (hl (lo - 1) hi r) + b1 (hl lo (hi + 1) r) = b1 (hl lo hi r) + b1 (hl (lo - 1) (hi + 1) r) := by
  obtain ⟨u, v⟩ := r
  simp only [hl_iff]
  have e : decide ((u, v) = (lo, hi)) = decide (u = lo ∧ v = hi) := by simp
  rw [e]
  simp only [b1, decide_eq_true_eq]
  repeat' split
  all_goals omega
theorem just {lo hi : Int} : ∀ rs : List (Int × Int), rs.count (lo, hi) + nh (lo - 1) hi rs + nh lo (hi + 1) rs = nh lo hi rs + nh (lo - 1) (hi + 1) rs
  | [] => rfl
  | r :: rs => by
    have ih := just (lo := lo) (hi := hi) rs
    have h1 := just_one lo hi r
    rw [nh_cons, nh_cons, nh_cons, nh_cons, List.count_cons]
    have e : (if (r == (lo, hi)) = true then 1 else 0) = b1 (decide (r = (lo, hi))) := by
      unfold b1
      by_cases z : r = (lo, hi)
      · simp [z]
      · simp [z]
    rw [e]
    omega
end RC

/-! the half-cycles of two loads are the same exactly if their changes are -/
namespace RE
open KM PM RM RN RC
/-- of a load: its half-cycles, sorted -/
structure Hc (ns : List Int) (es : List (Int × Int)) : Prop where
  ex : ∃ cs ds rs, Run (tp ns) cs rs ∧ NF rs ∧ ds.Perm cs ∧ es.Perm (ds ++ ds ++ sw rs)
  srt : es.Pairwise Le
theorem Hc.chg {ns : List Int} {es : List (Int × Int)} (h : Hc ns es) {lo hi : Int} (h0 : lo < hi) : chg ns lo hi = nh lo hi es := by
  obtain ⟨cs, ds, rs, run, nf, p1, p2⟩ := h.ex
  rw [chg_count h0 run nf, nh_perm p2, nh_app, nh_app, nh_perm p1]
  omega
/-- every half-cycle lies within the readings -/
def InR (u v : Int) (r : Int × Int) : Prop := u ≤ r.1 ∧ r.1 < r.2 ∧ r.2 ≤ v
theorem rg_in {u v a b : Int} (ha : u ≤ a ∧ a ≤ v) (hb : u ≤ b ∧ b ≤ v) (ne : a ≠ b) : InR u v (rg a b) := by
  rcases (show a < b ∨ b < a by omega) with h | h
  · rw [rg_up h]; exact ⟨ha.1, h, hb.2⟩
  · rw [rg_down h]; exact ⟨hb.1, h, ha.2⟩
theorem step_in {u v : Int} {p q : List Int} {c : Int × Int} (h : Step p c q) : ZZ p → (∀ x ∈ p, u ≤ x ∧ x ≤ v) → InR u v c ∧ ∀ x ∈ q, u ≤ x ∧ x ≤ v := by
  induction h with
  | @here a b c d post t =>
    intro z hb
    have z1 := z.1
    refine ⟨rg_in (hb b (by simp)) (hb c (by simp)) (by omega), fun x hx => ?_⟩
    rcases List.mem_cons.mp hx with e | hx
    · exact hb x (by simp [e])
    · rcases List.mem_cons.mp hx with e | hx
      · exact hb x (by simp [e])
      · exact hb x (by simp [hx])
  | @there x p q cy s ih =>
    intro z hb
    obtain ⟨h1, h2⟩ := ih z.tail fun y hy => hb y (List.mem_cons_of_mem _ hy)
    refine ⟨h1, fun y hy => ?_⟩
    rcases List.mem_cons.mp hy with e | hy
    · exact hb y (by simp [e])
    · exact h2 y hy
theorem run_in {u v : Int} {p q : List Int} {cs : List (Int × Int)} (h : Run p cs q) : ZZ p → (∀ x ∈ p, u ≤ x ∧ x ≤ v) → (∀ c ∈ cs, InR u v c) ∧ ∀ x ∈ q, u ≤ x ∧ x ≤ v := by
  induction h with
  | nil p => exact fun _ hb => ⟨fun _ z => (List.not_mem_nil z).elim, hb⟩
  | cons s _ ih =>
    intro z hb
    obtain ⟨h1, h2⟩ := step_in s z hb
    obtain ⟨h3, h4⟩ := ih (ZZ.step s z) h2
    refine ⟨fun c hc => ?_, h4⟩
    rcases List.mem_cons.mp hc with e | hc
    · rw [e]; exact h1
    · exact h3 c hc
theorem sw_in {u v : Int} : ∀ {ps : List Int}, ZZ ps → (∀ x ∈ ps, u ≤ x ∧ x ≤ v) → ∀ r ∈ sw ps, InR u v r
  | [], _, _, r, h => by simp [sw] at h
  | [_], _, _, r, h => by simp [sw] at h
  | x :: y :: l, z, hb, r, h => by
    rcases List.mem_cons.mp (show r ∈ rg x y :: sw (y :: l) from h) with e | h
    · rw [e]; exact rg_in (hb x (by simp)) (hb y (by simp)) (zz_cons z)
    · exact sw_in z.tail (fun w hw => hb w (List.mem_cons_of_mem _ hw)) r h
theorem Hc.inr {u v : Int} {ns : List Int} {es : List (Int × Int)} (h : Hc ns es) (hb : ∀ x ∈ ns, u ≤ x ∧ x ≤ v) : ∀ r ∈ es, InR u v r := by
  obtain ⟨cs, ds, rs, run, nf, p1, p2⟩ := h.ex
  obtain ⟨h1, h2⟩ := run_in run (tp_zz ns) fun x hx => hb x (tp_mem hx)
  intro r hr
  rcases List.mem_append.mp (p2.mem_iff.mp hr) with z | z
  · rcases List.mem_append.mp z with z | z
    · exact h1 r (p1.mem_iff.mp z)
    · exact h1 r (p1.mem_iff.mp z)
  · exact sw_in (run.zz (tp_zz ns)) h2 r z
/-- two loads within u..v -/
theorem same_iff {u v : Int} {ns ms : List Int} {es fs : List (Int × Int)} (h : Hc ns es) (g : Hc ms fs) (hb : ∀ x ∈ ns, u ≤ x ∧ x ≤ v) (gb : ∀ x ∈ ms, u ≤ x ∧ x ≤ v) :
    es = fs ↔ ∀ lo hi : Int, u - 1 ≤ lo → lo < hi → hi ≤ v + 1 → KM.chg ns lo hi = KM.chg ms lo hi := by
  constructor
  · intro e lo hi _ h0 _
    rw [h.chg h0, g.chg h0, e]
  · intro e
    refine sorted_same (List.perm_iff_count.mpr fun r => ?_) h.srt g.srt
    obtain ⟨lo, hi⟩ := r
    by_cases z : u ≤ lo ∧ lo < hi ∧ hi ≤ v
    · have j1 := just (lo := lo) (hi := hi) es
      have j2 := just (lo := lo) (hi := hi) fs
      have k : ∀ a b : Int, u - 1 ≤ a → a < b → b ≤ v + 1 → nh a b es = nh a b fs := fun a b h1 h2 h3 => by rw [← h.chg h2, ← g.chg h2, e a b h1 h2 h3]
      have k1 := k lo hi (by omega) (by omega) (by omega)
      have k2 := k (lo - 1) hi (by omega) (by omega) (by omega)
      have k3 := k lo (hi + 1) (by omega) (by omega) (by omega)
      have k4 := k (lo - 1) (hi + 1) (by omega) (by omega) (by omega)
      omega
    · rw [List.count_eq_zero.mpr fun m => z (show u ≤ lo ∧ lo < hi ∧ hi ≤ v from h.inr hb (lo, hi) m), List.count_eq_zero.mpr fun m => z (show u ≤ lo ∧ lo < hi ∧ hi ≤ v from g.inr gb (lo, hi) m)]
end RE

/-! loads turned round, mapped, repeated, thinned: mathematics -/
namespace K9
open KM PM RM RN RC RE
/-! ### turning points of a load turned round -/
theorem tq_same : ∀ (pre : List Int) (p q x : Int) (post : List Int), tq p q (pre ++ x :: x :: post) = tq p q (pre ++ x :: post)
  | [], p, q, x, post => by
    show tq p q (x :: x :: post) = tq p q (x :: post)
    simp only [tq]
    by_cases e : q = x
    · subst e
      simp only [if_true]
    · rw [if_neg e, if_neg e]
      simp only [if_true]
  | y :: pre, p, q, x, post => by
    show tq p q (y :: (pre ++ x :: x :: post)) = tq p q (y :: (pre ++ x :: post))
    simp only [tq, tq_same pre]
theorem tq_btw0 {p b a r : Int} (post : List Int) (h : Btw a b r) : tq p b (a :: r :: post) = tq p b (r :: post) := by
  have h1 : ¬ b = a := by omega
  have h2 : ¬ b = r := by omega
  have h3 : ¬ a = r := by omega
  simp only [tq]
  rw [if_neg h1, if_neg h2]
  by_cases c : Btw b p a
  · rw [if_pos c, if_neg h3, if_pos (show Btw a p r by omega), if_pos (show Btw b p r by omega)]
  · rw [if_neg c, if_neg (show ¬ Btw b p r by omega)]
    rw [if_neg h3, if_pos h]
theorem tq_btw : ∀ (pre : List Int) (p q b a r : Int) (post : List Int), Btw a b r → tq p q (pre ++ b :: a :: r :: post) = tq p q (pre ++ b :: r :: post)
  | [], p, q, b, a, r, post, h => by
    show tq p q (b :: a :: r :: post) = tq p q (b :: r :: post)
    have k : ∀ s, tq s b (a :: r :: post) = tq s b (r :: post) := fun s => tq_btw0 post h
    rw [tq, k, k]
    rw [tq.eq_2 p q b (r :: post)]
    by_cases e : q = b
    · rw [if_pos e, if_pos e]
      subst e
      exact k p
    · rw [if_neg e, if_neg e]
  | y :: pre, p, q, b, a, r, post, h => by
    show tq p q (y :: (pre ++ b :: a :: r :: post)) = tq p q (y :: (pre ++ b :: r :: post))
    simp only [tq, tq_btw pre _ _ b a r post h]
theorem ts_same : ∀ (pre : List Int) (q x : Int) (post : List Int), ts q (pre ++ x :: x :: post) = ts q (pre ++ x :: post)
  | [], q, x, post => by
    show ts q (x :: x :: post) = ts q (x :: post)
    simp only [ts]
    by_cases e : q = x
    · subst e
      simp only [if_true]
    · rw [if_neg e, if_neg e]
      simp only [tq, if_true]
  | y :: pre, q, x, post => by
    show ts q (y :: (pre ++ x :: x :: post)) = ts q (y :: (pre ++ x :: post))
    simp only [ts, ts_same pre, tq_same pre]
theorem ts_btw0 {b a r : Int} (post : List Int) (h : Btw a b r) : ts b (a :: r :: post) = ts b (r :: post) := by
  simp only [ts]
  rw [if_neg (show ¬ b = a by omega), if_neg (show ¬ b = r by omega)]
  simp only [tq]
  rw [if_neg (show ¬ a = r by omega), if_pos h]
theorem ts_btw : ∀ (pre : List Int) (q b a r : Int) (post : List Int), Btw a b r → ts q (pre ++ b :: a :: r :: post) = ts q (pre ++ b :: r :: post)
  | [], q, b, a, r, post, h => by
    show ts q (b :: a :: r :: post) = ts q (b :: r :: post)
    rw [ts, tq_btw0 post h]
    rw [ts.eq_2 q b (r :: post)]
    by_cases e : q = b
    · rw [if_pos e, if_pos e]
      subst e
      exact ts_btw0 post h
    · rw [if_neg e, if_neg e]
  | y :: pre, q, b, a, r, post, h => by
    show ts q (y :: (pre ++ b :: a :: r :: post)) = ts q (y :: (pre ++ b :: r :: post))
    simp only [ts, ts_btw pre _ b a r post h, tq_btw pre _ _ b a r post h]
theorem tp_same (pre : List Int) (x : Int) (post : List Int) : tp (pre ++ x :: x :: post) = tp (pre ++ x :: post) := by
  cases pre with
  | nil =>
    show ts x (x :: post) = ts x post
    simp only [ts, if_true]
  | cons y pre => exact ts_same pre y x post
theorem tp_btw (pre : List Int) {b a r : Int} (post : List Int) (h : Btw a b r) : tp (pre ++ b :: a :: r :: post) = tp (pre ++ b :: r :: post) := by
  cases pre with
  | nil => exact ts_btw0 post h
  | cons y pre => exact ts_btw pre y b a r post h
/-- a reading left out that is no turning point -/
inductive Red : List Int → List Int → Prop
  | nil (l : List Int) : Red l l
  | same (pre : List Int) (x : Int) (post : List Int) {m : List Int} : Red (pre ++ x :: post) m → Red (pre ++ x :: x :: post) m
  | btw (pre : List Int) {b a r : Int} (post : List Int) {m : List Int} : Btw a b r → Red (pre ++ b :: r :: post) m → Red (pre ++ b :: a :: r :: post) m
theorem Red.tp {l m : List Int} (h : Red l m) : tp l = tp m := by
  induction h with
  | nil l => rfl
  | same pre x post _ ih => rw [tp_same, ih]
  | btw pre post hb _ ih => rw [tp_btw pre post hb, ih]
theorem Red.cons {l m : List Int} (h : Red l m) (y : Int) : Red (y :: l) (y :: m) := by
  induction h with
  | nil l => exact .nil _
  | same pre x post _ ih => exact .same (y :: pre) x post ih
  | btw pre post hb _ ih => exact .btw (y :: pre) post hb ih
theorem Red.trans {l m n : List Int} (h : Red l m) (g : Red m n) : Red l n := by
  induction h with
  | nil l => exact g
  | same pre x post _ ih => exact .same pre x post (ih g)
  | btw pre post hb _ ih => exact .btw pre post hb (ih g)
theorem Red.rev {l m : List Int} (h : Red l m) : Red l.reverse m.reverse := by
  induction h with
  | nil l => exact .nil _
  | same pre x post _ ih =>
    have e1 : (pre ++ x :: x :: post).reverse = post.reverse ++ x :: x :: pre.reverse := by simp
    have e2 : (pre ++ x :: post).reverse = post.reverse ++ x :: pre.reverse := by simp
    rw [e1]
    rw [e2] at ih
    exact .same _ x _ ih
  | @btw pre b a r post m hb _ ih =>
    have e1 : (pre ++ b :: a :: r :: post).reverse = post.reverse ++ r :: a :: b :: pre.reverse := by simp
    have e2 : (pre ++ b :: r :: post).reverse = post.reverse ++ r :: b :: pre.reverse := by simp
    rw [e1]
    rw [e2] at ih
    exact .btw _ _ (by omega) ih
theorem red_tq : ∀ (l : List Int) (b a : Int), Red (b :: a :: l) (b :: tq b a l)
  | [], b, a => .nil _
  | r :: l, b, a => by
    simp only [tq]
    by_cases e : a = r
    · rw [if_pos e]
      subst e
      exact .same [b] a l (red_tq l b a)
    · rw [if_neg e]
      by_cases c : Btw a b r
      · rw [if_pos c]
        exact .btw [] l c (red_tq l b r)
      · rw [if_neg c]
        exact (red_tq l a r).cons b
theorem red_ts : ∀ (l : List Int) (a : Int), Red (a :: l) (ts a l)
  | [], a => .nil _
  | r :: l, a => by
    simp only [ts]
    by_cases e : a = r
    · rw [if_pos e]
      subst e
      exact .same [] a l (red_ts l a)
    · rw [if_neg e]
      exact red_tq l a r
theorem red_tp (ns : List Int) : Red ns (tp ns) := by
  cases ns with
  | nil => exact .nil _
  | cons a l => exact red_ts l a
theorem zz_snoc : ∀ {l : List Int} {a b c : Int}, ZZ (l ++ [a, b]) → ((a < b ∧ c < b) ∨ (b < a ∧ b < c)) → ZZ (l ++ [a, b, c])
  | [], a, b, c, _, h => ⟨h, by show b ≠ c; omega⟩
  | [x], a, b, c, z, h => ⟨z.1, h, by show b ≠ c; omega⟩
  | [x, y], a, b, c, z, h => ⟨z.1, z.2.1, h, by show b ≠ c; omega⟩
  | x :: y :: w :: l, a, b, c, z, h => ⟨z.1, zz_snoc (l := y :: w :: l) z.2 h⟩
theorem zz_rev : ∀ {l : List Int}, ZZ l → ZZ l.reverse
  | [], _ => trivial
  | [x], _ => trivial
  | [x, y], z => fun e => z e.symm
  | x :: y :: w :: l, z => by
    have ih := zz_rev (l := y :: w :: l) z.2
    have e : (x :: y :: w :: l).reverse = l.reverse ++ [w, y, x] := by simp
    have e2 : (y :: w :: l).reverse = l.reverse ++ [w, y] := by simp
    rw [e]
    rw [e2] at ih
    exact zz_snoc ih (by have := z.1; omega)
theorem tp_rev (ns : List Int) : tp ns.reverse = (tp ns).reverse := by
  rw [(red_tp ns).rev.tp, zz_tp (zz_rev (tp_zz ns))]
theorem rg_comm (a b : Int) : rg a b = rg b a := by unfold rg; rw [Prod.mk.injEq]; constructor <;> split <;> split <;> omega
theorem taken_rev {a b c d : Int} (h : Taken a b c d) : Taken d c b a := by
  unfold Taken at *
  rw [rg_comm d c, rg_comm c b, rg_comm b a]
  exact ⟨h.2, h.1⟩
theorem step_rev {p q : List Int} {c : Int × Int} (h : Step p c q) : Step p.reverse c q.reverse := by
  induction h with
  | @here a b c d post t =>
    have e1 : (a :: b :: c :: d :: post).reverse = post.reverse ++ [d, c, b, a] := by simp
    have e2 : (a :: d :: post).reverse = post.reverse ++ [d, a] := by simp
    rw [e1, e2, rg_comm b c]
    exact (Step.here (post := []) (taken_rev t)).prefix _
  | @there x p q cy s ih =>
    rw [List.reverse_cons, List.reverse_cons]
    exact ih.suffix [x]
theorem run_rev {p q : List Int} {cs : List (Int × Int)} (h : Run p cs q) : Run p.reverse cs q.reverse := by
  induction h with
  | nil p => exact .nil _
  | cons s _ ih => exact .cons (step_rev s) ih
theorem nf_rev {p : List Int} (h : NF p) : NF p.reverse := fun c q s => by
  have := step_rev s
  rw [List.reverse_reverse] at this
  exact h _ _ this
/-- one count, its cycles sorted -/
structure Cn (ns : List Int) (ds : List (Int × Int)) (rs : List Int) : Prop where
  ex : ∃ cs, Run (tp ns) cs rs ∧ ds.Perm cs
  nf : NF rs
  srt : ds.Pairwise Le
theorem cn_one {ns ms : List Int} {ds es : List (Int × Int)} {rs ss : List Int} (e : tp ns = tp ms) (h : Cn ns ds rs) (g : Cn ms es ss) : ds = es ∧ rs = ss := by
  obtain ⟨cs, r1, p1⟩ := h.ex
  obtain ⟨cs2, r2, p2⟩ := g.ex
  rw [e] at r1
  obtain ⟨e1, e2⟩ := one_count (tp_zz ms) r1 h.nf r2 g.nf
  exact ⟨sorted_same (p1.trans (e2.trans p2.symm)) h.srt g.srt, e1⟩
theorem cn_rev {ns : List Int} {ds es : List (Int × Int)} {rs ss : List Int} (h : Cn ns ds rs) (g : Cn ns.reverse es ss) : es = ds ∧ ss = rs.reverse := by
  obtain ⟨cs, r1, p1⟩ := h.ex
  obtain ⟨cs2, r2, p2⟩ := g.ex
  have r3 := run_rev r1
  rw [← tp_rev] at r3
  obtain ⟨e1, e2⟩ := one_count (tp_zz _) r2 g.nf r3 (nf_rev h.nf)
  exact ⟨sorted_same (p2.trans (e2.trans p1.symm)) g.srt h.srt, e1⟩
/-! ### a load moved, stretched, negated -/
def Str (f : Int → Int) : Prop := (∀ a b, a < b ↔ f a < f b) ∨ (∀ a b, a < b ↔ f b < f a)
theorem str_eq {f : Int → Int} (h : Str f) (a b : Int) : a = b ↔ f a = f b := by
  rcases h with h | h
  · have h1 := h a b
    have h2 := h b a
    omega
  · have h1 := h a b
    have h2 := h b a
    omega
theorem str_btw {f : Int → Int} (h : Str f) (r b a : Int) : Btw r b a ↔ Btw (f r) (f b) (f a) := by
  unfold Btw
  rcases h with h | h
  · rw [h b r, h r a, h a r, h r b]
  · rw [h b r, h r a, h a r, h r b]
    omega
theorem tq_map {f : Int → Int} (h : Str f) : ∀ (l : List Int) (b a : Int), tq (f b) (f a) (l.map f) = (tq b a l).map f
  | [], _, _ => rfl
  | r :: l, b, a => by
    simp only [tq, List.map_cons]
    by_cases e : a = r
    · rw [if_pos e, if_pos ((str_eq h a r).mp e)]
      exact tq_map h l b a
    · rw [if_neg e, if_neg (fun z => e ((str_eq h a r).mpr z))]
      by_cases c : Btw a b r
      · rw [if_pos c, if_pos ((str_btw h a b r).mp c)]
        exact tq_map h l b r
      · rw [if_neg c, if_neg (fun z => c ((str_btw h a b r).mpr z)), List.map_cons, tq_map h l a r]
theorem ts_map {f : Int → Int} (h : Str f) : ∀ (l : List Int) (a : Int), ts (f a) (l.map f) = (ts a l).map f
  | [], _ => rfl
  | r :: l, a => by
    simp only [ts, List.map_cons]
    by_cases e : a = r
    · rw [if_pos e, if_pos ((str_eq h a r).mp e)]
      exact ts_map h l a
    · rw [if_neg e, if_neg (fun z => e ((str_eq h a r).mpr z)), List.map_cons, tq_map h l a r]
theorem tp_map {f : Int → Int} (h : Str f) (ns : List Int) : tp (ns.map f) = (tp ns).map f := by
  cases ns with
  | nil => rfl
  | cons a l => exact ts_map h l a
def mp (f : Int → Int) (r : Int × Int) : Int × Int := rg (f r.1) (f r.2)
theorem rg_map {f : Int → Int} (h : Str f) (a b : Int) : rg (f a) (f b) = mp f (rg a b) := by
  rcases Int.lt_trichotomy a b with z | z | z
  · unfold mp; rw [rg_up z]
  · subst z
    unfold mp rg
    simp
  · unfold mp; rw [rg_down z, rg_comm]
theorem taken_map {f : Int → Int} (h : Str f) {a b c d : Int} (t : Taken a b c d) : Taken (f a) (f b) (f c) (f d) := by
  unfold Taken at *
  rw [rg_map h a b, rg_map h b c, rg_map h c d]
  have key : ∀ u v x y : Int, u ≤ v → x ≤ y → u ≤ x → y ≤ v → ((mp f (u, v)).1 ≤ (mp f (x, y)).1 ∧ (mp f (x, y)).2 ≤ (mp f (u, v)).2) := by
    intro u v x y h1 h2 h3 h4
    have m : ∀ p q, p ≤ q → (f p ≤ f q ∨ f q ≤ f p) := fun p q _ => Int.le_total _ _
    unfold mp rg
    rcases h with h | h
    · have a1 := h v u; have a2 := h y x; have a3 := h x u; have a4 := h v y
      dsimp only
      repeat' split
      all_goals omega
    · have a1 := h v u; have a2 := h y x; have a3 := h x u; have a4 := h v y
      have a5 := h u v; have a6 := h x y; have a7 := h u x; have a8 := h y v
      dsimp only
      repeat' split
      all_goals omega
  have le : ∀ p q : Int, (rg p q).1 ≤ (rg p q).2 := by
    intro p q
    unfold rg
    dsimp only
    split <;> split <;> omega
  exact ⟨key _ _ _ _ (le a b) (le b c) t.1.1 t.1.2, key _ _ _ _ (le c d) (le b c) t.2.1 t.2.2⟩
theorem taken_back {f : Int → Int} (h : Str f) {a b c d : Int} (t : Taken (f a) (f b) (f c) (f d)) : Taken a b c d := by
  have key : ∀ p q x y : Int, (rg (f p) (f q)).1 ≤ (rg (f x) (f y)).1 ∧ (rg (f x) (f y)).2 ≤ (rg (f p) (f q)).2 → (rg p q).1 ≤ (rg x y).1 ∧ (rg x y).2 ≤ (rg p q).2 := by
    intro p q x y
    unfold rg
    rcases h with h | h
    · have a1 := h p q; have a2 := h q p; have a3 := h x y; have a4 := h y x
      have b1 := h p x; have b2 := h x p; have b3 := h p y; have b4 := h y p
      have c1 := h q x; have c2 := h x q; have c3 := h q y; have c4 := h y q
      dsimp only
      repeat' split
      all_goals omega
    · have a1 := h p q; have a2 := h q p; have a3 := h x y; have a4 := h y x
      have b1 := h p x; have b2 := h x p; have b3 := h p y; have b4 := h y p
      have c1 := h q x; have c2 := h x q; have c3 := h q y; have c4 := h y q
      dsimp only
      repeat' split
      all_goals omega
  exact ⟨key _ _ _ _ t.1, key _ _ _ _ t.2⟩
theorem step_map {f : Int → Int} (h : Str f) {p q : List Int} {c : Int × Int} (s : Step p c q) : Step (p.map f) (mp f c) (q.map f) := by
  induction s with
  | @here a b c d post t =>
    rw [← rg_map h]
    exact .here (taken_map h t)
  | there _ ih => exact .there ih
theorem run_map {f : Int → Int} (h : Str f) {p q : List Int} {cs : List (Int × Int)} (r : Run p cs q) : Run (p.map f) (cs.map (mp f)) (q.map f) := by
  induction r with
  | nil p => exact .nil _
  | cons s _ ih => exact .cons (step_map h s) ih
theorem step_back {f : Int → Int} (h : Str f) {p' q : List Int} {c : Int × Int} (s : Step p' c q) : ∀ {p : List Int}, p' = p.map f → ∃ c' q', Step p c' q' := by
  induction s with
  | @here a b c d post t =>
    intro p e
    match p, e with
    | a' :: b' :: c' :: d' :: post', e =>
      simp only [List.map_cons, List.cons.injEq] at e
      obtain ⟨e1, e2, e3, e4, _⟩ := e
      subst e1 e2 e3 e4
      exact ⟨_, _, .here (taken_back h t)⟩
    | [], e => simp at e
    | [_], e => simp at e
    | [_, _], e => simp at e
    | [_, _, _], e => simp at e
  | @there x p1 q1 cy s ih =>
    intro p e
    match p, e with
    | x' :: p', e =>
      rw [List.map_cons] at e
      obtain ⟨c', q', s'⟩ := ih (List.cons.inj e).2
      exact ⟨c', _, .there s'⟩
    | [], e => simp at e
theorem nf_map {f : Int → Int} (h : Str f) {p : List Int} (n : NF p) : NF (p.map f) := fun c q s => by
  obtain ⟨c', q', s'⟩ := step_back h s rfl
  exact n _ _ s'
theorem cn_map {f : Int → Int} (h : Str f) {ns : List Int} {ds es fs : List (Int × Int)} {rs ss : List Int} (g : Cn ns ds rs) (k : Cn (ns.map f) es ss) (p : fs.Perm (ds.map (mp f))) (srt : fs.Pairwise Le) : es = fs ∧ ss = rs.map f := by
  obtain ⟨cs, r1, p1⟩ := g.ex
  obtain ⟨cs2, r2, p2⟩ := k.ex
  have r3 := run_map h r1
  rw [← tp_map h] at r3
  obtain ⟨e1, e2⟩ := one_count (tp_zz _) r2 k.nf r3 (nf_map h g.nf)
  exact ⟨sorted_same (p2.trans (e2.trans ((p1.symm.map _).trans p.symm))) k.srt srt, e1⟩
theorem str_aff {s t : Int} (h : s ≠ 0) : Str fun x => x * s + t := by
  rcases (show 0 < s ∨ s < 0 by omega) with z | z
  · refine .inl fun a b => ?_
    have := Int.mul_lt_mul_right (a := s) (b := a) (c := b) z
    dsimp only
    omega
  · refine .inr fun a b => ?_
    have := Int.mul_lt_mul_right (a := -s) (b := a) (c := b) (by omega)
    rw [Int.mul_neg, Int.mul_neg] at this
    dsimp only
    omega
/-! ### readings repeated -/
theorem tp_rep : ∀ (m : Nat) (pre : List Int) (x : Int), tp (pre ++ List.replicate (m + 1) x) = tp (pre ++ [x])
  | 0, pre, x => rfl
  | m + 1, pre, x => by
    have := tp_same pre x (List.replicate m x)
    rw [show pre ++ List.replicate (m + 1 + 1) x = pre ++ x :: x :: List.replicate m x from rfl, this]
    exact tp_rep m pre x
theorem red_app {l m : List Int} (n : List Int) (h : Red l m) : Red (l ++ n) (m ++ n) := by
  induction h with
  | nil l => exact .nil _
  | same pre x post _ ih =>
    rw [List.append_assoc] at ih ⊢
    exact .same pre x _ ih
  | btw pre post hb _ ih =>
    rw [List.append_assoc] at ih ⊢
    exact .btw pre _ hb ih
/-- what the beginning is, is of no matter if its turning points are the same -/
theorem tp_pre {l m : List Int} (h : tp l = tp m) (n : List Int) : tp (l ++ n) = tp (m ++ n) := by
  rw [(red_app n (red_tp l)).tp, (red_app n (red_tp m)).tp, h]
theorem tp_twice {l m : List Int} (h : tp l = tp m) (k : Nat) (x : Int) : tp (l ++ List.replicate (k + 1) x) = tp (m ++ [x]) := by
  rw [tp_rep, tp_pre h]
/-! ### an upper point lowered -/
theorem cl_sub {lo hi : Int} {l m : List Int} (h : l.Sublist m) (o : Option Bool) : cl lo hi o l ≤ cl lo hi o m := by
  unfold cl
  have h2 : (lets lo hi l).Sublist (lets lo hi m) := h.filterMap _
  cases o with
  | none => exact cnt_mono h2
  | some b => exact cf_mono h2 b
/-- v lies between x and n -/
def Mid (x v n : Int) : Prop := (x ≤ v ∧ v ≤ n) ∨ (n ≤ v ∧ v ≤ x)
theorem mid_let {lo hi x v n : Int} {b : Bool} (h0 : lo < hi) (h : Mid x v n) (e1 : lett lo hi v = some b) (e2 : lett lo hi x ≠ some b) : lett lo hi n = some b := by
  unfold Mid at h
  rcases lett3 lo hi v h0 with ⟨z, e⟩ | ⟨z, e⟩ | ⟨_, _, e⟩ <;> rw [e] at e1 <;> cases e1
  · rcases lett3 lo hi x h0 with ⟨y, e⟩ | ⟨y, e⟩ | ⟨y, y2, e⟩
    · exact absurd e e2
    · exact lett_lo (by omega)
    · exact lett_lo (by omega)
  · rcases lett3 lo hi x h0 with ⟨y, e⟩ | ⟨y, e⟩ | ⟨y, y2, e⟩
    · exact lett_hi h0 (by omega)
    · exact absurd e e2
    · exact lett_hi h0 (by omega)
theorem cl_put {lo hi x v : Int} (h0 : lo < hi) (r : List Int) (hr : ∀ c, r.head? = some c → Mid x v c) (o : Option Bool) (ho : ∀ b, lett lo hi v = some b → lett lo hi x ≠ some b → o = none ∨ o = some b) : cl lo hi o (v :: r) ≤ cl lo hi o (x :: r) := by
  by_cases e : lett lo hi v = lett lo hi x
  · rw [cl_cons, cl_cons, e]
    exact Nat.le_refl _
  · cases ev : lett lo hi v with
    | none =>
      rw [cl_cons, ev]
      exact cl_sub (List.sublist_cons_self _ _) o
    | some b =>
      have ex : lett lo hi x ≠ some b := fun z => e (ev.trans z.symm)
      have d0 : d2 o b = 0 := by
        rcases ho b ev ex with z | z
        · rw [z]; rfl
        · rw [z]; simp [d2]
      rw [cl_cons, ev]
      show d2 o b + cl lo hi (some b) r ≤ _
      rw [d0, Nat.zero_add]
      cases r with
      | nil => rw [cl_nil]; exact Nat.zero_le _
      | cons c r =>
        have ec := mid_let h0 (hr c rfl) ev ex
        have k : cl lo hi o (c :: r) ≤ cl lo hi o (x :: c :: r) := cl_sub (List.sublist_cons_self _ _) o
        refine Nat.le_trans ?_ k
        rw [cl_cons, cl_cons, ec]
        show d2 (some b) b + _ ≤ d2 o b + _
        rw [d0]
        simp [d2]
theorem cl_put_at {lo hi x v : Int} (h0 : lo < hi) (r : List Int) (hr : ∀ c, r.head? = some c → Mid x v c) : ∀ (pre : List Int) (o : Option Bool), (∀ a, pre.getLast? = some a → Mid x v a) → (pre = [] → ∀ b, lett lo hi v = some b → lett lo hi x ≠ some b → o = none ∨ o = some b) → cl lo hi o (pre ++ v :: r) ≤ cl lo hi o (pre ++ x :: r)
  | [], o, _, ho => cl_put h0 r hr o (ho rfl)
  | p :: pre, o, hp, _ => by
    have key : ∀ o', (pre = [] → ∀ b, lett lo hi v = some b → lett lo hi x ≠ some b → o' = none ∨ o' = some b) → cl lo hi o' (pre ++ v :: r) ≤ cl lo hi o' (pre ++ x :: r) := fun o' h' =>
      cl_put_at h0 r hr pre o' (fun a ha => hp a (by
        cases pre with
        | nil => cases ha
        | cons q pre => rw [List.getLast?_cons_cons]; exact ha)) h'
    show cl lo hi o (p :: (pre ++ v :: r)) ≤ cl lo hi o (p :: (pre ++ x :: r))
    rw [cl_cons, cl_cons]
    cases e : lett lo hi p with
    | none =>
      refine key o fun e0 b h1 h2 => ?_
      subst e0
      have := mid_let h0 (hp p rfl) h1 h2
      rw [e] at this
      cases this
    | some b' =>
      refine Nat.add_le_add_left (key _ fun e0 b h1 h2 => .inr ?_) _
      subst e0
      have := mid_let h0 (hp p rfl) h1 h2
      rw [e] at this
      exact this
theorem chg_put_at {lo hi x v : Int} (h0 : lo < hi) {pre r : List Int} (hp : ∀ a, pre.getLast? = some a → Mid x v a) (hr : ∀ c, r.head? = some c → Mid x v c) : chg (pre ++ v :: r) lo hi ≤ chg (pre ++ x :: r) lo hi :=
  cl_put_at h0 r hr pre none hp fun _ _ _ _ => .inl rfl
theorem chg_tp {lo hi : Int} (h0 : lo < hi) (ns : List Int) : chg (tp ns) lo hi = chg ns lo hi := cl_tp h0 ns
theorem zz_three : ∀ {ps : List Int} {j : Nat} {a x c : Int}, ZZ ps → ps[j]? = some a → ps[j + 1]? = some x → ps[j + 2]? = some c → (a < x ∧ c < x) ∨ (x < a ∧ x < c)
  | p :: q :: r :: l, 0, a, x, c, z, h1, h2, h3 => by
    have e1 : p = a := Option.some.inj h1
    have e2 : q = x := Option.some.inj h2
    have e3 : r = c := Option.some.inj h3
    subst e1 e2 e3
    have := z.1
    omega
  | p :: l, j + 1, a, x, c, z, h1, h2, h3 => zz_three (ps := l) (j := j) z.tail h1 h2 h3
  | [], _, _, _, _, _, h, _, _ => by simp at h
  | [_], 0, _, _, _, _, _, h, _ => by simp at h
  | [_, _], 0, _, _, _, _, _, _, h => by simp at h
theorem zz_two : ∀ {ps : List Int} {j : Nat} {a x : Int}, ZZ ps → ps[j]? = some a → ps[j + 1]? = some x → a ≠ x
  | p :: q :: l, 0, a, x, z, h1, h2 => by
    have e1 : p = a := Option.some.inj h1
    have e2 : q = x := Option.some.inj h2
    subst e1 e2
    exact zz_cons z
  | p :: l, j + 1, a, x, z, h1, h2 => zz_two (ps := l) (j := j) z.tail h1 h2
  | [], _, _, _, _, h, _ => by simp at h
  | [_], 0, _, _, _, _, h => by simp at h
/-- near is a neighbour of the point at j, the nearer one -/
def Near (ps : List Int) (j : Nat) (x near : Int) : Prop :=
  (∀ a, 0 < j → ps[j - 1]? = some a → (near - x).natAbs ≤ (a - x).natAbs) ∧ (∀ c, ps[j + 1]? = some c → (near - x).natAbs ≤ (c - x).natAbs) ∧ ((0 < j ∧ ps[j - 1]? = some near) ∨ ps[j + 1]? = some near)
theorem near_mid {ps : List Int} {j : Nat} {x near v : Int} (zz : ZZ ps) (hx : ps[j]? = some x) (hn : Near ps j x near) (hv : Mid x v near) : (∀ a, 0 < j → ps[j - 1]? = some a → Mid x v a) ∧ (∀ c, ps[j + 1]? = some c → Mid x v c) := by
  obtain ⟨n1, n2, n3⟩ := hn
  unfold Mid at *
  refine ⟨fun a hj ha => ?_, fun c hc => ?_⟩
  · have d := n1 a hj ha
    rcases n3 with ⟨_, e⟩ | e
    · rw [ha] at e
      cases e
      exact hv
    · obtain ⟨i, rfl⟩ : ∃ i, j = i + 1 := ⟨j - 1, by omega⟩
      have := zz_three zz ha hx e
      omega
  · have d := n2 c hc
    rcases n3 with ⟨hj, e⟩ | e
    · obtain ⟨i, rfl⟩ : ∃ i, j = i + 1 := ⟨j - 1, by omega⟩
      have := zz_three zz e hx hc
      omega
    · rw [hc] at e
      cases e
      exact hv
theorem lowered {lo hi : Int} (h0 : lo < hi) {ns : List Int} {j : Nat} {x near v : Int} (hx : (tp ns)[j]? = some x) (hn : Near (tp ns) j x near) (hv : Mid x v near) : chg ((tp ns).set j v) lo hi ≤ chg ns lo hi := by
  rw [← chg_tp h0 ns]
  generalize hp : tp ns = ps at *
  have zz : ZZ ps := hp ▸ tp_zz ns
  obtain ⟨m1, m2⟩ := near_mid zz hx hn hv
  obtain ⟨hj, ex⟩ := List.getElem?_eq_some_iff.mp hx
  have e1 : ps.set j v = ps.take j ++ v :: ps.drop (j + 1) := by rw [List.set_eq_take_append_cons_drop, if_pos hj]
  have e2 : ps.take j ++ x :: ps.drop (j + 1) = ps := by
    rw [← ex, ← List.drop_eq_getElem_cons hj, List.take_append_drop]
  rw [e1]
  refine Nat.le_trans (chg_put_at h0 (x := x) (v := v) (fun a ha => ?_) (fun c hc => ?_)) (Nat.le_of_eq (by rw [e2]))
  · rw [List.getLast?_eq_getElem?, List.length_take, Nat.min_eq_left (by omega)] at ha
    by_cases z : 0 < j
    · rw [List.getElem?_take] at ha
      rw [if_pos (by omega)] at ha
      exact m1 a z ha
    · have : j = 0 := by omega
      subst this
      simp at ha
  · rw [List.head?_drop] at hc
    exact m2 c hc
theorem sort_two {ms : List Int} {u v : Int} (p : ms.Perm [u, v]) (s : ms.Pairwise (· ≤ ·)) : ms = [(rg u v).1, (rg u v).2] := by
  have hl := p.length_eq
  match ms, hl with
  | [a, b], _ =>
    have h1 := (p.mem_iff (a := a)).mp (by simp)
    have h2 := (p.mem_iff (a := b)).mp (by simp)
    have h3 := (p.mem_iff (a := u)).mpr (by simp)
    have h4 := (p.mem_iff (a := v)).mpr (by simp)
    simp only [List.mem_cons, List.not_mem_nil, or_false] at h1 h2 h3 h4
    have h5 : a ≤ b := by simpa using s
    unfold rg
    dsimp only
    have e1 : a = if v < u then v else u := by split <;> omega
    have e2 : b = if v > u then v else u := by split <;> omega
    rw [← e1, ← e2]
end K9

/-! loads repeated for ever: mathematics -/
namespace K20
open KM PM RM RN RC RE K9
/-! ### changes round the circle -/
def dif (a b : Option Bool) : Nat := match a, b with
  | some x, some y => if x = y then 0 else 1
  | _, _ => 0
/-- the number of letters that differ from the one before, round the circle -/
def cyc (l : List Bool) : Nat := cnt l + dif l.getLast? l.head?
theorem cf_app : ∀ (l : List Bool) (a : Bool) (m : List Bool), cf a (l ++ m) = cf a l + cfO (some ((a :: l).getLast (by simp))) m
  | [], a, m => by show cf a m = 0 + cf a m; omega
  | b :: l, a, m => by
    have ih := cf_app l b m
    show (if a = b then 0 else 1) + cf b (l ++ m) = (if a = b then 0 else 1) + cf b l + cfO (some ((a :: b :: l).getLast (by simp))) m
    rw [ih, List.getLast_cons (a := a) (l := b :: l) (by simp)]
    omega
theorem cnt_app (l m : List Bool) : cnt (l ++ m) = cnt l + dif l.getLast? m.head? + cnt m := by
  cases l with
  | nil => show cnt m = 0 + 0 + cnt m; omega
  | cons a l =>
    show cf a (l ++ m) = cf a l + _ + cnt m
    rw [cf_app]
    rw [List.getLast?_eq_some_getLast (l := a :: l) (by simp)]
    cases m with
    | nil => rfl
    | cons b m =>
      show cf a l + ((if (a :: l).getLast (by simp) = b then 0 else 1) + cf b m) = cf a l + (if (a :: l).getLast (by simp) = b then 0 else 1) + cf b m
      omega
theorem cyc_rot (l m : List Bool) : cyc (l ++ m) = cyc (m ++ l) := by
  unfold cyc
  rw [cnt_app, cnt_app]
  cases l with
  | nil => simp [dif, cnt]
  | cons a l =>
    cases m with
    | nil => simp [dif, cnt]
    | cons b m =>
      have e1 : ((a :: l) ++ (b :: m)).getLast? = (b :: m).getLast? := by rw [List.getLast?_append]; rw [List.getLast?_eq_some_getLast (l := b :: m) (by simp)]; rfl
      have e2 : ((b :: m) ++ (a :: l)).getLast? = (a :: l).getLast? := by rw [List.getLast?_append]; rw [List.getLast?_eq_some_getLast (l := a :: l) (by simp)]; rfl
      rw [e1, e2]
      show _ + dif _ (some b) + _ + dif _ (some a) = _ + dif _ (some a) + _ + dif _ (some b)
      omega
def rnd (lo hi : Int) (ns : List Int) : Nat := cyc (lets lo hi ns)
theorem lets_app (lo hi : Int) (l m : List Int) : lets lo hi (l ++ m) = lets lo hi l ++ lets lo hi m := List.filterMap_append
theorem rnd_rot (lo hi : Int) (l m : List Int) : rnd lo hi (l ++ m) = rnd lo hi (m ++ l) := by
  unfold rnd
  rw [lets_app, lets_app, cyc_rot]
theorem cnt_one : ∀ {l : List Bool} {b : Bool}, (∀ x ∈ l, x = b) → cnt l = 0
  | [], _, _ => rfl
  | [_], _, _ => rfl
  | x :: y :: l, b, h => by
    have ih := cnt_one (l := y :: l) (b := b) fun z hz => h z (List.mem_cons_of_mem _ hz)
    have e1 := h x (by simp)
    have e2 := h y (by simp)
    show (if x = y then 0 else 1) + cf y l = 0
    have ih : cf y l = 0 := ih
    rw [ih, e1, e2, if_pos rfl]
theorem cyc_one {l : List Bool} {b : Bool} (h : ∀ x ∈ l, x = b) : cyc l = 0 := by
  unfold cyc
  rw [cnt_one h]
  cases l with
  | nil => rfl
  | cons a l =>
    rw [List.getLast?_eq_some_getLast (l := a :: l) (by simp)]
    show 0 + (if (a :: l).getLast (by simp) = a then 0 else 1) = 0
    rw [h _ (List.getLast_mem (by simp)), h a (by simp), if_pos rfl]
theorem lets_mem {lo hi : Int} {ns : List Int} {b : Bool} (h : b ∈ lets lo hi ns) : ∃ x ∈ ns, lett lo hi x = some b := List.mem_filterMap.mp h
/-- a load that begins with a greatest reading, and the same behind it -/
theorem rnd_chg {lo hi M : Int} (h0 : lo < hi) {l : List Int} (hm : ∀ x ∈ l, x ≤ M) : rnd lo hi (M :: l) = chg (M :: l ++ [M]) lo hi := by
  unfold rnd chg
  rw [lets_app]
  rcases lett3 lo hi M h0 with ⟨_, e⟩ | ⟨_, e⟩ | ⟨h1, h2, e⟩
  · have el : lets lo hi [M] = [true] := by simp [lets, e]
    have ec : lets lo hi (M :: l) = true :: lets lo hi l := by simp [lets, e]
    rw [el, ec, cnt_app]
    unfold cyc
    rfl
  · have el : lets lo hi [M] = [false] := by simp [lets, e]
    have ec : lets lo hi (M :: l) = false :: lets lo hi l := by simp [lets, e]
    rw [el, ec, cnt_app]
    unfold cyc
    rfl
  · have el : lets lo hi [M] = [] := by simp [lets, e]
    have one : ∀ b ∈ lets lo hi (M :: l), b = true := fun b hb => by
      obtain ⟨x, hx, ex⟩ := lets_mem hb
      have : x ≤ M := by
        rcases List.mem_cons.mp hx with z | z
        · omega
        · exact hm x z
      rcases lett3 lo hi x h0 with ⟨_, e⟩ | ⟨_, e⟩ | ⟨_, _, e⟩ <;> rw [e] at ex
      · exact (Option.some.inj ex).symm
      · omega
      · cases ex
    rw [el, List.append_nil, cyc_one one, cnt_one one]
/-! ### the circle -/
/-- M is the greatest reading, at a for the first time -/
structure Top (ns : List Int) (a : Nat) (M : Int) : Prop where
  at' : ns[a]? = some M
  le : ∀ x ∈ ns, x ≤ M
  first : ∀ j x, j < a → ns[j]? = some x → x ≠ M
theorem Top.one {ns : List Int} {a b : Nat} {M N : Int} (h : Top ns a M) (g : Top ns b N) : a = b ∧ M = N := by
  have e : M = N := by
    have h1 := h.le N (List.mem_of_getElem? g.at')
    have h2 := g.le M (List.mem_of_getElem? h.at')
    omega
  subst e
  refine ⟨?_, rfl⟩
  rcases Nat.lt_trichotomy a b with z | z | z
  · exact absurd rfl (g.first a M z h.at')
  · exact z
  · exact absurd rfl (h.first b M z g.at')
def circ (ns : List Int) (a : Nat) : List Int := ns.drop a ++ ns.take (a + 1)
theorem circ_eq {ns : List Int} {a : Nat} {M : Int} (h : ns[a]? = some M) : circ ns a = M :: (ns.drop (a + 1) ++ ns.take a) ++ [M] := by
  obtain ⟨h1, h2⟩ := List.getElem?_eq_some_iff.mp h
  unfold circ
  rw [List.drop_eq_getElem_cons h1, h2, List.take_add_one, h]
  simp
theorem rnd_circ {lo hi M : Int} (h0 : lo < hi) {ns : List Int} {a : Nat} (t : Top ns a M) : rnd lo hi ns = chg (circ ns a) lo hi := by
  obtain ⟨h1, h2⟩ := List.getElem?_eq_some_iff.mp t.at'
  have e : rnd lo hi ns = rnd lo hi (M :: (ns.drop (a + 1) ++ ns.take a)) := by
    have := rnd_rot lo hi (ns.take a) (ns.drop a)
    rw [List.take_append_drop] at this
    rw [this, List.drop_eq_getElem_cons h1, h2]
    rfl
  rw [e, circ_eq t.at', rnd_chg h0]
  intro x hx
  rcases List.mem_append.mp hx with z | z
  · exact t.le x (List.mem_of_mem_drop z)
  · exact t.le x (List.mem_of_mem_take z)
theorem circ_mem {ns : List Int} {a : Nat} {x : Int} (h : x ∈ circ ns a) : x ∈ ns := by
  rcases List.mem_append.mp h with z | z
  · exact List.mem_of_mem_drop z
  · exact List.mem_of_mem_take z
theorem mem_circ {ns : List Int} {a : Nat} {x : Int} (h : x ∈ ns) : x ∈ circ ns a := by
  have e : ns.take a ++ ns.drop a = ns := List.take_append_drop _ _
  rw [← e] at h
  rcases List.mem_append.mp h with z | z
  · refine List.mem_append_right _ ?_
    rw [List.take_add_one]
    exact List.mem_append_left _ z
  · exact List.mem_append_left _ z
/-! ### first and last points -/
theorem ts_head : ∀ (l : List Int) (a : Int), (ts a l).head? = some a
  | [], _ => rfl
  | r :: l, a => by
    simp only [ts]
    split
    · exact ts_head l a
    · rfl
theorem tq_ne : ∀ (l : List Int) (b a : Int), tq b a l ≠ []
  | [], _, _ => by simp [tq]
  | r :: l, b, a => by
    simp only [tq]
    split
    · exact tq_ne l b a
    · split
      · exact tq_ne l b r
      · simp
theorem tq_lastp : ∀ (l : List Int) (b a : Int), (tq b a l).getLast? = (a :: l).getLast?
  | [], _, _ => rfl
  | r :: l, b, a => by
    rw [List.getLast?_cons_cons]
    simp only [tq]
    split
    · rename_i e
      rw [tq_lastp l b a, e]
    · split
      · exact tq_lastp l b r
      · rename_i n1 n2
        have ne := tq_ne l a r
        obtain ⟨x, s, e⟩ : ∃ x s, tq a r l = x :: s := by
          cases h : tq a r l with
          | nil => exact absurd h ne
          | cons x s => exact ⟨x, s, rfl⟩
        rw [e, List.getLast?_cons_cons, ← e]
        exact tq_lastp l a r
theorem ts_lastp : ∀ (l : List Int) (a : Int), (ts a l).getLast? = (a :: l).getLast?
  | [], _ => rfl
  | r :: l, a => by
    rw [List.getLast?_cons_cons]
    simp only [ts]
    split
    · rename_i e
      rw [ts_lastp l a, e]
    · have ne := tq_ne l a r
      obtain ⟨x, s, e⟩ : ∃ x s, tq a r l = x :: s := by
        cases h : tq a r l with
        | nil => exact absurd h ne
        | cons x s => exact ⟨x, s, rfl⟩
      rw [e, List.getLast?_cons_cons, ← e]
      exact tq_lastp l a r
theorem ts_all : ∀ {l : List Int} {a : Int}, (∀ x ∈ l, x = a) → ts a l = [a]
  | [], _, _ => rfl
  | r :: l, a, h => by
    simp only [ts]
    rw [if_pos (h r (by simp)).symm]
    exact ts_all fun x hx => h x (List.mem_cons_of_mem _ hx)
theorem ts_one : ∀ {l : List Int} {a : Int}, ts a l = [a] → ∀ x ∈ l, x = a
  | [], _, _, x, h => (List.not_mem_nil h).elim
  | r :: l, a, h, x, hx => by
    simp only [ts] at h
    by_cases e : a = r
    · rw [if_pos e] at h
      rcases List.mem_cons.mp hx with z | z
      · rw [z, e]
      · exact ts_one h x z
    · rw [if_neg e] at h
      exact absurd (List.cons.inj h).2 (tq_ne _ _ _)
theorem step_head? {p q : List Int} {c : Int × Int} (s : Step p c q) : q.head? = p.head? := by
  cases s with
  | here _ => rfl
  | there _ => rfl
theorem step_ne {p q : List Int} {c : Int × Int} (s : Step p c q) : q ≠ [] := by
  cases s with
  | here _ => simp
  | there _ => simp
theorem step_last? {p q : List Int} {c : Int × Int} (s : Step p c q) : q.getLast? = p.getLast? := by
  induction s with
  | @here a b c d post t => rw [List.getLast?_cons_cons, List.getLast?_cons_cons, List.getLast?_cons_cons, List.getLast?_cons_cons]
  | @there x p q cy s ih =>
    cases q with
    | nil => exact absurd rfl (step_ne s)
    | cons u v =>
      cases p with
      | nil => cases s
      | cons u' v' => rw [List.getLast?_cons_cons, List.getLast?_cons_cons, ih]
theorem step_sub {p q : List Int} {c : Int × Int} (s : Step p c q) : ∀ x ∈ q, x ∈ p := by
  induction s with
  | @here a b c d post t =>
    intro x hx
    simp only [List.mem_cons] at hx ⊢
    rcases hx with e | e | e
    · exact .inl e
    · exact .inr (.inr (.inr (.inl e)))
    · exact .inr (.inr (.inr (.inr e)))
  | there _ ih =>
    intro y hy
    rcases List.mem_cons.mp hy with e | e
    · exact List.mem_cons.mpr (.inl e)
    · exact List.mem_cons_of_mem _ (ih y e)
theorem step_low {p q : List Int} {c : Int × Int} (s : Step p c q) : ZZ p → ∀ x ∈ p, ∃ y ∈ q, y ≤ x := by
  induction s with
  | @here a b c d post t =>
    intro z x hx
    have ti := (taken_iff z.four).mp t
    simp only [List.mem_cons] at hx
    rcases hx with e | e | e | e | e
    · exact ⟨a, by simp, by omega⟩
    · rcases ti with ti | ti
      · exact ⟨a, by simp, by omega⟩
      · exact ⟨d, by simp, by omega⟩
    · rcases ti with ti | ti
      · exact ⟨a, by simp, by omega⟩
      · exact ⟨d, by simp, by omega⟩
    · exact ⟨d, by simp, by omega⟩
    · exact ⟨x, by simp [e], by omega⟩
  | @there u p q cy s ih =>
    intro z x hx
    rcases List.mem_cons.mp hx with e | e
    · exact ⟨u, by simp, by omega⟩
    · obtain ⟨y, hy, l⟩ := ih z.tail x e
      exact ⟨y, List.mem_cons_of_mem _ hy, l⟩
theorem run_keep {p q : List Int} {cs : List (Int × Int)} (r : Run p cs q) : ZZ p → q.head? = p.head? ∧ q.getLast? = p.getLast? ∧ (∀ x ∈ q, x ∈ p) ∧ ∀ x ∈ p, ∃ y ∈ q, y ≤ x := by
  induction r with
  | nil p => exact fun _ => ⟨rfl, rfl, fun _ h => h, fun x h => ⟨x, h, Int.le_refl _⟩⟩
  | cons s _ ih =>
    intro z
    obtain ⟨h1, h2, h3, h4⟩ := ih (ZZ.step s z)
    refine ⟨h1.trans (step_head? s), h2.trans (step_last? s), fun x hx => step_sub s x (h3 x hx), fun x hx => ?_⟩
    obtain ⟨y, hy, l⟩ := step_low s z x hx
    obtain ⟨y2, hy2, l2⟩ := h4 y hy
    exact ⟨y2, hy2, by omega⟩
theorem last_mem {l : List Int} {x : Int} (h : l.getLast? = some x) : x ∈ l := by
  cases l with
  | nil => cases h
  | cons a l =>
    rw [List.getLast?_eq_some_getLast (l := a :: l) (by simp)] at h
    rw [← Option.some.inj h]
    exact List.getLast_mem (by simp)
/-- the rest of a circle that is cut at a greatest reading -/
theorem rest_three {rs : List Int} {M : Int} (z : ZZ rs) (n : NF rs) (h1 : rs.head? = some M) (h2 : rs.getLast? = some M) (h3 : ∀ x ∈ rs, x ≤ M) : rs = [M] ∨ ∃ m, m < M ∧ rs = [M, m, M] := by
  match rs, h1 with
  | [x], h1 => exact .inl (by rw [show x = M from Option.some.inj h1])
  | [x, y], h1 =>
    have e : x = M := Option.some.inj h1
    have e2 : y = M := Option.some.inj h2
    exact absurd (e.trans e2.symm) z
  | x :: y :: w :: t, h1 =>
    have e : x = M := Option.some.inj h1
    subst e
    have hy := h3 y (by simp)
    have hw := h3 w (by simp)
    have z1 := z.1
    have yx : y < x := by omega
    have con := nf_con z n (.inl ⟨yx, hw⟩)
    have lst : (y :: w :: t).getLast? = some x := by
      have := h2
      rw [List.getLast?_cons_cons] at this
      exact this
    have inn := Con.inside con.2 (by omega)
    have hx := inn x (last_mem lst)
    rw [if_pos (by omega), if_pos (by omega)] at hx
    have ew : w = x := by omega
    subst ew
    cases t with
    | nil => exact .inr ⟨y, yx, rfl⟩
    | cons u t =>
      exfalso
      have c2 := con.2.1
      have hu := h3 u (by simp)
      have nt : ¬ Taken w y w u := fun k => n _ _ (.here k)
      have z4 : ZZ (w :: y :: w :: u :: []) := z.four
      rw [taken_iff z4] at nt
      have uy : y < u := by omega
      cases t with
      | nil =>
        have : u = w := by
          have l2 := h2
          rw [List.getLast?_cons_cons, List.getLast?_cons_cons, List.getLast?_cons_cons] at l2
          exact Option.some.inj l2
        omega
      | cons v t =>
        have c3 := con.2.2.1
        have hv := h3 v (by simp)
        have lst2 : (u :: v :: t).getLast? = some w := by
          have := h2
          rw [List.getLast?_cons_cons, List.getLast?_cons_cons, List.getLast?_cons_cons] at this
          exact this
        have inn2 := Con.inside con.2.2.2 (by omega)
        have hx2 := inn2 w (last_mem lst2)
        rw [if_pos (by omega), if_pos (by omega)] at hx2
        have ev : v = w := by omega
        have nt2 : ¬ Taken y w u v := fun k => n _ _ (.there (.here k))
        rw [taken_iff z.tail.four] at nt2
        omega
/-! ### closed cycles -/
/-- es are the closed cycles of ns -/
structure Cl (ns : List Int) (es : List (Int × Int)) : Prop where
  cnt : ∀ lo hi, lo < hi → rnd lo hi ns = 2 * nh lo hi es
  srt : es.Pairwise Le
  inr : ∀ u v, (∀ x ∈ ns, u ≤ x ∧ x ≤ v) → ∀ r ∈ es, InR u v r
theorem Cl.many {ns : List Int} {es : List (Int × Int)} (h : Cl ns es) {lo hi : Int} (h0 : lo < hi) : (rnd lo hi ns : Int) - rnd (lo - 1) hi ns - rnd lo (hi + 1) ns + rnd (lo - 1) (hi + 1) ns = 2 * (es.count (lo, hi) : Nat) := by
  have j := just (lo := lo) (hi := hi) es
  rw [h.cnt lo hi h0, h.cnt (lo - 1) hi (by omega), h.cnt lo (hi + 1) (by omega), h.cnt (lo - 1) (hi + 1) (by omega)]
  omega
theorem ends_of (ns : List Int) : ∃ u v, ∀ x ∈ ns, u ≤ x ∧ x ≤ v := by
  induction ns with
  | nil => exact ⟨0, 0, fun x h => (List.not_mem_nil h).elim⟩
  | cons a l ih =>
    obtain ⟨u, v, h⟩ := ih
    refine ⟨min u a, max v a, fun x hx => ?_⟩
    rcases List.mem_cons.mp hx with e | e
    · omega
    · have := h x e
      omega
theorem Cl.one {ns : List Int} {es fs : List (Int × Int)} (h : Cl ns es) (g : Cl ns fs) : es = fs := by
  refine sorted_same (List.perm_iff_count.mpr fun r => ?_) h.srt g.srt
  obtain ⟨lo, hi⟩ := r
  by_cases z : lo < hi
  · have h1 := h.many z
    have h2 := g.many z
    omega
  · obtain ⟨u, v, b⟩ := ends_of ns
    rw [List.count_eq_zero.mpr fun m => z (h.inr u v b _ m).2.1, List.count_eq_zero.mpr fun m => z (g.inr u v b _ m).2.1]
theorem Cl.all_eq {ns : List Int} {M : Int} (h : ∀ x ∈ ns, x = M) : Cl ns [] := by
  refine ⟨fun lo hi h0 => ?_, List.Pairwise.nil, fun _ _ _ r z => (List.not_mem_nil z).elim⟩
  show cyc (lets lo hi ns) = 0
  cases e : lett lo hi M with
  | none =>
    refine cyc_one (b := true) fun b hb => ?_
    obtain ⟨x, hx, ex⟩ := lets_mem hb
    rw [h x hx, e] at ex
    cases ex
  | some b' =>
    refine cyc_one (b := b') fun b hb => ?_
    obtain ⟨x, hx, ex⟩ := lets_mem hb
    rw [h x hx, e] at ex
    exact (Option.some.inj ex).symm
/-- the points on the circle -/
def CP (ns ps : List Int) : Prop := (ns = [] ∧ ps = []) ∨ ∃ a M, Top ns a M ∧ ps = (tp (circ ns a)).dropLast
theorem CP.one {ns ps qs : List Int} (h : CP ns ps) (g : CP ns qs) : ps = qs := by
  rcases h with ⟨e, h⟩ | ⟨a, M, t, h⟩
  · rcases g with ⟨_, g⟩ | ⟨b, N, u, _⟩
    · rw [h, g]
    · have := u.at'
      rw [e] at this
      simp at this
  · rcases g with ⟨e, _⟩ | ⟨b, N, u, g⟩
    · have := t.at'
      rw [e] at this
      simp at this
    · rw [h, g, (t.one u).1]
theorem tp_circ {ns : List Int} {a : Nat} {M : Int} (t : Top ns a M) : (tp (circ ns a)).head? = some M ∧ (tp (circ ns a)).getLast? = some M ∧ ∀ x ∈ tp (circ ns a), x ≤ M := by
  have e := circ_eq t.at'
  have e2 : circ ns a = M :: ((ns.drop (a + 1) ++ ns.take a) ++ [M]) := by rw [e]; rfl
  refine ⟨?_, ?_, fun x hx => t.le x (circ_mem (tp_mem hx))⟩
  · rw [e2]
    exact ts_head _ _
  · rw [e2]
    show (ts M _).getLast? = _
    rw [ts_lastp]
    show (M :: (ns.drop (a + 1) ++ ns.take a) ++ [M]).getLast? = some M
    rw [List.getLast?_append]
    rfl
/-- no points on the circle exactly if all readings are equal -/
theorem cp_nil {ns : List Int} {a : Nat} {M : Int} (t : Top ns a M) : (tp (circ ns a)).dropLast = [] ↔ ∀ x ∈ ns, x = M := by
  have e2 : circ ns a = M :: ((ns.drop (a + 1) ++ ns.take a) ++ [M]) := by rw [circ_eq t.at']; rfl
  constructor
  · intro h x hx
    have hh := (tp_circ t).1
    have e : tp (circ ns a) = [M] := by
      match hq : tp (circ ns a), hh, h with
      | [y], hh, _ => rw [show y = M from Option.some.inj hh]
      | y :: w :: l, _, h => simp at h
    rw [e2] at e
    have := ts_one e
    rcases List.mem_cons.mp (e2 ▸ mem_circ (a := a) hx) with z | z
    · exact z
    · exact this x z
  · intro h
    have : tp (circ ns a) = [M] := by
      rw [e2]
      refine ts_all fun x hx => ?_
      refine h x (circ_mem (a := a) ?_)
      rw [e2]
      exact List.mem_cons_of_mem _ hx
    rw [this]
    rfl
theorem drop_last_back {l : List Int} {M : Int} (h : l.getLast? = some M) : l.dropLast ++ [M] = l := by
  cases l with
  | nil => cases h
  | cons a l =>
    rw [List.getLast?_eq_some_getLast (l := a :: l) (by simp)] at h
    rw [← Option.some.inj h]
    exact List.dropLast_concat_getLast (by simp)
theorem mem_dl {l : List Int} {x : Int} (h : x ∈ l.dropLast) : x ∈ l := (List.dropLast_sublist l).subset h
/-- the closed cycles: the cycles from a greatest reading round to it, and one from the least to the greatest -/
theorem cl_of {ns : List Int} {a : Nat} {M m : Int} (t : Top ns a M) (hne : (tp (circ ns a)).dropLast ≠ []) {cs ds es : List (Int × Int)} {rs : List Int} (r : Run (tp (circ ns a)) cs rs) (n : NF rs) (p : ds.Perm cs)
    (hm : m ∈ (tp (circ ns a)).dropLast) (hl : ∀ x ∈ (tp (circ ns a)).dropLast, m ≤ x) (pe : es.Perm (ds ++ [(m, M)])) (srt : es.Pairwise Le) : Cl ns es ∧ m < M := by
  obtain ⟨c1, c2, c3⟩ := tp_circ t
  have zz := tp_zz (circ ns a)
  obtain ⟨k1, k2, k3, k4⟩ := run_keep r zz
  have zr := r.zz zz
  obtain ⟨x0, hx0, nx0⟩ : ∃ x ∈ tp (circ ns a), x ≠ M := by
    by_cases z : ∀ x ∈ ns, x = M
    · exact absurd ((cp_nil t).mpr z) hne
    · obtain ⟨x, hx⟩ := Classical.not_forall.mp z
      obtain ⟨hx1, hx2⟩ := Classical.not_imp.mp hx
      by_cases z2 : ∀ y ∈ tp (circ ns a), y = M
      · have zl : (tp (circ ns a)).dropLast = [] := by
          match hq : tp (circ ns a), zz, z2 with
          | [], _, _ => rfl
          | [y], _, _ => rfl
          | y :: w :: l, zz, z2 => exact absurd ((z2 y (by simp)).trans (z2 w (by simp)).symm) (zz_cons zz)
        exact absurd zl hne
      · obtain ⟨y, hy⟩ := Classical.not_forall.mp z2
        obtain ⟨hy1, hy2⟩ := Classical.not_imp.mp hy
        exact ⟨y, hy1, hy2⟩
  rcases rest_three zr n (k1.trans c1) (k2.trans c2) (fun x hx => c3 x (k3 x hx)) with e | ⟨m', hm', e⟩
  · exfalso
    obtain ⟨y, hy, l⟩ := k4 x0 hx0
    rw [e] at hy
    have := List.mem_singleton.mp hy
    have := c3 x0 hx0
    omega
  · have em' : m' = m := by
      have b := drop_last_back c2
      have h1 : m' ∈ tp (circ ns a) := k3 m' (by rw [e]; simp)
      have h2 : m' ∈ (tp (circ ns a)).dropLast := by
        rw [← b] at h1
        rcases List.mem_append.mp h1 with z | z
        · exact z
        · exact absurd (List.mem_singleton.mp z) (by omega)
      have h3 := hl m' h2
      obtain ⟨y, hy, l⟩ := k4 m (mem_dl hm)
      rw [e] at hy
      simp only [List.mem_cons, List.not_mem_nil, or_false] at hy
      omega
    subst em'
    refine ⟨⟨fun lo hi h0 => ?_, srt, fun u v hb q hq => ?_⟩, hm'⟩
    · rw [rnd_circ h0 t, chg_count h0 r n, nh_perm pe, nh_app, nh_perm p, e]
      show 2 * nh lo hi cs + nh lo hi [rg M m', rg m' M] = _
      rw [rg_down hm', rg_up hm', nh_cons, nh_cons]
      have e0 : nh lo hi [] = 0 := rfl
      rw [e0]
      omega
    · have hb2 : ∀ x ∈ tp (circ ns a), u ≤ x ∧ x ≤ v := fun x hx => hb x (circ_mem (tp_mem hx))
      obtain ⟨i1, _⟩ := run_in r zz hb2
      rcases List.mem_append.mp (pe.mem_iff.mp hq) with z | z
      · exact i1 q (p.mem_iff.mp z)
      · rw [List.mem_singleton.mp z]
        have h1 := hb2 m' (mem_dl hm)
        have h2 := hb2 M (last_mem c2)
        exact ⟨h1.1, hm', h2.2⟩
/-! ### moved -/
theorem lett_mv (s lo hi x : Int) : lett (lo + s) (hi + s) (x + s) = lett lo hi x := by
  unfold lett
  by_cases h1 : x ≤ lo
  · rw [if_pos h1, if_pos (by omega)]
  · rw [if_neg h1, if_neg (by omega)]
    by_cases h2 : hi ≤ x
    · rw [if_pos h2, if_pos (by omega)]
    · rw [if_neg h2, if_neg (by omega)]
theorem lets_mv (s lo hi : Int) : ∀ ns : List Int, lets (lo + s) (hi + s) (ns.map (· + s)) = lets lo hi ns
  | [] => rfl
  | x :: l => by
    have ih := lets_mv s lo hi l
    unfold lets at *
    rw [List.map_cons, List.filterMap_cons, List.filterMap_cons, ih, lett_mv]
def mv (s : Int) (r : Int × Int) : Int × Int := (r.1 + s, r.2 + s)
theorem nh_mv (s lo hi : Int) : ∀ es : List (Int × Int), nh (lo + s) (hi + s) (es.map (mv s)) = nh lo hi es
  | [] => rfl
  | (a, b) :: es => by
    have ih := nh_mv s lo hi es
    rw [List.map_cons, nh_cons, nh_cons, ih]
    congr 1
    unfold mv hl
    dsimp only
    rw [show decide (a + s ≤ lo + s) = decide (a ≤ lo) by rw [decide_eq_decide]; omega, show decide (hi + s ≤ b + s) = decide (hi ≤ b) by rw [decide_eq_decide]; omega]
theorem Cl.mv {ns : List Int} {es : List (Int × Int)} (h : Cl ns es) (s : Int) : Cl (ns.map (· + s)) (es.map (mv s)) := by
  refine ⟨fun lo hi h0 => ?_, ?_, fun u v hb r hr => ?_⟩
  · have e1 := lets_mv s (lo - s) (hi - s) ns
    have e2 := nh_mv s (lo - s) (hi - s) es
    rw [show lo - s + s = lo by omega, show hi - s + s = hi by omega] at e1 e2
    unfold rnd
    rw [e1, e2]
    exact h.cnt _ _ (by omega)
  · rw [List.pairwise_map]
    refine h.srt.imp fun {a b} h => ?_
    unfold K20.mv Le at *
    dsimp only
    omega
  · obtain ⟨r0, h1, h2⟩ := List.mem_map.mp hr
    have i := h.inr (u - s) (v - s) (fun x hx => by
      have := hb (x + s) (List.mem_map.mpr ⟨x, hx, rfl⟩)
      omega) r0 h1
    unfold InR at *
    rw [← h2]
    unfold K20.mv
    dsimp only
    omega
theorem Top.mv {ns : List Int} {a : Nat} {M : Int} (t : Top ns a M) (s : Int) : Top (ns.map (· + s)) a (M + s) := by
  refine ⟨by rw [List.getElem?_map, t.at']; rfl, fun x hx => ?_, fun j x hj hx => ?_⟩
  · obtain ⟨y, hy, e⟩ := List.mem_map.mp hx
    have := t.le y hy
    omega
  · rw [List.getElem?_map] at hx
    cases e : ns[j]? with
    | none => rw [e] at hx; cases hx
    | some y =>
      rw [e] at hx
      have h1 := t.first j y hj e
      have h2 : y + s = x := Option.some.inj hx
      omega
theorem CP.mv {ns ps : List Int} (h : CP ns ps) (s : Int) : CP (ns.map (· + s)) (ps.map (· + s)) := by
  rcases h with ⟨e1, e2⟩ | ⟨a, M, t, e⟩
  · exact .inl ⟨by rw [e1]; rfl, by rw [e2]; rfl⟩
  · refine .inr ⟨a, M + s, t.mv s, ?_⟩
    have st : Str fun x => x + s := .inl fun a b => by dsimp only; omega
    have ec : circ (ns.map (· + s)) a = (circ ns a).map (· + s) := by
      unfold circ
      rw [List.map_append, List.map_drop, List.map_take]
    rw [e, ec]
    have := tp_map st (circ ns a)
    rw [this, List.map_dropLast]
end K20

namespace K20
open KM PM RM RN RC RE K9
/-! ### there are closed cycles -/
def leB (r s : Int × Int) : Bool := decide (Le r s)
theorem sorted_ex (l : List (Int × Int)) : ∃ es : List (Int × Int), es.Perm l ∧ es.Pairwise Le := by
  refine ⟨l.mergeSort leB, List.mergeSort_perm l leB, ?_⟩
  have h := List.pairwise_mergeSort (le := leB) (fun a b c h1 h2 => by
    have h1 := of_decide_eq_true h1
    have h2 := of_decide_eq_true h2
    refine decide_eq_true ?_
    simp only [Le] at *
    omega) (fun a b => by
    by_cases h : Le a b
    · simp [leB, h]
    · have : Le b a := by simp only [Le] at *; omega
      simp [leB, this]) l
  exact h.imp fun h => of_decide_eq_true h
theorem top_ex {ns : List Int} (h : ns ≠ []) : ∃ a M, Top ns a M := by
  have mx : ∀ l : List Int, l ≠ [] → ∃ M ∈ l, ∀ x ∈ l, x ≤ M := by
    intro l
    induction l with
    | nil => exact fun h => absurd rfl h
    | cons a l ih =>
      intro _
      by_cases e : l = []
      · subst e
        exact ⟨a, by simp, fun x hx => by rw [List.mem_singleton.mp hx]; exact Int.le_refl _⟩
      · obtain ⟨M, h1, h2⟩ := ih e
        by_cases c : a ≤ M
        · refine ⟨M, List.mem_cons_of_mem _ h1, fun x hx => ?_⟩
          rcases List.mem_cons.mp hx with z | z
          · omega
          · exact h2 x z
        · refine ⟨a, List.mem_cons_self, fun x hx => ?_⟩
          rcases List.mem_cons.mp hx with z | z
          · omega
          · have := h2 x z
            omega
  obtain ⟨M, hM, hle⟩ := mx ns h
  have fs : ∀ l : List Int, M ∈ l → ∃ j : Nat, l[j]? = some M ∧ ∀ (m : Nat) (z : Int), m < j → l[m]? = some z → z ≠ M := by
    intro l
    induction l with
    | nil => exact fun h => (List.not_mem_nil h).elim
    | cons x l ih =>
      intro hm
      by_cases e : x = M
      · exact ⟨0, by rw [e]; rfl, fun m z hm _ => absurd hm (Nat.not_lt_zero _)⟩
      · obtain ⟨j, h1, h2⟩ := ih (by
          rcases List.mem_cons.mp hm with z | z
          · exact absurd z.symm e
          · exact z)
        refine ⟨j + 1, h1, fun m z hm hz => ?_⟩
        cases m with
        | zero => rw [← Option.some.inj hz]; exact e
        | succ m => exact h2 m z (by omega) hz
  obtain ⟨j, h1, h2⟩ := fs ns hM
  exact ⟨j, M, h1, hle, h2⟩
theorem min_ex {l : List Int} (h : l ≠ []) : ∃ m ∈ l, ∀ x ∈ l, m ≤ x := by
  induction l with
  | nil => exact absurd rfl h
  | cons a l ih =>
    by_cases e : l = []
    · subst e
      exact ⟨a, by simp, fun x hx => by rw [List.mem_singleton.mp hx]; exact Int.le_refl _⟩
    · obtain ⟨M, h1, h2⟩ := ih e
      by_cases c : M ≤ a
      · refine ⟨M, List.mem_cons_of_mem _ h1, fun x hx => ?_⟩
        rcases List.mem_cons.mp hx with z | z
        · omega
        · exact h2 x z
      · refine ⟨a, List.mem_cons_self, fun x hx => ?_⟩
        rcases List.mem_cons.mp hx with z | z
        · omega
        · have := h2 x z
          omega
theorem cl_ex (ns : List Int) : ∃ es, Cl ns es ∧ es.length ≤ ns.length + 2 := by
  by_cases hn : ns = []
  · exact ⟨[], Cl.all_eq (M := 0) fun x hx => by rw [hn] at hx; exact (List.not_mem_nil hx).elim, Nat.zero_le _⟩
  obtain ⟨a, M, t⟩ := top_ex hn
  by_cases hd : (tp (circ ns a)).dropLast = []
  · exact ⟨[], Cl.all_eq ((cp_nil t).mp hd), Nat.zero_le _⟩
  obtain ⟨m, hm, hl⟩ := min_ex hd
  obtain ⟨cs, rs, run, nf⟩ := RM.ends _ (tp (circ ns a)) (Nat.le_refl _)
  obtain ⟨es, p, s⟩ := sorted_ex (cs ++ [(m, M)])
  refine ⟨es, (cl_of t hd run nf (List.Perm.refl cs) hm hl p s).1, ?_⟩
  have h1 := run.len
  have h2 := tp_len (circ ns a)
  have h3 : (circ ns a).length = ns.length + 1 := by
    have := (List.getElem?_eq_some_iff.mp t.at').1
    unfold circ
    rw [List.length_append, List.length_drop, List.length_take]
    omega
  rw [p.length_eq, List.length_append]
  show cs.length + 1 ≤ _
  omega
/-! ### the letters round the circle, one by one -/
theorem cyc_first {l : List Bool} {a z : Bool} (h0 : l[0]? = some a) (h1 : l[l.length - 1]? = some z) : cyc l = cnt l + (if z = a then 0 else 1) := by
  unfold cyc
  rw [List.getLast?_eq_getElem?, h1, List.head?_eq_getElem?, h0]
  rfl
/-! ### the law's turns -/
def Enm (o : List Int) (i : Nat) (fnd : List Int) : Prop := (i = 0 ∧ fnd = []) ∨ (i = o.length ∧ fnd = lp o) ∨ (∃ j p c, i = j + 1 ∧ j + 1 < o.length ∧ o[j]? = some p ∧ o[j + 1]? = some c ∧ lp o = fnd ++ lq p c (o.drop (j + 2)))
theorem enm_start {o : List Int} {x : Int} (h : o[0]? = some x) : Enm o 1 [x] := by
  match o, h with
  | [y], h =>
    have e : y = x := Option.some.inj h
    exact .inr (.inl ⟨rfl, by rw [e]; rfl⟩)
  | y :: z :: l, h =>
    have e : y = x := Option.some.inj h
    subst e
    exact .inr (.inr ⟨0, y, z, rfl, by simp, rfl, rfl, rfl⟩)
theorem enm_last {o fnd : List Int} {i : Nat} {x : Int} (h : o[i]? = some x) (hi : 0 < i) (hl : i + 1 = o.length) (e : Enm o i fnd) : Enm o (i + 1) (fnd ++ [x]) := by
  rcases e with ⟨e, _⟩ | ⟨e, _⟩ | ⟨j, p, c, e1, e2, e3, e4, e5⟩
  · omega
  · omega
  · subst e1
    rw [h] at e4
    cases e4
    refine .inr (.inl ⟨hl, ?_⟩)
    rw [e5, List.drop_eq_nil_of_le (by omega)]
    rfl
theorem enm_mid {o fnd : List Int} {i : Nat} {p x d : Int} (hp : o[i - 1]? = some p) (h : o[i]? = some x) (hd : o[i + 1]? = some d) (hi : 0 < i) (e : Enm o i fnd) : Enm o (i + 1) (if decide (p < x) = decide (d < x) then fnd ++ [x] else fnd) := by
  have hlt := (List.getElem?_eq_some_iff.mp hd).1
  rcases e with ⟨e, _⟩ | ⟨e, _⟩ | ⟨j, p', c, e1, e2, e3, e4, e5⟩
  · omega
  · omega
  · subst e1
    rw [show j + 1 - 1 = j by omega, e3] at hp
    cases hp
    rw [h] at e4
    cases e4
    obtain ⟨h1, h2⟩ := List.getElem?_eq_some_iff.mp hd
    refine .inr (.inr ⟨j + 1, x, d, rfl, by omega, h, hd, ?_⟩)
    rw [e5, List.drop_eq_getElem_cons h1, h2]
    simp only [lq]
    have ed : (decide (x > p) = decide (x > d)) ↔ (decide (p < x) = decide (d < x)) := Iff.rfl
    by_cases z : decide (p < x) = decide (d < x)
    · rw [if_pos z, if_pos (ed.mpr z), List.append_assoc]
      rfl
    · rw [if_neg z, if_neg (fun y => z (ed.mp y))]
theorem enm_end {o fnd : List Int} (e : Enm o o.length fnd) : fnd = lp o := by
  rcases e with ⟨e, h⟩ | ⟨_, h⟩ | ⟨j, p, c, e1, e2, _⟩
  · have : o = [] := List.length_eq_zero_iff.mp e.symm.symm
    rw [this, h]
    rfl
  · exact h
  · omega
end K20

/-! walks and items of what is a list or a tuple; keyword-only parameters -/
namespace GB
open PySem PySem.Spec PyProof.Rows L2 PH KA
section
variable {X : Cx} {tg l : Expr} {tl : TE}
def iBoth (K : PySem.W.Frag) (tl : TE) : TI := fun σ H R => tl σ H fun x H1 => ∃ a, x = .ref a ∧ (((∃ xs, SqL K H1 a xs) ∧ R (Itl K a) H1) ∨ ((∃ xs, SqT K H1 a xs) ∧ R (Itt K a) H1))
theorem pi_both (hl : PE X l tl) : PI X tg l (iBoth X.K tl) := by
  refine ⟨fun pins s σ H R I h => ?_⟩
  refine thn (hl.run pins s σ H _ I h) fun v s1 ⟨x, H1, I1, r1, q1⟩ => ?_
  obtain ⟨a, e, q⟩ := q1
  subst e
  cases r1
  rcases q with ⟨⟨xs, hq⟩, q⟩ | ⟨⟨xs, hq⟩, q⟩
  · obtain ⟨its, rv, p, hz⟩ := I1.list hq
    refine wpAny_pyIter_list p.isList ?_
    refine ⟨s1.heap.objs.size, [s1.heap.objs.size], _, _, H1, rfl, I1.kept (t' := s1.toks) fun b o e => Heap.get?_push_of_some _ e, turn_list a _, ⟨_, Heap.get?_push_size _ rfl, rfl, rfl⟩, fun b hb => ?_, q⟩
    have e : b = s1.heap.objs.size := by simpa using hb
    subst e
    exact I1.fpOk (Nat.le_refl _) (I1.hok.fresh (Nat.le_refl _))
  · obtain ⟨its, rv, p, hz⟩ := I1.tuple hq
    refine wpAny_pyIter_tuple (show s1.heap.IsTuple a its.toArray from p) ?_
    refine ⟨s1.heap.objs.size, [s1.heap.objs.size], _, _, H1, rfl, I1.kept (t' := s1.toks) fun b o e => Heap.get?_push_of_some _ e, turn_tuple a _, ⟨_, Heap.get?_push_size _ rfl, rfl, rfl⟩, fun b hb => ?_, q⟩
    have e : b = s1.heap.objs.size := by simpa using hb
    subst e
    exact I1.fpOk (Nat.le_refl _) (I1.hok.fresh (Nat.le_refl _))
def rIxB (K : PySem.W.Frag) : R2 := fun x y H Q => ∃ p xs i v, x = .ref p ∧ y = .int i ∧ Sq K H p xs ∧ atI xs i = some v ∧ Q v H
theorem ix_both : IxR X (rIxB X.K) := by
  intro value slice pins s σ H x y v u Q I rx ry ⟨p, xs, i, z, e1, e2, hq, he, q⟩ hs
  rcases hq with hq | hq
  · exact ix_list value slice pins s σ H x y v u Q I rx ry ⟨p, xs, i, z, e1, e2, hq, he, q⟩ hs
  · exact ix_tup value slice pins s σ H x y v u Q I rx ry ⟨p, xs, i, z, e1, e2, hq, he, q⟩ hs
end
/-- f(e, .., k = v): the keyword-only parameter is named -/
theorem kbn1 {K : PySem.W.Frag} {x qual : Str} {params : Arguments} {body : List Stmt} {scope : Scope} {kws : List (Str × V)} {f : Addr} {fd : FuncData} {ps : List Str} {k : Str} (F : FunD K x qual params body scope [] kws f fd) (n : Nat)
    (h : ∀ (kV doc pm : Value) (an : Option Addr) (cdv ct : Value) (us : List Value) (w : Value), us.length = n → bindArgs (PySem.W.fnOf x qual params body scope .none kV doc pm an cdv ct) ⟨us, [(k, w)]⟩ = pure (ps.zip (us ++ [w]))) :
    KBn K fd ps n [k] (fun us ws => us ++ ws) (fun vs zs => vs ++ zs) := by
  obtain ⟨oc, od, dV, kV, doc, pm, an, cdv, ct, osl, rfl, lk, hcd, hD, hK⟩ := F.ex
  rcases hD with ⟨_, rfl⟩ | ⟨e, _⟩
  · refine ⟨fun s us ws X l1 l2 => ?_, fun r1 r2 => r1.append r2⟩
    match ws, l2 with
    | [w], _ => exact .of_eq (h kV doc pm an cdv ct us w l1)
  · exact absurd rfl e
end GB

/-! lists or tuples of ints: max, min, index, slices; len of a set -/
namespace GU
open PySem PySem.Spec PyProof.Rows L2 KA PH
section
variable {prog : Program} {w : World} {A : Around} {E : Value → Shared → Prop} {s : Shared} {l : Addr} {xs : Array (Int × Tok)}
theorem iter_intTup {Q : Value → Shared → Prop} (hl : s.heap.IsTuple l (intItems xs))
    (h : ∀ s₂ : Shared, s₂ = { s with heap := s.heap.push { cls := .type "tuple_iterator", data := .fields #[.ref l, .int 0 0] } } →
      (s₂.heap.IsTupleIter s.heap.objs.size l 0 ∧ s₂.heap.IsTuple l (intItems xs)) → (∀ b ∈ [s.heap.objs.size, l], b < s₂.heap.objs.size) → l ≠ s.heap.objs.size → Q (.ref s.heap.objs.size) s₂) :
    wpAny (model prog w) A (pyIter (.ref l)) Q E s := by
  have hlt : l < s.heap.objs.size := by obtain ⟨_, e, _⟩ := hl; exact Heap.lt_size e
  refine wpAny_pyIter_tuple hl (h _ rfl ⟨⟨_, Heap.get?_push_size _ rfl, rfl, rfl⟩, hl.push _⟩ (fun b hb => ?_) (Nat.ne_of_lt hlt))
  show b < (s.heap.push _).objs.size
  rw [Heap.size_push]
  rcases List.mem_cons.mp hb with rfl | hb
  · exact Nat.lt_succ_self _
  · rcases List.mem_cons.mp hb with rfl | hb
    · exact Nat.lt_succ_of_lt hlt
    · cases hb
theorem old_keptT {h' : Heap} (hk : ∀ b o, b ∉ [s.heap.objs.size] → (s.heap.push { cls := .type "tuple_iterator", data := .fields #[.ref l, .int 0 0] }).get? b = some o → h'.get? b = some o) :
    ∀ b o, s.heap.get? b = some o → h'.get? b = some o := fun b o e => by
  refine hk b o (fun hm => ?_) (Heap.get?_push_of_some _ e)
  rcases List.mem_cons.mp hm with e1 | hm
  · exact absurd (e1 ▸ Heap.lt_size e) (Nat.lt_irrefl _)
  · cases hm
theorem max_intTup {Q : Value → Shared → Prop} (hh : A.handled = none) (hl : s.heap.IsTuple l (intItems xs)) (hne : 0 < xs.size)
    (h : ∀ v h' tk, (intItems xs)[argBest (fun i j => decide (numAt xs i > numAt xs j)) (xs.size - 1)]? = some v → (∀ b o, s.heap.get? b = some o → h'.get? b = some o) → Q v { s with heap := h', toks := tk }) :
    wpAny (model prog w) A (call (.builtin "max") [.ref l]) Q E s := by
  refine call_max_walk (iter_intTup hl fun s₂ e st hfp hlI => ?_)
  subst e
  refine ⟨_, _, _, _, _, _, _, rfl, Walks.tuple (A := A.in1) hh _ l hlI (intItems xs), st, hfp, by simpa [intItems] using hne, CmpOf.ints_gt (numAt xs) (fun _ _ => intItems_at), fun v h' tk hP hk => ?_⟩
  exact h v h' tk (by simpa [intItems] using hP) (old_keptT hk)
theorem min_intTup {Q : Value → Shared → Prop} (hh : A.handled = none) (hl : s.heap.IsTuple l (intItems xs)) (hne : 0 < xs.size)
    (h : ∀ v h' tk, (intItems xs)[argBest (fun i j => decide (numAt xs i < numAt xs j)) (xs.size - 1)]? = some v → (∀ b o, s.heap.get? b = some o → h'.get? b = some o) → Q v { s with heap := h', toks := tk }) :
    wpAny (model prog w) A (call (.builtin "min") [.ref l]) Q E s := by
  refine call_min_walk (iter_intTup hl fun s₂ e st hfp hlI => ?_)
  subst e
  refine ⟨_, _, _, _, _, _, _, rfl, Walks.tuple (A := A.in1) hh _ l hlI (intItems xs), st, hfp, by simpa [intItems] using hne, CmpOf.ints_lt (numAt xs) (fun _ _ => intItems_at), fun v h' tk hP hk => ?_⟩
  exact h v h' tk (by simpa [intItems] using hP) (old_keptT hk)
end
section
variable {prog : Program} {w : World} {A : Around} {E : Value → Shared → Prop} {s : Shared} {l : Addr} {its : List Value} {ns : List Int} {Q : Value → Shared → Prop}
theorem max_rawT (hh : A.handled = none) (hl : IsTup s.heap l its.toArray) (hi : IntsAre its ns) (hne : 0 < ns.length)
    (h : ∀ h' tk M t', (∀ b o, s.heap.get? b = some o → h'.get? b = some o) → M ∈ ns → (∀ a, a ∈ ns → a ≤ M) → Q (.int M t') { s with heap := h', toks := tk }) : wpAny (model prog w) A (call (.builtin "max") [.ref l]) Q E s := by
  obtain ⟨xs, e⟩ := hi.allInts.items
  have hn : numsOf (intItems xs).toList = ns := by rw [← e]; exact hi.numsOf
  rw [nums_intItems] at hn
  subst hn
  rw [e] at hl
  have hsz : 0 < xs.size := by simpa using hne
  have hl2 : s.heap.IsTuple l (intItems xs) := by
    obtain ⟨o, ho, hc, n, hd⟩ := hl
    exact ⟨o, ho, hc, n, hd⟩
  refine max_intTup hh hl2 hsz fun v h' tk hv hk => ?_
  obtain ⟨t, rfl⟩ := intItems_at hv
  obtain ⟨h1, h2⟩ := argBest_gt (numAt xs) (xs.size - 1)
  refine h h' tk _ t hk ?_ fun a ha => ?_
  · rw [numAt_eq]; exact PySem.getD_mem (by rw [List.length_map, Array.length_toList]; omega)
  · obtain ⟨j, hj, rfl⟩ := mem_getD ha
    rw [List.length_map, Array.length_toList] at hj
    rw [← numAt_eq]; exact h2 j (by omega)
theorem min_rawT (hh : A.handled = none) (hl : IsTup s.heap l its.toArray) (hi : IntsAre its ns) (hne : 0 < ns.length)
    (h : ∀ h' tk M t', (∀ b o, s.heap.get? b = some o → h'.get? b = some o) → M ∈ ns → (∀ a, a ∈ ns → M ≤ a) → Q (.int M t') { s with heap := h', toks := tk }) : wpAny (model prog w) A (call (.builtin "min") [.ref l]) Q E s := by
  obtain ⟨xs, e⟩ := hi.allInts.items
  have hn : numsOf (intItems xs).toList = ns := by rw [← e]; exact hi.numsOf
  rw [nums_intItems] at hn
  subst hn
  rw [e] at hl
  have hsz : 0 < xs.size := by simpa using hne
  have hl2 : s.heap.IsTuple l (intItems xs) := by
    obtain ⟨o, ho, hc, n, hd⟩ := hl
    exact ⟨o, ho, hc, n, hd⟩
  refine min_intTup hh hl2 hsz fun v h' tk hv hk => ?_
  obtain ⟨t, rfl⟩ := intItems_at hv
  obtain ⟨h1, h2⟩ := argBest_lt (numAt xs) (xs.size - 1)
  refine h h' tk _ t hk ?_ fun a ha => ?_
  · rw [numAt_eq]; exact PySem.getD_mem (by rw [List.length_map, Array.length_toList]; omega)
  · obtain ⟨j, hj, rfl⟩ := mem_getD ha
    rw [List.length_map, Array.length_toList] at hj
    rw [← numAt_eq]; exact h2 j (by omega)
end
section
variable {X : Cx}
/-- one of two readings -/
theorem pe_either {e : Expr} {t u : TE} (h : PE X e t) (g : PE X e u) : PE X e (fun σ H Q => t σ H Q ∨ u σ H Q) :=
  ⟨fun pins s σ H Q I q => q.elim (h.run pins s σ H Q I) (g.run pins s σ H Q I)⟩
/-- max(xs), min(xs) of a list or a tuple of ints -/
def rMaxS (K : PySem.W.Frag) : List V → Hp → VK → Prop := fun vs H Q => ∃ (a : Addr) (ns : List Int), vs = [V.ref a] ∧ Sq K H a (ns.map V.int) ∧ 0 < ns.length ∧ ∀ m, m ∈ ns → (∀ y, y ∈ ns → y ≤ m) → Q (.int m) H
def rMinS (K : PySem.W.Frag) : List V → Hp → VK → Prop := fun vs H Q => ∃ (a : Addr) (ns : List Int), vs = [V.ref a] ∧ Sq K H a (ns.map V.int) ∧ 0 < ns.length ∧ ∀ m, m ∈ ns → (∀ y, y ∈ ns → m ≤ y) → Q (.int m) H
theorem cr_maxS (hc : X.calm = true) : CallR X (.builtin "max") (rMaxS X.K) := by
  intro pins s σ H vs us Q I r h
  obtain ⟨a, ns, rfl, hs | hs, hne, q⟩ := h
  · exact cr_max hc pins s σ H _ us Q I r ⟨a, ns, rfl, hs, hne, q⟩
  · obtain ⟨its, rv, hl, _⟩ := I.tuple hs
    rw [Vals.ref1 r]
    exact max_rawT (I.ok.hd hc) hl rv.ints hne fun h' tk m t' hk h1 h2 => ⟨.int _, H, I.kept hk, ⟨_, rfl⟩, q m h1 h2⟩
theorem cr_minS (hc : X.calm = true) : CallR X (.builtin "min") (rMinS X.K) := by
  intro pins s σ H vs us Q I r h
  obtain ⟨a, ns, rfl, hs | hs, hne, q⟩ := h
  · exact cr_min hc pins s σ H _ us Q I r ⟨a, ns, rfl, hs, hne, q⟩
  · obtain ⟨its, rv, hl, _⟩ := I.tuple hs
    rw [Vals.ref1 r]
    exact min_rawT (I.ok.hd hc) hl rv.ints hne fun h' tk m t' hk h1 h2 => ⟨.int _, H, I.kept hk, ⟨_, rfl⟩, q m h1 h2⟩
/-- xs[lo:hi] of a list or a tuple -/
def rSlS (K : PySem.W.Frag) : V → Option Int → Option Int → Hp → VK → Prop := fun x lo hi H Q => ∃ a xs, x = .ref a ∧ Sq K H a xs ∧ ∀ H' p, Same H H' → Sq K H' p (cutV xs lo hi) → Q (.ref p) H'
theorem cut_whole {xs : List V} {lo hi : Option Int} (h : HT.sIx xs.length 0 lo = 0 ∧ HT.sIx xs.length xs.length hi = xs.length) : cutV xs lo hi = xs := by
  unfold cutV
  rw [h.1, h.2, List.drop_zero, Nat.sub_zero, List.take_length]
theorem sl_S : SlR X (rSlS X.K) := by
  intro pins s σ H x v vl vu lo hi sl Q I rx hs pl pu h
  obtain ⟨a, xs, rfl, hS | hS, q⟩ := h
  · exact sl_list pins s σ H _ v vl vu lo hi sl Q I rx hs pl pu ⟨a, xs, rfl, hS, fun p np => q _ p (same_new np) (.inl (SqL.of upd_same))⟩
  · exact sl_tupA pins s σ H _ v vl vu lo hi sl Q I rx hs pl pu ⟨a, xs, rfl, hS, fun w => q H a (Same.refl H) (by rw [cut_whole w]; exact .inr hS), fun _ p np => q _ p (same_new np) (.inr (SqT.of upd_same))⟩
/-- xs.index(y) of ints -/
def rIdxL (K : PySem.W.Frag) : V → List V → Hp → VK → Prop := fun x xs H Q => ∃ (a : Addr) (ns : List Int) (y : Int) (j : Nat), x = V.ref a ∧ xs = [V.int y] ∧ SqL K H a (ns.map V.int) ∧ ns[j]? = some y ∧ (∀ m z, m < j → ns[m]? = some z → z ≠ y) ∧ Q (.int (j : Nat)) H
def rIdxT (K : PySem.W.Frag) : V → List V → Hp → VK → Prop := fun x xs H Q => ∃ (a : Addr) (ns : List Int) (y : Int) (j : Nat), x = V.ref a ∧ xs = [V.int y] ∧ SqT K H a (ns.map V.int) ∧ ns[j]? = some y ∧ (∀ m z, m < j → ns[m]? = some z → z ≠ y) ∧ Q (.int (j : Nat)) H
theorem flat_ints (ns : List Int) : (ns.map V.int).all flatV = true := by
  rw [List.all_map]
  exact List.all_eq_true.mpr fun _ _ => rfl
theorem mt_idxL : MtR X "list.index" (rIdxL X.K) := by
  intro pins s σ H x xs v us Q I rx rxs h
  obtain ⟨a, ns, y, j, rfl, rfl, hs, hy, hno, q⟩ := h
  refine mt_index pins s σ H _ _ v us Q I rx rxs ⟨a, ns.map V.int, .int y, j, .int y, rfl, rfl, hs, rfl, flat_ints ns, at_int hy, beq_self_eq_true y, fun m z hm hz => ?_, q⟩
  obtain ⟨r, hr, rfl⟩ := int_at hz
  exact beq_eq_false_iff_ne.mpr (hno m r hm hr)
theorem mt_idxT : MtR X "tuple.index" (rIdxT X.K) := by
  intro pins s σ H x xs v us Q I rx rs h
  obtain ⟨p, ys, z, j, rfl, rfl, hq, hy, hno, q⟩ := h
  cases rx
  obtain ⟨u, rfl, t, rfl⟩ := vals1 rs
  obtain ⟨its, r, pl, hz⟩ := I.tuple hq
  obtain ⟨⟨cls, dd, dt, sl⟩, ho, hc, n, hd⟩ := pl
  simp only at hc hd
  subst hc
  subst hd
  have hl : its.toArray.size = ys.length := by rw [List.size_toArray, ← r.length, List.length_map]
  have hj : j < its.toArray.size := by rw [hl]; exact (List.getElem?_eq_some_iff.mp hy).1
  have at' : ∀ (m : Nat) (hm : m < its.toArray.size), ∃ y t', ys[m]? = some y ∧ its.toArray[m] = Value.int y t' := fun m hm => by
    have hm' : m < ys.length := by rw [← hl]; exact hm
    obtain ⟨w, hw, t', hw'⟩ := r.get (i := m) (x := .int ys[m]) (by simp [hm'])
    refine ⟨ys[m], t', List.getElem?_eq_getElem hm', ?_⟩
    have e := (List.getElem?_eq_some_iff.mp hw).2
    rw [← hw', ← e]
    simp
  refine call_meets PySem.F.slot_tuple_index ⟨_, ho, rfl⟩ PySem.F.entry_tuple_index (PySem.F.args_tuple_index_2 _ _) (TI.tuple_indexAt p its.toArray n dd sl (.int z t) (eqU (.int z)) j hj ?_ ?_)
    ⟨ho, fun w hw => mem_eqAt (x := .int z) ⟨t, rfl⟩ rfl r (flat_ints ys) w (by simpa using hw), ⟨.int (j : Nat), H, I.tok _, ⟨_, rfl⟩, q⟩⟩
  · obtain ⟨y, t', h1, h2⟩ := at' j hj
    rw [hy] at h1
    cases h1
    rw [h2]
    show (z == z) = true
    exact beq_self_eq_true z
  · intro m hm hmj
    obtain ⟨y, t', h1, h2⟩ := at' m hm
    rw [h2]
    show (y == z) = false
    exact beq_eq_false_iff_ne.mpr (hno m y hmj h1)
/-- len(s) of a set of ints -/
def rLenSet (w : World) : List V → Hp → VK → Prop := fun vs H Q => ∃ (a : Addr) (S : Int → Bool) (n : Nat), vs = [V.ref a] ∧ H a = some (SetO w a S n) ∧ n < 2 ^ 40 ∧ ((∃ ks : List Int, ks.Nodup ∧ ks.length = n ∧ ∀ k, k ∈ ks ↔ S k = true) → Q (.int (n : Nat)) H)
theorem cr_lenSet : CallR X (.builtin "len") (rLenSet X.w) := by
  intro pins s σ H vs us Q I r h
  obtain ⟨a, S, n, rfl, ha, hn, q⟩ := h
  rw [Vals.ref1 r]
  obtain ⟨o, es, ep, t, ho, hex, hd, h1, h2, h3, h4, hf, hsz, _⟩ := setO_get I ha
  refine call_len_set ho hex hd hf (by omega) ⟨.int (n : Nat), H, I.tok _, ⟨_, by rw [hsz]⟩, q ⟨es.toList.map keyOf, h2, by rw [List.length_map, Array.length_toList, hsz], fun k => (h3 k).symm⟩⟩
end
end GU

/-! == and != of two instances by an own __eq__, both answers -/
namespace GN
open PySem PySem.Spec PyProof.Rows L2
section
variable {M : Model} {prog : Program} {w : World} {A : Around} {E : Value → Shared → Prop} {s : Shared} {K : PySem.W.Frag} {x C L f : Addr} {ox : Obj} {od : Option Obj}
theorem entry_ne {y : Value} (X : K.In s.heap) (I : PySem.W.InstAt s.heap x ox C od) (hs : PySem.W.findIn K (.ref C) "__eq__" = some (some (.ref f))) (hf : PySem.W.isFn K (.ref f) = true) (hu : A.units < cLine) {Q : Fin → Shared → Prop}
    (hcall : wpAny (model prog w) A (call (.ref f) [.ref x, y]) (fun v s' => ∃ b, v = .bool b ∧ Q (.done (.ret (.bool (!b)))) s') E s) :
    wpAny (model prog w) A (Builtin.«object.__ne__» ⟨[.ref x, y], []⟩) Q E s := by
  unfold Builtin.«object.__ne__»
  repeat (first
    | with_reducible refine wpAny_cRoomFor hu ?_
    | (refine wpAny_bind (m := callSpecialIfBound? (.ref x) (Str.ofString "__eq__") [y])
        (PySem.W.ifBound_K X I hs hf (wpAny_mono hcall (fun r s' hr => by
          obtain ⟨b, rfl, hq⟩ := hr
          repeat (first | exact hq | exact wpAny_pure hq | exact wpAny_truthy_bool hq | (refine wpAny_bind (m := truthy (.bool _)) (wpAny_truthy_bool ?_)) | wp_step)) fun _ _ e => e)))
    | wp_step)
theorem ifBound_ne {args : List Value} {Q : Option Value → Shared → Prop} (X : K.In s.heap) (I : PySem.W.InstAt s.heap x ox C od) (hs : PySem.W.findIn K (.ref C) "__ne__" = some (some (.builtin "object.__ne__")))
    (h : wpAny M A (call (.builtin "object.__ne__") (.ref x :: args)) (fun v => Q (some v)) E s) : wpAny M A (callSpecialIfBound? (.ref x) "__ne__" args) Q E s := by
  simp only [callSpecialIfBound?, bindSpecialIfBound?]
  refine wpAny_holding (wpAny_bind (wpAny_bind (wpAny_bind (I.type.here ((PySem.W.looks_findIn X hs).here ?_)))))
  refine wpAny_bind (wpAny_askSetting (wpAny_ite ?_))
  have fin : wpAny M A (call (.builtin "object.__ne__") ([.ref x] ++ args) >>= fun v => pure (some v)) Q E s := wpAny_bind (wpAny_mono h (fun v s' h' => wpAny_pure h') fun _ _ h' => h')
  split
  · exact wpAny_bind (wpAny_of_eq (F.cmp_object.ne.bind _) (wpAny_pure (by exact fin)))
  · exact wpAny_tryCatch (wpAny_bind (wpAny_of_eq (F.cmp_object.ne.bind _) (wpAny_pure (by exact fin))))
theorem rc_ne {b tb : Value} {Q : Value → Shared → Prop} (hu : A.units + 1 < cLine) (X : K.In s.heap) (I : PySem.W.InstAt s.heap x ox C od) (hb : PySem.W.Looks (model prog w) s.heap (typeOf b) tb) (hn : PySem.W.notFirst K C tb = true)
    (hm : PySem.W.mroIn K C (.type "object") = some true) (hs : PySem.W.findIn K (.ref C) "__eq__" = some (some (.ref f))) (hf : PySem.W.isFn K (.ref f) = true) (hne : PySem.W.findIn K (.ref C) "__ne__" = some (some (.builtin "object.__ne__")))
    (h : wpAny (model prog w) A.in1 (call (.ref f) [.ref x, b]) (fun v s' => ∃ r, v = .bool r ∧ Q (.bool (!r)) s') E s) : wpAny (model prog w) A (richCompare .NotEq (.ref x) b) Q E s := by
  have one : wpAny (model prog w) A (tryCompare (.ref x) "__ne__" b) (fun r s' => ∃ v, r = some v ∧ Q v s') E s := by
    unfold tryCompare
    refine wpAny_bind (ifBound_ne X I hne (wpAny_call (codeAny_call_builtin F.cmp_object.ne.plain F.cmpEntry_ne (PySem.W.check_slot F.cmpKind_ne F.cmpSplit_ne (I.type.andThen (PySem.W.looks_mroIn X hm)) (F.cmpArgs_ne _ _)
      (entry_ne (A := A.in1) X I hs hf hu (wpAny_mono h (fun v s' hv => ?_) fun _ _ e => e))))))
    obtain ⟨r, rfl, hq⟩ := hv
    first
      | exact ⟨r, rfl, wpAny_pure ⟨_, rfl, hq⟩⟩
      | exact ⟨r, rfl, wpAny_pure (wpAny_pure ⟨_, rfl, hq⟩)⟩
      | exact ⟨r, rfl, _, rfl, hq⟩
  unfold richCompare
  simp only [oneThing_ref]
  refine wpAny_holding (wpAny_bind (wpAny_cRoomFor (Nat.lt_of_succ_lt hu) ?_))
  refine wpAny_bind (I.type.here (wpAny_bind (hb.here ?_)))
  split
  · rename_i q
    have e : PySem.W.subIn K tb (.ref C) = some false := by
      rcases Bool.or_eq_true_iff.mp hn with e | e
      · rw [beq_iff_eq.mp e] at q; simp at q
      · exact beq_iff_eq.mp e
    refine wpAny_bind ((PySem.W.looks_subIn X e).here ?_)
    simp only [Bool.false_eq_true, if_false]
    refine wpAny_bind (wpAny_mono one (fun r s' z => ?_) fun _ _ e => e)
    obtain ⟨v, rfl, hq⟩ := z
    exact wpAny_pure hq
  · refine wpAny_bind (wpAny_pure ?_)
    simp only [Bool.false_eq_true, if_false]
    refine wpAny_bind (wpAny_mono one (fun r s' z => ?_) fun _ _ e => e)
    obtain ⟨v, rfl, hq⟩ := z
    exact wpAny_pure hq
end
section
variable {X : Cx} {n : Nat} {CX : CXT} {C f : Addr} {fd : FuncData} {ps : List Str} {sp : Sp} {E : XK}
/-- a def of the text, called from below -/
theorem call_own (F : FnOk X.prog X.w X.K X.mg X.base CX n f fd ps sp) (hb : Binds X.K fd ps []) (hx : Passes CX X E) {A : Around} (sb : Sub X n A) {pins : List (Addr × Obj)} {σ : L2.St} {H : Hp} {s : Shared} (I : Inv X pins σ H s) {vs : List V} {us : List Value} (r2 : Vals vs us) {Q : VK} (hsp : sp vs H Q E) :
    wpAny (model X.prog X.w) A (call (.ref f) us) (fun v s' => ∃ z H', Inv X pins σ H' s' ∧ RelV z v ∧ Q z H') X.xe s := by
  have e0 : Env0 X.prog X.w X.K X.mg X.base A X.stack s H := by
    have e := I.env0
    exact ⟨by rw [sb.fr]; exact e.frames, e.mod, e.bs, e.bsz, e.funs, e.frf, e.hok, e.bare⟩
  have hl := F.len _ _ _ _ hsp
  refine wpAny_call (codeAny_mono (F.run A X.stack s H ⟨us, []⟩ us vs _ E sb.room e0 (by
    have := hb s us I.kIn (by rw [List.append_nil, ← r2.length]; exact hl)
    simpa using this) r2 hsp) fun r s' hq => ?_)
  cases r with
  | error e => exact hx pins σ H s e s' I hq
  | ok fl =>
    cases fl with
    | ret w =>
      obtain ⟨z, H', I', rz, ez⟩ := I.after hq
      exact ⟨z, H', I', rz, ez⟩
    | next => exact False.elim hq
    | brk => exact False.elim hq
    | cont => exact False.elim hq
/-- what == (neg: !=) of two instances of the class asks -/
def rOwn (C : Addr) (sp : Sp) (E : XK) (neg : Bool) : R2 := fun x y H Q => ∃ a b dx dy fs gs, x = .ref a ∧ y = .ref b ∧ H a = some (.ins C dx fs) ∧ H b = some (.ins C dy gs) ∧ sp [.ref a, .ref b] H (fun v H' => ∃ r, v = .bl r ∧ Q (.bl (neg != r)) H') E
theorem op_eqOwn (F : FnOk X.prog X.w X.K X.mg X.base CX n f fd ps sp) (hr : Room n X.A) (hs : PySem.W.findIn X.K (.ref C) "__eq__" = some (some (.ref f))) (hf : PySem.W.isFn X.K (.ref f) = true) (hb : Binds X.K fd ps []) (hx : Passes CX X E) : OpR X (compareOp .Eq) (rOwn C sp E false) := by
  intro pins s σ H x y v u Q I rx ry hq
  obtain ⟨a, b, dx, dy, fs, gs, rfl, rfl, ha, hb', hsp⟩ := hq
  cases rx
  cases ry
  obtain ⟨mA, J, _⟩ := ins_get I.hok ha
  obtain ⟨mB, J', _⟩ := ins_get I.hok hb'
  obtain ⟨od, J, _⟩ := J.look
  obtain ⟨od', J', _⟩ := J'.look
  have sb : Sub X n X.A := ⟨hr, rfl⟩
  have r2 : Vals [V.ref a, V.ref b] [Value.ref a, Value.ref b] := .cons rfl (.cons rfl .nil)
  obtain ⟨m, hF⟩ := I.fr
  show wpAny (model X.prog X.w) X.A (richCompare .Eq _ _) (EP X pins σ Q) X.xe s
  refine PySem.W.cmp_K (op := .Eq) (tb := .ref C) sb.room.units0 hF I.ok.mod.kin J J'.type (by simp [PySem.W.notFirst]) hs hf ?_
  refine wpAny_mono (call_own F hb hx sb I r2 hsp) (fun v s' hv => ?_) fun _ _ e => e
  obtain ⟨z, H', I', rz, r, rfl, q⟩ := hv
  cases rz
  exact ⟨.bl r, H', I', rfl, by cases r <;> exact q⟩
theorem op_neOwn (F : FnOk X.prog X.w X.K X.mg X.base CX n f fd ps sp) (hr : Room (n + 1) X.A) (hs : PySem.W.findIn X.K (.ref C) "__eq__" = some (some (.ref f))) (hf : PySem.W.isFn X.K (.ref f) = true) (hm : PySem.W.mroIn X.K C (.type "object") = some true)
    (hne : PySem.W.findIn X.K (.ref C) "__ne__" = some (some (.builtin "object.__ne__"))) (hb : Binds X.K fd ps []) (hx : Passes CX X E) : OpR X (compareOp .NotEq) (rOwn C sp E true) := by
  intro pins s σ H x y v u Q I rx ry hq
  obtain ⟨a, b, dx, dy, fs, gs, rfl, rfl, ha, hb', hsp⟩ := hq
  cases rx
  cases ry
  obtain ⟨mA, J, _⟩ := ins_get I.hok ha
  obtain ⟨mB, J', _⟩ := ins_get I.hok hb'
  obtain ⟨od, J, _⟩ := J.look
  obtain ⟨od', J', _⟩ := J'.look
  have sb : Sub X (n + 1) X.A := ⟨hr, rfl⟩
  have r2 : Vals [V.ref a, V.ref b] [Value.ref a, Value.ref b] := .cons rfl (.cons rfl .nil)
  show wpAny (model X.prog X.w) X.A (richCompare .NotEq _ _) (EP X pins σ Q) X.xe s
  refine rc_ne (tb := .ref C) sb.in1.room.units0 I.kIn J J'.type (by simp [PySem.W.notFirst]) hm hs hf hne ?_
  refine wpAny_mono (call_own F hb hx sb.in1 I r2 hsp) (fun v s' hv => ?_) fun _ _ e => e
  obtain ⟨z, H', I', rz, r, rfl, q⟩ := hv
  cases rz
  exact ⟨r, rfl, .bl (!r), H', I', rfl, by cases r <;> exact q⟩
end
end GN

/-! the once-repeated readings, from a place on -/
namespace KP
open PM
theorem drop_at {ns : List Int} {i : Nat} {r : Int} (h : ns[i]? = some r) : ns.drop i = r :: ns.drop (i + 1) := by
  obtain ⟨h1, h2⟩ := List.getElem?_eq_some_iff.mp h
  rw [List.drop_eq_getElem_cons h1, h2]
/-- what is left of the once-repeated readings from the i-th on -/
def ddr (ns : List Int) : Nat → List Int
  | 0 => dd ns
  | i + 1 => match ns[i]? with
    | some p => ddf p (ns.drop (i + 1))
    | none => []
theorem ddr_first {ns : List Int} {r : Int} (h : ns[0]? = some r) : ddr ns 0 = r :: ddr ns 1 := by
  cases ns with
  | nil => simp at h
  | cons a l =>
    have e : a = r := Option.some.inj h
    subst e
    rfl
theorem ddr_next {ns : List Int} {i : Nat} {p r : Int} (hp : ns[i]? = some p) (h : ns[i + 1]? = some r) : ddr ns (i + 1) = if r = p then ddr ns (i + 2) else r :: ddr ns (i + 2) := by
  show (match ns[i]? with | some p => ddf p (ns.drop (i + 1)) | none => []) = if r = p then (match ns[i + 1]? with | some p => ddf p (ns.drop (i + 2)) | none => []) else r :: (match ns[i + 1]? with | some p => ddf p (ns.drop (i + 2)) | none => [])
  rw [hp, h, drop_at h]
  dsimp only
  simp only [ddf]
  by_cases e : r = p
  · rw [if_pos e, if_pos e, e]
  · rw [if_neg e, if_neg e]
theorem ddr_end (ns : List Int) : ddr ns ns.length = [] := by
  cases h : ns.length with
  | zero =>
    have : ns = [] := List.length_eq_zero_iff.mp h
    rw [this]
    rfl
  | succ n =>
    show (match ns[n]? with | some p => ddf p (ns.drop (n + 1)) | none => []) = []
    have hn : n < ns.length := by omega
    rw [List.getElem?_eq_getElem hn, List.drop_eq_nil_of_le (by omega)]
    rfl
theorem dd_len : ∀ ns : List Int, (dd ns).length ≤ ns.length
  | [] => Nat.le_refl _
  | a :: l => by
    have h : ∀ (l : List Int) (p : Int), (ddf p l).length ≤ l.length := by
      intro l
      induction l with
      | nil => intro p; exact Nat.le_refl _
      | cons x l ih =>
        intro p
        simp only [ddf, List.length_cons]
        split
        · have := ih p; omega
        · have := ih x; rw [List.length_cons]; omega
    have := h l a
    simp only [dd, List.length_cons]
    omega
end KP

set_option pp.maxSteps 900
/-! k30: the law's own count -/
namespace M3W
open PySem PySem.Spec PyProof.Rows L2 KA KD KM PH PM PA PB PC RM RN RC RS QE QF QG K20 KP GU
abbrev sTn : Stmt := topS 29
abbrev sRn : Stmt := topS 30
abbrev sHs : Stmt := topS 31
abbrev sMy : Stmt := topS 32
abbrev sCt : Stmt := topS 33
theorem scTn : FnScope ["load", "k", "once", "found", "here"] ["load"] (defScope sTn) := ⟨rfl, rfl, rfl, by decide +kernel, rfl, by decide +kernel, by decide +kernel⟩
theorem scRn : FnScope ["first", "second"] ["first", "second"] (defScope sRn) := ⟨rfl, rfl, rfl, by decide +kernel, rfl, by decide +kernel, by decide +kernel⟩
theorem scHs : FnScope ["outer", "inner"] ["outer", "inner"] (defScope sHs) := ⟨rfl, rfl, rfl, by decide +kernel, rfl, by decide +kernel, by decide +kernel⟩
theorem scMy : FnScope ["points", "k", "one"] ["points", "k"] (defScope sMy) := ⟨rfl, rfl, rfl, by decide +kernel, rfl, by decide +kernel, by decide +kernel⟩
theorem scCt : FnScope ["load", "points", "cycles", "k", "places"] ["load"] (defScope sCt) := ⟨rfl, rfl, rfl, by decide +kernel, rfl, by decide +kernel, by decide +kernel⟩
/-! ### sorted pairs -/
/-- the pair at a ref -/
theorem ev_ints : ∀ as bs : List Int, PyData.eqvAll (dInts as) (dInts bs) = decide (as = bs)
  | [], [] => by simp [dInts, PyData.eqvAll]
  | [], _ :: _ => by simp [dInts, PyData.eqvAll]
  | _ :: _, [] => by simp [dInts, PyData.eqvAll]
  | a :: as, b :: bs => by
    have ih := ev_ints as bs
    show (PyData.eqv (.int a) (.int b) && PyData.eqvAll (dInts as) (dInts bs)) = _
    rw [ih]
    simp [PyData.eqv, Bool.beq_eq_decide_eq]
theorem ev_lst (as bs : List Int) : PyData.eqv (.list (dInts as)) (.list (dInts bs)) = decide (as = bs) := by
  rw [← ev_ints]; simp [PyData.eqv]
def kOf (H : Hp) : V → Int × Int
  | .ref p => match H p with
    | some (.tup [.int a, .int b]) => (a, b)
    | _ => (0, 0)
  | _ => (0, 0)
theorem kOf_at {H : Hp} {p : Addr} {r : Int × Int} (h : H p = some (.tup [.int r.1, .int r.2])) : kOf H (.ref p) = r := by
  show (match H p with | some (.tup [.int a, .int b]) => (a, b) | _ => (0, 0)) = r
  rw [h]
theorem pairs_key {H : Hp} : ∀ {xs : List V} {rs : List (Int × Int)}, PairsAt H xs rs → rs = xs.map (kOf H) ∧ ∀ x ∈ xs, ∃ t, x = V.ref t ∧ H t = some (.tup [.int (kOf H x).1, .int (kOf H x).2])
  | [], [], _ => ⟨rfl, fun _ z => (List.not_mem_nil z).elim⟩
  | x :: xs, r :: rs, ⟨⟨p, h1, h2⟩, h3⟩ => by
    obtain ⟨e, all⟩ := pairs_key h3
    subst h1
    have k := kOf_at h2
    refine ⟨by rw [List.map_cons, k, ← e], fun x hx => ?_⟩
    rcases List.mem_cons.mp hx with z | z
    · exact ⟨p, z, by rw [z, k]; exact h2⟩
    · exact all x z
  | [], _ :: _, h => h.elim
  | _ :: _, [], h => h.elim
theorem pairs_of {H : Hp} : ∀ {xs : List V}, (∀ x ∈ xs, ∃ t, x = V.ref t ∧ H t = some (.tup [.int (kOf H x).1, .int (kOf H x).2])) → PairsAt H xs (xs.map (kOf H))
  | [], _ => trivial
  | x :: xs, h => ⟨h x List.mem_cons_self, pairs_of fun y hy => h y (List.mem_cons_of_mem _ hy)⟩
theorem sorted_out {H : Hp} {xs ys : List V} {rs : List (Int × Int)} (pa : PairsAt H xs rs) (h1 : SrtO.Srtd (ltP (kOf H)) ys) (h2 : SrtO.Stb (ltP (kOf H)) ys xs) : ∃ ds, PairsAt H ys ds ∧ ds.Perm rs ∧ ds.Pairwise Le := by
  obtain ⟨e, all⟩ := pairs_key pa
  refine ⟨ys.map (kOf H), pairs_of fun y hy => all y (h2.perm.mem_iff.mp hy), by rw [e]; exact h2.perm.map _, ?_⟩
  rw [List.pairwise_map]
  refine h1.imp fun {x y} h => ?_
  have := SrtO.lexB_no.mp h
  show (kOf H x).1 < (kOf H y).1 ∨ ((kOf H x).1 = (kOf H y).1 ∧ (kOf H x).2 ≤ (kOf H y).2)
  omega
theorem cut_to (xs : List V) (k : Nat) : cutV xs none (some ((k : Nat) : Int)) = xs.take k := by
  unfold cutV
  rw [HT.sIx_none, HT.sIx_nat]
  simp only [Nat.sub_zero, List.drop_zero]
  rcases Nat.le_total k xs.length with h | h
  · rw [Nat.min_eq_left h]
  · rw [Nat.min_eq_right h, List.take_length, List.take_of_length_le h]
theorem cut_from (xs : List V) (k : Nat) : cutV xs (some ((k : Nat) : Int)) none = xs.drop k := by
  unfold cutV
  rw [HT.sIx_nat, HT.sIx_none]
  rcases Nat.le_total k xs.length with h | h
  · rw [Nat.min_eq_left h, List.take_of_length_le (by rw [List.length_drop]; omega)]
  · rw [Nat.min_eq_right h, Nat.sub_self, List.drop_eq_nil_of_le h]
    rfl
theorem pairs_upd {H : Hp} {c : Addr} {l : List V} {o : HO} (hc : H c = some (.lst l)) : ∀ {xs : List V} {rs : List (Int × Int)}, PairsAt H xs rs → PairsAt (upd H c o) xs rs
  | [], [], _ => trivial
  | x :: xs, r :: rs, ⟨⟨p, h1, h2⟩, h3⟩ => ⟨⟨p, h1, by rw [upd_ne (fun z => by rw [z, hc] at h2; cases h2)]; exact h2⟩, pairs_upd hc h3⟩
  | [], _ :: _, h => h.elim
  | _ :: _, [], h => h.elim
theorem rg_mem {a b : Int} {ns : List Int} (h1 : a ∈ ns) (h2 : b ∈ ns) : (rg a b).1 ∈ ns ∧ (rg a b).2 ∈ ns := by
  unfold rg
  constructor
  · show (if b < a then b else a) ∈ ns
    split <;> assumption
  · show (if b > a then b else a) ∈ ns
    split <;> assumption
section
variable {P : Program} {w : World} {K : PySem.W.Frag} {mg : Str → Option Value} {base : Heap}
def spTn (K : PySem.W.Frag) : Sp := fun vs H Q _ => ∃ (a : Addr) (ns : List Int), vs = [.ref a] ∧ Sq K H a (ns.map V.int) ∧ ns.length ≤ 2500 ∧ ∀ H' p, Same H H' → H p = none → H' p = some (.lst ((tp ns).map V.int)) → Q (.ref p) H'
theorem ok_tn {f : Addr} {fd : FuncData} {k : Nat} (F : Fun K "_law_turns" "_law_turns" sTn f fd) (ml : mg "len" = none) (mr : mg "range" = none) (me : mg "enumerate" = none) : FnOk P w K mg base CX0 (k + 1) f fd ["load"] (spTn K) := by
  refine F.ok scTn (fun vs H Q E h => ?_) (fun cdv A outer s H vs Q E hr h => ?_)
  · obtain ⟨a, ns, rfl, _⟩ := h
    rfl
  · obtain ⟨a, ns, rfl, hS, hlen, hq⟩ := h
    refine ⟨_, pss_cons (ps_setLc (i := 2) (own := [("k", 1)]) (g := gName 1) (tt := tOr (tTest (tOp rEq (tVar 1) (tC (V.int 0)))) (tTest (tOp rNe (tOp (GB.rIxB K) (tVar 0) (tVar 1)) (tOp (GB.rIxB K) (tVar 0) (tOp (rI0 fun i j => .int (i - j)) (tVar 1) (tC (V.int 1))))))) (te := tOp (GB.rIxB K) (tVar 0) (tVar 1)) rfl scTn.nd rfl rfl (sw_true rfl rfl rfl (by decide +kernel)) (pi_range1 rfl mr (pa_cons (pe_callB call_len_seq (by rfl) ml PySem.boot_len (pa_cons (pv 0) pa_nil)) pa_nil))
        (blkOk_by (own := [("k", 1)]) (N := ["load", "k", "once", "found", "here"]) (sc := defScope sTn) (by decide +kernel))
        (fun _ _ _ _ _ => pg_name (i := 1) scTn.nd rfl (Or.inl rfl) (Or.inr rfl))
        (fun _ _ _ _ _ => pts_one (PW.pt (pw_or (pt_cmpR op_eq (pv 1) pe_int (nomark _)) (pw_or1 (pt_cmpR op_ne (pe_ix GB.ix_both (pv 0) (pv 1) (fun _ _ => rfl)) (pe_ix GB.ix_both (pv 0) (pe_op op_sub (pv 1) pe_int) (fun _ _ => rfl)) (nomark _))))))
        (fun _ _ _ _ _ => pe_ix GB.ix_both (pv 0) (pv 1) (fun _ _ => rfl)))
      (pss_cons (ps_set (i := 3) scTn.nd rfl (.inl rfl) (pe_lst pa_nil))
      (pss_cons (ps_for PassesOwn.never rfl (pi_enum (by rfl) me (pa_cons (pv 2) pa_nil)) (pg_tup rfl (pgs_cons (pg_name (i := 1) scTn.nd rfl (.inl rfl)) (pgs_cons (pg_name (i := 4) scTn.nd rfl (.inl rfl)) pgs_nil)))
        (pss_one (ps_if (PW.pt (pw_or (pt_cmpR op_in_seq (pv 1) (pe_tup (pa_cons pe_int (pa_cons (pe_op op_sub (pe_callB call_len_seq (by rfl) ml PySem.boot_len (pa_cons (pv 2) pa_nil)) pe_int) pa_nil))) (by rfl))
            (pw_or1 (pt_cmpR op_eq (pe_cmpR op_lt (pe_ix ix_list (pv 2) (pe_op op_sub (pv 1) pe_int) (fun _ _ => rfl)) (pv 4) (nomark _)) (pe_cmpR op_lt (pe_ix ix_list (pv 2) (pe_op op_add (pv 1) pe_int) (fun _ _ => rfl)) (pv 4) (nomark _)) (nomark _)))))
          (pss_one (ps_expr (pe_bm PySem.F.plainAttrs_list PySem.F.slot_list_append PySem.F.type_list_append mt_append (pv 3) (pa_cons (pv 4) pa_nil)))) pss_nil)))
      (pss_one (ps_ret (pv 3))))), ?_⟩
    have hml : (ns.map V.int).length = ns.length := List.length_map _
    refine ⟨.ref a, rfl, a, ns.map V.int, rfl, hS, ((ns.map V.int).length : Int), rfl, by rw [hml]; omega, by rw [hml]; omega, fun D nD => ?_⟩
    have sD : ∀ o, Same H (upd H D o) := fun o => same_new nD
    refine lc_range (lo := 0) (n := (((ns.map V.int).length : Int)).toNat) (fun i H' => ∃ acc : List Int, H' = upd H D (.lst (acc.map V.int)) ∧ acc.length ≤ i ∧ dd ns = acc ++ ddr ns i) ?_ ?_ ?_
    · exact ⟨[], rfl, Nat.le_refl _, rfl⟩
    · rintro i H' hi ⟨acc, rfl, hal, hac⟩
      have hin : i < ns.length := by omega
      have ei : ns[i]? = some ns[i] := List.getElem?_eq_getElem hin
      have ax : atI (ns.map V.int) (0 + (i : Int)) = some (.int ns[i]) := at_of (by omega) (at_int ei)
      have elt : acc.length < sizeLine := small3000 (by omega)
      have grow : ∀ x : Int, upd (upd H D (.lst (acc.map V.int))) D (.lst (acc.map V.int ++ [.int x])) = upd H D (.lst ((acc ++ [x]).map V.int)) := fun x => by rw [upd_upd, List.map_append]; rfl
      refine ⟨rfl, .int (0 + (i : Int)), rfl, rfl, _, rfl, ?_⟩
      cases i with
      | zero =>
        refine iteT (iteT ⟨.ref a, rfl, _, rfl, a, _, _, .int ns[0], rfl, rfl, hS.same (sD _), ax, acc.map V.int, upd_same, by rw [List.length_map]; exact elt, acc ++ [ns[0]], grow _, by rw [List.length_append, List.length_singleton]; omega, ?_⟩)
        rw [hac, ddr_first ei, List.append_assoc]
        rfl
      | succ m =>
        have hne : decide (V.int (0 + ((m + 1 : Nat) : Int)) = V.int 0) = false := decide_eq_false fun z => by have := V.int.inj z; omega
        rw [hne]
        have hm : m < ns.length := by omega
        have em : ns[m]? = some ns[m] := List.getElem?_eq_getElem hm
        have nx := ddr_next em ei
        refine iteF ⟨.ref a, rfl, .int (0 + ((m + 1 : Nat) : Int)), rfl, a, _, _, .int ns[m + 1], rfl, rfl, hS.same (sD _), ax, .ref a, rfl, .int (0 + ((m + 1 : Nat) : Int)), rfl, _, 1, rfl, rfl, a, _, _, .int ns[m], rfl, rfl, hS.same (sD _), at_of (by omega) (at_int em), rfl, _, rfl, ?_⟩
        by_cases e : ns[m + 1] = ns[m]
        · rw [decide_eq_true (show V.int ns[m + 1] = V.int ns[m] by rw [e])]
          refine iteF ⟨acc, rfl, by omega, ?_⟩
          rw [if_pos e] at nx
          rw [hac, nx]
        · rw [decide_eq_false (show ¬ V.int ns[m + 1] = V.int ns[m] from fun z => e (V.int.inj z))]
          refine iteT ⟨.ref a, rfl, _, rfl, a, _, _, .int ns[m + 1], rfl, rfl, hS.same (sD _), ax, acc.map V.int, upd_same, by rw [List.length_map]; exact elt, acc ++ [ns[m + 1]], grow _, by rw [List.length_append, List.length_singleton]; omega, ?_⟩
          rw [if_neg e] at nx
          rw [hac, nx, List.append_assoc]
          rfl
    rintro H' ⟨acc, rfl, hal, hac⟩
    have en : (((ns.map V.int).length : Int)).toNat = ns.length := by rw [hml]; omega
    rw [en, ddr_end, List.append_nil] at hac
    subst hac
    generalize ho : dd ns = o
    have hol : o.length ≤ 2500 := by rw [← ho]; exact Nat.le_trans (dd_len ns) hlen
    have hom : (o.map V.int).length = o.length := List.length_map _
    -- found
    refine ⟨Nat.zero_le _, fun c nc => ?_⟩
    have ncD : c ≠ D := fun z => by rw [z, upd_same] at nc; cases nc
    have hc0 : H c = none := (sD _).free nc
    have s0 : Same H (upd (upd H D (.lst (o.map V.int))) c (.lst [])) := (sD _).trans (same_new nc)
    have eD0 : (upd (upd H D (.lst (o.map V.int))) c (.lst [])) D = some (.lst (o.map V.int)) := by rw [upd_ne ncD.symm, upd_same]
    have ec0 : (upd (upd H D (.lst (o.map V.int))) c (.lst [])) c = some (.lst (([] : List Int).map V.int)) := upd_same
    generalize upd (upd H D (.lst (o.map V.int))) c (.lst []) = H0 at s0 eD0 ec0 ⊢
    refine ⟨.ref D, rfl, D, o.map V.int, rfl, SqL.of eD0, for_it (walk_enum (K := K) (a := D) (xs := o.map V.int)) (fun i σ Hz => Same H Hz ∧ Hz D = some (.lst (o.map V.int)) ∧ ∃ (fnd : List Int) (r1 r4 : Option V), Hz c = some (.lst (fnd.map V.int)) ∧ Enm o i fnd ∧ fnd.length ≤ i ∧ σ = [some (.ref a), r1, some (.ref D), some (.ref c), r4]) ⟨s0, eD0, [], none, none, ec0, .inl ⟨rfl, rfl⟩, Nat.le_refl _, rfl⟩ (fun i σ Hz _ z => SqL.of z.2.1) ?_ ?_⟩
    · rintro i y σ Hz H2 hi ⟨sz, eD, fnd, r1, r4, ec, enm, hfl, rfl⟩ ⟨T, u, v, rfl, nT, rfl, g1, g2⟩
      rw [hom] at hi
      obtain rfl : u = .int (i : Nat) := (Option.some.inj g1).symm
      have g2 : (o.map V.int)[i]? = some v := g2
      obtain ⟨x, hx, rfl⟩ := int_at g2
      have sT : Same Hz (upd Hz T (.tup [.int (i : Nat), .int x])) := same_new nT
      have eD1 := sT _ _ eD
      have ec1 := sT _ _ ec
      have s1 := sz.trans sT
      have eT1 := upd_same (H := Hz) (a := T) (o := .tup [.int (i : Nat), .int x])
      generalize upd Hz T (.tup [.int (i : Nat), .int x]) = H3 at eD1 ec1 s1 eT1 ⊢
      refine ⟨T, _, rfl, SqT.of eT1, rfl, .int (i : Nat), [.int x], rfl, .int x, [], rfl, rfl, ?_⟩
      refine ⟨.int (i : Nat), rfl, .ref D, rfl, D, _, rfl, .inl (SqL.of eD1), _, 1, rfl, rfl, by show 2 ≤ sizeLine; decide, fun p np => ?_⟩
      have sp := same_new (o := .tup [.int 0, .int (((o.map V.int).length : Int) - 1)]) np
      refine ⟨p, _, rfl, .inr (SqT.of upd_same), rfl, rfl, _, rfl, ?_⟩
      have ein : inV (V.int (i : Nat)) [V.int 0, V.int (((o.map V.int).length : Int) - 1)] = (decide (i = 0) || decide (i + 1 = o.length)) := by
        show ((0 : Int) == (i : Int) || ((((o.map V.int).length : Int) - 1) == (i : Int) || false)) = _
        rw [hom, Bool.or_false]
        congr 1
        · rw [Bool.eq_iff_iff, beq_iff_eq, decide_eq_true_iff]; omega
        · rw [Bool.eq_iff_iff, beq_iff_eq, decide_eq_true_iff]; omega
      rw [ein]
      have eD2 := sp _ _ eD1
      have ec2 := sp _ _ ec1
      have s2 := s1.trans sp
      generalize upd H3 p (.tup [.int 0, .int (((o.map V.int).length : Int) - 1)]) = H4 at eD2 ec2 s2 ⊢
      have ecs : (fnd.map V.int).length < sizeLine := by rw [List.length_map]; exact small3000 (by omega)
      have fin : ∀ (b : Bool), Enm o (i + 1) (if b = true then fnd ++ [x] else fnd) → b = true → Same H (upd H4 c (.lst (fnd.map V.int ++ [.int x]))) ∧ (upd H4 c (.lst (fnd.map V.int ++ [.int x]))) D = some (.lst (o.map V.int)) ∧ ∃ (fnd' : List Int) (r1 r4 : Option V), (upd H4 c (.lst (fnd.map V.int ++ [.int x]))) c = some (.lst (fnd'.map V.int)) ∧ Enm o (i + 1) fnd' ∧ fnd'.length ≤ i + 1 ∧ ([some (.ref a), some (.int (i : Nat)), some (.ref D), some (.ref c), some (.int x)] : List (Option V)) = [some (.ref a), r1, some (.ref D), some (.ref c), r4] := fun b e hb => by
        subst hb
        refine ⟨same_again hc0 s2, by rw [upd_ne ncD.symm]; exact eD2, fnd ++ [x], _, _, by rw [upd_same, List.map_append]; rfl, e, by rw [List.length_append, List.length_singleton]; omega, rfl⟩
      by_cases z : i = 0 ∨ i + 1 = o.length
      · have e1 : (decide (i = 0) || decide (i + 1 = o.length)) = true := by
          rcases z with z | z
          · rw [decide_eq_true z]; rfl
          · rw [decide_eq_true z, Bool.or_true]
        rw [e1]
        refine iteT (iteT ⟨.ref c, rfl, .inl ⟨rfl, _, SqL.of ec2⟩, .int x, rfl, c, _, _, rfl, rfl, ec2, ecs, fin true ?_ rfl⟩)
        show Enm o (i + 1) (fnd ++ [x])
        by_cases z0 : i = 0
        · subst z0
          have ef : fnd = [] := List.length_eq_zero_iff.mp (by omega)
          subst ef
          exact enm_start hx
        · exact enm_last hx (by omega) (by omega) enm
      · have e1 : (decide (i = 0) || decide (i + 1 = o.length)) = false := by
          rw [decide_eq_false (fun y => z (.inl y)), decide_eq_false (fun y => z (.inr y))]
          rfl
        rw [e1]
        have hi1 : i - 1 < o.length := by omega
        have hi2 : i + 1 < o.length := by omega
        have gp := List.getElem?_eq_getElem hi1
        have gd := List.getElem?_eq_getElem hi2
        have enm2 := enm_mid gp hx gd (by omega) enm
        refine iteF ⟨.ref D, rfl, .int (i : Nat), rfl, _, 1, rfl, rfl, D, _, _, .int o[i - 1], rfl, rfl, SqL.of eD2, at_of (j := i - 1) (by omega) (at_int gp), .int x, rfl, o[i - 1], x, rfl, rfl, ?_⟩
        refine ⟨.ref D, rfl, .int (i : Nat), rfl, _, 1, rfl, rfl, D, _, _, .int o[i + 1], rfl, rfl, SqL.of eD2, at_of (j := i + 1) (by omega) (at_int gd), .int x, rfl, o[i + 1], x, rfl, rfl, rfl, _, rfl, ?_⟩
        by_cases e : decide (o[i - 1] < x) = decide (o[i + 1] < x)
        · rw [decide_eq_true (show V.bl (decide (o[i - 1] < x)) = V.bl (decide (o[i + 1] < x)) by rw [e])]
          rw [if_pos e] at enm2
          exact iteT ⟨.ref c, rfl, .inl ⟨rfl, _, SqL.of ec2⟩, .int x, rfl, c, _, _, rfl, rfl, ec2, ecs, fin true enm2 rfl⟩
        · rw [decide_eq_false (show ¬ V.bl (decide (o[i - 1] < x)) = V.bl (decide (o[i + 1] < x)) from fun z => e (V.bl.inj z))]
          rw [if_neg e] at enm2
          exact iteF ⟨s2, eD2, fnd, _, _, ec2, enm2, by omega, rfl⟩
    · rintro σ Hz ⟨sz, eD, fnd, r1, r4, ec, enm, hfl, rfl⟩
      rw [hom] at enm
      refine ⟨.ref c, rfl, hq Hz c sz hc0 ?_⟩
      rw [ec, enm_end enm, tp_lp, ho]
theorem ok_hs {f : Addr} {fd : FuncData} {k : Nat} (F : Fun K "_law_has" "_law_has" sHs f fd) : FnOk P w K mg base CX0 (k + 1) f fd ["outer", "inner"] (spCont K) := by
  refine F.ok scHs (fun vs H Q E h => ?_) (fun cdv A outer s H vs Q E hr h => ?_)
  · obtain ⟨p, q, a, b, c, d, rfl, _⟩ := h
    rfl
  · obtain ⟨p, q, a, b, c, d, rfl, h1, h2, hq⟩ := h
    refine ⟨_, pss_one (ps_ret (pe_and (pe_cmpR op_le (pe_ix ix_tup (pv 0) pe_int (fun _ _ => rfl)) (pe_ix ix_tup (pv 1) pe_int (fun _ _ => rfl)) (nomark _)) (pe_one (pe_cmpR op_le (pe_ix ix_tup (pv 1) pe_int (fun _ _ => rfl)) (pe_ix ix_tup (pv 0) pe_int (fun _ _ => rfl)) (nomark _))))), ?_⟩
    refine ⟨.ref p, rfl, p, _, 0, .int a, rfl, rfl, h1, rfl, .ref q, rfl, q, _, 0, .int c, rfl, rfl, h2, rfl, a, c, rfl, rfl, _, rfl, ?_⟩
    by_cases e : a ≤ c
    · rw [decide_eq_true e] at hq ⊢
      exact iteT ⟨.ref q, rfl, q, _, 1, .int d, rfl, rfl, h2, rfl, .ref p, rfl, p, _, 1, .int b, rfl, rfl, h1, rfl, d, b, rfl, rfl, hq⟩
    · rw [decide_eq_false e] at hq ⊢
      exact iteF hq
theorem ok_rn {f : Addr} {fd : FuncData} {k : Nat} (F : Fun K "_law_range" "_law_range" sRn f fd) (mn : mg "min" = none) (mx : mg "max" = none) : FnOk P w K mg base CX0 (k + 1) f fd ["first", "second"] spRng := by
  refine F.ok scRn (fun vs H Q E h => ?_) (fun cdv A outer s H vs Q E hr h => ?_)
  · obtain ⟨a, b, rfl, _⟩ := h
    rfl
  · obtain ⟨a, b, rfl, hq⟩ := h
    refine ⟨_, pss_one (ps_ret (pe_tup (pa_cons (pe_callB (call_min2 rfl) (by rfl) mn (by decide +kernel) (pa_cons (pv 0) (pa_cons (pv 1) pa_nil))) (pa_cons (pe_callB (call_max2 rfl) (by rfl) mx (by decide +kernel) (pa_cons (pv 0) (pa_cons (pv 1) pa_nil))) pa_nil)))), ?_⟩
    exact ⟨.int a, rfl, .int b, rfl, a, b, rfl, .int a, rfl, .int b, rfl, a, b, rfl, by show 2 ≤ sizeLine; decide, fun p np => hq p np⟩
def spMy (K : PySem.W.Frag) : Sp := fun vs H Q _ => ∃ (a : Addr) (ps : List Int) (i : Nat) (z : Int), vs = [.ref a, .int z] ∧ z = (i : Int) + 1 ∧ SqL K H a (ps.map V.int) ∧ i + 3 < ps.length ∧ ∀ H', Same H H' → Q (.bl (takenAt ps i)) H'
theorem ok_my {f : Addr} {fd : FuncData} {fRN : Addr} {dRN : FuncData} {fHS : Addr} {dHS : FuncData} {k : Nat} (F : Fun K "_law_may_take" "_law_may_take" sMy f fd) (GRN : FnOk P w K mg base CX0 (k + 1) fRN dRN ["first", "second"] spRng) (gRN : mg "_law_range" = some (.ref fRN)) (kRN : PySem.W.keepIn K (.ref fRN) = true) (bRN : Binds K dRN ["first", "second"] []) (GHS : FnOk P w K mg base CX0 (k + 1) fHS dHS ["outer", "inner"] (spCont K)) (gHS : mg "_law_has" = some (.ref fHS)) (kHS : PySem.W.keepIn K (.ref fHS) = true) (bHS : Binds K dHS ["outer", "inner"] []) : FnOk P w K mg base CX0 (k + 2) f fd ["points", "k"] (spMy K) := by
  refine F.ok scMy (fun vs H Q E h => ?_) (fun cdv A outer s H vs Q E hr h => ?_)
  · obtain ⟨a, ps, i, z, rfl, rfl, hS, hl, hq⟩ := h
    rfl
  · obtain ⟨a, ps, i, z, rfl, rfl, hS, hl, hq⟩ := h
    refine ⟨_, (pss_cons (ps_set (i := 2) scMy.nd rfl (.inl rfl) (pe_call GRN hr (by rfl) gRN kRN bRN .nil pass0 (pa_cons (pe_ix ix_list (pv 0) (pv 1) (fun _ _ => rfl)) (pa_cons (pe_ix ix_list (pv 0) (pe_op op_add (pv 1) pe_int) (fun _ _ => rfl)) pa_nil))))
      (pss_cons (ps_if (pt_not (pt_val (pe_call GHS hr (by rfl) gHS kHS bHS .nil pass0 (pa_cons (pe_call GRN hr (by rfl) gRN kRN bRN .nil pass0 (pa_cons (pe_ix ix_list (pv 0) (pe_op op_sub (pv 1) pe_int) (fun _ _ => rfl)) (pa_cons (pe_ix ix_list (pv 0) (pv 1) (fun _ _ => rfl)) pa_nil))) (pa_cons (pv 2) pa_nil))))) (pss_one (ps_ret pe_bl)) pss_nil)
      (pss_one (ps_ret (pe_call GHS hr (by rfl) gHS kHS bHS .nil pass0 (pa_cons (pe_call GRN hr (by rfl) gRN kRN bRN .nil pass0 (pa_cons (pe_ix ix_list (pv 0) (pe_op op_add (pv 1) pe_int) (fun _ _ => rfl)) (pa_cons (pe_ix ix_list (pv 0) (pe_op op_add (pv 1) pe_int) (fun _ _ => rfl)) pa_nil))) (pa_cons (pv 2) pa_nil))))))), ?_⟩
    obtain ⟨x, e0⟩ : ∃ x, ps[i]? = some x := ⟨_, List.getElem?_eq_getElem (by omega)⟩
    obtain ⟨y, e1⟩ : ∃ x, ps[i + 1]? = some x := ⟨_, List.getElem?_eq_getElem (by omega)⟩
    obtain ⟨t, e2⟩ : ∃ x, ps[i + 2]? = some x := ⟨_, List.getElem?_eq_getElem (by omega)⟩
    obtain ⟨u, e3⟩ : ∃ x, ps[i + 3]? = some x := ⟨_, List.getElem?_eq_getElem (by omega)⟩
    have a0 : atI (ps.map V.int) ((i : Int) + 1 - 1) = some (.int x) := at_of (j := i) (by omega) (at_int e0)
    have a1 : atI (ps.map V.int) ((i : Int) + 1) = some (.int y) := at_of (j := i + 1) (by omega) (at_int e1)
    have a2 : atI (ps.map V.int) ((i : Int) + 1 + 1) = some (.int t) := at_of (j := i + 2) (by omega) (at_int e2)
    have a3 : atI (ps.map V.int) ((i : Int) + 1 + 2) = some (.int u) := at_of (j := i + 3) (by omega) (at_int e3)
    refine ⟨.ref a, rfl, .int ((i : Int) + 1), rfl, a, _, _, .int y, rfl, rfl, hS, a1, .ref a, rfl, .int ((i : Int) + 1), rfl, _, 1, rfl, rfl, a, _, _, .int t, rfl, rfl, hS, a2, y, t, rfl, fun p1 n1 => ?_⟩
    have s1 := same_new n1 (o := .tup [.int (rg y t).1, .int (rg y t).2])
    have h1 : (upd H p1 (.tup [.int (rg y t).1, .int (rg y t).2])) p1 = some (.tup [.int (rg y t).1, .int (rg y t).2]) := upd_same
    generalize upd H p1 (.tup [.int (rg y t).1, .int (rg y t).2]) = H1 at s1 h1 ⊢
    refine ⟨.ref a, rfl, .int ((i : Int) + 1), rfl, _, 1, rfl, rfl, a, _, _, .int x, rfl, rfl, s1.seq hS, a0, .ref a, rfl, .int ((i : Int) + 1), rfl, a, _, _, .int y, rfl, rfl, s1.seq hS, a1, x, y, rfl, fun p2 n2 => ?_⟩
    have s2 := same_new n2 (o := .tup [.int (rg x y).1, .int (rg x y).2])
    have h2 : (upd H1 p2 (.tup [.int (rg x y).1, .int (rg x y).2])) p2 = some (.tup [.int (rg x y).1, .int (rg x y).2]) := upd_same
    generalize upd H1 p2 (.tup [.int (rg x y).1, .int (rg x y).2]) = H2 at s2 h2 ⊢
    have tk := taken_get e0 e1 e2 e3
    refine ⟨.ref p1, rfl, p2, p1, _, _, _, _, rfl, SqT.of h2, SqT.of (s2 _ _ h1), _, rfl, ?_⟩
    cases c1 : (decide ((rg x y).1 ≤ (rg y t).1) && decide ((rg y t).2 ≤ (rg x y).2)) with
    | false =>
      have : takenAt ps i = false := by
        rw [tk]
        refine decide_eq_false fun z => ?_
        rw [decide_eq_true z.1.1, decide_eq_true z.1.2] at c1
        cases c1
      have hq := hq _ (s1.trans s2)
      rw [this] at hq
      exact iteT hq
    | true =>
      refine iteF ?_
      have sS := (s1.trans s2).seq hS
      refine ⟨.ref a, rfl, .int ((i : Int) + 1), rfl, _, 1, rfl, rfl, a, _, _, .int t, rfl, rfl, sS, a2, .ref a, rfl, .int ((i : Int) + 1), rfl, _, 2, rfl, rfl, a, _, _, .int u, rfl, rfl, sS, a3, t, u, rfl, fun p3 n3 => ?_⟩
      have s3 := same_new n3 (o := .tup [.int (rg t u).1, .int (rg t u).2])
      refine ⟨.ref p1, rfl, p3, p1, _, _, _, _, rfl, SqT.of upd_same, SqT.of (s3 _ _ (s2 _ _ h1)), ?_⟩
      have hq := hq _ ((s1.trans s2).trans s3)
      rw [show takenAt ps i = (decide ((rg t u).1 ≤ (rg y t).1) && decide ((rg y t).2 ≤ (rg t u).2)) by
        rw [tk, ← Bool.decide_and, decide_eq_decide]
        rw [← Bool.decide_and] at c1
        exact ⟨fun z => z.2, fun z => ⟨of_decide_eq_true c1, z⟩⟩] at hq
      exact hq
def spCt (K : PySem.W.Frag) : Sp := fun vs H Q _ => ∃ (a : Addr) (ns : List Int), vs = [.ref a] ∧ Sq K H a (ns.map V.int) ∧ ns.length ≤ 2000 ∧
  ∀ H' p c r xs cs rs, Same H H' → H' p = some (.tup [.ref c, .ref r]) → H' c = some (.lst xs) → PairsAt H' xs cs → H' r = some (.lst (rs.map V.int)) → H r = none → H c = none → cs.length ≤ ns.length → rs.length ≤ ns.length → (∀ x ∈ rs, x ∈ ns) → (∀ q ∈ cs, q.1 ∈ ns ∧ q.2 ∈ ns) →
    decide (rs = tp ns) = (plc (tp ns)).isEmpty → (∃ ds, Run (tp ns) ds rs ∧ cs.Perm ds) → NF rs → cs.Pairwise Le → Q (.ref p) H'
theorem step_here {ps : List Int} {i : Nat} {y t : Int} (h : takenAt ps i = true) (e1 : ps[i + 1]? = some y) (e2 : ps[i + 2]? = some t) : Step ps (rg y t) (ps.take (i + 1) ++ ps.drop (i + 3)) := by
  obtain ⟨pre, a, b, c, d, post, rfl, rfl, tk⟩ := taken_here h
  rw [List.getElem?_append_right (by omega)] at e1 e2
  rw [show pre.length + 1 - pre.length = 1 by omega] at e1
  rw [show pre.length + 2 - pre.length = 2 by omega] at e2
  obtain rfl : b = y := by simpa using e1
  obtain rfl : c = t := by simpa using e2
  rw [List.take_append, List.take_of_length_le (by omega), show pre.length + 1 - pre.length = 1 by omega, List.drop_append, List.drop_of_length_le (by omega), show pre.length + 3 - pre.length = 3 by omega, List.append_assoc]
  show Step (pre ++ a :: b :: c :: d :: post) (rg b c) (pre ++ a :: d :: post)
  clear e1 e2 h
  induction pre with
  | nil => exact .here tk
  | cons x pre ih => exact .there ih
theorem plc_lc {K : PySem.W.Frag} {a pp cc : Addr} {r3 r4 : Option V} {Hx : Hp} {ps : List Int} {Q : VK} (hp : Hx pp = some (.lst (ps.map V.int))) (hlen : ps.length ≤ 2000)
    (hq : ∀ H' D, Same Hx H' → Hx D = none → H' D = some (.lst ((plc ps).map V.int)) → Q (.ref D) H') :
    tLc (iRng2 (tCons (tC (V.int 1)) (tCons (tOp (rI0 fun i j => V.int (i - j)) (tCB (fun xs H Q => ∃ p ys, xs = [V.ref p] ∧ (SqL K H p ys ∨ SqT K H p ys) ∧ Q (.int ys.length) H) (tCons (tVar 1) tNil)) (tC (V.int 2))) tNil))) (gName 3)
      (tB (tCall (spMy K) [] E0 (tCons (tVar 1) (tCons (tVar 3) tNil)))) (tVar 3) (List.map (fun x => x.2) [(("k" : Str), 3)]) [some (.ref a), some (.ref pp), some (.ref cc), r3, r4] Hx Q := by
  have hm : (ps.map V.int).length = ps.length := List.length_map _
  refine ⟨.ref pp, rfl, pp, _, rfl, .inl (SqL.of hp), _, 2, rfl, rfl, 1, _, rfl, ⟨by decide, by decide, by rw [hm]; omega, by rw [hm]; omega⟩, fun D nD => ?_⟩
  refine lc_range (lo := 1) (n := ((((ps.map V.int).length : Int) - 2) - 1).toNat) (fun i H' => Same Hx H' ∧ H' D = some (.lst ((((List.range i).filter (takenAt ps)).map fun (i : Nat) => (i : Int) + 1).map V.int))) ⟨same_new nD, upd_same⟩ ?_ ?_
  · rintro i H' hi ⟨sm, eD⟩
    rw [hm] at hi
    have hl : i + 3 < ps.length := by omega
    have ez : (1 : Int) + (i : Int) = (i : Int) + 1 := by omega
    refine ⟨rfl, .ref pp, rfl, .int (1 + (i : Int)), rfl, pp, ps, i, _, rfl, ez, SqL.of (sm _ _ hp), hl, fun H2 s2 => ⟨_, rfl, ?_⟩⟩
    cases ht : takenAt ps i with
    | true =>
      refine iteT ⟨.int (1 + (i : Int)), rfl, _, s2 _ _ eD, ?_, same_again nD (sm.trans s2), ?_⟩
      · rw [List.length_map, List.length_map]
        have := List.length_filter_le (takenAt ps) (List.range i)
        rw [List.length_range] at this
        exact small3000 (by omega)
      · rw [upd_same, List.range_succ, List.filter_append, List.filter_cons, ht, ez]
        simp [List.map_append]
    | false =>
      refine iteF ⟨sm.trans s2, ?_⟩
      rw [List.range_succ, List.filter_append, List.filter_cons, ht]
      simp
      rw [s2 _ _ eD]
      simp
  · rintro H' ⟨sm, eD⟩
    have en : ((((ps.map V.int).length : Int) - 2) - 1).toNat = ps.length - 3 := by rw [hm]; omega
    rw [en] at eD
    exact hq _ D sm nD eD
theorem ok_ct {f : Addr} {fd : FuncData} {fTN : Addr} {dTN : FuncData} {fRN : Addr} {dRN : FuncData} {fMY : Addr} {dMY : FuncData} {k : Nat} (F : Fun K "_law_count" "_law_count" sCt f fd) (GTN : FnOk P w K mg base CX0 (k + 1) fTN dTN ["load"] (spTn K)) (gTN : mg "_law_turns" = some (.ref fTN)) (kTN : PySem.W.keepIn K (.ref fTN) = true) (bTN : Binds K dTN ["load"] []) (GRN : FnOk P w K mg base CX0 (k + 1) fRN dRN ["first", "second"] spRng) (gRN : mg "_law_range" = some (.ref fRN)) (kRN : PySem.W.keepIn K (.ref fRN) = true) (bRN : Binds K dRN ["first", "second"] []) (GMY : FnOk P w K mg base CX0 (k + 2) fMY dMY ["points", "k"] (spMy K)) (gMY : mg "_law_may_take" = some (.ref fMY)) (kMY : PySem.W.keepIn K (.ref fMY) = true) (bMY : Binds K dMY ["points", "k"] []) (ml : mg "len" = none) (mr : mg "range" = none) (mso : mg "sorted" = none) : FnOk P w K mg base CX0 (k + 3) f fd ["load"] (spCt K) := by
  refine F.ok scCt (fun vs H Q E h => ?_) (fun cdv A outer s H vs Q E hr h => ?_)
  · obtain ⟨a, ns, rfl, hS, hlen, hq⟩ := h
    rfl
  · obtain ⟨a, ns, rfl, hS, hlen, hq⟩ := h
    refine ⟨_, (pss_cons (ps_asg (pe_tup (pa_cons (pe_call (GTN.mono (show k + 1 ≤ k + 2 by omega)) hr (by rfl) gTN kTN bTN .nil pass0 (pa_cons (pv 0) pa_nil)) (pa_cons (pe_lst pa_nil) pa_nil))) (pg_tup rfl (pgs_cons (pg_name (i := 1) scCt.nd rfl (.inr rfl)) (pgs_cons (pg_name (i := 2) scCt.nd rfl (.inl rfl)) pgs_nil))))
      (pss_cons (ps_setLc (i := 4) (own := [("k", 3)]) (g := gName 3) (tt := tB (tCall (spMy K) [] E0 (tCons (tVar 1) (tCons (tVar 3) tNil))))  rfl scCt.nd rfl rfl (sw_true rfl rfl rfl (by decide +kernel)) (pi_range2 rfl mr (pa_cons pe_int (pa_cons (pe_op op_sub (pe_callB call_len_seq (by rfl) ml PySem.boot_len (pa_cons (pv 1) pa_nil)) pe_int) pa_nil))) (blkOk_by (own := [("k", 3)]) (N := ["load", "points", "cycles", "k", "places"]) (sc := defScope sCt) (by decide +kernel)) (fun _ _ _ _ _ => (pg_name (i := 3) scCt.nd rfl (Or.inl rfl) (Or.inr rfl))) (fun _ _ _ _ _ => pts_one (pt_val (pe_call (GMY.mono (show k + 2 ≤ k + 2 by omega)) hr (by rfl) gMY kMY bMY .nil pass0 (pa_cons (pv 1) (pa_cons (pv 3) pa_nil))))) (fun _ _ _ _ _ => (pv 3)))
      (pss_cons (ps_while PassesOwn.never (pt_cmpR (op_neD hr.units) (pv 4) (pe_lst pa_nil) (nomark _))
      (pss_cons (ps_set (i := 3) scCt.nd rfl (.inl rfl) (pe_ix ix_list (pv 4) pe_int (fun _ _ => rfl)))
      (pss_cons (ps_expr (pe_bm PySem.F.plainAttrs_list PySem.F.slot_list_append PySem.F.type_list_append mt_append (pv 2) (pa_cons (pe_call (GRN.mono (show k + 1 ≤ k + 2 by omega)) hr (by rfl) gRN kRN bRN .nil pass0 (pa_cons (pe_ix ix_list (pv 1) (pv 3) (fun _ _ => rfl)) (pa_cons (pe_ix ix_list (pv 1) (pe_op op_add (pv 3) pe_int) (fun _ _ => rfl)) pa_nil))) pa_nil)))
      (pss_cons (ps_set (i := 1) scCt.nd rfl (.inr rfl) (pe_op op_cat (pe_slice sl_list (pv 1) po_none (po_some (pv 3))) (pe_slice sl_list (pv 1) (po_some (pe_op op_add (pv 3) pe_int)) po_none)))
      (pss_one (ps_setLc (i := 4) (own := [("k", 3)]) (g := gName 3) (tt := tB (tCall (spMy K) [] E0 (tCons (tVar 1) (tCons (tVar 3) tNil))))  rfl scCt.nd rfl rfl (sw_true rfl rfl rfl (by decide +kernel)) (pi_range2 rfl mr (pa_cons pe_int (pa_cons (pe_op op_sub (pe_callB call_len_seq (by rfl) ml PySem.boot_len (pa_cons (pv 1) pa_nil)) pe_int) pa_nil))) (blkOk_by (own := [("k", 3)]) (N := ["load", "points", "cycles", "k", "places"]) (sc := defScope sCt) (by decide +kernel)) (fun _ _ _ _ _ => (pg_name (i := 3) scCt.nd rfl (Or.inl rfl) (Or.inr rfl))) (fun _ _ _ _ _ => pts_one (pt_val (pe_call (GMY.mono (show k + 2 ≤ k + 2 by omega)) hr (by rfl) gMY kMY bMY .nil pass0 (pa_cons (pv 1) (pa_cons (pv 3) pa_nil))))) (fun _ _ _ _ _ => (pv 3))))))))
      (pss_one (ps_ret (pe_tup (pa_cons (pe_callB cr_sortedPO (by rfl) mso (by decide +kernel) (pa_cons (pv 2) pa_nil)) (pa_cons (pv 1) pa_nil)))))))), ?_⟩
    have hl0 : (tp ns).length ≤ ns.length := tp_len ns
    refine ⟨.ref a, rfl, a, ns, rfl, hS, by omega, fun H1 pp s1 np ep => ⟨Nat.zero_le _, fun cc nc => ⟨(show 2 ≤ sizeLine by decide), fun q nq => ?_⟩⟩⟩
    refine ⟨q, [.ref pp, .ref cc], rfl, SqT.of upd_same, rfl, .ref pp, _, rfl, .ref cc, _, rfl, rfl, ?_⟩
    have sc := same_new nc (o := .lst [])
    have sq := same_new nq (o := .tup [.ref pp, .ref cc])
    have ep3 := sq _ _ (sc _ _ ep)
    have ec3 := sq _ _ (upd_same (H := H1) (a := cc) (o := .lst []))
    have s3 := (s1.trans sc).trans sq
    have ncp : pp ≠ cc := fun z => by rw [z, nc] at ep; cases ep
    have nc0 : H cc = none := s1.free nc
    generalize upd (upd H1 cc (.lst [])) q (.tup [.ref pp, .ref cc]) = H3 at ep3 ec3 s3 ⊢
    clear sc sq nq ep s1 nc H1
    dsimp only [tSeq, tAsg, gName]
    refine plc_lc ep3 (by omega) fun H4 D s4 nD eD => ?_
    refine ⟨fun n σ Hx => ∃ (p1 l1 : Addr) (ps : List Int) (xs : List V) (cs : List (Int × Int)) (r3 : Option V), n = ps.length ∧ Same H Hx ∧ H p1 = none ∧ Hx p1 = some (.lst (ps.map V.int)) ∧ Hx cc = some (.lst xs) ∧ p1 ≠ cc ∧ PairsAt Hx xs cs ∧ Hx l1 = some (.lst ((plc ps).map V.int)) ∧ 2 * cs.length + ps.length = (tp ns).length ∧ (∀ x ∈ ps, x ∈ ns) ∧ (∀ q ∈ cs, q.1 ∈ ns ∧ q.2 ∈ ns) ∧ Run (tp ns) cs ps ∧ (cs = [] → ps = tp ns) ∧ (cs ≠ [] → plc (tp ns) ≠ []) ∧ σ = [some (.ref a), some (.ref p1), some (.ref cc), r3, some (.ref l1)],
      ⟨_, pp, D, tp ns, [], [], none, rfl, s3.trans s4, np, s4 _ _ ep3, s4 _ _ ec3, ncp, trivial, eD, by simp, fun x hx => tp_mem hx, fun _ z => (List.not_mem_nil z).elim, .nil _, fun _ => rfl, fun z => absurd rfl z, rfl⟩, ?_⟩
    clear eD nD s4 ec3 ep3 s3 H4 H3 ncp np
    rintro n σ Hx ⟨p1, l1, ps, xs, cs, r3, rfl, sx, np1, hp1, hcx, npc, pa, hl1, hlen2, hmem, hcs, hrun, h0, h1', rfl⟩
    refine ⟨.ref l1, rfl, Nat.zero_le _, fun e1 ne1 => ?_⟩
    have se1 := same_new ne1 (o := .lst [])
    refine ⟨.list (dInts (plc ps)), .list (dInts []), .lst (SqL.of (se1 _ _ hl1)) (dp_ints _), .lst (SqL.of upd_same) (dp_ints []), shaped_lst _, shaped_lst [], _, rfl, ?_⟩
    rw [ev_lst]
    have sy := sx.trans se1
    have hpy := se1 _ _ hp1
    have hcy := se1 _ _ hcx
    have pay := pa.same se1
    have hly := se1 _ _ hl1
    generalize upd Hx e1 (.lst []) = Hy at sy hpy hcy pay hly ⊢
    clear se1 ne1 e1 hl1 pa hcx hp1 sx Hx
    cases hpl : plc ps with
    | nil =>
      refine iteF ?_
      refine ⟨.ref cc, rfl, cc, xs, kOf Hy, rfl, SqL.of hcy, (pairs_key pay).2, fun ys sp g1 g2 nsp => ?_⟩
      obtain ⟨es, pe, perm, srt⟩ := sorted_out pay g1 g2
      have ss := same_new nsp (o := .lst ys)
      refine ⟨.ref p1, rfl, (show 2 ≤ sizeLine by decide), fun tt ntt => ?_⟩
      have st := same_new ntt (o := .tup [.ref sp, .ref p1])
      have el := perm.length_eq
      refine hq _ tt sp p1 ys es ps ((sy.trans ss).trans st) upd_same (st _ _ upd_same) ((pe.same ss).same st) (st _ _ (ss _ _ hpy)) np1 (sy.free nsp) (by omega) (by omega) hmem (fun q hq => hcs q (perm.mem_iff.mp hq)) ?_ ⟨cs, hrun, perm⟩ (nf_of_plc hpl) srt
      cases hc : cs with
      | nil =>
        have e := h0 hc
        rw [decide_eq_true e, ← e, hpl]
        rfl
      | cons c0 cr =>
        have hne : cs ≠ [] := by rw [hc]; exact List.cons_ne_nil _ _
        have g := h1' hne
        have : ps ≠ tp ns := fun z => by
          have := congrArg List.length z
          rw [hc, List.length_cons] at hlen2
          omega
        rw [decide_eq_false this]
        cases hz : plc (tp ns) with
        | nil => exact absurd hz g
        | cons _ _ => rfl
    | cons z zs =>
      obtain ⟨i, rfl, ti⟩ := plc_mem (ps := ps) (x := z) (by rw [hpl]; exact List.mem_cons_self)
      have hil := taken_lt ti
      refine iteT ⟨fun σ Hx => ∃ m', m' < ps.length ∧ ∃ (p1 l1 : Addr) (ps : List Int) (xs : List V) (cs : List (Int × Int)) (r3 : Option V), m' = ps.length ∧ Same H Hx ∧ H p1 = none ∧ Hx p1 = some (.lst (ps.map V.int)) ∧ Hx cc = some (.lst xs) ∧ p1 ≠ cc ∧ PairsAt Hx xs cs ∧ Hx l1 = some (.lst ((plc ps).map V.int)) ∧ 2 * cs.length + ps.length = (tp ns).length ∧ (∀ x ∈ ps, x ∈ ns) ∧ (∀ q ∈ cs, q.1 ∈ ns ∧ q.2 ∈ ns) ∧ Run (tp ns) cs ps ∧ (cs = [] → ps = tp ns) ∧ (cs ≠ [] → plc (tp ns) ≠ []) ∧ σ = [some (.ref a), some (.ref p1), some (.ref cc), r3, some (.ref l1)], fun _ _ z => z, ?_⟩
      rw [hpl] at hly
      obtain ⟨y, e1⟩ : ∃ x, ps[i + 1]? = some x := ⟨_, List.getElem?_eq_getElem (by omega)⟩
      obtain ⟨t, e2⟩ : ∃ x, ps[i + 2]? = some x := ⟨_, List.getElem?_eq_getElem (by omega)⟩
      have a1 : atI (ps.map V.int) ((i : Int) + 1) = some (.int y) := at_of (j := i + 1) (by omega) (at_int e1)
      have a2 : atI (ps.map V.int) ((i : Int) + 1 + 1) = some (.int t) := at_of (j := i + 2) (by omega) (at_int e2)
      refine ⟨.ref l1, rfl, l1, _, 0, .int ((i : Int) + 1), rfl, rfl, SqL.of hly, at_of (j := 0) (by decide) rfl, ?_⟩
      refine ⟨.ref cc, rfl, .inl ⟨rfl, _, SqL.of hcy⟩, .ref p1, rfl, .int ((i : Int) + 1), rfl, p1, _, _, .int y, rfl, rfl, SqL.of hpy, a1, .ref p1, rfl, .int ((i : Int) + 1), rfl, _, 1, rfl, rfl, p1, _, _, .int t, rfl, rfl, SqL.of hpy, a2, y, t, rfl, fun pr npr => ?_⟩
      have spr := same_new npr (o := .tup [.int (rg y t).1, .int (rg y t).2])
      have lxs : xs.length = cs.length := pay.length
      refine ⟨cc, xs, .ref pr, rfl, rfl, spr _ _ hcy, small3000 (by omega), ?_⟩
      have sy5 : Same H (upd (upd Hy pr (.tup [.int (rg y t).1, .int (rg y t).2])) cc (.lst (xs ++ [.ref pr]))) := same_again nc0 (sy.trans spr)
      have hp5 : (upd (upd Hy pr (.tup [.int (rg y t).1, .int (rg y t).2])) cc (.lst (xs ++ [.ref pr]))) p1 = some (.lst (ps.map V.int)) := by rw [upd_ne npc]; exact spr _ _ hpy
      have hc5 : (upd (upd Hy pr (.tup [.int (rg y t).1, .int (rg y t).2])) cc (.lst (xs ++ [.ref pr]))) cc = some (.lst (xs ++ [.ref pr])) := upd_same
      have pa5 : PairsAt (upd (upd Hy pr (.tup [.int (rg y t).1, .int (rg y t).2])) cc (.lst (xs ++ [.ref pr]))) (xs ++ [.ref pr]) (cs ++ [rg y t]) := pairs_upd (spr _ _ hcy) ((pay.same spr).append ⟨⟨pr, rfl, upd_same⟩, trivial⟩)
      generalize upd (upd Hy pr (.tup [.int (rg y t).1, .int (rg y t).2])) cc (.lst (xs ++ [.ref pr])) = H5 at sy5 hp5 hc5 pa5 ⊢
      clear spr npr hcy hpy hly pay sy Hy
      refine ⟨.ref p1, rfl, .int ((i : Int) + 1), rfl, _, rfl, p1, _, rfl, SqL.of hp5, fun q1 n1 => ?_⟩
      have t1 := same_new n1 (o := .lst (cutV (ps.map V.int) none (some ((i : Int) + 1))))
      refine ⟨.ref p1, rfl, .int ((i : Int) + 1), rfl, _, 2, rfl, rfl, _, rfl, p1, _, rfl, SqL.of (t1 _ _ hp5), fun q2 n2 => ?_⟩
      have t2 := same_new n2 (o := .lst (cutV (ps.map V.int) (some ((i : Int) + 1 + 2)) none))
      have k1 : cutV (ps.map V.int) none (some ((i : Int) + 1)) = (ps.take (i + 1)).map V.int := by
        rw [show (i : Int) + 1 = ((i + 1 : Nat) : Int) by omega, cut_to, List.map_take]
      have k2 : cutV (ps.map V.int) (some ((i : Int) + 1 + 2)) none = (ps.drop (i + 3)).map V.int := by
        rw [show (i : Int) + 1 + 2 = ((i + 3 : Nat) : Int) by omega, cut_from, List.map_drop]
      refine ⟨q1, q2, _, _, rfl, rfl, t2 _ _ upd_same, upd_same, ?_, fun q3 n3 => ?_⟩
      · rw [k1, k2, List.length_map, List.length_map, List.length_take, List.length_drop]
        exact Nat.le_of_lt (small3000 (by omega))
      have t3 := same_new n3 (o := .lst (cutV (ps.map V.int) none (some ((i : Int) + 1)) ++ cutV (ps.map V.int) (some ((i : Int) + 1 + 2)) none))
      have tt := (t1.trans t2).trans t3
      have nq3 : q3 ≠ cc := fun z => by
        have := (t1.trans t2) _ _ hc5
        rw [z, this] at n3
        cases n3
      have nH3 : H q3 = none := (sy5.trans (t1.trans t2)).free n3
      have hq3 := upd_same (H := upd (upd H5 q1 (.lst (cutV (ps.map V.int) none (some ((i : Int) + 1))))) q2 (.lst (cutV (ps.map V.int) (some ((i : Int) + 1 + 2)) none))) (a := q3) (o := .lst (cutV (ps.map V.int) none (some ((i : Int) + 1)) ++ cutV (ps.map V.int) (some ((i : Int) + 1 + 2)) none))
      generalize upd (upd (upd H5 q1 (.lst (cutV (ps.map V.int) none (some ((i : Int) + 1))))) q2 (.lst (cutV (ps.map V.int) (some ((i : Int) + 1 + 2)) none))) q3 (.lst (cutV (ps.map V.int) none (some ((i : Int) + 1)) ++ cutV (ps.map V.int) (some ((i : Int) + 1 + 2)) none)) = H6 at tt hq3 ⊢
      rw [k1, k2, ← List.map_append] at hq3
      have lnew : (ps.take (i + 1) ++ ps.drop (i + 3)).length = ps.length - 2 := by rw [List.length_append, List.length_take, List.length_drop]; omega
      dsimp only [tSeq, tAsg, gName]
      refine plc_lc hq3 (by omega) fun H7 D7 s7 n7 e7 => ?_
      refine ⟨(ps.take (i + 1) ++ ps.drop (i + 3)).length, by omega, q3, D7, ps.take (i + 1) ++ ps.drop (i + 3), xs ++ [.ref pr], cs ++ [rg y t], _, rfl, (sy5.trans tt).trans s7, nH3, s7 _ _ hq3, s7 _ _ (tt _ _ hc5), nq3, (pa5.same tt).same s7, e7, by rw [lnew, List.length_append, List.length_singleton]; omega, ?_, ?_, hrun.snoc (step_here ti e1 e2), fun z => absurd z (by simp), fun _ => ?_, rfl⟩
      · intro x hx
        rcases List.mem_append.mp hx with z | z
        · exact hmem x (List.mem_of_mem_take z)
        · exact hmem x (List.mem_of_mem_drop z)
      · intro r hr
        rcases List.mem_append.mp hr with z | z
        · exact hcs r z
        · rw [List.mem_singleton.mp z]
          exact rg_mem (hmem _ (List.mem_of_getElem? e1)) (hmem _ (List.mem_of_getElem? e2))
      · cases hc : cs with
        | nil =>
          rw [← h0 hc, hpl]
          exact List.cons_ne_nil _ _
        | cons _ _ => exact h1' (by rw [hc]; exact List.cons_ne_nil _ _)
end
end M3W

/-! lists in ascending order -/
namespace BO
open PySem PySem.Spec PyProof.Rows L2 KA PH PM RM RN
abbrev sPI : Stmt := topS 16
abbrev sPT : Stmt := topS 17
theorem scPI : FnScope ["row", "value", "start", "end", "middle"] ["row", "value"] (defScope sPI) := ⟨rfl, rfl, rfl, by decide +kernel, rfl, by decide +kernel, by decide +kernel⟩
theorem scPT : FnScope ["row", "value"] ["row", "value"] (defScope sPT) := ⟨rfl, rfl, rfl, by decide +kernel, rfl, by decide +kernel, by decide +kernel⟩
abbrev Lt (r s : Int × Int) : Prop := r.1 < s.1 ∨ (r.1 = s.1 ∧ r.2 < s.2)
theorem lex_iff (r s : Int × Int) : HT.lexLt [r.1, r.2] [s.1, s.2] = decide (Lt r s) := by
  by_cases h : r.1 = s.1
  · by_cases g : r.2 = s.2
    · have : ¬ Lt r s := by simp only [Lt]; omega
      rw [decide_eq_false this]
      simp [HT.lexLt, h, g]
    · have : decide (Lt r s) = decide (r.2 < s.2) := by rw [decide_eq_decide]; simp only [Lt]; omega
      rw [this]
      simp [HT.lexLt, h, g]
  · have : decide (Lt r s) = decide (r.1 < s.1) := by rw [decide_eq_decide]; simp only [Lt]; omega
    rw [this]
    simp [HT.lexLt, h]
theorem nlt_le {r s : Int × Int} : ¬ Lt r s ↔ Le s r := by simp only [Lt, Le]; omega
theorem le_trans {r s t : Int × Int} (h : Le r s) (g : Le s t) : Le r t := by simp only [Le] at *; omega
theorem lt_le {r s : Int × Int} (h : Lt r s) : Le r s := by simp only [Lt, Le] at *; omega
theorem le_lt {r s t : Int × Int} (h : Le r s) (g : Lt s t) : Lt r t := by simp only [Lt, Le] at *; omega
/-- the place of c in a row -/
def PlaceOf (rs : List (Int × Int)) (c : Int × Int) (i : Nat) : Prop := i ≤ rs.length ∧ (∀ j r, j < i → rs[j]? = some r → Lt r c) ∧ ∀ j r, i ≤ j → rs[j]? = some r → Le c r
theorem place_sorted {rs : List (Int × Int)} {c : Int × Int} {i : Nat} (srt : rs.Pairwise Le) (h : PlaceOf rs c i) : (rs.take i ++ [c] ++ rs.drop i).Pairwise Le := by
  obtain ⟨h0, h1, h2⟩ := h
  have e : rs = rs.take i ++ rs.drop i := (List.take_append_drop i rs).symm
  have s2 := srt
  rw [e] at s2
  obtain ⟨p1, p2, p3⟩ := List.pairwise_append.mp s2
  refine List.pairwise_append.mpr ⟨List.pairwise_append.mpr ⟨p1, List.pairwise_singleton _ _, fun a ha b hb => ?_⟩, p2, fun a ha b hb => ?_⟩
  · rw [List.mem_singleton.mp hb]
    obtain ⟨j, hj, rfl⟩ := List.mem_iff_getElem.mp ha
    rw [List.length_take] at hj
    refine lt_le (h1 j _ (by omega) ?_)
    rw [List.getElem_take]
    exact List.getElem?_eq_getElem _
  · rcases List.mem_append.mp ha with z | z
    · exact p3 a z b hb
    · rw [List.mem_singleton.mp z]
      obtain ⟨j, hj, rfl⟩ := List.mem_iff_getElem.mp hb
      rw [List.length_drop] at hj
      refine h2 (i + j) _ (by omega) ?_
      rw [List.getElem_drop]
      exact List.getElem?_eq_getElem _
theorem pairs_ins {H : Hp} {v : Addr} {c : Int × Int} (hv : H v = some (.tup [.int c.1, .int c.2])) {xs : List V} {rs : List (Int × Int)} (h : PairsAt H xs rs) (i : Nat) : PairsAt H (xs.take i ++ [.ref v] ++ xs.drop i) (rs.take i ++ [c] ++ rs.drop i) := by
  have t : ∀ (i : Nat) {xs : List V} {rs : List (Int × Int)}, PairsAt H xs rs → PairsAt H (xs.take i) (rs.take i) ∧ PairsAt H (xs.drop i) (rs.drop i) := by
    intro i
    induction i with
    | zero => intro xs rs h; exact ⟨trivial, h⟩
    | succ i ih =>
      intro xs rs h
      cases xs with
      | nil => cases rs with
        | nil => exact ⟨trivial, trivial⟩
        | cons _ _ => exact h.elim
      | cons x xs => cases rs with
        | nil => exact h.elim
        | cons r rs =>
          obtain ⟨a, b⟩ := ih h.2
          exact ⟨⟨h.1, a⟩, b⟩
  obtain ⟨a, b⟩ := t i h
  exact (a.append (show PairsAt H [.ref v] [c] from ⟨⟨v, rfl, hv⟩, trivial⟩)).append b
theorem perm_ins {α : Type} (xs : List α) (c : α) (i : Nat) : (xs.take i ++ [c] ++ xs.drop i).Perm (c :: xs) := by
  have h : (xs.take i ++ [c] ++ xs.drop i).Perm ([c] ++ xs.take i ++ xs.drop i) := List.Perm.append_right _ List.perm_append_comm
  refine h.trans ?_
  rw [List.append_assoc, List.take_append_drop]
  exact List.Perm.refl _
theorem pair_get {H : Hp} {xs : List V} {rs : List (Int × Int)} (h : PairsAt H xs rs) {i : Nat} {r : Int × Int} (hr : rs[i]? = some r) : ∃ p, xs[i]? = some (.ref p) ∧ H p = some (.tup [.int r.1, .int r.2]) := by
  induction xs generalizing rs i with
  | nil => cases rs with
    | nil => cases hr
    | cons _ _ => exact h.elim
  | cons y xs ih =>
    cases rs with
    | nil => exact h.elim
    | cons q rs =>
      obtain ⟨⟨p, e, hp⟩, h2⟩ := h
      cases i with
      | zero =>
        have : q = r := Option.some.inj hr
        subst this
        exact ⟨p, by rw [← e]; rfl, hp⟩
      | succ i => exact ih h2 hr
section
variable {P : Program} {w : World} {K : PySem.W.Frag} {mg : Str → Option Value} {base : Heap}
def spPI : Sp := fun vs H Q _ => ∃ (row v : Addr) (xs : List V) (rs : List (Int × Int)) (c : Int × Int), vs = [.ref row, .ref v] ∧ H row = some (.lst xs) ∧ PairsAt H xs rs ∧ rs.Pairwise Le ∧ H v = some (.tup [.int c.1, .int c.2]) ∧ rs.length ≤ 2500 ∧ ∀ i : Nat, PlaceOf rs c i → Q (.int i) H
theorem ok_PI {f : Addr} {fd : FuncData} {k : Nat} (F : Fun K "place_in" "place_in" sPI f fd) (ml : mg "len" = none) : FnOk P w K mg base CX0 (k + 1) f fd ["row", "value"] spPI := by
  refine F.ok scPI (fun vs H Q E h => ?_) (fun cdv A outer s H vs Q E hr h => ?_)
  · obtain ⟨row, v, xs, rs, c, rfl, _⟩ := h
    rfl
  · obtain ⟨row, v, xs, rs, c, rfl, hx, pa, srt, hv, hl, hq⟩ := h
    have hu : (A.deeper (envOfC "place_in" (defScope sPI) s.heap.objs.size f cdv)).units < cLine := by have := hr.un; omega
    refine ⟨_, pss_cons (ps_par (i := 2) (j := 3) (by rfl) scPI.nd rfl rfl (by decide) rfl rfl (pa_cons pe_int (pa_cons (pe_callB call_len_seq (by rfl) ml PySem.boot_len (pa_cons (pv 0) pa_nil)) pa_nil)) (by rfl))
      (pss_cons (ps_while PassesOwn.never (pt_cmpR op_lt (pv 2) (pv 3) (nomark _))
        (pss_cons (ps_set (i := 4) scPI.nd rfl (.inl rfl) (pe_op op_fdiv (pe_op op_add (pv 2) (pv 3)) pe_int))
        (pss_one (ps_if (pt_cmpR (op_ltT hu) (pe_ix ix_list (pv 0) (pv 4) (fun _ _ => rfl)) (pv 1) (nomark _)) (pss_one (ps_set (i := 2) scPI.nd rfl (.inl rfl) (pe_op op_add (pv 4) pe_int))) (pss_one (ps_set (i := 3) scPI.nd rfl (.inl rfl) (pv 4)))))))
      (pss_one (ps_ret (pv 2)))), ?_⟩
    have xl := pa.length
    refine ⟨.ref row, rfl, row, xs, rfl, .inl (SqL.of hx), .int 0, .int xs.length, rfl, ?_⟩
    refine ⟨fun n σ Hx => Hx = H ∧ ∃ (st en : Nat) (r4 : Option V), n = en - st ∧ st ≤ en ∧ en ≤ rs.length ∧ σ = [some (.ref row), some (.ref v), some (.int st), some (.int en), r4] ∧ (∀ j r, j < st → rs[j]? = some r → Lt r c) ∧ ∀ j r, en ≤ j → rs[j]? = some r → Le c r,
      ⟨_, rfl, 0, rs.length, _, rfl, Nat.zero_le _, Nat.le_refl _, by rw [xl]; rfl, fun j r h => absurd h (Nat.not_lt_zero _), fun j r h e => by
        have := (List.getElem?_eq_some_iff.mp e).1
        omega⟩, ?_⟩
    rintro n σ Hx ⟨rfl, st, en, r4, rfl, h1, h2, rfl, h3, h4⟩
    refine ⟨.int st, rfl, .int en, rfl, st, en, rfl, rfl, _, rfl, ?_⟩
    by_cases lt : st < en
    · rw [decide_eq_true (show (st : Int) < (en : Int) by omega)]
      refine iteT ?_
      refine ⟨fun σ Hy => ∃ m', m' < en - st ∧ Hy = Hx ∧ ∃ (st en : Nat) (r4 : Option V), m' = en - st ∧ st ≤ en ∧ en ≤ rs.length ∧ σ = [some (.ref row), some (.ref v), some (.int st), some (.int en), r4] ∧ (∀ j r, j < st → rs[j]? = some r → Lt r c) ∧ ∀ j r, en ≤ j → rs[j]? = some r → Le c r, fun _ _ z => z, ?_⟩
      have em : ((st : Int) + (en : Int)) / 2 = (((st + en) / 2 : Nat) : Int) := by omega
      refine ⟨.int st, rfl, .int en, rfl, st, en, rfl, rfl, _, 2, rfl, rfl, ⟨by decide, by decide⟩, ?_⟩
      show gName 4 (V.int (((st : Int) + (en : Int)) / 2)) _ _ _
      rw [em]
      generalize hmid : (st + en) / 2 = mid
      have b1 : st ≤ mid ∧ mid < en := by omega
      obtain ⟨r, hr2⟩ : ∃ r, rs[mid]? = some r := ⟨_, List.getElem?_eq_getElem (by omega)⟩
      obtain ⟨p, hp1, hp2⟩ := pair_get pa hr2
      refine ⟨.ref row, rfl, .int mid, rfl, row, xs, mid, .ref p, rfl, rfl, SqL.of hx, atI_nat hp1, .ref v, rfl, p, v, [r.1, r.2], [c.1, c.2], rfl, rfl, SqT.of hp2, SqT.of hv, _, rfl, ?_⟩
      rw [lex_iff]
      by_cases l : Lt r c
      · rw [decide_eq_true l]
        refine iteT ⟨.int mid, rfl, mid, 1, rfl, rfl, en - (mid + 1), by omega, rfl, mid + 1, en, _, rfl, by omega, h2, rfl, fun j q hj e => ?_, h4⟩
        rcases Nat.lt_or_ge j mid with z | z
        · have hle : Le q r := by
            have := List.pairwise_iff_getElem.mp srt
            obtain ⟨q1, q2⟩ := List.getElem?_eq_some_iff.mp e
            obtain ⟨q3, q4⟩ := List.getElem?_eq_some_iff.mp hr2
            have := this j mid q1 q3 z
            rw [q2, q4] at this
            exact this
          exact le_lt hle l
        · have : j = mid := by omega
          subst this
          rw [hr2] at e
          rw [← Option.some.inj e]
          exact l
      · rw [decide_eq_false l]
        refine iteF ⟨.int mid, rfl, mid - st, by omega, rfl, st, mid, _, rfl, b1.1, by omega, rfl, h3, fun j q hj e => ?_⟩
        have l2 := nlt_le.mp l
        rcases Nat.lt_or_ge mid j with z | z
        · have hle : Le r q := by
            have := List.pairwise_iff_getElem.mp srt
            obtain ⟨q1, q2⟩ := List.getElem?_eq_some_iff.mp e
            obtain ⟨q3, q4⟩ := List.getElem?_eq_some_iff.mp hr2
            have := this mid j q3 q1 z
            rw [q2, q4] at this
            exact this
          exact le_trans l2 hle
        · have : j = mid := by omega
          subst this
          rw [hr2] at e
          rw [← Option.some.inj e]
          exact l2
    · rw [decide_eq_false (show ¬ (st : Int) < (en : Int) by omega)]
      refine iteF ?_
      have : st = en := by omega
      subst this
      exact ⟨.int st, rfl, hq st ⟨h2, h3, h4⟩⟩
def spPT : Sp := fun vs H Q _ => ∃ (row v : Addr) (xs : List V) (rs : List (Int × Int)) (c : Int × Int), vs = [.ref row, .ref v] ∧ H row = some (.lst xs) ∧ PairsAt H xs rs ∧ rs.Pairwise Le ∧ H v = some (.tup [.int c.1, .int c.2]) ∧ rs.length ≤ 2500 ∧
  ∀ xs' rs', PairsAt H xs' rs' → rs'.Perm (c :: rs) → rs'.Pairwise Le → Q .non (upd H row (.lst xs'))
theorem ok_PT {f fI : Addr} {fd dI : FuncData} {k : Nat} (F : Fun K "put_in" "put_in" sPT f fd) (GI : FnOk P w K mg base CX0 k fI dI ["row", "value"] spPI) (gI : mg "place_in" = some (.ref fI)) (kI : PySem.W.keepIn K (.ref fI) = true) (bI : Binds K dI ["row", "value"] []) :
    FnOk P w K mg base CX0 (k + 1) f fd ["row", "value"] spPT := by
  refine F.ok scPT (fun vs H Q E h => ?_) (fun cdv A outer s H vs Q E hr h => ?_)
  · obtain ⟨row, v, xs, rs, c, rfl, _⟩ := h
    rfl
  · obtain ⟨row, v, xs, rs, c, rfl, hx, pa, srt, hv, hl, hq⟩ := h
    refine ⟨_, pss_one (ps_expr (pe_bm PySem.F.plainAttrs_list PySem.F.slot_list_insert PySem.F.type_list_insert mt_insert (pv 0) (pa_cons (pe_call GI hr (by rfl) gI kI bI .nil pass0 (pa_cons (pv 0) (pa_cons (pv 1) pa_nil))) (pa_cons (pv 1) pa_nil)))), ?_⟩
    have xl := pa.length
    refine ⟨.ref row, rfl, .inl ⟨rfl, _, SqL.of hx⟩, .ref row, rfl, .ref v, rfl, row, v, xs, rs, c, rfl, hx, pa, srt, hv, hl, fun i pl => ?_⟩
    refine ⟨.ref v, rfl, row, xs, i, .ref v, rfl, rfl, hx, Nat.lt_of_le_of_lt (show xs.length ≤ 2500 by omega) (by decide), by omega, by have := pl.1; omega, ?_⟩
    exact hq _ _ (pairs_ins hv pa i) (perm_ins rs c i) (place_sorted srt pl)
end
end BO

/-! the greedy way of finding a matching: where it fails there is a crowd -/
namespace K55
def cont (o r : Int × Int) : Prop := o.1 ≤ r.1 ∧ r.2 ≤ o.2
section
variable {n m : Nat} {inn out : Nat → Int × Int} {x : Int × Int} {o : Nat → Nat}
/-- reached from x by going from a range to the owner of a range around it, in k steps -/
inductive Rch (n : Nat) (inn out : Nat → Int × Int) (x : Int × Int) (o : Nat → Nat) : Nat → Nat → Prop
  | base {i : Nat} : i < n → cont (out (o i)) x → Rch n inn out x o 1 i
  | step {k i j : Nat} : Rch n inn out x o k i → j < n → cont (out (o j)) (inn i) → Rch n inn out x o (k + 1) j
theorem Rch.pos {k i : Nat} (h : Rch n inn out x o k i) : 1 ≤ k := by cases h <;> omega
theorem Rch.lt {k i : Nat} (h : Rch n inn out x o k i) : i < n := by cases h <;> assumption
/-- what the greedy way has done for n ranges, in ascending order of their low ends -/
structure Greedy (n m : Nat) (inn out : Nat → Int × Int) (o : Nat → Nat) : Prop where
  low : ∀ i j, i ≤ j → j < n → (inn i).1 ≤ (inn j).1
  lt : ∀ i, i < n → o i < m
  has : ∀ i, i < n → cont (out (o i)) (inn i)
  inj : ∀ i j, i < n → j < n → o i = o j → i = j
  best : ∀ i p, i < n → p < m → cont (out p) (inn i) → (∀ j, j < i → o j ≠ p) → (out (o i)).2 ≤ (out p).2
theorem no_way (g : Greedy n m inn out o) (hx : ∀ i, i < n → (inn i).1 ≤ x.1) : ∀ (k i q : Nat), Rch n inn out x o k i → (∀ k', k' < k → ¬ Rch n inn out x o k' i) → q < m → cont (out q) (inn i) → (∀ j, j < n → o j = q → i < j) →
    (∀ k' i', k' < k → Rch n inn out x o k' i' → ¬ cont (out q) (inn i')) → ¬ cont (out q) x → False := by
  intro k
  induction k with
  | zero => intro i q h; have := h.pos; omega
  | succ k ih =>
    intro i q h lev hq hc free nc nx
    have hi := h.lt
    have b := g.best i q hi hq hc (fun j hj e => by have := free j (by omega) e; omega)
    cases h with
    | base hi hx2 =>
      have := hx i hi
      apply nx
      unfold cont at *
      omega
    | @step _ i2 _ h2 hi hc2 =>
      have n1 := nc k i2 (by omega) h2
      have hi2 := h2.lt
      have l1 : (inn i2).1 < (inn i).1 := by unfold cont at *; omega
      have l2 : i2 < i := by
        apply Classical.byContradiction
        intro z
        have := g.low i i2 (by omega) hi2
        omega
      refine ih i2 (o i) h2 (fun k' hk h3 => lev (k' + 1) (by omega) (.step h3 hi hc2)) (g.lt i hi) hc2 (fun j hj e => ?_) (fun k' i3 hk h3 c3 => lev (k' + 1) (by omega) (.step h3 hi c3)) (fun c => lev 1 (by have := h2.pos; omega) (.base hi c))
      have := g.inj j i hj hi e
      omega
/-- x finds no place: all ranges around it, and around those whose places it would need, are taken by them -/
theorem crowd (g : Greedy n m inn out o) (hx : ∀ i, i < n → (inn i).1 ≤ x.1) (fail : ∀ p, p < m → cont (out p) x → ∃ i, i < n ∧ o i = p) :
    ∃ S : Nat → Prop, (∀ i, S i → i < n) ∧ ∀ p, p < m → (cont (out p) x ∨ ∃ i, S i ∧ cont (out p) (inn i)) → ∃ i, S i ∧ o i = p := by
  refine ⟨fun i => ∃ k, Rch n inn out x o k i, fun i ⟨k, h⟩ => h.lt, fun p hp h => ?_⟩
  rcases h with h | ⟨i, ⟨k, h⟩, c⟩
  · obtain ⟨i, hi, e⟩ := fail p hp h
    exact ⟨i, ⟨1, .base hi (by rw [e]; exact h)⟩, e⟩
  · by_cases fr : ∃ j, j < n ∧ o j = p
    · obtain ⟨j, hj, e⟩ := fr
      exact ⟨j, ⟨k + 1, .step h hj (by rw [e]; exact c)⟩, e⟩
    · exfalso
      have all : ∀ k i, Rch n inn out x o k i → ¬ cont (out p) (inn i) := by
        intro k
        induction k using Nat.strongRecOn with
        | ind k ih =>
          intro i h c
          refine no_way g hx k i p h (fun k' hk h3 => ih k' hk i h3 c) hp c (fun j hj e => (fr ⟨j, hj, e⟩).elim) (fun k' i' hk h3 => ih k' hk i' h3) (fun c2 => ?_)
          obtain ⟨j, hj, e⟩ := fail p hp c2
          exact fr ⟨j, hj, e⟩
      exact all k i h c
end
end K55

/-! the greedy way over lists of places -/
namespace K55b
open K55
abbrev Rg := Int × Int
def hasB (o r : Rg) : Bool := decide (o.1 ≤ r.1) && decide (r.2 ≤ o.2)
theorem hasB_iff {o r : Rg} : hasB o r = true ↔ cont o r := by unfold hasB cont; simp
/-- first, second: the ranges at a place; L: places of the first list by low ends; fr: places of the second list by high ends -/
def go (f s : Nat → Rg) : List Nat → List Nat → List (Nat × Option Nat)
  | [], _ => []
  | a :: L, fr => match fr.find? (fun p => hasB (s p) (f a)) with
    | none => (a, none) :: go f s L fr
    | some p => (a, some p) :: go f s L (fr.erase p)
/-- what has been done -/
structure Inv (f s : Nat → Rg) (fr0 : List Nat) (d : List (Nat × Nat)) (fr : List Nat) : Prop where
  free : ∀ q, q ∈ fr ↔ q ∈ fr0 ∧ ∀ e ∈ d, e.2 ≠ q
  nd : fr.Nodup
  srt : fr.Pairwise fun p q => (s p).2 ≤ (s q).2
  mem : ∀ e ∈ d, e.2 ∈ fr0 ∧ cont (s e.2) (f e.1)
  inj : (d.map (·.2)).Nodup
  best : ∀ (i : Nat) (e : Nat × Nat) (q : Nat), d[i]? = some e → q ∈ fr0 → cont (s q) (f e.1) → (∀ (j : Nat) (g : Nat × Nat), j < i → d[j]? = some g → g.2 ≠ q) → (s e.2).2 ≤ (s q).2
theorem find_first {s : Nat → Rg} {t : Nat → Bool} : ∀ {fr : List Nat} {p : Nat}, fr.find? t = some p → fr.Pairwise (fun p q => (s p).2 ≤ (s q).2) → p ∈ fr ∧ t p = true ∧ ∀ q ∈ fr, t q = true → (s p).2 ≤ (s q).2
  | [], p, h, _ => by simp at h
  | a :: fr, p, h, srt => by
    rw [List.find?_cons] at h
    cases e : t a with
    | true =>
      rw [e] at h
      have h : a = p := Option.some.inj h
      subst h
      refine ⟨List.mem_cons_self, e, fun q hq _ => ?_⟩
      rcases List.mem_cons.mp hq with z | z
      · rw [z]; exact Int.le_refl _
      · exact (List.pairwise_cons.mp srt).1 q z
    | false =>
      rw [e] at h
      obtain ⟨h1, h2, h3⟩ := find_first h (List.pairwise_cons.mp srt).2
      refine ⟨List.mem_cons_of_mem _ h1, h2, fun q hq tq => ?_⟩
      rcases List.mem_cons.mp hq with z | z
      · rw [z, e] at tq; cases tq
      · exact h3 q z tq
theorem inv_step {f s : Nat → Rg} {fr0 fr : List Nat} {d : List (Nat × Nat)} {a p : Nat} (v : Inv f s fr0 d fr) (h : fr.find? (fun p => hasB (s p) (f a)) = some p) : Inv f s fr0 (d ++ [(a, p)]) (fr.erase p) := by
  obtain ⟨h1, h2, h3⟩ := find_first h v.srt
  obtain ⟨p1, p2⟩ := (v.free p).mp h1
  constructor
  · intro q
    rw [v.nd.mem_erase_iff, v.free q]
    constructor
    · rintro ⟨n, m, k⟩
      refine ⟨m, fun e he => ?_⟩
      rcases List.mem_append.mp he with z | z
      · exact k e z
      · rw [List.mem_singleton.mp z]; exact fun z => n z.symm
    · rintro ⟨m, k⟩
      exact ⟨fun z => k (a, p) (List.mem_append_right _ List.mem_cons_self) z.symm, m, fun e he => k e (List.mem_append_left _ he)⟩
  · exact v.nd.erase _
  · exact v.srt.sublist List.erase_sublist
  · intro e he
    rcases List.mem_append.mp he with z | z
    · exact v.mem e z
    · rw [List.mem_singleton.mp z]; exact ⟨p1, hasB_iff.mp h2⟩
  · rw [List.map_append, List.nodup_append]
    refine ⟨v.inj, by simp, fun x hx y hy => ?_⟩
    obtain ⟨e, he, rfl⟩ := List.mem_map.mp hx
    rw [show y = p by simpa using hy]
    exact p2 e he
  · intro i e q hi hq c k
    rcases Nat.lt_or_ge i d.length with z | z
    · rw [List.getElem?_append_left z] at hi
      refine v.best i e q hi hq c fun j g hj hg => k j g hj ?_
      rw [List.getElem?_append_left (by omega)]
      exact hg
    · rw [List.getElem?_append_right z] at hi
      have e2 : e = (a, p) := by
        cases n : i - d.length with
        | zero => rw [n] at hi; exact (Option.some.inj hi).symm
        | succ _ => rw [n] at hi; simp at hi
      subst e2
      have iz : i = d.length := by
        cases n : i - d.length with
        | zero => omega
        | succ _ => rw [n] at hi; simp at hi
      refine h3 q ((v.free q).mpr ⟨hq, fun g hg => ?_⟩) (hasB_iff.mpr c)
      obtain ⟨j, hj⟩ := List.getElem?_of_mem hg
      have hl := (List.getElem?_eq_some_iff.mp hj).1
      exact k j g (by omega) (by rw [List.getElem?_append_left hl]; exact hj)
/-- where one finds no place, a set of done ones owns all places around it and around them -/
theorem inv_fail {f s : Nat → Rg} {fr0 fr : List Nat} {d : List (Nat × Nat)} {a m : Nat} (v : Inv f s fr0 d fr) (hm : ∀ q, q ∈ fr0 ↔ q < m) (low : ∀ (i j : Nat) (e g : Nat × Nat), i ≤ j → d[i]? = some e → d[j]? = some g → (f e.1).1 ≤ (f g.1).1) (hx : ∀ e ∈ d, (f e.1).1 ≤ (f a).1)
    (h : fr.find? (fun p => hasB (s p) (f a)) = none) : ∃ S : Nat × Nat → Prop, (∀ e, S e → e ∈ d) ∧ ∀ q, q < m → (cont (s q) (f a) ∨ ∃ e, S e ∧ cont (s q) (f e.1)) → ∃ e, S e ∧ e.2 = q := by
  let D : Nat → Nat × Nat := fun i => (d[i]?).getD (0, 0)
  have dg : ∀ i, i < d.length → d[i]? = some (D i) := fun i hi => by
    show d[i]? = some ((d[i]?).getD (0, 0))
    rw [List.getElem?_eq_getElem hi]
    rfl
  have dm : ∀ i, i < d.length → D i ∈ d := fun i hi => List.mem_of_getElem? (dg i hi)
  have gr : Greedy d.length m (fun i => f (D i).1) s (fun i => (D i).2) := by
    constructor
    · intro i j hij hj
      exact low i j _ _ hij (dg i (by omega)) (dg j hj)
    · intro i hi
      exact (hm _).mp (v.mem _ (dm i hi)).1
    · intro i hi
      exact (v.mem _ (dm i hi)).2
    · intro i j hi hj e
      have e1 : (d.map (·.2))[i]? = some (D i).2 := by rw [List.getElem?_map, dg i hi]; rfl
      have e2 : (d.map (·.2))[j]? = some (D j).2 := by rw [List.getElem?_map, dg j hj]; rfl
      rw [← e] at e2
      exact (List.getElem?_inj (by rw [List.length_map]; exact hi) v.inj).mp (e1.trans e2.symm)
    · intro i p hi hp c k
      refine v.best i (D i) p (dg i hi) ((hm p).mpr hp) c fun j g hj hg => ?_
      have : g = D j := by
        have := dg j (by omega)
        rw [hg] at this
        exact Option.some.inj this
      rw [this]
      exact k j hj
  obtain ⟨S, h1, h2⟩ := crowd gr (x := f a) (fun i hi => hx _ (dm i hi)) fun p hp c => by
    apply Classical.byContradiction
    intro z
    have : p ∈ fr := (v.free p).mpr ⟨(hm p).mpr hp, fun e he q => by
      obtain ⟨j, hj⟩ := List.getElem?_of_mem he
      have hl := (List.getElem?_eq_some_iff.mp hj).1
      have : D j = e := by
        have := dg j hl
        rw [hj] at this
        exact (Option.some.inj this).symm
      exact z ⟨j, hl, by show (D j).2 = p; rw [this]; exact q⟩⟩
    have := List.find?_eq_none.mp h p this
    exact this (hasB_iff.mpr c)
  refine ⟨fun e => ∃ i, S i ∧ D i = e, fun e ⟨i, hi, z⟩ => by rw [← z]; exact dm i (h1 i hi), fun q hq k => ?_⟩
  obtain ⟨i, hi, e⟩ := h2 q hq (by
    rcases k with k | ⟨e, ⟨i, hi, z⟩, k⟩
    · exact .inl k
    · exact .inr ⟨i, hi, by show cont (s q) (f (D i).1); rw [z]; exact k⟩)
  exact ⟨D i, ⟨i, hi, rfl⟩, e⟩
end K55b

/-! the greedy way with what is free kept in order -/
namespace K55d
open K55 K55b RN
/-- a place as it is kept: its high end, itself -/
def pr (s : Nat → Rg) (p : Nat) : Int × Int := ((s p).2, (p : Int))
abbrev Lt (r s : Int × Int) : Prop := r.1 < s.1 ∨ (r.1 = s.1 ∧ r.2 < s.2)
def Place (rs : List (Int × Int)) (c : Int × Int) (i : Nat) : Prop := i ≤ rs.length ∧ (∀ j r, j < i → rs[j]? = some r → Lt r c) ∧ ∀ j r, i ≤ j → rs[j]? = some r → Le c r
def keep (O : List Nat) (p : Nat) : Bool := !O.contains p
theorem keep_iff {O : List Nat} {p : Nat} : keep O p = true ↔ p ∉ O := by unfold keep; simp
theorem keep_cons {O : List Nat} {p q : Nat} : keep (p :: O) q = (!(q == p) && keep O q) := by
  unfold keep
  rw [List.contains_cons, Bool.not_or]
theorem push {s : Nat → Rg} {fr O : List Nat} {p : Nat} {rs : List (Int × Int)} (srt : (fr.map (pr s)).Pairwise Le) (nd : fr.Nodup) (hp : p ∈ fr) (hO : p ∉ O) (h1 : rs.Perm (pr s p :: (fr.filter (keep (p :: O))).map (pr s))) (h2 : rs.Pairwise Le) :
    rs = (fr.filter (keep O)).map (pr s) := by
  refine sorted_same ?_ h2 (srt.sublist (List.Sublist.map _ List.filter_sublist))
  refine h1.trans ?_
  have e : (fr.filter (keep (p :: O))) = (fr.filter (keep O)).erase p := by
    rw [(nd.sublist List.filter_sublist).erase_eq_filter, List.filter_filter]
    refine List.filter_congr fun q _ => ?_
    rw [keep_cons]
    rfl
  rw [e, ← List.map_cons]
  refine List.Perm.map _ ?_
  exact (List.perm_cons_erase (List.mem_filter.mpr ⟨hp, keep_iff.mpr hO⟩)).symm
theorem find_at {t : Nat → Bool} : ∀ {g : List Nat} {i p : Nat}, (∀ j q, j < i → g[j]? = some q → t q = false) → g[i]? = some p → t p = true → g.find? t = some p
  | [], i, p, _, e, _ => by simp at e
  | a :: g, 0, p, _, e, h => by
    have : a = p := by simpa using e
    subst this
    rw [List.find?_cons, h]
  | a :: g, i + 1, p, hj, e, h => by
    rw [List.find?_cons, hj 0 a (Nat.succ_pos _) rfl]
    exact find_at (i := i) (fun j q hlt hq => hj (j + 1) q (by omega) hq) e h
theorem find_no {t : Nat → Bool} {g : List Nat} (h : ∀ j q, j < g.length → g[j]? = some q → t q = false) : g.find? t = none := by
  rw [List.find?_eq_none]
  intro q hq
  obtain ⟨j, hj, rfl⟩ := List.mem_iff_getElem.mp hq
  rw [h j _ hj (List.getElem?_eq_getElem hj)]
  exact Bool.false_ne_true
theorem find_filter {t c : Nat → Bool} : ∀ {g : List Nat}, (∀ q ∈ g, t q = true → c q = true) → g.find? t = (g.filter c).find? t
  | [], _ => rfl
  | a :: g, h => by
    have ih := find_filter (t := t) (c := c) (g := g) fun q hq => h q (List.mem_cons_of_mem _ hq)
    rw [List.find?_cons, List.filter_cons]
    cases ht : t a with
    | true =>
      rw [h a List.mem_cons_self ht]
      simp [ht]
    | false =>
      rw [ih]
      cases c a with
      | true => simp [ht]
      | false => simp
theorem er_map {g : Nat → Int × Int} : ∀ (l : List Nat) (i : Nat), (l.map g).eraseIdx i = (l.eraseIdx i).map g
  | [], _ => rfl
  | _ :: _, 0 => rfl
  | a :: l, i + 1 => by
    show g a :: (l.map g).eraseIdx i = g a :: (l.eraseIdx i).map g
    rw [er_map l i]
theorem er_nodup : ∀ {l : List Nat} {i p : Nat}, l.Nodup → l[i]? = some p → l.eraseIdx i = l.erase p
  | [], _, _, _, e => by simp at e
  | a :: l, 0, p, _, e => by
    have : a = p := by simpa using e
    subst this
    show l = _
    rw [List.erase_cons_head]
  | a :: l, i + 1, p, nd, e => by
    have e : l[i]? = some p := e
    have nd2 := List.nodup_cons.mp nd
    have ne : a ≠ p := fun z => nd2.1 (by rw [z]; exact List.mem_of_getElem? e)
    show a :: l.eraseIdx i = _
    rw [er_nodup nd2.2 e, List.erase_cons_tail (by simpa using ne)]
theorem found {f s : Nat → Rg} {fr O : List Nat} {a i : Nat} (nd : fr.Nodup) (h1 : ∀ q ∈ O, (f a).1 < (s q).1) (h2 : ∀ q ∈ fr, q ∉ O → (s q).1 ≤ (f a).1) (pl : Place ((fr.filter (keep O)).map (pr s)) ((f a).2, 0) i) :
    (i < ((fr.filter (keep O)).map (pr s)).length → ∃ p, p ∈ fr ∧ p ∉ O ∧ ((fr.filter (keep O)).map (pr s))[i]? = some (pr s p) ∧ fr.find? (fun p => hasB (s p) (f a)) = some p ∧ ((fr.filter (keep O)).map (pr s)).eraseIdx i = ((fr.erase p).filter (keep O)).map (pr s)) ∧
    (¬ i < ((fr.filter (keep O)).map (pr s)).length → fr.find? (fun p => hasB (s p) (f a)) = none) := by
  have hf : fr.find? (fun p => hasB (s p) (f a)) = (fr.filter (keep O)).find? (fun p => hasB (s p) (f a)) := find_filter fun q hq ht => keep_iff.mpr fun m => by
    have := h1 q m
    have := (hasB_iff.mp ht).1
    omega
  have low : ∀ j q, (fr.filter (keep O))[j]? = some q → q ∈ fr ∧ q ∉ O ∧ (s q).1 ≤ (f a).1 := fun j q e => by
    obtain ⟨m1, m2⟩ := List.mem_filter.mp (List.mem_of_getElem? e)
    exact ⟨m1, keep_iff.mp m2, h2 q m1 (keep_iff.mp m2)⟩
  have no : ∀ j q, j < i → (fr.filter (keep O))[j]? = some q → hasB (s q) (f a) = false := fun j q hj e => by
    have := pl.2.1 j (pr s q) hj (by rw [List.getElem?_map, e]; rfl)
    have l := low j q e
    simp only [Lt, pr] at this
    unfold hasB
    rw [decide_eq_false (show ¬ (f a).2 ≤ (s q).2 by omega), Bool.and_false]
  rw [hf]
  refine ⟨fun hi => ?_, fun hi => ?_⟩
  · rw [List.length_map] at hi
    have e : (fr.filter (keep O))[i]? = some (fr.filter (keep O))[i] := List.getElem?_eq_getElem hi
    generalize (fr.filter (keep O))[i] = p at e
    have l := low i p e
    have ge := pl.2.2 i (pr s p) (Nat.le_refl _) (by rw [List.getElem?_map, e]; rfl)
    simp only [Le, pr] at ge
    have yes : hasB (s p) (f a) = true := hasB_iff.mpr ⟨l.2.2, by omega⟩
    refine ⟨p, l.1, l.2.1, by rw [List.getElem?_map, e]; rfl, find_at no e yes, ?_⟩
    rw [er_map]
    congr 1
    have ndg := nd.sublist (List.filter_sublist (p := keep O))
    have e2 : (fr.filter (keep O)).eraseIdx i = (fr.filter (keep O)).erase p := er_nodup ndg e
    rw [e2, ndg.erase_eq_filter, nd.erase_eq_filter, List.filter_filter, List.filter_filter]
    exact List.filter_congr fun q _ => Bool.and_comm _ _
  · refine find_no fun j q hj e => no j q ?_ e
    rw [List.length_map] at hi
    omega
end K55d

/-! sorted of a list of triples of ints, up and down -/
namespace GS3
open PySem PySem.Spec PyProof.Rows L2 SrtO
/-- a tuple of these ints -/
def IsTI (h : Heap) (v : Value) (ns : List Int) : Prop := ∃ (a : Addr) (o : Obj) (items : Array Value) (n : Nat), v = .ref a ∧ h.get? a = some o ∧ o.cls = .type "tuple" ∧ o.data = .seq items n ∧ IntsAre items.toList ns
theorem IsTI.keeps {h h' : Heap} {v : Value} {ns : List Int} (x : IsTI h v ns) (k : ∀ b o, h.get? b = some o → o.cls = .type "tuple" → h'.get? b = some o) : IsTI h' v ns := by
  obtain ⟨a, o, items, n, e, ho, hc, hd, hi⟩ := x
  exact ⟨a, o, items, n, e, k a o ho hc, hc, hd, hi⟩
section
variable {prog : Program} {w : World} {A : Around} {s : Shared}
theorem kat_ints {Q : Bool → Shared → Prop} : ∀ (ns ms : List Int) (vs ws : List Value) (i : Nat), IntsAre vs ns → IntsAre ws ms → ns.length = ms.length → Q (HT.lexLt ns ms) s → PySem.W.KatLex prog w A true false Q (vs.zip ws) i s
  | [], [], _, _, i, .nil, .nil, _, h => PySem.W.kat_nil h
  | x :: ns, y :: ms, _, _, i, .cons _ t h1, .cons _ u h2, hl, h => by
    have hl2 : ns.length = ms.length := by simpa using hl
    rw [HT.lexLt_cons] at h
    rw [List.zip_cons_cons]
    refine PySem.W.kat_cons (SeqAt.EqAt.int_int x t y u prog w _ _ ?_)
    refine PySem.W.kat_go (fun e1 => ?_) (fun e1 => ?_)
    · have ex : x = y := by simpa using e1
      rw [if_pos ex] at h
      exact PySem.W.kat_yes (kat_ints ns ms _ _ (i + 1) h1 h2 hl2 h)
    · have ex : ¬ x = y := by simpa using e1
      rw [if_neg ex] at h
      cases i with
      | zero => exact PySem.W.kat_no (oneLt_int h)
      | succ i => exact PySem.W.kat_no (PySem.W.kat_one _ _ (PyProof.Rows.lt_int h))
  | [], _ :: _, _, _, _, _, _, hl, _ => by simp at hl
  | _ :: _, [], _, _, _, _, _, hl, _ => by simp at hl
theorem ints_cmp {vs : List Value} {k : Value → List Int} {d : Nat} (hp : ∀ v ∈ vs, IsTI s.heap v (k v) ∧ (k v).length = d) : Cmp prog w A s (tuples' true) (fun p => p.1 ∈ vs) (lt2 fun v u => HT.lexLt (k v) (k u)) := by
  intro p q hm hm'
  obtain ⟨⟨a, o, xs, n, e, ho, hc, hd, hi⟩, l1⟩ := hp _ hm
  obtain ⟨⟨b, ob, ys, m, e2, ho2, hc2, hd2, hi2⟩, l2⟩ := hp _ hm'
  show wpAny (model prog w) A (keyLt' (tuples' true) p.1 q.1) (fun r s' => s' = s ∧ r = HT.lexLt (k p.1) (k q.1)) (fun _ _ => False) s
  generalize k p.1 = ns at *
  generalize k q.1 = ms at *
  rw [e, e2]
  refine PySem.W.kat_lt ho hd ho2 hd2 ?_
  have z1 := hi.length
  have z2 := hi2.length
  rw [Array.length_toList] at z1 z2
  rw [show decide (xs.size < ys.size) = false from decide_eq_false (by omega)]
  exact kat_ints ns ms _ _ 0 hi hi2 (by omega) ⟨rfl, rfl⟩
theorem firsts {h : Heap} : ∀ {vs : List Value} {k : Value → List Int}, (∀ v ∈ vs, IsTI h v (k v) ∧ (k v).length = 3) → ∃ fs : List Value, PySem.W.KatTups h vs fs ∧ fs.length = vs.length ∧ ∀ f ∈ fs, ∃ x t, f = Value.int x t
  | [], _, _ => ⟨[], PySem.W.KatTups.nil, rfl, fun _ hm => by simp at hm⟩
  | v :: vs, k, hp => by
    obtain ⟨fs, h1, h2, h3⟩ := firsts (vs := vs) (k := k) fun v' hm => hp v' (List.mem_cons_of_mem _ hm)
    obtain ⟨⟨a, o, xs, n, e, ho, hc, hd, hi⟩, l⟩ := hp v (List.mem_cons_self ..)
    generalize k v = ns at hi l
    subst e
    obtain ⟨y, ys, e⟩ : ∃ y ys, xs.toList = y :: ys := by
      cases q : xs.toList with
      | nil =>
        rw [q] at hi
        cases hi
        simp at l
      | cons y ys => exact ⟨y, ys, rfl⟩
    rw [e] at hi
    cases hi with
    | cons x t hr =>
      refine ⟨.int x t :: fs, PySem.W.KatTups.cons ho hc hd (by rw [← Array.getElem?_toList, e]; rfl) h1, by rw [List.length_cons, List.length_cons, h2], fun f hm => ?_⟩
      rcases List.mem_cons.mp hm with rfl | hm
      · exact ⟨x, t, rfl⟩
      · exact h3 f hm
theorem ints_sortable {a : Addr} {vs : List Value} {k : Value → List Int} (h0 : 0 < vs.length) (hp : ∀ v ∈ vs, IsTI s.heap v (k v) ∧ (k v).length = 3) (ha : ∀ o, s.heap.get? a = some o → o.cls ≠ .type "tuple") : SortableO prog w A s a vs fun v u => HT.lexLt (k v) (k u) := by
  intro h' keep
  have hp' : ∀ v ∈ vs, IsTI h' v (k v) ∧ (k v).length = 3 := fun v hm => ⟨(hp v hm).1.keeps fun b o e c => keep b o (fun z => by subst z; exact ha o e c) e, (hp v hm).2⟩
  obtain ⟨fs, h1, h2, h3⟩ := firsts hp'
  refine ⟨tuples' true, fun Q E hq => ?_, ints_cmp (s := { s with heap := h' }) hp'⟩
  refine PySem.W.kat_kind (T := .type "int") h1 (by omega) (fun f hm => ?_) (by rfl) ?_
  · obtain ⟨x, t, rfl⟩ := h3 f hm
    exact PySem.W.Looks.now
  · have e : (Value.type "int" != Value.type "tuple") = true := by first | decide +kernel | rfl | decide
    rw [e]
    exact hq
end
section
variable {X : Cx}
def rSortT (K : PySem.W.Frag) (b : Bool) (a : Addr) (H : Hp) (Q : VK) : Prop := ∃ (xs : List V) (k : V → List Int), SqL K H a xs ∧ (∀ x ∈ xs, ∃ t, x = V.ref t ∧ H t = some (.tup ((k x).map V.int)) ∧ (k x).length = 3) ∧
  ∀ ys p, (ys.Pairwise fun x y => HT.lexLt (k y) (k x) = false) → ys.Perm xs → H p = none → Q (.ref p) (upd H p (.lst (if b = true then ys.reverse else ys)))
theorem ti_of {pins : List (Addr × Obj)} {s : Shared} {σ : L2.St} {H : Hp} (I : Inv X pins σ H s) {t : Addr} {ns : List Int} (ht : H t = some (.tup (ns.map V.int))) : IsTI s.heap (.ref t) ns := by
  obtain ⟨_, its, r, o, ho, hc, n, hd⟩ := (show ObjOk X.prog X.w H s.heap t (.tup (ns.map V.int)) from I.hok _ _ ht)
  exact ⟨t, o, its.toArray, n, rfl, ho, hc, hd, intsAre_of r⟩
theorem not_tup {h : Heap} {a : Addr} {vs : List Value} {n : Nat} (ha : h.get? a = some (seqObj "list" vs.toArray n)) : ∀ o, h.get? a = some o → o.cls ≠ .type "tuple" := fun o e => by
  rw [ha] at e
  cases e
  intro c
  exact absurd (Value.type.inj c) (by decide)
theorem cr_sortedT3 : CallR X (.builtin "sorted") (fun vs H Q => ∃ a, vs = [.ref a] ∧ rSortT X.K false a H Q) := by
  intro pins s σ H vs us Q I r h
  obtain ⟨a, rfl, xs, k, hs, hx, q⟩ := h
  obtain ⟨its, rv, hl, hz⟩ := I.list hs
  obtain rfl := Vals.ref1 r
  obtain ⟨e1, e2⟩ := refs_back rv fun x m => by
    obtain ⟨t, e, _⟩ := hx x m
    exact ⟨t, e⟩
  have hp : ∀ v ∈ its, IsTI s.heap v (k (backV v)) ∧ (k (backV v)).length = 3 := fun v hv => by
    obtain ⟨t, rfl⟩ := e2 v hv
    have hm : V.ref t ∈ xs := by rw [e1]; exact List.mem_map.mpr ⟨_, hv, rfl⟩
    obtain ⟨t', e, ht, h3⟩ := hx _ hm
    cases e
    exact ⟨ti_of I ht, h3⟩
  have hzl : its.length ≤ sizeLine := by rw [← rv.length]; exact hz
  refine sorted_ord (NtL.swo_lexL fun u => k (backV u)) hl.isList hzl (fun h2 h₁ a' g kk => ints_sortable (s := { s with heap := h₁ }) (by omega) (fun v hv => ⟨(hp v hv).1.keeps fun b o e _ => (kk b o e).2, (hp v hv).2⟩) (not_tup g)) fun out h1 h2 => ?_
  have h3 : ∀ u ∈ out, ∃ a, u = Value.ref a := fun u hu => e2 u (h2.perm.mem_iff.mp hu)
  obtain ⟨n, hn⟩ := sortedAll_at s.heap its out.toArray
  have pm : (out.map backV).Perm xs := by rw [e1]; exact h2.perm.map _
  refine ⟨.ref _, upd H (s.heap.objs.size + 1) (.lst (out.map backV)), I.laid (t' := s.toks) (fun _ _ => sortedAll_old) (Nat.le_succ _) ⟨?_, out, n, vals_back h3, hn⟩, rfl, q _ _ (List.pairwise_map.mpr (h1.imp fun {x y} z => z)) pm (I.hok.fresh (Nat.le_succ _))⟩
  rw [pm.length_eq]
  exact hz
theorem cr_sortedT3R : CallRK X (.builtin "sorted") [Str.ofString "reverse"] (fun vs zs H Q => ∃ a, vs = [.ref a] ∧ zs = [.bl true] ∧ rSortT X.K true a H Q) := by
  intro pins s σ H vs zs us ws Q I r rz h
  obtain ⟨a, rfl, rfl, xs, k, hs, hx, q⟩ := h
  obtain ⟨its, rv, hl, hz⟩ := I.list hs
  obtain rfl := Vals.ref1 r
  obtain ⟨w1, rfl, ew⟩ := vals1 rz
  obtain rfl : w1 = Value.bool true := ew
  obtain ⟨e1, e2⟩ := refs_back rv fun x m => by
    obtain ⟨t, e, _⟩ := hx x m
    exact ⟨t, e⟩
  have hp : ∀ v ∈ its, IsTI s.heap v (k (backV v)) ∧ (k (backV v)).length = 3 := fun v hv => by
    obtain ⟨t, rfl⟩ := e2 v hv
    have hm : V.ref t ∈ xs := by rw [e1]; exact List.mem_map.mpr ⟨_, hv, rfl⟩
    obtain ⟨t', e, ht, h3⟩ := hx _ hm
    cases e
    exact ⟨ti_of I ht, h3⟩
  have hzl : its.length ≤ sizeLine := by rw [← rv.length]; exact hz
  refine SrtR.sorted_ordK (b := true) (fun _ => rfl) (PyProof.Rows.args_sorted_rev _ _) (fun _ => PyProof.Rows.args_list_sort_rev _ _) (NtL.swo_lexL fun u => k (backV u)) hl.isList hzl (fun h2 h₁ a' g kk => ints_sortable (s := { s with heap := h₁ }) (by omega) (fun v hv => ⟨(hp v hv).1.keeps fun b o e _ => (kk b o e).2, (hp v hv).2⟩) (not_tup g)) fun out h1 h2 => ?_
  have pm0 : out.Perm its := h2.perm.trans (List.reverse_perm _)
  have h3 : ∀ u ∈ out, ∃ a, u = Value.ref a := fun u hu => e2 u (pm0.mem_iff.mp hu)
  have h3r : ∀ u ∈ out.reverse, ∃ a, u = Value.ref a := fun u hu => h3 u (List.mem_reverse.mp hu)
  obtain ⟨n, hn⟩ := sortedAll_at s.heap its (if true = true then out.toArray.reverse else out.toArray)
  have pm : (out.map backV).Perm xs := by rw [e1]; exact pm0.map _
  have e0 : (if true = true then out.toArray.reverse else out.toArray) = out.reverse.toArray := by rw [if_pos rfl]; simp
  rw [e0] at hn ⊢
  refine ⟨.ref _, upd H (s.heap.objs.size + 1) (.lst (out.map backV).reverse), I.laid (t' := s.toks) (fun _ _ => sortedAll_old) (Nat.le_succ _) ⟨?_, out.reverse, n, by rw [← List.map_reverse]; exact vals_back h3r, hn⟩, rfl, q _ _ (List.pairwise_map.mpr (h1.imp fun {x y} z => z)) pm (I.hok.fresh (Nat.le_succ _))⟩
  rw [List.length_reverse, pm.length_eq]
  exact hz
end
end GS3

/-! enumerate of a tuple -/
namespace GE
open PySem PySem.Spec PyProof.Rows L2
/-- the tuple at a, each item in a new pair -/
def IteT (K : PySem.W.Frag) (a : Addr) : It :=
  ⟨fun i H => ∃ (xs : List V) (x : V), SqT K H a xs ∧ xs[i]? = some x, fun i H v H' => ∃ T x, v = .ref T ∧ H T = none ∧ H' = upd H T (.tup [.int (i : Nat), x]) ∧ ∀ xs, SqT K H a xs → xs[i]? = some x, fun i H => ∃ xs : List V, SqT K H a xs ∧ xs.length ≤ i⟩
theorem turn_enumT {P : Program} {w : World} {K : PySem.W.Frag} {elts : List Expr} {kk : Nat} {tpos : Pos} (a e it : Addr) :
    Turn P w K (.Tuple elts kk tpos) (IteT K a) [e, it] e (fun i h => (∃ old, IsEnum h e it ((i : Nat) : Int) old) ∧ h.IsTupleIter it a i ∧ e ≠ it) where
  mem := by simp
  obj := fun i h st b hb => by
    obtain ⟨⟨old, he⟩, ⟨o, ho, hc, hd⟩, _⟩ := st
    have e' : b = e ∨ b = it := by simpa using hb
    rcases e' with z | z
    · rw [z]; exact ⟨_, he, fun v q => nomatch q⟩
    · rw [z]; exact ⟨o, ho, fun v q => by rw [hd] at q; cases q⟩
  keep := fun i h h' st k => let ⟨⟨old, he⟩, hi, hne⟩ := st; ⟨⟨old, k e (by simp) _ he⟩, hi.at fun o q => k it (by simp) o q, hne⟩
  item := by
    intro X hP hw hK hc i pins s σ H E I hf st hg
    subst hP hw hK
    obtain ⟨⟨old, he⟩, hit, hne⟩ := st
    obtain ⟨xs, x, hq, hx⟩ := hg
    obtain ⟨its, rv, p, hz⟩ := I.tuple hq
    obtain ⟨u, hu, ru⟩ := rv.get hx
    have p2 : s.heap.IsTuple a its.toArray := p
    have hel : e < s.heap.objs.size := Heap.lt_size he
    have hil : it < s.heap.objs.size := by obtain ⟨_, q, _⟩ := hit; exact Heap.lt_size q
    have nai : a ≠ it := fun z => by
      obtain ⟨o1, g1, c1, _⟩ := hit
      obtain ⟨o2, g2, c2, _⟩ := p2
      rw [z, g1] at g2
      cases g2
      rw [c1] at c2
      exact absurd (Value.type.inj c2) (by decide)
    have nae : e ≠ a := fun z => by
      obtain ⟨o2, g2, c2, _⟩ := p2
      have g1 := he
      rw [z] at g1
      rw [g1] at g2
      cases g2
      exact absurd (Value.type.inj c2) (by decide)
    have hlt : i < its.toArray.size := by
      have := (List.getElem?_eq_some_iff.mp hu).1
      simpa using this
    refine wpAny_pyNext_enum_itemD (Draws.tuple (prog := X.prog) (w := X.w) (A := X.A.in1) (I.ok.hd hc) it a nai its.toArray) he ⟨hit, p2⟩ hlt hne (by simp [hne, nae]) fun x' h' tk px ho st' hT hsz hk => ?_
    have ex : x' = u := by
      have px2 : its[i]? = some x' := by simpa using px
      rw [hu] at px2
      exact (Option.some.inj px2).symm
    subst ex
    refine ⟨_, rfl, wpAny_letOwnedTupleGo_enum (s := { s with heap := h', toks := tk + 1 }) ho fun h'' he' sb => ?_⟩
    have hT2 : h''.get? s.heap.objs.size = some { cls := .type "tuple", data := .seq #[.int i tk, x'] } := (sb.2 _ (Nat.ne_of_gt hel)).trans hT
    have new : ObjOk X.prog X.w (upd H s.heap.objs.size (.tup [.int (i : Nat), x])) h'' s.heap.objs.size (.tup [.int (i : Nat), x]) :=
      ⟨by show 2 ≤ sizeLine; decide, [.int i tk, x'], .cons ⟨_, rfl⟩ (.cons ru .nil), ⟨_, hT2, rfl, _, rfl⟩⟩
    have I1 : Inv X pins σ (upd H s.heap.objs.size (.tup [.int (i : Nat), x])) { s with heap := h'', toks := tk + 1 } :=
      I.turnedNew (ch := [e, it]) (fun b ob hb q => (sb.2 b (fun z => hb (by simp [z]))).trans (hk b ob (fun z => hb (by simp [z])) (fun z => hb (by simp [z])) q)) hf (Nat.le_refl _) new
    refine ⟨.ref s.heap.objs.size, _, I1, rfl, ⟨_, x, rfl, I.hok.fresh (Nat.le_refl _), rfl, fun ys hy => by rw [I.tuple_inj hy hq]; exact hx⟩, ⟨⟨x', ?_⟩, st'.1.at fun o q => (sb.2 it (Ne.symm hne)).trans q, hne⟩, fun b hb => ?_⟩
    · have e1 : ((i + 1 : Nat) : Int) = (i : Int) + 1 := by omega
      rw [e1]; exact he'
    · have hb' : b < s.heap.objs.size := by
        have e' : b = e ∨ b = it := by simpa using hb
        rcases e' with z | z
        · rw [z]; exact hel
        · rw [z]; exact hil
      rw [upd_ne (Nat.ne_of_lt hb')]
      exact (hf b hb).1
  done := by
    intro X hP hw hK hc i pins s σ H E I hf st hg
    subst hP hw hK
    obtain ⟨⟨old, he⟩, hit, hne⟩ := st
    obtain ⟨xs, hq, hx⟩ := hg
    obtain ⟨its, rv, p, hz⟩ := I.tuple hq
    have p2 : s.heap.IsTuple a its.toArray := p
    obtain ⟨f0, f1, f2, f3, f4, f5⟩ := hf it (by simp)
    have hl := rv.length
    have D : Draws X.prog X.w X.A.in1 it [it, a] i (fun _ _ => True) (fun j h => j = i ∧ h.IsTupleIter it a i ∧ h.IsTuple a its.toArray) :=
      { live := fun _ _ st => let ⟨o, ho, _⟩ := st.2.1; ⟨o, ho⟩
        frame := fun _ _ _ st hk => ⟨st.1, st.2.1.at fun o e => hk it (by simp) o e, st.2.2.at fun o e => hk a (by simp) o e⟩
        item := fun j s Q E hj st _ => absurd st.1 (Nat.ne_of_lt hj)
        done := fun s Q E st hE => wpAny_nextOf_tuple_end (I.ok.hd hc) st.2.1 st.2.2 (by simp; omega) hE }
    exact wpAny_pyNext_enum_endD D he ⟨rfl, hit, p2⟩ fun h' eb => ⟨rfl, I.turned (t' := s.toks) (fun b o hb q => eb b o hb q) f0 f1 f3 f4 f5⟩
  self := fun A i s Q E st h => let ⟨⟨_, he⟩, _⟩ := st; wpAny_pyIter_enum he h
theorem meets_enum1 {v : Value} {o : Obj} {H : Heap → Prop} (B : Begins v o H) :
    Meets (Builtin.«enumerate.__new__» ⟨[.type "enumerate", v], []⟩) (fun _ R s => H s.heap ∧
      R (.ok (.ret (.ref (s.heap.push o).objs.size))) { s with heap := (s.heap.push o).push { cls := .type "enumerate", data := .fields #[.none, .bool false, .ref s.heap.objs.size, rawInt 0, .none, .none] } }) :=
  .of_wp fun prog w A R s h => by
    obtain ⟨hp, g, d, tk, os⟩ := s
    obtain ⟨h1, h⟩ := h
    have hsub := sub_enumerate
    have q1 : ∀ {A' : Around} {E : Value → Shared → Prop} {Q : Value → Shared → Prop}, Q (.ref hp.objs.size) ⟨hp.push o, g, d, tk, os⟩ → wpAny (model prog w) A' (pyIter v) Q E ⟨hp, g, d, tk, os⟩ :=
      fun q => B.iter prog w _ _ ⟨hp, g, d, tk, os⟩ _ h1 q
    wp_walk using q1
    refine wpAny_stack_any fun st => wpAny_pure ?_
    split
    · rename_i c _ _ _ _ _
      cases (c == Value.type "enumerate")
      · wp_walk using q1
        exact ⟨_, rfl, h⟩
      · wp_walk using q1
        exact ⟨_, rfl, h⟩
    · wp_walk using q1
      exact ⟨_, rfl, h⟩
theorem call_enum1 {prog : Program} {w : World} {A : Around} {E : Value → Shared → Prop} {s : Shared} {t : Addr} {o : Obj} {H : Heap → Prop} {Q : Value → Shared → Prop} (B : Begins (.ref t) o H) (h1 : H s.heap)
    (h : ∀ h', IsEnum h' (s.heap.objs.size + 1) s.heap.objs.size 0 .none → h'.get? s.heap.objs.size = some o → h'.objs.size = s.heap.objs.size + 2 →
      (∀ b o, s.heap.get? b = some o → h'.get? b = some o) → Q (.ref (s.heap.objs.size + 1)) { s with heap := h' }) :
    wpAny (model prog w) A (call (.type "enumerate") [.ref t]) Q E s := by
  refine callType_new F.called_enumerate (by decide) (F.typeCall_enumerate_1 _) (F.newCall_enumerate_1 _) (fun obj => F.args_object_init_2 obj _) F.entry_enumerate_new (meets_enum1 B) ⟨h1, ?_⟩
  have hz : (s.heap.push o).objs.size = s.heap.objs.size + 1 := Heap.size_push ..
  show _ ∧ _
  rw [hz]
  have he : IsEnum ((s.heap.push o).push { cls := .type "enumerate", data := .fields #[.none, .bool false, .ref s.heap.objs.size, rawInt 0, .none, .none] }) (s.heap.objs.size + 1) s.heap.objs.size 0 .none := by
    have := Heap.get?_push_size (s.heap.push o) (o := { cls := .type "enumerate", data := .fields #[.none, .bool false, .ref s.heap.objs.size, rawInt 0, .none, .none] }) rfl
    rw [hz] at this
    exact this
  exact ⟨⟨_, he, rfl⟩, h _ he (Heap.get?_push_of_some _ (Heap.get?_push_size _ B.free)) (by rw [Heap.size_push, hz]) fun b o x => Heap.get?_push_of_some _ (Heap.get?_push_of_some _ x)⟩
/-- enumerate of a list or a tuple -/
def iEnumB (K : PySem.W.Frag) (ta : TA) : TI := fun σ H R => ta σ H fun vs H1 => ∃ a, vs = [.ref a] ∧ ((∃ xs, SqL K H1 a xs ∧ R (Ite K a) H1) ∨ ∃ xs, SqT K H1 a xs ∧ R (IteT K a) H1)
theorem pi_enumB {X : Cx} {e : Expr} {ta : TA} {p pos tpos : Pos} {elts : List Expr} {kk : Nat} (hg : Gl X "enumerate") (hm : X.mg "enumerate" = none) (ha : PA X [e] ta) (hs : starEach [e] X.env = [(false, eval e X.env)] := by rfl) :
    PI X (.Tuple elts kk tpos) (.Call (.Name "enumerate" p) [e] [] pos) (iEnumB X.K ta) := by
  refine ⟨fun pins s σ H R I h => ?_⟩
  refine Call_ (ld_blt I hg hm boot_enumerate (PyProof.Rows.callWith_type1 (thn (ha.run pos pins s σ H _ I h) fun us s1 ⟨vs, H1, I1, r1, q1⟩ => ?_) hs rfl))
  obtain ⟨a, ex, q⟩ := q1
  subst ex
  have top : ∀ b, b ∈ [s1.heap.objs.size + 1, s1.heap.objs.size] → s1.heap.objs.size ≤ b := fun b hb => by
    have e' : b = s1.heap.objs.size + 1 ∨ b = s1.heap.objs.size := by simpa using hb
    rcases e' with z | z
    · rw [z]; exact Nat.le_add_right _ _
    · rw [z]; exact Nat.le_refl _
  cases r1 with
  | cons r rr =>
    cases rr
    cases r
    rcases q with ⟨xs, hq, q⟩ | ⟨xs, hq, q⟩
    · obtain ⟨its, rv, p', hz⟩ := I1.list hq
      refine call_enumerate_list p'.isList fun h' he hit hsz hk => wpAny_pyIter_enum he ?_
      have I2 : Inv X pins σ H1 { s1 with heap := h' } := I1.kept (t' := s1.toks) hk
      exact ⟨s1.heap.objs.size + 1, [s1.heap.objs.size + 1, s1.heap.objs.size], _, _, H1, rfl, I2, turn_enum a (s1.heap.objs.size + 1) s1.heap.objs.size, ⟨⟨.none, he⟩, hit, Nat.succ_ne_self _⟩, fun b hb => I1.fpOk (top b hb) (I1.hok.fresh (top b hb)), q⟩
    · obtain ⟨its, rv, p', hz⟩ := I1.tuple hq
      have p2 : s1.heap.IsTuple a its.toArray := p'
      refine call_enum1 (begins_tuple a its.toArray) p2 fun h' he hit hsz hk => wpAny_pyIter_enum he ?_
      have I2 : Inv X pins σ H1 { s1 with heap := h' } := I1.kept (t' := s1.toks) hk
      exact ⟨s1.heap.objs.size + 1, [s1.heap.objs.size + 1, s1.heap.objs.size], _, _, H1, rfl, I2, turn_enumT a (s1.heap.objs.size + 1) s1.heap.objs.size, ⟨⟨.none, he⟩, ⟨_, hit, rfl, rfl⟩, Nat.succ_ne_self _⟩, fun b hb => I1.fpOk (top b hb) (I1.hok.fresh (top b hb)), q⟩
theorem walk_enumT {K : PySem.W.Frag} {a : Addr} {xs : List V} : Walk (IteT K a) xs.length (fun H => SqT K H a xs) (YPair (fun i => some (.int (i : Nat))) (fun i => xs[i]?)) :=
  ⟨fun i H hi q => ⟨xs, xs[i], q, by simp [hi]⟩, fun H q => ⟨xs, q, Nat.le_refl _⟩, fun i H v H' _ q y => by
    obtain ⟨T, x, h1, h2, h3, h4⟩ := y
    exact ⟨T, _, x, h1, h2, h3, rfl, h4 xs q⟩⟩
/-- enumerate of a list or a tuple: a walk over it, by what it gives -/
def iEnumS (K : PySem.W.Frag) (ta : TA) : TI := fun σ H R => ta σ H fun vs H1 => ∃ a xs, vs = [.ref a] ∧ PH.Sq K H1 a xs ∧
  ∀ (J : It) (G : Hp → Prop), Walk J xs.length G (YPair (fun i => some (.int (i : Nat))) (fun i => xs[i]?)) → (∀ H', L2.Same H1 H' → G H') → R J H1
theorem pi_enumS {X : Cx} {e : Expr} {ta : TA} {p pos tpos : Pos} {elts : List Expr} {kk : Nat} (hg : Gl X "enumerate") (hm : X.mg "enumerate" = none) (ha : PA X [e] ta) (hs : starEach [e] X.env = [(false, eval e X.env)] := by rfl) :
    PI X (.Tuple elts kk tpos) (.Call (.Name "enumerate" p) [e] [] pos) (iEnumS X.K ta) := by
  refine ⟨fun pins s σ H R I h => ?_⟩
  refine Call_ (ld_blt I hg hm boot_enumerate (PyProof.Rows.callWith_type1 (thn (ha.run pos pins s σ H _ I h) fun us s1 ⟨vs, H1, I1, r1, q1⟩ => ?_) hs rfl))
  obtain ⟨a, xs, ex, hq, q⟩ := q1
  subst ex
  have top : ∀ b, b ∈ [s1.heap.objs.size + 1, s1.heap.objs.size] → s1.heap.objs.size ≤ b := fun b hb => by
    have e' : b = s1.heap.objs.size + 1 ∨ b = s1.heap.objs.size := by simpa using hb
    rcases e' with z | z
    · rw [z]; exact Nat.le_add_right _ _
    · rw [z]; exact Nat.le_refl _
  cases r1 with
  | cons r rr =>
    cases rr
    cases r
    rcases hq with hq | hq
    · obtain ⟨its, rv, p', hz⟩ := I1.list hq
      refine call_enumerate_list p'.isList fun h' he hit hsz hk => wpAny_pyIter_enum he ?_
      have I2 : Inv X pins σ H1 { s1 with heap := h' } := I1.kept (t' := s1.toks) hk
      exact ⟨s1.heap.objs.size + 1, [s1.heap.objs.size + 1, s1.heap.objs.size], _, _, H1, rfl, I2, turn_enum a (s1.heap.objs.size + 1) s1.heap.objs.size, ⟨⟨.none, he⟩, hit, Nat.succ_ne_self _⟩, fun b hb => I1.fpOk (top b hb) (I1.hok.fresh (top b hb)), q _ _ walk_enum fun H' s => s.seq hq⟩
    · obtain ⟨its, rv, p', hz⟩ := I1.tuple hq
      have p2 : s1.heap.IsTuple a its.toArray := p'
      refine call_enum1 (begins_tuple a its.toArray) p2 fun h' he hit hsz hk => wpAny_pyIter_enum he ?_
      have I2 : Inv X pins σ H1 { s1 with heap := h' } := I1.kept (t' := s1.toks) hk
      exact ⟨s1.heap.objs.size + 1, [s1.heap.objs.size + 1, s1.heap.objs.size], _, _, H1, rfl, I2, turn_enumT a (s1.heap.objs.size + 1) s1.heap.objs.size, ⟨⟨.none, he⟩, ⟨_, hit, rfl, rfl⟩, Nat.succ_ne_self _⟩, fun b hb => I1.fpOk (top b hb) (I1.hok.fresh (top b hb)), q _ _ walk_enumT fun H' s => KA.SqT_same s hq⟩
end GE

set_option pp.maxSteps 900
/-! _best_places -/
namespace P5P
open PySem PySem.Spec PyProof.Rows L2 KA KD PH PM RM RN K55b K55d
abbrev sBP : Stmt := topS 23
theorem scBP : FnScope ["first", "second", "places", "at", "low", "high", "inner", "place", "outer", "free", "_", "end", "found"] ["first", "second"] (defScope sBP) := ⟨rfl, rfl, rfl, by decide +kernel, rfl, by decide +kernel, by decide +kernel⟩
def at0 (rs : List (Int × Int)) (i : Nat) : Int × Int := (rs[i]?).getD (0, 0)
def k3 (rs : List (Int × Int)) (i : Nat) : List Int := [(at0 rs i).1, (at0 rs i).2, (i : Int)]
/-- tuples of ints stand at the refs of xs -/
def TAt (H : Hp) : List V → List (List Int) → Prop
  | [], [] => True
  | x :: xs, l :: ls => (∃ p, x = .ref p ∧ H p = some (.tup (l.map V.int))) ∧ TAt H xs ls
  | _, _ => False
theorem TAt.map {H H' : Hp} (e : ∀ p (l : List Int), H p = some (.tup (l.map V.int)) → H' p = some (.tup (l.map V.int))) : ∀ {xs : List V} {ls : List (List Int)}, TAt H xs ls → TAt H' xs ls
  | [], [], _ => trivial
  | x :: xs, l :: ls, ⟨⟨p, h1, h2⟩, h3⟩ => ⟨⟨p, h1, e p l h2⟩, TAt.map e h3⟩
  | [], _ :: _, h => h.elim
  | _ :: _, [], h => h.elim
theorem TAt.same {H H' : Hp} {xs : List V} {ls : List (List Int)} (h : TAt H xs ls) (e : Same H H') : TAt H' xs ls := h.map fun p l g => e _ _ g
theorem TAt.length {H : Hp} : ∀ {xs : List V} {ls : List (List Int)}, TAt H xs ls → xs.length = ls.length
  | [], [], _ => rfl
  | x :: xs, r :: rs, ⟨_, h3⟩ => by rw [List.length_cons, List.length_cons, TAt.length h3]
  | [], _ :: _, h => h.elim
  | _ :: _, [], h => h.elim
theorem TAt.append {H : Hp} : ∀ {xs ys : List V} {rs ss : List (List Int)}, TAt H xs rs → TAt H ys ss → TAt H (xs ++ ys) (rs ++ ss)
  | [], _, [], _, _, h => h
  | x :: xs, _, r :: rs, _, ⟨h1, h2⟩, h => ⟨h1, TAt.append h2 h⟩
  | [], _, _ :: _, _, h, _ => h.elim
  | _ :: _, _, [], _, h, _ => h.elim
theorem TAt.at {H : Hp} : ∀ {xs : List V} {ls : List (List Int)} {i : Nat} {x : V}, TAt H xs ls → xs[i]? = some x → ∃ l p, ls[i]? = some l ∧ x = .ref p ∧ H p = some (.tup (l.map V.int))
  | [], [], _, _, _, e => by simp at e
  | x :: xs, r :: cs, 0, _, ⟨⟨p, h1, h2⟩, h3⟩, e => by
    simp only [List.getElem?_cons_zero, Option.some.injEq] at e
    subst e
    exact ⟨r, p, rfl, h1, h2⟩
  | x :: xs, r :: cs, i + 1, _, ⟨_, h3⟩, e => TAt.at (i := i) h3 e
  | [], _ :: _, _, _, h, _ => h.elim
  | _ :: _, [], _, _, h, _ => h.elim
/-- the ints at a ref -/
def kT (H : Hp) : V → List Int
  | .ref p => match H p with
    | some (.tup xs) => xs.map fun v => match v with | .int i => i | _ => 0
    | _ => []
  | _ => []
theorem kT_at {H : Hp} {p : Addr} {l : List Int} (h : H p = some (.tup (l.map V.int))) : kT H (.ref p) = l := by
  show (match H p with | some (.tup xs) => xs.map (fun v => match v with | .int i => i | _ => 0) | _ => []) = l
  rw [h]
  show (l.map V.int).map _ = l
  rw [List.map_map]
  exact (List.map_congr_left fun _ _ => rfl).trans (List.map_id l)
/-- the place that a triple tells -/
def gT (H : Hp) (v : V) : Nat := ((kT H v).getD 2 0).toNat
theorem tat_of {H : Hp} {rs : List (Int × Int)} : ∀ {ys : List V}, (∀ y ∈ ys, ∃ p, y = .ref p ∧ H p = some (.tup ((k3 rs (gT H y)).map V.int))) → TAt H ys ((ys.map (gT H)).map (k3 rs))
  | [], _ => trivial
  | y :: ys, h => ⟨h y List.mem_cons_self, tat_of fun z hz => h z (List.mem_cons_of_mem _ hz)⟩
theorem tat_mem {H : Hp} {rs : List (Int × Int)} : ∀ {xs : List V} {L : List Nat}, TAt H xs (L.map (k3 rs)) → xs.map (gT H) = L ∧ ∀ y ∈ xs, ∃ p, y = .ref p ∧ H p = some (.tup ((k3 rs (gT H y)).map V.int)) ∧ kT H y = k3 rs (gT H y)
  | [], [], _ => ⟨rfl, fun _ z => (List.not_mem_nil z).elim⟩
  | x :: xs, j :: L, ⟨⟨p, h1, h2⟩, h3⟩ => by
    obtain ⟨e, all⟩ := tat_mem h3
    subst h1
    have k := kT_at h2
    have g : gT H (.ref p) = j := by
      unfold gT
      rw [k]
      show ((j : Int)).toNat = j
      omega
    refine ⟨by rw [List.map_cons, g, e], fun y hy => ?_⟩
    rcases List.mem_cons.mp hy with z | z
    · subst z
      exact ⟨p, rfl, by rw [g]; exact h2, by rw [g]; exact k⟩
    · exact all y z
  | [], _ :: _, h => h.elim
  | _ :: _, [], h => h.elim
def ordL (rs : List (Int × Int)) (i j : Nat) : Prop := HT.lexLt (k3 rs j) (k3 rs i) = false
theorem sorted_trips {H : Hp} {rs : List (Int × Int)} {xs ys : List V} {n : Nat} (h : TAt H xs ((List.range n).map (k3 rs))) (srt : ys.Pairwise fun x y => HT.lexLt (kT H y) (kT H x) = false) (pm : ys.Perm xs) :
    ∃ L : List Nat, TAt H ys (L.map (k3 rs)) ∧ L.Perm (List.range n) ∧ L.Pairwise (ordL rs) := by
  obtain ⟨e, all⟩ := tat_mem h
  have all2 : ∀ y ∈ ys, ∃ p, y = .ref p ∧ H p = some (.tup ((k3 rs (gT H y)).map V.int)) ∧ kT H y = k3 rs (gT H y) := fun y hy => all y (pm.mem_iff.mp hy)
  refine ⟨ys.map (gT H), tat_of fun y hy => ?_, ?_, ?_⟩
  · obtain ⟨p, h1, h2, _⟩ := all2 y hy
    exact ⟨p, h1, h2⟩
  · rw [← e]
    exact pm.map _
  · rw [List.pairwise_map]
    refine srt.imp_of_mem fun {x y} hx hy z => ?_
    obtain ⟨_, _, _, e1⟩ := all2 x hx
    obtain ⟨_, _, _, e2⟩ := all2 y hy
    unfold ordL
    rw [← e1, ← e2]
    exact z
theorem ord_low {rs : List (Int × Int)} {i j : Nat} (h : ordL rs i j) : (at0 rs i).1 ≤ (at0 rs j).1 := by
  unfold ordL k3 at h
  rw [HT.lexLt_cons] at h
  split at h
  · omega
  · have := of_decide_eq_false h
    omega
theorem fr_ex (ss : List (Int × Int)) : ∃ fr : List Nat, fr.Perm (List.range ss.length) ∧ (fr.map (pr (at0 ss))).Pairwise Le := by
  refine ⟨(List.range ss.length).mergeSort (fun p q => decide (Le (pr (at0 ss) p) (pr (at0 ss) q))), List.mergeSort_perm _ _, ?_⟩
  rw [List.pairwise_map]
  refine (List.pairwise_mergeSort (le := fun p q => decide (Le (pr (at0 ss) p) (pr (at0 ss) q))) (fun a b c h1 h2 => ?_) (fun a b => ?_) _).imp fun {x y} h => of_decide_eq_true h
  · have h1 := of_decide_eq_true h1
    have h2 := of_decide_eq_true h2
    refine decide_eq_true ?_
    simp only [Le] at *
    omega
  · rw [Bool.or_eq_true, decide_eq_true_iff, decide_eq_true_iff]
    simp only [Le]
    omega
/-- the list of places that was found -/
def res (d : List (Nat × Option Nat)) (n : Nat) : List V := (List.range n).map fun i => match d.lookup i with | some (some p) => V.int (p : Int) | _ => V.non
theorem res_nil (n : Nat) : res [] n = List.replicate n V.non := by
  unfold res
  rw [List.eq_replicate_iff]
  refine ⟨by rw [List.length_map, List.length_range], fun b hb => ?_⟩
  obtain ⟨i, _, rfl⟩ := List.mem_map.mp hb
  rfl
theorem res_len (d : List (Nat × Option Nat)) (n : Nat) : (res d n).length = n := by unfold res; rw [List.length_map, List.length_range]
theorem look_app (d : List (Nat × Option Nat)) (a i : Nat) (o : Option Nat) (h : a ∉ d.map (·.1)) : (d ++ [(a, o)]).lookup i = if i = a then some o else d.lookup i := by
  induction d with
  | nil =>
    show List.lookup i [(a, o)] = _
    unfold List.lookup
    by_cases e : i = a
    · rw [if_pos e, e]; simp
    · rw [if_neg e]
      have : (i == a) = false := by simpa using e
      rw [this]
      rfl
  | cons x d ih =>
    obtain ⟨y, z⟩ := x
    have h1 : a ≠ y := fun e => h (by rw [e]; exact List.mem_cons_self)
    have ih := ih fun m => h (List.mem_cons_of_mem _ m)
    show List.lookup i ((y, z) :: (d ++ [(a, o)])) = _
    rw [List.lookup_cons, List.lookup_cons, ih]
    by_cases e : i = y
    · subst e
      have ne : ¬ i = a := fun q => h1 q.symm
      simp [ne]
    · have : (i == y) = false := by simpa using e
      rw [this]
theorem res_none {d : List (Nat × Option Nat)} {n a : Nat} (h : a ∉ d.map (·.1)) (hd : d.lookup a = none) : res (d ++ [(a, none)]) n = res d n := by
  unfold res
  refine List.map_congr_left fun i _ => ?_
  rw [look_app d a i none h]
  by_cases e : i = a
  · subst e; rw [if_pos rfl, hd]
  · rw [if_neg e]
theorem res_some {d : List (Nat × Option Nat)} {n a p : Nat} (h : a ∉ d.map (·.1)) (ha : a < n) : res (d ++ [(a, some p)]) n = (res d n).set a (.int (p : Int)) := by
  refine List.ext_getElem? fun i => ?_
  unfold res
  rw [List.getElem?_set, List.getElem?_map, List.getElem?_map, List.length_map, List.length_range]
  by_cases hi : i < n
  · rw [List.getElem?_range hi]
    simp only [Option.map_some]
    rw [look_app d a i _ h]
    by_cases e : a = i
    · subst e; rw [if_pos rfl, if_pos rfl, if_pos ha]
    · rw [if_neg (fun z => e z.symm), if_neg e]
  · rw [List.getElem?_eq_none (by rw [List.length_range]; omega)]
    split
    · omega
    · rfl
theorem lookup_none {d : List (Nat × Option Nat)} {a : Nat} (h : a ∉ d.map (·.1)) : d.lookup a = none := by
  induction d with
  | nil => rfl
  | cons x d ih =>
    obtain ⟨y, z⟩ := x
    rw [List.lookup_cons]
    have : (a == y) = false := by
      have : a ≠ y := fun e => h (by rw [e]; exact List.mem_cons_self)
      simpa using this
    rw [this]
    exact ih fun m => h (List.mem_cons_of_mem _ m)
/-- the pairs (an end, its place), sorted: the places by their ends -/
theorem by_ends {g : Nat → Int} {n : Nat} {ds : List (Int × Int)} (p : ds.Perm ((List.range n).map fun j => (g j, (j : Int)))) (s : ds.Pairwise Le) : ∃ L : List Nat, ds = L.map (fun j => (g j, (j : Int))) ∧ L.Perm (List.range n) ∧ (L.map g).Pairwise (· ≤ ·) := by
  have key : ∀ d ∈ ds, d = (g d.2.toNat, ((d.2.toNat : Nat) : Int)) := fun d hd => by
    obtain ⟨j, _, rfl⟩ := List.mem_map.mp (p.mem_iff.mp hd)
    simp
  refine ⟨ds.map fun d => d.2.toNat, ?_, ?_, ?_⟩
  · rw [List.map_map]
    have := List.map_congr_left (f := fun d => d) (g := (fun j => (g j, (j : Int))) ∘ fun d : Int × Int => d.2.toNat) (l := ds) key
    simpa using this
  · have := p.map fun d : Int × Int => d.2.toNat
    rw [List.map_map] at this
    have e : ((fun d : Int × Int => d.2.toNat) ∘ fun j : Nat => (g j, (j : Int))) = id := by funext j; simp
    rw [e, List.map_id] at this
    exact this
  · rw [List.map_map, List.pairwise_map]
    refine s.imp_of_mem fun {c d} hc hd h => ?_
    have h1 : c.1 = g c.2.toNat := congrArg Prod.fst (key c hc)
    have h2 : d.1 = g d.2.toNat := congrArg Prod.fst (key d hd)
    have h3 : c.1 ≤ d.1 := by unfold Le at h; omega
    show g c.2.toNat ≤ g d.2.toNat
    rw [← h1, ← h2]
    exact h3
theorem pairs_upd {H : Hp} {R : Addr} {l l' : List V} (e : H R = some (.lst l)) : ∀ {xs : List V} {rs : List (Int × Int)}, PairsAt H xs rs → PairsAt (upd H R (.lst l')) xs rs
  | [], [], _ => trivial
  | x :: xs, r :: rs, ⟨⟨p, h1, h2⟩, h3⟩ => ⟨⟨p, h1, by rw [upd_ne (fun z => by rw [z, e] at h2; cases h2)]; exact h2⟩, pairs_upd e h3⟩
  | [], _ :: _, h => h.elim
  | _ :: _, [], h => h.elim
theorem flat_rep (n : Nat) : (List.replicate n [V.non]).flatten = List.replicate n V.non := by
  induction n with
  | zero => rfl
  | succ n ih => rw [List.replicate_succ, List.flatten_cons, ih]; rfl
theorem tat_upd {H : Hp} {R : Addr} {l : List V} {o : HO} (e : H R = some (.lst l)) {xs : List V} {ls : List (List Int)} (h : TAt H xs ls) : TAt (upd H R o) xs ls :=
  h.map fun p t g => by rw [upd_ne (fun z => by rw [z, e] at g; cases g)]; exact g
theorem pr_at {H : Hp} : ∀ {xs : List V} {cs : List (Int × Int)} {i : Nat} {x : V}, PairsAt H xs cs → xs[i]? = some x → ∃ r p, cs[i]? = some r ∧ x = .ref p ∧ H p = some (.tup [.int r.1, .int r.2])
  | [], [], _, _, _, e => by simp at e
  | x :: xs, r :: cs, 0, _, ⟨⟨p, h1, h2⟩, h3⟩, e => by
    simp only [List.getElem?_cons_zero, Option.some.injEq] at e
    subst e
    exact ⟨r, p, rfl, h1, h2⟩
  | x :: xs, r :: cs, i + 1, _, ⟨_, h3⟩, e => pr_at (i := i) h3 e
  | [], _ :: _, _, _, h, _ => h.elim
  | _ :: _, [], _, _, h, _ => h.elim
theorem sIx {k n : Nat} (h : k < n) : seqIndex? ((k : Nat) : Int) n = some k := by
  unfold seqIndex?
  have e : ¬ ((k : Nat) : Int) < 0 := by omega
  simp only [e, if_false]
  have e2 : (decide (0 ≤ ((k : Nat) : Int)) && decide (((k : Nat) : Int) < (n : Int))) = true := by
    rw [decide_eq_true (by omega), decide_eq_true (by omega)]; rfl
  rw [if_pos e2]
  simp
/-- the state of the loop's things -/
structure Lp (H : Hp) (p2 p3 c fa : Addr) (ys2 : List V) (rs ss : List (Int × Int)) (L fr0 : List Nat) (i : Nat) (Hz : Hp) (pre : List (Nat × Option Nat)) (fr O : List Nat) (zs fs : List V) : Prop where
  sm : Same H Hz
  e2 : Hz p2 = some (.lst ys2)
  t2 : TAt Hz ys2 (L.map (k3 rs))
  ec : Hz c = some (.lst (res pre rs.length))
  go : go (at0 rs) (at0 ss) L fr0 = pre ++ K55b.go (at0 rs) (at0 ss) (L.drop i) fr
  pf : pre.map (·.1) = L.take i
  e3 : Hz p3 = some (.lst zs.reverse)
  t3 : TAt Hz zs (O.map (k3 ss))
  ef : Hz fa = some (.lst fs)
  pr : PairsAt Hz fs ((fr.filter (keep O)).map (pr (at0 ss)))
  nd : fr.Nodup
  srt : (fr.map (K55d.pr (at0 ss))).Pairwise Le
  ofr : ∀ q ∈ O, q ∈ fr
  ond : O.Nodup
  osr : O.Pairwise (ordL ss)
  low : ∀ q ∈ fr, q ∉ O → ∀ a ∈ L.drop i, (at0 ss q).1 ≤ (at0 rs a).1
  len : fr.length ≤ 500
theorem pairs_erase {H : Hp} : ∀ {xs : List V} {rs : List (Int × Int)} (j : Nat), PairsAt H xs rs → PairsAt H (xs.eraseIdx j) (rs.eraseIdx j)
  | [], [], _, _ => trivial
  | x :: xs, r :: rs, 0, ⟨_, h⟩ => h
  | x :: xs, r :: rs, j + 1, ⟨h1, h2⟩ => ⟨h1, pairs_erase j h2⟩
  | [], _ :: _, _, h => h.elim
  | _ :: _, [], _, h => h.elim
section
variable {H Hz Hv : Hp} {p2 p3 c fa : Addr} {ys2 : List V} {rs ss : List (Int × Int)} {L fr0 : List Nat} {i : Nat} {pre : List (Nat × Option Nat)} {fr O : List Nat} {zs fs : List V}
theorem Lp.same (g : Lp H p2 p3 c fa ys2 rs ss L fr0 i Hz pre fr O zs fs) (s : Same Hz Hv) : Lp H p2 p3 c fa ys2 rs ss L fr0 i Hv pre fr O zs fs :=
  ⟨g.sm.trans s, s _ _ g.e2, g.t2.same s, s _ _ g.ec, g.go, g.pf, s _ _ g.e3, g.t3.same s, s _ _ g.ef, g.pr.same s, g.nd, g.srt, g.ofr, g.ond, g.osr, g.low, g.len⟩
theorem Lp.no (g : Lp H p2 p3 c fa ys2 rs ss L fr0 i Hz pre fr O zs fs) {a : Nat} (ea : L[i]? = some a) (ndL : L.Nodup) (hf : fr.find? (fun p => hasB (at0 ss p) (at0 rs a)) = none) :
    Lp H p2 p3 c fa ys2 rs ss L fr0 (i + 1) Hz (pre ++ [(a, none)]) fr O zs fs := by
  have hd : L.drop i = a :: L.drop (i + 1) := by
    obtain ⟨h1, h2⟩ := List.getElem?_eq_some_iff.mp ea
    rw [List.drop_eq_getElem_cons h1, h2]
  have ht : L.take (i + 1) = L.take i ++ [a] := by rw [List.take_add_one, ea, Option.toList_some]
  have hn : a ∉ pre.map (·.1) := by
    rw [g.pf]
    have := ndL
    rw [← List.take_append_drop i L, hd] at this
    exact fun m => (List.nodup_append.mp this).2.2 a m a List.mem_cons_self rfl
  refine ⟨g.sm, g.e2, g.t2, ?_, ?_, ?_, g.e3, g.t3, g.ef, g.pr, g.nd, g.srt, g.ofr, g.ond, g.osr, fun q m n b hb => g.low q m n b (by rw [hd]; exact List.mem_cons_of_mem _ hb), g.len⟩
  · rw [res_none hn (lookup_none hn)]
    exact g.ec
  · rw [g.go, hd, List.append_assoc]
    show pre ++ K55b.go _ _ (a :: L.drop (i + 1)) fr = _
    simp only [K55b.go, hf]
    rfl
  · rw [List.map_append, g.pf, ht]
    rfl
theorem Lp.yes (g : Lp H p2 p3 c fa ys2 rs ss L fr0 i Hz pre fr O zs fs) {a p j : Nat} (ea : L[i]? = some a) (ndL : L.Nodup) (han : a < rs.length) (hf : fr.find? (fun p => hasB (at0 ss p) (at0 rs a)) = some p) (hp : p ∈ fr) (hpO : p ∉ O)
    (er : ((fr.filter (keep O)).map (K55d.pr (at0 ss))).eraseIdx j = ((fr.erase p).filter (keep O)).map (K55d.pr (at0 ss))) (nf0 : H fa = none) (nc0 : H c = none) (nfc : fa ≠ c) (nf2 : fa ≠ p2) (nf3 : fa ≠ p3) (n2c : p2 ≠ c) (n3c : p3 ≠ c) :
    Lp H p2 p3 c fa ys2 rs ss L fr0 (i + 1) (upd (upd Hz fa (.lst (fs.eraseIdx j))) c (.lst ((res pre rs.length).set a (.int (p : Int))))) (pre ++ [(a, some p)]) (fr.erase p) O zs (fs.eraseIdx j) := by
  have hd : L.drop i = a :: L.drop (i + 1) := by
    obtain ⟨h1, h2⟩ := List.getElem?_eq_some_iff.mp ea
    rw [List.drop_eq_getElem_cons h1, h2]
  have ht : L.take (i + 1) = L.take i ++ [a] := by rw [List.take_add_one, ea, Option.toList_some]
  have hn : a ∉ pre.map (·.1) := by
    rw [g.pf]
    have := ndL
    rw [← List.take_append_drop i L, hd] at this
    exact fun m => (List.nodup_append.mp this).2.2 a m a List.mem_cons_self rfl
  have ec1 : (upd Hz fa (.lst (fs.eraseIdx j))) c = some (.lst (res pre rs.length)) := by rw [upd_ne nfc.symm]; exact g.ec
  refine ⟨same_again nc0 (same_again nf0 g.sm), by rw [upd_ne n2c, upd_ne nf2.symm]; exact g.e2, tat_upd ec1 (tat_upd g.ef g.t2), ?_, ?_, ?_, by rw [upd_ne n3c, upd_ne nf3.symm]; exact g.e3, tat_upd ec1 (tat_upd g.ef g.t3), by rw [upd_ne nfc, upd_same], ?_, g.nd.erase _, g.srt.sublist (List.Sublist.map _ List.erase_sublist), fun q m => ?_, g.ond, g.osr, fun q m n b hb => g.low q (List.mem_of_mem_erase m) n b (by rw [hd]; exact List.mem_cons_of_mem _ hb), Nat.le_trans (List.length_erase_le) g.len⟩
  · rw [res_some hn han]
    exact upd_same
  · rw [g.go, hd, List.append_assoc]
    show pre ++ K55b.go _ _ (a :: L.drop (i + 1)) fr = _
    simp only [K55b.go, hf]
    rfl
  · rw [List.map_append, g.pf, ht]
    rfl
  · rw [← er]
    have := pairs_erase j g.pr
    have h1 : PairsAt (upd Hz fa (.lst (fs.eraseIdx j))) (fs.eraseIdx j) (((fr.filter (keep O)).map (K55d.pr (at0 ss))).eraseIdx j) := pairs_upd g.ef this
    exact pairs_upd ec1 h1
  · exact (g.nd.mem_erase_iff).mpr ⟨fun z => hpO (by rw [← z]; exact m), g.ofr q m⟩
theorem Lp.pop {q : Nat} {z : V} {v : Addr} {fs' : List V} {rs' : List (Int × Int)} (g : Lp H p2 p3 c fa ys2 rs ss L fr0 i Hz pre fr (q :: O) (z :: zs) fs) (hlow : ∀ a ∈ L.drop i, (at0 ss q).1 ≤ (at0 rs a).1)
    (nv : (upd Hz p3 (.lst zs.reverse)) v = none) (hp : PairsAt (upd (upd Hz p3 (.lst zs.reverse)) v (.tup [.int (at0 ss q).2, .int (q : Int)])) fs' rs') (pm : rs'.Perm (K55d.pr (at0 ss) q :: (fr.filter (keep (q :: O))).map (K55d.pr (at0 ss)))) (st : rs'.Pairwise Le)
    (nf0 : H fa = none) (n30 : H p3 = none) (nfc : fa ≠ c) (nf2 : fa ≠ p2) (nf3 : fa ≠ p3) (n3c : p3 ≠ c) (n32 : p3 ≠ p2) :
    Lp H p2 p3 c fa ys2 rs ss L fr0 i (upd (upd (upd Hz p3 (.lst zs.reverse)) v (.tup [.int (at0 ss q).2, .int (q : Int)])) fa (.lst fs')) pre fr O zs fs' := by
  have nO := List.nodup_cons.mp g.ond
  have e := K55d.push g.srt g.nd (g.ofr q List.mem_cons_self) nO.1 pm st
  have sv := same_new nv (o := .tup [.int (at0 ss q).2, .int (q : Int)])
  have ef1 : (upd (upd Hz p3 (.lst zs.reverse)) v (.tup [.int (at0 ss q).2, .int (q : Int)])) fa = some (.lst fs) := sv _ _ (by rw [upd_ne nf3]; exact g.ef)
  refine ⟨same_again nf0 ((same_again n30 g.sm).trans sv), ?_, ?_, ?_, g.go, g.pf, ?_, ?_, upd_same, ?_, g.nd, g.srt, fun x m => g.ofr x (List.mem_cons_of_mem _ m), nO.2, (List.pairwise_cons.mp g.osr).2, fun x m n b hb => ?_, g.len⟩
  · rw [upd_ne nf2.symm]
    exact sv _ _ (by rw [upd_ne n32.symm]; exact g.e2)
  · exact tat_upd ef1 ((tat_upd g.e3 g.t2).same sv)
  · rw [upd_ne nfc.symm]
    exact sv _ _ (by rw [upd_ne n3c.symm]; exact g.ec)
  · rw [upd_ne nf3.symm]
    exact sv _ _ upd_same
  · exact tat_upd ef1 ((tat_upd g.e3 g.t3.2).same sv)
  · rw [← e]
    exact pairs_upd ef1 hp
  · by_cases hx : x = q
    · subst hx
      exact hlow b hb
    · exact g.low x m (fun z => (List.mem_cons.mp z).elim hx n) b hb
end
section
variable {P : Program} {w : World} {K : PySem.W.Frag} {mg : Str → Option Value} {base : Heap}
def spBP (K : PySem.W.Frag) : Sp := fun vs H Q _ => ∃ (a b : Addr) (xs ys : List V) (rs ss : List (Int × Int)), vs = [.ref a, .ref b] ∧ Sq K H a xs ∧ PairsAt H xs rs ∧ Sq K H b ys ∧ PairsAt H ys ss ∧ rs.length ≤ 500 ∧ ss.length ≤ 500 ∧
  ∀ H' c L fr0, Same H H' → H c = none → H' c = some (.lst (res (go (at0 rs) (at0 ss) L fr0) rs.length)) → L.Perm (List.range rs.length) → L.Pairwise (ordL rs) → fr0.Perm (List.range ss.length) → (fr0.map (pr (at0 ss))).Pairwise Le → Q (.ref c) H'
theorem ok_BP {f fPI fPT : Addr} {fd dPI dPT : FuncData} {k : Nat} (F : Fun K "_best_places" "_best_places" sBP f fd)
    (GPI : FnOk P w K mg base CX0 (k + 2) fPI dPI ["row", "value"] BO.spPI) (gPI : mg "place_in" = some (.ref fPI)) (kPI : PySem.W.keepIn K (.ref fPI) = true) (bPI : Binds K dPI ["row", "value"] [])
    (GPT : FnOk P w K mg base CX0 (k + 2) fPT dPT ["row", "value"] BO.spPT) (gPT : mg "put_in" = some (.ref fPT)) (kPT : PySem.W.keepIn K (.ref fPT) = true) (bPT : Binds K dPT ["row", "value"] [])
    (ml : mg "len" = none) (ms : mg "sorted" = none) (me : mg "enumerate" = none) : FnOk P w K mg base CX0 (k + 3) f fd ["first", "second"] (spBP K) := by
  refine F.ok scBP (fun vs H Q E h => ?_) (fun cdv A outer s H vs Q E hr h => ?_)
  · obtain ⟨a, b, xs, ys, rs, ss, rfl, _⟩ := h
    rfl
  · obtain ⟨a, b, xs, ys, rs, ss, rfl, hA, pa, hB, pb, la, lb, hq⟩ := h
    refine ⟨_, (pss_cons (ps_set (i := 2) scBP.nd rfl (.inl rfl) (pe_op op_rep (pe_lst (pa_cons pe_non pa_nil)) (pe_callB call_len_seq (by rfl) ml PySem.boot_len (pa_cons (pv 0) pa_nil))))
      (pss_cons (ps_set (i := 6) scBP.nd rfl (.inl rfl) (pe_callB GS3.cr_sortedT3 (by rfl) ms (by decide +kernel) (pa_cons (pe_lc (own := [("at", 3), ("low", 4), ("high", 5)]) (g := gTup K 2 (gCons (gName 3) (gCons (gTup K 2 (gCons (gName 4) (gCons (gName 5) gNil))) gNil))) (tt := tYes) rfl scBP.nd (GE.pi_enumS (by rfl) me (pa_cons (pv 0) pa_nil)) (blkOk_by (own := [("at", 3), ("low", 4), ("high", 5)]) (N := ["first", "second", "places", "at", "low", "high", "inner", "place", "outer", "free", "_", "end", "found"]) (sc := defScope sBP) (by decide +kernel)) (fun _ _ _ _ _ => (pg_tup rfl (pgs_cons (pg_name (i := 3) scBP.nd rfl (Or.inl rfl) (Or.inr rfl)) (pgs_cons (pg_tup rfl (pgs_cons (pg_name (i := 4) scBP.nd rfl (Or.inl rfl) (Or.inr rfl)) (pgs_cons (pg_name (i := 5) scBP.nd rfl (Or.inl rfl) (Or.inr rfl)) pgs_nil))) pgs_nil)))) (fun _ _ _ _ _ => pts_nil) (fun _ _ _ _ _ => (pe_tup (pa_cons (pv 4) (pa_cons (pv 5) (pa_cons (pv 3) pa_nil)))))) pa_nil)))
      (pss_cons (ps_set (i := 8) scBP.nd rfl (.inl rfl) (pe_callBK GS3.cr_sortedT3R (by rfl) ms (by decide +kernel) (pa_cons (pe_lc (own := [("place", 7), ("low", 4), ("high", 5)]) (g := gTup K 2 (gCons (gName 7) (gCons (gTup K 2 (gCons (gName 4) (gCons (gName 5) gNil))) gNil))) (tt := tYes) rfl scBP.nd (GE.pi_enumS (by rfl) me (pa_cons (pv 1) pa_nil)) (blkOk_by (own := [("place", 7), ("low", 4), ("high", 5)]) (N := ["first", "second", "places", "at", "low", "high", "inner", "place", "outer", "free", "_", "end", "found"]) (sc := defScope sBP) (by decide +kernel)) (fun _ _ _ _ _ => (pg_tup rfl (pgs_cons (pg_name (i := 7) scBP.nd rfl (Or.inl rfl) (Or.inr rfl)) (pgs_cons (pg_tup rfl (pgs_cons (pg_name (i := 4) scBP.nd rfl (Or.inl rfl) (Or.inr rfl)) (pgs_cons (pg_name (i := 5) scBP.nd rfl (Or.inl rfl) (Or.inr rfl)) pgs_nil))) pgs_nil)))) (fun _ _ _ _ _ => pts_nil) (fun _ _ _ _ _ => (pe_tup (pa_cons (pv 4) (pa_cons (pv 5) (pa_cons (pv 7) pa_nil)))))) pa_nil) (pk_cons pe_bl pk_nil)))
      (pss_cons (ps_set (i := 9) scBP.nd rfl (.inl rfl) (pe_lst pa_nil))
      (pss_cons (ps_for PassesOwn.never rfl (pi_list (pv 6)) (pg_tup rfl (pgs_cons (pg_name (i := 4) scBP.nd rfl (.inl rfl)) (pgs_cons (pg_name (i := 5) scBP.nd rfl (.inl rfl)) (pgs_cons (pg_name (i := 3) scBP.nd rfl (.inl rfl)) pgs_nil))))
      (pss_cons (ps_while PassesOwn.never (PW.pt (pw_and (pt_truth (pv 8) (by intro _; rfl)) (pw_and1 (pt_cmpR op_le (pe_ix ix_tup (pe_ix ix_list (pv 8) (pe_un un_neg pe_int) (fun _ _ => rfl)) pe_int (fun _ _ => rfl)) (pv 4) (nomark _)))))
      (pss_cons (ps_asg (pe_bm0 PySem.F.plainAttrs_list PySem.F.slot_list_pop PySem.F.type_list_pop mt_pop (pv 8)) (pg_tup rfl (pgs_cons (pg_name (i := 10) scBP.nd rfl (.inl rfl)) (pgs_cons (pg_name (i := 11) scBP.nd rfl (.inl rfl)) (pgs_cons (pg_name (i := 7) scBP.nd rfl (.inl rfl)) pgs_nil)))))
      (pss_one (ps_expr (pe_call GPT hr (by rfl) gPT kPT bPT .nil pass0 (pa_cons (pv 9) (pa_cons (pe_tup (pa_cons (pv 11) (pa_cons (pv 7) pa_nil))) pa_nil)))))))
      (pss_cons (ps_set (i := 12) scBP.nd rfl (.inl rfl) (pe_call GPI hr (by rfl) gPI kPI bPI .nil pass0 (pa_cons (pv 9) (pa_cons (pe_tup (pa_cons (pv 5) (pa_cons pe_int pa_nil))) pa_nil))))
      (pss_one (ps_if (pt_cmpR op_lt (pv 12) (pe_callB call_len_seq (by rfl) ml PySem.boot_len (pa_cons (pv 9) pa_nil)) (nomark _)) (pss_one (ps_asg (pe_bm PySem.F.plainAttrs_list PySem.F.slot_list_pop PySem.F.type_list_pop mt_popAt (pv 9) (pa_cons (pv 12) pa_nil)) (pg_tup rfl (pgs_cons (pg_name (i := 10) scBP.nd rfl (.inl rfl)) (pgs_cons (pg_sub (pv 2) (pv 3) set_list) pgs_nil))))) pss_nil)))))
      (pss_one (ps_ret (pv 2)))))))), ?_⟩
    have l2s : 2 ≤ sizeLine := by decide
    have lxa := pa.length
    have lxb := pb.length
    refine ⟨by show 1 ≤ sizeLine; decide, fun l nl => ⟨.ref a, rfl, a, xs, rfl, (hA.same (same_new nl)), l, (xs.length : Int), [.non], rfl, rfl, upd_same, by omega, by omega, by show 1 * _ ≤ sizeLine; exact Nat.le_trans (show _ ≤ 3000 by omega) (by decide), fun c nc => ?_⟩⟩
    have s1 := (same_new (o := .lst [.non]) nl).trans (same_new (o := .lst (List.replicate (xs.length : Int).toNat [.non]).flatten) nc)
    have nc0 : H c = none := (same_new (o := .lst [.non]) nl).free nc
    have ec := upd_same (H := upd H l (.lst [.non])) (a := c) (o := .lst (List.replicate (xs.length : Int).toNat [.non]).flatten)
    generalize upd (upd H l (.lst [.non])) c (.lst (List.replicate (xs.length : Int).toNat [.non]).flatten) = H1 at s1 ec ⊢
    rw [flat_rep, Int.toNat_natCast, lxa, ← res_nil] at ec
    clear nl nc l
    refine ⟨.ref a, rfl, a, xs, rfl, hA.same s1, fun J G wk hG D nD => ?_⟩
    refine lc_it wk (fun i Hz => Same H1 Hz ∧ ∃ acc : List V, Hz D = some (.lst acc) ∧ TAt Hz acc ((List.range i).map (k3 rs))) ⟨same_new nD, [], upd_same, trivial⟩ (fun i Hz _ z => hG _ z.1) ?_ ?_
    · rintro i v Hz Hy hi ⟨sz, acc, eD, pd⟩ ⟨T, x, y, rfl, nT, rfl, hx, hy⟩
      obtain rfl : V.int (i : Int) = x := Option.some.inj hx
      obtain ⟨r, p, er, rfl, e2⟩ := pr_at pa hy
      have ea : at0 rs i = r := by unfold at0; rw [er]; rfl
      have sT := same_new (o := .tup [.int (i : Int), .ref p]) nT
      have s3 := sz.trans sT
      have hp := s3 _ _ (s1 _ _ e2)
      have la2 := pd.length
      rw [List.length_map, List.length_range] at la2
      refine ⟨T, _, rfl, SqT.of upd_same, rfl, .int (i : Int), [.ref p], rfl, .ref p, [], rfl, p, _, rfl, SqT.of hp, rfl, .int r.1, [.int r.2], rfl, .int r.2, [], rfl, rfl, rfl, rfl, iteT (B := True) ?_⟩
      refine ⟨.int r.1, rfl, .int r.2, rfl, .int (i : Int), rfl, (show 3 ≤ sizeLine by decide), fun q nq => ?_⟩
      have sq := same_new (o := .tup [.int r.1, .int r.2, .int (i : Int)]) nq
      have eD2 := sq _ _ (sT _ _ eD)
      refine ⟨acc, eD2, Nat.lt_of_le_of_lt (show acc.length ≤ 3000 by omega) (by decide), same_again nD (s3.trans sq), acc ++ [.ref q], upd_same, ?_⟩
      rw [List.range_succ, List.map_append]
      exact tat_upd eD2 (TAt.append (pd.same (sT.trans sq)) ⟨⟨q, rfl, by rw [show k3 rs i = [r.1, r.2, (i : Int)] by unfold k3; rw [ea]]; exact upd_same⟩, trivial⟩)
    rintro Hz ⟨sz, acc, eD, pd⟩
    rw [lxa] at pd
    have mm := (tat_mem pd).2
    refine ⟨D, rfl, acc, kT Hz, SqL.of eD, fun x hx => (mm x hx).elim fun p z => ⟨p, z.1, by rw [z.2.2]; exact z.2.1, by rw [z.2.2]; rfl⟩, fun ys2 p2 sr pm np2 => ?_⟩
    obtain ⟨L, tL, pL, oL⟩ := sorted_trips pd sr pm
    have sp := same_new np2 (o := .lst ys2)
    have sB := (s1.trans sz).trans sp
    have e2 : (upd Hz p2 (.lst (if false = true then ys2.reverse else ys2))) p2 = some (.lst ys2) := upd_same
    have ec2 := sp _ _ (sz _ _ ec)
    have tL2 := tL.same sp
    have np20 : H p2 = none := (s1.trans sz).free np2
    have n2c : p2 ≠ c := fun z => by rw [z, sz _ _ ec] at np2; cases np2
    show _
    have sp : Same Hz (upd Hz p2 (.lst (if false = true then ys2.reverse else ys2))) := sp
    have sB : Same H (upd Hz p2 (.lst (if false = true then ys2.reverse else ys2))) := sB
    have ec2 : (upd Hz p2 (.lst (if false = true then ys2.reverse else ys2))) c = some (.lst (res [] rs.length)) := ec2
    have tL2 : TAt (upd Hz p2 (.lst (if false = true then ys2.reverse else ys2))) ys2 (L.map (k3 rs)) := tL2
    generalize upd Hz p2 (.lst (if false = true then ys2.reverse else ys2)) = H2 at sB e2 ec2 tL2 ⊢
    clear sp tL np2 mm eD pd sz sr pm ec s1 nD
    refine ⟨.ref b, rfl, b, ys, rfl, hB.same sB, fun J G wk hG D nD => ?_⟩
    refine lc_it wk (fun i Hz => Same H2 Hz ∧ ∃ acc : List V, Hz D = some (.lst acc) ∧ TAt Hz acc ((List.range i).map (k3 ss))) ⟨same_new nD, [], upd_same, trivial⟩ (fun i Hz _ z => hG _ z.1) ?_ ?_
    · rintro i v Hz Hy hi ⟨sz, acc, eD, pd⟩ ⟨T, x, y, rfl, nT, rfl, hx, hy⟩
      obtain rfl : V.int (i : Int) = x := Option.some.inj hx
      obtain ⟨r, p, er, rfl, e2⟩ := pr_at pb hy
      have ea : at0 ss i = r := by unfold at0; rw [er]; rfl
      have sT := same_new (o := .tup [.int (i : Int), .ref p]) nT
      have s3 := sz.trans sT
      have hp := s3 _ _ (sB _ _ e2)
      have la2 := pd.length
      rw [List.length_map, List.length_range] at la2
      refine ⟨T, _, rfl, SqT.of upd_same, rfl, .int (i : Int), [.ref p], rfl, .ref p, [], rfl, p, _, rfl, SqT.of hp, rfl, .int r.1, [.int r.2], rfl, .int r.2, [], rfl, rfl, rfl, rfl, iteT (B := True) ?_⟩
      refine ⟨.int r.1, rfl, .int r.2, rfl, .int (i : Int), rfl, (show 3 ≤ sizeLine by decide), fun q nq => ?_⟩
      have sq := same_new (o := .tup [.int r.1, .int r.2, .int (i : Int)]) nq
      have eD2 := sq _ _ (sT _ _ eD)
      refine ⟨acc, eD2, Nat.lt_of_le_of_lt (show acc.length ≤ 3000 by omega) (by decide), same_again nD (s3.trans sq), acc ++ [.ref q], upd_same, ?_⟩
      rw [List.range_succ, List.map_append]
      exact tat_upd eD2 (TAt.append (pd.same (sT.trans sq)) ⟨⟨q, rfl, by rw [show k3 ss i = [r.1, r.2, (i : Int)] by unfold k3; rw [ea]]; exact upd_same⟩, trivial⟩)
    rintro Hz ⟨sz, acc, eD, pd⟩
    rw [lxb] at pd
    have mm := (tat_mem pd).2
    refine ⟨D, rfl, rfl, acc, kT Hz, SqL.of eD, fun x hx => (mm x hx).elim fun p z => ⟨p, z.1, by rw [z.2.2]; exact z.2.1, by rw [z.2.2]; rfl⟩, fun ys3 p3 sr pm np3 => ?_⟩
    obtain ⟨O0, tO, pO, oO⟩ := sorted_trips pd sr pm
    have sp : Same Hz (upd Hz p3 (.lst (if true = true then ys3.reverse else ys3))) := same_new np3
    have e3 : (upd Hz p3 (.lst (if true = true then ys3.reverse else ys3))) p3 = some (.lst ys3.reverse) := upd_same
    have sC := (sB.trans sz).trans sp
    have e2' := sp _ _ (sz _ _ e2)
    have ec' := sp _ _ (sz _ _ ec2)
    have tL' := (tL2.same sz).same sp
    have tO' := tO.same sp
    have np30 : H p3 = none := (sB.trans sz).free np3
    have n3c : p3 ≠ c := fun z => by rw [z, sz _ _ ec2] at np3; cases np3
    have n32 : p3 ≠ p2 := fun z => by rw [z, sz _ _ e2] at np3; cases np3
    generalize upd Hz p3 (.lst (if true = true then ys3.reverse else ys3)) = H3 at sC e3 e2' ec' tL' tO' ⊢
    refine ⟨Nat.zero_le _, fun fa nfa => ?_⟩
    have sf := same_new nfa (o := .lst [])
    have ef := upd_same (H := H3) (a := fa) (o := .lst [])
    have sD := sC.trans sf
    have e2'' := sf _ _ e2'
    have e3'' := sf _ _ e3
    have ec'' := sf _ _ ec'
    have tL'' := tL'.same sf
    have tO'' := tO'.same sf
    have nf0 : H fa = none := sC.free nfa
    have nfc : fa ≠ c := fun z => by rw [z, ec'] at nfa; cases nfa
    have nf2 : fa ≠ p2 := fun z => by rw [z, e2'] at nfa; cases nfa
    have nf3 : fa ≠ p3 := fun z => by rw [z, e3] at nfa; cases nfa
    generalize upd H3 fa (.lst []) = H4 at sD e2'' e3'' ec'' tL'' tO'' ef ⊢
    obtain ⟨fr0, pf0, sf0⟩ := fr_ex ss
    have nd0 : fr0.Nodup := pf0.nodup_iff.mpr List.nodup_range
    have lO : O0.length = ss.length := by rw [pO.length_eq, List.length_range]
    have lL : L.length = rs.length := by rw [pL.length_eq, List.length_range]
    have lfr : fr0.length = ss.length := by rw [pf0.length_eq, List.length_range]
    have f0 : fr0.filter (keep O0) = [] := List.filter_eq_nil_iff.mpr fun q hq z => (keep_iff.mp z) (pO.mem_iff.mpr (pf0.mem_iff.mp hq))
    refine ⟨.ref p2, rfl, p2, rfl, ⟨ys2, SqL.of e2''⟩, for_it (walk_list (xs := ys2)) (fun i σ Hz => ∃ (pre : List (Nat × Option Nat)) (fr O : List Nat) (zs fs : List V), Lp H p2 p3 c fa ys2 rs ss L fr0 i Hz pre fr O zs fs ∧ ∃ r3 r4 r5 r7 r10 r11 r12 : Option V, σ = [some (.ref a), some (.ref b), some (.ref c), r3, r4, r5, some (.ref p2), r7, some (.ref p3), some (.ref fa), r10, r11, r12])
      ⟨[], fr0, O0, ys3, [], ⟨sD, e2'', tL'', ec'', rfl, rfl, e3'', tO'', ef, by rw [f0]; trivial, nd0, sf0, fun q hq => pf0.mem_iff.mpr (pO.mem_iff.mp hq), pO.nodup_iff.mpr List.nodup_range, oO, fun q hq hn => absurd (pO.mem_iff.mpr (pf0.mem_iff.mp hq)) hn, by omega⟩, _, _, _, _, _, _, _, rfl⟩ (fun i σ Hz _ z => by obtain ⟨_, _, _, _, _, g, _⟩ := z; exact SqL.of g.e2) ?_ ?_⟩
    · rintro i x σ Hz Hy hi ⟨pre, fr, O, zs, fs, g, r3, r4, r5, r7, r10, r11, r12, rfl⟩ ⟨rfl, hx⟩
      obtain ⟨l, p, el, rfl, ep⟩ := g.t2.at hx
      rw [List.getElem?_map] at el
      obtain ⟨at', ea, rfl⟩ := Option.map_eq_some_iff.mp el
      have ndL : L.Nodup := pL.nodup_iff.mpr List.nodup_range
      have han : at' < rs.length := List.mem_range.mp (pL.mem_iff.mp (List.mem_of_getElem? ea))
      have hat : at' ∈ L.drop i := by
        obtain ⟨h1, h2⟩ := List.getElem?_eq_some_iff.mp ea
        rw [List.drop_eq_getElem_cons h1, h2]
        exact List.mem_cons_self
      have hlater : ∀ b ∈ L.drop i, (at0 rs at').1 ≤ (at0 rs b).1 := fun b hb => by
        obtain ⟨h1, h2⟩ := List.getElem?_eq_some_iff.mp ea
        have sub := oL.sublist (List.drop_sublist i L)
        rw [List.drop_eq_getElem_cons h1, h2] at hb sub
        rcases List.mem_cons.mp hb with z | z
        · rw [z]; exact Int.le_refl _
        · exact ord_low ((List.pairwise_cons.mp sub).1 b z)
      refine ⟨p, _, rfl, SqT.of ep, rfl, .int (at0 rs at').1, _, rfl, .int (at0 rs at').2, _, rfl, .int (at' : Int), _, rfl, rfl, ?_⟩
      refine ⟨fun n σ Hw => ∃ (O : List Nat) (zs fs : List V), n = O.length ∧ Lp H p2 p3 c fa ys2 rs ss L fr0 i Hw pre fr O zs fs ∧ ∃ r7 r10 r11 r12 : Option V, σ = [some (.ref a), some (.ref b), some (.ref c), some (.int (at' : Int)), some (.int (at0 rs at').1), some (.int (at0 rs at').2), some (.ref p2), r7, some (.ref p3), some (.ref fa), r10, r11, r12], ⟨_, O, zs, fs, rfl, g, _, _, _, _, rfl⟩, ?_⟩
      clear g ep hx el
      rintro n σ Hw ⟨O, zs, fs, rfl, g, r7, r10, r11, r12, rfl⟩
      refine ⟨.ref p3, rfl, _, .inl ⟨_, SqL.of g.e3, rfl⟩, ?_⟩
      cases zs with
      | nil =>
        have hO0 : O = [] := by
          have := g.t3.length
          rw [List.length_map] at this
          exact List.length_eq_zero_iff.mp this.symm
        have hO : ∀ q ∈ O, (at0 rs at').1 < (at0 ss q).1 := fun q m => by rw [hO0] at m; exact (List.not_mem_nil m).elim
        refine iteF ?_
        refine iteF ?_
        refine ⟨.ref fa, rfl, .int (at0 rs at').2, rfl, l2s, fun v nv => ?_⟩
        have sv := same_new nv (o := .tup [.int (at0 rs at').2, .int 0])
        refine ⟨fa, v, fs, _, ((at0 rs at').2, 0), rfl, sv _ _ g.ef, g.pr.same sv, g.srt.sublist (List.Sublist.map _ List.filter_sublist), upd_same, by rw [List.length_map]; exact Nat.le_trans (List.length_filter_le _ _) (Nat.le_trans g.len (by decide)), fun j pl => ?_⟩
        have gv := g.same sv
        generalize upd Hw v (.tup [.int (at0 rs at').2, .int 0]) = Hv at gv ⊢
        have lf := gv.pr.length
        obtain ⟨F1, F2⟩ := K55d.found (f := at0 rs) (s := at0 ss) (a := at') (i := j) gv.nd hO (fun q m n => gv.low q m n at' hat) pl
        refine ⟨.int j, rfl, .ref fa, rfl, fa, fs, rfl, .inl (SqL.of gv.ef), (j : Int), (fs.length : Int), rfl, rfl, _, rfl, ?_⟩
        by_cases hj : j < fs.length
        · rw [decide_eq_true (show (j : Int) < (fs.length : Int) by omega)]
          obtain ⟨p', m1, m2, e1, fd', er⟩ := F1 (by rw [← lf]; exact hj)
          obtain ⟨tv, e5, e6⟩ := BO.pair_get gv.pr e1
          have hn : tv ≠ fa := fun z => by rw [z, gv.ef] at e6; cases e6
          have lfs : fs.length ≤ 500 := by rw [lf, List.length_map]; exact Nat.le_trans (List.length_filter_le _ _) gv.len
          refine iteT ⟨.ref fa, rfl, .inl ⟨rfl, _, SqL.of gv.ef⟩, .int j, rfl, fa, fs, (j : Int), j, .ref tv, rfl, rfl, gv.ef, by omega, by omega, sIx hj, e5, ?_⟩
          refine ⟨tv, _, rfl, SqT.of (by rw [upd_ne hn]; exact e6), rfl, .int (at0 ss p').2, _, rfl, .int (p' : Int), _, rfl, .ref c, rfl, .int (at' : Int), rfl, c, res pre rs.length, (at' : Int), at', rfl, rfl, by rw [upd_ne nfc.symm]; exact gv.ec, ?_, rfl, ?_⟩
          · rw [res_len]
            unfold ixN
            rw [if_pos (by omega), if_pos (by omega)]
            rfl
          · exact ⟨pre ++ [(at', some p')], fr.erase p', _, _, fs.eraseIdx j, gv.yes ea ndL han fd' m1 m2 er nf0 nc0 nfc nf2 nf3 n2c n3c, _, _, _, _, _, _, _, rfl⟩
        · rw [decide_eq_false (show ¬ (j : Int) < (fs.length : Int) by omega)]
          exact iteF ⟨pre ++ [(at', none)], fr, _, _, fs, gv.no ea ndL (F2 (by rw [← lf]; exact hj)), _, _, _, _, _, _, _, rfl⟩
      | cons z zs =>
        cases O with
        | nil => exact g.t3.elim
        | cons q O =>
        obtain ⟨⟨t, rfl, ht⟩, t3'⟩ := g.t3
        have nem : (!((V.ref t :: zs).reverse).isEmpty) = true := by rw [List.reverse_cons]; cases zs.reverse <;> rfl
        rw [nem]
        refine iteT ⟨.ref p3, rfl, 1, rfl, p3, _, _, .ref t, rfl, rfl, SqL.of g.e3, by rw [List.reverse_cons]; exact atI_last _ _, t, _, 0, .int (at0 ss q).1, rfl, rfl, SqT.of ht, rfl, .int (at0 rs at').1, rfl, (at0 ss q).1, (at0 rs at').1, rfl, rfl, _, rfl, ?_⟩
        by_cases hlow : (at0 ss q).1 ≤ (at0 rs at').1
        · rw [decide_eq_true hlow]
          refine iteT ⟨fun σ Hw => ∃ m', m' < (q :: O).length ∧ ∃ (O : List Nat) (zs fs : List V), m' = O.length ∧ Lp H p2 p3 c fa ys2 rs ss L fr0 i Hw pre fr O zs fs ∧ ∃ r7 r10 r11 r12 : Option V, σ = [some (.ref a), some (.ref b), some (.ref c), some (.int (at' : Int)), some (.int (at0 rs at').1), some (.int (at0 rs at').2), some (.ref p2), r7, some (.ref p3), some (.ref fa), r10, r11, r12], fun _ _ z => z, ?_⟩
          have n3t : t ≠ p3 := fun z => by rw [z, g.e3] at ht; cases ht
          refine ⟨.ref p3, rfl, .inl ⟨rfl, _, SqL.of g.e3⟩, p3, _, .ref t, rfl, rfl, g.e3, by rw [List.reverse_cons, List.length_append, List.length_singleton, Nat.add_sub_cancel, List.getElem?_append_right (Nat.le_refl _), Nat.sub_self]; rfl, ?_⟩
          rw [show (V.ref t :: zs).reverse.dropLast = zs.reverse by rw [List.reverse_cons, List.dropLast_concat]]
          refine ⟨t, _, rfl, SqT.of (by rw [upd_ne n3t]; exact ht), rfl, .int (at0 ss q).1, _, rfl, .int (at0 ss q).2, _, rfl, .int (q : Int), _, rfl, rfl, ?_⟩
          refine ⟨.ref fa, rfl, .int (at0 ss q).2, rfl, .int (q : Int), rfl, l2s, fun v nv => ?_⟩
          have sv := same_new nv (o := .tup [.int (at0 ss q).2, .int (q : Int)])
          refine ⟨fa, v, fs, _, ((at0 ss q).2, (q : Int)), rfl, sv _ _ (by rw [upd_ne nf3]; exact g.ef), (pairs_upd g.e3 g.pr).same sv, g.srt.sublist (List.Sublist.map _ List.filter_sublist), upd_same, by rw [List.length_map]; exact Nat.le_trans (List.length_filter_le _ _) (Nat.le_trans g.len (by decide)), fun fs' rs' hp pm st => ?_⟩
          exact ⟨O.length, Nat.lt_succ_self _, O, zs, fs', rfl, g.pop (fun b hb => Int.le_trans hlow (hlater b hb)) nv hp pm st nf0 np30 nfc nf2 nf3 n3c n32, _, _, _, _, rfl⟩
        · have hO : ∀ x ∈ q :: O, (at0 rs at').1 < (at0 ss x).1 := fun x m => by
            rcases List.mem_cons.mp m with z | z
            · rw [z]; omega
            · have := ord_low ((List.pairwise_cons.mp g.osr).1 x z)
              omega
          rw [decide_eq_false hlow]
          refine iteF ?_
          refine ⟨.ref fa, rfl, .int (at0 rs at').2, rfl, l2s, fun v nv => ?_⟩
          have sv := same_new nv (o := .tup [.int (at0 rs at').2, .int 0])
          refine ⟨fa, v, fs, _, ((at0 rs at').2, 0), rfl, sv _ _ g.ef, g.pr.same sv, g.srt.sublist (List.Sublist.map _ List.filter_sublist), upd_same, by rw [List.length_map]; exact Nat.le_trans (List.length_filter_le _ _) (Nat.le_trans g.len (by decide)), fun j pl => ?_⟩
          have gv := g.same sv
          generalize upd Hw v (.tup [.int (at0 rs at').2, .int 0]) = Hv at gv ⊢
          have lf := gv.pr.length
          obtain ⟨F1, F2⟩ := K55d.found (f := at0 rs) (s := at0 ss) (a := at') (i := j) gv.nd hO (fun q m n => gv.low q m n at' hat) pl
          refine ⟨.int j, rfl, .ref fa, rfl, fa, fs, rfl, .inl (SqL.of gv.ef), (j : Int), (fs.length : Int), rfl, rfl, _, rfl, ?_⟩
          by_cases hj : j < fs.length
          · rw [decide_eq_true (show (j : Int) < (fs.length : Int) by omega)]
            obtain ⟨p', m1, m2, e1, fd', er⟩ := F1 (by rw [← lf]; exact hj)
            obtain ⟨tv, e5, e6⟩ := BO.pair_get gv.pr e1
            have hn : tv ≠ fa := fun z => by rw [z, gv.ef] at e6; cases e6
            have lfs : fs.length ≤ 500 := by rw [lf, List.length_map]; exact Nat.le_trans (List.length_filter_le _ _) gv.len
            refine iteT ⟨.ref fa, rfl, .inl ⟨rfl, _, SqL.of gv.ef⟩, .int j, rfl, fa, fs, (j : Int), j, .ref tv, rfl, rfl, gv.ef, by omega, by omega, sIx hj, e5, ?_⟩
            refine ⟨tv, _, rfl, SqT.of (by rw [upd_ne hn]; exact e6), rfl, .int (at0 ss p').2, _, rfl, .int (p' : Int), _, rfl, .ref c, rfl, .int (at' : Int), rfl, c, res pre rs.length, (at' : Int), at', rfl, rfl, by rw [upd_ne nfc.symm]; exact gv.ec, ?_, rfl, ?_⟩
            · rw [res_len]
              unfold ixN
              rw [if_pos (by omega), if_pos (by omega)]
              rfl
            · exact ⟨pre ++ [(at', some p')], fr.erase p', _, _, fs.eraseIdx j, gv.yes ea ndL han fd' m1 m2 er nf0 nc0 nfc nf2 nf3 n2c n3c, _, _, _, _, _, _, _, rfl⟩
          · rw [decide_eq_false (show ¬ (j : Int) < (fs.length : Int) by omega)]
            exact iteF ⟨pre ++ [(at', none)], fr, _, _, fs, gv.no ea ndL (F2 (by rw [← lf]; exact hj)), _, _, _, _, _, _, _, rfl⟩
    · rintro σ Hz ⟨pre, fr, O, zs, fs, g, r3, r4, r5, r7, r10, r11, r12, rfl⟩
      have hl := g.t2.length
      rw [List.length_map] at hl
      have hg := g.go
      rw [hl, List.drop_length] at hg
      have hg : go (at0 rs) (at0 ss) L fr0 = pre := by rw [hg]; exact List.append_nil _
      refine ⟨.ref c, rfl, hq Hz c L fr0 g.sm nc0 (by rw [hg]; exact g.ec) pL oL pf0 sf0⟩
end
end P5P

/-! a matching is there exactly if no set of ranges is around more of the first list than of the second -/
namespace K55c
open K55 K55b
theorem sub_len {α : Type} [DecidableEq α] : ∀ {l m : List α}, l.Nodup → (∀ x ∈ l, x ∈ m) → l.length ≤ m.length
  | [], _, _, _ => Nat.zero_le _
  | a :: l, m, nd, h => by
    have n := List.nodup_cons.mp nd
    have ih := sub_len (l := l) (m := m.erase a) n.2 fun x hx => by
      have : x ≠ a := fun z => n.1 (z ▸ hx)
      exact (List.mem_erase_of_ne this).mpr (h x (List.mem_cons_of_mem _ hx))
    have e := List.length_erase_of_mem (h a List.mem_cons_self)
    have pos : 0 < m.length := List.length_pos_of_mem (h a List.mem_cons_self)
    rw [List.length_cons]
    omega
/-- the places of the ranges that are around one of a set -/
def plcs (s : Nat → Rg) (m : Nat) (V : List Rg) : List Nat := (List.range m).filter fun i => V.any (hasB (s i))
theorem plcs_mem {s : Nat → Rg} {m i : Nat} {V : List Rg} : i ∈ plcs s m V ↔ i < m ∧ ∃ v ∈ V, cont (s i) v := by
  unfold plcs
  rw [List.mem_filter, List.mem_range, List.any_eq_true]
  constructor
  · rintro ⟨h, v, hv, c⟩
    exact ⟨h, v, hv, hasB_iff.mp c⟩
  · rintro ⟨h, v, hv, c⟩
    exact ⟨h, v, hv, hasB_iff.mpr c⟩
theorem plcs_nd (s : Nat → Rg) (m : Nat) (V : List Rg) : (plcs s m V).Nodup := List.nodup_range.sublist List.filter_sublist
theorem cont_refl (r : Rg) : cont r r := ⟨Int.le_refl _, Int.le_refl _⟩
theorem cont_trans {a b c : Rg} (h : cont a b) (g : cont b c) : cont a c := by unfold cont at *; omega
/-- with a matching no set is around more of the first list -/
theorem matched {f s : Nat → Rg} {n m : Nat} {o : Nat → Nat} (lt : ∀ i, i < n → o i < m) (has : ∀ i, i < n → cont (s (o i)) (f i)) (inj : ∀ i j, i < n → j < n → o i = o j → i = j) (V : List Rg) : (plcs f n V).length ≤ (plcs s m V).length := by
  have h : ((plcs f n V).map o).length ≤ (plcs s m V).length := sub_len (by
      refine List.pairwise_map.mpr ?_
      refine (plcs_nd f n V).imp_of_mem fun {i j} hi hj ne e => ne (inj i j (plcs_mem.mp hi).1 (plcs_mem.mp hj).1 e)) fun x hx => by
    obtain ⟨i, hi, rfl⟩ := List.mem_map.mp hx
    obtain ⟨h1, v, hv, c⟩ := plcs_mem.mp hi
    exact plcs_mem.mpr ⟨lt i h1, v, hv, cont_trans (has i h1) c⟩
  rw [List.length_map] at h
  exact h
/-- a crowd is around more of the first list than of the second -/
theorem crowded {f s : Nat → Rg} {n m a : Nat} {d : List (Nat × Nat)} (ha : a < n) (hd : ∀ e ∈ d, e.1 < n) (nd : (d.map (·.1)).Nodup) (na : a ∉ d.map (·.1)) (S : Nat × Nat → Prop)
    (own : ∀ q, q < m → (cont (s q) (f a) ∨ ∃ e, (S e ∧ e ∈ d) ∧ cont (s q) (f e.1)) → ∃ e, (S e ∧ e ∈ d) ∧ e.2 = q) : ∃ V : List Rg, V ≠ [] ∧ (∀ v ∈ V, ∃ i, i < n ∧ v = f i) ∧ (plcs s m V).length < (plcs f n V).length := by
  classical
  let T := d.filter fun e => decide (S e)
  have tm : ∀ e, e ∈ T ↔ S e ∧ e ∈ d := fun e => by
    show e ∈ d.filter _ ↔ _
    rw [List.mem_filter]
    simp [And.comm]
  refine ⟨f a :: T.map fun e => f e.1, by simp, fun v hv => ?_, ?_⟩
  · rcases List.mem_cons.mp hv with z | z
    · exact ⟨a, ha, z⟩
    · obtain ⟨e, he, rfl⟩ := List.mem_map.mp z
      exact ⟨e.1, hd e ((tm e).mp he).2, rfl⟩
  · have up : (plcs s m (f a :: T.map fun e => f e.1)).length ≤ (T.map (·.2)).length := sub_len (plcs_nd _ _ _) fun q hq => by
      obtain ⟨h1, v, hv, c⟩ := plcs_mem.mp hq
      obtain ⟨e, he, e2⟩ := own q h1 (by
        rcases List.mem_cons.mp hv with z | z
        · exact .inl (z ▸ c)
        · obtain ⟨e, he, rfl⟩ := List.mem_map.mp z
          exact .inr ⟨e, (tm e).mp he, c⟩)
      exact List.mem_map.mpr ⟨e, (tm e).mpr he, e2⟩
    have down : (a :: T.map (·.1)).length ≤ (plcs f n (f a :: T.map fun e => f e.1)).length := sub_len (by
        refine List.nodup_cons.mpr ⟨fun z => ?_, nd.sublist (List.filter_sublist.map _)⟩
        obtain ⟨e, he, e2⟩ := List.mem_map.mp z
        exact na (List.mem_map.mpr ⟨e, ((tm e).mp he).2, e2⟩)) fun i hi => by
      rcases List.mem_cons.mp hi with z | z
      · subst z
        exact plcs_mem.mpr ⟨ha, f i, List.mem_cons_self, cont_refl _⟩
      · obtain ⟨e, he, e2⟩ := List.mem_map.mp z
        subst e2
        exact plcs_mem.mpr ⟨hd e ((tm e).mp he).2, f e.1, List.mem_cons_of_mem _ (List.mem_map.mpr ⟨e, he, rfl⟩), cont_refl _⟩
    rw [List.length_map] at up
    rw [List.length_cons, List.length_map] at down
    omega
/-- the greedy way from what has been done on: either all find a place, each its own, or there is a crowd -/
theorem go_or {f s : Nat → Rg} {fr0 : List Nat} {n m : Nat} (hm : ∀ q, q ∈ fr0 ↔ q < m) : ∀ (L fr : List Nat) (d : List (Nat × Nat)), Inv f s fr0 d fr → (∀ a ∈ L, a < n) → (∀ e ∈ d, e.1 < n) → (d.map (·.1) ++ L).Nodup →
    (d.map (fun e => (f e.1).1) ++ L.map (fun a => (f a).1)).Pairwise (· ≤ ·) →
    (∃ d3 fr2, Inv f s fr0 (d ++ d3) fr2 ∧ d3.map (·.1) = L ∧ go f s L fr = d3.map (fun e => (e.1, some e.2))) ∨ ((∃ a ∈ L, (a, none) ∈ go f s L fr) ∧ ∃ V : List Rg, V ≠ [] ∧ (∀ v ∈ V, ∃ i, i < n ∧ v = f i) ∧ (plcs s m V).length < (plcs f n V).length)
  | [], fr, d, v, _, _, _, _ => .inl ⟨[], fr, by simpa using v, rfl, rfl⟩
  | a :: L, fr, d, v, hL, hd, nd, srt => by
    have srt2 := List.pairwise_append.mp srt
    have hlow : ∀ e ∈ d, (f e.1).1 ≤ (f a).1 := fun e he => srt2.2.2 _ (List.mem_map.mpr ⟨e, he, rfl⟩) _ (List.mem_map.mpr ⟨a, List.mem_cons_self, rfl⟩)
    cases h : fr.find? (fun p => hasB (s p) (f a)) with
    | none =>
      right
      refine ⟨⟨a, List.mem_cons_self, by unfold go; rw [h]; exact List.mem_cons_self⟩, ?_⟩
      obtain ⟨S, h1, h2⟩ := inv_fail v hm (fun i j e g hij hi hj => by
        rcases Nat.lt_or_eq_of_le hij with z | z
        · have hjl := (List.getElem?_eq_some_iff.mp hj).1
          have p := List.pairwise_iff_getElem.mp srt2.1 i j (by rw [List.length_map]; omega) (by rw [List.length_map]; omega) z
          rw [List.getElem_map, List.getElem_map] at p
          rw [(List.getElem?_eq_some_iff.mp hi).2, (List.getElem?_eq_some_iff.mp hj).2] at p
          exact p
        · subst z
          rw [hi] at hj
          rw [Option.some.inj hj]
          exact Int.le_refl _) hlow h
      have ndl := List.nodup_append.mp nd
      refine crowded (hL a List.mem_cons_self) hd ndl.1 (fun z => ndl.2.2 a z a List.mem_cons_self rfl) S fun q hq k => ?_
      obtain ⟨e, he, e2⟩ := h2 q hq (by
        rcases k with k | ⟨e, he, c⟩
        · exact .inl k
        · exact .inr ⟨e, he.1, c⟩)
      exact ⟨e, ⟨he, h1 e he⟩, e2⟩
    | some p =>
      have v2 := inv_step v h
      have ih := go_or hm L (fr.erase p) (d ++ [(a, p)]) v2 (fun b hb => hL b (List.mem_cons_of_mem _ hb)) (fun e he => by
        rcases List.mem_append.mp he with z | z
        · exact hd e z
        · rw [List.mem_singleton.mp z]; exact hL a List.mem_cons_self) (by simpa using nd) (by simpa using srt)
      rcases ih with ⟨d3, fr2, v3, e1, e2⟩ | ⟨⟨b, hb, k⟩, V, hV⟩
      · refine .inl ⟨(a, p) :: d3, fr2, by simpa using v3, by rw [List.map_cons, e1], ?_⟩
        unfold go
        rw [h]
        show (a, some p) :: go f s L (fr.erase p) = _
        rw [e2]
        rfl
      · refine .inr ⟨⟨b, List.mem_cons_of_mem _ hb, ?_⟩, V, hV⟩
        unfold go
        rw [h]
        exact List.mem_cons_of_mem _ k
end K55c

set_option pp.maxSteps 900
/-! never_more, matching -/
namespace P5N
open PySem PySem.Spec PyProof.Rows L2 KA KD PH PM RM RN K55 K55b K55c K55d P5P
abbrev sNM : Stmt := topS 19
theorem scNM : FnScope ["first", "second"] ["first", "second"] (defScope sNM) := ⟨rfl, rfl, rfl, by decide +kernel, rfl, by decide +kernel, by decide +kernel⟩
/-- each range of the first list has a place of its own around it in the second -/
def NM (rs ss : List (Int × Int)) : Prop := ∃ o : Nat → Nat, (∀ i, i < rs.length → o i < ss.length) ∧ (∀ i, i < rs.length → cont (at0 ss (o i)) (at0 rs i)) ∧ ∀ i j, i < rs.length → j < rs.length → o i = o j → i = j
noncomputable def nm (rs ss : List (Int × Int)) : Bool := @decide (NM rs ss) (Classical.propDecidable _)
theorem nm_iff {rs ss : List (Int × Int)} : nm rs ss = true ↔ NM rs ss := by unfold nm; exact @decide_eq_true_iff _ (Classical.propDecidable _)
/-- places of its own for each, as a list -/
def Mt (rs ss : List (Int × Int)) (ps : List Int) : Prop := ps.length = rs.length ∧ ps.Nodup ∧ ∀ i, i < rs.length → ∃ p : Nat, ps[i]? = some (p : Int) ∧ p < ss.length ∧ cont (at0 ss p) (at0 rs i)
theorem go_keys {f s : Nat → Rg} : ∀ (L fr : List Nat), (go f s L fr).map (·.1) = L
  | [], _ => rfl
  | a :: L, fr => by
    simp only [go]
    split
    · rw [List.map_cons, go_keys L fr]
    · rw [List.map_cons, go_keys L _]
theorem look_nodup : ∀ {l : List (Nat × Option Nat)} {a : Nat} {x : Option Nat}, (a, x) ∈ l → (l.map (·.1)).Nodup → l.lookup a = some x
  | (b, y) :: l, a, x, m, nd => by
    have nd2 := List.nodup_cons.mp nd
    rw [List.lookup_cons]
    rcases List.mem_cons.mp m with z | z
    · cases z
      simp
    · have : (a == b) = false := by
        have : a ≠ b := fun e => nd2.1 (by rw [← e]; exact List.mem_map.mpr ⟨_, z, rfl⟩)
        simpa using this
      rw [this]
      exact look_nodup z nd2.2
theorem res_flat (d : List (Nat × Option Nat)) (n : Nat) : (res d n).all flatV = true := by
  unfold res
  rw [List.all_map]
  refine List.all_eq_true.mpr fun i _ => ?_
  show flatV (match d.lookup i with | some (some p) => V.int (p : Int) | _ => V.non) = true
  split <;> rfl
theorem snd_inj : ∀ {d : List (Nat × Nat)} {e g : Nat × Nat}, (d.map (·.2)).Nodup → e ∈ d → g ∈ d → e.2 = g.2 → e = g
  | x :: d, e, g, nd, he, hg, h => by
    have nd2 := List.nodup_cons.mp nd
    rcases List.mem_cons.mp he with z | z <;> rcases List.mem_cons.mp hg with y | y
    · rw [z, y]
    · exact absurd (List.mem_map.mpr ⟨g, y, by rw [← h, z]⟩) nd2.1
    · exact absurd (List.mem_map.mpr ⟨e, z, by rw [h, y]⟩) nd2.1
    · exact snd_inj nd2.2 z y h
section
variable {rs ss : List (Int × Int)} {L fr0 : List Nat}
theorem two (pL : L.Perm (List.range rs.length)) (oL : L.Pairwise (ordL rs)) (pf : fr0.Perm (List.range ss.length)) (sf : (fr0.map (K55d.pr (at0 ss))).Pairwise Le) :
    (∃ o : Nat → Nat, res (go (at0 rs) (at0 ss) L fr0) rs.length = (List.range rs.length).map (fun i => V.int (o i : Nat)) ∧ (∀ i, i < rs.length → o i < ss.length) ∧ (∀ i, i < rs.length → cont (at0 ss (o i)) (at0 rs i)) ∧ ∀ i j, i < rs.length → j < rs.length → o i = o j → i = j) ∨
    (V.non ∈ res (go (at0 rs) (at0 ss) L fr0) rs.length ∧ ¬ NM rs ss) := by
  have nd0 : fr0.Nodup := pf.nodup_iff.mpr List.nodup_range
  have ndL : L.Nodup := pL.nodup_iff.mpr List.nodup_range
  have hm : ∀ q, q ∈ fr0 ↔ q < ss.length := fun q => by rw [pf.mem_iff, List.mem_range]
  have hL : ∀ a ∈ L, a < rs.length := fun a m => List.mem_range.mp (pL.mem_iff.mp m)
  have srt : fr0.Pairwise fun p q => (at0 ss p).2 ≤ (at0 ss q).2 := (List.pairwise_map.mp sf).imp fun {x y} h => by
    simp only [Le, K55d.pr] at h
    omega
  have v0 : Inv (at0 rs) (at0 ss) fr0 [] fr0 := ⟨fun q => ⟨fun h => ⟨h, fun _ z => (List.not_mem_nil z).elim⟩, fun h => h.1⟩, nd0, srt, fun _ z => (List.not_mem_nil z).elim, List.nodup_nil, fun i e q h => by simp at h⟩
  rcases go_or hm L fr0 [] v0 hL (fun _ z => (List.not_mem_nil z).elim) (by simpa using ndL) (by simpa using (List.pairwise_map.mpr (oL.imp fun {x y} h => ord_low h))) with ⟨d3, fr2, iv, hk, hg⟩ | ⟨⟨a, ha, hn⟩, V0, hV, hVi, hlt⟩
  · left
    have iv : Inv (at0 rs) (at0 ss) fr0 d3 fr2 := by simpa using iv
    have keys : ∀ i, i < rs.length → ∃ p, (i, p) ∈ d3 := fun i hi => by
      have : i ∈ L := pL.mem_iff.mpr (List.mem_range.mpr hi)
      rw [← hk] at this
      obtain ⟨e, he, rfl⟩ := List.mem_map.mp this
      exact ⟨e.2, he⟩
    have look : ∀ i p, (i, p) ∈ d3 → (go (at0 rs) (at0 ss) L fr0).lookup i = some (some p) := fun i p m => look_nodup (by rw [hg]; exact List.mem_map.mpr ⟨(i, p), m, rfl⟩) (by rw [go_keys]; exact ndL)
    refine ⟨fun i => match (go (at0 rs) (at0 ss) L fr0).lookup i with | some (some p) => p | _ => 0, ?_, fun i hi => ?_, fun i hi => ?_, fun i j hi hj h => ?_⟩
    · unfold res
      refine List.map_congr_left fun i hi => ?_
      obtain ⟨p, m⟩ := keys i (List.mem_range.mp hi)
      rw [look i p m]
      show V.int (p : Int) = V.int (((match (go (at0 rs) (at0 ss) L fr0).lookup i with | some (some p) => p | _ => 0 : Nat)) : Int)
      rw [look i p m]
    · obtain ⟨p, m⟩ := keys i hi
      show (match (go (at0 rs) (at0 ss) L fr0).lookup i with | some (some p) => p | _ => 0) < _
      rw [look i p m]
      exact (hm p).mp (iv.mem _ m).1
    · obtain ⟨p, m⟩ := keys i hi
      show cont (at0 ss (match (go (at0 rs) (at0 ss) L fr0).lookup i with | some (some p) => p | _ => 0)) _
      rw [look i p m]
      exact (iv.mem _ m).2
    · obtain ⟨p, m⟩ := keys i hi
      obtain ⟨q, m2⟩ := keys j hj
      have h : (match (go (at0 rs) (at0 ss) L fr0).lookup i with | some (some p) => p | _ => 0) = (match (go (at0 rs) (at0 ss) L fr0).lookup j with | some (some p) => p | _ => 0) := h
      rw [look i p m, look j q m2] at h
      exact congrArg Prod.fst (snd_inj iv.inj m m2 h)
  · right
    refine ⟨?_, fun ⟨o, h1, h2, h3⟩ => absurd (matched h1 h2 h3 V0) (by omega)⟩
    unfold res
    refine List.mem_map.mpr ⟨a, List.mem_range.mpr (hL a ha), ?_⟩
    rw [look_nodup hn (by rw [go_keys]; exact ndL)]
theorem inv_non : ∀ {xs : List V}, inV .non xs = true ↔ V.non ∈ xs
  | [] => by simp [inV]
  | x :: xs => by
    have ih := inv_non (xs := xs)
    unfold inV at ih ⊢
    rw [List.any_cons, Bool.or_eq_true, ih, List.mem_cons]
    refine or_congr ⟨fun h => ?_, fun h => by rw [← h]; rfl⟩ Iff.rfl
    cases x with
    | non => rfl
    | _ => cases h
theorem best_says (pL : L.Perm (List.range rs.length)) (oL : L.Pairwise (ordL rs)) (pf : fr0.Perm (List.range ss.length)) (sf : (fr0.map (K55d.pr (at0 ss))).Pairwise Le) :
    (res (go (at0 rs) (at0 ss) L fr0) rs.length).all flatV = true ∧ (!inV .non (res (go (at0 rs) (at0 ss) L fr0) rs.length)) = nm rs ss := by
  refine ⟨res_flat _ _, ?_⟩
  rcases two pL oL pf sf with ⟨o, e, h⟩ | ⟨h1, h2⟩
  · have : nm rs ss = true := nm_iff.mpr ⟨o, h⟩
    rw [this]
    cases hn : inV .non (res (go (at0 rs) (at0 ss) L fr0) rs.length) with
    | false => rfl
    | true =>
      have m := inv_non.mp hn
      rw [e] at m
      obtain ⟨i, _, z⟩ := List.mem_map.mp m
      cases z
  · rw [inv_non.mpr h1]
    cases hn : nm rs ss with
    | false => rfl
    | true => exact absurd (nm_iff.mp hn) h2
theorem best_all (pL : L.Perm (List.range rs.length)) (oL : L.Pairwise (ordL rs)) (pf : fr0.Perm (List.range ss.length)) (sf : (fr0.map (K55d.pr (at0 ss))).Pairwise Le) (hn : nm rs ss = true) :
    ∃ ps : List Int, res (go (at0 rs) (at0 ss) L fr0) rs.length = ps.map V.int ∧ Mt rs ss ps := by
  rcases two pL oL pf sf with ⟨o, e, h1, h2, h3⟩ | ⟨_, h2⟩
  · refine ⟨(List.range rs.length).map fun i => ((o i : Nat) : Int), by rw [e, List.map_map]; rfl, by rw [List.length_map, List.length_range], ?_, fun i hi => ⟨o i, by rw [List.getElem?_map, List.getElem?_range hi]; rfl, h1 i hi, h2 i hi⟩⟩
    rw [List.Nodup, List.pairwise_map]
    refine List.Pairwise.imp_of_mem (fun {i j} hi hj ne z => ?_) List.nodup_range
    exact ne (h3 i j (List.mem_range.mp hi) (List.mem_range.mp hj) (by omega))
  · exact absurd (nm_iff.mp hn) h2
end
section
variable {P : Program} {w : World} {K : PySem.W.Frag} {mg : Str → Option Value} {base : Heap}
def spNM (K : PySem.W.Frag) : Sp := fun vs H Q _ => ∃ (a b : Addr) (xs ys : List V) (rs ss : List (Int × Int)), vs = [.ref a, .ref b] ∧ Sq K H a xs ∧ PairsAt H xs rs ∧ Sq K H b ys ∧ PairsAt H ys ss ∧ rs.length ≤ 500 ∧ ss.length ≤ 500 ∧
  ∀ H', Same H H' → Q (.bl (nm rs ss)) H'
theorem ok_NM {f fBP : Addr} {fd dBP : FuncData} {k : Nat} (F : Fun K "never_more" "never_more" sNM f fd) (GBP : FnOk P w K mg base CX0 (k + 3) fBP dBP ["first", "second"] (spBP K)) (gBP : mg "_best_places" = some (.ref fBP)) (kBP : PySem.W.keepIn K (.ref fBP) = true) (bBP : Binds K dBP ["first", "second"] []) : FnOk P w K mg base CX0 (k + 4) f fd ["first", "second"] (spNM K) := by
  refine F.ok scNM (fun vs H Q E h => ?_) (fun cdv A outer s H vs Q E hr h => ?_)
  · obtain ⟨a, b, xs, ys, rs, ss, rfl, _⟩ := h
    rfl
  · obtain ⟨a, b, xs, ys, rs, ss, rfl, hA, pa, hB, pb, la, lb, hq⟩ := h
    refine ⟨_, (pss_one (ps_ret (pe_cmpR op_notIn_seq pe_non (pe_call GBP hr (by rfl) gBP kBP bBP .nil pass0 (pa_cons (pv 0) (pa_cons (pv 1) pa_nil))) (by rfl)))), ?_⟩
    refine ⟨.ref a, rfl, .ref b, rfl, a, b, xs, ys, rs, ss, rfl, hA, pa, hB, pb, la, lb, fun H' c L fr0 s nc hc pL oL pf sf => ?_⟩
    obtain ⟨e1, e2⟩ := best_says pL oL pf sf
    refine ⟨c, _, rfl, .inl (SqL.of hc), rfl, e1, ?_⟩
    show Q (V.bl (!inV .non _)) H'
    rw [e2]
    exact hq H' s
end
end P5N

/-! never more: by sets, by sizes, both ways; words of loads -/
namespace K57
open K55 K55b K55c RC RE RM RN KM
def at1 (rs : List (Int × Int)) (i : Nat) : Int × Int := (rs[i]?).getD (0, 0)
def NMm (rs ss : List (Int × Int)) : Prop := ∃ o : Nat → Nat, (∀ i, i < rs.length → o i < ss.length) ∧ (∀ i, i < rs.length → cont (at1 ss (o i)) (at1 rs i)) ∧ ∀ i j, i < rs.length → j < rs.length → o i = o j → i = j
theorem map_at1 (rs : List (Int × Int)) : (List.range rs.length).map (at1 rs) = rs := by
  apply List.ext_getElem?
  intro i
  rw [List.getElem?_map]
  by_cases h : i < rs.length
  · rw [List.getElem?_range h]
    show some (at1 rs i) = _
    unfold at1
    rw [List.getElem?_eq_getElem h]
    rfl
  · rw [List.getElem?_eq_none (by rw [List.length_range]; omega), List.getElem?_eq_none (by omega)]
    rfl
theorem at1_mem {rs : List (Int × Int)} {i : Nat} (h : i < rs.length) : at1 rs i ∈ rs := by
  unfold at1
  rw [List.getElem?_eq_getElem h]
  exact List.getElem_mem h
theorem countP_at1 (p : Int × Int → Bool) (rs : List (Int × Int)) : ((List.range rs.length).filter fun i => p (at1 rs i)).length = rs.countP p := by
  conv => rhs; rw [← map_at1 rs]
  rw [List.countP_map, List.countP_eq_length_filter]
  rfl
def UpP (p : Int × Int → Bool) : Prop := ∀ o r, cont o r → p r = true → p o = true
theorem plcs_up {p : Int × Int → Bool} (up : UpP p) (V rs : List (Int × Int)) (hV : ∀ v, v ∈ V → p v = true) : (plcs (at1 rs) rs.length V).length ≤ rs.countP p := by
  rw [← countP_at1 p rs]
  unfold plcs
  rw [← List.countP_eq_length_filter, ← List.countP_eq_length_filter]
  refine List.countP_mono_left fun i hi h => ?_
  obtain ⟨v, hv, hc⟩ := List.any_eq_true.mp h
  exact up _ _ (hasB_iff.mp hc) (hV v hv)
theorem plcs_ge (p : Int × Int → Bool) (rs : List (Int × Int)) : rs.countP p ≤ (plcs (at1 rs) rs.length (rs.filter p)).length := by
  rw [← countP_at1 p rs]
  unfold plcs
  rw [← List.countP_eq_length_filter, ← List.countP_eq_length_filter]
  refine List.countP_mono_left fun i hi h => ?_
  exact List.any_eq_true.mpr ⟨at1 rs i, List.mem_filter.mpr ⟨at1_mem (List.mem_range.mp hi), h⟩, hasB_iff.mpr (cont_refl _)⟩
theorem nm_le {p : Int × Int → Bool} (up : UpP p) {rs ss : List (Int × Int)} (h : NMm rs ss) : rs.countP p ≤ ss.countP p := by
  obtain ⟨o, h1, h2, h3⟩ := h
  have a := plcs_ge p rs
  have b := matched h1 h2 h3 (rs.filter p)
  have c := plcs_up up (rs.filter p) ss fun v hv => (List.mem_filter.mp hv).2
  omega
/-- around one of V -/
def ard (V : List (Int × Int)) (r : Int × Int) : Bool := V.any (hasB r)
theorem ard_up (V : List (Int × Int)) : UpP (ard V) := fun o r h g => by
  obtain ⟨v, hv, hc⟩ := List.any_eq_true.mp g
  exact List.any_eq_true.mpr ⟨v, hv, hasB_iff.mpr (cont_trans h (hasB_iff.mp hc))⟩
theorem ard_plcs (V rs : List (Int × Int)) : (plcs (at1 rs) rs.length V).length = rs.countP (ard V) := countP_at1 (ard V) rs
theorem srt_ex (n : Nat) (key : Nat → Int) : ∃ L : List Nat, L.Perm (List.range n) ∧ (L.map key).Pairwise (· ≤ ·) := by
  refine ⟨(List.range n).mergeSort (fun a b => decide (key a ≤ key b)), List.mergeSort_perm _ _, ?_⟩
  rw [List.pairwise_map]
  refine (List.pairwise_mergeSort (le := fun a b => decide (key a ≤ key b)) (fun a b c h1 h2 => ?_) (fun a b => ?_) _).imp fun h => of_decide_eq_true h
  · have := of_decide_eq_true h1
    have := of_decide_eq_true h2
    exact decide_eq_true (by omega)
  · by_cases h : key a ≤ key b
    · rw [decide_eq_true h]; rfl
    · rw [decide_eq_true (show key b ≤ key a by omega), Bool.or_true]
theorem snd_inj : ∀ {d : List (Nat × Nat)} {e g : Nat × Nat}, (d.map (·.2)).Nodup → e ∈ d → g ∈ d → e.2 = g.2 → e = g
  | x :: d, e, g, nd, he, hg, h => by
    have nd2 := List.nodup_cons.mp nd
    rcases List.mem_cons.mp he with z | z <;> rcases List.mem_cons.mp hg with y | y
    · rw [z, y]
    · exact absurd (List.mem_map.mpr ⟨g, y, by rw [← h, z]⟩) nd2.1
    · exact absurd (List.mem_map.mpr ⟨e, z, by rw [h, y]⟩) nd2.1
    · exact snd_inj nd2.2 z y h
/-- never more, by sets of the first list's ranges -/
theorem nm_sets {rs ss : List (Int × Int)} : NMm rs ss ↔ ∀ V : List (Int × Int), (∀ v ∈ V, v ∈ rs) → rs.countP (ard V) ≤ ss.countP (ard V) := by
  constructor
  · intro h V _
    exact nm_le (ard_up V) h
  · intro hs
    obtain ⟨L, pL, sL⟩ := srt_ex rs.length fun i => (at1 rs i).1
    obtain ⟨fr0, pf, sf⟩ := srt_ex ss.length fun i => (at1 ss i).2
    have nd0 : fr0.Nodup := pf.nodup_iff.mpr List.nodup_range
    have ndL : L.Nodup := pL.nodup_iff.mpr List.nodup_range
    have hm : ∀ q, q ∈ fr0 ↔ q < ss.length := fun q => by rw [pf.mem_iff, List.mem_range]
    have hL : ∀ a ∈ L, a < rs.length := fun a m => List.mem_range.mp (pL.mem_iff.mp m)
    have v0 : Inv (at1 rs) (at1 ss) fr0 [] fr0 := ⟨fun q => ⟨fun h => ⟨h, fun _ z => (List.not_mem_nil z).elim⟩, fun h => h.1⟩, nd0, List.pairwise_map.mp sf, fun _ z => (List.not_mem_nil z).elim, List.nodup_nil, fun i e q h => by simp at h⟩
    rcases go_or hm L fr0 [] v0 hL (fun _ z => (List.not_mem_nil z).elim) (by simpa using ndL) (by simpa using sL) with ⟨d3, fr2, iv, hk, hg⟩ | ⟨_, V0, hV, hVi, hlt⟩
    · have iv : Inv (at1 rs) (at1 ss) fr0 d3 fr2 := by simpa using iv
      have keys : ∀ i, i < rs.length → ∃ p, (i, p) ∈ d3 := fun i hi => by
        have : i ∈ L := pL.mem_iff.mpr (List.mem_range.mpr hi)
        rw [← hk] at this
        obtain ⟨e, he, rfl⟩ := List.mem_map.mp this
        exact ⟨e.2, he⟩
      obtain ⟨o, ho⟩ := Classical.axiomOfChoice (r := fun (i p : Nat) => i < rs.length → (i, p) ∈ d3) fun i => by
        by_cases hi : i < rs.length
        · obtain ⟨p, hp⟩ := keys i hi
          exact ⟨p, fun _ => hp⟩
        · exact ⟨0, fun z => absurd z hi⟩
      exact ⟨o, fun i hi => (hm _).mp (iv.mem _ (ho i hi)).1, fun i hi => (iv.mem _ (ho i hi)).2, fun i j hi hj h => congrArg Prod.fst (snd_inj iv.inj (ho i hi) (ho j hj) h)⟩
    · have := hs V0 fun v hv => by
        obtain ⟨i, hi, rfl⟩ := hVi v hv
        exact at1_mem hi
      rw [ard_plcs, ard_plcs] at hlt
      omega
theorem count_both {rs ss : List (Int × Int)} (h : NMm rs ss) (g : NMm ss rs) : rs.Perm ss := by
  have e : ∀ lo hi : Int, nh lo hi rs = nh lo hi ss := fun lo hi => by
    have up : UpP (hl lo hi) := fun o r c z => by
      simp only [hl, Bool.and_eq_true, decide_eq_true_eq] at z ⊢
      unfold cont at c
      omega
    have a := nm_le up h
    have b := nm_le up g
    show rs.countP (hl lo hi) = ss.countP (hl lo hi)
    omega
  refine List.perm_iff_count.mpr fun r => ?_
  obtain ⟨lo, hi⟩ := r
  have j1 := just (lo := lo) (hi := hi) rs
  have j2 := just (lo := lo) (hi := hi) ss
  rw [e, e, e, e] at j1
  omega
/-- ranges of the size s or more -/
def szB (s : Int) (r : Int × Int) : Bool := decide (s ≤ r.2 - r.1)
theorem sz_up (s : Int) : UpP (szB s) := fun o r c z => by
  simp only [szB, decide_eq_true_eq] at z ⊢
  unfold cont at c
  omega
end K57

/-! sizes; words of loads -/
namespace K57
open K55 K55b K55c RC RE RM RN KM PM
def cntS (rs : List (Int × Int)) (s : Int) : Nat := rs.countP (szB s)
def PS (rs ss : List (Int × Int)) (s : Int) : Prop := cntS ss s < cntS rs s
/-- the greatest size with more -/
def IsSz (rs ss : List (Int × Int)) : Option Int → Prop
  | none => ∀ s, ¬ PS rs ss s
  | some s => PS rs ss s ∧ ∀ t, s < t → ¬ PS rs ss t
theorem isSz_one {rs ss : List (Int × Int)} {o p : Option Int} (h : IsSz rs ss o) (g : IsSz rs ss p) : o = p := by
  cases o with
  | none =>
    cases p with
    | none => rfl
    | some s => exact absurd g.1 (h s)
  | some s =>
    cases p with
    | none => exact absurd h.1 (g s)
    | some t =>
      rcases Int.lt_trichotomy s t with z | z | z
      · exact absurd g.1 (h.2 t z)
      · rw [z]
      · exact absurd h.1 (g.2 s z)
theorem nm_sz {rs ss : List (Int × Int)} (h : NMm rs ss) : IsSz rs ss none := fun s z => by
  have := nm_le (sz_up s) h
  unfold PS cntS at z
  omega
def szs (rs : List (Int × Int)) : List Int := rs.map fun r => r.2 - r.1
theorem cntS_szs (rs : List (Int × Int)) (s : Int) : cntS rs s = (szs rs).countP fun x => decide (s ≤ x) := by
  unfold cntS szs
  rw [List.countP_map]
  rfl
theorem desc_iff : ∀ {A : List Int} {i : Nat} {x t : Int}, A.Pairwise (fun x y => y ≤ x) → A[i]? = some x → (t ≤ x ↔ i < A.countP fun y => decide (t ≤ y))
  | a :: A, 0, x, t, h, e => by
    obtain rfl : a = x := by simpa using e
    rw [List.countP_cons]
    constructor
    · intro z
      rw [if_pos (decide_eq_true z)]
      omega
    · intro z
      by_cases q : t ≤ a
      · exact q
      · rw [if_neg (by simpa using q)] at z
        have : 0 < A.countP fun y => decide (t ≤ y) := by omega
        obtain ⟨y, hy, hq⟩ := List.countP_pos_iff.mp this
        have := (List.pairwise_cons.mp h).1 y hy
        have := of_decide_eq_true hq
        omega
  | a :: A, i + 1, x, t, h, e => by
    have h2 := List.pairwise_cons.mp h
    have e2 : A[i]? = some x := by simpa using e
    have ih := desc_iff (t := t) h2.2 e2
    have hx := h2.1 x (List.mem_of_getElem? e2)
    rw [List.countP_cons]
    by_cases q : t ≤ a
    · rw [if_pos (decide_eq_true q)]
      omega
    · rw [if_neg (by simpa using q)]
      omega
theorem cnt_le {A : List Int} (t : Int) : (A.countP fun y => decide (t ≤ y)) ≤ A.length := List.countP_le_length
/-- the first place at which the sorted sizes of the first list are more -/
theorem sz_stop {rs ss : List (Int × Int)} {A B : List Int} {i : Nat} {x : Int} (pA : A.Perm (szs rs)) (sA : A.Pairwise fun x y => y ≤ x) (pB : B.Perm (szs ss)) (sB : B.Pairwise fun x y => y ≤ x)
    (hb : ∀ j, j < i → ∃ a b, A[j]? = some a ∧ B[j]? = some b ∧ a ≤ b) (hi : A[i]? = some x) (hs : B.length ≤ i ∨ ∃ b, B[i]? = some b ∧ b < x) : IsSz rs ss (some x) := by
  have cA : ∀ s, cntS rs s = A.countP fun y => decide (s ≤ y) := fun s => by rw [cntS_szs, pA.countP_eq]
  have cB : ∀ s, cntS ss s = B.countP fun y => decide (s ≤ y) := fun s => by rw [cntS_szs, pB.countP_eq]
  constructor
  · unfold PS
    rw [cA, cB]
    have h1 := (desc_iff (t := x) sA hi).mp (Int.le_refl x)
    rcases hs with hs | ⟨b, hb2, hlt⟩
    · have := cnt_le (A := B) x
      omega
    · have h2 := (desc_iff (t := x) sB hb2)
      by_cases z : i < B.countP fun y => decide (x ≤ y)
      · have := h2.mpr z
        omega
      · omega
  · intro t ht z
    unfold PS at z
    rw [cA, cB] at z
    have h1 : ¬ i < A.countP fun y => decide (t ≤ y) := fun q => by
      have := (desc_iff (t := t) sA hi).mpr q
      omega
    obtain ⟨j, hj⟩ : ∃ j, j = (A.countP fun y => decide (t ≤ y)) - 1 := ⟨_, rfl⟩
    have hj2 : j < A.countP fun y => decide (t ≤ y) := by omega
    obtain ⟨a, b, ea, eb, hab⟩ := hb j (by omega)
    have h3 := (desc_iff (t := t) sA ea).mpr hj2
    have h4 := (desc_iff (t := t) sB eb).mp (by omega)
    omega
theorem sz_none {rs ss : List (Int × Int)} {A B : List Int} (pA : A.Perm (szs rs)) (sA : A.Pairwise fun x y => y ≤ x) (pB : B.Perm (szs ss)) (sB : B.Pairwise fun x y => y ≤ x)
    (hb : ∀ j, j < A.length → ∃ a b, A[j]? = some a ∧ B[j]? = some b ∧ a ≤ b) : IsSz rs ss none := fun t z => by
  unfold PS at z
  rw [cntS_szs, cntS_szs, ← pA.countP_eq, ← pB.countP_eq] at z
  have l := cnt_le (A := A) t
  obtain ⟨j, hj⟩ : ∃ j, j = (A.countP fun y => decide (t ≤ y)) - 1 := ⟨_, rfl⟩
  have hj2 : j < A.countP fun y => decide (t ≤ y) := by omega
  obtain ⟨a, b, ea, eb, hab⟩ := hb j (by omega)
  have h3 := (desc_iff (t := t) sA ea).mpr hj2
  have h4 := (desc_iff (t := t) sB eb).mp (by omega)
  omega
/-- counted from 1 to n -/
def upto (rs ss : List (Int × Int)) : Nat → Option Int
  | 0 => none
  | n + 1 => if cntS ss ((n : Int) + 1) < cntS rs ((n : Int) + 1) then some ((n : Int) + 1) else upto rs ss n
theorem upto_says {rs ss : List (Int × Int)} : ∀ n : Nat, match upto rs ss n with
    | none => ∀ s : Int, 1 ≤ s → s ≤ n → ¬ PS rs ss s
    | some s => 1 ≤ s ∧ s ≤ n ∧ PS rs ss s ∧ ∀ t : Int, s < t → t ≤ n → ¬ PS rs ss t
  | 0 => fun s h1 h2 => absurd h1 (by omega)
  | n + 1 => by
    have ih := upto_says (rs := rs) (ss := ss) n
    unfold upto
    by_cases z : cntS ss ((n : Int) + 1) < cntS rs ((n : Int) + 1)
    · rw [if_pos z]
      exact ⟨by omega, by omega, z, fun t h1 h2 => absurd h1 (by omega)⟩
    · rw [if_neg z]
      cases e : upto rs ss n with
      | none =>
        rw [e] at ih
        intro s h1 h2
        by_cases q : s ≤ n
        · exact ih s h1 q
        · have : s = (n : Int) + 1 := by omega
          rw [this]
          exact z
      | some s =>
        rw [e] at ih
        obtain ⟨i1, i2, i3, i4⟩ := ih
        refine ⟨i1, by omega, i3, fun t h1 h2 => ?_⟩
        by_cases q : t ≤ n
        · exact i4 t h1 q
        · have : t = (n : Int) + 1 := by omega
          rw [this]
          exact z
theorem upto_sz {rs ss : List (Int × Int)} {n : Nat} (h1 : ∀ r ∈ rs, 1 ≤ r.2 - r.1 ∧ r.2 - r.1 ≤ n) (h2 : ∀ r ∈ ss, 1 ≤ r.2 - r.1) : IsSz rs ss (upto rs ss n) := by
  have u := upto_says (rs := rs) (ss := ss) n
  have big : ∀ t : Int, n < t → ¬ PS rs ss t := fun t ht z => by
    have : 0 < cntS rs t := by unfold PS at z; omega
    obtain ⟨r, hr, hq⟩ := List.countP_pos_iff.mp this
    have := h1 r hr
    have := of_decide_eq_true hq
    omega
  cases e : upto rs ss n with
  | none =>
    rw [e] at u
    intro s z
    by_cases q : 1 ≤ s
    · by_cases q2 : s ≤ n
      · exact u s q q2 z
      · exact big s (by omega) z
    · have all : ∀ l : List (Int × Int), (∀ r ∈ l, 1 ≤ r.2 - r.1) → ∀ t : Int, t ≤ 1 → cntS l t = l.length := fun l hl t ht => List.countP_eq_length.mpr fun r hr => by
        have := hl r hr
        exact decide_eq_true (by omega)
      unfold PS at z
      rw [all rs (fun r hr => (h1 r hr).1) s (by omega), all ss h2 s (by omega)] at z
      have hn : 1 ≤ (n : Int) := by
        have : 0 < rs.length := by omega
        obtain ⟨r, hr⟩ := List.exists_mem_of_length_pos this
        have := h1 r hr
        omega
      refine u 1 (by omega) hn ?_
      unfold PS
      rw [all rs (fun r hr => (h1 r hr).1) 1 (by omega), all ss h2 1 (by omega)]
      exact z
  | some s =>
    rw [e] at u
    obtain ⟨i1, i2, i3, i4⟩ := u
    refine ⟨i3, fun t ht => ?_⟩
    by_cases q2 : t ≤ n
    · exact i4 t ht q2
    · exact big t (by omega)
/-- stretched: sizes too -/
def scl (far step : Int) (r : Int × Int) : Int × Int := (r.1 * step + far, r.2 * step + far)
theorem cnt_scl {step : Int} (h : 0 < step) (t : Int) : ∃ c : Int, (∀ z : Int, t ≤ z * step ↔ c ≤ z) ∧ ∀ (far : Int) (rs : List (Int × Int)), cntS (rs.map (scl far step)) t = cntS rs c := by
  refine ⟨-((-t) / step), fun z => ?_, fun far rs => ?_⟩
  · have d1 := Int.mul_ediv_add_emod (-t) step
    have d2 := Int.emod_nonneg (-t) (show step ≠ 0 by omega)
    have d3 := Int.emod_lt_of_pos (-t) h
    generalize (-t) / step = q at *
    generalize (-t) % step = m at *
    constructor
    · intro e
      by_cases g : -q ≤ z
      · exact g
      · have : z + q + 1 ≤ 0 := by omega
        have : step * (z + q + 1) ≤ 0 := by
          have := Int.mul_le_mul_of_nonneg_left this (show 0 ≤ step by omega)
          simpa using this
        have e1 : step * (z + q + 1) = z * step + step * q + step := by rw [Int.mul_add, Int.mul_add, Int.mul_one, Int.mul_comm step z]
        omega
    · intro e
      have : 0 ≤ step * (z + q) := Int.mul_nonneg (by omega) (by omega)
      have e1 : step * (z + q) = z * step + step * q := by rw [Int.mul_add, Int.mul_comm step z]
      omega
  · unfold cntS
    rw [List.countP_map]
    refine List.countP_congr fun r _ => ?_
    have key : ∀ z : Int, t ≤ z * step ↔ -((-t) / step) ≤ z := fun z => by
      have d1 := Int.mul_ediv_add_emod (-t) step
      have d2 := Int.emod_nonneg (-t) (show step ≠ 0 by omega)
      have d3 := Int.emod_lt_of_pos (-t) h
      generalize (-t) / step = q at *
      generalize (-t) % step = m at *
      constructor
      · intro e
        by_cases g : -q ≤ z
        · exact g
        · have : z + q + 1 ≤ 0 := by omega
          have : step * (z + q + 1) ≤ 0 := by
            have := Int.mul_le_mul_of_nonneg_left this (show 0 ≤ step by omega)
            simpa using this
          have e1 : step * (z + q + 1) = z * step + step * q + step := by rw [Int.mul_add, Int.mul_add, Int.mul_one, Int.mul_comm step z]
          omega
      · intro e
        have : 0 ≤ step * (z + q) := Int.mul_nonneg (by omega) (by omega)
        have e1 : step * (z + q) = z * step + step * q := by rw [Int.mul_add, Int.mul_comm step z]
        omega
    show (szB t (scl far step r)) = true ↔ (szB (-((-t) / step)) r) = true
    unfold szB scl
    rw [decide_eq_true_iff, decide_eq_true_iff]
    have e : r.2 * step + far - (r.1 * step + far) = (r.2 - r.1) * step := by rw [Int.sub_mul]; omega
    show t ≤ r.2 * step + far - (r.1 * step + far) ↔ _
    rw [e]
    exact key _
theorem isSz_scl {rs ss : List (Int × Int)} {o : Option Int} {step far far2 : Int} (h : 0 < step) (g : IsSz rs ss o) : IsSz (rs.map (scl far step)) (ss.map (scl far2 step)) (o.map (· * step)) := by
  have ps : ∀ t, ∃ c : Int, (∀ z : Int, t ≤ z * step ↔ c ≤ z) ∧ (PS (rs.map (scl far step)) (ss.map (scl far2 step)) t ↔ PS rs ss c) := fun t => by
    obtain ⟨c, h1, h2⟩ := cnt_scl h t
    refine ⟨c, h1, ?_⟩
    unfold PS
    rw [h2, h2]
  cases o with
  | none =>
    intro t z
    obtain ⟨c, _, h2⟩ := ps t
    exact g c (h2.mp z)
  | some s =>
    constructor
    · show PS _ _ (s * step)
      obtain ⟨c, h1, h2⟩ := ps (s * step)
      rw [h2]
      have c1 : c ≤ s := (h1 s).mp (Int.le_refl _)
      have c2 : ¬ c ≤ s - 1 := fun z => by
        have := (h1 (s - 1)).mpr z
        rw [Int.sub_mul, Int.one_mul] at this
        omega
      have : c = s := by omega
      rw [this]
      exact g.1
    · intro t ht z
      have ht : s * step < t := ht
      obtain ⟨c, h1, h2⟩ := ps t
      have : ¬ c ≤ s := fun q => by
        have := (h1 s).mpr q
        omega
      exact g.2 c (by omega) (h2.mp z)
/-! ### words -/
noncomputable def nmB (rs ss : List (Int × Int)) : Bool := @decide (NMm rs ss) (Classical.propDecidable _)
theorem nmB_iff {rs ss : List (Int × Int)} : nmB rs ss = true ↔ NMm rs ss := by unfold nmB; exact @decide_eq_true_iff _ (Classical.propDecidable _)
inductive Wd where
  | alike | less | more | neither
deriving DecidableEq
noncomputable def word (es fs : List (Int × Int)) : Wd := if es = fs then .alike else if nmB es fs = true then .less else if nmB fs es = true then .more else .neither
def trn : Wd → Wd
  | .alike => .alike | .less => .more | .more => .less | .neither => .neither
theorem word_trn {es fs : List (Int × Int)} (h : es.Pairwise Le) (g : fs.Pairwise Le) : word fs es = trn (word es fs) := by
  unfold word
  by_cases e : es = fs
  · rw [if_pos e, if_pos e.symm]
    rfl
  · rw [if_neg e, if_neg (fun z => e z.symm)]
    by_cases a : nmB es fs = true <;> by_cases b : nmB fs es = true
    · exact absurd (sorted_same (count_both (nmB_iff.mp a) (nmB_iff.mp b)) h g) e
    · simp [a, b, trn]
    · simp [a, b, trn]
    · simp [a, b, trn]
theorem word_self (es : List (Int × Int)) : word es es = .alike := if_pos rfl
theorem at1_map {g : Int × Int → Int × Int} {rs : List (Int × Int)} {i : Nat} (h : i < rs.length) : at1 (rs.map g) i = g (at1 rs i) := by
  unfold at1
  rw [List.getElem?_map, List.getElem?_eq_getElem h]
  rfl
theorem nm_map {g : Int × Int → Int × Int} (hg : ∀ o r, cont (g o) (g r) ↔ cont o r) {rs ss : List (Int × Int)} : NMm (rs.map g) (ss.map g) ↔ NMm rs ss := by
  unfold NMm
  simp only [List.length_map]
  constructor
  · rintro ⟨o, h1, h2, h3⟩
    refine ⟨o, h1, fun i hi => ?_, h3⟩
    have := h2 i hi
    rw [at1_map hi, at1_map (h1 i hi), hg] at this
    exact this
  · rintro ⟨o, h1, h2, h3⟩
    refine ⟨o, h1, fun i hi => ?_, h3⟩
    rw [at1_map hi, at1_map (h1 i hi), hg]
    exact h2 i hi
theorem scl_cont {far step : Int} (h : 0 < step) (o r : Int × Int) : cont (scl far step o) (scl far step r) ↔ cont o r := by
  unfold cont scl
  have m : ∀ a b : Int, a * step + far ≤ b * step + far ↔ a ≤ b := fun a b => by
    constructor
    · intro z
      exact Int.le_of_mul_le_mul_right (show a * step ≤ b * step by omega) h
    · intro z
      have := Int.mul_le_mul_of_nonneg_right z (show 0 ≤ step by omega)
      omega
  show (o.1 * step + far ≤ r.1 * step + far ∧ r.2 * step + far ≤ o.2 * step + far) ↔ _
  rw [m, m]
theorem scl_inj {far step : Int} (h : 0 < step) {o r : Int × Int} (e : scl far step o = scl far step r) : o = r := by
  have a := (scl_cont (far := far) h o r).mp (by rw [e]; exact cont_refl _)
  have b := (scl_cont (far := far) h r o).mp (by rw [e]; exact cont_refl _)
  unfold cont at a b
  exact Prod.ext (by omega) (by omega)
theorem word_scl {es fs : List (Int × Int)} {far step : Int} (h : 0 < step) : word (es.map (scl far step)) (fs.map (scl far step)) = word es fs := by
  have i1 : (es.map (scl far step) = fs.map (scl far step)) = (es = fs) := propext ⟨fun e => List.map_inj_right (fun _ _ => scl_inj h) |>.mp e, fun e => by rw [e]⟩
  have i2 : ∀ rs ss : List (Int × Int), nmB (rs.map (scl far step)) (ss.map (scl far step)) = nmB rs ss := fun rs ss => by
    cases e : nmB rs ss with
    | true => exact nmB_iff.mpr ((nm_map (scl_cont h)).mpr (nmB_iff.mp e))
    | false =>
      cases e2 : nmB (rs.map (scl far step)) (ss.map (scl far step)) with
      | false => rfl
      | true => rw [nmB_iff.mpr ((nm_map (scl_cont h)).mp (nmB_iff.mp e2))] at e; cases e
  unfold word
  rw [i2, i2]
  by_cases e : es = fs
  · rw [if_pos e, if_pos (by rw [e])]
  · rw [if_neg e, if_neg (by rw [i1]; exact e)]
theorem scl_le {far step : Int} (h : 0 < step) {o r : Int × Int} (e : Le o r) : Le (scl far step o) (scl far step r) := by
  have e : o.1 < r.1 ∨ (o.1 = r.1 ∧ o.2 ≤ r.2) := e
  show o.1 * step + far < r.1 * step + far ∨ (o.1 * step + far = r.1 * step + far ∧ o.2 * step + far ≤ r.2 * step + far)
  rcases e with z | ⟨z1, z2⟩
  · have := Int.mul_lt_mul_of_pos_right z h
    exact .inl (by omega)
  · have := Int.mul_le_mul_of_nonneg_right z2 (show 0 ≤ step by omega)
    exact .inr ⟨by rw [z1], by omega⟩
theorem hc_one {ns : List Int} {es fs : List (Int × Int)} (h : Hc ns es) (g : Hc ns fs) : es = fs := by
  have b : ∃ u v : Int, ∀ x ∈ ns, u ≤ x ∧ x ≤ v := by
    clear h g
    induction ns with
    | nil => exact ⟨0, 0, fun _ z => (List.not_mem_nil z).elim⟩
    | cons a l ih =>
      obtain ⟨u, v, h⟩ := ih
      refine ⟨if a < u then a else u, if v < a then a else v, fun x hx => ?_⟩
      rcases List.mem_cons.mp hx with z | z
      · subst z
        constructor <;> split <;> omega
      · have := h x z
        constructor <;> split <;> omega
  obtain ⟨u, v, hb⟩ := b
  exact (same_iff h g hb hb).mpr fun _ _ _ _ _ => rfl
theorem hc_lt {ns : List Int} {es : List (Int × Int)} (h : Hc ns es) : ∀ r ∈ es, r.1 < r.2 := by
  have b : ∃ u v : Int, ∀ x ∈ ns, u ≤ x ∧ x ≤ v := by
    clear h
    induction ns with
    | nil => exact ⟨0, 0, fun _ z => (List.not_mem_nil z).elim⟩
    | cons a l ih =>
      obtain ⟨u, v, h⟩ := ih
      refine ⟨if a < u then a else u, if v < a then a else v, fun x hx => ?_⟩
      rcases List.mem_cons.mp hx with z | z
      · subst z
        constructor <;> split <;> omega
      · have := h x z
        constructor <;> split <;> omega
  obtain ⟨u, v, hb⟩ := b
  exact fun r hr => (h.inr hb r hr).2.1
theorem sw_map {f : Int → Int} (h : K9.Str f) : ∀ ps : List Int, sw (ps.map f) = (sw ps).map (K9.mp f)
  | [] => rfl
  | [_] => rfl
  | a :: b :: r => by
    have ih := sw_map h (b :: r)
    show rg (f a) (f b) :: sw ((b :: r).map f) = K9.mp f (rg a b) :: (sw (b :: r)).map (K9.mp f)
    rw [ih, K9.rg_map h]
theorem hc_scl {ns : List Int} {es : List (Int × Int)} {far step : Int} (hs : 0 < step) (h : Hc ns es) : Hc (ns.map fun x => x * step + far) (es.map (scl far step)) := by
  have m : ∀ a b : Int, a < b ↔ a * step + far < b * step + far := fun a b => by
    constructor
    · intro z
      have := Int.mul_lt_mul_of_pos_right z hs
      omega
    · intro z
      exact Int.lt_of_mul_lt_mul_right (show a * step < b * step by omega) (by omega)
  have st : K9.Str fun x => x * step + far := .inl m
  have lt := hc_lt h
  obtain ⟨cs, ds, rs, run, nf, p1, p2⟩ := h.ex
  have ee : es.map (scl far step) = es.map (K9.mp fun x => x * step + far) := List.map_congr_left fun r hr => by
    have := (m r.1 r.2).mp (lt r hr)
    unfold K9.mp scl
    rw [rg_up this]
  refine ⟨⟨cs.map (K9.mp _), ds.map (K9.mp _), rs.map _, by rw [K9.tp_map st]; exact K9.run_map st run, K9.nf_map st nf, p1.map _, ?_⟩, ?_⟩
  · rw [ee, sw_map st]
    have := p2.map (K9.mp fun x => x * step + far)
    rwa [List.map_append, List.map_append] at this
  · rw [List.pairwise_map]
    exact h.srt.imp fun z => scl_le hs z
/-! ### sets -/
def subs {α : Type} : List α → List (List α) → List (List α)
  | [], L => L
  | t :: D, L => subs D (L ++ L.map (· ++ [t]))
theorem subs_mem {α : Type} : ∀ {D : List α} {L : List (List α)} {s : List α}, s ∈ L → ∀ q : α → Bool, s ++ D.filter q ∈ subs D L
  | [], L, s, h, q => by simpa [subs] using h
  | t :: D, L, s, h, q => by
    show s ++ (t :: D).filter q ∈ subs D (L ++ L.map (· ++ [t]))
    rw [List.filter_cons]
    cases e : q t with
    | true =>
      rw [if_pos rfl, show s ++ t :: D.filter q = (s ++ [t]) ++ D.filter q by simp]
      exact subs_mem (List.mem_append_right _ (List.mem_map.mpr ⟨s, h, rfl⟩)) q
    | false =>
      rw [if_neg Bool.false_ne_true]
      exact subs_mem (List.mem_append_left _ h) q
theorem subs_in {α : Type} : ∀ {D : List α} {L : List (List α)} {s : List α}, s ∈ subs D L → ∃ l ∈ L, ∀ x ∈ s, x ∈ l ∨ x ∈ D
  | [], L, s, h => ⟨s, h, fun x hx => .inl hx⟩
  | t :: D, L, s, h => by
    obtain ⟨l, hl, hx⟩ := subs_in (D := D) (L := L ++ L.map (· ++ [t])) h
    rcases List.mem_append.mp hl with z | z
    · exact ⟨l, z, fun x g => (hx x g).imp id (List.mem_cons_of_mem _)⟩
    · obtain ⟨m, hm, rfl⟩ := List.mem_map.mp z
      refine ⟨m, hm, fun x g => ?_⟩
      rcases hx x g with y | y
      · rcases List.mem_append.mp y with y | y
        · exact .inl y
        · rw [List.mem_singleton.mp y]
          exact .inr List.mem_cons_self
      · exact .inr (List.mem_cons_of_mem _ y)
theorem subs_len {α : Type} : ∀ (D : List α) (L : List (List α)), (subs D L).length = L.length * 2 ^ D.length
  | [], L => by simp [subs]
  | t :: D, L => by
    show (subs D (L ++ L.map (· ++ [t]))).length = _
    rw [subs_len, List.length_append, List.length_map, List.length_cons, Nat.pow_succ, ← Nat.mul_two, Nat.mul_assoc, Nat.mul_comm 2]
theorem ard_congr {V W : List (Int × Int)} (h : ∀ v, v ∈ V ↔ v ∈ W) (r : Int × Int) : ard V r = ard W r := by
  unfold ard
  rw [Bool.eq_iff_iff, List.any_eq_true, List.any_eq_true]
  exact ⟨fun ⟨v, a, b⟩ => ⟨v, (h v).mp a, b⟩, fun ⟨v, a, b⟩ => ⟨v, (h v).mpr a, b⟩⟩
theorem nm_subs {rs ss D : List (Int × Int)} (hD : ∀ v, v ∈ D ↔ v ∈ rs) : NMm rs ss ↔ ∀ V ∈ subs D [[]], rs.countP (ard V) ≤ ss.countP (ard V) := by
  rw [nm_sets]
  constructor
  · intro h V hV
    refine h V fun v hv => ?_
    obtain ⟨l, hl, hx⟩ := subs_in hV
    rw [List.mem_singleton.mp hl] at hx
    exact (hD v).mp ((hx v hv).resolve_left (List.not_mem_nil))
  · intro h V hV
    have m := subs_mem (D := D) (L := [[]]) (s := []) (List.mem_singleton.mpr rfl) fun v => V.contains v
    have e : ∀ v, v ∈ [] ++ D.filter (fun v => V.contains v) ↔ v ∈ V := fun v => by
      rw [List.nil_append, List.mem_filter, List.contains_iff_mem]
      exact ⟨fun z => z.2, fun z => ⟨(hD v).mpr (hV v z), z⟩⟩
    have := h _ m
    rw [List.countP_congr (l := rs) (p := ard V) (q := ard ([] ++ D.filter fun v => V.contains v)) (fun r _ => by rw [ard_congr e]), List.countP_congr (l := ss) (p := ard V) (q := ard ([] ++ D.filter fun v => V.contains v)) (fun r _ => by rw [ard_congr e])]
    exact this
end K57

set_option pp.maxSteps 900
/-! k57: the law's own defs -/
namespace P7K
open PySem PySem.Spec PyProof.Rows L2 KA KD PH PM PA RM RN RC RE K55 K55b K57 M3W
abbrev sLd : Stmt := topS 28
abbrev sLR : Stmt := topS 35
abbrev sSC : Stmt := topS 40
abbrev sHV : Stmt := topS 34
abbrev sRC : Stmt := topS 36
abbrev sST : Stmt := topS 37
abbrev sNV : Stmt := topS 38
abbrev sWD : Stmt := topS 39
abbrev sSZ : Stmt := topS 41
theorem scLd : FnScope ["feed", "size", "most", "turn"] ["feed", "size", "most"] (defScope sLd) := ⟨rfl, rfl, rfl, by decide +kernel, rfl, by decide +kernel, by decide +kernel⟩
theorem scLR : FnScope ["feed", "most", "top", "found", "turn", "low"] ["feed", "most", "top"] (defScope sLR) := ⟨rfl, rfl, rfl, by decide +kernel, rfl, by decide +kernel, by decide +kernel⟩
theorem scSC : FnScope ["ranges", "far", "step", "low", "high"] ["ranges", "far", "step"] (defScope sSC) := ⟨rfl, rfl, rfl, by decide +kernel, rfl, by decide +kernel, by decide +kernel⟩
theorem scHV : FnScope ["load", "cycles", "rest", "k"] ["load"] (defScope sHV) := ⟨rfl, rfl, rfl, by decide +kernel, rfl, by decide +kernel, by decide +kernel⟩
theorem scRC : FnScope ["ranges", "some", "one", "x"] ["ranges", "some"] (defScope sRC) := ⟨rfl, rfl, rfl, by decide +kernel, rfl, by decide +kernel, by decide +kernel⟩
theorem scST : FnScope ["things", "found", "thing", "one"] ["things"] (defScope sST) := ⟨rfl, rfl, rfl, by decide +kernel, rfl, by decide +kernel, by decide +kernel⟩
theorem scNV : FnScope ["first", "second", "some"] ["first", "second"] (defScope sNV) := ⟨rfl, rfl, rfl, by decide +kernel, rfl, by decide +kernel, by decide +kernel⟩
theorem scWD : FnScope ["one", "other", "first", "second"] ["one", "other"] (defScope sWD) := ⟨rfl, rfl, rfl, by decide +kernel, rfl, by decide +kernel, by decide +kernel⟩
theorem scSZ : FnScope ["first", "second", "found", "size", "many", "one"] ["first", "second"] (defScope sSZ) := ⟨rfl, rfl, rfl, by decide +kernel, rfl, by decide +kernel, by decide +kernel⟩
theorem iteD {c : Bool} {A B : Prop} (h1 : c = true → A) (h2 : c = false → B) : if c = true then A else B := by
  cases c with
  | true => exact iteT (h1 rfl)
  | false => exact iteF (h2 rfl)
theorem PairsAt.mp {H H' : Hp} (e : ∀ p (a b : Int), H p = some (.tup [.int a, .int b]) → H' p = some (.tup [.int a, .int b])) : ∀ {xs : List V} {rs : List (Int × Int)}, PairsAt H xs rs → PairsAt H' xs rs
  | [], [], _ => trivial
  | x :: xs, r :: rs, ⟨⟨p, h1, h2⟩, h3⟩ => ⟨⟨p, h1, e p _ _ h2⟩, PairsAt.mp e h3⟩
  | [], _ :: _, h => h.elim
  | _ :: _, [], h => h.elim
theorem PairsAt.ch {f : Addr} {H H' : Hp} (c : Ch f H H') (hf : FeedAt H f) {xs : List V} {rs : List (Int × Int)} (h : PairsAt H xs rs) : PairsAt H' xs rs :=
  PairsAt.mp (fun p a b e => c _ _ (fun z => by obtain ⟨d, st, _, _, _, e2⟩ := hf; rw [z, e2] at e; cases e) e) h
theorem PairsAt.put {D : Addr} {H : Hp} {l l2 : List V} (e : H D = some (.lst l)) {xs : List V} {rs : List (Int × Int)} (h : PairsAt H xs rs) : PairsAt (upd H D (.lst l2)) xs rs :=
  PairsAt.mp (fun p a b e2 => by rw [upd_ne (fun z => by rw [z, e] at e2; cases e2)]; exact e2) h
theorem ev_pairs : ∀ rs ss : List (Int × Int), PyData.eqvAll (dPairs rs) (dPairs ss) = decide (rs = ss)
  | [], [] => by simp [dPairs, PyData.eqvAll]
  | [], _ :: _ => by simp [dPairs, PyData.eqvAll]
  | _ :: _, [] => by simp [dPairs, PyData.eqvAll]
  | (a, b) :: rs, (c, d) :: ss => by
    have ih := ev_pairs rs ss
    show (PyData.eqv (.tuple [.int a, .int b]) (.tuple [.int c, .int d]) && PyData.eqvAll (dPairs rs) (dPairs ss)) = _
    rw [ih]
    have e1 : PyData.eqv (.tuple [.int a, .int b]) (.tuple [.int c, .int d]) = (decide (a = c) && decide (b = d)) := by
      simp [PyData.eqv, PyData.eqvAll, Bool.beq_eq_decide_eq]
    rw [e1]
    by_cases h1 : a = c <;> by_cases h2 : b = d <;> by_cases h3 : rs = ss <;> simp [h1, h2, h3]
theorem ev_prs (as bs : List (Int × Int)) : PyData.eqv (.list (dPairs as)) (.list (dPairs bs)) = decide (as = bs) := by
  rw [← ev_pairs]; simp [PyData.eqv]
theorem ev_prt (as bs : List (Int × Int)) : PyData.eqv (.tuple (dPairs as)) (.tuple (dPairs bs)) = decide (as = bs) := by
  rw [← ev_pairs]; simp [PyData.eqv]
theorem ev_emp (as : List (Int × Int)) : PyData.eqv (.list (dPairs as)) (.list []) = as.isEmpty := by
  cases as with
  | nil => simp [dPairs, PyData.eqv, PyData.eqvAll]
  | cons a as => simp [dPairs, PyData.eqv, PyData.eqvAll]
theorem shaped_prt (rs : List (Int × Int)) : SeqAt.shaped (.tuple (dPairs rs)) = true :=
  shaped_of (by simp only [PyData.canLay0, lay_pairs]) (by have := depth_pairs rs; simp only [PyData.depth]; omega)
theorem pr_at {H : Hp} : ∀ {xs : List V} {cs : List (Int × Int)} {i : Nat} {x : V}, PairsAt H xs cs → xs[i]? = some x → ∃ r p, cs[i]? = some r ∧ x = .ref p ∧ H p = some (.tup [.int r.1, .int r.2])
  | [], [], _, _, _, e => by simp at e
  | x :: xs, r :: cs, 0, _, ⟨⟨p, h1, h2⟩, h3⟩, e => by
    simp only [List.getElem?_cons_zero, Option.some.injEq] at e
    subst e
    exact ⟨r, p, rfl, h1, h2⟩
  | x :: xs, r :: cs, i + 1, _, ⟨_, h3⟩, e => pr_at (i := i) h3 e
  | [], _ :: _, _, _, h, _ => h.elim
  | _ :: _, [], _, _, h, _ => h.elim
/-- lists of pairs stand at the refs of xs -/
def SA (H : Hp) : List V → List (List (Int × Int)) → Prop
  | [], [] => True
  | x :: xs, L :: Ls => (∃ p ys, x = .ref p ∧ H p = some (.lst ys) ∧ PairsAt H ys L) ∧ SA H xs Ls
  | _, _ => False
theorem SA.same {H H' : Hp} (e : Same H H') : ∀ {xs : List V} {Ls : List (List (Int × Int))}, SA H xs Ls → SA H' xs Ls
  | [], [], _ => trivial
  | x :: xs, L :: Ls, ⟨⟨p, ys, h1, h2, h3⟩, h4⟩ => ⟨⟨p, ys, h1, e _ _ h2, h3.same e⟩, SA.same e h4⟩
  | [], _ :: _, h => h.elim
  | _ :: _, [], h => h.elim
theorem SA.length {H : Hp} : ∀ {xs : List V} {Ls : List (List (Int × Int))}, SA H xs Ls → xs.length = Ls.length
  | [], [], _ => rfl
  | x :: xs, L :: Ls, ⟨_, h⟩ => by rw [List.length_cons, List.length_cons, h.length]
  | [], _ :: _, h => h.elim
  | _ :: _, [], h => h.elim
theorem SA.append {H : Hp} : ∀ {xs ys : List V} {Ls Ms : List (List (Int × Int))}, SA H xs Ls → SA H ys Ms → SA H (xs ++ ys) (Ls ++ Ms)
  | [], _, [], _, _, h => h
  | x :: xs, _, L :: Ls, _, ⟨h1, h2⟩, h => ⟨h1, SA.append h2 h⟩
  | [], _, _ :: _, _, h, _ => h.elim
  | _ :: _, _, [], _, h, _ => h.elim
theorem SA.at {H : Hp} : ∀ {xs : List V} {Ls : List (List (Int × Int))} {i : Nat} {x : V}, SA H xs Ls → xs[i]? = some x → ∃ L p ys, Ls[i]? = some L ∧ x = .ref p ∧ H p = some (.lst ys) ∧ PairsAt H ys L
  | [], [], _, _, _, e => by simp at e
  | x :: xs, L :: Ls, 0, _, ⟨⟨p, ys, h1, h2, h3⟩, _⟩, e => by
    simp only [List.getElem?_cons_zero, Option.some.injEq] at e
    subst e
    exact ⟨L, p, ys, rfl, h1, h2, h3⟩
  | x :: xs, L :: Ls, i + 1, _, ⟨_, h⟩, e => SA.at (i := i) h e
  | [], _ :: _, _, _, h, _ => h.elim
  | _ :: _, [], _, _, h, _ => h.elim
theorem pairs_new {H : Hp} {D : Addr} {l : List V} (nD : H D = none) {xs : List V} {rs : List (Int × Int)} (h : PairsAt H xs rs) : PairsAt (upd H D (.lst l)) xs rs := h.same (same_new nD)
def wstr : Wd → Str
  | .alike => "alike" | .less => "less" | .more => "more" | .neither => "neither"
def optV : Option Int → V
  | none => .non | some s => .int s
theorem rg2_mem {rs : List Int} : ∀ r ∈ sw rs, r.1 ∈ rs ∧ r.2 ∈ rs := by
  induction rs with
  | nil => intro r h; cases h
  | cons a l ih =>
    cases l with
    | nil => intro r h; cases h
    | cons b l =>
      intro r h
      have h : r ∈ rg a b :: sw (b :: l) := h
      rcases List.mem_cons.mp h with rfl | h
      · exact rg_mem List.mem_cons_self (List.mem_cons_of_mem _ List.mem_cons_self)
      · have := ih r h
        exact ⟨List.mem_cons_of_mem _ this.1, List.mem_cons_of_mem _ this.2⟩
/-- lists of pairs stand at the refs of xs, none of them at D -/
def SAd (D : Addr) (H : Hp) : List V → List (List (Int × Int)) → Prop
  | [], [] => True
  | x :: xs, L :: Ls => (∃ p ys, x = .ref p ∧ p ≠ D ∧ H p = some (.lst ys) ∧ PairsAt H ys L) ∧ SAd D H xs Ls
  | _, _ => False
theorem SAd.sa {D : Addr} {H : Hp} : ∀ {xs : List V} {Ls : List (List (Int × Int))}, SAd D H xs Ls → SA H xs Ls
  | [], [], _ => trivial
  | x :: xs, L :: Ls, ⟨⟨p, ys, h1, _, h2, h3⟩, h4⟩ => ⟨⟨p, ys, h1, h2, h3⟩, h4.sa⟩
  | [], _ :: _, h => h.elim
  | _ :: _, [], h => h.elim
theorem SAd.same {D : Addr} {H H' : Hp} (e : Same H H') : ∀ {xs : List V} {Ls : List (List (Int × Int))}, SAd D H xs Ls → SAd D H' xs Ls
  | [], [], _ => trivial
  | x :: xs, L :: Ls, ⟨⟨p, ys, h1, n, h2, h3⟩, h4⟩ => ⟨⟨p, ys, h1, n, e _ _ h2, h3.same e⟩, SAd.same e h4⟩
  | [], _ :: _, h => h.elim
  | _ :: _, [], h => h.elim
theorem SAd.put {D : Addr} {H : Hp} {l l2 : List V} (e : H D = some (.lst l)) : ∀ {xs : List V} {Ls : List (List (Int × Int))}, SAd D H xs Ls → SAd D (upd H D (.lst l2)) xs Ls
  | [], [], _ => trivial
  | x :: xs, L :: Ls, ⟨⟨p, ys, h1, n, h2, h3⟩, h4⟩ => ⟨⟨p, ys, h1, n, by rw [upd_ne n]; exact h2, PairsAt.put e h3⟩, SAd.put e h4⟩
  | [], _ :: _, h => h.elim
  | _ :: _, [], h => h.elim
theorem SAd.append {D : Addr} {H : Hp} : ∀ {xs ys : List V} {Ls Ms : List (List (Int × Int))}, SAd D H xs Ls → SAd D H ys Ms → SAd D H (xs ++ ys) (Ls ++ Ms)
  | [], _, [], _, _, h => h
  | x :: xs, _, L :: Ls, _, ⟨h1, h2⟩, h => ⟨h1, SAd.append h2 h⟩
  | [], _, _ :: _, _, h, _ => h.elim
  | _ :: _, _, [], _, h, _ => h.elim
theorem SAd.length {D : Addr} {H : Hp} {xs : List V} {Ls : List (List (Int × Int))} (h : SAd D H xs Ls) : xs.length = Ls.length := h.sa.length
/-- the refs of pairs, with their ints -/
theorem pairs_ks {H : Hp} : ∀ {xs : List V} {rs : List (Int × Int)}, PairsAt H xs rs → ∃ ks : List (Addr × List Int), xs = ks.map (fun p => V.ref p.1) ∧ ks.map (·.2) = rs.map (fun r => [r.1, r.2]) ∧ ∀ p ∈ ks, H p.1 = some (.tup (p.2.map V.int)) ∧ ∃ r ∈ rs, p.2 = [r.1, r.2]
  | [], [], _ => ⟨[], rfl, rfl, fun _ z => (List.not_mem_nil z).elim⟩
  | x :: xs, r :: rs, ⟨⟨p, h1, h2⟩, h3⟩ => by
    obtain ⟨ks, e1, e2, e3⟩ := pairs_ks h3
    refine ⟨(p, [r.1, r.2]) :: ks, by rw [List.map_cons, ← e1, h1], by rw [List.map_cons, List.map_cons, e2], fun q hq => ?_⟩
    rcases List.mem_cons.mp hq with rfl | hq
    · exact ⟨h2, r, List.mem_cons_self, rfl⟩
    · obtain ⟨g1, s, g2, g3⟩ := e3 q hq
      exact ⟨g1, s, List.mem_cons_of_mem _ g2, g3⟩
  | [], _ :: _, h => h.elim
  | _ :: _, [], h => h.elim
def toR (l : List Int) : Int × Int := (l.getD 0 0, l.getD 1 0)
theorem pairs_ksb {H : Hp} : ∀ {ks : List (Addr × List Int)}, (∀ p ∈ ks, H p.1 = some (.tup (p.2.map V.int)) ∧ ∃ a b, p.2 = [a, b]) → PairsAt H (ks.map fun p => V.ref p.1) (ks.map fun p => toR p.2)
  | [], _ => trivial
  | p :: ks, h => by
    obtain ⟨h1, a, b, h2⟩ := h p List.mem_cons_self
    refine ⟨⟨p.1, rfl, ?_⟩, pairs_ksb fun q hq => h q (List.mem_cons_of_mem _ hq)⟩
    show H p.1 = some (.tup [.int (toR p.2).1, .int (toR p.2).2])
    rw [h1, h2]
    rfl
section
variable {P : Program} {w : World} {K : PySem.W.Frag} {mg : Str → Option Value} {base : Heap}
def spLd : Sp := fun vs H Q _ => ∃ (f : Addr) (n m : Int), vs = [.ref f, .int n, .int m] ∧ 0 ≤ n ∧ n ≤ 100 ∧ 0 ≤ m ∧ m < 2 ^ 40 ∧ FeedAt H f ∧
  ∀ H' p (ns : List Int), Ch f H H' → FeedAt H' f → H p = none → H' p = some (.lst (ns.map V.int)) → (ns.length : Int) = n → (∀ x ∈ ns, 0 ≤ x ∧ x ≤ m) → Q (.ref p) H'
theorem ok_ld {f fT : Addr} {fd dT : FuncData} {k : Nat} (F : Fun K "_law_load" "_law_load" sLd f fd) (GT : FnOk P w K mg base CX0 (k + 1) fT dT ["feed", "size"] spTake) (gT : mg "_law_take" = some (.ref fT)) (kT : PySem.W.keepIn K (.ref fT) = true) (bT : Binds K dT ["feed", "size"] []) (mr : mg "range" = none) :
    FnOk P w K mg base CX0 (k + 2) f fd ["feed", "size", "most"] spLd := by
  refine F.ok scLd (fun vs H Q E h => ?_) (fun cdv A outer s H vs Q E hr h => ?_)
  · obtain ⟨f, n, m, rfl, _⟩ := h
    rfl
  · obtain ⟨f, n, m, rfl, n0, n1, m0, m1, hf, q⟩ := h
    refine ⟨_, pss_one (ps_ret (pe_lc (own := [("turn", 3)]) (g := gName 3) rfl scLd.nd (pi_range1 rfl mr (pa_cons (pv 1) pa_nil)) (blkOk_by (own := [("turn", 3)]) (N := ["feed", "size", "most", "turn"]) (sc := defScope sLd) (by decide +kernel))
            (fun _ _ _ _ _ => pg_name (i := 3) scLd.nd rfl (Or.inl rfl) (Or.inr rfl)) (fun _ _ _ _ _ => pts_nil)
            (fun _ _ _ _ _ => pe_call GT hr (by rfl) gT kT bT .nil pass0 (pa_cons (pv 0) (pa_cons (pe_op op_add (pv 2) pe_int) pa_nil))))), ?_⟩
    refine ⟨.int n, rfl, n, rfl, by omega, by omega, fun D nD => ?_⟩
    have nDf := hf.ne nD
    refine lc_range (lo := 0) (n := n.toNat) (fun i Hz => Ch f H Hz ∧ FeedAt Hz f ∧ ∃ ns : List Int, ns.length = i ∧ (∀ x ∈ ns, 0 ≤ x ∧ x ≤ m) ∧ Hz D = some (.lst (ns.map V.int))) ⟨Ch.new nD, hf.upd nDf, [], rfl, fun _ z => (List.not_mem_nil z).elim, upd_same⟩ (fun i Hz hi ⟨c, fe, ns, h1, h2, h3⟩ => ?_) (fun Hz ⟨c, fe, ns, h1, h2, h3⟩ => q Hz D ns c fe nD h3 (by omega) h2)
    refine ⟨rfl, iteT (B := True) ⟨.ref f, rfl, .int m, rfl, m, 1, rfl, rfl, f, _, rfl, by omega, by omega, fe, fun H2 r c2 fe2 r0 r1 => ?_⟩⟩
    refine ⟨_, c2 _ _ nDf h3, ?_, Ch.again nD (c.trans c2), fe2.upd nDf, ns ++ [r], by rw [List.length_append, List.length_singleton, h1], fun x hx => ?_, ?_⟩
    · rw [List.length_map, h1]
      exact small3000 (by omega)
    · rcases List.mem_append.mp hx with z | z
      · exact h2 x z
      · rw [List.mem_singleton.mp z]
        omega
    · rw [upd_same, List.map_append]
      rfl
def spLR : Sp := fun vs H Q _ => ∃ (f : Addr) (most top : Int), vs = [.ref f, .int most, .int top] ∧ 0 ≤ most ∧ most ≤ 100 ∧ 1 ≤ top ∧ top ≤ 1000000 ∧ FeedAt H f ∧
  ∀ H' p xs rs, Ch f H H' → FeedAt H' f → H p = none → H' p = some (.lst xs) → PairsAt H' xs rs → (rs.length : Int) ≤ most + 1 → (∀ r ∈ rs, 0 ≤ r.1 ∧ r.1 < r.2 ∧ r.2 ≤ top) → Q (.ref p) H'
theorem ok_LR {f : Addr} {fd : FuncData} {fTA : Addr} {dTA : FuncData} {k : Nat} (F : Fun K "_law_ranges" "_law_ranges" sLR f fd) (GTA : FnOk P w K mg base CX0 (k + 1) fTA dTA ["feed", "size"] spTake) (gTA : mg "_law_take" = some (.ref fTA)) (kTA : PySem.W.keepIn K (.ref fTA) = true) (bTA : Binds K dTA ["feed", "size"] []) (mr : mg "range" = none) (mi : mg "int" = none) : FnOk P w K mg base CX0 (k + 2) f fd ["feed", "most", "top"] spLR := by
  refine F.ok scLR (fun vs H Q E h => ?_) (fun cdv A outer s H vs Q E hr h => ?_)
  · obtain ⟨f, most, top, rfl, _⟩ := h
    rfl
  · obtain ⟨f, most, top, rfl, m0, m1, t0, t1, hf, hq⟩ := h
    refine ⟨_, (pss_cons (ps_set (i := 3) scLR.nd rfl (.inl rfl) (pe_lst pa_nil))
      (pss_cons (ps_for PassesOwn.never rfl (pi_range1 rfl mr (pa_cons (pe_call GTA hr (by rfl) gTA kTA bTA .nil pass0 (pa_cons (pv 0) (pa_cons (pe_op op_add (pv 1) pe_int) pa_nil))) pa_nil)) (pg_name (i := 4) scLR.nd rfl (.inl rfl))
      (pss_cons (ps_set (i := 5) scLR.nd rfl (.inl rfl) (pe_call GTA hr (by rfl) gTA kTA bTA .nil pass0 (pa_cons (pv 0) (pa_cons (pv 2) pa_nil))))
      (pss_one (ps_expr (pe_bm PySem.F.plainAttrs_list PySem.F.slot_list_append PySem.F.type_list_append mt_append (pv 3) (pa_cons (pe_tup (pa_cons (pv 5) (pa_cons (pe_op op_add (pe_op op_add (pv 5) pe_int) (pe_call GTA hr (by rfl) gTA kTA bTA .nil pass0 (pa_cons (pv 0) (pa_cons (pe_op op_sub (pv 2) (pv 5)) pa_nil)))) pa_nil))) pa_nil))))))
      (pss_one (ps_ret (pe_op op_cat (pv 3) (pe_slice sl_list (pv 3) po_none (po_some (pe_callTy call_int1 (by rfl) mi (by decide +kernel) (pa_cons (pe_cmpR op_eq (pe_call GTA hr (by rfl) gTA kTA bTA .nil pass0 (pa_cons (pv 0) (pa_cons pe_int pa_nil))) pe_int (nomark _)) pa_nil))))))))), ?_⟩
    refine ⟨by show 0 ≤ sizeLine; exact Nat.zero_le _, fun D nD => ?_⟩
    have nDf := hf.ne nD
    refine ⟨.ref f, rfl, .int most, rfl, most, 1, rfl, rfl, f, _, rfl, by omega, by omega, hf.upd nDf, fun H1 n c1 f1 n0 n1 => ?_⟩
    have hD1 := c1 _ _ nDf (upd_same (H := H) (a := D) (o := .lst []))
    have c01 : Ch f H H1 := (Ch.new nD).trans c1
    refine ⟨n, rfl, by omega, by omega, for_range (lo := 0) (n := n.toNat) (fun i σ Hz => Ch f H Hz ∧ FeedAt Hz f ∧ ∃ xs rs, Hz D = some (.lst xs) ∧ PairsAt Hz xs rs ∧ rs.length = i ∧ (∀ r ∈ rs, 0 ≤ r.1 ∧ r.1 < r.2 ∧ r.2 ≤ top) ∧ ∃ r4 r5 : Option V, σ = [some (.ref f), some (.int most), some (.int top), some (.ref D), r4, r5])
      ⟨c01, f1, [], [], hD1, trivial, rfl, fun _ z => (List.not_mem_nil z).elim, _, _, rfl⟩ ?_ ?_⟩
    · rintro i σ Hz hi ⟨cz, fz, xs, rs, hD, pa, ln, bd, r4, r5, rfl⟩
      have lx := pa.length
      refine ⟨.ref f, rfl, .int top, rfl, f, top, rfl, by omega, by omega, fz, fun H2 lo c2 f2 l0 l1 => ?_⟩
      refine ⟨.ref D, rfl, .inl ⟨rfl, _, SqL.of (c2 _ _ nDf hD)⟩, .int lo, rfl, .int lo, rfl, lo, 1, rfl, rfl, .ref f, rfl, .int top, rfl, .int lo, rfl, top, lo, rfl, rfl, f, _, rfl, by omega, by omega, f2, fun H3 e c3 f3 e0 e1 => ?_⟩
      have c23 := c2.trans c3
      refine ⟨_, _, rfl, rfl, by show 2 ≤ sizeLine; decide, fun p np => ?_⟩
      have sp := same_new np (o := .tup [.int lo, .int (lo + 1 + e)])
      have hD3 := sp _ _ (c23 _ _ nDf hD)
      have hp := upd_same (H := H3) (a := p) (o := .tup [.int lo, .int (lo + 1 + e)])
      have f4 := f3.same sp
      have pa4 := (PairsAt.ch c23 fz pa).same sp
      have c4 := (cz.trans c23).trans (.of_same sp)
      generalize upd H3 p (.tup [.int lo, .int (lo + 1 + e)]) = H4 at hD3 hp f4 pa4 c4 ⊢
      refine ⟨D, _, _, rfl, rfl, hD3, Nat.lt_of_le_of_lt (show xs.length ≤ 3000 by omega) (by decide), ?_⟩
      refine ⟨Ch.again nD c4, f4.upd nDf, xs ++ [.ref p], rs ++ [(lo, lo + 1 + e)], upd_same, ?_, by rw [List.length_append, List.length_singleton, ln], fun r hr => ?_, _, _, rfl⟩
      · exact PairsAt.put hD3 (pa4.append ⟨⟨p, rfl, hp⟩, trivial⟩)
      · rcases List.mem_append.mp hr with z | z
        · exact bd r z
        · rw [List.mem_singleton.mp z]
          show 0 ≤ lo ∧ lo < lo + 1 + e ∧ lo + 1 + e ≤ top
          omega
    · rintro σ Hz ⟨cz, fz, xs, rs, hD, pa, ln, bd, r4, r5, rfl⟩
      have lx := pa.length
      refine ⟨.ref D, rfl, .ref D, rfl, .ref f, rfl, f, 4, rfl, by decide, by decide, fz, fun H2 r c2 f2 r0 r1 => ?_⟩
      have hD2 := c2 _ _ nDf hD
      have pa2 := PairsAt.ch c2 fz pa
      refine ⟨rfl, .inr ⟨_, rfl, ?_⟩⟩
      obtain ⟨j, hj⟩ : ∃ j : Nat, (if decide (V.int r = V.int 0) = true then (1 : Int) else 0) = (j : Int) ∧ j ≤ 1 := by
        cases decide (V.int r = V.int 0) with
        | true => exact ⟨1, rfl, Nat.le_refl _⟩
        | false => exact ⟨0, rfl, Nat.zero_le _⟩
      rw [hj.1]
      refine ⟨_, rfl, D, xs, rfl, SqL.of hD2, fun p np => ?_⟩
      rw [cut_to]
      have sp := same_new np (o := .lst (xs.take j))
      have hp := upd_same (H := H2) (a := p) (o := .lst (xs.take j))
      have npf := f2.ne np
      have hD3 := sp _ _ hD2
      have pa3 := pa2.same sp
      have f3 := f2.same sp
      have c3 := (cz.trans c2).trans (.of_same sp)
      generalize upd H2 p (.lst (xs.take j)) = H3 at hp hD3 pa3 f3 c3 ⊢
      refine ⟨D, p, _, _, rfl, rfl, hD3, hp, Nat.le_of_lt (Nat.lt_of_le_of_lt (show _ ≤ 3000 by rw [List.length_take]; omega) (by decide)), fun u nu => ?_⟩
      have su := same_new nu (o := .lst (xs ++ xs.take j))
      refine hq _ u _ (rs ++ rs.take j) (c3.trans (.of_same su)) (f3.same su) (c3.free (f3.ne nu) nu) upd_same ((pa3.append (pa3.take j)).same su) (by rw [List.length_append, List.length_take]; omega) fun r hr => ?_
      rcases List.mem_append.mp hr with z | z
      · exact bd r z
      · exact bd r (List.mem_of_mem_take z)
def spSC : Sp := fun vs H Q _ => ∃ (a : Addr) (far step : Int) (xs : List V) (rs : List (Int × Int)), vs = [.ref a, .int far, .int step] ∧ H a = some (.lst xs) ∧ PairsAt H xs rs ∧ rs.length ≤ 500 ∧ (∀ r ∈ rs, r.1.natAbs < 2 ^ 40 ∧ r.2.natAbs < 2 ^ 40) ∧
  ∀ H' p ys, Same H H' → H p = none → H' p = some (.lst ys) → PairsAt H' ys (rs.map fun r => (r.1 * step + far, r.2 * step + far)) → Q (.ref p) H'
theorem ok_SC {f : Addr} {fd : FuncData} {k : Nat} (F : Fun K "_law_scaled" "_law_scaled" sSC f fd)  : FnOk P w K mg base CX0 (k + 1) f fd ["ranges", "far", "step"] spSC := by
  refine F.ok scSC (fun vs H Q E h => ?_) (fun cdv A outer s H vs Q E hr h => ?_)
  · obtain ⟨a, far, step, xs, rs, rfl, _⟩ := h
    rfl
  · obtain ⟨a, far, step, xs, rs, rfl, hA, pa, hl, bd, hq⟩ := h
    refine ⟨_, (pss_one (ps_ret (pe_lc (own := [("low", 3), ("high", 4)]) (g := gTup K 2 (gCons (gName 3) (gCons (gName 4) gNil))) (tt := tYes)  rfl scSC.nd (pi_list (pv 0)) (blkOk_by (own := [("low", 3), ("high", 4)]) (N := ["ranges", "far", "step", "low", "high"]) (sc := defScope sSC) (by decide +kernel)) (fun _ _ _ _ _ => (pg_tup rfl (pgs_cons (pg_name (i := 3) scSC.nd rfl (Or.inl rfl) (Or.inr rfl)) (pgs_cons (pg_name (i := 4) scSC.nd rfl (Or.inl rfl) (Or.inr rfl)) pgs_nil)))) (fun _ _ _ _ _ => pts_nil) (fun _ _ _ _ _ => (pe_tup (pa_cons (pe_op op_add (pe_op op_mul (pv 3) (pv 2)) (pv 1)) (pa_cons (pe_op op_add (pe_op op_mul (pv 4) (pv 2)) (pv 1)) pa_nil))))))), ?_⟩
    have la := pa.length
    refine ⟨.ref a, rfl, a, rfl, ⟨xs, SqL.of hA⟩, fun D nD => ?_⟩
    refine lc_it (walk_list (xs := xs)) (fun i Hz => Same H Hz ∧ ∃ acc : List V, Hz D = some (.lst acc) ∧ PairsAt Hz acc ((rs.take i).map fun r => (r.1 * step + far, r.2 * step + far))) ⟨same_new nD, [], upd_same, trivial⟩ (fun i Hz _ z => SqL.of (z.1 _ _ hA)) ?_ ?_
    · rintro i v Hz Hy hi ⟨sz, acc, eD, pd⟩ ⟨rfl, hx⟩
      obtain ⟨r, p, er, rfl, e2⟩ := pr_at pa hx
      have la2 := pd.length
      rw [List.length_map, List.length_take] at la2
      obtain ⟨b1, b2⟩ := bd r (List.mem_of_getElem? er)
      refine ⟨p, _, rfl, SqT.of (sz _ _ e2), rfl, .int r.1, [.int r.2], rfl, .int r.2, [], rfl, rfl, rfl, iteT (B := True) ?_⟩
      refine ⟨.int r.1, rfl, .int step, rfl, r.1, step, rfl, rfl, .inl ⟨by omega, by omega⟩, .int far, rfl, _, far, rfl, rfl, .int r.2, rfl, .int step, rfl, r.2, step, rfl, rfl, .inl ⟨by omega, by omega⟩, .int far, rfl, _, far, rfl, rfl, (show 2 ≤ sizeLine by decide), fun q nq => ?_⟩
      have sq := same_new nq (o := .tup [.int (r.1 * step + far), .int (r.2 * step + far)])
      have eD2 := sq _ _ eD
      refine ⟨acc, eD2, Nat.lt_of_le_of_lt (show acc.length ≤ 3000 by omega) (by decide), same_again nD (sz.trans sq), acc ++ [.ref q], upd_same, ?_⟩
      rw [List.take_add_one, er, Option.toList_some, List.map_append]
      exact PairsAt.put eD2 ((pd.same sq).append ⟨⟨q, rfl, upd_same⟩, trivial⟩)
    rintro Hz ⟨sz, acc, eD, pd⟩
    rw [la, List.take_length] at pd
    exact hq Hz D acc sz nD eD pd
def spHV (K : PySem.W.Frag) : Sp := fun vs H Q _ => ∃ (a : Addr) (ns : List Int), vs = [.ref a] ∧ Sq K H a (ns.map V.int) ∧ ns.length ≤ 500 ∧
  ∀ H' p ys es, Same H H' → H p = none → H' p = some (.lst ys) → PairsAt H' ys es → Hc ns es → es.length ≤ ns.length → (∀ r ∈ es, r.1 ∈ ns ∧ r.2 ∈ ns) → Q (.ref p) H'
theorem ok_HV {f : Addr} {fd : FuncData} {fKT : Addr} {dKT : FuncData} {fRN : Addr} {dRN : FuncData} {k : Nat} (F : Fun K "_law_halves" "_law_halves" sHV f fd) (GKT : FnOk P w K mg base CX0 (k + 3) fKT dKT ["load"] (spCt K)) (gKT : mg "_law_count" = some (.ref fKT)) (kKT : PySem.W.keepIn K (.ref fKT) = true) (bKT : Binds K dKT ["load"] []) (GRN : FnOk P w K mg base CX0 (k + 1) fRN dRN ["first", "second"] spRng) (gRN : mg "_law_range" = some (.ref fRN)) (kRN : PySem.W.keepIn K (.ref fRN) = true) (bRN : Binds K dRN ["first", "second"] []) (mlen : mg "len" = none) (mr : mg "range" = none) (mso : mg "sorted" = none) : FnOk P w K mg base CX0 (k + 4) f fd ["load"] (spHV K) := by
  refine F.ok scHV (fun vs H Q E h => ?_) (fun cdv A outer s H vs Q E hr h => ?_)
  · obtain ⟨a, ns, rfl, _⟩ := h
    rfl
  · obtain ⟨a, ns, rfl, hS, hlen, hq⟩ := h
    refine ⟨_, (pss_cons (ps_asg (pe_call (GKT.mono (show k + 3 ≤ k + 3 by omega)) hr (by rfl) gKT kKT bKT .nil pass0 (pa_cons (pv 0) pa_nil)) (pg_tup rfl (pgs_cons (pg_name (i := 1) scHV.nd rfl (.inl rfl)) (pgs_cons (pg_name (i := 2) scHV.nd rfl (.inr rfl)) pgs_nil))))
      (pss_one (ps_ret (pe_callB cr_sortedPO (by rfl) mso (by decide +kernel) (pa_cons (pe_op op_cat (pe_op op_cat (pv 1) (pv 1)) (pe_lc (own := [("k", 3)]) (g := gName 3) (tt := tYes) (te := tCall spRng [] E0 (tCons (tOp (rIxL K) (tVar 2) (tVar 3)) (tCons (tOp (rIxL K) (tVar 2) (tOp (rI0 fun i j => V.int (i + j)) (tVar 3) (tC (V.int 1)))) tNil))) rfl scHV.nd (pi_range1 rfl mr (pa_cons (pe_op op_sub (pe_callB call_len_seq (by rfl) mlen PySem.boot_len (pa_cons (pv 2) pa_nil)) pe_int) pa_nil)) (blkOk_by (own := [("k", 3)]) (N := ["load", "cycles", "rest", "k"]) (sc := defScope sHV) (by decide +kernel)) (fun _ _ _ _ _ => (pg_name (i := 3) scHV.nd rfl (Or.inl rfl) (Or.inr rfl))) (fun _ _ _ _ _ => pts_nil) (fun _ _ _ _ _ => (pe_call (GRN.mono (show k + 1 ≤ k + 3 by omega)) hr (by rfl) gRN kRN bRN .nil pass0 (pa_cons (pe_ix ix_list (pv 2) (pv 3) (fun _ _ => rfl)) (pa_cons (pe_ix ix_list (pv 2) (pe_op op_add (pv 3) pe_int) (fun _ _ => rfl)) pa_nil)))))) pa_nil))))), ?_⟩
    refine ⟨.ref a, rfl, a, ns, rfl, hS, by omega, fun H1 p c r xs cs rs s1 hp hc pa hrr nr nc lc lr mr mc _ hrun nf srt => ?_⟩
    refine ⟨p, _, rfl, SqT.of hp, rfl, .ref c, _, rfl, .ref r, _, rfl, rfl, ?_⟩
    obtain ⟨ds, run, pm⟩ := hrun
    have lx := pa.length
    have hm : (rs.map V.int).length = rs.length := List.length_map _
    refine ⟨.ref c, rfl, .ref c, rfl, c, c, _, _, rfl, rfl, hc, hc, Nat.le_trans (show xs.length + xs.length ≤ 3000 by omega) (by decide), fun u nu => ?_⟩
    have su := same_new (o := .lst (xs ++ xs)) nu
    have hu := upd_same (H := H1) (a := u) (o := .lst (xs ++ xs))
    have hr2 := su _ _ hrr
    have pu := (pa.append pa).same su
    have s2 := s1.trans su
    generalize upd H1 u (.lst (xs ++ xs)) = H2 at hu hr2 pu s2 ⊢
    refine ⟨.ref r, rfl, r, _, rfl, .inl (SqL.of hr2), _, 1, rfl, rfl, _, rfl, by rw [hm]; omega, by rw [hm]; omega, fun D nD => ?_⟩
    refine lc_range (lo := 0) (n := (((rs.map V.int).length : Int) - 1).toNat) (fun i Hz => Same H2 Hz ∧ ∃ ys : List V, Hz D = some (.lst ys) ∧ PairsAt Hz ys ((sw rs).take i)) ⟨same_new nD, [], upd_same, trivial⟩ ?_ ?_
    · rintro i Hz hi ⟨sz, ys, eD, py⟩
      rw [hm] at hi
      obtain ⟨x, e0⟩ : ∃ x, rs[i]? = some x := ⟨_, List.getElem?_eq_getElem (by omega)⟩
      obtain ⟨y, e1⟩ : ∃ x, rs[i + 1]? = some x := ⟨_, List.getElem?_eq_getElem (by omega)⟩
      have er := sz _ _ hr2
      have ly := py.length
      refine ⟨rfl, iteT (B := True) ⟨.ref r, rfl, .int (0 + (i : Int)), rfl, r, _, _, _, rfl, rfl, SqL.of er, at_of (j := i) (by omega) (at_int e0), .ref r, rfl, .int (0 + (i : Int)), rfl, _, 1, rfl, rfl, r, _, _, _, rfl, rfl, SqL.of er, at_of (j := i + 1) (by omega) (at_int e1), x, y, rfl, fun T nT => ?_⟩⟩
      have sT := same_new (o := .tup [.int (rg x y).1, .int (rg x y).2]) nT
      refine ⟨ys, sT _ _ eD, ?_, same_again nD (sz.trans sT), ys ++ [.ref T], upd_same, ?_⟩
      · rw [ly, List.length_take]
        exact small3000 (by rw [sw_len]; omega)
      · rw [sw_take rs i x y e0 e1]
        exact PairsAt.put (sT _ _ eD) ((py.same sT).append ⟨⟨T, rfl, upd_same⟩, trivial⟩)
    · rintro Hz ⟨sz, ys, eD, py⟩
      rw [List.take_of_length_le (by rw [sw_len, hm]; omega)] at py
      have ly := py.length
      have pz := (pu.same sz).append py
      refine ⟨u, D, _, _, rfl, rfl, sz _ _ hu, eD, ?_, fun v nv => ?_⟩
      · rw [List.length_append, ly, sw_len]
        exact Nat.le_of_lt (small3000 (by omega))
      have sv := same_new (o := .lst (xs ++ xs ++ ys)) nv
      have pv := pz.same sv
      refine ⟨v, _, kOf _, rfl, SqL.of upd_same, (pairs_key pv).2, fun zs q g1 g2 nq => ?_⟩
      obtain ⟨es, pe, perm, srt2⟩ := sorted_out pv g1 g2
      have sq := same_new (o := .lst zs) nq
      have sA := ((s2.trans sz).trans sv)
      have memE : ∀ r ∈ es, r.1 ∈ ns ∧ r.2 ∈ ns := fun r hr => by
        have := perm.mem_iff.mp hr
        rcases List.mem_append.mp this with z | z
        · rcases List.mem_append.mp z with z | z
          · exact mc r z
          · exact mc r z
        · have := rg2_mem r z
          exact ⟨mr _ this.1, mr _ this.2⟩
      refine hq _ q zs es (sA.trans sq) (sA.free nq) upd_same (pe.same sq) ⟨⟨ds, cs, rs, run, nf, pm, perm⟩, srt2⟩ ?_ memE
      have l1 := run.len
      have l2 := tp_len ns
      have l3 := pm.length_eq
      rw [perm.length_eq, List.length_append, List.length_append, sw_len]
      omega
def spRC : Sp := fun vs H Q _ => ∃ (a b : Addr) (xs ys : List V) (rs V_ : List (Int × Int)), vs = [.ref a, .ref b] ∧ H a = some (.lst xs) ∧ PairsAt H xs rs ∧ H b = some (.lst ys) ∧ PairsAt H ys V_ ∧ rs.length ≤ 500 ∧ V_.length ≤ 500 ∧
  ∀ H', Same H H' → Q (.int ((rs.countP (ard V_) : Nat) : Int)) H'
theorem ok_RC {f : Addr} {fd : FuncData} {fHS : Addr} {dHS : FuncData} {k : Nat} (F : Fun K "_law_reached" "_law_reached" sRC f fd) (GHS : FnOk P w K mg base CX0 (k + 1) fHS dHS ["outer", "inner"] (spCont K)) (gHS : mg "_law_has" = some (.ref fHS)) (kHS : PySem.W.keepIn K (.ref fHS) = true) (bHS : Binds K dHS ["outer", "inner"] []) (mlen : mg "len" = none) : FnOk P w K mg base CX0 (k + 2) f fd ["ranges", "some"] spRC := by
  refine F.ok scRC (fun vs H Q E h => ?_) (fun cdv A outer s H vs Q E hr h => ?_)
  · obtain ⟨a, b, xs, ys, rs, V_, rfl, _⟩ := h
    rfl
  · obtain ⟨a, b, xs, ys, rs, V_, rfl, hA, pa, hB, pb, hl1, hl2, hq⟩ := h
    refine ⟨_, (pss_one (ps_ret (pe_callB call_len_seq (by rfl) mlen PySem.boot_len (pa_cons (pe_lc (own := [("one", 2)]) (g := gName 2) (tt := tTest (tOp (rNeD K) (tLc (iList K (tVar 1)) (gName 3) (tB (tCall (spCont K) [] E0 (tCons (tVar 2) (tCons (tVar 3) tNil)))) (tVar 3) [3]) (tLst tNil))) (te := tVar 2) rfl scRC.nd (pi_list (pv 0)) (blkOk_by (own := [("one", 2)]) (N := ["ranges", "some", "one", "x"]) (sc := defScope sRC) (by decide +kernel)) (fun _ _ _ _ _ => (pg_name (i := 2) scRC.nd rfl (Or.inr rfl) (Or.inl rfl))) (fun _ _ _ _ _ => pts_one (pt_cmpR (op_neD hr.units) (pe_lc (own := [("x", 3)]) (g := gName 3) (tt := tB (tCall (spCont K) [] E0 (tCons (tVar 2) (tCons (tVar 3) tNil)))) (te := tVar 3) rfl scRC.nd (pi_list (pv 1)) (blkOk_by (own := [("x", 3)]) (by with_unfolding_all rfl)) (fun _ _ _ _ _ => (pg_name (i := 3) scRC.nd rfl (Or.inl rfl) (Or.inr rfl))) (fun _ _ _ _ _ => pts_one (pt_val (pe_call GHS hr (by rfl) gHS kHS bHS .nil pass0 (pa_cons (pv 2) (pa_cons (pv 3) pa_nil))))) (fun _ _ _ _ _ => (pv 3))) (pe_lst pa_nil) (nomark _))) (fun _ _ _ _ _ => (pv 2))) pa_nil)))), ?_⟩
    have la := pa.length
    have lb := pb.length
    refine ⟨.ref a, rfl, a, rfl, ⟨xs, SqL.of hA⟩, fun D nD => ?_⟩
    refine lc_it (walk_list (xs := xs)) (fun i Hz => Same H Hz ∧ ∃ acc : List V, Hz D = some (.lst acc) ∧ acc.length = (rs.take i).countP (ard V_)) ⟨same_new nD, [], upd_same, rfl⟩ (fun i Hz _ z => SqL.of (z.1 _ _ hA)) ?_ ?_
    · rintro i x Hz Hy hi ⟨sz, acc, eD, lacc⟩ ⟨rfl, hx⟩
      obtain ⟨r, p, er, rfl, e2⟩ := pr_at pa hx
      have ep := sz _ _ e2
      have hBz := sz _ _ hB
      have pbz := pb.same sz
      have cnt : (rs.take (i + 1)).countP (ard V_) = (rs.take i).countP (ard V_) + (if ard V_ r = true then 1 else 0) := by
        rw [List.take_add_one, er, Option.toList_some, List.countP_append, List.countP_singleton]
      have cle : (rs.take i).countP (ard V_) ≤ rs.length := Nat.le_trans List.countP_le_length (by rw [List.length_take]; omega)
      refine ⟨rfl, .ref b, rfl, b, rfl, ⟨ys, SqL.of hBz⟩, fun D2 nD2 => ?_⟩
      have nDD : D2 ≠ D := fun z => by rw [z, eD] at nD2; cases nD2
      refine lc_it (walk_list (xs := ys)) (fun j Hw => Same Hy Hw ∧ ∃ bcc : List V, Hw D2 = some (.lst bcc) ∧ PairsAt Hw bcc ((V_.take j).filter (hasB r))) ⟨same_new nD2, [], upd_same, trivial⟩ (fun j Hw _ z => SqL.of (z.1 _ _ hBz)) ?_ ?_
      · rintro j y Hw Hv hj ⟨sw2, bcc, eD2, pd⟩ ⟨rfl, hy⟩
        obtain ⟨v, q, ev, rfl, e3⟩ := pr_at pbz hy
        have tk : (V_.take (j + 1)).filter (hasB r) = (V_.take j).filter (hasB r) ++ (if hasB r v = true then [v] else []) := by
          rw [List.take_add_one, ev, Option.toList_some, List.filter_append, List.filter_cons, List.filter_nil]
        have lb2 := pd.length
        have lf : ((V_.take j).filter (hasB r)).length ≤ V_.length := Nat.le_trans (List.length_filter_le _ _) (by rw [List.length_take]; omega)
        refine ⟨rfl, .ref p, rfl, .ref q, rfl, p, q, r.1, r.2, v.1, v.2, rfl, SqT.of (sw2 _ _ ep), SqT.of (sw2 _ _ e3), _, rfl, ?_⟩
        show if hasB r v = true then _ else _
        cases hh : hasB r v with
        | true =>
          refine iteT ⟨.ref q, rfl, bcc, eD2, small3000 (by omega), same_again nD2 sw2, bcc ++ [.ref q], upd_same, ?_⟩
          rw [tk, hh, if_pos rfl]
          exact PairsAt.put eD2 (pd.append ⟨⟨q, rfl, sw2 _ _ e3⟩, trivial⟩)
        | false =>
          refine iteF ⟨sw2, bcc, eD2, ?_⟩
          rw [tk, hh, if_neg Bool.false_ne_true, List.append_nil]
          exact pd
      · rintro Hw ⟨sw2, bcc, eD2, pd⟩
        rw [lb, List.take_length] at pd
        refine ⟨Nat.zero_le _, fun e1 ne1 => ?_⟩
        have se := same_new ne1 (o := .lst [])
        refine ⟨.list (dPairs (V_.filter (hasB r))), .list [], .lst (SqL.of (se _ _ eD2)) (dp_pairs (pd.same se)), .lst (SqL.of upd_same) .nil, shaped_prs _, shaped_lst [], _, rfl, ?_⟩
        rw [ev_emp]
        have sA := (sz.trans sw2).trans se
        have eDA := (sw2.trans se) _ _ eD
        have emp : (V_.filter (hasB r)).isEmpty = !ard V_ r := by
          unfold ard
          rw [Bool.eq_iff_iff, List.isEmpty_iff, List.filter_eq_nil_iff, Bool.not_eq_true', List.any_eq_false]
        rw [emp, Bool.not_not]
        cases hh : ard V_ r with
        | true =>
          refine iteT ⟨.ref p, rfl, acc, eDA, small3000 (by omega), same_again nD sA, acc ++ [.ref p], upd_same, ?_⟩
          rw [cnt, hh, if_pos rfl, List.length_append, List.length_singleton, lacc]
        | false =>
          refine iteF ⟨sA, acc, eDA, ?_⟩
          rw [cnt, hh, if_neg Bool.false_ne_true, Nat.add_zero, lacc]
    · rintro Hz ⟨sz, acc, eD, lacc⟩
      rw [la, List.take_length] at lacc
      have hq := hq _ sz
      refine ⟨D, _, rfl, .inl (SqL.of eD), ?_⟩
      rw [lacc]
      exact hq
def spST : Sp := fun vs H Q _ => ∃ (a : Addr) (xs : List V) (D_ : List (Int × Int)), vs = [.ref a] ∧ H a = some (.lst xs) ∧ PairsAt H xs D_ ∧ D_.length ≤ 10 ∧
  ∀ H' p zs, Same H H' → H' p = some (.lst zs) → SA H' zs (subs D_ [[]]) → Q (.ref p) H'
theorem ok_ST {f : Addr} {fd : FuncData} {k : Nat} (F : Fun K "_law_sets" "_law_sets" sST f fd)  : FnOk P w K mg base CX0 (k + 1) f fd ["things"] spST := by
  refine F.ok scST (fun vs H Q E h => ?_) (fun cdv A outer s H vs Q E hr h => ?_)
  · obtain ⟨a, xs, D_, rfl, _⟩ := h
    rfl
  · obtain ⟨a, xs, D_, rfl, hA, pa, hl, hq⟩ := h
    refine ⟨_, (pss_cons (ps_set (i := 1) scST.nd rfl (.inl rfl) (pe_lst (pa_cons (pe_lst pa_nil) pa_nil)))
      (pss_cons (ps_for PassesOwn.never rfl (pi_list (pv 0)) (pg_name (i := 2) scST.nd rfl (.inr rfl))
      (pss_one (ps_set (i := 1) scST.nd rfl (.inl rfl) (pe_op op_cat (pv 1) (pe_lc (own := [("one", 3)]) (g := gName 3) (tt := tYes)  rfl scST.nd (pi_list (pv 1)) (blkOk_by (own := [("one", 3)]) (N := ["things", "found", "thing", "one"]) (sc := defScope sST) (by decide +kernel)) (fun _ _ _ _ _ => (pg_name (i := 3) scST.nd rfl (Or.inl rfl) (Or.inr rfl))) (fun _ _ _ _ _ => pts_nil) (fun _ _ _ _ _ => (pe_op op_cat (pv 3) (pe_lst (pa_cons (pv 2) pa_nil)))))))))
      (pss_one (ps_ret (pv 1))))), ?_⟩
    have la := pa.length
    refine ⟨Nat.zero_le _, fun e0 ne0 => ⟨by show 1 ≤ sizeLine; decide, fun l0 nl0 => ?_⟩⟩
    have s1 := same_new ne0 (o := .lst [])
    have s2 := same_new nl0 (o := .lst [.ref e0])
    have he0 := s2 _ _ (upd_same (H := H) (a := e0) (o := .lst []))
    have hl0 := upd_same (H := upd H e0 (.lst [])) (a := l0) (o := .lst [.ref e0])
    have s0 := s1.trans s2
    generalize upd (upd H e0 (.lst [])) l0 (.lst [.ref e0]) = H1 at he0 hl0 s0 ⊢
    clear s1 s2 ne0 nl0
    refine ⟨.ref a, rfl, a, rfl, ⟨xs, SqL.of (s0 _ _ hA)⟩, for_it (walk_list (xs := xs)) (fun i σ Hz => Same H Hz ∧ ∃ (p : Addr) (zs : List V) (Ls : List (List (Int × Int))), Hz p = some (.lst zs) ∧ SA Hz zs Ls ∧ Ls.length = 2 ^ i ∧ (∀ L ∈ Ls, L.length ≤ i) ∧ subs (D_.drop i) Ls = subs D_ [[]] ∧ ∃ r2 r3 : Option V, σ = [some (.ref a), some (.ref p), r2, r3])
      ⟨s0, l0, [.ref e0], [[]], hl0, ⟨⟨e0, [], rfl, he0, trivial⟩, trivial⟩, rfl, fun L hL => by rw [List.mem_singleton.mp hL]; exact Nat.le_refl _, by rw [List.drop_zero], _, _, rfl⟩ (fun i σ Hz _ z => SqL.of (z.1 _ _ hA)) ?_ ?_⟩
    · rintro i x σ Hz Hy hi ⟨sz, p, zs, Ls, hp, sa, len, lens, hsub, r2, r3, rfl⟩ ⟨rfl, hx⟩
      obtain ⟨r, t, er, rfl, e2⟩ := pr_at pa hx
      have et := sz _ _ e2
      have lz := sa.length
      have hiD : i < D_.length := by omega
      have p10 : 2 ^ i ≤ 2 ^ 10 := Nat.pow_le_pow_right (by decide) (by omega)
      have p10' : (2 : Nat) ^ 10 = 1024 := by decide
      refine ⟨.ref p, rfl, .ref p, rfl, p, rfl, ⟨zs, SqL.of hp⟩, fun D nD => ?_⟩
      refine lc_it (walk_list (xs := zs)) (fun j Hw => Same Hy Hw ∧ ∃ acc : List V, Hw D = some (.lst acc) ∧ SAd D Hw acc ((Ls.take j).map (· ++ [r]))) ⟨same_new nD, [], upd_same, trivial⟩ (fun j Hw _ z => SqL.of (z.1 _ _ hp)) ?_ ?_
      · rintro j y Hw Hv hj ⟨sw2, acc, eD, pd⟩ ⟨rfl, hy⟩
        obtain ⟨L, q, ys, eL, rfl, hq1, hq2⟩ := sa.at hy
        have la2 := pd.length
        rw [List.length_map, List.length_take] at la2
        have lys := hq2.length
        have lL := lens L (List.mem_of_getElem? eL)
        refine ⟨rfl, iteT (B := True) ⟨.ref q, rfl, .ref t, rfl, by show 1 ≤ sizeLine; decide, fun u nu => ?_⟩⟩
        have su := same_new nu (o := .lst [.ref t])
        refine ⟨q, u, ys, [.ref t], rfl, rfl, su _ _ (sw2 _ _ hq1), upd_same, ?_, fun v nv => ?_⟩
        · rw [List.length_singleton]
          exact Nat.le_of_lt (small3000 (by omega))
        have sv := same_new nv (o := .lst (ys ++ [.ref t]))
        have sA := (sw2.trans su).trans sv
        have eD2 := (su.trans sv) _ _ eD
        have nvD : v ≠ D := fun z => by
          have := su _ _ eD
          rw [z, this] at nv
          cases nv
        refine ⟨acc, eD2, small3000 (by omega), same_again nD sA, acc ++ [.ref v], upd_same, ?_⟩
        rw [List.take_add_one, eL, Option.toList_some, List.map_append]
        exact SAd.put eD2 ((pd.same (su.trans sv)).append ⟨⟨v, ys ++ [.ref t], rfl, nvD, upd_same, (hq2.same sA).append ⟨⟨t, rfl, sA _ _ et⟩, trivial⟩⟩, trivial⟩)
      · rintro Hw ⟨sw2, acc, eD, pd⟩
        rw [lz, List.take_length] at pd
        have lacc := pd.length
        rw [List.length_map] at lacc
        refine ⟨p, D, zs, acc, rfl, rfl, sw2 _ _ hp, eD, Nat.le_of_lt (small3000 (by omega)), fun u nu => ?_⟩
        have su := same_new nu (o := .lst (zs ++ acc))
        refine ⟨(sz.trans sw2).trans su, u, zs ++ acc, Ls ++ Ls.map (· ++ [r]), upd_same, ((sa.same sw2).append pd.sa).same su, by rw [List.length_append, List.length_map, len, Nat.pow_succ]; omega, fun L hL => ?_, ?_, _, _, rfl⟩
        · rcases List.mem_append.mp hL with z | z
          · have := lens L z
            omega
          · obtain ⟨M, hM, rfl⟩ := List.mem_map.mp z
            have := lens M hM
            rw [List.length_append, List.length_singleton]
            omega
        · rw [← hsub, List.drop_eq_getElem_cons hiD, show D_[i] = r from Option.some.inj ((List.getElem?_eq_getElem hiD).symm.trans er)]
          rfl
    · rintro σ Hz ⟨sz, p, zs, Ls, hp, sa, len, lens, hsub, r2, r3, rfl⟩
      rw [la, List.drop_length] at hsub
      have hsub : Ls = subs D_ [[]] := hsub
      subst hsub
      exact ⟨.ref p, rfl, hq Hz p zs sz hp sa⟩
theorem lsub (L D_ : List (Int × Int)) (h : D_.length ≤ 10) (m : L ∈ subs D_ [[]]) : L.length ≤ 500 := by
  have key : ∀ (D_ : List (Int × Int)) (Ls : List (List (Int × Int))) (n : Nat), (∀ M ∈ Ls, M.length ≤ n) → ∀ L ∈ subs D_ Ls, L.length ≤ n + D_.length := fun D_ => by
    induction D_ with
    | nil => intro Ls n h L m; exact h L m
    | cons t D_ ih =>
      intro Ls n h L m
      have := ih (Ls ++ Ls.map (· ++ [t])) (n + 1) (fun M hM => by
        rcases List.mem_append.mp hM with z | z
        · have := h M z
          omega
        · obtain ⟨N, hN, rfl⟩ := List.mem_map.mp z
          have := h N hN
          rw [List.length_append, List.length_singleton]
          omega) L m
      rw [List.length_cons]
      omega
  have := key D_ [[]] 0 (fun M hM => by rw [List.mem_singleton.mp hM]; exact Nat.le_refl _) L m
  omega
def spNV : Sp := fun vs H Q _ => ∃ (a b : Addr) (xs us : List V) (rs qs : List (Int × Int)), vs = [.ref a, .ref b] ∧ H a = some (.lst xs) ∧ PairsAt H xs rs ∧ H b = some (.lst us) ∧ PairsAt H us qs ∧ rs.length ≤ 10 ∧ qs.length ≤ 500 ∧ (∀ r ∈ rs, 0 ≤ r.1 ∧ r.1 < 1048576 ∧ 0 ≤ r.2 ∧ r.2 < 1048576) ∧
  ∀ H', Same H H' → Q (.bl (nmB rs qs)) H'
theorem ok_NV {f : Addr} {fd : FuncData} {fRC : Addr} {dRC : FuncData} {fST : Addr} {dST : FuncData} {k : Nat} (F : Fun K "_law_never" "_law_never" sNV f fd) (GRC : FnOk P w K mg base CX0 (k + 2) fRC dRC ["ranges", "some"] spRC) (gRC : mg "_law_reached" = some (.ref fRC)) (kRC : PySem.W.keepIn K (.ref fRC) = true) (bRC : Binds K dRC ["ranges", "some"] []) (GST : FnOk P w K mg base CX0 (k + 1) fST dST ["things"] spST) (gST : mg "_law_sets" = some (.ref fST)) (kST : PySem.W.keepIn K (.ref fST) = true) (bST : Binds K dST ["things"] []) (mso : mg "sorted" = none) (mset : mg "set" = none) : FnOk P w K mg base CX0 (k + 3) f fd ["first", "second"] spNV := by
  refine F.ok scNV (fun vs H Q E h => ?_) (fun cdv A outer s H vs Q E hr h => ?_)
  · obtain ⟨a, b, xs, us, rs, qs, rfl, _⟩ := h
    rfl
  · obtain ⟨a, b, xs, us, rs, qs, rfl, hA, pa, hB, pb, hl1, hl2, bd, hq⟩ := h
    refine ⟨_, (pss_cons (ps_for PassesOwn.never rfl (pi_list (pe_call (GST.mono (show k + 1 ≤ k + 2 by omega)) hr (by rfl) gST kST bST .nil pass0 (pa_cons (pe_callB (cr_sortedT rfl) (by rfl) mso (by decide +kernel) (pa_cons (pe_callTy (cr_setOfT rfl hr.units) (by rfl) mset (by decide +kernel) (pa_cons (pv 0) pa_nil)) pa_nil)) pa_nil))) (pg_name (i := 2) scNV.nd rfl (.inl rfl))
      (pss_one (ps_if (pt_cmpR op_gt (pe_call (GRC.mono (show k + 2 ≤ k + 2 by omega)) hr (by rfl) gRC kRC bRC .nil pass0 (pa_cons (pv 0) (pa_cons (pv 2) pa_nil))) (pe_call (GRC.mono (show k + 2 ≤ k + 2 by omega)) hr (by rfl) gRC kRC bRC .nil pass0 (pa_cons (pv 1) (pa_cons (pv 2) pa_nil))) (nomark _)) (pss_one (ps_ret pe_bl)) pss_nil)))
      (pss_one (ps_ret pe_bl))), ?_⟩
    have la := pa.length
    obtain ⟨ks, ex, e2, e3⟩ := pairs_ks pa
    have lk : ks.length = rs.length := by
      have := congrArg List.length e2
      rwa [List.length_map, List.length_map] at this
    refine ⟨.ref a, rfl, a, ks, rfl, by rw [← ex]; exact SqL.of hA, fun p hp => SqT.of (e3 p hp).1, by omega, fun s L ns_ hL1 hL2 => ?_⟩
    have ss1 := same_new ns_ (o := SetTO P w s L)
    refine ⟨s, L, 2, 1048576, rfl, upd_same, fun p hp => SqT.of (ss1 _ _ (e3 p (hL1 p hp)).1), by decide, fun p hp => ?_, fun L' so pm ndL l64 _ nso => ?_⟩
    · obtain ⟨_, r, hr, er⟩ := e3 p (hL1 p hp)
      have := bd r hr
      rw [er]
      refine ⟨rfl, fun m hm => ?_⟩
      simp only [List.mem_cons, List.not_mem_nil, or_false] at hm
      omega
    have sso := same_new nso (o := .lst (L'.map fun q => V.ref q.1))
    have hso := upd_same (H := upd H s (SetTO P w s L)) (a := so) (o := .lst (L'.map fun q => V.ref q.1))
    have s2 := ss1.trans sso
    have pd : PairsAt (upd (upd H s (SetTO P w s L)) so (.lst (L'.map fun q => V.ref q.1))) (L'.map fun q => V.ref q.1) (L'.map fun q => toR q.2) := pairs_ksb fun p hp => by
      obtain ⟨g1, r, _, g2⟩ := e3 p (hL1 p (pm.mem_iff.mp hp))
      exact ⟨s2 _ _ g1, r.1, r.2, g2⟩
    have hD : ∀ v, v ∈ L'.map (fun q => toR q.2) ↔ v ∈ rs := fun v => by
      constructor
      · intro h
        obtain ⟨q, hq1, rfl⟩ := List.mem_map.mp h
        obtain ⟨_, r, hr, g2⟩ := e3 q (hL1 q (pm.mem_iff.mp hq1))
        rw [g2]
        exact hr
      · intro h
        have : [v.1, v.2] ∈ ks.map (·.2) := by rw [e2]; exact List.mem_map.mpr ⟨v, h, rfl⟩
        obtain ⟨q, hq1, hq2⟩ := List.mem_map.mp this
        obtain ⟨q', hq3, hq4⟩ := List.mem_map.mp (hL2 q hq1)
        exact List.mem_map.mpr ⟨q', pm.mem_iff.mpr hq3, by rw [hq4, hq2]; rfl⟩
    have lD : (L'.map fun q => toR q.2).length ≤ 10 := by
      rw [List.length_map, show L'.length = (L'.map (·.2)).length from (List.length_map _).symm]
      refine Nat.le_trans (K55c.sub_len ndL (m := ks.map (·.2)) fun l hl => ?_) (by rw [List.length_map]; omega)
      obtain ⟨q, hq1, rfl⟩ := List.mem_map.mp hl
      exact List.mem_map.mpr ⟨q, hL1 q (pm.mem_iff.mp hq1), rfl⟩
    obtain ⟨D_, hD_⟩ : ∃ D_, D_ = L'.map (fun q => toR q.2) := ⟨_, rfl⟩
    rw [← hD_] at hD lD pd
    clear hD_
    refine ⟨so, _, D_, rfl, hso, pd, lD, fun H2 p zs s3 hp sa => ?_⟩
    have s4 := s2.trans s3
    have lz := sa.length
    refine ⟨p, rfl, ⟨zs, SqL.of hp⟩, for_it (walk_list (xs := zs)) (fun i σ Hz => Same H2 Hz ∧ (∀ V_ ∈ (subs D_ [[]]).take i, rs.countP (ard V_) ≤ qs.countP (ard V_)) ∧ ∃ r2 : Option V, σ = [some (.ref a), some (.ref b), r2])
      ⟨Same.refl H2, fun _ z => by simp at z, _, rfl⟩ (fun i σ Hz _ z => SqL.of (z.1 _ _ hp)) ?_ ?_⟩
    · rintro i x σ Hz Hy hi ⟨sz, hall, r2, rfl⟩ ⟨rfl, hx⟩
      obtain ⟨L_, q, ys, eL, rfl, hq1, hq2⟩ := sa.at hx
      have s5 := s4.trans sz
      have lL : L_.length ≤ 500 := lsub L_ D_ lD (List.mem_of_getElem? eL)
      refine ⟨.ref a, rfl, .ref q, rfl, a, q, xs, ys, rs, L_, rfl, s5 _ _ hA, pa.same s5, sz _ _ hq1, hq2.same sz, by omega, lL, fun H3 s6 => ?_⟩
      have s7 := s5.trans s6
      refine ⟨.ref b, rfl, .ref q, rfl, b, q, us, ys, qs, L_, rfl, s7 _ _ hB, pb.same s7, s6 _ _ (sz _ _ hq1), (hq2.same sz).same s6, by omega, lL, fun H4 s8 => ?_⟩
      refine ⟨_, _, rfl, rfl, _, rfl, ?_⟩
      by_cases hgt : (rs.countP (ard L_) : Int) > (qs.countP (ard L_) : Int)
      · rw [decide_eq_true hgt]
        have hq := hq _ (s7.trans s8)
        have : nmB rs qs = false := by
          cases e : nmB rs qs with
          | false => rfl
          | true =>
            have := (nm_subs hD).mp (nmB_iff.mp e) L_ (List.mem_of_getElem? eL)
            omega
        rw [this] at hq
        exact iteT hq
      · rw [decide_eq_false hgt]
        refine iteF ⟨(sz.trans s6).trans s8, fun V_ hV => ?_, _, rfl⟩
        rw [List.take_add_one, eL, Option.toList_some] at hV
        rcases List.mem_append.mp hV with z | z
        · exact hall V_ z
        · rw [List.mem_singleton.mp z]
          omega
    · rintro σ Hz ⟨sz, hall, r2, rfl⟩
      have hq := hq _ (s4.trans sz)
      rw [lz, List.take_length] at hall
      rw [show nmB rs qs = true from nmB_iff.mpr ((nm_subs hD).mpr hall)] at hq
      exact hq
def spWD (K : PySem.W.Frag) : Sp := fun vs H Q _ => ∃ (a b : Addr) (ns ms : List Int), vs = [.ref a, .ref b] ∧ Sq K H a (ns.map V.int) ∧ Sq K H b (ms.map V.int) ∧ ns.length ≤ 10 ∧ ms.length ≤ 10 ∧ (∀ x ∈ ns, 0 ≤ x ∧ x < 1048576) ∧ (∀ x ∈ ms, 0 ≤ x ∧ x < 1048576) ∧
  ∀ H' es fs, Same H H' → Hc ns es → Hc ms fs → Q (.str (wstr (word es fs))) H'
theorem ok_WD {f : Addr} {fd : FuncData} {fHV : Addr} {dHV : FuncData} {fNV : Addr} {dNV : FuncData} {k : Nat} (F : Fun K "_law_word" "_law_word" sWD f fd) (GHV : FnOk P w K mg base CX0 (k + 4) fHV dHV ["load"] (spHV K)) (gHV : mg "_law_halves" = some (.ref fHV)) (kHV : PySem.W.keepIn K (.ref fHV) = true) (bHV : Binds K dHV ["load"] []) (GNV : FnOk P w K mg base CX0 (k + 3) fNV dNV ["first", "second"] spNV) (gNV : mg "_law_never" = some (.ref fNV)) (kNV : PySem.W.keepIn K (.ref fNV) = true) (bNV : Binds K dNV ["first", "second"] []) : FnOk P w K mg base CX0 (k + 5) f fd ["one", "other"] (spWD K) := by
  refine F.ok scWD (fun vs H Q E h => ?_) (fun cdv A outer s H vs Q E hr h => ?_)
  · obtain ⟨a, b, ns, ms, rfl, _⟩ := h
    rfl
  · obtain ⟨a, b, ns, ms, rfl, hA, hB, hl1, hl2, ba, bb, hq⟩ := h
    refine ⟨_, (pss_cons (ps_par (i := 2) (j := 3) (by rfl) scWD.nd rfl rfl (by decide) rfl rfl (pa_cons (pe_call (GHV.mono (show k + 4 ≤ k + 4 by omega)) hr (by rfl) gHV kHV bHV .nil pass0 (pa_cons (pv 0) pa_nil)) (pa_cons (pe_call (GHV.mono (show k + 4 ≤ k + 4 by omega)) hr (by rfl) gHV kHV bHV .nil pass0 (pa_cons (pv 1) pa_nil)) pa_nil)) (by rfl))
      (pss_cons (ps_if (pt_cmpR (op_eqD hr.units) (pv 2) (pv 3) (nomark _)) (pss_one (ps_ret pe_str)) pss_nil)
      (pss_cons (ps_if (pt_val (pe_call (GNV.mono (show k + 3 ≤ k + 4 by omega)) hr (by rfl) gNV kNV bNV .nil pass0 (pa_cons (pv 2) (pa_cons (pv 3) pa_nil)))) (pss_one (ps_ret pe_str)) pss_nil)
      (pss_one (ps_ret (pe_ifExp (pt_val (pe_call (GNV.mono (show k + 3 ≤ k + 4 by omega)) hr (by rfl) gNV kNV bNV .nil pass0 (pa_cons (pv 3) (pa_cons (pv 2) pa_nil)))) pe_str pe_str)))))), ?_⟩
    refine ⟨.ref a, rfl, a, ns, rfl, hA, by omega, fun H1 p xs es s1 np hp pe he le me => ?_⟩
    refine ⟨.ref b, rfl, b, ms, rfl, hB.same s1, by omega, fun H2 q ys fs s2 nq hq2 pf hf lf mf => ⟨.ref p, .ref q, rfl, ?_⟩⟩
    have hp2 := s2 _ _ hp
    have pe2 := pe.same s2
    have s12 := s1.trans s2
    refine ⟨.ref p, rfl, .ref q, rfl, .list (dPairs es), .list (dPairs fs), .lst (SqL.of hp2) (dp_pairs pe2), .lst (SqL.of hq2) (dp_pairs pf), shaped_prs _, shaped_prs _, _, rfl, ?_⟩
    rw [ev_prs]
    have be : ∀ r ∈ es, 0 ≤ r.1 ∧ r.1 < 1048576 ∧ 0 ≤ r.2 ∧ r.2 < 1048576 := fun r hr => by
      have h1 := ba _ (me r hr).1
      have h2 := ba _ (me r hr).2
      omega
    have bf : ∀ r ∈ fs, 0 ≤ r.1 ∧ r.1 < 1048576 ∧ 0 ≤ r.2 ∧ r.2 < 1048576 := fun r hr => by
      have h1 := bb _ (mf r hr).1
      have h2 := bb _ (mf r hr).2
      omega
    have fin : ∀ H' (z : Wd), Same H H' → word es fs = z → Q (.str (wstr z)) H' := fun H' z s e => by rw [← e]; exact hq H' es fs s he hf
    by_cases hef : es = fs
    · rw [decide_eq_true hef]
      exact iteT (fin _ .alike s12 (if_pos hef))
    rw [decide_eq_false hef]
    refine iteF ⟨.ref p, rfl, .ref q, rfl, p, q, xs, ys, es, fs, rfl, hp2, pe2, hq2, pf, by omega, by omega, be, fun H3 s3 => ⟨_, rfl, ?_⟩⟩
    cases h1 : nmB es fs with
    | true => exact iteT (fin _ .less (s12.trans s3) (by unfold word; rw [if_neg hef, if_pos h1]))
    | false =>
      refine iteF ⟨.ref q, rfl, .ref p, rfl, q, p, ys, xs, fs, es, rfl, s3 _ _ hq2, pf.same s3, s3 _ _ hp2, pe2.same s3, by omega, by omega, bf, fun H4 s4 => ⟨_, rfl, ?_⟩⟩
      cases h2 : nmB fs es with
      | true => exact iteT (fin _ .more ((s12.trans s3).trans s4) (by unfold word; rw [if_neg hef, if_neg (by rw [h1]; exact Bool.false_ne_true), if_pos h2]))
      | false => exact iteF (fin _ .neither ((s12.trans s3).trans s4) (by unfold word; rw [if_neg hef, if_neg (by rw [h1]; exact Bool.false_ne_true), if_neg (by rw [h2]; exact Bool.false_ne_true)]))
def spSZ : Sp := fun vs H Q _ => ∃ (a b : Addr) (xs ys : List V) (rs ss : List (Int × Int)), vs = [.ref a, .ref b] ∧ H a = some (.lst xs) ∧ PairsAt H xs rs ∧ H b = some (.lst ys) ∧ PairsAt H ys ss ∧ rs.length ≤ 500 ∧ ss.length ≤ 500 ∧
  ∀ H', Same H H' → Q (optV (upto rs ss 8)) H'
theorem ok_SZ {f : Addr} {fd : FuncData} {k : Nat} (F : Fun K "_law_size" "_law_size" sSZ f fd) (mr : mg "range" = none) (mlen : mg "len" = none) : FnOk P w K mg base CX0 (k + 1) f fd ["first", "second"] spSZ := by
  refine F.ok scSZ (fun vs H Q E h => ?_) (fun cdv A outer s H vs Q E hr h => ?_)
  · obtain ⟨a, b, xs, ys, rs, ss, rfl, _⟩ := h
    rfl
  · obtain ⟨a, b, xs, ys, rs, ss, rfl, hA, pa, hB, pb, hl1, hl2, hq⟩ := h
    refine ⟨_, (pss_cons (ps_set (i := 2) scSZ.nd rfl (.inl rfl) pe_non)
      (pss_cons (ps_for PassesOwn.never rfl (pi_range2 rfl mr (pa_cons pe_int (pa_cons pe_int pa_nil))) (pg_name (i := 3) scSZ.nd rfl (.inr rfl))
      (pss_cons (ps_set (i := 4) scSZ.nd rfl (.inl rfl) (pe_callB call_len_seq (by rfl) mlen PySem.boot_len (pa_cons (pe_lc (own := [("one", 5)]) (g := gName 5) (tt := tTest (tOp (rI0 fun i j => V.bl (decide (j ≤ i))) (tOp (rI0 fun i j => V.int (i - j)) (tOp (rIxT K) (tVar 5) (tC (V.int 1))) (tOp (rIxT K) (tVar 5) (tC (V.int 0)))) (tVar 3))) (te := tVar 5) rfl scSZ.nd (pi_list (pv 0)) (blkOk_by (own := [("one", 5)]) (N := ["first", "second", "found", "size", "many", "one"]) (sc := defScope sSZ) (by decide +kernel)) (fun _ _ _ _ _ => (pg_name (i := 5) scSZ.nd rfl (Or.inl rfl) (Or.inr rfl))) (fun _ _ _ _ _ => pts_one (pt_cmpR op_ge (pe_op op_sub (pe_ix ix_tup (pv 5) pe_int (fun _ _ => rfl)) (pe_ix ix_tup (pv 5) pe_int (fun _ _ => rfl))) (pv 3) (nomark _))) (fun _ _ _ _ _ => (pv 5))) pa_nil)))
      (pss_one (ps_if (pt_cmpR op_gt (pv 4) (pe_callB call_len_seq (by rfl) mlen PySem.boot_len (pa_cons (pe_lc (own := [("one", 5)]) (g := gName 5) (tt := tTest (tOp (rI0 fun i j => V.bl (decide (j ≤ i))) (tOp (rI0 fun i j => V.int (i - j)) (tOp (rIxT K) (tVar 5) (tC (V.int 1))) (tOp (rIxT K) (tVar 5) (tC (V.int 0)))) (tVar 3))) (te := tVar 5) rfl scSZ.nd (pi_list (pv 1)) (blkOk_by (own := [("one", 5)]) (N := ["first", "second", "found", "size", "many", "one"]) (sc := defScope sSZ) (by decide +kernel)) (fun _ _ _ _ _ => (pg_name (i := 5) scSZ.nd rfl (Or.inl rfl) (Or.inr rfl))) (fun _ _ _ _ _ => pts_one (pt_cmpR op_ge (pe_op op_sub (pe_ix ix_tup (pv 5) pe_int (fun _ _ => rfl)) (pe_ix ix_tup (pv 5) pe_int (fun _ _ => rfl))) (pv 3) (nomark _))) (fun _ _ _ _ _ => (pv 5))) pa_nil)) (nomark _)) (pss_one (ps_set (i := 2) scSZ.nd rfl (.inl rfl) (pv 3))) pss_nil))))
      (pss_one (ps_ret (pv 2))))), ?_⟩
    have la := pa.length
    have lb := pb.length
    refine ⟨1, 9, rfl, by decide, for_range (lo := 1) (n := 8) (fun i σ Hz => Same H Hz ∧ ∃ r3 r4 r5 : Option V, σ = [some (.ref a), some (.ref b), some (optV (upto rs ss i)), r3, r4, r5]) ⟨Same.refl H, _, _, _, rfl⟩ ?_ ?_⟩
    · rintro i σ Hz hi ⟨sz, r3, r4, r5, rfl⟩
      have hAz := sz _ _ hA
      have hBz := sz _ _ hB
      have paz := pa.same sz
      have pbz := pb.same sz
      refine ⟨.ref a, rfl, a, rfl, ⟨xs, SqL.of hAz⟩, fun D1 nD1 => ?_⟩
      refine lc_it (walk_list (xs := xs)) (fun j Hw => Same Hz Hw ∧ ∃ acc : List V, Hw D1 = some (.lst acc) ∧ acc.length = (rs.take j).countP (szB (1 + (i : Int)))) ⟨same_new nD1, [], upd_same, rfl⟩ (fun j Hw _ z => SqL.of (z.1 _ _ hAz)) ?_ ?_
      · rintro j x Hw Hv hj ⟨sw2, acc, eD, lacc⟩ ⟨rfl, hx⟩
        obtain ⟨r, p, er, rfl, e2⟩ := pr_at paz hx
        have ep := sw2 _ _ e2
        have cnt : (rs.take (j + 1)).countP (szB (1 + (i : Int))) = (rs.take j).countP (szB (1 + (i : Int))) + (if szB (1 + (i : Int)) r = true then 1 else 0) := by
          rw [List.take_add_one, er, Option.toList_some, List.countP_append, List.countP_singleton]
        have cle : (rs.take j).countP (szB (1 + (i : Int))) ≤ rs.length := Nat.le_trans List.countP_le_length (by rw [List.length_take]; omega)
        refine ⟨rfl, .ref p, rfl, p, _, 1, .int r.2, rfl, rfl, SqT.of ep, rfl, .ref p, rfl, p, _, 0, .int r.1, rfl, rfl, SqT.of ep, rfl, _, _, rfl, rfl, .int (1 + (i : Int)), rfl, _, _, rfl, rfl, _, rfl, ?_⟩
        show if szB (1 + (i : Int)) r = true then _ else _
        cases hh : szB (1 + (i : Int)) r with
        | true =>
          refine iteT ⟨.ref p, rfl, acc, eD, small3000 (by omega), same_again nD1 sw2, acc ++ [.ref p], upd_same, ?_⟩
          rw [cnt, hh, if_pos rfl, List.length_append, List.length_singleton, lacc]
        | false =>
          refine iteF ⟨sw2, acc, eD, ?_⟩
          rw [cnt, hh, if_neg Bool.false_ne_true, Nat.add_zero, lacc]
      rintro H2 ⟨s2, acc1, eD1, l1⟩
      rw [la, List.take_length] at l1
      refine ⟨D1, _, rfl, .inl (SqL.of eD1), ?_⟩
      have hB2 := s2 _ _ hBz
      have pb2 := pbz.same s2
      refine ⟨.int _, rfl, ?_⟩
      refine ⟨.ref b, rfl, b, rfl, ⟨ys, SqL.of hB2⟩, fun D2 nD2 => ?_⟩
      refine lc_it (walk_list (xs := ys)) (fun j Hw => Same H2 Hw ∧ ∃ acc : List V, Hw D2 = some (.lst acc) ∧ acc.length = (ss.take j).countP (szB (1 + (i : Int)))) ⟨same_new nD2, [], upd_same, rfl⟩ (fun j Hw _ z => SqL.of (z.1 _ _ hB2)) ?_ ?_
      · rintro j x Hw Hv hj ⟨sw2, acc, eD, lacc⟩ ⟨rfl, hx⟩
        obtain ⟨r, p, er, rfl, e2⟩ := pr_at pb2 hx
        have ep := sw2 _ _ e2
        have cnt : (ss.take (j + 1)).countP (szB (1 + (i : Int))) = (ss.take j).countP (szB (1 + (i : Int))) + (if szB (1 + (i : Int)) r = true then 1 else 0) := by
          rw [List.take_add_one, er, Option.toList_some, List.countP_append, List.countP_singleton]
        have cle : (ss.take j).countP (szB (1 + (i : Int))) ≤ ss.length := Nat.le_trans List.countP_le_length (by rw [List.length_take]; omega)
        refine ⟨rfl, .ref p, rfl, p, _, 1, .int r.2, rfl, rfl, SqT.of ep, rfl, .ref p, rfl, p, _, 0, .int r.1, rfl, rfl, SqT.of ep, rfl, _, _, rfl, rfl, .int (1 + (i : Int)), rfl, _, _, rfl, rfl, _, rfl, ?_⟩
        show if szB (1 + (i : Int)) r = true then _ else _
        cases hh : szB (1 + (i : Int)) r with
        | true =>
          refine iteT ⟨.ref p, rfl, acc, eD, small3000 (by omega), same_again nD2 sw2, acc ++ [.ref p], upd_same, ?_⟩
          rw [cnt, hh, if_pos rfl, List.length_append, List.length_singleton, lacc]
        | false =>
          refine iteF ⟨sw2, acc, eD, ?_⟩
          rw [cnt, hh, if_neg Bool.false_ne_true, Nat.add_zero, lacc]
      rintro H3 ⟨s3, acc2, eD2, l2⟩
      rw [lb, List.take_length] at l2
      refine ⟨D2, _, rfl, .inl (SqL.of eD2), _, _, rfl, rfl, _, rfl, ?_⟩
      rw [l1, l2]
      have sA := (sz.trans s2).trans s3
      have e1 : (1 : Int) + (i : Int) = (i : Int) + 1 := by omega
      by_cases hgt : cntS ss ((i : Int) + 1) < cntS rs ((i : Int) + 1)
      · have h' : ((rs.countP (szB (1 + (i : Int))) : Nat) : Int) > ((ss.countP (szB (1 + (i : Int))) : Nat) : Int) := by
          rw [e1]
          exact Int.ofNat_lt.mpr hgt
        rw [decide_eq_true h']
        refine iteT ⟨.int (1 + (i : Int)), rfl, sA, ?_⟩
        rw [show upto rs ss (i + 1) = some (1 + (i : Int)) by rw [e1]; exact if_pos hgt]
        exact ⟨_, _, _, rfl⟩
      · have h' : ¬ ((rs.countP (szB (1 + (i : Int))) : Nat) : Int) > ((ss.countP (szB (1 + (i : Int))) : Nat) : Int) := by
          rw [e1]
          exact fun z => hgt (Int.ofNat_lt.mp z)
        rw [decide_eq_false h']
        refine iteF ⟨sA, ?_⟩
        rw [show upto rs ss (i + 1) = upto rs ss i from if_neg hgt]
        exact ⟨_, _, _, rfl⟩
    · rintro σ Hz ⟨sz, r3, r4, r5, rfl⟩
      exact ⟨optV (upto rs ss 8), rfl, hq _ sz⟩
end
end P7K

/-! counts -/
namespace QH
open PySem PySem.Spec PyProof.Rows L2 KA PH PM PA PB PC RM RN QE QF QG
abbrev sInit : Stmt := inClass sClass 0
abbrev sOf : Stmt := inClass sClass 1
abbrev sPC : Stmt := inClass sClass 4
abbrev sPR : Stmt := inClass sClass 5
abbrev sPH : Stmt := inClass sClass 6
theorem scInit : FnScope ["self", "cycles", "rest"] ["self", "cycles", "rest"] (defScope sInit) := ⟨rfl, rfl, rfl, by decide +kernel, rfl, by decide +kernel, by decide +kernel⟩
theorem scOf : FnScope ["cls", "load", "cycles", "rest"] ["cls", "load"] (defScope sOf) := ⟨rfl, rfl, rfl, by decide +kernel, rfl, by decide +kernel, by decide +kernel⟩
theorem scPC : FnScope ["self"] ["self"] (defScope sPC) := ⟨rfl, rfl, rfl, by decide +kernel, rfl, by decide +kernel, by decide +kernel⟩
theorem scPR : FnScope ["self"] ["self"] (defScope sPR) := ⟨rfl, rfl, rfl, by decide +kernel, rfl, by decide +kernel, by decide +kernel⟩
theorem scPH : FnScope ["self"] ["self"] (defScope sPH) := ⟨rfl, rfl, rfl, by decide +kernel, rfl, by decide +kernel, by decide +kernel⟩
/-! ### sorted pairs -/
/-- the pair at a ref -/
def kOf (H : Hp) : V → Int × Int
  | .ref p => match H p with
    | some (.tup [.int a, .int b]) => (a, b)
    | _ => (0, 0)
  | _ => (0, 0)
theorem kOf_at {H : Hp} {p : Addr} {r : Int × Int} (h : H p = some (.tup [.int r.1, .int r.2])) : kOf H (.ref p) = r := by
  show (match H p with | some (.tup [.int a, .int b]) => (a, b) | _ => (0, 0)) = r
  rw [h]
theorem pairs_key {H : Hp} : ∀ {xs : List V} {rs : List (Int × Int)}, PairsAt H xs rs → rs = xs.map (kOf H) ∧ ∀ x ∈ xs, ∃ t, x = V.ref t ∧ H t = some (.tup [.int (kOf H x).1, .int (kOf H x).2])
  | [], [], _ => ⟨rfl, fun _ z => (List.not_mem_nil z).elim⟩
  | x :: xs, r :: rs, ⟨⟨p, h1, h2⟩, h3⟩ => by
    obtain ⟨e, all⟩ := pairs_key h3
    subst h1
    have k := kOf_at h2
    refine ⟨by rw [List.map_cons, k, ← e], fun x hx => ?_⟩
    rcases List.mem_cons.mp hx with z | z
    · exact ⟨p, z, by rw [z, k]; exact h2⟩
    · exact all x z
  | [], _ :: _, h => h.elim
  | _ :: _, [], h => h.elim
theorem pairs_of {H : Hp} : ∀ {xs : List V}, (∀ x ∈ xs, ∃ t, x = V.ref t ∧ H t = some (.tup [.int (kOf H x).1, .int (kOf H x).2])) → PairsAt H xs (xs.map (kOf H))
  | [], _ => trivial
  | x :: xs, h => ⟨h x List.mem_cons_self, pairs_of fun y hy => h y (List.mem_cons_of_mem _ hy)⟩
theorem sorted_out {H : Hp} {xs ys : List V} {rs : List (Int × Int)} (pa : PairsAt H xs rs) (h1 : SrtO.Srtd (ltP (kOf H)) ys) (h2 : SrtO.Stb (ltP (kOf H)) ys xs) : ∃ ds, PairsAt H ys ds ∧ ds.Perm rs ∧ ds.Pairwise Le := by
  obtain ⟨e, all⟩ := pairs_key pa
  refine ⟨ys.map (kOf H), pairs_of fun y hy => all y (h2.perm.mem_iff.mp hy), by rw [e]; exact h2.perm.map _, ?_⟩
  rw [List.pairwise_map]
  refine h1.imp fun {x y} h => ?_
  have := SrtO.lexB_no.mp h
  show (kOf H x).1 < (kOf H y).1 ∨ ((kOf H x).1 = (kOf H y).1 ∧ (kOf H x).2 ≤ (kOf H y).2)
  omega
/-- cls(..), cls a parameter that holds a class -/
theorem pe_makeL {X : Cx} {CX : CXT} {k i : Nat} {C f : Addr} {fd : FuncData} {ps : List Str} {sp : Sp} {dvs : List V} {ds : List Value} {E : XK} {x : Str} {p pos : Pos} {e : Expr} {es : List Expr} {t : TA}
    (M : Mk X.K C f) (F : FnOk X.prog X.w X.K X.mg X.base CX k f fd ps sp) (hr : Room (k + 1) X.A) (hN : X.N[i]? = some x) (hv : Vis X.env.scope x) (hb : Binds X.K fd ps ds) (hd : Vals dvs ds) (hx : Passes CX X E) (ha : PA X (e :: es) t)
    (hdb : (x == ("__debug__" : Str)) = false := by decide) (hcd : (x == ("__classdict__" : Str)) = false := by decide)
    (he : starEach (e :: es) X.env = (false, eval e X.env) :: starEach es X.env := by rfl) (hpl : (backTo pos (starEach es X.env)).any (·.1) = false := by rfl) :
    PE X (.Call (.Name x p) (e :: es) [] pos) (fun σ H Q => σ[i]? = some (some (.ref C)) ∧ tMake C sp dvs E t σ H Q) := by
  refine ⟨fun pins s σ H Q I ⟨hs, ht⟩ => ?_⟩
  refine wpAny_Call_Name_kw (thn ((pe_var (pos := p) hN hv hdb hcd).run pins s σ H (fun v H1 => v = .ref C ∧ H1 = H) I ⟨.ref C, hs, rfl, rfl⟩) fun u s1 ⟨v, H1, I1, r1, e1, e2⟩ => ?_)
  subst e1 e2
  cases r1
  exact PySem.W.callWith_K (h₀ := X.base) I.ok.mod.kin M.kp (thn (ha.run pos pins s1 σ _ _ I1 ht) fun us s2 ⟨vs, H2, I2, r, q⟩ => ⟨I2.kIn, run_make M F hr hb hd hx I2 r q⟩) he hpl
/-- a count stands at x -/
def CountAt (H : Hp) (C x : Addr) (ds : List (Int × Int)) (rs : List Int) : Prop := ∃ (dx t1 t2 : Addr) (ys : List V), H x = some (.ins C dx [("_cycles", .ref t1), ("_rest", .ref t2)]) ∧ H t1 = some (.tup ys) ∧ PairsAt H ys ds ∧ H t2 = some (.tup (rs.map V.int))
theorem CountAt.same {H H' : Hp} {C x : Addr} {ds : List (Int × Int)} {rs : List Int} (h : CountAt H C x ds rs) (s : Same H H') : CountAt H' C x ds rs := by
  obtain ⟨dx, t1, t2, ys, h1, h2, h3, h4⟩ := h
  exact ⟨dx, t1, t2, ys, s _ _ h1, s _ _ h2, h3.same s, s _ _ h4⟩
/-- what of the text the class has -/
structure Cnt (K : PySem.W.Frag) (C : Addr) : Prop where
  cl : Cls K C
  nC : NoAttr K C "_cycles"
  nR : NoAttr K C "_rest"
theorem pairs_ne {H H' : Hp} {x : Addr} (k : ∀ b o, b ≠ x → H b = some o → H' b = some o) (hx : ∀ o, H x = some o → ∃ C d fs, o = .ins C d fs) : ∀ {xs : List V} {rs : List (Int × Int)}, PairsAt H xs rs → PairsAt H' xs rs
  | [], [], _ => trivial
  | y :: xs, r :: rs, ⟨⟨p, h1, h2⟩, h3⟩ => ⟨⟨p, h1, k p _ (fun z => by
      subst z
      obtain ⟨C, d, fs, e⟩ := hx _ h2
      cases e) h2⟩, pairs_ne k hx h3⟩
  | [], _ :: _, h => h.elim
  | _ :: _, [], h => h.elim
section
variable {P : Program} {w : World} {K : PySem.W.Frag} {mg : Str → Option Value} {base : Heap} {C : Addr}
def spInit (K : PySem.W.Frag) (C : Addr) : Sp := fun vs H Q _ => ∃ (x c r dx : Addr) (xs : List V) (cs : List (Int × Int)) (rs : List Int), vs = [.ref x, .ref c, .ref r] ∧ H x = some (.ins C dx []) ∧ H c = some (.lst xs) ∧ PairsAt H xs cs ∧ H r = some (.lst (rs.map V.int)) ∧
  ∀ H' ds, (∀ b o, b ≠ x → H b = some o → H' b = some o) → CountAt H' C x ds rs → ds.Perm cs → ds.Pairwise Le → Q .non H'
theorem ok_init {f : Addr} {fd : FuncData} {k : Nat} (F : Fun K "__init__" "Count.__init__" sInit f fd) (T : Cnt K C) (ms : mg "sorted" = none) (mt : mg "tuple" = none) : FnOk P w K mg base CX0 (k + 1) f fd ["self", "cycles", "rest"] (spInit K C) := by
  refine F.ok scInit (fun vs H Q E h => ?_) (fun cdv A outer s H vs Q E hr h => ?_)
  · obtain ⟨x, c, r, dx, xs, cs, rs, rfl, _⟩ := h
    rfl
  · obtain ⟨x, c, r, dx, xs, cs, rs, rfl, hx, hc, pa, hrr, hq⟩ := h
    refine ⟨_, pss_cons (ps_fld (pv 0) (pe_callTy call_tuple_of (by rfl) mt (by decide +kernel) (pa_cons (pe_callB cr_sortedPO (by rfl) ms (by decide +kernel) (pa_cons (pv 1) pa_nil)) pa_nil)) rfl)
      (pss_one (ps_fld (pv 0) (pe_callTy call_tuple_of (by rfl) mt (by decide +kernel) (pa_cons (pv 2) pa_nil)) rfl)), ?_⟩
    refine ⟨.ref c, rfl, c, xs, kOf H, rfl, SqL.of hc, (pairs_key pa).2, fun ys p h1 h2 np => ?_⟩
    obtain ⟨ds, pd, perm, srt⟩ := sorted_out pa h1 h2
    refine ⟨p, ys, rfl, .inl ⟨SqL.of upd_same, fun t1 nt1 => ?_⟩⟩
    have s1 : Same H (upd (upd H p (.lst ys)) t1 (.tup ys)) := (same_new np).trans (same_new nt1)
    have g1 := upd_same (H := upd H p (.lst ys)) (a := t1) (o := .tup ys)
    generalize upd (upd H p (.lst ys)) t1 (.tup ys) = H1 at s1 g1 ⊢
    have hx1 := s1 _ _ hx
    refine ⟨.ref x, rfl, x, C, dx, [], rfl, hx1, T.cl, T.nC, by decide, ?_⟩
    have nrx : r ≠ x := fun z => by rw [z, hx] at hrr; cases hrr
    have nt1x : t1 ≠ x := fun z => by rw [z, hx1] at g1; cases g1
    have hr1 : (upd H1 x (.ins C dx (putF "_cycles" (.ref t1) []))) r = some (.lst (rs.map V.int)) := by rw [upd_ne nrx]; exact s1 _ _ hrr
    refine ⟨.ref r, rfl, r, _, rfl, .inl ⟨SqL.of hr1, fun t2 nt2 => ?_⟩⟩
    have nt2x : t2 ≠ x := fun z => by rw [z, upd_same] at nt2; cases nt2
    have hx2 : (upd (upd H1 x (.ins C dx (putF "_cycles" (.ref t1) []))) t2 (.tup (rs.map V.int))) x = some (.ins C dx [("_cycles", .ref t1)]) := by rw [upd_ne nt2x.symm, upd_same]; rfl
    have n12 : t1 ≠ t2 := fun z => by rw [← z, upd_ne nt1x, g1] at nt2; cases nt2
    refine ⟨.ref x, rfl, x, C, dx, [("_cycles", .ref t1)], rfl, hx2, T.cl, T.nR, by show 1 < 1000; decide, ?_⟩
    have keep : ∀ b o, b ≠ x → H b = some o → (upd (upd (upd H1 x (.ins C dx (putF "_cycles" (.ref t1) []))) t2 (.tup (rs.map V.int))) x (.ins C dx (putF "_rest" (.ref t2) [("_cycles", .ref t1)]))) b = some o := fun b o nb e => by
      have e1 := s1 _ _ e
      have nb2 : b ≠ t2 := fun z => by rw [← z, upd_ne nb, e1] at nt2; cases nt2
      rw [upd_ne nb, upd_ne nb2, upd_ne nb]
      exact e1
    refine hq _ ds keep ⟨dx, t1, t2, ys, ?_, ?_, pairs_ne keep (fun o e => by rw [hx] at e; cases e; exact ⟨_, _, _, rfl⟩) pd, ?_⟩ perm srt
    · rw [upd_same]
      rfl
    · rw [upd_ne nt1x, upd_ne n12, upd_ne nt1x]
      exact g1
    · rw [upd_ne nt2x, upd_same]
def spOf (K : PySem.W.Frag) (C : Addr) : Sp := fun vs H Q _ => ∃ (a : Addr) (ns : List Int), vs = [.ref C, .ref a] ∧ Sq K H a (ns.map V.int) ∧ ns.length ≤ 2500 ∧
  ∀ H' x cs ds rs, Same H H' → H x = none → CountAt H' C x ds rs → Run (tp ns) cs rs → NF rs → ds.Perm cs → ds.Pairwise Le → Q (.ref x) H'
theorem ok_of {f fI fO : Addr} {fd fdI fdO : FuncData} {k : Nat} (F : Fun K "of" "Count.of" sOf f fd) (M : Mk K C fI)
    (GI : FnOk P w K mg base CX0 (k + 2) fI fdI ["self", "cycles", "rest"] (spInit K C)) (bI : Binds K fdI ["self", "cycles", "rest"] [])
    (GO : FnOk P w K mg base CX0 (k + 3) fO fdO ["load"] (spCo K)) (gO : mg "_counted" = some (.ref fO)) (kO : PySem.W.keepIn K (.ref fO) = true) (bO : Binds K fdO ["load"] []) : FnOk P w K mg base CX0 (k + 4) f fd ["cls", "load"] (spOf K C) := by
  refine F.ok scOf (fun vs H Q E h => ?_) (fun cdv A outer s H vs Q E hr h => ?_)
  · obtain ⟨a, ns, rfl, _⟩ := h
    rfl
  · obtain ⟨a, ns, rfl, hS, hlen, hq⟩ := h
    refine ⟨_, pss_cons (ps_asg (pe_call GO hr (by rfl) gO kO bO .nil pass0 (pa_cons (pv 1) pa_nil)) (pg_tup rfl (pgs_cons (pg_name (i := 2) scOf.nd rfl (.inl rfl)) (pgs_cons (pg_name (i := 3) scOf.nd rfl (.inl rfl)) pgs_nil))))
      (pss_one (ps_ret (pe_makeL (i := 0) M GI hr rfl (.inl rfl) bI .nil pass0 (pa_cons (pv 2) (pa_cons (pv 3) pa_nil))))), ?_⟩
    refine ⟨.ref a, rfl, a, ns, rfl, hS, hlen, fun H1 p c r xs cs rs s1 np ep ec pa er run nf => ?_⟩
    refine ⟨p, _, rfl, SqT.of ep, rfl, .ref c, [.ref r], rfl, .ref r, [], rfl, rfl, rfl, .ref c, rfl, .ref r, rfl, fun x dx nx ndx ne => ?_⟩
    have s2 : Same H1 (upd (upd H1 dx (.own x)) x (.ins C dx [])) := (same_new ndx).trans (same_new (by rw [upd_ne ne.symm]; exact nx))
    refine ⟨x, c, r, dx, xs, cs, rs, rfl, upd_same, s2 _ _ ec, pa.same s2, s2 _ _ er, fun H' ds keep ca perm srt => ⟨rfl, ?_⟩⟩
    have s3 : Same H1 H' := fun b o e => keep b o (ne_of_none e nx) (s2 _ _ e)
    exact hq H' x cs ds rs (s1.trans s3) (s1.free nx) ca run nf perm srt
def spPC (C : Addr) : Sp := fun vs H Q _ => ∃ (x : Addr) (ds : List (Int × Int)) (rs : List Int), vs = [.ref x] ∧ CountAt H C x ds rs ∧ ∀ t ys, H t = some (.tup ys) → PairsAt H ys ds → Q (.ref t) H
def spPR (C : Addr) : Sp := fun vs H Q _ => ∃ (x : Addr) (ds : List (Int × Int)) (rs : List Int), vs = [.ref x] ∧ CountAt H C x ds rs ∧ ∀ t, H t = some (.tup (rs.map V.int)) → Q (.ref t) H
theorem ok_PC {f : Addr} {fd : FuncData} {k : Nat} (F : Fun K "cycles" "Count.cycles" sPC f fd) (T : Cnt K C) : FnOk P w K mg base CX0 (k + 1) f fd ["self"] (spPC C) := by
  refine F.ok scPC (fun vs H Q E h => ?_) (fun cdv A outer s H vs Q E hr h => ?_)
  · obtain ⟨x, ds, rs, rfl, _⟩ := h
    rfl
  · obtain ⟨x, ds, rs, rfl, ⟨dx, t1, t2, ys, h1, h2, h3, h4⟩, hq⟩ := h
    refine ⟨_, pss_one (ps_ret (pe_fld (pv 0) rfl)), ?_⟩
    exact ⟨.ref x, rfl, x, C, dx, _, .ref t1, rfl, h1, T.cl, T.nC, rfl, hq t1 ys h2 h3⟩
theorem ok_PR {f : Addr} {fd : FuncData} {k : Nat} (F : Fun K "rest" "Count.rest" sPR f fd) (T : Cnt K C) : FnOk P w K mg base CX0 (k + 1) f fd ["self"] (spPR C) := by
  refine F.ok scPR (fun vs H Q E h => ?_) (fun cdv A outer s H vs Q E hr h => ?_)
  · obtain ⟨x, ds, rs, rfl, _⟩ := h
    rfl
  · obtain ⟨x, ds, rs, rfl, ⟨dx, t1, t2, ys, h1, h2, h3, h4⟩, hq⟩ := h
    refine ⟨_, pss_one (ps_ret (pe_fld (pv 0) rfl)), ?_⟩
    exact ⟨.ref x, rfl, x, C, dx, _, .ref t2, rfl, h1, T.cl, T.nR, rfl, hq t2 h4⟩
def spPH (C : Addr) : Sp := fun vs H Q _ => ∃ (x : Addr) (ds : List (Int × Int)) (rs : List Int), vs = [.ref x] ∧ CountAt H C x ds rs ∧ ds.length ≤ 2500 ∧ rs.length ≤ 2500 ∧ ZZ rs ∧ ∀ H' t ys es, Same H H' → H' t = some (.tup ys) → PairsAt H' ys es → es.Perm (ds ++ ds ++ sw rs) → es.Pairwise Le → Q (.ref t) H'
theorem ok_PH {f fS : Addr} {fd fdS : FuncData} {k : Nat} (F : Fun K "half_cycles" "Count.half_cycles" sPH f fd) (T : Cnt K C) (GS : FnOk P w K mg base CX0 (k + 3) fS fdS ["load"] (spSw K)) (gS : mg "swings" = some (.ref fS)) (kS : PySem.W.keepIn K (.ref fS) = true) (bS : Binds K fdS ["load"] [])
    (ms : mg "sorted" = none) (mt : mg "tuple" = none) : FnOk P w K mg base CX0 (k + 4) f fd ["self"] (spPH C) := by
  refine F.ok scPH (fun vs H Q E h => ?_) (fun cdv A outer s H vs Q E hr h => ?_)
  · obtain ⟨x, ds, rs, rfl, _⟩ := h
    rfl
  · obtain ⟨x, ds, rs, rfl, ⟨dx, t1, t2, ys, h1, h2, h3, h4⟩, ld, lr, zz, hq⟩ := h
    refine ⟨_, pss_one (ps_ret (pe_callTy call_tuple_of (by rfl) mt (by decide +kernel) (pa_cons (pe_callB cr_sortedPO (by rfl) ms (by decide +kernel) (pa_cons (pe_lst (StX.pa_star (pe_fld (pv 0) rfl) (StX.pa_star (pe_fld (pv 0) rfl) (StX.pa_star (pe_call GS hr (by rfl) gS kS bS .nil pass0 (pa_cons (pe_fld (pv 0) rfl) pa_nil)) pa_nil)))) pa_nil)) pa_nil))), ?_⟩
    refine ⟨.ref x, rfl, x, C, dx, _, .ref t1, rfl, h1, T.cl, T.nC, rfl, t1, ys, rfl, .inl (SqT.of h2), .ref x, rfl, x, C, dx, _, .ref t1, rfl, h1, T.cl, T.nC, rfl, t1, ys, rfl, .inl (SqT.of h2), .ref x, rfl, x, C, dx, _, .ref t2, rfl, h1, T.cl, T.nR, rfl, t2, rs, rfl, .inr (SqT.of h4), lr, fun H1 p xs s1 np ep pa => ?_⟩
    rw [zz_tp zz] at pa
    have pall : PairsAt H1 (ys ++ (ys ++ (xs ++ []))) (ds ++ ds ++ sw rs) := by
      rw [List.append_nil, List.append_assoc]
      exact (h3.same s1).append ((h3.same s1).append pa)
    refine ⟨p, xs, rfl, .inr (SqL.of ep), ?_, fun l nl => ?_⟩
    · rw [pall.length]
      simp only [List.length_append, sw_len]
      exact Nat.le_trans (show ds.length + ds.length + (rs.length - 1) ≤ 10000 by omega) (by decide)
    have s2 := same_new (o := .lst (ys ++ (ys ++ (xs ++ [])))) nl
    have pl := pall.same s2
    refine ⟨l, _, kOf _, rfl, SqL.of upd_same, (pairs_key pl).2, fun zs q g1 g2 nq => ?_⟩
    obtain ⟨es, pe, perm, srt⟩ := sorted_out pl g1 g2
    refine ⟨q, zs, rfl, .inl ⟨SqL.of upd_same, fun t nt => ?_⟩⟩
    have s3 := (same_new (o := .lst zs) nq).trans (same_new (o := .tup zs) nt)
    exact hq _ t zs es (s1.trans (s2.trans s3)) upd_same (pe.same s3) perm srt
end
end QH

/-! sorted(xs, reverse=True) of a list of ints -/
namespace GS1
open PySem PySem.Spec PyProof.Rows L2
section
variable {X : Cx}
theorem cr_sortedIR : CallRK X (.builtin "sorted") [Str.ofString "reverse"] (fun vs zs H Q => ∃ (a : Addr) (ns : List Int), vs = [.ref a] ∧ zs = [.bl true] ∧ SqL X.K H a (ns.map V.int) ∧
    ∀ (ns' : List Int) (p : Addr), ns'.Perm ns → ns'.Pairwise (fun x y => y ≤ x) → H p = none → Q (.ref p) (upd H p (.lst (ns'.map V.int)))) := by
  intro pins s σ H vs zs us ws Q I r rz h
  obtain ⟨a, ns, rfl, rfl, hs, q⟩ := h
  obtain ⟨its, rv, hl, hz⟩ := I.list hs
  obtain rfl := Vals.ref1 r
  obtain ⟨w1, rfl, ew⟩ := vals1 rz
  obtain rfl : w1 = Value.bool true := ew
  have hi := rv.ints
  refine SrtR.sorted_ordK (b := true) (fun _ => rfl) (PyProof.Rows.args_sorted_rev _ _) (fun _ => PyProof.Rows.args_list_sort_rev _ _) SrtO.swo_int hl.isList (by rw [← rv.length]; exact hz) (fun h2 h₁ a' _ _ => SrtO.ints_sortable hi h2) fun out h1 h2 => ?_
  have pm0 : out.Perm its := h2.perm.trans (List.reverse_perm _)
  have k1 : IntsAre out (out.map SrtO.iv) := SrtO.ints_iv fun v hv => SrtO.ints_mem hi v (pm0.mem_iff.mp hv)
  have k2 : (out.map SrtO.iv).Perm ns := by
    have q := pm0.map SrtO.iv
    rw [SrtO.iv_ints hi] at q
    exact q
  have k3 : (out.map SrtO.iv).Pairwise (· ≤ ·) := List.pairwise_map.mpr (h1.imp fun {x y} h => Int.not_lt.mp (of_decide_eq_false (p := SrtO.iv y < SrtO.iv x) h))
  have k1r : IntsAre out.reverse ((out.map SrtO.iv).reverse) := by
    have := SrtO.ints_iv (vs := out.reverse) fun v hv => SrtO.ints_mem hi v (pm0.mem_iff.mp (List.mem_reverse.mp hv))
    rwa [List.map_reverse] at this
  obtain ⟨n, hn⟩ := PyProof.Rows.sortedAll_at s.heap its (if true = true then out.toArray.reverse else out.toArray)
  have e0 : (if true = true then out.toArray.reverse else out.toArray) = out.reverse.toArray := by rw [if_pos rfl]; simp
  rw [e0] at hn ⊢
  have hlen : (((out.map SrtO.iv).reverse).map V.int).length ≤ sizeLine := by
    rw [List.length_map, List.length_reverse, k2.length_eq]
    rw [List.length_map] at hz
    exact hz
  exact ⟨.ref _, upd H (s.heap.objs.size + 1) (.lst (((out.map SrtO.iv).reverse).map V.int)), I.laid (t' := s.toks) (fun _ _ => PyProof.Rows.sortedAll_old) (Nat.le_succ _) ⟨hlen, out.reverse, n, vals_of_ints k1r, hn⟩, rfl, q _ _ ((List.reverse_perm _).trans k2) (List.pairwise_reverse.mpr k3) (I.hok.fresh (Nat.le_succ _))⟩
end
end GS1

set_option pp.maxSteps 900
/-! k57: sizes and words of the program -/
namespace P7S
open PySem PySem.Spec PyProof.Rows L2 KA KD PH PM PA RM RN RC RE K55 K55b K57 P7K QE QF QG QH P5N
abbrev sSs : Stmt := topS 22
abbrev sSM : Stmt := topS 20
abbrev sCP : Stmt := topS 21
theorem scSs : FnScope ["ranges", "low", "high"] ["ranges"] (defScope sSs) := ⟨rfl, rfl, rfl, by decide +kernel, rfl, by decide +kernel, by decide +kernel⟩
theorem scSM : FnScope ["first", "second", "others", "at", "size"] ["first", "second"] (defScope sSM) := ⟨rfl, rfl, rfl, by decide +kernel, rfl, by decide +kernel, by decide +kernel⟩
theorem scCP : FnScope ["first", "second", "one", "other"] ["first", "second"] (defScope sCP) := ⟨rfl, rfl, rfl, by decide +kernel, rfl, by decide +kernel, by decide +kernel⟩
theorem SqT_same {K : PySem.W.Frag} {H H' : Hp} {a : Addr} {xs : List V} (s : Same H H') (h : SqT K H a xs) : SqT K H' a xs := by
  have := (show Sq K H a xs from .inr h)
  rcases h with (h | ⟨o, h⟩) | h
  · exact .inl (.inl (s _ _ h))
  · exact .inl (.inr ⟨o, s _ _ h⟩)
  · exact .inr h
section
variable {P : Program} {w : World} {K : PySem.W.Frag} {mg : Str → Option Value} {base : Heap}
def spSs (K : PySem.W.Frag) : Sp := fun vs H Q _ => ∃ (a : Addr) (xs : List V) (rs : List (Int × Int)), vs = [.ref a] ∧ Sq K H a xs ∧ PairsAt H xs rs ∧ rs.length ≤ 500 ∧
  ∀ H' p (A : List Int), Same H H' → H' p = some (.lst (A.map V.int)) → A.Perm (szs rs) → (A.Pairwise fun x y => y ≤ x) → Q (.ref p) H'
theorem ok_Ss {f : Addr} {fd : FuncData} {k : Nat} (F : Fun K "_sizes" "_sizes" sSs f fd) (mso : mg "sorted" = none) : FnOk P w K mg base CX0 (k + 1) f fd ["ranges"] (spSs K) := by
  refine F.ok scSs (fun vs H Q E h => ?_) (fun cdv A outer s H vs Q E hr h => ?_)
  · obtain ⟨a, xs, rs, rfl, _⟩ := h
    rfl
  · obtain ⟨a, xs, rs, rfl, hA, pa, hl, hq⟩ := h
    refine ⟨_, (pss_one (ps_ret (pe_callBK GS1.cr_sortedIR (by rfl) mso (by decide +kernel) (pa_cons (pe_lc (own := [("low", 1), ("high", 2)]) (g := gTup K 2 (gCons (gName 1) (gCons (gName 2) gNil))) (tt := tYes)  rfl scSs.nd (GB.pi_both (pv 0)) (blkOk_by (own := [("low", 1), ("high", 2)]) (N := ["ranges", "low", "high"]) (sc := defScope sSs) (by decide +kernel)) (fun _ _ _ _ _ => (pg_tup rfl (pgs_cons (pg_name (i := 1) scSs.nd rfl (Or.inl rfl) (Or.inr rfl)) (pgs_cons (pg_name (i := 2) scSs.nd rfl (Or.inl rfl) (Or.inr rfl)) pgs_nil)))) (fun _ _ _ _ _ => pts_nil) (fun _ _ _ _ _ => (pe_op op_sub (pv 2) (pv 1)))) pa_nil) (pk_cons pe_bl pk_nil)))), ?_⟩
    have la := pa.length
    refine ⟨.ref a, rfl, a, rfl, ?_⟩
    rcases hA with hA | hA
    · refine .inl ⟨⟨xs, hA⟩, fun D nD => ?_⟩
      refine lc_it (walk_list (xs := xs)) (fun i Hz => Same H Hz ∧ Hz D = some (.lst ((szs (rs.take i)).map V.int))) ⟨same_new nD, upd_same⟩ (fun i Hz _ z => z.1.seq hA) ?_ ?_
      · rintro i v Hz Hy hi ⟨sz, eD⟩ ⟨rfl, hx⟩
        obtain ⟨r, p, er, rfl, e2⟩ := pr_at pa hx
        refine ⟨p, _, rfl, SqT.of (sz _ _ e2), rfl, .int r.1, [.int r.2], rfl, .int r.2, [], rfl, rfl, rfl, iteT (B := True) ?_⟩
        refine ⟨.int r.2, rfl, .int r.1, rfl, r.2, r.1, rfl, rfl, _, eD, ?_, same_again nD sz, ?_⟩
        · unfold szs
          rw [List.length_map, List.length_map, List.length_take]
          exact small3000 (by omega)
        · rw [List.take_add_one, er, Option.toList_some]
          unfold szs
          rw [List.map_append, List.map_append]
          exact upd_same
      rintro Hz ⟨sz, eD⟩
      rw [la, List.take_length] at eD
      refine ⟨D, szs rs, rfl, rfl, SqL.of eD, fun A p pm sr np => ?_⟩
      exact hq _ p A (sz.trans (same_new np)) upd_same pm sr
    · refine .inr ⟨⟨xs, hA⟩, fun D nD => ?_⟩
      refine lc_it (walk_tup (xs := xs)) (fun i Hz => Same H Hz ∧ Hz D = some (.lst ((szs (rs.take i)).map V.int))) ⟨same_new nD, upd_same⟩ (fun i Hz _ z => SqT_same z.1 hA) ?_ ?_
      · rintro i v Hz Hy hi ⟨sz, eD⟩ ⟨rfl, hx⟩
        obtain ⟨r, p, er, rfl, e2⟩ := pr_at pa hx
        refine ⟨p, _, rfl, SqT.of (sz _ _ e2), rfl, .int r.1, [.int r.2], rfl, .int r.2, [], rfl, rfl, rfl, iteT (B := True) ?_⟩
        refine ⟨.int r.2, rfl, .int r.1, rfl, r.2, r.1, rfl, rfl, _, eD, ?_, same_again nD sz, ?_⟩
        · unfold szs
          rw [List.length_map, List.length_map, List.length_take]
          exact small3000 (by omega)
        · rw [List.take_add_one, er, Option.toList_some]
          unfold szs
          rw [List.map_append, List.map_append]
          exact upd_same
      rintro Hz ⟨sz, eD⟩
      rw [la, List.take_length] at eD
      refine ⟨D, szs rs, rfl, rfl, SqL.of eD, fun A p pm sr np => ?_⟩
      exact hq _ p A (sz.trans (same_new np)) upd_same pm sr
def spSM (K : PySem.W.Frag) : Sp := fun vs H Q _ => ∃ (a b : Addr) (xs ys : List V) (rs ss : List (Int × Int)), vs = [.ref a, .ref b] ∧ Sq K H a xs ∧ PairsAt H xs rs ∧ Sq K H b ys ∧ PairsAt H ys ss ∧ rs.length ≤ 500 ∧ ss.length ≤ 500 ∧
  ∀ H' o, Same H H' → IsSz rs ss o → Q (optV o) H'
theorem ok_SM {f : Addr} {fd : FuncData} {fSS : Addr} {dSS : FuncData} {k : Nat} (F : Fun K "size_with_more" "size_with_more" sSM f fd) (GSS : FnOk P w K mg base CX0 (k + 1) fSS dSS ["ranges"] (spSs K)) (gSS : mg "_sizes" = some (.ref fSS)) (kSS : PySem.W.keepIn K (.ref fSS) = true) (bSS : Binds K dSS ["ranges"] []) (mlen : mg "len" = none) (me : mg "enumerate" = none) : FnOk P w K mg base CX0 (k + 2) f fd ["first", "second"] (spSM K) := by
  refine F.ok scSM (fun vs H Q E h => ?_) (fun cdv A outer s H vs Q E hr h => ?_)
  · obtain ⟨a, b, xs, ys, rs, ss, rfl, _⟩ := h
    rfl
  · obtain ⟨a, b, xs, ys, rs, ss, rfl, hA, pa, hB, pb, hl1, hl2, hq⟩ := h
    refine ⟨_, (pss_cons (ps_set (i := 2) scSM.nd rfl (.inl rfl) (pe_call GSS hr (by rfl) gSS kSS bSS .nil pass0 (pa_cons (pv 1) pa_nil)))
      (pss_cons (ps_for PassesOwn.never rfl (GE.pi_enumS (by rfl) me (pa_cons (pe_call GSS hr (by rfl) gSS kSS bSS .nil pass0 (pa_cons (pv 0) pa_nil)) pa_nil)) (pg_tup rfl (pgs_cons (pg_name (i := 3) scSM.nd rfl (.inl rfl)) (pgs_cons (pg_name (i := 4) scSM.nd rfl (.inl rfl)) pgs_nil)))
      (pss_one (ps_if (PW.pt (pw_or (pt_cmpR op_ge (pv 3) (pe_callB call_len_seq (by rfl) mlen PySem.boot_len (pa_cons (pv 2) pa_nil)) (nomark _)) (pw_or1 (pt_cmpR op_lt (pe_ix ix_list (pv 2) (pv 3) (fun _ _ => rfl)) (pv 4) (nomark _))))) (pss_one (ps_ret (pv 4))) pss_nil)))
      (pss_one (ps_ret pe_non)))), ?_⟩
    refine ⟨.ref b, rfl, b, ys, ss, rfl, hB, pb, hl2, fun H1 p B s1 hp pB sB => ?_⟩
    refine ⟨.ref a, rfl, a, xs, rs, rfl, hA.same s1, pa.same s1, hl1, fun H2 q A s2 hq2 pA sA => ?_⟩
    have hp2 := s2 _ _ hp
    have s12 := s1.trans s2
    have lA : (A.map V.int).length = A.length := List.length_map _
    have lB : (B.map V.int).length = B.length := List.length_map _
    refine ⟨q, _, rfl, .inl (SqL.of hq2), fun J G wk hG => for_it wk (fun i σ Hz => Same H2 Hz ∧ (∀ j, j < i → ∃ a b, A[j]? = some a ∧ B[j]? = some b ∧ a ≤ b) ∧ ∃ r3 r4 : Option V, σ = [some (.ref a), some (.ref b), some (.ref p), r3, r4])
      ⟨Same.refl H2, fun j hj => absurd hj (Nat.not_lt_zero j), _, _, rfl⟩ (fun i σ Hz _ z => hG _ z.1) ?_ ?_⟩
    · rintro i w_ σ Hz Hy hi ⟨sz, hall, r3, r4, rfl⟩ ⟨T, x, y, rfl, nT, rfl, hx, hy⟩
      obtain rfl : V.int (i : Int) = x := Option.some.inj hx
      obtain ⟨v, hv, rfl⟩ := int_at hy
      have sT := same_new nT (o := .tup [.int (i : Int), .int v])
      have s3 := sz.trans sT
      have s4 := s12.trans s3
      have hp3 := s3 _ _ hp2
      refine ⟨T, _, rfl, SqT.of upd_same, rfl, .int (i : Int), [.int v], rfl, .int v, [], rfl, rfl, ?_⟩
      refine ⟨.int (i : Int), rfl, .ref p, rfl, p, _, rfl, .inl (SqL.of hp3), _, _, rfl, rfl, _, rfl, ?_⟩
      rw [lB]
      by_cases h1 : (B.length : Int) ≤ (i : Int)
      · rw [decide_eq_true h1]
        exact iteT (iteT ⟨.int v, rfl, hq _ (some v) s4 (sz_stop pA sA pB sB hall hv (.inl (by omega)))⟩)
      rw [decide_eq_false h1]
      have hiB : i < B.length := by omega
      have eB := List.getElem?_eq_getElem hiB
      refine iteF ⟨.ref p, rfl, .int (i : Int), rfl, p, _, _, .int B[i], rfl, rfl, SqL.of hp3, atI_nat (at_int eB), .int v, rfl, _, _, rfl, rfl, _, rfl, ?_⟩
      by_cases h2 : B[i] < v
      · rw [decide_eq_true h2]
        exact iteT ⟨.int v, rfl, hq _ (some v) s4 (sz_stop pA sA pB sB hall hv (.inr ⟨_, eB, h2⟩))⟩
      rw [decide_eq_false h2]
      refine iteF ⟨s3, fun j hj => ?_, _, _, rfl⟩
      by_cases hj2 : j < i
      · exact hall j hj2
      · have : j = i := by omega
        subst this
        exact ⟨v, B[j], hv, eB, by omega⟩
    · rintro σ Hz ⟨sz, hall, r3, r4, rfl⟩
      rw [lA] at hall
      exact hq _ none (s12.trans sz) (sz_none pA sA pB sB hall)
def spCP (K : PySem.W.Frag) : Sp := fun vs H Q _ => ∃ (a b : Addr) (ns ms : List Int), vs = [.ref a, .ref b] ∧ Sq K H a (ns.map V.int) ∧ Sq K H b (ms.map V.int) ∧ ns.length ≤ 500 ∧ ms.length ≤ 500 ∧
  ∀ H' es fs, Same H H' → Hc ns es → Hc ms fs → Q (.str (wstr (word es fs))) H'
theorem ok_CP {f : Addr} {fd : FuncData} {C pO p3 : Addr} {fOF : Addr} {dOF : FuncData} {fPH : Addr} {dPH : FuncData} {fNM : Addr} {dNM : FuncData} {k : Nat} (F : Fun K "compared" "compared" sCP f fd) (gC : mg "Count" = some (.ref C)) (rd : ClX.CRead K C (.type "type")) (cm : ClX.CMet K C (.type "type") "of" pO fOF) (GOF : FnOk P w K mg base CX0 (k + 6) fOF dOF ["cls", "load"] (spOf K C)) (bOF : Binds K dOF ["cls", "load"] []) (cn : Cnt K C) (prH : PropOf K C "half_cycles" p3 fPH) (GPH : FnOk P w K mg base CX0 (k + 5) fPH dPH ["self"] (spPH C)) (bPH : Binds K dPH ["self"] []) (GNM : FnOk P w K mg base CX0 (k + 6) fNM dNM ["first", "second"] (spNM K)) (gNM : mg "never_more" = some (.ref fNM)) (kNM : PySem.W.keepIn K (.ref fNM) = true) (bNM : Binds K dNM ["first", "second"] []) : FnOk P w K mg base CX0 (k + 7) f fd ["first", "second"] (spCP K) := by
  refine F.ok scCP (fun vs H Q E h => ?_) (fun cdv A outer s H vs Q E hr h => ?_)
  · obtain ⟨a, b, ns, ms, rfl, _⟩ := h
    rfl
  · obtain ⟨a, b, ns, ms, rfl, hA, hB, hl1, hl2, hq⟩ := h
    refine ⟨_, (pss_cons (ps_par (i := 2) (j := 3) (by rfl) scCP.nd rfl rfl (by decide) rfl rfl (pa_cons (pe_prop (ClX.pe_cmeth (pe_glob (v := .ref C) (by rfl) gC rfl) rd cm (GOF.raw bOF .nil) hr pass0 (pa_cons (pv 0) pa_nil)) cn.cl prH GPH hr bPH .nil pass0 (by rfl)) (pa_cons (pe_prop (ClX.pe_cmeth (pe_glob (v := .ref C) (by rfl) gC rfl) rd cm (GOF.raw bOF .nil) hr pass0 (pa_cons (pv 1) pa_nil)) cn.cl prH GPH hr bPH .nil pass0 (by rfl)) pa_nil)) (by rfl))
      (pss_cons (ps_if (pt_cmpR (op_eqD hr.units) (pv 2) (pv 3) (nomark _)) (pss_one (ps_ret pe_str)) pss_nil)
      (pss_cons (ps_if (pt_val (pe_call GNM hr (by rfl) gNM kNM bNM .nil pass0 (pa_cons (pv 2) (pa_cons (pv 3) pa_nil)))) (pss_one (ps_ret pe_str)) pss_nil)
      (pss_cons (ps_if (pt_val (pe_call GNM hr (by rfl) gNM kNM bNM .nil pass0 (pa_cons (pv 3) (pa_cons (pv 2) pa_nil)))) (pss_one (ps_ret pe_str)) pss_nil)
      (pss_one (ps_ret pe_str)))))), ?_⟩
    have half : ∀ {ns : List Int} {cs ds : List (Int × Int)} {rs : List Int}, ns.length ≤ 500 → Run (tp ns) cs rs → ds.Perm cs → ds.length ≤ 2500 ∧ rs.length ≤ 2500 ∧ ZZ rs := fun {ns cs ds rs} hl run pm => by
      have := run.len
      have := tp_len ns
      have := pm.length_eq
      exact ⟨by omega, by omega, run.zz (tp_zz ns)⟩
    refine ⟨rfl, .ref a, rfl, a, ns, rfl, hA, by omega, fun H1 x cs ds rs s1 nx ca run nf perm srt => ?_⟩
    obtain ⟨l1, l2, l3⟩ := half hl1 run perm
    obtain ⟨dx, t1, t2, _, hx, _⟩ := id ca
    refine ⟨x, dx, _, rfl, hx, x, ds, rs, rfl, ca, l1, l2, l3, fun H2 t ys es s2 ht pa pm st => ?_⟩
    have s12 := s1.trans s2
    refine ⟨rfl, .ref b, rfl, b, ms, rfl, hB.same s12, by omega, fun H3 x2 cs2 ds2 rs2 s3 nx2 ca2 run2 nf2 perm2 srt2 => ?_⟩
    obtain ⟨l4, l5, l6⟩ := half hl2 run2 perm2
    obtain ⟨dx2, t3, t4, _, hx2, _⟩ := id ca2
    refine ⟨x2, dx2, _, rfl, hx2, x2, ds2, rs2, rfl, ca2, l4, l5, l6, fun H4 t2 zs fs s4 ht2 pf pm2 st2 => ⟨.ref t, .ref t2, rfl, ?_⟩⟩
    have s34 := s3.trans s4
    have ht4 := s34 _ _ ht
    have pa4 := pa.same s34
    have sA := s12.trans s34
    have he : Hc ns es := ⟨⟨cs, ds, rs, run, nf, perm, pm⟩, st⟩
    have hf : Hc ms fs := ⟨⟨cs2, ds2, rs2, run2, nf2, perm2, pm2⟩, st2⟩
    have le : es.length ≤ 500 := by
      have := run.len
      have := tp_len ns
      have := perm.length_eq
      have := pm.length_eq
      simp only [List.length_append, sw_len] at this
      omega
    have lf : fs.length ≤ 500 := by
      have := run2.len
      have := tp_len ms
      have := perm2.length_eq
      have := pm2.length_eq
      simp only [List.length_append, sw_len] at this
      omega
    have fin : ∀ H' (z : Wd), Same H H' → word es fs = z → Q (.str (wstr z)) H' := fun H' z s e => by rw [← e]; exact hq H' es fs s he hf
    refine ⟨.ref t, rfl, .ref t2, rfl, .tuple (dPairs es), .tuple (dPairs fs), .tup (SqT.of ht4) (dp_pairs pa4), .tup (SqT.of ht2) (dp_pairs pf), shaped_prt _, shaped_prt _, _, rfl, ?_⟩
    rw [ev_prt]
    by_cases hef : es = fs
    · rw [decide_eq_true hef]
      exact iteT (fin _ .alike sA (if_pos hef))
    rw [decide_eq_false hef]
    refine iteF ⟨.ref t, rfl, .ref t2, rfl, t, t2, ys, zs, es, fs, rfl, .inr (SqT.of ht4), pa4, .inr (SqT.of ht2), pf, le, lf, fun H5 s5 => ⟨_, rfl, ?_⟩⟩
    rw [show nm es fs = nmB es fs from rfl]
    cases h1 : nmB es fs with
    | true => exact iteT (fin _ .less (sA.trans s5) (by unfold word; rw [if_neg hef, if_pos h1]))
    | false =>
      refine iteF ⟨.ref t2, rfl, .ref t, rfl, t2, t, zs, ys, fs, es, rfl, .inr (SqT.of (s5 _ _ ht2)), pf.same s5, .inr (SqT.of (s5 _ _ ht4)), pa4.same s5, lf, le, fun H6 s6 => ⟨_, rfl, ?_⟩⟩
      rw [show nm fs es = nmB fs es from rfl]
      cases h2 : nmB fs es with
      | true => exact iteT (fin _ .more ((sA.trans s5).trans s6) (by unfold word; rw [if_neg hef, if_neg (by rw [h1]; exact Bool.false_ne_true), if_pos h2]))
      | false => exact iteF (fin _ .neither ((sA.trans s5).trans s6) (by unfold word; rw [if_neg hef, if_neg (by rw [h1]; exact Bool.false_ne_true), if_neg (by rw [h2]; exact Bool.false_ne_true)]))
end
end P7S

/-! a call of a def that wants to know that no repr is under way -/
namespace GK
open PySem PySem.Spec PyProof.Rows L2 KW
section
variable {X : Cx} {k : Nat} {f : Addr} {fd : FuncData} {ps : List Str} {sp : Sp} {dvs : List V} {ds : List Value} {E : XK} {x : Str} {p pos : Pos} {e : Expr} {es : List Expr} {t : TA}
theorem pe_callG (F : Kept X.prog X.w X.K X.mg X.base k f fd ps sp) (hgd : X.A.guards = some []) (len : ∀ vs H Q E, sp vs H Q E → vs.length = ps.length) (hr : Room k X.A) (hg : Gl X x) (hm : X.mg x = some (.ref f)) (hk : PySem.W.keepIn X.K (.ref f) = true) (hb : Binds X.K fd ps ds) (hd : Vals dvs ds) (hx : Passes CX0 X E)
    (ha : PA X (e :: es) t) (hdb : (x == ("__debug__" : Str)) = false := by decide) (he : starEach (e :: es) X.env = (false, eval e X.env) :: starEach es X.env := by rfl) (hpl : (backTo pos (starEach es X.env)).any (·.1) = false := by rfl) :
    PE X (.Call (.Name x p) (e :: es) [] pos) (tCall sp dvs E t) := by
  refine ⟨fun pins s σ H Q I h => ?_⟩
  refine wpAny_Call_Name_kw (ld_glob I hg hm ?_ hdb)
  refine PySem.W.callWith_K (h₀ := X.base) I.ok.mod.kin hk (thn (ha.run pos pins s σ H _ I h) fun us s1 ⟨vs, H1, I1, r, q⟩ => ⟨I1.kIn, ?_⟩) he hpl
  have r2 : Vals (vs ++ dvs) (us ++ ds) := r.append hd
  have hl : (us ++ ds).length = ps.length := by rw [← r2.length]; exact len _ _ _ _ q
  refine wpAny_call (codeAny_mono (F X.A X.stack s1 H1 ⟨us, []⟩ (us ++ ds) (vs ++ dvs) Q E hgd hr I1.env0 (hb s1 us I1.kIn hl) r2 q) fun r s' hq => ?_)
  cases r with
  | error e => exact hx pins σ H1 s1 e s' I1 hq
  | ok fl =>
    cases fl with
    | ret u => exact I1.after hq
    | next => exact False.elim hq
    | brk => exact False.elim hq
    | cont => exact False.elim hq
end
end GK

/-! xs[::-1] of a list -/
namespace GR
open PySem PySem.Spec PyProof.Rows L2
def tBack (K : PySem.W.Frag) (te : TE) (tk : TO) : TE := fun σ H Q => te σ H fun v H1 => tk σ H1 fun o H2 => o = some (-1) ∧ ∃ a xs, v = .ref a ∧ SqL K H2 a xs ∧ ∀ p, H2 p = none → Q (.ref p) (upd H2 p (.lst xs.reverse))
theorem pe_back {X : Cx} {e st : Expr} {te : TE} {tk : TO} {p2 pos : Pos} (he : PE X e te) (hk : PO X (some st) tk) : PE X (.Subscript e (.Slice none none (some st) p2) pos) (tBack X.K te tk) := by
  refine ⟨fun pins s σ H Q I h => ?_⟩
  refine Subscript_ (thn (he.run pins s σ H _ I h) fun v s1 ⟨x, H1, I1, r1, q1⟩ => ?_)
  refine wpAny_Slice ?_
  rw [evalPart_none]
  refine wpAny_pure ?_
  refine wpAny_pure ?_
  refine thn (hk.run pins s1 σ H1 _ I1 q1) fun vk s2 ⟨o, H2, I2, pk, q2⟩ => ?_
  obtain ⟨rfl, a, xs, rfl, hx, q⟩ := q2
  have I4 : Inv X pins σ H2 { s2 with heap := s2.heap.push { cls := .type "slice", data := .fields #[.none, .none, vk] } } := I2.kept (t' := s2.toks) fun b ob q => Heap.get?_push_of_some _ q
  cases r1
  obtain ⟨its, r, ht, hz⟩ := I4.list hx
  have hlen := r.length
  have hs : ({ s2 with heap := s2.heap.push { cls := .type "slice", data := .fields #[.none, .none, vk] } } : Shared).heap.IsSliceOf s2.heap.objs.size .none .none vk := Heap.IsSliceOf.new ..
  have hg : wpAny (model X.prog X.w) X.A (getItem (.ref a) (.ref s2.heap.objs.size)) (EP X pins σ Q) X.xe { s2 with heap := s2.heap.push { cls := .type "slice", data := .fields #[.none, .none, vk] } } := by
    refine wpAny_getItem_list_slice ht.isList hs .none .none pk (by simp) ?_ (by rw [List.size_toArray] <;> omega)
    rw [PySem.W.krv_pick]
    refine ⟨.ref _, _, I4.laid (t' := s2.toks) (o := .lst xs.reverse) (fun b ob q => Heap.get?_push_of_some _ q) (Nat.le_refl _) ?_, rfl, q _ (I4.hok.fresh (Nat.le_refl _))⟩
    exact ⟨by rw [List.length_reverse]; exact hz, _, 0, r.reverse, Heap.get?_push_size _ rfl⟩
  show wpAny (model X.prog X.w) X.A (subscriptTail e (.Slice none none (some st) p2) (.ref a) (.ref s2.heap.objs.size)) (EP X pins σ Q) X.xe _
  exact tail_any (ops := [.ref a, .ref s2.heap.objs.size]) ht.isList.typeIs slot_list_getitem.lookup hg (by with_unfolding_all rfl)
end GR

set_option pp.maxSteps 900
/-! k57: sizes compared as they should be -/
namespace P7R
open PySem PySem.Spec PyProof.Rows L2 KA KD PH PM PA PB PC RM RN RC RE QE QF QG QH K55 K55b K57 M3W P5P P5N P7K
abbrev sSR : Stmt := topS 42
theorem scSR : FnScope ["feed", "turn", "first", "second", "before", "due", "far", "step", "more", "moved", "others"] ["feed"] (defScope sSR) := ⟨rfl, rfl, rfl, by decide +kernel, rfl, by decide +kernel, by decide +kernel⟩
structure Txt (K : PySem.W.Frag) (mg : Str → Option Value) (fRG fTP fIL fBT fSW fMT fPB fCN fPIN fPT fBP fNM fSS fSM fCM fFE fTA fPI fLD fTN fRN fHS fMY fKT fHV fLR fRC fST fNV fWD fSC fSZ fSR C fIN pO fOF p3 fPH : Addr) (dRG dTP dIL dBT dSW dMT dPB dCN dPIN dPT dBP dNM dSS dSM dCM dFE dTA dPI dLD dTN dRN dHS dMY dKT dHV dLR dRC dST dNV dWD dSC dSZ dSR dIN dOF dPH : FuncData) : Prop where
  FRG : Fun K "range_of" "range_of" sRng fRG dRG
  gRG : mg "range_of" = some (.ref fRG)
  kRG : PySem.W.keepIn K (.ref fRG) = true
  bRG : Binds K dRG ["one", "other"] []
  FTP : Fun K "turning_points" "turning_points" sTP fTP dTP
  gTP : mg "turning_points" = some (.ref fTP)
  kTP : PySem.W.keepIn K (.ref fTP) = true
  bTP : Binds K dTP ["load"] []
  FIL : Fun K "is_left_out" "is_left_out" sLO fIL dIL
  gIL : mg "is_left_out" = some (.ref fIL)
  kIL : PySem.W.keepIn K (.ref fIL) = true
  bIL : Binds K dIL ["points", "reading"] []
  FBT : Fun K "_lies_between" "_lies_between" sBtw fBT dBT
  gBT : mg "_lies_between" = some (.ref fBT)
  kBT : PySem.W.keepIn K (.ref fBT) = true
  bBT : Binds K dBT ["reading", "before", "after"] []
  FSW : Fun K "swings" "swings" sSw fSW dSW
  gSW : mg "swings" = some (.ref fSW)
  kSW : PySem.W.keepIn K (.ref fSW) = true
  bSW : Binds K dSW ["load"] []
  FMT : Fun K "_may_be_taken" "_may_be_taken" sMT fMT dMT
  gMT : mg "_may_be_taken" = some (.ref fMT)
  kMT : PySem.W.keepIn K (.ref fMT) = true
  bMT : Binds K dMT ["points", "place"] []
  FPB : Fun K "put_behind" "put_behind" sPB fPB dPB
  gPB : mg "put_behind" = some (.ref fPB)
  kPB : PySem.W.keepIn K (.ref fPB) = true
  bPB : Binds K dPB ["rest", "reading"] []
  FCN : Fun K "_counted" "_counted" sCo fCN dCN
  gCN : mg "_counted" = some (.ref fCN)
  kCN : PySem.W.keepIn K (.ref fCN) = true
  bCN : Binds K dCN ["load"] []
  FPIN : Fun K "place_in" "place_in" BO.sPI fPIN dPIN
  gPIN : mg "place_in" = some (.ref fPIN)
  kPIN : PySem.W.keepIn K (.ref fPIN) = true
  bPIN : Binds K dPIN ["row", "value"] []
  FPT : Fun K "put_in" "put_in" BO.sPT fPT dPT
  gPT : mg "put_in" = some (.ref fPT)
  kPT : PySem.W.keepIn K (.ref fPT) = true
  bPT : Binds K dPT ["row", "value"] []
  FBP : Fun K "_best_places" "_best_places" sBP fBP dBP
  gBP : mg "_best_places" = some (.ref fBP)
  kBP : PySem.W.keepIn K (.ref fBP) = true
  bBP : Binds K dBP ["first", "second"] []
  FNM : Fun K "never_more" "never_more" sNM fNM dNM
  gNM : mg "never_more" = some (.ref fNM)
  kNM : PySem.W.keepIn K (.ref fNM) = true
  bNM : Binds K dNM ["first", "second"] []
  FSS : Fun K "_sizes" "_sizes" P7S.sSs fSS dSS
  gSS : mg "_sizes" = some (.ref fSS)
  kSS : PySem.W.keepIn K (.ref fSS) = true
  bSS : Binds K dSS ["ranges"] []
  FSM : Fun K "size_with_more" "size_with_more" P7S.sSM fSM dSM
  gSM : mg "size_with_more" = some (.ref fSM)
  kSM : PySem.W.keepIn K (.ref fSM) = true
  bSM : Binds K dSM ["first", "second"] []
  FCM : Fun K "compared" "compared" P7S.sCP fCM dCM
  gCM : mg "compared" = some (.ref fCM)
  kCM : PySem.W.keepIn K (.ref fCM) = true
  bCM : Binds K dCM ["first", "second"] []
  FFE : Fun K "_law_feed" "_law_feed" sFeed fFE dFE
  gFE : mg "_law_feed" = some (.ref fFE)
  kFE : PySem.W.keepIn K (.ref fFE) = true
  bFE : Binds K dFE ["script", "index"] []
  FTA : Fun K "_law_take" "_law_take" sTake fTA dTA
  gTA : mg "_law_take" = some (.ref fTA)
  kTA : PySem.W.keepIn K (.ref fTA) = true
  bTA : Binds K dTA ["feed", "size"] []
  FPI : Fun K "_law_pick" "_law_pick" sPick fPI dPI
  gPI : mg "_law_pick" = some (.ref fPI)
  kPI : PySem.W.keepIn K (.ref fPI) = true
  bPI : Binds K dPI ["feed", "options"] []
  FLD : Fun K "_law_load" "_law_load" P7K.sLd fLD dLD
  gLD : mg "_law_load" = some (.ref fLD)
  kLD : PySem.W.keepIn K (.ref fLD) = true
  bLD : Binds K dLD ["feed", "size", "most"] []
  FTN : Fun K "_law_turns" "_law_turns" sTn fTN dTN
  gTN : mg "_law_turns" = some (.ref fTN)
  kTN : PySem.W.keepIn K (.ref fTN) = true
  bTN : Binds K dTN ["load"] []
  FRN : Fun K "_law_range" "_law_range" sRn fRN dRN
  gRN : mg "_law_range" = some (.ref fRN)
  kRN : PySem.W.keepIn K (.ref fRN) = true
  bRN : Binds K dRN ["first", "second"] []
  FHS : Fun K "_law_has" "_law_has" sHs fHS dHS
  gHS : mg "_law_has" = some (.ref fHS)
  kHS : PySem.W.keepIn K (.ref fHS) = true
  bHS : Binds K dHS ["outer", "inner"] []
  FMY : Fun K "_law_may_take" "_law_may_take" sMy fMY dMY
  gMY : mg "_law_may_take" = some (.ref fMY)
  kMY : PySem.W.keepIn K (.ref fMY) = true
  bMY : Binds K dMY ["points", "k"] []
  FKT : Fun K "_law_count" "_law_count" M3W.sCt fKT dKT
  gKT : mg "_law_count" = some (.ref fKT)
  kKT : PySem.W.keepIn K (.ref fKT) = true
  bKT : Binds K dKT ["load"] []
  FHV : Fun K "_law_halves" "_law_halves" sHV fHV dHV
  gHV : mg "_law_halves" = some (.ref fHV)
  kHV : PySem.W.keepIn K (.ref fHV) = true
  bHV : Binds K dHV ["load"] []
  FLR : Fun K "_law_ranges" "_law_ranges" sLR fLR dLR
  gLR : mg "_law_ranges" = some (.ref fLR)
  kLR : PySem.W.keepIn K (.ref fLR) = true
  bLR : Binds K dLR ["feed", "most", "top"] []
  FRC : Fun K "_law_reached" "_law_reached" sRC fRC dRC
  gRC : mg "_law_reached" = some (.ref fRC)
  kRC : PySem.W.keepIn K (.ref fRC) = true
  bRC : Binds K dRC ["ranges", "some"] []
  FST : Fun K "_law_sets" "_law_sets" sST fST dST
  gST : mg "_law_sets" = some (.ref fST)
  kST : PySem.W.keepIn K (.ref fST) = true
  bST : Binds K dST ["things"] []
  FNV : Fun K "_law_never" "_law_never" sNV fNV dNV
  gNV : mg "_law_never" = some (.ref fNV)
  kNV : PySem.W.keepIn K (.ref fNV) = true
  bNV : Binds K dNV ["first", "second"] []
  FWD : Fun K "_law_word" "_law_word" sWD fWD dWD
  gWD : mg "_law_word" = some (.ref fWD)
  kWD : PySem.W.keepIn K (.ref fWD) = true
  bWD : Binds K dWD ["one", "other"] []
  FSC : Fun K "_law_scaled" "_law_scaled" sSC fSC dSC
  gSC : mg "_law_scaled" = some (.ref fSC)
  kSC : PySem.W.keepIn K (.ref fSC) = true
  bSC : Binds K dSC ["ranges", "far", "step"] []
  FSZ : Fun K "_law_size" "_law_size" sSZ fSZ dSZ
  gSZ : mg "_law_size" = some (.ref fSZ)
  kSZ : PySem.W.keepIn K (.ref fSZ) = true
  bSZ : Binds K dSZ ["first", "second"] []
  FSR : Fun K "_law_sizes_right" "_law_sizes_right" sSR fSR dSR
  gSR : mg "_law_sizes_right" = some (.ref fSR)
  kSR : PySem.W.keepIn K (.ref fSR) = true
  bSR : Binds K dSR ["feed"] []
  gC : mg "Count" = some (.ref C)
  cn : Cnt K C
  mkc : Mk K C fIN
  FIN : Fun K "__init__" "Count.__init__" sInit fIN dIN
  bIN : Binds K dIN ["self", "cycles", "rest"] []
  rd : ClX.CRead K C (.type "type")
  cm : ClX.CMet K C (.type "type") "of" pO fOF
  FOF : Fun K "of" "Count.of" sOf fOF dOF
  bOF : Binds K dOF ["cls", "load"] []
  prH : PropOf K C "half_cycles" p3 fPH
  FPH : Fun K "half_cycles" "Count.half_cycles" sPH fPH dPH
  bPH : Binds K dPH ["self"] []
  len : mg "len" = none
  zip : mg "zip" = none
  max : mg "max" = none
  min : mg "min" = none
  abs : mg "abs" = none
  range : mg "range" = none
  sorted : mg "sorted" = none
  tuple : mg "tuple" = none
  list : mg "list" = none
  int : mg "int" = none
  repr : mg "repr" = none
  enumerate : mg "enumerate" = none
  set : mg "set" = none
theorem join1 {R : Hp → V → Prop} {Pj : Hp → V → Prop} {A B : Prop} {c : Bool} (h1 : c = true → (∀ H v, Pj H v → R H v) → A) (h2 : c = false → (∀ H v, Pj H v → R H v) → B) (k : ∀ H v, Pj H v → R H v) : if c = true then A else B := by
  cases c with
  | true => exact iteT (h1 rfl k)
  | false => exact iteF (h2 rfl k)
structure Part (d : PyData) : Prop where
  sh : d.showable = true
  di : d.hasDict = false
  de : d.depth ≤ 5
  le : d.leavesShort 13 = true
  we : d.weight ≤ 100000
theorem part_two {d e : PyData} (h : Part d) (g : Part e) : Nice (.list [d, e]) := by
  refine ⟨?_, ?_, ?_, PyData.shown_fits (B := 13) (by decide) (by decide) ?_ ?_⟩
  · simp only [PyData.showable, PyData.showableAll, h.sh, g.sh, Bool.and_self]
  · simp only [PyData.hasDict, PyData.hasDictAll, h.di, g.di, Bool.or_self]
  · have := h.de
    have := g.de
    simp only [PyData.depth, PyData.depthAll]
    omega
  · simp only [PyData.leavesShort, PyData.leavesShortAll, h.le, g.le, Bool.and_self]
  · have := h.we
    have := g.we
    simp only [PyData.weight, PyData.weightAll]
    omega
theorem part_prs {rs : List (Int × Int)} (h : ∀ r ∈ rs, r.1.natAbs < 2 ^ 39 ∧ r.2.natAbs < 2 ^ 39) (hl : rs.length ≤ 500) : Part (.list (dPairs rs)) := by
  refine ⟨by simp only [PyData.showable]; exact pairs_show rs h, by simp only [PyData.hasDict]; exact pairs_dict rs, ?_, by simp only [PyData.leavesShort]; exact pairs_leaves rs h, ?_⟩
  · have := depth_pairs rs
    simp only [PyData.depth]
    omega
  · have := pairs_weight rs h
    simp only [PyData.weight]
    omega
theorem part_ints {ns : List Int} (h : ∀ n ∈ ns, n.natAbs < 2 ^ 39) (hl : ns.length ≤ 500) : Part (.list (dInts ns)) := by
  refine ⟨by simp only [PyData.showable]; exact KG.show_all ns fun m hm => Nat.lt_trans (h m hm) (by decide), by simp only [PyData.hasDict]; exact KG.nodict_all ns, ?_, ?_, ?_⟩
  · have := KG.depth_all ns
    show PyData.depth (.list (ns.map PyData.int)) ≤ 5
    simp only [PyData.depth]
    omega
  · simp only [PyData.leavesShort]
    exact KG.leaves_all ns fun m hm => Nat.lt_trans (h m hm) (by decide)
  · have := KG.weight_all ns h
    show PyData.weight (.list (ns.map PyData.int)) ≤ 100000
    simp only [PyData.weight]
    omega
theorem scal_opt (o p : Option Int) : scal (optV o) (optV p) = true := by cases o <;> cases p <;> rfl
theorem optV_mul {o : Option Int} {step : Int} : ∀ {s : Int}, o = some s → optV (o.map (· * step)) = .int (s * step) := fun e => by subst e; rfl
def spSR : Sp := fun vs H Q _ => ∃ f : Addr, vs = [.ref f] ∧ FeedAt H f ∧ ∀ H', Ch f H H' → FeedAt H' f → Q (.bl true) H'
theorem len_sr : ∀ vs H Q E, spSR vs H Q E → vs.length = (["feed"] : List Str).length := fun vs H Q E h => by
  obtain ⟨f, rfl, _⟩ := h
  rfl
section
variable {P : Program} {w : World} {K : PySem.W.Frag} {mg : Str → Option Value} {base : Heap} {fRG fTP fIL fBT fSW fMT fPB fCN fPIN fPT fBP fNM fSS fSM fCM fFE fTA fPI fLD fTN fRN fHS fMY fKT fHV fLR fRC fST fNV fWD fSC fSZ fSR C fIN pO fOF p3 fPH : Addr} {dRG dTP dIL dBT dSW dMT dPB dCN dPIN dPT dBP dNM dSS dSM dCM dFE dTA dPI dLD dTN dRN dHS dMY dKT dHV dLR dRC dST dNV dWD dSC dSZ dSR dIN dOF dPH : FuncData}
theorem ok_sr {f0 : Addr} {fd : FuncData} (F : Fun K "_law_sizes_right" "_law_sizes_right" sSR f0 fd) (T : Txt K mg fRG fTP fIL fBT fSW fMT fPB fCN fPIN fPT fBP fNM fSS fSM fCM fFE fTA fPI fLD fTN fRN fHS fMY fKT fHV fLR fRC fST fNV fWD fSC fSZ fSR C fIN pO fOF p3 fPH dRG dTP dIL dBT dSW dMT dPB dCN dPIN dPT dBP dNM dSS dSM dCM dFE dTA dPI dLD dTN dRN dHS dMY dKT dHV dLR dRC dST dNV dWD dSC dSZ dSR dIN dOF dPH) : KW.Kept P w K mg base 8 f0 fd ["feed"] spSR := by
  have GRG : FnOk P w K mg base CX0 1 fRG dRG ["one", "other"] PA.spRng := PA.ok_Rng T.FRG T.min T.max
  have GIL : FnOk P w K mg base CX0 2 fIL dIL ["points", "reading"] (spLO K) := ok_LO T.FIL T.FBT T.gBT T.bBT T.len
  have GTP : FnOk P w K mg base CX0 3 fTP dTP ["load"] (spTP K) := both (ok_TPl T.FTP GIL T.gIL T.kIL T.bIL T.tuple) (ok_TPt T.FTP GIL T.gIL T.kIL T.bIL T.tuple)
  have GSW : FnOk P w K mg base CX0 4 fSW dSW ["load"] (spSw K) := ok_sw T.FSW GTP T.gTP T.kTP T.bTP (GRG.mono (by decide)) T.gRG T.kRG T.bRG T.zip
  have GMT : FnOk P w K mg base CX0 2 fMT dMT ["points", "place"] (spMT K) := ok_MT T.FMT T.abs
  have GPB : FnOk P w K mg base CX0 3 fPB dPB ["rest", "reading"] spPB := ok_PB T.FPB GIL T.gIL T.kIL T.bIL GMT T.gMT T.kMT T.bMT (GRG.mono (by decide)) T.gRG T.kRG T.bRG T.len
  have GCN : FnOk P w K mg base CX0 4 fCN dCN ["load"] (spCo K) := ok_Co T.FCN GPB T.gPB T.kPB T.bPB
  have GIN : FnOk P w K mg base CX0 1 fIN dIN ["self", "cycles", "rest"] (spInit K C) := ok_init T.FIN T.cn T.sorted T.tuple
  have GOF : FnOk P w K mg base CX0 5 fOF dOF ["cls", "load"] (spOf K C) := ok_of T.FOF T.mkc (GIN.mono (by decide)) T.bIN GCN T.gCN T.kCN T.bCN
  have GPH : FnOk P w K mg base CX0 5 fPH dPH ["self"] (spPH C) := ok_PH T.FPH T.cn GSW T.gSW T.kSW T.bSW T.sorted T.tuple
  have GPIN : FnOk P w K mg base CX0 1 fPIN dPIN ["row", "value"] BO.spPI := BO.ok_PI T.FPIN T.len
  have GPT : FnOk P w K mg base CX0 2 fPT dPT ["row", "value"] BO.spPT := BO.ok_PT T.FPT GPIN T.gPIN T.kPIN T.bPIN
  have GBP : FnOk P w K mg base CX0 3 fBP dBP ["first", "second"] (spBP K) := ok_BP T.FBP (GPIN.mono (by decide)) T.gPIN T.kPIN T.bPIN GPT T.gPT T.kPT T.bPT T.len T.sorted T.enumerate
  have GNM : FnOk P w K mg base CX0 4 fNM dNM ["first", "second"] (spNM K) := ok_NM T.FNM GBP T.gBP T.kBP T.bBP
  have GSS : FnOk P w K mg base CX0 1 fSS dSS ["ranges"] (P7S.spSs K) := P7S.ok_Ss T.FSS T.sorted
  have GSM : FnOk P w K mg base CX0 2 fSM dSM ["first", "second"] (P7S.spSM K) := P7S.ok_SM T.FSM GSS T.gSS T.kSS T.bSS T.len T.enumerate
  have GCM : FnOk P w K mg base CX0 7 fCM dCM ["first", "second"] (P7S.spCP K) := P7S.ok_CP T.FCM T.gC T.rd T.cm (GOF.mono (by decide)) T.bOF T.cn T.prH GPH T.bPH (GNM.mono (by decide)) T.gNM T.kNM T.bNM
  have GFE : FnOk P w K mg base CX0 1 fFE dFE ["script", "index"] (spFeed K) := ok_feed T.FFE T.len T.max T.abs
  have GTA : FnOk P w K mg base CX0 1 fTA dTA ["feed", "size"] spTake := ok_take T.FTA
  have GPI : FnOk P w K mg base CX0 2 fPI dPI ["feed", "options"] (spPick K) := ok_pick T.FPI T.FTA T.gTA T.bTA T.len
  have GLD : FnOk P w K mg base CX0 2 fLD dLD ["feed", "size", "most"] P7K.spLd := P7K.ok_ld T.FLD GTA T.gTA T.kTA T.bTA T.range
  have GTN : FnOk P w K mg base CX0 1 fTN dTN ["load"] (spTn K) := ok_tn T.FTN T.len T.range T.enumerate
  have GRN : FnOk P w K mg base CX0 1 fRN dRN ["first", "second"] PA.spRng := ok_rn T.FRN T.min T.max
  have GHS : FnOk P w K mg base CX0 1 fHS dHS ["outer", "inner"] (spCont K) := ok_hs T.FHS
  have GMY : FnOk P w K mg base CX0 2 fMY dMY ["points", "k"] (spMy K) := ok_my T.FMY GRN T.gRN T.kRN T.bRN GHS T.gHS T.kHS T.bHS
  have GKT : FnOk P w K mg base CX0 3 fKT dKT ["load"] (M3W.spCt K) := ok_ct T.FKT GTN T.gTN T.kTN T.bTN GRN T.gRN T.kRN T.bRN GMY T.gMY T.kMY T.bMY T.len T.range T.sorted
  have GHV : FnOk P w K mg base CX0 4 fHV dHV ["load"] (spHV K) := ok_HV T.FHV GKT T.gKT T.kKT T.bKT (GRN.mono (by decide)) T.gRN T.kRN T.bRN T.len T.range T.sorted
  have GLR : FnOk P w K mg base CX0 2 fLR dLR ["feed", "most", "top"] spLR := ok_LR T.FLR GTA T.gTA T.kTA T.bTA T.range T.int
  have GRC : FnOk P w K mg base CX0 2 fRC dRC ["ranges", "some"] spRC := ok_RC T.FRC GHS T.gHS T.kHS T.bHS T.len
  have GST : FnOk P w K mg base CX0 1 fST dST ["things"] spST := ok_ST T.FST
  have GNV : FnOk P w K mg base CX0 3 fNV dNV ["first", "second"] spNV := ok_NV T.FNV GRC T.gRC T.kRC T.bRC GST T.gST T.kST T.bST T.sorted T.set
  have GWD : FnOk P w K mg base CX0 5 fWD dWD ["one", "other"] (spWD K) := ok_WD T.FWD GHV T.gHV T.kHV T.bHV GNV T.gNV T.kNV T.bNV
  have GSC : FnOk P w K mg base CX0 1 fSC dSC ["ranges", "far", "step"] spSC := ok_SC T.FSC
  have GSZ : FnOk P w K mg base CX0 1 fSZ dSZ ["first", "second"] spSZ := ok_SZ T.FSZ T.range T.len
  have GRG := GRG.mono (show 1 ≤ 7 by decide)
  have GIL := GIL.mono (show 2 ≤ 7 by decide)
  have GTP := GTP.mono (show 3 ≤ 7 by decide)
  have GSW := GSW.mono (show 4 ≤ 7 by decide)
  have GMT := GMT.mono (show 2 ≤ 7 by decide)
  have GPB := GPB.mono (show 3 ≤ 7 by decide)
  have GCN := GCN.mono (show 4 ≤ 7 by decide)
  have GIN := GIN.mono (show 1 ≤ 6 by decide)
  have GOF := GOF.mono (show 5 ≤ 7 by decide)
  have GPH := GPH.mono (show 5 ≤ 6 by decide)
  have GPIN := GPIN.mono (show 1 ≤ 7 by decide)
  have GPT := GPT.mono (show 2 ≤ 7 by decide)
  have GBP := GBP.mono (show 3 ≤ 7 by decide)
  have GNM := GNM.mono (show 4 ≤ 7 by decide)
  have GSS := GSS.mono (show 1 ≤ 7 by decide)
  have GSM := GSM.mono (show 2 ≤ 7 by decide)
  have GCM := GCM.mono (show 7 ≤ 7 by decide)
  have GFE := GFE.mono (show 1 ≤ 7 by decide)
  have GTA := GTA.mono (show 1 ≤ 7 by decide)
  have GPI := GPI.mono (show 2 ≤ 7 by decide)
  have GLD := GLD.mono (show 2 ≤ 7 by decide)
  have GTN := GTN.mono (show 1 ≤ 7 by decide)
  have GRN := GRN.mono (show 1 ≤ 7 by decide)
  have GHS := GHS.mono (show 1 ≤ 7 by decide)
  have GMY := GMY.mono (show 2 ≤ 7 by decide)
  have GKT := GKT.mono (show 3 ≤ 7 by decide)
  have GHV := GHV.mono (show 4 ≤ 7 by decide)
  have GLR := GLR.mono (show 2 ≤ 7 by decide)
  have GRC := GRC.mono (show 2 ≤ 7 by decide)
  have GST := GST.mono (show 1 ≤ 7 by decide)
  have GNV := GNV.mono (show 3 ≤ 7 by decide)
  have GWD := GWD.mono (show 5 ≤ 7 by decide)
  have GSC := GSC.mono (show 1 ≤ 7 by decide)
  have GSZ := GSZ.mono (show 1 ≤ 7 by decide)
  refine KW.kept_of F scSR len_sr (fun cdv A outer s H vs Q E hgA hr h => ?_)
  · obtain ⟨f, rfl, hf, hq⟩ := h
    have hg : (A.deeper (envOfC "_law_sizes_right" (defScope sSR) s.heap.objs.size f0 cdv)).guards = some [] := hgA
    have hu : (A.deeper (envOfC "_law_sizes_right" (defScope sSR) s.heap.objs.size f0 cdv)).units + 100 < cLine := by have := hr.un; omega
    refine ⟨_, (pss_cons (ps_for PassesOwn.never rfl (pi_range1 rfl T.range (pa_cons pe_int pa_nil)) (pg_name (i := 1) scSR.nd rfl (.inl rfl))
      (pss_cons (ps_par (i := 2) (j := 3) (by rfl) scSR.nd rfl rfl (by decide) rfl rfl (pa_cons (pe_call GLR hr (by rfl) T.gLR T.kLR T.bLR .nil pass0 (pa_cons (pv 0) (pa_cons pe_int (pa_cons pe_int pa_nil)))) (pa_cons (pe_call GLR hr (by rfl) T.gLR T.kLR T.bLR .nil pass0 (pa_cons (pv 0) (pa_cons pe_int (pa_cons pe_int pa_nil)))) pa_nil)) (by rfl))
      (pss_cons (ps_set (i := 4) scSR.nd rfl (.inl rfl) (pe_callB (cr_reprD hg hu) (by rfl) T.repr (by decide +kernel) (pa_cons (pe_lst (pa_cons (pv 2) (pa_cons (pv 3) pa_nil))) pa_nil)))
      (pss_cons (ps_set (i := 5) scSR.nd rfl (.inl rfl) (pe_call GSZ hr (by rfl) T.gSZ T.kSZ T.bSZ .nil pass0 (pa_cons (pv 2) (pa_cons (pv 3) pa_nil))))
      (pss_cons (ps_if (PW.pt (pw_or (pt_cmpR op_ne (pe_call GSM hr (by rfl) T.gSM T.kSM T.bSM .nil pass0 (pa_cons (pv 2) (pa_cons (pv 3) pa_nil))) (pv 5) (nomark _)) (pw_or1 (pt_cmpR op_ne (pe_call GSM hr (by rfl) T.gSM T.kSM T.bSM .nil pass0 (pa_cons (pe_callTy call_tuple_of (by rfl) T.tuple (by decide +kernel) (pa_cons (pv 2) pa_nil)) (pa_cons (pe_callTy call_tuple_of (by rfl) T.tuple (by decide +kernel) (pa_cons (pv 3) pa_nil)) pa_nil))) (pv 5) (nomark _))))) (pss_one (ps_ret pe_bl)) pss_nil)
      (pss_cons (ps_if (PW.pt (pw_and (pt_val (pe_call GNM hr (by rfl) T.gNM T.kNM T.bNM .nil pass0 (pa_cons (pv 2) (pa_cons (pv 3) pa_nil)))) (pw_and1 (pt_cmpR op_notN (pe_call GSM hr (by rfl) T.gSM T.kSM T.bSM .nil pass0 (pa_cons (pv 2) (pa_cons (pv 3) pa_nil))) pe_non (nomark _))))) (pss_one (ps_ret pe_bl)) pss_nil)
      (pss_cons (ps_par (i := 6) (j := 7) (by rfl) scSR.nd rfl rfl (by decide) rfl rfl (pa_cons (pe_call GPI hr (by rfl) T.gPI T.kPI T.bPI .nil pass0 (pa_cons (pv 0) (pa_cons (pe_lst (pa_cons pe_int (pa_cons (pe_un un_neg pe_int) (pa_cons (pe_un un_neg pe_int) (pa_cons (pe_op op_sub (pe_op op_pow pe_int pe_int) pe_int) pa_nil))))) pa_nil))) (pa_cons (pe_call GPI hr (by rfl) T.gPI T.kPI T.bPI .nil pass0 (pa_cons (pv 0) (pa_cons (pe_lst (pa_cons pe_int (pa_cons pe_int (pa_cons pe_int pa_nil)))) pa_nil))) pa_nil)) (by rfl))
      (pss_cons (ps_set (i := 8) scSR.nd rfl (.inl rfl) (pe_ifExp (pt_cmpR op_isN (pv 5) pe_non (nomark _)) pe_non (pe_op op_mul (pv 5) (pv 7))))
      (pss_cons (ps_par (i := 9) (j := 10) (by rfl) scSR.nd rfl rfl (by decide) rfl rfl (pa_cons (pe_call GSC hr (by rfl) T.gSC T.kSC T.bSC .nil pass0 (pa_cons (pv 2) (pa_cons (pv 6) (pa_cons (pv 7) pa_nil)))) (pa_cons (pe_call GSC hr (by rfl) T.gSC T.kSC T.bSC .nil pass0 (pa_cons (pv 3) (pa_cons (pe_op op_sub pe_int (pv 6)) (pa_cons (pv 7) pa_nil)))) pa_nil)) (by rfl))
      (pss_one (ps_if (PW.pt (pw_or (pt_cmpR op_ne (pe_call GSM hr (by rfl) T.gSM T.kSM T.bSM .nil pass0 (pa_cons (pv 9) (pa_cons (pv 10) pa_nil))) (pv 8) (nomark _)) (pw_or1 (pt_cmpR op_ne (pe_callB (cr_reprD hg hu) (by rfl) T.repr (by decide +kernel) (pa_cons (pe_lst (pa_cons (pv 2) (pa_cons (pv 3) pa_nil))) pa_nil)) (pv 4) (nomark _))))) (pss_one (ps_ret pe_bl)) pss_nil)))))))))))
      (pss_one (ps_ret pe_bl))), ?_⟩
    have l1s : 1 ≤ sizeLine := by decide
    have l2s : 2 ≤ sizeLine := by decide
    have l3s : 3 ≤ sizeLine := by decide
    have l4s : 4 ≤ sizeLine := by decide
    refine ⟨3, rfl, by decide, by decide, for_range (lo := 0) (n := 3) (fun i σ Hz => Ch f H Hz ∧ FeedAt Hz f ∧ ∃ r1 r2 r3 r4 r5 r6 r7 r8 r9 r10 : Option V, σ = [some (.ref f), r1, r2, r3, r4, r5, r6, r7, r8, r9, r10]) ⟨Ch.refl f H, hf, _, _, _, _, _, _, _, _, _, _, rfl⟩ ?_ ?_⟩
    · rintro i σ Hz hi ⟨cz, fz, r1, r2, r3, r4, r5, r6, r7, r8, r9, r10, rfl⟩
      refine ⟨.ref f, rfl, f, 5, 6, rfl, by decide, by decide, by decide, by decide, fz, fun H1 a xs rs c1 f1 na ea pa lr br => ?_⟩
      refine ⟨.ref f, rfl, f, 5, 6, rfl, by decide, by decide, by decide, by decide, f1, fun H2 b ys ss c2 f2 nb eb pb ls bs => ⟨.ref a, .ref b, rfl, ?_⟩⟩
      have naf : a ≠ f := fz.ne na
      have nbf : b ≠ f := f1.ne nb
      have ea2 := c2 _ _ naf ea
      have pa2 := PairsAt.ch c2 f1 pa
      have c02 := (cz.trans c1).trans c2
      have br2 : ∀ r ∈ rs, r.1.natAbs < 2 ^ 39 ∧ r.2.natAbs < 2 ^ 39 := fun r hr => by have := br r hr; omega
      have bs2 : ∀ r ∈ ss, r.1.natAbs < 2 ^ 39 ∧ r.2.natAbs < 2 ^ 39 := fun r hr => by have := bs r hr; omega
      clear c1 c2 f1 fz cz na nb ea pa
      -- before
      refine ⟨.ref a, rfl, .ref b, rfl, l2s, fun l nl => ?_⟩
      have sl := same_new nl (o := .lst [.ref a, .ref b])
      have nice : Nice (.list [.list (dPairs rs), .list (dPairs ss)]) := part_two (part_prs br2 (by omega)) (part_prs bs2 (by omega))
      refine ⟨l, .list [.list (dPairs rs), .list (dPairs ss)], rfl, .lst (SqL.of upd_same) (.cons (.lst (SqL.of (sl _ _ ea2)) (dp_pairs (pa2.same sl))) (.cons (.lst (SqL.of (sl _ _ eb)) (dp_pairs (pb.same sl))) .nil)), nice, ?_⟩
      have ea3 := sl _ _ ea2
      have eb3 := sl _ _ eb
      have pa3 := pa2.same sl
      have pb3 := pb.same sl
      have f3 := f2.same sl
      have c03 := c02.trans (.of_same sl)
      generalize upd H2 l (.lst [.ref a, .ref b]) = H3 at ea3 eb3 pa3 pb3 f3 c03 ⊢
      clear sl nl ea2 eb pa2 pb f2 c02
      -- due
      have isz : IsSz rs ss (upto rs ss 8) := upto_sz (fun r hr => by have := br r hr; omega) (fun r hr => by have := bs r hr; omega)
      refine ⟨.ref a, rfl, .ref b, rfl, a, b, xs, ys, rs, ss, rfl, ea3, pa3, eb3, pb3, by omega, by omega, fun H4 s4 => ?_⟩
      generalize hD : upto rs ss 8 = D_ at isz
      refine ⟨.ref a, rfl, .ref b, rfl, a, b, xs, ys, rs, ss, rfl, .inl (SqL.of (s4 _ _ ea3)), pa3.same s4, .inl (SqL.of (s4 _ _ eb3)), pb3.same s4, by omega, by omega, fun H5 o5 s5 i5 => ?_⟩
      obtain rfl := isSz_one i5 isz
      refine ⟨optV o5, rfl, scal_opt _ _, _, rfl, ?_⟩
      rw [decide_eq_true rfl]
      have s45 := s4.trans s5
      refine iteF ⟨.ref a, rfl, a, xs, rfl, .inl ⟨SqL.of (s45 _ _ ea3), fun t1 nt1 => ?_⟩⟩
      have u1 := same_new nt1 (o := .tup xs)
      refine ⟨.ref b, rfl, b, ys, rfl, .inl ⟨SqL.of (u1 _ _ (s45 _ _ eb3)), fun t2 nt2 => ?_⟩⟩
      have u2 := same_new nt2 (o := .tup ys)
      have e1 := u2 _ _ (upd_same (H := H5) (a := t1) (o := .tup xs))
      have e2 := upd_same (H := upd H5 t1 (.tup xs)) (a := t2) (o := .tup ys)
      have s6 := (s45.trans u1).trans u2
      refine ⟨t1, t2, xs, ys, rs, ss, rfl, .inr (SqT.of e1), pa3.same s6, .inr (SqT.of e2), pb3.same s6, by omega, by omega, fun H7 o7 s7 i7 => ?_⟩
      obtain rfl := isSz_one i7 i5
      refine ⟨optV o7, rfl, scal_opt _ _, _, rfl, ?_⟩
      rw [decide_eq_true rfl]
      have s07 := s6.trans s7
      refine iteF ⟨.ref a, rfl, .ref b, rfl, a, b, xs, ys, rs, ss, rfl, .inl (SqL.of (s07 _ _ ea3)), pa3.same s07, .inl (SqL.of (s07 _ _ eb3)), pb3.same s07, by omega, by omega, fun H8 s8 => ⟨_, rfl, ?_⟩⟩
      have s08 := s07.trans s8
      rw [show nm rs ss = nmB rs ss from rfl]
      have ea8 := s08 _ _ ea3
      have eb8 := s08 _ _ eb3
      have pa8 := pa3.same s08
      have pb8 := pb3.same s08
      have f8 := f3.same s08
      have c8 := c03.trans (.of_same s08)
      clear s4 s5 s45 u1 u2 e1 e2 s6 s7 s07 nt1 nt2 s08 s8 ea3 eb3 pa3 pb3 f3 c03 i5
      have go : ∀ H9, Same H8 H9 → Ch f H H9 ∧ FeedAt H9 f ∧ H9 a = some (.lst xs) ∧ H9 b = some (.lst ys) ∧ PairsAt H9 xs rs ∧ PairsAt H9 ys ss := fun H9 s9 => ⟨c8.trans (.of_same s9), f8.same s9, s9 _ _ ea8, s9 _ _ eb8, pa8.same s9, pb8.same s9⟩
      clear ea8 eb8 pa8 pb8 f8 c8
      refine join1 (R := ?R) (Pj := fun Hy v => v = optV o7 ∧ Same H8 Hy) (fun hn key => ?h1) (fun hn key => ?h2) ?kk1
      case h1 =>
        obtain ⟨_, _, g3, g4, g5, g6⟩ := go _ (Same.refl H8)
        refine ⟨.ref a, rfl, .ref b, rfl, a, b, xs, ys, rs, ss, rfl, .inl (SqL.of g3), g5, .inl (SqL.of g4), g6, by omega, by omega, fun H9 o9 s9 i9 => ?_⟩
        have e9 := isSz_one i9 (nm_sz (nmB_iff.mp hn))
        have e7 := isSz_one i7 (nm_sz (nmB_iff.mp hn))
        subst e9
        refine ⟨rfl, _, rfl, iteF ?_⟩
        generalize hv : optV o7 = v7 at *
        exact key H9 v7 ⟨rfl, s9⟩
      case h2 => exact iteF (key H8 _ ⟨rfl, Same.refl H8⟩)
      case kk1 =>
      rintro H9 v9 ⟨rfl, s9⟩
      obtain ⟨c9, f9, ea9, eb9, pa9, pb9⟩ := go H9 s9
      clear go s9
      -- far, step
      refine ⟨.ref f, rfl, 3, rfl, 50, rfl, 10, 9, rfl, rfl, ⟨by decide, by decide, by decide⟩, _, 600, rfl, rfl, l4s, fun l nl => ?_⟩
      have sl := same_new nl (o := .lst [.int 0, .int (-3), .int (-50), .int (10 ^ (9 : Int).toNat - 600)])
      refine ⟨f, l, _, rfl, f9.ne nl, SqL.of upd_same, by show 0 < 4; decide, by show 4 ≤ 1000; decide, f9.same sl, fun H10 k vv hk c10 f10 => ?_⟩
      obtain ⟨far, rfl, b1, b2⟩ : ∃ far, vv = V.int far ∧ -50 ≤ far ∧ far ≤ 1000000000 := by
        match k, hk with
        | 0, hk => exact ⟨_, (Option.some.inj hk).symm, by decide, by decide⟩
        | 1, hk => exact ⟨_, (Option.some.inj hk).symm, by decide, by decide⟩
        | 2, hk => exact ⟨_, (Option.some.inj hk).symm, by decide, by decide⟩
        | 3, hk => exact ⟨_, (Option.some.inj hk).symm, by decide, by decide⟩
        | n + 4, hk => simp at hk
      have ea10 := c10 _ _ naf (sl _ _ ea9)
      have eb10 := c10 _ _ nbf (sl _ _ eb9)
      have pa10 := PairsAt.ch c10 (f9.same sl) (pa9.same sl)
      have pb10 := PairsAt.ch c10 (f9.same sl) (pb9.same sl)
      have c010 := (c9.trans (.of_same sl)).trans c10
      clear hk nl c10 sl f9 ea9 eb9 pa9 pb9 c9
      refine ⟨.ref f, rfl, l3s, fun l nl => ?_⟩
      have sl := same_new nl (o := .lst [.int 1, .int 7, .int 70])
      refine ⟨f, l, _, rfl, f10.ne nl, SqL.of upd_same, by show 0 < 3; decide, by show 3 ≤ 1000; decide, f10.same sl, fun H11 k vv hk c11 f11 => ⟨.int far, vv, rfl, ?_⟩⟩
      obtain ⟨step, rfl, t1, t2⟩ : ∃ step, vv = V.int step ∧ 0 < step ∧ step ≤ 70 := by
        match k, hk with
        | 0, hk => exact ⟨_, (Option.some.inj hk).symm, by decide, by decide⟩
        | 1, hk => exact ⟨_, (Option.some.inj hk).symm, by decide, by decide⟩
        | 2, hk => exact ⟨_, (Option.some.inj hk).symm, by decide, by decide⟩
        | n + 3, hk => simp at hk
      have ea11 := c11 _ _ naf (sl _ _ ea10)
      have eb11 := c11 _ _ nbf (sl _ _ eb10)
      have pa11 := PairsAt.ch c11 (f10.same sl) (pa10.same sl)
      have pb11 := PairsAt.ch c11 (f10.same sl) (pb10.same sl)
      have c011 := (c010.trans (.of_same sl)).trans c11
      clear hk nl c11 sl f10 ea10 eb10 pa10 pb10 c010
      -- more
      have im := isSz_scl (far := far) (far2 := 0 - far) t1 i7
      refine ⟨optV o7, rfl, rfl, _, rfl, ?_⟩
      refine join1 (R := ?R2) (Pj := fun Hy v => Hy = H11 ∧ v = optV (o7.map (· * step))) (fun hn key => ?g1) (fun hn key => ?g2) ?gg1
      case g1 =>
        generalize hH : H11 = Hq
        generalize hv : V.non = vq
        refine key Hq vq ⟨hH.symm, ?_⟩
        rw [← hv]
        cases o7 with
        | none => rfl
        | some s => exact absurd hn (by simp [optV])
      case g2 =>
        cases o7 with
        | none => exact absurd hn (by simp [optV])
        | some s =>
          refine ⟨.int s, rfl, .int step, rfl, s, step, rfl, rfl, .inr ⟨by omega, by omega⟩, ?_⟩
          exact key H11 (.int (s * step)) ⟨rfl, rfl⟩
      case gg1 =>
      rintro Hy v ⟨rfl, rfl⟩
      -- moved, others
      refine ⟨.ref a, rfl, .int far, rfl, .int step, rfl, a, far, step, xs, rs, rfl, ea11, pa11, by omega, fun r hr => by have := br r hr; omega, fun H12 p1 zs1 s12 np1 ep1 pz1 => ?_⟩
      refine ⟨.ref b, rfl, .int far, rfl, 0, far, rfl, rfl, .int step, rfl, b, 0 - far, step, ys, ss, rfl, s12 _ _ eb11, pb11.same s12, by omega, fun r hr => by have := bs r hr; omega, fun H13 p2 zs2 s13 np2 ep2 pz2 => ⟨.ref p1, .ref p2, rfl, ?_⟩⟩
      refine ⟨.ref p1, rfl, .ref p2, rfl, p1, p2, zs1, zs2, rs.map (scl far step), ss.map (scl (0 - far) step), rfl, .inl (SqL.of (s13 _ _ ep1)), pz1.same s13, .inl (SqL.of ep2), pz2, by rw [List.length_map]; omega, by rw [List.length_map]; omega, fun H14 o14 s14 i14 => ?_⟩
      obtain rfl := isSz_one i14 im
      refine ⟨optV _, rfl, scal_opt _ _, _, rfl, ?_⟩
      rw [decide_eq_true rfl]
      have sA := (s12.trans s13).trans s14
      refine iteF ⟨.ref a, rfl, .ref b, rfl, l2s, fun l nl => ?_⟩
      have sl := same_new nl (o := .lst [.ref a, .ref b])
      have sB := sA.trans sl
      refine ⟨l, .list [.list (dPairs rs), .list (dPairs ss)], rfl, .lst (SqL.of upd_same) (.cons (.lst (SqL.of (sB _ _ ea11)) (dp_pairs (pa11.same sB))) (.cons (.lst (SqL.of (sB _ _ eb11)) (dp_pairs (pb11.same sB))) .nil)), nice, .str _, rfl, rfl, _, rfl, ?_⟩
      rw [decide_eq_true rfl]
      exact iteF ⟨c011.trans (.of_same sB), f11.same sB, _, _, _, _, _, _, _, _, _, _, rfl⟩
    · rintro σ Hz ⟨cz, fz, r1, r2, r3, r4, r5, r6, r7, r8, r9, r10, rfl⟩
      exact hq _ cz fz
end
end P7R

set_option pp.maxSteps 900
/-! k57's law -/
namespace P7L
open PySem PySem.Spec PyProof.Rows L2 KA KD PH PM PA PB PC RM RN RC RE QE QF QG QH K55 K55b K57 M3W P5P P5N P7K P7R
abbrev sLaw : Stmt := topS 43
theorem scLaw : FnScope ["script", "index", "feed", "one", "other", "case", "due", "turned", "far", "step", "moved", "others", "before", "reading"] ["script"] (defScope P7L.sLaw) := ⟨rfl, rfl, rfl, by decide +kernel, rfl, by decide +kernel, by decide +kernel⟩
def TKV : List (L2.Key × V) := [(.inr "alike", .str "alike"), (.inr "less", .str "more"), (.inr "more", .str "less"), (.inr "neither", .str "neither")]
theorem trn_get (z : Wd) : valV (mergeK [] TKV) (Sum.inr (wstr z)) = some (.str (wstr (trn z))) := by cases z <;> rfl
theorem hcA : Hc [2, 0, 3, 1] [(0, 2), (0, 3), (1, 3)] :=
  ⟨⟨[], [], [2, 0, 3, 1], .nil _, nf_of_plc (by decide), .refl _, by decide⟩, by decide⟩
theorem hcB : Hc [0, 2, 1, 3, 0] [(0, 3), (0, 3), (1, 2), (1, 2)] :=
  ⟨⟨[(1, 2)], [(1, 2)], [0, 3, 0], .cons (c := (1, 2)) (.here (a := 0) (b := 2) (c := 1) (d := 3) (by decide)) (.nil _), nf_of_plc (by decide), .refl _, by decide⟩, by decide⟩
theorem wordAB : word [(0, 2), (0, 3), (1, 3)] [(0, 3), (0, 3), (1, 2), (1, 2)] = .neither := by
  have h1 : nmB [(0, 2), (0, 3), (1, 3)] [(0, 3), (0, 3), (1, 2), (1, 2)] = false := by
    cases e : nmB [(0, 2), (0, 3), (1, 3)] [(0, 3), (0, 3), (1, 2), (1, 2)] with
    | false => rfl
    | true => exact absurd (nm_le (ard_up [(0, 2), (0, 3), (1, 3)]) (nmB_iff.mp e)) (by decide)
  have h2 : nmB [(0, 3), (0, 3), (1, 2), (1, 2)] [(0, 2), (0, 3), (1, 3)] = false := by
    cases e : nmB [(0, 3), (0, 3), (1, 2), (1, 2)] [(0, 2), (0, 3), (1, 3)] with
    | false => rfl
    | true => exact absurd (nm_le (ard_up [(0, 3), (0, 3), (1, 2), (1, 2)]) (nmB_iff.mp e)) (by decide)
  unfold word
  rw [if_neg (by decide), if_neg (by rw [h1]; exact Bool.false_ne_true), if_neg (by rw [h2]; exact Bool.false_ne_true)]
theorem hc_ex {ns : List Int} : (∃ es, Hc ns es) → True := fun _ => trivial
section
variable {P : Program} {w : World} {K : PySem.W.Frag} {mg : Str → Option Value} {base : Heap} {fRG fTP fIL fBT fSW fMT fPB fCN fPIN fPT fBP fNM fSS fSM fCM fFE fTA fPI fLD fTN fRN fHS fMY fKT fHV fLR fRC fST fNV fWD fSC fSZ fSR C fIN pO fOF p3 fPH : Addr} {dRG dTP dIL dBT dSW dMT dPB dCN dPIN dPT dBP dNM dSS dSM dCM dFE dTA dPI dLD dTN dRN dHS dMY dKT dHV dLR dRC dST dNV dWD dSC dSZ dSR dIN dOF dPH : FuncData}
def spLaw (K : PySem.W.Frag) : Sp := fun vs H Q _ => ∃ (a : Addr) (ns : List Int), vs = [.ref a] ∧ SqL K H a (ns.map V.int) ∧ ns.length ≤ 63 ∧ ∀ H', Q (.bl true) H'
theorem len_law {K : PySem.W.Frag} : ∀ vs H Q E, (spLaw K) vs H Q E → vs.length = (["script"] : List Str).length := fun vs H Q E h => by
  obtain ⟨a, ns, rfl, _⟩ := h
  rfl
theorem ok_law {f0 : Addr} {fd : FuncData} (F : Fun K "law" "law" P7L.sLaw f0 fd) (T : Txt K mg fRG fTP fIL fBT fSW fMT fPB fCN fPIN fPT fBP fNM fSS fSM fCM fFE fTA fPI fLD fTN fRN fHS fMY fKT fHV fLR fRC fST fNV fWD fSC fSZ fSR C fIN pO fOF p3 fPH dRG dTP dIL dBT dSW dMT dPB dCN dPIN dPT dBP dNM dSS dSM dCM dFE dTA dPI dLD dTN dRN dHS dMY dKT dHV dLR dRC dST dNV dWD dSC dSZ dSR dIN dOF dPH) : KW.Kept P w K mg base 9 f0 fd ["script"] (spLaw K) := by
  have GRG : FnOk P w K mg base CX0 1 fRG dRG ["one", "other"] PA.spRng := PA.ok_Rng T.FRG T.min T.max
  have GIL : FnOk P w K mg base CX0 2 fIL dIL ["points", "reading"] (spLO K) := ok_LO T.FIL T.FBT T.gBT T.bBT T.len
  have GTP : FnOk P w K mg base CX0 3 fTP dTP ["load"] (spTP K) := both (ok_TPl T.FTP GIL T.gIL T.kIL T.bIL T.tuple) (ok_TPt T.FTP GIL T.gIL T.kIL T.bIL T.tuple)
  have GSW : FnOk P w K mg base CX0 4 fSW dSW ["load"] (spSw K) := ok_sw T.FSW GTP T.gTP T.kTP T.bTP (GRG.mono (by decide)) T.gRG T.kRG T.bRG T.zip
  have GMT : FnOk P w K mg base CX0 2 fMT dMT ["points", "place"] (spMT K) := ok_MT T.FMT T.abs
  have GPB : FnOk P w K mg base CX0 3 fPB dPB ["rest", "reading"] spPB := ok_PB T.FPB GIL T.gIL T.kIL T.bIL GMT T.gMT T.kMT T.bMT (GRG.mono (by decide)) T.gRG T.kRG T.bRG T.len
  have GCN : FnOk P w K mg base CX0 4 fCN dCN ["load"] (spCo K) := ok_Co T.FCN GPB T.gPB T.kPB T.bPB
  have GIN : FnOk P w K mg base CX0 1 fIN dIN ["self", "cycles", "rest"] (spInit K C) := ok_init T.FIN T.cn T.sorted T.tuple
  have GOF : FnOk P w K mg base CX0 5 fOF dOF ["cls", "load"] (spOf K C) := ok_of T.FOF T.mkc (GIN.mono (by decide)) T.bIN GCN T.gCN T.kCN T.bCN
  have GPH : FnOk P w K mg base CX0 5 fPH dPH ["self"] (spPH C) := ok_PH T.FPH T.cn GSW T.gSW T.kSW T.bSW T.sorted T.tuple
  have GPIN : FnOk P w K mg base CX0 1 fPIN dPIN ["row", "value"] BO.spPI := BO.ok_PI T.FPIN T.len
  have GPT : FnOk P w K mg base CX0 2 fPT dPT ["row", "value"] BO.spPT := BO.ok_PT T.FPT GPIN T.gPIN T.kPIN T.bPIN
  have GBP : FnOk P w K mg base CX0 3 fBP dBP ["first", "second"] (spBP K) := ok_BP T.FBP (GPIN.mono (by decide)) T.gPIN T.kPIN T.bPIN GPT T.gPT T.kPT T.bPT T.len T.sorted T.enumerate
  have GNM : FnOk P w K mg base CX0 4 fNM dNM ["first", "second"] (spNM K) := ok_NM T.FNM GBP T.gBP T.kBP T.bBP
  have GSS : FnOk P w K mg base CX0 1 fSS dSS ["ranges"] (P7S.spSs K) := P7S.ok_Ss T.FSS T.sorted
  have GSM : FnOk P w K mg base CX0 2 fSM dSM ["first", "second"] (P7S.spSM K) := P7S.ok_SM T.FSM GSS T.gSS T.kSS T.bSS T.len T.enumerate
  have GCM : FnOk P w K mg base CX0 7 fCM dCM ["first", "second"] (P7S.spCP K) := P7S.ok_CP T.FCM T.gC T.rd T.cm (GOF.mono (by decide)) T.bOF T.cn T.prH GPH T.bPH (GNM.mono (by decide)) T.gNM T.kNM T.bNM
  have GFE : FnOk P w K mg base CX0 1 fFE dFE ["script", "index"] (spFeed K) := ok_feed T.FFE T.len T.max T.abs
  have GTA : FnOk P w K mg base CX0 1 fTA dTA ["feed", "size"] spTake := ok_take T.FTA
  have GPI : FnOk P w K mg base CX0 2 fPI dPI ["feed", "options"] (spPick K) := ok_pick T.FPI T.FTA T.gTA T.bTA T.len
  have GLD : FnOk P w K mg base CX0 2 fLD dLD ["feed", "size", "most"] P7K.spLd := P7K.ok_ld T.FLD GTA T.gTA T.kTA T.bTA T.range
  have GTN : FnOk P w K mg base CX0 1 fTN dTN ["load"] (spTn K) := ok_tn T.FTN T.len T.range T.enumerate
  have GRN : FnOk P w K mg base CX0 1 fRN dRN ["first", "second"] PA.spRng := ok_rn T.FRN T.min T.max
  have GHS : FnOk P w K mg base CX0 1 fHS dHS ["outer", "inner"] (spCont K) := ok_hs T.FHS
  have GMY : FnOk P w K mg base CX0 2 fMY dMY ["points", "k"] (spMy K) := ok_my T.FMY GRN T.gRN T.kRN T.bRN GHS T.gHS T.kHS T.bHS
  have GKT : FnOk P w K mg base CX0 3 fKT dKT ["load"] (M3W.spCt K) := ok_ct T.FKT GTN T.gTN T.kTN T.bTN GRN T.gRN T.kRN T.bRN GMY T.gMY T.kMY T.bMY T.len T.range T.sorted
  have GHV : FnOk P w K mg base CX0 4 fHV dHV ["load"] (spHV K) := ok_HV T.FHV GKT T.gKT T.kKT T.bKT (GRN.mono (by decide)) T.gRN T.kRN T.bRN T.len T.range T.sorted
  have GLR : FnOk P w K mg base CX0 2 fLR dLR ["feed", "most", "top"] spLR := ok_LR T.FLR GTA T.gTA T.kTA T.bTA T.range T.int
  have GRC : FnOk P w K mg base CX0 2 fRC dRC ["ranges", "some"] spRC := ok_RC T.FRC GHS T.gHS T.kHS T.bHS T.len
  have GST : FnOk P w K mg base CX0 1 fST dST ["things"] spST := ok_ST T.FST
  have GNV : FnOk P w K mg base CX0 3 fNV dNV ["first", "second"] spNV := ok_NV T.FNV GRC T.gRC T.kRC T.bRC GST T.gST T.kST T.bST T.sorted T.set
  have GWD : FnOk P w K mg base CX0 5 fWD dWD ["one", "other"] (spWD K) := ok_WD T.FWD GHV T.gHV T.kHV T.bHV GNV T.gNV T.kNV T.bNV
  have GSC : FnOk P w K mg base CX0 1 fSC dSC ["ranges", "far", "step"] spSC := ok_SC T.FSC
  have GSZ : FnOk P w K mg base CX0 1 fSZ dSZ ["first", "second"] spSZ := ok_SZ T.FSZ T.range T.len
  have GRG := GRG.mono (show 1 ≤ 8 by decide)
  have GIL := GIL.mono (show 2 ≤ 8 by decide)
  have GTP := GTP.mono (show 3 ≤ 8 by decide)
  have GSW := GSW.mono (show 4 ≤ 8 by decide)
  have GMT := GMT.mono (show 2 ≤ 8 by decide)
  have GPB := GPB.mono (show 3 ≤ 8 by decide)
  have GCN := GCN.mono (show 4 ≤ 8 by decide)
  have GIN := GIN.mono (show 1 ≤ 7 by decide)
  have GOF := GOF.mono (show 5 ≤ 8 by decide)
  have GPH := GPH.mono (show 5 ≤ 7 by decide)
  have GPIN := GPIN.mono (show 1 ≤ 8 by decide)
  have GPT := GPT.mono (show 2 ≤ 8 by decide)
  have GBP := GBP.mono (show 3 ≤ 8 by decide)
  have GNM := GNM.mono (show 4 ≤ 8 by decide)
  have GSS := GSS.mono (show 1 ≤ 8 by decide)
  have GSM := GSM.mono (show 2 ≤ 8 by decide)
  have GCM := GCM.mono (show 7 ≤ 8 by decide)
  have GFE := GFE.mono (show 1 ≤ 8 by decide)
  have GTA := GTA.mono (show 1 ≤ 8 by decide)
  have GPI := GPI.mono (show 2 ≤ 8 by decide)
  have GLD := GLD.mono (show 2 ≤ 8 by decide)
  have GTN := GTN.mono (show 1 ≤ 8 by decide)
  have GRN := GRN.mono (show 1 ≤ 8 by decide)
  have GHS := GHS.mono (show 1 ≤ 8 by decide)
  have GMY := GMY.mono (show 2 ≤ 8 by decide)
  have GKT := GKT.mono (show 3 ≤ 8 by decide)
  have GHV := GHV.mono (show 4 ≤ 8 by decide)
  have GLR := GLR.mono (show 2 ≤ 8 by decide)
  have GRC := GRC.mono (show 2 ≤ 8 by decide)
  have GST := GST.mono (show 1 ≤ 8 by decide)
  have GNV := GNV.mono (show 3 ≤ 8 by decide)
  have GWD := GWD.mono (show 5 ≤ 8 by decide)
  have GSC := GSC.mono (show 1 ≤ 8 by decide)
  have GSZ := GSZ.mono (show 1 ≤ 8 by decide)
  have GSR : KW.Kept P w K mg base 8 fSR dSR ["feed"] spSR := ok_sr T.FSR T
  have lenSR := len_sr
  refine KW.kept_of F P7L.scLaw len_law (fun cdv A outer s H vs Q E hgA hr h => ?_)
  · obtain ⟨a, ns, rfl, hS, hlen, q⟩ := h
    have hg : (A.deeper (envOfC "law" (defScope P7L.sLaw) s.heap.objs.size f0 cdv)).guards = some [] := hgA
    have hu : (A.deeper (envOfC "law" (defScope P7L.sLaw) s.heap.objs.size f0 cdv)).units + 100 < cLine := by have := hr.un; omega
    refine ⟨_, (pss_cons (ps_for PassesOwn.never rfl (pi_range1 rfl T.range (pa_cons (pe_callB (call_max2 rfl) (by rfl) T.max (by decide +kernel) (pa_cons pe_int (pa_cons (pe_callB (call_min2 rfl) (by rfl) T.min (by decide +kernel) (pa_cons pe_int (pa_cons (pe_callB call_len_seq (by rfl) T.len PySem.boot_len (pa_cons (pv 0) pa_nil)) pa_nil))) pa_nil))) pa_nil)) (pg_name (i := 1) P7L.scLaw.nd rfl (.inl rfl))
      (pss_cons (ps_set (i := 2) P7L.scLaw.nd rfl (.inr rfl) (pe_call GFE hr (by rfl) T.gFE T.kFE T.bFE .nil pass0 (pa_cons (pv 0) (pa_cons (pv 1) pa_nil))))
      (pss_cons (ps_if (pt_not (pt_val (GK.pe_callG GSR hg lenSR (hr.mono (by decide)) (by rfl) T.gSR T.kSR T.bSR .nil pass0 (pa_cons (pv 2) pa_nil)))) (pss_one (ps_ret pe_bl)) pss_nil)
      (pss_cons (ps_set (i := 3) P7L.scLaw.nd rfl (.inl rfl) (pe_call GLD hr (by rfl) T.gLD T.kLD T.bLD .nil pass0 (pa_cons (pv 2) (pa_cons (pe_call GTA hr (by rfl) T.gTA T.kTA T.bTA .nil pass0 (pa_cons (pv 2) (pa_cons pe_int pa_nil))) (pa_cons pe_int pa_nil)))))
      (pss_cons (ps_set (i := 4) P7L.scLaw.nd rfl (.inl rfl) (pe_call GLD hr (by rfl) T.gLD T.kLD T.bLD .nil pass0 (pa_cons (pv 2) (pa_cons (pe_call GTA hr (by rfl) T.gTA T.kTA T.bTA .nil pass0 (pa_cons (pv 2) (pa_cons pe_int pa_nil))) (pa_cons pe_int pa_nil)))))
      (pss_cons (ps_set (i := 5) P7L.scLaw.nd rfl (.inl rfl) (pe_call GTA hr (by rfl) T.gTA T.kTA T.bTA .nil pass0 (pa_cons (pv 2) (pa_cons pe_int pa_nil))))
      (pss_cons (ps_if (pt_cmpR op_eq (pv 5) pe_int (nomark _)) (pss_one (ps_set (i := 4) P7L.scLaw.nd rfl (.inl rfl) (GR.pe_back (pv 3) (po_some (pe_un un_neg pe_int))))) pss_nil)
      (pss_cons (ps_if (pt_cmpR op_eq (pv 5) pe_int (nomark _)) (pss_one (ps_setLc (i := 4) (own := [("reading", 13)]) (g := gName 13)   rfl P7L.scLaw.nd rfl rfl (sw_true rfl rfl rfl (by decide +kernel)) (pi_list (pv 3)) (blkOk_by (own := [("reading", 13)]) (N := ["script", "index", "feed", "one", "other", "case", "due", "turned", "far", "step", "moved", "others", "before", "reading"]) (sc := defScope P7L.sLaw) (by decide +kernel)) (fun _ _ _ _ _ => (pg_name (i := 13) P7L.scLaw.nd rfl (Or.inl rfl) (Or.inr rfl))) (fun _ _ _ _ _ => pts_one (pt_cmpR op_gt (pe_call GTA hr (by rfl) T.gTA T.kTA T.bTA .nil pass0 (pa_cons (pv 2) (pa_cons pe_int pa_nil))) pe_int (nomark _))) (fun _ _ _ _ _ => (pv 13)))) pss_nil)
      (pss_cons (ps_if (pt_cmpR op_eq (pv 5) pe_int (nomark _)) (pss_one (ps_setLc (i := 4) (own := [("reading", 13)]) (g := gName 13)   rfl P7L.scLaw.nd rfl rfl (sw_true rfl rfl rfl (by decide +kernel)) (pi_list (pv 3)) (blkOk_by (own := [("reading", 13)]) (N := ["script", "index", "feed", "one", "other", "case", "due", "turned", "far", "step", "moved", "others", "before", "reading"]) (sc := defScope P7L.sLaw) (by decide +kernel)) (fun _ _ _ _ _ => (pg_name (i := 13) P7L.scLaw.nd rfl (Or.inl rfl) (Or.inr rfl))) (fun _ _ _ _ _ => pts_nil) (fun _ _ _ _ _ => (pe_op op_mul pe_int (pv 13))))) pss_nil)
      (pss_cons (ps_set (i := 6) P7L.scLaw.nd rfl (.inl rfl) (pe_call GWD hr (by rfl) T.gWD T.kWD T.bWD .nil pass0 (pa_cons (pv 3) (pa_cons (pv 4) pa_nil))))
      (pss_cons (ps_set (i := 7) P7L.scLaw.nd rfl (.inl rfl) (pe_disp (pps_cons pe_str pe_str (pps_cons pe_str pe_str (pps_cons pe_str pe_str (pps_cons pe_str pe_str pps_nil)))) (by rfl) (by rfl) (fun z => by cases z) (by decide)))
      (pss_cons (ps_asg (pe_tup (pa_cons (pe_call GPI hr (by rfl) T.gPI T.kPI T.bPI .nil pass0 (pa_cons (pv 2) (pa_cons (pe_lst (pa_cons pe_int (pa_cons (pe_un un_neg pe_int) (pa_cons (pe_un un_neg pe_int) (pa_cons (pe_op op_sub (pe_op op_pow pe_int pe_int) pe_int) pa_nil))))) pa_nil))) (pa_cons (pe_call GPI hr (by rfl) T.gPI T.kPI T.bPI .nil pass0 (pa_cons (pv 2) (pa_cons (pe_lst (pa_cons pe_int (pa_cons pe_int (pa_cons pe_int pa_nil)))) pa_nil))) pa_nil))) (pg_tup rfl (pgs_cons (pg_name (i := 8) P7L.scLaw.nd rfl (.inr rfl)) (pgs_cons (pg_name (i := 9) P7L.scLaw.nd rfl (.inr rfl)) pgs_nil))))
      (pss_cons (ps_setLc (i := 10) (own := [("reading", 13)]) (g := gName 13)   rfl P7L.scLaw.nd rfl rfl (sw_true rfl rfl rfl (by decide +kernel)) (pi_list (pv 3)) (blkOk_by (own := [("reading", 13)]) (N := ["script", "index", "feed", "one", "other", "case", "due", "turned", "far", "step", "moved", "others", "before", "reading"]) (sc := defScope P7L.sLaw) (by decide +kernel)) (fun _ _ _ _ _ => (pg_name (i := 13) P7L.scLaw.nd rfl (Or.inl rfl) (Or.inr rfl))) (fun _ _ _ _ _ => pts_nil) (fun _ _ _ _ _ => (pe_op op_add (pe_op op_mul (pv 13) (pv 9)) (pv 8))))
      (pss_cons (ps_setLc (i := 11) (own := [("reading", 13)]) (g := gName 13)   rfl P7L.scLaw.nd rfl rfl (sw_true rfl rfl rfl (by decide +kernel)) (pi_list (pv 4)) (blkOk_by (own := [("reading", 13)]) (N := ["script", "index", "feed", "one", "other", "case", "due", "turned", "far", "step", "moved", "others", "before", "reading"]) (sc := defScope P7L.sLaw) (by decide +kernel)) (fun _ _ _ _ _ => (pg_name (i := 13) P7L.scLaw.nd rfl (Or.inl rfl) (Or.inr rfl))) (fun _ _ _ _ _ => pts_nil) (fun _ _ _ _ _ => (pe_op op_add (pe_op op_mul (pv 13) (pv 9)) (pv 8))))
      (pss_cons (ps_if (PW.pt (pw_or (pt_cmpR op_ne (pe_call GCM hr (by rfl) T.gCM T.kCM T.bCM .nil pass0 (pa_cons (pv 10) (pa_cons (pv 11) pa_nil))) (pv 6) (nomark _)) (pw_or1 (pt_cmpR op_ne (pe_call GCM hr (by rfl) T.gCM T.kCM T.bCM .nil pass0 (pa_cons (pv 11) (pa_cons (pv 10) pa_nil))) (pe_dget (hu_of hr) (pv 7) (pv 6) (fun _ _ => rfl)) (nomark _))))) (pss_one (ps_ret pe_bl)) pss_nil)
      (pss_cons (ps_set (i := 12) P7L.scLaw.nd rfl (.inl rfl) (pe_callB (cr_reprD hg hu) (by rfl) T.repr (by decide +kernel) (pa_cons (pe_lst (pa_cons (pv 3) (pa_cons (pv 4) pa_nil))) pa_nil)))
      (pss_cons (ps_if (PW.pt (pw_or (pt_cmpR op_ne (pe_call GCM hr (by rfl) T.gCM T.kCM T.bCM .nil pass0 (pa_cons (pv 3) (pa_cons (pv 4) pa_nil))) (pv 6) (nomark _)) (pw_or1 (pt_cmpR op_ne (pe_call GCM hr (by rfl) T.gCM T.kCM T.bCM .nil pass0 (pa_cons (pv 4) (pa_cons (pv 3) pa_nil))) (pe_dget (hu_of hr) (pv 7) (pv 6) (fun _ _ => rfl)) (nomark _))))) (pss_one (ps_ret pe_bl)) pss_nil)
      (pss_cons (ps_if (PW.pt (pw_or (pt_cmpR op_ne (pe_call GCM hr (by rfl) T.gCM T.kCM T.bCM .nil pass0 (pa_cons (pe_callTy call_tuple_of (by rfl) T.tuple (by decide +kernel) (pa_cons (pv 3) pa_nil)) (pa_cons (pv 4) pa_nil))) (pv 6) (nomark _)) (pw_or1 (pt_cmpR op_ne (pe_callB (cr_reprD hg hu) (by rfl) T.repr (by decide +kernel) (pa_cons (pe_lst (pa_cons (pv 3) (pa_cons (pv 4) pa_nil))) pa_nil)) (pv 12) (nomark _))))) (pss_one (ps_ret pe_bl)) pss_nil)
      (pss_one (ps_if (PW.pt (pw_or (pt_cmpR op_ne (pe_call GCM hr (by rfl) T.gCM T.kCM T.bCM .nil pass0 (pa_cons (pv 3) (pa_cons (pv 3) pa_nil))) pe_str (nomark _)) (pw_or1 (pt_cmpR op_ne (pe_call GCM hr (by rfl) T.gCM T.kCM T.bCM .nil pass0 (pa_cons (pe_lst (pa_cons pe_int (pa_cons pe_int (pa_cons pe_int (pa_cons pe_int pa_nil))))) (pa_cons (pe_lst (pa_cons pe_int (pa_cons pe_int (pa_cons pe_int (pa_cons pe_int (pa_cons pe_int pa_nil)))))) pa_nil))) pe_str (nomark _))))) (pss_one (ps_ret pe_bl)) pss_nil))))))))))))))))))))
      (pss_one (ps_ret pe_bl))), ?_⟩
    have l1s : 1 ≤ sizeLine := by decide
    have l2s : 2 ≤ sizeLine := by decide
    have l3s : 3 ≤ sizeLine := by decide
    have l4s : 4 ≤ sizeLine := by decide
    have l5s : 5 ≤ sizeLine := by decide
    refine ⟨.ref a, rfl, a, ns.map V.int, rfl, .inl hS, 3, ((ns.map V.int).length : Int), rfl, 1, _, rfl, _, rfl, ?_⟩
    generalize hm : (if (if ((ns.map V.int).length : Int) < 3 then ((ns.map V.int).length : Int) else 3) > 1 then (if ((ns.map V.int).length : Int) < 3 then ((ns.map V.int).length : Int) else 3) else 1) = m
    have m0 : 0 ≤ m ∧ m ≤ 4 := by subst hm; split <;> split <;> omega
    refine ⟨by omega, by omega, for_range (lo := 0) (n := m.toNat) (fun i σ H' => Same H H' ∧ ∃ r1 r2 r3 r4 r5 r6 r7 r8 r9 r10 r11 r12 r13 : Option V, σ = [some (.ref a), r1, r2, r3, r4, r5, r6, r7, r8, r9, r10, r11, r12, r13]) ⟨Same.refl H, _, _, _, _, _, _, _, _, _, _, _, _, _, rfl⟩ ?_ (fun σ H1 _ => q _)⟩
    rintro i σ H' hi ⟨sm, r1, r2, r3, r4, r5, r6, r7, r8, r9, r10, r11, r12, r13, rfl⟩
    refine ⟨.ref a, rfl, .int (0 + (i : Int)), rfl, a, ns, 0 + (i : Int), rfl, sm.seq hS, by omega, by omega, fun H1 f s1 nf fe => ?_⟩
    have hf0 : H f = none := sm.free nf
    have sm1 := sm.trans s1
    clear sm s1 nf
    refine ⟨.ref f, rfl, f, rfl, fe, fun H2 c2 f2 => ⟨_, rfl, iteF ?_⟩⟩
    refine ⟨.ref f, rfl, .ref f, rfl, f, 9, rfl, by decide, by decide, f2, fun H3 z3 c3 f3 z30 z31 => ⟨f, z3, 4, rfl, z30, by omega, by decide, by decide, f3, fun H4 b1 os c4 f4 nb1 eb1 lo bo => ?_⟩⟩
    have n1f : b1 ≠ f := f3.ne nb1
    refine ⟨.ref f, rfl, .ref f, rfl, f, 9, rfl, by decide, by decide, f4, fun H5 z5 c5 f5 z50 z51 => ⟨f, z5, 4, rfl, z50, by omega, by decide, by decide, f5, fun H6 b2 ps c6 f6 nb2 eb2 lp bp => ?_⟩⟩
    have n2f : b2 ≠ f := f5.ne nb2
    have eb1 := c6 _ _ n1f (c5 _ _ n1f eb1)
    refine ⟨.ref f, rfl, f, 4, rfl, by decide, by decide, f6, fun H7 cs c7 f7 q0 q1 => ?_⟩
    have eb1 := c7 _ _ n1f eb1
    have eb2 := c7 _ _ n2f eb2
    have sm7 := c7.old hf0 (c6.old hf0 (c5.old hf0 (c4.old hf0 (c3.old hf0 (c2.old hf0 sm1)))))
    have lo8 : os.length ≤ 8 := by omega
    have lp8 : ps.length ≤ 8 := by omega
    have bo8 : ∀ x ∈ os, 0 ≤ x ∧ x ≤ 4 := bo
    have st0 : Ch f H7 H7 ∧ FeedAt H7 f ∧ H7 b2 = some (.lst (ps.map V.int)) ∧ ps.length ≤ 8 ∧ (∀ x ∈ ps, 0 ≤ x ∧ x ≤ 8) := ⟨Ch.refl f H7, f7, eb2, lp8, fun x hx => by have := bp x hx; omega⟩
    clear c2 f2 c3 f3 c4 f4 c5 f5 c6 f6 c7 sm1 fe nb1 nb2 lo lp bo bp
    -- case 0
    refine ⟨.int cs, rfl, rfl, _, rfl, ?_⟩
    refine join1 (R := ?R0) (Pj := fun Hy v => ∃ (b : Addr) (ms : List Int), v = .ref b ∧ b ≠ f ∧ Ch f H7 Hy ∧ FeedAt Hy f ∧ Hy b = some (.lst (ms.map V.int)) ∧ ms.length ≤ 8 ∧ ∀ x ∈ ms, 0 ≤ x ∧ x ≤ 8) (fun _ key => ?a1) (fun _ key => ?a2) ?a3
    case a1 =>
      refine ⟨.ref b1, rfl, 1, rfl, _, rfl, rfl, b1, _, rfl, SqL.of eb1, fun p np => ?_⟩
      generalize hH : upd H7 p (.lst (os.map V.int).reverse) = Hq
      generalize hv : V.ref p = vq
      refine key Hq vq ⟨p, os.reverse, hv.symm, f7.ne np, by rw [← hH]; exact Ch.new np, by rw [← hH]; exact f7.upd (f7.ne np), by rw [← hH, List.map_reverse]; exact upd_same, by rw [List.length_reverse]; exact lo8, fun x hx => by have := bo8 x (List.mem_reverse.mp hx); omega⟩
    case a2 => exact key H7 (.ref b2) ⟨b2, ps, rfl, n2f, st0⟩
    case a3 =>
    rintro H8 v8 ⟨b3, ms3, rfl, n3f, c8, f8, e3, l3, d3⟩
    clear st0 eb2 n2f lp8
    -- case 1
    refine ⟨.int cs, rfl, rfl, _, rfl, ?_⟩
    refine join1 (R := ?R1) (Pj := fun Hy v => ∃ (b : Addr) (ms : List Int), v = .ref b ∧ b ≠ f ∧ Ch f H7 Hy ∧ FeedAt Hy f ∧ Hy b = some (.lst (ms.map V.int)) ∧ ms.length ≤ 8 ∧ ∀ x ∈ ms, 0 ≤ x ∧ x ≤ 8) (fun _ key => ?b1) (fun _ key => ?b2) ?b3
    case b1 =>
      have e1 := c8 _ _ n1f eb1
      dsimp only [tSeq, tAsg, gName]
      refine ⟨.ref b1, rfl, b1, rfl, ⟨_, SqL.of e1⟩, fun D nD => ?_⟩
      have nDf := f8.ne nD
      refine lc_it (walk_list (xs := os.map V.int)) (fun i Hz => Ch f H8 Hz ∧ FeedAt Hz f ∧ ∃ ms : List Int, ms.length ≤ i ∧ (∀ x ∈ ms, 0 ≤ x ∧ x ≤ 8) ∧ Hz D = some (.lst (ms.map V.int))) ⟨Ch.new nD, f8.upd nDf, [], Nat.zero_le _, fun _ z => (List.not_mem_nil z).elim, upd_same⟩ (fun i Hz _ z => SqL.of (z.1 _ _ n1f e1)) ?_ ?_
      · rintro j x Hz Hy hj ⟨cz, fz, ms, h1, h2, h3⟩ ⟨rfl, hx⟩
        obtain ⟨o, ho, rfl⟩ := int_at hx
        have lj : j < os.length := by rw [List.length_map] at hj; exact hj
        refine ⟨rfl, .ref f, rfl, f, 3, rfl, by decide, by decide, fz, fun Hw z cw fw z0 z1 => ⟨_, _, rfl, rfl, _, rfl, ?_⟩⟩
        have h3w := cw _ _ nDf h3
        by_cases hz : z > 0
        · rw [decide_eq_true hz]
          refine iteT ⟨.int o, rfl, _, h3w, ?_, Ch.again nD (cz.trans cw), fw.upd nDf, ms ++ [o], by rw [List.length_append, List.length_singleton]; omega, fun x hx => ?_, ?_⟩
          · rw [List.length_map]
            exact small3000 (by omega)
          · rcases List.mem_append.mp hx with y | y
            · exact h2 x y
            · have := bo8 o (List.mem_of_getElem? ho)
              rw [List.mem_singleton.mp y]
              omega
          · rw [upd_same, List.map_append]
            rfl
        · rw [decide_eq_false hz]
          exact iteF ⟨cz.trans cw, fw, ms, by omega, h2, h3w⟩
      · rintro Hz ⟨cz, fz, ms, h1, h2, h3⟩
        rw [List.length_map] at h1
        generalize hv : V.ref D = vq
        exact key Hz vq ⟨D, ms, hv.symm, nDf, c8.trans cz, fz, h3, by omega, h2⟩
    case b2 => exact key H8 (.ref b3) ⟨b3, ms3, rfl, n3f, c8, f8, e3, l3, d3⟩
    case b3 =>
    rintro H9 v9 ⟨b4, ms4, rfl, n4f, c9, f9, e4, l4, d4⟩
    clear c8 f8 e3 l3 d3 n3f
    -- case 2
    refine ⟨.int cs, rfl, rfl, _, rfl, ?_⟩
    refine join1 (R := ?R2) (Pj := fun Hy v => ∃ (b : Addr) (ms : List Int), v = .ref b ∧ b ≠ f ∧ Ch f H7 Hy ∧ FeedAt Hy f ∧ Hy b = some (.lst (ms.map V.int)) ∧ ms.length ≤ 8 ∧ ∀ x ∈ ms, 0 ≤ x ∧ x ≤ 8) (fun _ key => ?c1) (fun _ key => ?c2) ?c3
    case c1 =>
      have e1 := c9 _ _ n1f eb1
      dsimp only [tSeq, tAsg, gName]
      refine ⟨.ref b1, rfl, b1, rfl, ⟨_, SqL.of e1⟩, fun D nD => ?_⟩
      have nDf := f9.ne nD
      refine lc_it (walk_list (xs := os.map V.int)) (fun i Hz => Same H9 Hz ∧ Hz D = some (.lst (((os.take i).map (2 * ·)).map V.int))) ⟨same_new nD, upd_same⟩ (fun i Hz _ z => SqL.of (z.1 _ _ e1)) ?_ ?_
      · rintro j x Hz Hy hj ⟨sz, hD⟩ ⟨rfl, hx⟩
        obtain ⟨o, ho, rfl⟩ := int_at hx
        refine ⟨rfl, iteT (B := True) ⟨.int o, rfl, 2, o, rfl, rfl, .inl ⟨by decide, by decide⟩, _, hD, ?_, same_again nD sz, ?_⟩⟩
        · rw [List.length_map, List.length_map, List.length_take]
          exact small3000 (by omega)
        · rw [List.take_add_one, ho, Option.toList_some, List.map_append, List.map_append]
          exact upd_same
      · rintro Hz ⟨sz, hD⟩
        rw [List.length_map, List.take_length] at hD
        generalize hv : V.ref D = vq
        refine key Hz vq ⟨D, os.map (2 * ·), hv.symm, nDf, c9.trans (.of_same sz), f9.same sz, hD, by rw [List.length_map]; exact lo8, fun x hx => ?_⟩
        obtain ⟨y, hy, rfl⟩ := List.mem_map.mp hx
        have := bo8 y hy
        show 0 ≤ 2 * y ∧ 2 * y ≤ 8
        omega
    case c2 => exact key H9 (.ref b4) ⟨b4, ms4, rfl, n4f, c9, f9, e4, l4, d4⟩
    case c3 =>
    rintro H10 v10 ⟨bb, ms, rfl, nbf, c10, f10, eb, lm, dm⟩
    have ea := c10 _ _ n1f eb1
    have sm10 := c10.old hf0 sm7
    clear c9 f9 e4 l4 d4 n4f c10 eb1 sm7 f7
    -- due
    refine ⟨.ref b1, rfl, .ref bb, rfl, b1, bb, os, ms, rfl, .inl (SqL.of ea), .inl (SqL.of eb), by omega, by omega, fun x hx => by have := bo8 x hx; omega, fun x hx => by have := dm x hx; omega, fun H11 es fs s11 he hfs => ?_⟩
    have wt : word fs es = trn (word es fs) := word_trn he.srt hfs.srt
    generalize hW : word es fs = W at wt
    -- turned
    refine fun d nd => ⟨upd_same, TKV, rfl, by decide, ?_⟩
    have sd1 := same_new nd (o := .dK [])
    have sd := same_again (o := .dK (mergeK [] TKV)) nd sd1
    have hd := upd_same (H := upd H11 d (.dK [])) (a := d) (o := .dK (mergeK [] TKV))
    have s12 := s11.trans sd
    generalize upd (upd H11 d (.dK [])) d (.dK (mergeK [] TKV)) = H12 at hd s12 ⊢
    have f12 := f10.same s12
    have ea := s12 _ _ ea
    have eb := s12 _ _ eb
    have sm12 := sm10.trans s12
    have ndf : d ≠ f := fun z => by obtain ⟨_, _, _, _, _, e⟩ := f12; rw [z, e] at hd; cases hd
    clear sd sd1 nd s11 s12 f10 sm10 H11
    -- far, step
    refine ⟨.ref f, rfl, 3, rfl, 50, rfl, 10, 9, rfl, rfl, ⟨by decide, by decide, by decide⟩, _, 600, rfl, rfl, l4s, fun l nl => ?_⟩
    have sl := same_new nl (o := .lst [.int 0, .int (-3), .int (-50), .int (10 ^ (9 : Int).toNat - 600)])
    refine ⟨f, l, _, rfl, f12.ne nl, SqL.of upd_same, by show 0 < 4; decide, by show 4 ≤ 1000; decide, f12.same sl, fun H13 k vv hk c13 f13 => ?_⟩
    obtain ⟨far, rfl, g1, g2⟩ : ∃ far, vv = V.int far ∧ -50 ≤ far ∧ far ≤ 1000000000 := by
      match k, hk with
      | 0, hk => exact ⟨_, (Option.some.inj hk).symm, by decide, by decide⟩
      | 1, hk => exact ⟨_, (Option.some.inj hk).symm, by decide, by decide⟩
      | 2, hk => exact ⟨_, (Option.some.inj hk).symm, by decide, by decide⟩
      | 3, hk => exact ⟨_, (Option.some.inj hk).symm, by decide, by decide⟩
      | n + 4, hk => simp at hk
    have ea := c13 _ _ n1f (sl _ _ ea)
    have eb := c13 _ _ nbf (sl _ _ eb)
    have hd := c13 _ _ ndf (sl _ _ hd)
    have sm13 := c13.old hf0 (sm12.trans sl)
    clear hk nl c13 sl f12 sm12
    refine ⟨.ref f, rfl, l3s, fun l nl => ?_⟩
    have sl := same_new nl (o := .lst [.int 1, .int 7, .int 70])
    refine ⟨f, l, _, rfl, f13.ne nl, SqL.of upd_same, by show 0 < 3; decide, by show 3 ≤ 1000; decide, f13.same sl, fun H14 k vv hk c14 f14 => ⟨l2s, fun tq ntq => ?_⟩⟩
    obtain ⟨step, rfl, t1, t2⟩ : ∃ step, vv = V.int step ∧ 0 < step ∧ step ≤ 70 := by
      match k, hk with
      | 0, hk => exact ⟨_, (Option.some.inj hk).symm, by decide, by decide⟩
      | 1, hk => exact ⟨_, (Option.some.inj hk).symm, by decide, by decide⟩
      | 2, hk => exact ⟨_, (Option.some.inj hk).symm, by decide, by decide⟩
      | n + 3, hk => simp at hk
    have ea := c14 _ _ n1f (sl _ _ ea)
    have eb := c14 _ _ nbf (sl _ _ eb)
    have hd := c14 _ _ ndf (sl _ _ hd)
    have sm14 := c14.old hf0 (sm13.trans sl)
    refine ⟨tq, [.int far, .int step], rfl, SqT.of upd_same, rfl, .int far, _, rfl, .int step, _, rfl, rfl, ?_⟩
    have stq := same_new ntq (o := .tup [.int far, .int step])
    have ea := stq _ _ ea
    have eb := stq _ _ eb
    have hd := stq _ _ hd
    have f14 := f14.same stq
    have sm14 := sm14.trans stq
    generalize upd H14 tq (.tup [.int far, .int step]) = H14 at ea eb hd f14 sm14 ⊢
    clear hk nl c14 sl f13 sm13 stq ntq
    -- moved
    simp only [List.set_cons_succ, List.set_cons_zero]
    try dsimp only [tSeq, tAsg, gName]
    refine ⟨.ref b1, rfl, b1, rfl, ⟨_, SqL.of ea⟩, fun D1 nD1 => ?_⟩
    refine lc_it (walk_list (xs := os.map V.int)) (fun i Hz => Same H14 Hz ∧ Hz D1 = some (.lst (((os.take i).map fun x => x * step + far).map V.int))) ⟨same_new nD1, upd_same⟩ (fun i Hz _ z => SqL.of (z.1 _ _ ea)) ?_ ?_
    · rintro j x Hz Hy hj ⟨sz, hD⟩ ⟨rfl, hx⟩
      obtain ⟨o, ho, rfl⟩ := int_at hx
      have := bo8 o (List.mem_of_getElem? ho)
      refine ⟨rfl, iteT (B := True) ⟨.int o, rfl, .int step, rfl, o, step, rfl, rfl, .inl ⟨by omega, by omega⟩, .int far, rfl, _, far, rfl, rfl, _, hD, ?_, same_again nD1 sz, ?_⟩⟩
      · rw [List.length_map, List.length_map, List.length_take]
        exact small3000 (by omega)
      · rw [List.take_add_one, ho, Option.toList_some, List.map_append, List.map_append]
        exact upd_same
    rintro H15 ⟨s15, e1⟩
    rw [List.length_map, List.take_length] at e1
    have ea := s15 _ _ ea
    have eb := s15 _ _ eb
    have hd := s15 _ _ hd
    have f15 := f14.same s15
    have sm15 := sm14.trans s15
    clear s15 nD1 f14 sm14
    -- others
    simp only [List.set_cons_succ, List.set_cons_zero]
    try dsimp only [tSeq, tAsg, gName]
    refine ⟨.ref bb, rfl, bb, rfl, ⟨_, SqL.of eb⟩, fun D2 nD2 => ?_⟩
    refine lc_it (walk_list (xs := ms.map V.int)) (fun i Hz => Same H15 Hz ∧ Hz D2 = some (.lst (((ms.take i).map fun x => x * step + far).map V.int))) ⟨same_new nD2, upd_same⟩ (fun i Hz _ z => SqL.of (z.1 _ _ eb)) ?_ ?_
    · rintro j x Hz Hy hj ⟨sz, hD⟩ ⟨rfl, hx⟩
      obtain ⟨o, ho, rfl⟩ := int_at hx
      have := dm o (List.mem_of_getElem? ho)
      refine ⟨rfl, iteT (B := True) ⟨.int o, rfl, .int step, rfl, o, step, rfl, rfl, .inl ⟨by omega, by omega⟩, .int far, rfl, _, far, rfl, rfl, _, hD, ?_, same_again nD2 sz, ?_⟩⟩
      · rw [List.length_map, List.length_map, List.length_take]
        exact small3000 (by omega)
      · rw [List.take_add_one, ho, Option.toList_some, List.map_append, List.map_append]
        exact upd_same
    rintro H16 ⟨s16, e2⟩
    rw [List.length_map, List.take_length] at e2
    have ea := s16 _ _ ea
    have eb := s16 _ _ eb
    have hd := s16 _ _ hd
    have e1 := s16 _ _ e1
    have f16 := f15.same s16
    have sm16 := sm15.trans s16
    clear s16 nD2 f15 sm15
    have hm1 : Hc (os.map fun x => x * step + far) (es.map (scl far step)) := hc_scl t1 he
    have hm2 : Hc (ms.map fun x => x * step + far) (fs.map (scl far step)) := hc_scl t1 hfs
    have lo1 : (os.map fun x => x * step + far).length ≤ 500 := by rw [List.length_map]; omega
    have lm1 : (ms.map fun x => x * step + far).length ≤ 500 := by rw [List.length_map]; omega
    have cmp : ∀ {xs ys : List Int} {gs hs gs' hs' : List (Int × Int)} {z : Wd}, Hc xs gs → Hc ys hs → Hc xs gs' → Hc ys hs' → word gs hs = z → word gs' hs' = z := fun h1 h2 h3 h4 e => by rw [hc_one h3 h1, hc_one h4 h2]; exact e
    have w12 : word (es.map (scl far step)) (fs.map (scl far step)) = W := by rw [word_scl t1]; exact hW
    have w21 : word (fs.map (scl far step)) (es.map (scl far step)) = trn W := by rw [word_scl t1]; exact wt
    have dg : ∀ {Hx : Hp}, Same H16 Hx → DGet Hx d (.str (wstr W)) (some (.str (wstr (trn W)))) := fun {Hx} s => by
      have := DGet.k (k := Sum.inr (wstr W)) (s _ _ hd)
      rw [trn_get] at this
      exact this
    refine ⟨.ref D1, rfl, .ref D2, rfl, D1, D2, _, _, rfl, .inl (SqL.of e1), .inl (SqL.of e2), lo1, lm1, fun H17 gs1 gs2 s17 i1 i2 => ⟨.str (wstr W), rfl, rfl, _, rfl, ?_⟩⟩
    rw [cmp hm1 hm2 i1 i2 w12, decide_eq_true rfl]
    refine iteF ⟨.ref D2, rfl, .ref D1, rfl, D2, D1, _, _, rfl, .inl (SqL.of (s17 _ _ e2)), .inl (SqL.of (s17 _ _ e1)), lm1, lo1, fun H18 gs1 gs2 s18 i1 i2 => ⟨.ref d, rfl, .str (wstr W), rfl, d, _, rfl, dg (s17.trans s18), rfl, _, rfl, ?_⟩⟩
    rw [cmp hm2 hm1 i1 i2 w21, decide_eq_true rfl]
    have s1718 := s17.trans s18
    refine iteF ⟨.ref b1, rfl, .ref bb, rfl, l2s, fun l nl => ?_⟩
    -- before
    have sl := same_new nl (o := .lst [.ref b1, .ref bb])
    have sA := s1718.trans sl
    have nice : Nice (.list [.list (dInts os), .list (dInts ms)]) := part_two (part_ints (fun x hx => by have := bo8 x hx; omega) (by omega)) (part_ints (fun x hx => by have := dm x hx; omega) (by omega))
    refine ⟨l, .list [.list (dInts os), .list (dInts ms)], rfl, .lst (SqL.of upd_same) (.cons (.lst (SqL.of (sA _ _ ea)) (dp_ints _)) (.cons (.lst (SqL.of (sA _ _ eb)) (dp_ints _)) .nil)), nice, ?_⟩
    generalize upd H18 l (.lst [.ref b1, .ref bb]) = H19 at sA ⊢
    clear sl nl s1718 s17 s18 e1 e2
    have wBA : word fs es = trn W := wt
    refine ⟨.ref b1, rfl, .ref bb, rfl, b1, bb, os, ms, rfl, .inl (SqL.of (sA _ _ ea)), .inl (SqL.of (sA _ _ eb)), by omega, by omega, fun H20 gs1 gs2 s20 i1 i2 => ⟨.str (wstr W), rfl, rfl, _, rfl, ?_⟩⟩
    rw [cmp he hfs i1 i2 hW, decide_eq_true rfl]
    have sB := sA.trans s20
    refine iteF ⟨.ref bb, rfl, .ref b1, rfl, bb, b1, ms, os, rfl, .inl (SqL.of (sB _ _ eb)), .inl (SqL.of (sB _ _ ea)), by omega, by omega, fun H21 gs1 gs2 s21 i1 i2 => ⟨.ref d, rfl, .str (wstr W), rfl, d, _, rfl, dg (sB.trans s21), rfl, _, rfl, ?_⟩⟩
    rw [cmp hfs he i1 i2 wBA, decide_eq_true rfl]
    have sC := sB.trans s21
    refine iteF ⟨.ref b1, rfl, b1, _, rfl, .inl ⟨SqL.of (sC _ _ ea), fun t nt => ?_⟩⟩
    have ut := same_new nt (o := .tup (os.map V.int))
    have sD := sC.trans ut
    refine ⟨.ref bb, rfl, t, bb, os, ms, rfl, .inr (SqT.of upd_same), .inl (SqL.of (sD _ _ eb)), by omega, by omega, fun H22 gs1 gs2 s22 i1 i2 => ⟨.str (wstr W), rfl, rfl, _, rfl, ?_⟩⟩
    rw [cmp he hfs i1 i2 hW, decide_eq_true rfl]
    have sE := sD.trans s22
    refine iteF ⟨.ref b1, rfl, .ref bb, rfl, l2s, fun l nl => ?_⟩
    have sl := same_new nl (o := .lst [.ref b1, .ref bb])
    have sF := sE.trans sl
    refine ⟨l, .list [.list (dInts os), .list (dInts ms)], rfl, .lst (SqL.of upd_same) (.cons (.lst (SqL.of (sF _ _ ea)) (dp_ints _)) (.cons (.lst (SqL.of (sF _ _ eb)) (dp_ints _)) .nil)), nice, .str _, rfl, rfl, _, rfl, ?_⟩
    rw [decide_eq_true rfl]
    refine iteF ⟨.ref b1, rfl, .ref b1, rfl, b1, b1, os, os, rfl, .inl (SqL.of (sF _ _ ea)), .inl (SqL.of (sF _ _ ea)), by omega, by omega, fun H23 gs1 gs2 s23 i1 i2 => ⟨rfl, _, rfl, ?_⟩⟩
    rw [cmp he he i1 i2 (word_self es), decide_eq_true (show V.str (wstr .alike) = V.str "alike" from rfl)]
    refine iteF ⟨l4s, fun u1 nu1 => ⟨l5s, fun u2 nu2 => ?_⟩⟩
    have w1 := same_new nu1 (o := .lst [.int 2, .int 0, .int 3, .int 1])
    have w2 := same_new nu2 (o := .lst [.int 0, .int 2, .int 1, .int 3, .int 0])
    have g1' := w2 _ _ (upd_same (H := H23) (a := u1) (o := .lst [.int 2, .int 0, .int 3, .int 1]))
    refine ⟨u1, u2, [2, 0, 3, 1], [0, 2, 1, 3, 0], rfl, .inl (SqL.of g1'), .inl (SqL.of upd_same), by decide, by decide, fun H24 gs1 gs2 s24 i1 i2 => ⟨rfl, _, rfl, ?_⟩⟩
    rw [cmp hcA hcB i1 i2 wordAB, decide_eq_true (show V.str (wstr .neither) = V.str "neither" from rfl)]
    exact iteF ⟨sm16.trans (((((sF.trans s23).trans w1).trans w2).trans s24)), _, _, _, _, _, _, _, _, _, _, _, _, _, rfl⟩
end
end P7L

set_option pp.maxSteps 300
namespace P7E0
open PySem PySem.Spec PyProof.Rows L2 KA KD PH PM PA PB PC RM RN RC RE QE QF QG QH K55 K55b K57 M3W P5P P5N P7K P7R P7L
theorem all_mk {l : PySem.W.OpenLaw} {w : World} {K : PySem.W.Frag} {h : Heap} {mg : Str → Option Value} {fa fRG fTP fIL fBT fSW fMT fPB fCN fPIN fPT fBP fNM fSS fSM fCM fFE fTA fPI fLD fTN fRN fHS fMY fKT fHV fLR fRC fST fNV fWD fSC fSZ fSR C fIN pO fOF p3 fPH fLAW : Addr} (X : K.In h) (G : h.Ns mainGlobals mg) (hfa : mg "law" = some (.ref fa))
    {odRG anRG odTP anTP odIL anIL odBT anBT odSW anSW odMT anMT odPB anPB odCN anCN odPIN anPIN odPT anPT odBP anBP odNM anNM odSS anSS odSM anSM odCM anCM odFE anFE odTA anTA odPI anPI odLD anLD odTN anTN odRN anRN odHS anHS odMY anMY odKT anKT odHV anHV odLR anLR odRC anRC odST anST odNV anNV odWD anWD odSC anSC odSZ anSZ odSR anSR odIN anIN odOF anOF odPH anPH odLAW anLAW : Option Addr} {slRG slTP slIL slBT slSW slMT slPB slCN slPIN slPT slBP slNM slSS slSM slCM slFE slTA slPI slLD slTN slRN slHS slMY slKT slHV slLR slRC slST slNV slWD slSC slSZ slSR slIN slOF slPH slLAW : Array (Option Value)} {ocRG dcRG pmRG cdRG ctRG kVRG ocTP dcTP pmTP cdTP ctTP kVTP ocIL dcIL pmIL cdIL ctIL kVIL ocBT dcBT pmBT cdBT ctBT kVBT ocSW dcSW pmSW cdSW ctSW kVSW ocMT dcMT pmMT cdMT ctMT kVMT ocPB dcPB pmPB cdPB ctPB kVPB ocCN dcCN pmCN cdCN ctCN kVCN ocPIN dcPIN pmPIN cdPIN ctPIN kVPIN ocPT dcPT pmPT cdPT ctPT kVPT ocBP dcBP pmBP cdBP ctBP kVBP ocNM dcNM pmNM cdNM ctNM kVNM ocSS dcSS pmSS cdSS ctSS kVSS ocSM dcSM pmSM cdSM ctSM kVSM ocCM dcCM pmCM cdCM ctCM kVCM ocFE dcFE pmFE cdFE ctFE kVFE ocTA dcTA pmTA cdTA ctTA kVTA ocPI dcPI pmPI cdPI ctPI kVPI ocLD dcLD pmLD cdLD ctLD kVLD ocTN dcTN pmTN cdTN ctTN kVTN ocRN dcRN pmRN cdRN ctRN kVRN ocHS dcHS pmHS cdHS ctHS kVHS ocMY dcMY pmMY cdMY ctMY kVMY ocKT dcKT pmKT cdKT ctKT kVKT ocHV dcHV pmHV cdHV ctHV kVHV ocLR dcLR pmLR cdLR ctLR kVLR ocRC dcRC pmRC cdRC ctRC kVRC ocST dcST pmST cdST ctST kVST ocNV dcNV pmNV cdNV ctNV kVNV ocWD dcWD pmWD cdWD ctWD kVWD ocSC dcSC pmSC cdSC ctSC kVSC ocSZ dcSZ pmSZ cdSZ ctSZ kVSZ ocSR dcSR pmSR cdSR ctSR kVSR ocIN dcIN pmIN cdIN ctIN kVIN ocOF dcOF pmOF cdOF ctOF kVOF ocPH dcPH pmPH cdPH ctPH kVPH ocLAW dcLAW pmLAW cdLAW ctLAW kVLAW : Value} {rOF rPH : List Value}
    (aRG : PySem.W.nsIn K mainGlobals "range_of" = some (some (.ref fRG)))
    (lRG : K.lookup fRG = some ⟨ocRG, odRG, .func (PySem.W.fnOf "range_of" "range_of" (defArgs sRng) (defBody sRng) (defScope sRng) .none kVRG dcRG pmRG anRG cdRG ctRG), slRG⟩)
    (cRG : PySem.W.codeIn K cdRG "range_of" = true)
    (kRG : PySem.W.keepIn K (.ref fRG) = true)
    (aTP : PySem.W.nsIn K mainGlobals "turning_points" = some (some (.ref fTP)))
    (lTP : K.lookup fTP = some ⟨ocTP, odTP, .func (PySem.W.fnOf "turning_points" "turning_points" (defArgs sTP) (defBody sTP) (defScope sTP) .none kVTP dcTP pmTP anTP cdTP ctTP), slTP⟩)
    (cTP : PySem.W.codeIn K cdTP "turning_points" = true)
    (kTP : PySem.W.keepIn K (.ref fTP) = true)
    (aIL : PySem.W.nsIn K mainGlobals "is_left_out" = some (some (.ref fIL)))
    (lIL : K.lookup fIL = some ⟨ocIL, odIL, .func (PySem.W.fnOf "is_left_out" "is_left_out" (defArgs sLO) (defBody sLO) (defScope sLO) .none kVIL dcIL pmIL anIL cdIL ctIL), slIL⟩)
    (cIL : PySem.W.codeIn K cdIL "is_left_out" = true)
    (kIL : PySem.W.keepIn K (.ref fIL) = true)
    (aBT : PySem.W.nsIn K mainGlobals "_lies_between" = some (some (.ref fBT)))
    (lBT : K.lookup fBT = some ⟨ocBT, odBT, .func (PySem.W.fnOf "_lies_between" "_lies_between" (defArgs sBtw) (defBody sBtw) (defScope sBtw) .none kVBT dcBT pmBT anBT cdBT ctBT), slBT⟩)
    (cBT : PySem.W.codeIn K cdBT "_lies_between" = true)
    (kBT : PySem.W.keepIn K (.ref fBT) = true)
    (aSW : PySem.W.nsIn K mainGlobals "swings" = some (some (.ref fSW)))
    (lSW : K.lookup fSW = some ⟨ocSW, odSW, .func (PySem.W.fnOf "swings" "swings" (defArgs sSw) (defBody sSw) (defScope sSw) .none kVSW dcSW pmSW anSW cdSW ctSW), slSW⟩)
    (cSW : PySem.W.codeIn K cdSW "swings" = true)
    (kSW : PySem.W.keepIn K (.ref fSW) = true)
    (aMT : PySem.W.nsIn K mainGlobals "_may_be_taken" = some (some (.ref fMT)))
    (lMT : K.lookup fMT = some ⟨ocMT, odMT, .func (PySem.W.fnOf "_may_be_taken" "_may_be_taken" (defArgs sMT) (defBody sMT) (defScope sMT) .none kVMT dcMT pmMT anMT cdMT ctMT), slMT⟩)
    (cMT : PySem.W.codeIn K cdMT "_may_be_taken" = true)
    (kMT : PySem.W.keepIn K (.ref fMT) = true)
    (aPB : PySem.W.nsIn K mainGlobals "put_behind" = some (some (.ref fPB)))
    (lPB : K.lookup fPB = some ⟨ocPB, odPB, .func (PySem.W.fnOf "put_behind" "put_behind" (defArgs sPB) (defBody sPB) (defScope sPB) .none kVPB dcPB pmPB anPB cdPB ctPB), slPB⟩)
    (cPB : PySem.W.codeIn K cdPB "put_behind" = true)
    (kPB : PySem.W.keepIn K (.ref fPB) = true)
    (aCN : PySem.W.nsIn K mainGlobals "_counted" = some (some (.ref fCN)))
    (lCN : K.lookup fCN = some ⟨ocCN, odCN, .func (PySem.W.fnOf "_counted" "_counted" (defArgs sCo) (defBody sCo) (defScope sCo) .none kVCN dcCN pmCN anCN cdCN ctCN), slCN⟩)
    (cCN : PySem.W.codeIn K cdCN "_counted" = true)
    (kCN : PySem.W.keepIn K (.ref fCN) = true)
    (aPIN : PySem.W.nsIn K mainGlobals "place_in" = some (some (.ref fPIN)))
    (lPIN : K.lookup fPIN = some ⟨ocPIN, odPIN, .func (PySem.W.fnOf "place_in" "place_in" (defArgs BO.sPI) (defBody BO.sPI) (defScope BO.sPI) .none kVPIN dcPIN pmPIN anPIN cdPIN ctPIN), slPIN⟩)
    (cPIN : PySem.W.codeIn K cdPIN "place_in" = true)
    (kPIN : PySem.W.keepIn K (.ref fPIN) = true)
    (aPT : PySem.W.nsIn K mainGlobals "put_in" = some (some (.ref fPT)))
    (lPT : K.lookup fPT = some ⟨ocPT, odPT, .func (PySem.W.fnOf "put_in" "put_in" (defArgs BO.sPT) (defBody BO.sPT) (defScope BO.sPT) .none kVPT dcPT pmPT anPT cdPT ctPT), slPT⟩)
    (cPT : PySem.W.codeIn K cdPT "put_in" = true)
    (kPT : PySem.W.keepIn K (.ref fPT) = true)
    (aBP : PySem.W.nsIn K mainGlobals "_best_places" = some (some (.ref fBP)))
    (lBP : K.lookup fBP = some ⟨ocBP, odBP, .func (PySem.W.fnOf "_best_places" "_best_places" (defArgs sBP) (defBody sBP) (defScope sBP) .none kVBP dcBP pmBP anBP cdBP ctBP), slBP⟩)
    (cBP : PySem.W.codeIn K cdBP "_best_places" = true)
    (kBP : PySem.W.keepIn K (.ref fBP) = true)
    (aNM : PySem.W.nsIn K mainGlobals "never_more" = some (some (.ref fNM)))
    (lNM : K.lookup fNM = some ⟨ocNM, odNM, .func (PySem.W.fnOf "never_more" "never_more" (defArgs sNM) (defBody sNM) (defScope sNM) .none kVNM dcNM pmNM anNM cdNM ctNM), slNM⟩)
    (cNM : PySem.W.codeIn K cdNM "never_more" = true)
    (kNM : PySem.W.keepIn K (.ref fNM) = true)
    (aSS : PySem.W.nsIn K mainGlobals "_sizes" = some (some (.ref fSS)))
    (lSS : K.lookup fSS = some ⟨ocSS, odSS, .func (PySem.W.fnOf "_sizes" "_sizes" (defArgs P7S.sSs) (defBody P7S.sSs) (defScope P7S.sSs) .none kVSS dcSS pmSS anSS cdSS ctSS), slSS⟩)
    (cSS : PySem.W.codeIn K cdSS "_sizes" = true)
    (kSS : PySem.W.keepIn K (.ref fSS) = true)
    (aSM : PySem.W.nsIn K mainGlobals "size_with_more" = some (some (.ref fSM)))
    (lSM : K.lookup fSM = some ⟨ocSM, odSM, .func (PySem.W.fnOf "size_with_more" "size_with_more" (defArgs P7S.sSM) (defBody P7S.sSM) (defScope P7S.sSM) .none kVSM dcSM pmSM anSM cdSM ctSM), slSM⟩)
    (cSM : PySem.W.codeIn K cdSM "size_with_more" = true)
    (kSM : PySem.W.keepIn K (.ref fSM) = true)
    (aCM : PySem.W.nsIn K mainGlobals "compared" = some (some (.ref fCM)))
    (lCM : K.lookup fCM = some ⟨ocCM, odCM, .func (PySem.W.fnOf "compared" "compared" (defArgs P7S.sCP) (defBody P7S.sCP) (defScope P7S.sCP) .none kVCM dcCM pmCM anCM cdCM ctCM), slCM⟩)
    (cCM : PySem.W.codeIn K cdCM "compared" = true)
    (kCM : PySem.W.keepIn K (.ref fCM) = true)
    (aFE : PySem.W.nsIn K mainGlobals "_law_feed" = some (some (.ref fFE)))
    (lFE : K.lookup fFE = some ⟨ocFE, odFE, .func (PySem.W.fnOf "_law_feed" "_law_feed" (defArgs sFeed) (defBody sFeed) (defScope sFeed) .none kVFE dcFE pmFE anFE cdFE ctFE), slFE⟩)
    (cFE : PySem.W.codeIn K cdFE "_law_feed" = true)
    (kFE : PySem.W.keepIn K (.ref fFE) = true)
    (aTA : PySem.W.nsIn K mainGlobals "_law_take" = some (some (.ref fTA)))
    (lTA : K.lookup fTA = some ⟨ocTA, odTA, .func (PySem.W.fnOf "_law_take" "_law_take" (defArgs sTake) (defBody sTake) (defScope sTake) .none kVTA dcTA pmTA anTA cdTA ctTA), slTA⟩)
    (cTA : PySem.W.codeIn K cdTA "_law_take" = true)
    (kTA : PySem.W.keepIn K (.ref fTA) = true)
    (aPI : PySem.W.nsIn K mainGlobals "_law_pick" = some (some (.ref fPI)))
    (lPI : K.lookup fPI = some ⟨ocPI, odPI, .func (PySem.W.fnOf "_law_pick" "_law_pick" (defArgs sPick) (defBody sPick) (defScope sPick) .none kVPI dcPI pmPI anPI cdPI ctPI), slPI⟩)
    (cPI : PySem.W.codeIn K cdPI "_law_pick" = true)
    (kPI : PySem.W.keepIn K (.ref fPI) = true)
    (aLD : PySem.W.nsIn K mainGlobals "_law_load" = some (some (.ref fLD)))
    (lLD : K.lookup fLD = some ⟨ocLD, odLD, .func (PySem.W.fnOf "_law_load" "_law_load" (defArgs P7K.sLd) (defBody P7K.sLd) (defScope P7K.sLd) .none kVLD dcLD pmLD anLD cdLD ctLD), slLD⟩)
    (cLD : PySem.W.codeIn K cdLD "_law_load" = true)
    (kLD : PySem.W.keepIn K (.ref fLD) = true)
    (aTN : PySem.W.nsIn K mainGlobals "_law_turns" = some (some (.ref fTN)))
    (lTN : K.lookup fTN = some ⟨ocTN, odTN, .func (PySem.W.fnOf "_law_turns" "_law_turns" (defArgs sTn) (defBody sTn) (defScope sTn) .none kVTN dcTN pmTN anTN cdTN ctTN), slTN⟩)
    (cTN : PySem.W.codeIn K cdTN "_law_turns" = true)
    (kTN : PySem.W.keepIn K (.ref fTN) = true)
    (aRN : PySem.W.nsIn K mainGlobals "_law_range" = some (some (.ref fRN)))
    (lRN : K.lookup fRN = some ⟨ocRN, odRN, .func (PySem.W.fnOf "_law_range" "_law_range" (defArgs sRn) (defBody sRn) (defScope sRn) .none kVRN dcRN pmRN anRN cdRN ctRN), slRN⟩)
    (cRN : PySem.W.codeIn K cdRN "_law_range" = true)
    (kRN : PySem.W.keepIn K (.ref fRN) = true)
    (aHS : PySem.W.nsIn K mainGlobals "_law_has" = some (some (.ref fHS)))
    (lHS : K.lookup fHS = some ⟨ocHS, odHS, .func (PySem.W.fnOf "_law_has" "_law_has" (defArgs sHs) (defBody sHs) (defScope sHs) .none kVHS dcHS pmHS anHS cdHS ctHS), slHS⟩)
    (cHS : PySem.W.codeIn K cdHS "_law_has" = true)
    (kHS : PySem.W.keepIn K (.ref fHS) = true)
    (aMY : PySem.W.nsIn K mainGlobals "_law_may_take" = some (some (.ref fMY)))
    (lMY : K.lookup fMY = some ⟨ocMY, odMY, .func (PySem.W.fnOf "_law_may_take" "_law_may_take" (defArgs sMy) (defBody sMy) (defScope sMy) .none kVMY dcMY pmMY anMY cdMY ctMY), slMY⟩)
    (cMY : PySem.W.codeIn K cdMY "_law_may_take" = true)
    (kMY : PySem.W.keepIn K (.ref fMY) = true)
    (aKT : PySem.W.nsIn K mainGlobals "_law_count" = some (some (.ref fKT)))
    (lKT : K.lookup fKT = some ⟨ocKT, odKT, .func (PySem.W.fnOf "_law_count" "_law_count" (defArgs M3W.sCt) (defBody M3W.sCt) (defScope M3W.sCt) .none kVKT dcKT pmKT anKT cdKT ctKT), slKT⟩)
    (cKT : PySem.W.codeIn K cdKT "_law_count" = true)
    (kKT : PySem.W.keepIn K (.ref fKT) = true)
    (aHV : PySem.W.nsIn K mainGlobals "_law_halves" = some (some (.ref fHV)))
    (lHV : K.lookup fHV = some ⟨ocHV, odHV, .func (PySem.W.fnOf "_law_halves" "_law_halves" (defArgs sHV) (defBody sHV) (defScope sHV) .none kVHV dcHV pmHV anHV cdHV ctHV), slHV⟩)
    (cHV : PySem.W.codeIn K cdHV "_law_halves" = true)
    (kHV : PySem.W.keepIn K (.ref fHV) = true)
    (aLR : PySem.W.nsIn K mainGlobals "_law_ranges" = some (some (.ref fLR)))
    (lLR : K.lookup fLR = some ⟨ocLR, odLR, .func (PySem.W.fnOf "_law_ranges" "_law_ranges" (defArgs sLR) (defBody sLR) (defScope sLR) .none kVLR dcLR pmLR anLR cdLR ctLR), slLR⟩)
    (cLR : PySem.W.codeIn K cdLR "_law_ranges" = true)
    (kLR : PySem.W.keepIn K (.ref fLR) = true)
    (aRC : PySem.W.nsIn K mainGlobals "_law_reached" = some (some (.ref fRC)))
    (lRC : K.lookup fRC = some ⟨ocRC, odRC, .func (PySem.W.fnOf "_law_reached" "_law_reached" (defArgs sRC) (defBody sRC) (defScope sRC) .none kVRC dcRC pmRC anRC cdRC ctRC), slRC⟩)
    (cRC : PySem.W.codeIn K cdRC "_law_reached" = true)
    (kRC : PySem.W.keepIn K (.ref fRC) = true)
    (aST : PySem.W.nsIn K mainGlobals "_law_sets" = some (some (.ref fST)))
    (lST : K.lookup fST = some ⟨ocST, odST, .func (PySem.W.fnOf "_law_sets" "_law_sets" (defArgs sST) (defBody sST) (defScope sST) .none kVST dcST pmST anST cdST ctST), slST⟩)
    (cST : PySem.W.codeIn K cdST "_law_sets" = true)
    (kST : PySem.W.keepIn K (.ref fST) = true)
    (aNV : PySem.W.nsIn K mainGlobals "_law_never" = some (some (.ref fNV)))
    (lNV : K.lookup fNV = some ⟨ocNV, odNV, .func (PySem.W.fnOf "_law_never" "_law_never" (defArgs sNV) (defBody sNV) (defScope sNV) .none kVNV dcNV pmNV anNV cdNV ctNV), slNV⟩)
    (cNV : PySem.W.codeIn K cdNV "_law_never" = true)
    (kNV : PySem.W.keepIn K (.ref fNV) = true)
    (aWD : PySem.W.nsIn K mainGlobals "_law_word" = some (some (.ref fWD)))
    (lWD : K.lookup fWD = some ⟨ocWD, odWD, .func (PySem.W.fnOf "_law_word" "_law_word" (defArgs sWD) (defBody sWD) (defScope sWD) .none kVWD dcWD pmWD anWD cdWD ctWD), slWD⟩)
    (cWD : PySem.W.codeIn K cdWD "_law_word" = true)
    (kWD : PySem.W.keepIn K (.ref fWD) = true)
    (aSC : PySem.W.nsIn K mainGlobals "_law_scaled" = some (some (.ref fSC)))
    (lSC : K.lookup fSC = some ⟨ocSC, odSC, .func (PySem.W.fnOf "_law_scaled" "_law_scaled" (defArgs sSC) (defBody sSC) (defScope sSC) .none kVSC dcSC pmSC anSC cdSC ctSC), slSC⟩)
    (cSC : PySem.W.codeIn K cdSC "_law_scaled" = true)
    (kSC : PySem.W.keepIn K (.ref fSC) = true)
    (aSZ : PySem.W.nsIn K mainGlobals "_law_size" = some (some (.ref fSZ)))
    (lSZ : K.lookup fSZ = some ⟨ocSZ, odSZ, .func (PySem.W.fnOf "_law_size" "_law_size" (defArgs sSZ) (defBody sSZ) (defScope sSZ) .none kVSZ dcSZ pmSZ anSZ cdSZ ctSZ), slSZ⟩)
    (cSZ : PySem.W.codeIn K cdSZ "_law_size" = true)
    (kSZ : PySem.W.keepIn K (.ref fSZ) = true)
    (aSR : PySem.W.nsIn K mainGlobals "_law_sizes_right" = some (some (.ref fSR)))
    (lSR : K.lookup fSR = some ⟨ocSR, odSR, .func (PySem.W.fnOf "_law_sizes_right" "_law_sizes_right" (defArgs sSR) (defBody sSR) (defScope sSR) .none kVSR dcSR pmSR anSR cdSR ctSR), slSR⟩)
    (cSR : PySem.W.codeIn K cdSR "_law_sizes_right" = true)
    (kSR : PySem.W.keepIn K (.ref fSR) = true)
    (aC : PySem.W.nsIn K mainGlobals "Count" = some (some (.ref C)))
    (pg : PySem.W.plainGet K C Str.empty = true)
    (hd : PySem.W.hasDictIn K C = true)
    (po : PySem.W.plainOver K C = true)
    (sa : PySem.W.findIn K (.ref C) "__setattr__" = some (some (.builtin "object.__setattr__")))
    (na0 : PySem.W.findIn K (.ref C) "_cycles" = some none)
    (na1 : PySem.W.findIn K (.ref C) "_rest" = some none)
    (mk : PySem.W.makesIn K C = true)
    (kc : PySem.W.keepIn K (.ref C) = true)
    (aI : PySem.W.findIn K (.ref C) "__init__" = some (some (.ref fIN)))
    (iI : PySem.W.isFn K (.ref fIN) = true)
    (lIN : K.lookup fIN = some ⟨ocIN, odIN, .func (PySem.W.fnOf "__init__" "Count.__init__" (defArgs sInit) (defBody sInit) (defScope sInit) .none kVIN dcIN pmIN anIN cdIN ctIN), slIN⟩)
    (cIN : PySem.W.codeIn K cdIN "Count.__init__" = true)
    (kIN : PySem.W.keepIn K (.ref fIN) = true)
    (rdOF : PySem.W.readsIn K C (.type "type") = true)
    (gaOF : PySem.W.specialIn K (.ref C) "__getattribute__" = some (some (.builtin "type.__getattribute__")))
    (aOF : PySem.W.findCls K (.ref C) (.type "type") "of" = some (.get (.builtin "classmethod.__get__") (.ref pO) .none (.ref C)))
    (rcOF : PySem.W.recIn K pO "classmethod" = some (.ref fOF :: rOF))
    (fiOF : PySem.W.fnIn K fOF = true)
    (lOF : K.lookup fOF = some ⟨ocOF, odOF, .func (PySem.W.fnOf "of" "Count.of" (defArgs sOf) (defBody sOf) (defScope sOf) .none kVOF dcOF pmOF anOF cdOF ctOF), slOF⟩)
    (cOF : PySem.W.codeIn K cdOF "Count.of" = true)
    (kOF : PySem.W.keepIn K (.ref fOF) = true)
    (aPPH : PySem.W.findIn K (.ref C) "half_cycles" = some (some (.ref p3)))
    (gPPH : PySem.W.specialIn K (.ref p3) "__get__" = some (some (.builtin "property.__get__")))
    (tPPH : PySem.W.takesIn K (.ref p3) = some true)
    (rcPPH : PySem.W.recIn K p3 "property" = some (.ref fPH :: rPH))
    (lPH : K.lookup fPH = some ⟨ocPH, odPH, .func (PySem.W.fnOf "half_cycles" "Count.half_cycles" (defArgs sPH) (defBody sPH) (defScope sPH) .none kVPH dcPH pmPH anPH cdPH ctPH), slPH⟩)
    (cPH : PySem.W.codeIn K cdPH "Count.half_cycles" = true)
    (kPH : PySem.W.keepIn K (.ref fPH) = true)
    (z1 : PySem.W.nsIn K mainGlobals "len" = some none)
    (z2 : PySem.W.nsIn K mainGlobals "zip" = some none)
    (z3 : PySem.W.nsIn K mainGlobals "max" = some none)
    (z4 : PySem.W.nsIn K mainGlobals "min" = some none)
    (z5 : PySem.W.nsIn K mainGlobals "abs" = some none)
    (z6 : PySem.W.nsIn K mainGlobals "range" = some none)
    (z7 : PySem.W.nsIn K mainGlobals "sorted" = some none)
    (z8 : PySem.W.nsIn K mainGlobals "tuple" = some none)
    (z9 : PySem.W.nsIn K mainGlobals "list" = some none)
    (z10 : PySem.W.nsIn K mainGlobals "int" = some none)
    (z11 : PySem.W.nsIn K mainGlobals "repr" = some none)
    (z12 : PySem.W.nsIn K mainGlobals "enumerate" = some none)
    (z13 : PySem.W.nsIn K mainGlobals "set" = some none)
    (aLAW : PySem.W.nsIn K mainGlobals "law" = some (some (.ref fLAW)))
    (lLAW : K.lookup fLAW = some ⟨ocLAW, odLAW, .func (PySem.W.fnOf "law" "law" (defArgs P7L.sLaw) (defBody P7L.sLaw) (defScope P7L.sLaw) .none kVLAW dcLAW pmLAW anLAW cdLAW ctLAW), slLAW⟩)
    (cLAW : PySem.W.codeIn K cdLAW "law" = true)
    (kLAW : PySem.W.keepIn K (.ref fLAW) = true) :
    ∃ fd : FuncData, (∀ (s : Shared) (v : Value), BindsTo s fd ⟨[v], []⟩ [("script", v)]) ∧ ∀ base : Heap, K.In base → base.Ns mainGlobals mg → KW.Kept l.prog w K mg base 9 fa fd ["script"] (P7L.spLaw K) := by
  have e := hfa.symm.trans (PySem.W.mg_of X G aLAW)
  cases e
  have FRG := fun_mk (st := sRng) lRG cRG kRG
  have bRG := FRG.binds (ps := ["one", "other"]) fun _ _ _ _ _ _ us hl => match us, hl with | [_, _], _ => rfl
  have FTP := fun_mk (st := sTP) lTP cTP kTP
  have bTP := FTP.binds (ps := ["load"]) fun _ _ _ _ _ _ us hl => match us, hl with | [_], _ => rfl
  have FIL := fun_mk (st := sLO) lIL cIL kIL
  have bIL := FIL.binds (ps := ["points", "reading"]) fun _ _ _ _ _ _ us hl => match us, hl with | [_, _], _ => rfl
  have FBT := fun_mk (st := sBtw) lBT cBT kBT
  have bBT := FBT.binds (ps := ["reading", "before", "after"]) fun _ _ _ _ _ _ us hl => match us, hl with | [_, _, _], _ => rfl
  have FSW := fun_mk (st := sSw) lSW cSW kSW
  have bSW := FSW.binds (ps := ["load"]) fun _ _ _ _ _ _ us hl => match us, hl with | [_], _ => rfl
  have FMT := fun_mk (st := sMT) lMT cMT kMT
  have bMT := FMT.binds (ps := ["points", "place"]) fun _ _ _ _ _ _ us hl => match us, hl with | [_, _], _ => rfl
  have FPB := fun_mk (st := sPB) lPB cPB kPB
  have bPB := FPB.binds (ps := ["rest", "reading"]) fun _ _ _ _ _ _ us hl => match us, hl with | [_, _], _ => rfl
  have FCN := fun_mk (st := sCo) lCN cCN kCN
  have bCN := FCN.binds (ps := ["load"]) fun _ _ _ _ _ _ us hl => match us, hl with | [_], _ => rfl
  have FPIN := fun_mk (st := BO.sPI) lPIN cPIN kPIN
  have bPIN := FPIN.binds (ps := ["row", "value"]) fun _ _ _ _ _ _ us hl => match us, hl with | [_, _], _ => rfl
  have FPT := fun_mk (st := BO.sPT) lPT cPT kPT
  have bPT := FPT.binds (ps := ["row", "value"]) fun _ _ _ _ _ _ us hl => match us, hl with | [_, _], _ => rfl
  have FBP := fun_mk (st := sBP) lBP cBP kBP
  have bBP := FBP.binds (ps := ["first", "second"]) fun _ _ _ _ _ _ us hl => match us, hl with | [_, _], _ => rfl
  have FNM := fun_mk (st := sNM) lNM cNM kNM
  have bNM := FNM.binds (ps := ["first", "second"]) fun _ _ _ _ _ _ us hl => match us, hl with | [_, _], _ => rfl
  have FSS := fun_mk (st := P7S.sSs) lSS cSS kSS
  have bSS := FSS.binds (ps := ["ranges"]) fun _ _ _ _ _ _ us hl => match us, hl with | [_], _ => rfl
  have FSM := fun_mk (st := P7S.sSM) lSM cSM kSM
  have bSM := FSM.binds (ps := ["first", "second"]) fun _ _ _ _ _ _ us hl => match us, hl with | [_, _], _ => rfl
  have FCM := fun_mk (st := P7S.sCP) lCM cCM kCM
  have bCM := FCM.binds (ps := ["first", "second"]) fun _ _ _ _ _ _ us hl => match us, hl with | [_, _], _ => rfl
  have FFE := fun_mk (st := sFeed) lFE cFE kFE
  have bFE := FFE.binds (ps := ["script", "index"]) fun _ _ _ _ _ _ us hl => match us, hl with | [_, _], _ => rfl
  have FTA := fun_mk (st := sTake) lTA cTA kTA
  have bTA := FTA.binds (ps := ["feed", "size"]) fun _ _ _ _ _ _ us hl => match us, hl with | [_, _], _ => rfl
  have FPI := fun_mk (st := sPick) lPI cPI kPI
  have bPI := FPI.binds (ps := ["feed", "options"]) fun _ _ _ _ _ _ us hl => match us, hl with | [_, _], _ => rfl
  have FLD := fun_mk (st := P7K.sLd) lLD cLD kLD
  have bLD := FLD.binds (ps := ["feed", "size", "most"]) fun _ _ _ _ _ _ us hl => match us, hl with | [_, _, _], _ => rfl
  have FTN := fun_mk (st := sTn) lTN cTN kTN
  have bTN := FTN.binds (ps := ["load"]) fun _ _ _ _ _ _ us hl => match us, hl with | [_], _ => rfl
  have FRN := fun_mk (st := sRn) lRN cRN kRN
  have bRN := FRN.binds (ps := ["first", "second"]) fun _ _ _ _ _ _ us hl => match us, hl with | [_, _], _ => rfl
  have FHS := fun_mk (st := sHs) lHS cHS kHS
  have bHS := FHS.binds (ps := ["outer", "inner"]) fun _ _ _ _ _ _ us hl => match us, hl with | [_, _], _ => rfl
  have FMY := fun_mk (st := sMy) lMY cMY kMY
  have bMY := FMY.binds (ps := ["points", "k"]) fun _ _ _ _ _ _ us hl => match us, hl with | [_, _], _ => rfl
  have FKT := fun_mk (st := M3W.sCt) lKT cKT kKT
  have bKT := FKT.binds (ps := ["load"]) fun _ _ _ _ _ _ us hl => match us, hl with | [_], _ => rfl
  have FHV := fun_mk (st := sHV) lHV cHV kHV
  have bHV := FHV.binds (ps := ["load"]) fun _ _ _ _ _ _ us hl => match us, hl with | [_], _ => rfl
  have FLR := fun_mk (st := sLR) lLR cLR kLR
  have bLR := FLR.binds (ps := ["feed", "most", "top"]) fun _ _ _ _ _ _ us hl => match us, hl with | [_, _, _], _ => rfl
  have FRC := fun_mk (st := sRC) lRC cRC kRC
  have bRC := FRC.binds (ps := ["ranges", "some"]) fun _ _ _ _ _ _ us hl => match us, hl with | [_, _], _ => rfl
  have FST := fun_mk (st := sST) lST cST kST
  have bST := FST.binds (ps := ["things"]) fun _ _ _ _ _ _ us hl => match us, hl with | [_], _ => rfl
  have FNV := fun_mk (st := sNV) lNV cNV kNV
  have bNV := FNV.binds (ps := ["first", "second"]) fun _ _ _ _ _ _ us hl => match us, hl with | [_, _], _ => rfl
  have FWD := fun_mk (st := sWD) lWD cWD kWD
  have bWD := FWD.binds (ps := ["one", "other"]) fun _ _ _ _ _ _ us hl => match us, hl with | [_, _], _ => rfl
  have FSC := fun_mk (st := sSC) lSC cSC kSC
  have bSC := FSC.binds (ps := ["ranges", "far", "step"]) fun _ _ _ _ _ _ us hl => match us, hl with | [_, _, _], _ => rfl
  have FSZ := fun_mk (st := sSZ) lSZ cSZ kSZ
  have bSZ := FSZ.binds (ps := ["first", "second"]) fun _ _ _ _ _ _ us hl => match us, hl with | [_, _], _ => rfl
  have FSR := fun_mk (st := sSR) lSR cSR kSR
  have bSR := FSR.binds (ps := ["feed"]) fun _ _ _ _ _ _ us hl => match us, hl with | [_], _ => rfl
  have FIN := fun_mk (st := sInit) lIN cIN kIN
  have bIN := FIN.binds (ps := ["self", "cycles", "rest"]) fun _ _ _ _ _ _ us hl => match us, hl with | [_, _, _], _ => rfl
  have FOF := fun_mk (st := sOf) lOF cOF kOF
  have bOF := FOF.binds (ps := ["cls", "load"]) fun _ _ _ _ _ _ us hl => match us, hl with | [_, _], _ => rfl
  have FPH := fun_mk (st := sPH) lPH cPH kPH
  have bPH := FPH.binds (ps := ["self"]) fun _ _ _ _ _ _ us hl => match us, hl with | [_], _ => rfl
  have FLAW := fun_mk (st := P7L.sLaw) lLAW cLAW kLAW
  have T : P7R.Txt K mg fRG fTP fIL fBT fSW fMT fPB fCN fPIN fPT fBP fNM fSS fSM fCM fFE fTA fPI fLD fTN fRN fHS fMY fKT fHV fLR fRC fST fNV fWD fSC fSZ fSR C fIN pO fOF p3 fPH _ _ _ _ _ _ _ _ _ _ _ _ _ _ _ _ _ _ _ _ _ _ _ _ _ _ _ _ _ _ _ _ _ _ _ _ := ⟨FRG, PySem.W.mg_of X G aRG, kRG, bRG, FTP, PySem.W.mg_of X G aTP, kTP, bTP, FIL, PySem.W.mg_of X G aIL, kIL, bIL, FBT, PySem.W.mg_of X G aBT, kBT, bBT, FSW, PySem.W.mg_of X G aSW, kSW, bSW, FMT, PySem.W.mg_of X G aMT, kMT, bMT, FPB, PySem.W.mg_of X G aPB, kPB, bPB, FCN, PySem.W.mg_of X G aCN, kCN, bCN, FPIN, PySem.W.mg_of X G aPIN, kPIN, bPIN, FPT, PySem.W.mg_of X G aPT, kPT, bPT, FBP, PySem.W.mg_of X G aBP, kBP, bBP, FNM, PySem.W.mg_of X G aNM, kNM, bNM, FSS, PySem.W.mg_of X G aSS, kSS, bSS, FSM, PySem.W.mg_of X G aSM, kSM, bSM, FCM, PySem.W.mg_of X G aCM, kCM, bCM, FFE, PySem.W.mg_of X G aFE, kFE, bFE, FTA, PySem.W.mg_of X G aTA, kTA, bTA, FPI, PySem.W.mg_of X G aPI, kPI, bPI, FLD, PySem.W.mg_of X G aLD, kLD, bLD, FTN, PySem.W.mg_of X G aTN, kTN, bTN, FRN, PySem.W.mg_of X G aRN, kRN, bRN, FHS, PySem.W.mg_of X G aHS, kHS, bHS, FMY, PySem.W.mg_of X G aMY, kMY, bMY, FKT, PySem.W.mg_of X G aKT, kKT, bKT, FHV, PySem.W.mg_of X G aHV, kHV, bHV, FLR, PySem.W.mg_of X G aLR, kLR, bLR, FRC, PySem.W.mg_of X G aRC, kRC, bRC, FST, PySem.W.mg_of X G aST, kST, bST, FNV, PySem.W.mg_of X G aNV, kNV, bNV, FWD, PySem.W.mg_of X G aWD, kWD, bWD, FSC, PySem.W.mg_of X G aSC, kSC, bSC, FSZ, PySem.W.mg_of X G aSZ, kSZ, bSZ, FSR, PySem.W.mg_of X G aSR, kSR, bSR, PySem.W.mg_of X G aC, ⟨⟨pg, hd, po, sa⟩, na0, na1⟩, ⟨mk, aI, iI, kc⟩, FIN, bIN, ⟨rdOF, gaOF⟩, ⟨aOF, ⟨_, rcOF⟩, fiOF⟩, FOF, bOF, ⟨aPPH, gPPH, tPPH, ⟨_, rcPPH⟩⟩, FPH, bPH, PySem.W.mg_none_of X G z1, PySem.W.mg_none_of X G z2, PySem.W.mg_none_of X G z3, PySem.W.mg_none_of X G z4, PySem.W.mg_none_of X G z5, PySem.W.mg_none_of X G z6, PySem.W.mg_none_of X G z7, PySem.W.mg_none_of X G z8, PySem.W.mg_none_of X G z9, PySem.W.mg_none_of X G z10, PySem.W.mg_none_of X G z11, PySem.W.mg_none_of X G z12, PySem.W.mg_none_of X G z13⟩
  exact ⟨PySem.W.fnOf "law" "law" (defArgs P7L.sLaw) (defBody P7L.sLaw) (defScope P7L.sLaw) .none kVLAW dcLAW pmLAW anLAW cdLAW ctLAW, fun s v => .of_eq rfl, fun base _ _ => P7L.ok_law FLAW T⟩
end P7E0
open PySem PySem.W PyProof.Rows
set_option maxRecDepth 100000 in
set_option maxHeartbeats 0 in
theorem PySem.Challenge.cw_wearswings_k57_sizes_and_loads_compared_holds : PySem.Challenge.rw_wearswings_k57_sizes_and_loads_compared.Holds := by
  w_on; o_law; k_head; (case hw => w_witness2)
  k_fill
  refine KW.walk_kept (l := PySem.Challenge.rw_wearswings_k57_sizes_and_loads_compared) (n := 63) (k := 9) (x := "script") (sp := P7L.spLaw) rfl (by decide) rfl ⟨rfl, by decide, by decide⟩ (fun w h Y => PySem.W.kIn_of Y) ?F (fun K H a ns hl _ hS => ⟨a, ns, rfl, hS, hl, fun _ => rfl⟩)
  case F =>
    intro w mg fa h KX G hmg
    refine' P7E0.all_mk KX G hmg ?aRG ?lRG ?cRG ?kRG ?aTP ?lTP ?cTP ?kTP ?aIL ?lIL ?cIL ?kIL ?aBT ?lBT ?cBT ?kBT ?aSW ?lSW ?cSW ?kSW ?aMT ?lMT ?cMT ?kMT ?aPB ?lPB ?cPB ?kPB ?aCN ?lCN ?cCN ?kCN ?aPIN ?lPIN ?cPIN ?kPIN ?aPT ?lPT ?cPT ?kPT ?aBP ?lBP ?cBP ?kBP ?aNM ?lNM ?cNM ?kNM ?aSS ?lSS ?cSS ?kSS ?aSM ?lSM ?cSM ?kSM ?aCM ?lCM ?cCM ?kCM ?aFE ?lFE ?cFE ?kFE ?aTA ?lTA ?cTA ?kTA ?aPI ?lPI ?cPI ?kPI ?aLD ?lLD ?cLD ?kLD ?aTN ?lTN ?cTN ?kTN ?aRN ?lRN ?cRN ?kRN ?aHS ?lHS ?cHS ?kHS ?aMY ?lMY ?cMY ?kMY ?aKT ?lKT ?cKT ?kKT ?aHV ?lHV ?cHV ?kHV ?aLR ?lLR ?cLR ?kLR ?aRC ?lRC ?cRC ?kRC ?aST ?lST ?cST ?kST ?aNV ?lNV ?cNV ?kNV ?aWD ?lWD ?cWD ?kWD ?aSC ?lSC ?cSC ?kSC ?aSZ ?lSZ ?cSZ ?kSZ ?aSR ?lSR ?cSR ?kSR ?aC ?pg ?hd ?po ?sa ?na0 ?na1 ?mk ?kc ?aI ?iI ?lIN ?cIN ?kIN ?rdOF ?gaOF ?aOF ?rcOF ?fiOF ?lOF ?cOF ?kOF ?aPPH ?gPPH ?tPPH ?rcPPH ?lPH ?cPH ?kPH ?z1 ?z2 ?z3 ?z4 ?z5 ?z6 ?z7 ?z8 ?z9 ?z10 ?z11 ?z12 ?z13 ?aLAW ?lLAW ?cLAW ?kLAW
    (case aRG => k_is)
    (case lRG => k_is)
    (case cRG => k_is)
    (case kRG => k_is)
    (case aTP => k_is)
    (case lTP => k_is)
    (case cTP => k_is)
    (case kTP => k_is)
    (case aIL => k_is)
    (case lIL => k_is)
    (case cIL => k_is)
    (case kIL => k_is)
    (case aBT => k_is)
    (case lBT => k_is)
    (case cBT => k_is)
    (case kBT => k_is)
    (case aSW => k_is)
    (case lSW => k_is)
    (case cSW => k_is)
    (case kSW => k_is)
    (case aMT => k_is)
    (case lMT => k_is)
    (case cMT => k_is)
    (case kMT => k_is)
    (case aPB => k_is)
    (case lPB => k_is)
    (case cPB => k_is)
    (case kPB => k_is)
    (case aCN => k_is)
    (case lCN => k_is)
    (case cCN => k_is)
    (case kCN => k_is)
    (case aPIN => k_is)
    (case lPIN => k_is)
    (case cPIN => k_is)
    (case kPIN => k_is)
    (case aPT => k_is)
    (case lPT => k_is)
    (case cPT => k_is)
    (case kPT => k_is)
    (case aBP => k_is)
    (case lBP => k_is)
    (case cBP => k_is)
    (case kBP => k_is)
    (case aNM => k_is)
    (case lNM => k_is)
    (case cNM => k_is)
    (case kNM => k_is)
    (case aSS => k_is)
    (case lSS => k_is)
    (case cSS => k_is)
    (case kSS => k_is)
    (case aSM => k_is)
    (case lSM => k_is)
    (case cSM => k_is)
    (case kSM => k_is)
    (case aCM => k_is)
    (case lCM => k_is)
    (case cCM => k_is)
    (case kCM => k_is)
    (case aFE => k_is)
    (case lFE => k_is)
    (case cFE => k_is)
    (case kFE => k_is)
    (case aTA => k_is)
    (case lTA => k_is)
    (case cTA => k_is)
    (case kTA => k_is)
    (case aPI => k_is)
    (case lPI => k_is)
    (case cPI => k_is)
    (case kPI => k_is)
    (case aLD => k_is)
    (case lLD => k_is)
    (case cLD => k_is)
    (case kLD => k_is)
    (case aTN => k_is)
    (case lTN => k_is)
    (case cTN => k_is)
    (case kTN => k_is)
    (case aRN => k_is)
    (case lRN => k_is)
    (case cRN => k_is)
    (case kRN => k_is)
    (case aHS => k_is)
    (case lHS => k_is)
    (case cHS => k_is)
    (case kHS => k_is)
    (case aMY => k_is)
    (case lMY => k_is)
    (case cMY => k_is)
    (case kMY => k_is)
    (case aKT => k_is)
    (case lKT => k_is)
    (case cKT => k_is)
    (case kKT => k_is)
    (case aHV => k_is)
    (case lHV => k_is)
    (case cHV => k_is)
    (case kHV => k_is)
    (case aLR => k_is)
    (case lLR => k_is)
    (case cLR => k_is)
    (case kLR => k_is)
    (case aRC => k_is)
    (case lRC => k_is)
    (case cRC => k_is)
    (case kRC => k_is)
    (case aST => k_is)
    (case lST => k_is)
    (case cST => k_is)
    (case kST => k_is)
    (case aNV => k_is)
    (case lNV => k_is)
    (case cNV => k_is)
    (case kNV => k_is)
    (case aWD => k_is)
    (case lWD => k_is)
    (case cWD => k_is)
    (case kWD => k_is)
    (case aSC => k_is)
    (case lSC => k_is)
    (case cSC => k_is)
    (case kSC => k_is)
    (case aSZ => k_is)
    (case lSZ => k_is)
    (case cSZ => k_is)
    (case kSZ => k_is)
    (case aSR => k_is)
    (case lSR => k_is)
    (case cSR => k_is)
    (case kSR => k_is)
    (case aC => k_is)
    (case pg => k_is)
    (case hd => k_is)
    (case po => k_is)
    (case sa => k_is)
    (case na0 => k_is)
    (case na1 => k_is)
    (case mk => k_is)
    (case kc => k_is)
    (case aI => k_is)
    (case iI => k_is)
    (case lIN => k_is)
    (case cIN => k_is)
    (case kIN => k_is)
    (case rdOF => k_is)
    (case gaOF => k_is)
    (case aOF => k_is)
    (case rcOF => k_is)
    (case fiOF => k_is)
    (case lOF => k_is)
    (case cOF => k_is)
    (case kOF => k_is)
    (case aPPH => k_is)
    (case gPPH => k_is)
    (case tPPH => k_is)
    (case rcPPH => k_is)
    (case lPH => k_is)
    (case cPH => k_is)
    (case kPH => k_is)
    (case z1 => k_is)
    (case z2 => k_is)
    (case z3 => k_is)
    (case z4 => k_is)
    (case z5 => k_is)
    (case z6 => k_is)
    (case z7 => k_is)
    (case z8 => k_is)
    (case z9 => k_is)
    (case z10 => k_is)
    (case z11 => k_is)
    (case z12 => k_is)
    (case z13 => k_is)
    (case aLAW => k_is)
    (case lLAW => k_is)
    (case cLAW => k_is)
    (case kLAW => k_is)

