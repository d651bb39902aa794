import PyProof.Rows.All
import Wide.All
import OpenK.AllK
import Wide.FinOn
import HandS.ForMost
import HandS.Flow
import HandS.OwnEq
import HandS.More
import HandS.DictComp
import HandS.List
import KE.KEqDict
import KE.KDictKeyed
import KE.KRevSl
import PyProof.InstNe
import HandS.IsInst
import HandS.SortRule
import HandS.Property
import HandS.ClsMeth
import HandS.Star
import HandS.Codes
import HandS.Strs
import HandS.SetFor
import HandS.RaiseMore
import HandS.Wide
import HandS.Style
import HandS.Walk
import HandS.Zip
import HandS.TupAny
import HandS.Conv
import HandS.Deep
import HandS.SortKw
import HandS.NamedTupSort
import HandS.Iter
import KE.GoesEnum
import KE.GoesZip
import KE.GoesMore
import HandS.Comp
import HandS.Defaults
import PySem.Challenge.RW_wearswings_k56_values_that_are_matchings
set_option Elab.async false
set_option linter.all false
set_option maxRecDepth 100000
set_option maxHeartbeats 16000000
/-! del xs[-3:-1] of a list of at least three -/
namespace DS
open PySem PySem.Spec PyProof.Rows L2
def sel (start stop step : Int) (i : Nat) : Bool :=
  if step > 0 then start ≤ i && i < stop && (i - start) % step == 0 else stop < i && i ≤ start && (start - i) % (-step) == 0
theorem sel_iff (a c : Int) (i : Nat) : sel a c 1 i = decide (a ≤ i ∧ (i : Int) < c) := by
  unfold sel
  rw [if_pos (by decide)]
  have e : ((((i : Int) - a) % 1) == 0) = true := by rw [Int.emod_one]; rfl
  rw [e, Bool.and_true]
  by_cases h1 : a ≤ (i : Int) <;> by_cases h2 : (i : Int) < c <;> simp [h1, h2]
def cutOut (a c : Int) (xs : Array Value) : Array Value := (xs.toList.zipIdx.filterMap fun (x, k) => if sel a c 1 k then none else some x).toArray
theorem keep_all {a c : Int} : ∀ (l : List Value) (s : Nat), ((s + l.length : Nat) : Int) ≤ a → (l.zipIdx s).filterMap (fun (x, k) => if sel a c 1 k then none else some x) = l
  | [], _, _ => rfl
  | x :: l, s, h => by
    rw [List.zipIdx_cons, List.filterMap_cons]
    have e : sel a c 1 s = false := by rw [sel_iff]; exact decide_eq_false (by simp only [List.length_cons] at h; omega)
    have ih := keep_all (a := a) (c := c) l (s + 1) (by simp only [List.length_cons] at h; omega)
    simp only [e, Bool.false_eq_true, if_false]
    rw [ih]
theorem cut_three (pre : List Value) (x y z : Value) : cutOut ((pre.length : Nat) : Int) (((pre.length + 2 : Nat)) : Int) (pre ++ [x, y, z]).toArray = (pre ++ [z]).toArray := by
  unfold cutOut
  congr 1
  show ((pre ++ [x, y, z]).zipIdx.filterMap _) = _
  rw [List.zipIdx_append, List.filterMap_append, keep_all pre 0 (by omega)]
  congr 1
  have e1 : sel ((pre.length : Nat) : Int) (((pre.length + 2 : Nat)) : Int) 1 pre.length = true := by rw [sel_iff]; exact decide_eq_true (by omega)
  have e2 : sel ((pre.length : Nat) : Int) (((pre.length + 2 : Nat)) : Int) 1 (pre.length + 1) = true := by rw [sel_iff]; exact decide_eq_true (by omega)
  have e3 : sel ((pre.length : Nat) : Int) (((pre.length + 2 : Nat)) : Int) 1 (pre.length + 1 + 1) = false := by rw [sel_iff]; exact decide_eq_false (by omega)
  simp only [Nat.zero_add, List.zipIdx_cons, List.zipIdx_nil, List.filterMap_cons, List.filterMap_nil, e1, e2, e3, if_true, Bool.false_eq_true, if_false]
theorem bounds31 (n : Nat) : sliceBounds (some (-3)) (some (-1)) none (n + 3) = (((n : Nat) : Int), ((n + 2 : Nat) : Int), 1) := by
  simp only [sliceBounds, Option.getD_none]
  have h1 : (-3 : Int) < 0 := by decide
  have h2 : (-1 : Int) < 0 := by decide
  simp only [h1, h2, if_true, show (1 : Int) > 0 by decide]
  congr 1
  · omega
  · congr 1; omega
section
variable {prog : Program} {w : World} {A : Around} {E : Value → Shared → Prop} {s : Shared}
theorem del31 {l sl : Addr} {its : Array Value} {n : Nat} {vl vu : Value} {Q : Unit → Shared → Prop} (e : s.heap.get? l = some { cls := .type "list", data := .seq its n }) (hs : s.heap.IsSliceOf sl vl vu .none)
    (pl : IsPart vl (some (-3))) (pu : IsPart vu (some (-1))) (m : Nat) (hm : its.size = m + 3) (hz : its.size ≤ sizeLine)
    (h : Q () { s with heap := s.heap.update l (Obj.mapSeq (cutOut (m : Int) ((m + 2 : Nat) : Int))) }) : wpAny (model prog w) A (delItem (.ref l) (.ref sl)) Q E s := by
  have hl : s.heap.IsList l its := PySem.IsL.isList e
  obtain ⟨os, hos, hcs, hds⟩ := id hs
  have hT : s.TypeIs (.ref sl) "slice" := ⟨os, hos, hcs⟩
  have hst : ¬ ((rawPart none == rawInt 0) = true) := Bool.false_ne_true
  refine wpAny_delItem_slot hl.typeIs (by decide) F.slot_list_delitem (wpAny_call_entry F.slot_list_delitem hl.typeIs F.entry_list_delitem ?_ (F.args_list_delitem_2 _ _))
  unfold Builtin.«list.__delitem__»
  refine wpAny_bind (wpAny_of_eq (a := (Value.ref l, [Value.ref sl])) (by first | rfl | kernel_rfl) ?_)
  show wpAny _ _ (Builtin.List.listSubscript? (.ref sl) >>= _) _ _ s
  unfold Builtin.List.listSubscript?
  refine wpAny_bind (wpAny_bind (wpAny_specialOf hT slice_no_index ?_))
  simp only [Option.isNone_none, if_true]
  refine wpAny_pure ?_
  show wpAny _ _ (typeOf (.ref sl) >>= _) _ _ s
  refine wpAny_bind (wpAny_typeOf hT ?_)
  first
    | rw [if_neg (by decide)]
    | refine PySem.W.KFB.if_not (by decide) ?_
  rw [listSliceParts_eq]
  refine wpAny_bind (wpAny_bind (wpAny_field hos hds rfl (wpAny_bind (wpAny_listPart .none ?_))))
  rw [if_neg hst]
  refine wpAny_bind (wpAny_field hos hds rfl (wpAny_bind (wpAny_listPart pl ?_)))
  refine wpAny_bind (wpAny_field hos hds rfl (wpAny_bind (wpAny_listPart pu (wpAny_pure ?_))))
  unfold Builtin.List.listItems
  refine wpAny_bind (wpAny_bind (wpAny_seqItems e rfl (wpAny_pure ?_)))
  rw [hm]
  refine wpAny_bind (wpAny_of_eq ((sliceIndices_raw (some (-3)) (some (-1)) none (m + 3) (by simp)).trans (congrArg (pure : Int × Int × Int → Sem (Int × Int × Int)) (bounds31 m))) ?_)
  refine wpAny_bind (wpAny_rule ?_)
  have hz2 : (cutOut (m : Int) ((m + 2 : Nat) : Int) its).size ≤ sizeLine + 1 := by
    unfold cutOut
    rw [List.size_toArray]
    refine Nat.le_trans (List.length_filterMap_le _ _) ?_
    rw [List.length_zipIdx, Array.length_toList]
    omega
  show wpAny _ _ (updateSeq l (cutOut (m : Int) ((m + 2 : Nat) : Int)) >>= _) _ _ s
  refine wpAny_bind (wpAny_updateSeq (hz := hz) (_hz' := hz2) e rfl ?_)
  refine wpAny_bind (wpAny_letGo ?_)
  first
    | exact wpAny_pure ⟨.none, rfl, h⟩
    | exact wpAny_pure h
end
theorem split3 : ∀ {pre : List V} {x1 y1 z1 : V} {its : List Value}, Vals (pre ++ [x1, y1, z1]) its → ∃ ip i1 i2 i3, its = ip ++ [i1, i2, i3] ∧ Vals pre ip ∧ RelV x1 i1 ∧ RelV y1 i2 ∧ RelV z1 i3
  | [], _, _, _, _, .cons r1 (.cons r2 (.cons r3 .nil)) => ⟨[], _, _, _, rfl, .nil, r1, r2, r3⟩
  | _ :: pre, _, _, _, _, .cons r0 t => by
    obtain ⟨ip, i1, i2, i3, e, rp, h⟩ := split3 (pre := pre) t
    exact ⟨_ :: ip, i1, i2, i3, by rw [e]; rfl, .cons r0 rp, h⟩
section
variable {X : Cx}
/-- del xs[-3:-1] of a list of at least three -/
def tDel31 (to : TE) (tl th : TO) : TS := fun D σ H => to σ H fun x H1 => tl σ H1 fun l H2 => th σ H2 fun u H3 => l = some (-3) ∧ u = some (-1) ∧ ∃ (a : Addr) (pre : List V) (x1 y1 z1 : V), x = .ref a ∧ H3 a = some (.lst (pre ++ [x1, y1, z1])) ∧
  D.nx σ (upd H3 a (.lst (pre ++ [z1])))
theorem ps_del31 {o : Expr} {lo hi : Option Expr} {to : TE} {tl th : TO} {tpos p2 pos : Pos} (ho : PE X o to) (hl : PO X lo tl) (hu : PO X hi th) : PS X (.Delete [.Subscript o (.Slice lo hi none p2) tpos] pos) (tDel31 to tl th) := by
  refine ⟨fun pins s σ H D I h => ?_⟩
  refine wpAny_Delete (wpAny_deleteEach_cons (wpAny_delete_Subscript (thn (ho.run pins s σ H _ I h) fun u s1 ⟨x, H1, I1, rx, q1⟩ => ?_)))
  refine wpAny_Slice (thn (hl.run pins s1 σ H1 _ I1 q1) fun vl s2 ⟨l, H2, I2, pl, q2⟩ => thn (hu.run pins s2 σ H2 _ I2 q2) fun vu s3 ⟨w, H3, I3, pu, q3⟩ => ?_)
  rw [evalPart_none]
  refine wpAny_pure ?_
  obtain ⟨e1, e2, a, pre, x1, y1, z1, rfl, hH, q⟩ := q3
  subst e1 e2
  cases (show u = Value.ref a from rx)
  have I4 : Inv X pins σ H3 { s3 with heap := s3.heap.push { cls := .type "slice", data := .fields #[vl, vu, .none] } } := I3.kept (t' := s3.toks) fun b o e => Heap.get?_push_of_some _ e
  obtain ⟨z, its, n, r, hlen, e⟩ := I4.lstM hH
  have hn : its.length = pre.length + 3 := by rw [← hlen]; simp
  obtain ⟨ip, i1, i2, i3, ei, rp, r1, r2, r3⟩ : ∃ ip i1 i2 i3, its = ip ++ [i1, i2, i3] ∧ Vals pre ip ∧ RelV x1 i1 ∧ RelV y1 i2 ∧ RelV z1 i3 := split3 r
  subst ei
  have hp : ip.length = pre.length := rp.length.symm
  refine del31 e (Heap.IsSliceOf.new ..) pl pu pre.length (by rw [List.size_toArray]; exact hn) (by rw [List.size_toArray, ← hlen]; exact z) (wpAny_deleteEach_nil ⟨σ, _, I4.lset (ys := pre ++ [z1]) (its' := ip ++ [i3]) (t' := s3.toks) hH e ?_ (rp.append (.cons r3 .nil)) ?_, q⟩)
  · rw [← hp]
    exact cut_three ip i1 i2 i3
  · have := z
    simp only [List.length_append, List.length_cons, List.length_nil] at this ⊢
    omega
end
end DS

/-! set(xs) of a list of ints, with the order's ledger kept (for sorted behind it) -/
namespace KS
open PySem PySem.Spec PyProof.Rows L2
abbrev leer (w : World) : Obj := { cls := .type "set", dict := none, data := .set #[] 0 (.fresh 0 0 (!w.params.followText "set-order")) }
section
variable {P : Program} {w : World} {A : Around} {E : Value → Shared → Prop} {s : Shared}
/-- what stands behind set's own __init__ -/
abbrev Made (w : World) (s : Shared) (ns : List Int) (Q : Shared → Prop) : Prop :=
  ∀ (g : Heap) (tk c : Nat), SetR w g s.heap.objs.size (fun j => decide (j ∈ ns)) c → c ≤ ns.length → (∀ b o, s.heap.get? b = some o → g.get? b = some o) → Q { s with heap := g, toks := tk }
set_option maxHeartbeats 6400000 in
theorem set_lst {l : Addr} {its : Array Value} (ns : List Int) {Q : Value → Shared → Prop} (hh : A.handled = none) (hl : s.heap.IsList l its) (hit : IntsAre its.toList ns) (hb : ns.length + 1 < scanBound)
    (h : Made w s ns (Q (.ref s.heap.objs.size))) : wpAny (model P w) A (call (.type "set") [.ref l]) Q E s := by
  have hn : its.size = ns.length := by
    rw [← Array.length_toList]; exact IntsAre.length hit
  obtain ⟨c0, t0, hm⟩ := F.called_set.mro
  have k1 := F.called_set.made; have k2 := F.called_set.sub; have k3 := F.called_set.notType; have k4 := F.called_set.canCreate; have k5 := F.typeCall_set_1 (.ref l)
  refine wpAny_call (codeAny_of_tree (show wpAny _ _ (callAny (.type "set") _) _ _ _ from ?_))
  have uu : A.under (.builtin "type.__call__" ⟨[.type "set", .ref l], []⟩) = A.in1 := Around.under_plain (weight_type_call_type "set" [.ref l] []) rfl
  refine wpAny_pure ⟨Code.quiet_builtin _ (by decide +kernel), codeAny_builtin F.entry_type_call ?_⟩
  rw [show A.under (.builtin "type.__call__" { ({ pos := [Value.ref l] } : Args) with pos := .type "set" :: [Value.ref l] }) = A.in1 from uu]
  repeat (any_goals (first | assumption | wp_step))
  have hs0 : (s.heap.push (leer w)).get? s.heap.objs.size = some (leer w) := Heap.get?_push_size _ rfl
  refine codeAny_mono (code_set_led1 (.ref l) (E := E) (Q₁ := fun x s1 => x = .ref s.heap.objs.size ∧ s1 = { s with heap := s.heap.push (leer w) }) ⟨rfl, rfl⟩) fun r1 s1 e1 => ?_
  match r1, e1 with
  | .error _, e1 => exact e1
  | .ok (.next), e1 => exact e1.elim
  | .ok (.brk), e1 => exact e1.elim
  | .ok (.cont), e1 => exact e1.elim
  | .ok (.ret x), e1 =>
    obtain ⟨rfl, rfl⟩ := e1
    have hT : Shared.TypeIs { s with heap := s.heap.push (leer w) } (.ref s.heap.objs.size) "set" := ⟨_, hs0, rfl⟩
    have j1 := F.called_set.init.lookup; have j2 := F.called_set.init.bind (.ref s.heap.objs.size)
    repeat (any_goals (first | assumption | wp_step))
    refine codeAny_mono (codeAny_call_builtin (R := wants (fun v s2 => v = .none ∧ ∃ g tk c, s2 = { s with heap := g, toks := tk } ∧ SetR w g s.heap.objs.size (fun j => decide (j ∈ ns)) c ∧ c ≤ ns.length ∧ ∀ b o, s.heap.get? b = some o → g.get? b = some o) E)
      F.called_set.init.plain F.entry_set_init (check_set_init_1 hT ?_)) fun r2 s2 e2 => ?_
    · obtain ⟨ol, a1, a2, nl, a3⟩ := hl
      obtain ⟨xc, xd, xt, xs⟩ := ol
      simp only at a2 a3
      subst a2 a3
      have a4 : (s.heap.push (leer w)).get? l = some { cls := .type "list", dict := xd, data := .seq its nl, slots := xs } := Heap.get?_push_of_some _ a1
      have b1 := F.sub_list_set; have b2 := F.sub_list_frozenset; have b3 : (Value.type "list" == Value.type "dict") = false := by decide
      have a5 : (s.heap.push (leer w)).IsList l its := ⟨_, a4, rfl, nl, rfl⟩
      unfold Builtin.«set.__init__» noKeywords Builtin.Frozenset.updateFrom
      generalize hPI : pyIter = PI
      wp_walk
      subst hPI
      refine wpAny_pyIter_list a5 (wpAny_bind (wpAny_runValue ?_))
      have lt := Heap.lt_size a1
      have sz : (s.heap.push (leer w)).objs.size = s.heap.objs.size + 1 := Heap.size_push ..
      have d1 : l ≠ (s.heap.push (leer w)).objs.size := by rw [sz]; exact Nat.ne_of_lt (Nat.lt_succ_of_lt lt)
      have d2 : s.heap.objs.size ∉ [(s.heap.push (leer w)).objs.size, l] := by
        rw [sz]; intro z; rcases List.mem_cons.mp z with z | z
        · exact absurd z (Nat.ne_of_lt (Nat.lt_succ_self _))
        · exact absurd (List.mem_singleton.mp z) (Nat.ne_of_gt lt)
      have vl : ∀ i v, its[i]? = some v → ∃ (k : Int) (t : Tok), ns[i]? = some k ∧ v = Value.int k t := fun i v e => by
        have hi : i < ns.length := by rw [← hn]; exact (Array.getElem?_eq_some_iff.mp e).1
        obtain ⟨t, et⟩ := IntsAre.int_at hit i v (by rw [Array.getElem?_toList]; exact e)
        exact ⟨ns[i], t, List.getElem?_eq_getElem hi, by rw [et, List.getD_eq_getElem?_getD, List.getElem?_eq_getElem hi]; rfl⟩
      have hq : A.in1.in1.in1.handled = none := by simp [hh]
      refine set_update_ints ((Walks.list hq _ l d1 its).toS) s.heap.objs.size d2 ns hn hb vl (its.size - 0) 0 _ (by omega) (Nat.zero_le _) ⟨⟨_, Heap.get?_push_size _ rfl, rfl, rfl⟩, a5.push _⟩
        ⟨0, Nat.le_refl 0, setR_new_at (Heap.get?_push_of_some _ hs0)⟩ fun s3 c3 mv hc3 R3 => ?_
      obtain ⟨g3, gg, dd, tk3, oo⟩ := s3
      obtain rfl : gg = s.gens := mv.gens
      obtain rfl : dd = s.drawn := mv.drawn
      obtain rfl : oo = s.os := mv.os
      refine (show wpAny _ _ _ _ _ _ from wpAny_pure (show wpAny _ _ (ret Value.none) _ _ _ from wpAny_pure ⟨rfl, g3, tk3, c3, rfl, R3, by omega, fun b o e => ?_⟩))
      have hb0 := Heap.lt_size e
      exact mv.heap b o (by rw [sz]; intro z; rcases List.mem_cons.mp z with z | z
                            · exact absurd z (Nat.ne_of_lt hb0)
                            · exact absurd (List.mem_singleton.mp z) (Nat.ne_of_lt (Nat.lt_succ_of_lt hb0))) (Heap.get?_push_of_some _ (Heap.get?_push_of_some _ e))
    · match r2, e2 with
      | .error _, e2 => exact e2
      | .ok (.next), e2 => exact e2.elim
      | .ok (.brk), e2 => exact e2.elim
      | .ok (.cont), e2 => exact e2.elim
      | .ok (.ret y), e2 =>
        obtain ⟨rfl, g, tk, c, rfl, R2, hc, hk⟩ := e2
        repeat (any_goals (first | assumption | wp_step))
        exact h _ _ _ R2 hc hk
end
section
variable {X : Cx}
/-- set(xs) of a list of ints -/
def rSetL (w : World) (K : PySem.W.Frag) : List V → Hp → VK → Prop := fun vs H Q => ∃ (a : Addr) (ns : List Int), vs = [V.ref a] ∧ SqL K H a (ns.map V.int) ∧ ns.length ≤ 1000 ∧
  ∀ (p : Addr) (c : Nat), H p = none → c ≤ ns.length → Q (.ref p) (upd H p (SetO w p (fun j => decide (j ∈ ns)) c))
theorem cr_setL (hc : X.calm = true) : CallR X (.type "set") (rSetL X.w X.K) := by
  intro pins s σ H vs us Q I r h
  obtain ⟨a, ns, rfl, hS, hlen, q⟩ := h
  rw [Vals.ref1 r]
  obtain ⟨its, rv, pl, hz⟩ := I.list hS
  refine set_lst ns (I.ok.hd hc) pl.isList (by simpa using ints_of_vals rv) (by unfold scanBound; omega) fun g tk c R hcn k => ?_
  exact ⟨.ref _, _, I.laid (t' := tk) k (Nat.le_refl _) (setO_new R), rfl, q _ c (I.hok.fresh (Nat.le_refl _)) hcn⟩
end
end KS

/-! repr(xs) of a list of ints; a law's def whose body knows that no repr is under way -/
namespace KG
open PySem PySem.Spec PyProof.Rows L2
/-! ### the text of a list of ints -/
def datL (ns : List Int) : PyData := .list (ns.map PyData.int)
def reprL (ns : List Int) : Str := (datL ns).shown
theorem small_log {i : Int} {k : Nat} (h0 : 0 < k) (h : i.natAbs < 2 ^ k) : i.natAbs.log2 < k := PySem.Flt.log2_lt_of h0 h
theorem show_all : ∀ (ns : List Int), (∀ n ∈ ns, n.natAbs < 2 ^ 40) → PyData.showableAll (ns.map PyData.int) = true
  | [], _ => rfl
  | a :: r, h => by
    have h1 : a.natAbs.log2 < 1920 := Nat.lt_of_lt_of_le (small_log (by decide) (h a List.mem_cons_self)) (by decide)
    have h2 := show_all r fun n hn => h n (List.mem_cons_of_mem _ hn)
    simp only [List.map_cons, PyData.showableAll, PyData.showable, h2, h1, decide_true, Bool.and_self]
theorem nodict_all : ∀ (ns : List Int), PyData.hasDictAll (ns.map PyData.int) = false
  | [] => rfl
  | a :: r => by simp only [List.map_cons, PyData.hasDictAll, PyData.hasDict, nodict_all r, Bool.or_self]
theorem depth_all : ∀ (ns : List Int), PyData.depthAll (ns.map PyData.int) ≤ 1
  | [] => Nat.zero_le _
  | a :: r => by
    have := depth_all r
    simp only [List.map_cons, PyData.depthAll, PyData.depth]
    omega
theorem leaves_all : ∀ (ns : List Int), (∀ n ∈ ns, n.natAbs < 10 ^ 12) → PyData.leavesShortAll 13 (ns.map PyData.int) = true
  | [], _ => rfl
  | a :: r, h => by
    have h2 := leaves_all r fun n hn => h n (List.mem_cons_of_mem _ hn)
    have h1 : (PyData.shown (.int a)).length ≤ 13 := by
      have := PySem.int_text_length_le10 (a := a) (k := 12) (by decide) (h a List.mem_cons_self)
      have e : (PyData.shown (.int a)).length = (toString a).length := by
        simp only [PyData.shown]
        exact PySem.ofString_length _
      omega
    simp only [List.map_cons, PyData.leavesShortAll, PyData.leavesShort, h2, Bool.and_true, decide_eq_true_eq]
    exact h1
theorem weight_all : ∀ (ns : List Int), (∀ n ∈ ns, n.natAbs < 2 ^ 39) → PyData.weightAll (ns.map PyData.int) ≤ 60 * ns.length
  | [], _ => Nat.le_refl _
  | a :: r, h => by
    have h1 := weight_all r fun n hn => h n (List.mem_cons_of_mem _ hn)
    have h2 : a.natAbs.log2 < 39 := small_log (by decide) (h a List.mem_cons_self)
    simp only [List.map_cons, PyData.weightAll, PyData.weight, List.length_cons]
    split <;> omega
theorem repr_fits {ns : List Int} (h : ∀ n ∈ ns, n.natAbs < 2 ^ 39) (hl : ns.length ≤ 2000) : (reprL ns).length ≤ sizeLine := by
  refine PyData.shown_fits (B := 13) (by decide) (by decide) ?_ ?_
  · show PyData.leavesShort 13 (.list _) = true
    simp only [PyData.leavesShort, leaves_all ns fun n hn => Nat.lt_trans (h n hn) (by decide)]
  · show PyData.weight (.list _) ≤ _
    have := weight_all ns h
    simp only [PyData.weight]
    omega
theorem reads_all {h : Heap} : ∀ {us : List Value} {ns : List Int}, IntsAre us ns → ReadsAll h us (ns.map PyData.int) []
  | _, _, .nil => .nil
  | _, _, .cons n t r => by
    have z := ReadsAll.cons (Reads.int (h := h) n t) (reads_all r)
    exact z
section
variable {X : Cx}
/-- repr(xs) of a list of ints, while no repr is under way -/
def rReprL (K : PySem.W.Frag) : List V → Hp → VK → Prop := fun vs H Q => ∃ (a : Addr) (ns : List Int), vs = [V.ref a] ∧ SqL K H a (ns.map V.int) ∧ (∀ n ∈ ns, n.natAbs < 2 ^ 39) ∧ ns.length ≤ 2000 ∧ Q (.str (reprL ns)) H
theorem cr_reprL (hg : X.A.guards = some []) (hu : X.A.units + 100 < cLine) : CallR X (.builtin "repr") (rReprL X.K) := by
  intro pins s σ H vs us Q I r h
  obtain ⟨a, ns, rfl, hS, hb, hl, q⟩ := h
  rw [Vals.ref1 r]
  obtain ⟨its, rv, ⟨o, n, ho, hc, hdn, hd⟩, hz⟩ := I.list hS
  have rd : Reads s.heap (.ref a) (datL ns) [a] := .list ho hc hd (reads_all (by simpa using ints_of_vals rv))
  refine repr_of_reads' rd (by show PyData.showable (.list _) = true; simp only [PyData.showable]; exact show_all ns fun m hm => Nat.lt_trans (hb m hm) (by decide)) (PyData.noDict_hsm (by show PyData.hasDict (.list _) = false; simp only [PyData.hasDict]; exact nodict_all ns)) hg
    (by have := depth_all ns; show X.A.units + (PyData.depth (.list _) + 1) < cLine; simp only [PyData.depth]; omega) (fun _ _ e => e) (fun g u tk k => ?_) (repr_fits hb hl)
  exact ⟨.str (reprL ns), H, I.kept k, ⟨u, rfl⟩, q⟩
end
end KG

/-! the def of the law itself, called where no repr is under way -/
namespace KW
open PySem PySem.Spec PyProof.Rows L2
/-- the def at f keeps sp where it is called with no repr under way -/
def Kept (P : Program) (w : World) (K : PySem.W.Frag) (mg : Str → Option Value) (base : Heap) (k : Nat) (f : Addr) (fd : FuncData) (ps : List Str) (sp : Sp) : Prop :=
  ∀ (A : Around) (outer : List Env) (s : Shared) (H : Hp) (args : Args) (us : List Value) (vs : List V) (Q : VK) (E : XK), A.guards = some [] → Room k A → Env0 P w K mg base A outer s H →
    BindsTo s fd args (ps.zip us) → Vals vs us → sp vs H Q E → codeAny (model P w) A (.call (.ref f) args) (CR CX0 outer P w H s Q E) s
section
variable {P : Program} {w : World} {K : PySem.W.Frag} {mg : Str → Option Value} {base : Heap}
theorem kept_of {x qual : Str} {st : Stmt} {f : Addr} {fd : FuncData} {N ps : List Str} {k : Nat} {sp : Sp} (F : Fun K x qual st f fd) (S : FnScope N ps (defScope st)) (len : ∀ vs H Q E, sp vs H Q E → vs.length = ps.length)
    (hb : ∀ (cdv : Value) (A : Around) (outer : List Env) (s : Shared) (H : Hp) (vs : List V) (Q : VK) (E : XK), A.guards = some [] → Room k (A.deeper (envOfC qual (defScope st) s.heap.objs.size f cdv)) → sp vs H Q E →
      ∃ t, PSs (cxOf CX0 P w K mg base N qual (defScope st) f cdv A outer s H E).nox (defBody st) t ∧ t { nx := fun _ H' => Q .non H', rt := Q } (start N vs) H) : Kept P w K mg base (k + 1) f fd ps sp := by
  obtain ⟨oc, od, kV, doc, pm, an, cdv, ct, osl, e1, lk, hcd⟩ := F.ex
  subst e1
  intro A outer s H args us vs Q E hg hr e0 bnd r hsp
  obtain ⟨t, d, q⟩ := hb cdv A outer s H vs Q E hg (hr.deeper _) hsp
  have lv := len _ _ _ _ hsp
  have kin : K.In s.heap := e0.mod.kin.keeps fun b o e => (e0.bs b o e).1
  have kd : ∀ y ∈ ps.zip us, (defScope st).names.lookup y.1 = some .local ∨ ((defScope st).names.lookup y.1 = some .cell ∧ ((cellsFrom (s.heap.objs.size + 1) (defScope st).names []).lookup y.1).isSome = true) := by
    rintro ⟨n, v⟩ hy
    exact (S.par n (List.of_mem_zip hy).1).imp id fun z => ⟨z, PySem.W.cellsFrom_some _ _ _ (.inl z)⟩
  refine codeAny_call_function hr.depth (kin _ _ lk) rfl S.co S.gen rfl (PySem.W.codeRec_of kin hcd) (bnd _ _ _ _ (wpAny_newFunctionEnv_cells S.kind kd fun env he s1 x1 => ?_))
  subst he
  refine ⟨(e0.mod.nolimit.keeps fun b o e => (e0.bs b o e).1).keeps x1.toInCall.keep, codeAny_func (wpAny_mono (d.nox.run [] s1 (start N vs) H _ (inv_start S hr.hd e0 lv r x1) q) (fun fl s2 z => ?_) fun _ _ z => z)⟩
  match fl, z with
  | .ret u, ⟨v, σ2, H2, J, rv, q2⟩ => exact ⟨v, H2, J.os, J.bare, J.base, J.hok, rv, q2⟩
  | .next, ⟨σ2, H2, J, q2⟩ => exact ⟨V.non, H2, J.os, J.bare, J.base, J.hok, rfl, q2⟩
  | .brk, ⟨_, _, _, q2⟩ => exact q2.elim
  | .cont, ⟨_, _, _, q2⟩ => exact q2.elim
/-- the heap that tracks the script alone, or nothing where it is the text's own -/
def hpOf (K : PySem.W.Frag) (a : Addr) (o : Obj) (xs : List V) : Hp := fun b => if b = a ∧ K.lookup a = none then some (.frz o (.lst xs)) else none
theorem hpOf_some {K : PySem.W.Frag} {a b : Addr} {o : Obj} {xs : List V} {u : HO} (e : hpOf K a o xs b = some u) : b = a ∧ K.lookup a = none ∧ u = .frz o (.lst xs) := by
  unfold hpOf at e
  split at e
  · rename_i z
    exact ⟨z.1, z.2, (Option.some.inj e).symm⟩
  · cases e
theorem run_law {mb : Str → Option Value} {k : Nat} {fa a : Addr} {fd : FuncData} {x : Str} {sp : Sp} {s1 : Shared} {vs : List Value} {ns : List Int}
    (kin : K.In s1.heap) (h1 : s1.heap.Ns mainGlobals mg) (h2 : s1.heap.Ns builtinsNs mb) (h3 : ∀ y : Str, y ≠ "__name__" → mb y = bootBuiltins y) (h4 : s1.heap.NoLimit) (h5 : s1.gens = #[])
    (ha : s1.heap.get? a = some { cls := .type "list", data := .seq vs.toArray }) (hi : IntsAre vs ns) (hl : ns.length ≤ sizeLine) (hr : Room k callerA)
    (F : ∀ bs : Heap, K.In bs → bs.Ns mainGlobals mg → Kept P w K mg bs k fa fd [x] sp) (hbd : ∀ (s : Shared) (u : Value), BindsTo s fd ⟨[u], []⟩ [(x, u)])
    (hsp : ∀ H : Hp, Only H → SqL K H a (ns.map V.int) → sp [.ref a] H (fun v _ => v = .bl true) fun _ _ _ => False) :
    codeAny (model P w) callerA (.call (.ref fa) ⟨[.ref a], []⟩) (fun r s' => r = .ok (.ret (.bool true)) ∧ OldK s1.heap s'.heap ∧ s'.os = s1.os ∧ AllBare s'.gens) s1 := by
  have rv := vals_ints hi
  let ob : Obj := { cls := .type "list", data := .seq vs.toArray }
  generalize hH : hpOf K a ob (ns.map V.int) = H
  have hsome : ∀ {b u}, H b = some u → b = a ∧ K.lookup a = none ∧ u = .frz ob (.lst (ns.map V.int)) := fun {b u} e => hpOf_some (by rw [hH]; exact e)
  have hO : Only H := fun b => by
    cases e : H b with
    | none => exact .inl rfl
    | some u => exact .inr ⟨_, _, by rw [(hsome e).2.2]⟩
  have hS : SqL K H a (ns.map V.int) := by
    cases e : K.lookup a with
    | none => exact .inl (.inr ⟨ob, by rw [← hH]; exact if_pos ⟨rfl, e⟩⟩)
    | some o =>
      have e2 := kin a o e
      rw [ha] at e2
      cases e2
      exact .inr ⟨_, vs.toArray, _, e, rfl, rfl, rfl, by rw [List.size_toArray, hi.length]; exact hl, by simpa using rv⟩
  have hok : HOk P w H s1.heap := fun b u e => by
    obtain ⟨rfl, _, rfl⟩ := hsome e
    exact ⟨ha, by rw [List.length_map]; exact hl, vs, _, rv, ha⟩
  have free : ∀ {b : Addr} {o : Obj} {es : Array DictEntry} {ep : Nat}, s1.heap.get? b = some o → o.data = .dict es ep → H b = none := fun {b o es ep} e d => by
    cases z : H b with
    | none => rfl
    | some u =>
      obtain ⟨rfl, _, _⟩ := hsome z
      rw [ha] at e
      cases e
      cases d
  have toB : ∀ {b : Addr} {m : Str → Option Value}, s1.heap.Ns b m → (hidT s1.heap H).Ns b m := fun {b m} ⟨o, es, ep, e, d, r⟩ => ⟨o, es, ep, hidT_get e (free e d), d, r⟩
  have kB : K.In (hidT s1.heap H) := fun b o e => hidT_get (kin b o e) (by
    cases z : H b with
    | none => rfl
    | some u =>
      obtain ⟨rfl, z2, _⟩ := hsome z
      rw [z2] at e
      cases e)
  obtain ⟨mc, m1, m2⟩ := h4
  have e0 : Env0 P w K mg (hidT s1.heap H) callerA [] s1 H := ⟨rfl, ⟨kB, toB h1, ⟨mb, toB h2, h3⟩, ⟨mc, toB m1, m2⟩⟩, fun b o e => of_hidT e, Nat.le_of_eq (hidT_size _ _), trivial, fun b hb => (List.not_mem_nil (show b ∈ ([] : List Addr) from hb)).elim, hok, .of_eq h5⟩
  refine codeAny_mono (F _ kB (toB h1) callerA [] s1 H ⟨[.ref a], []⟩ [.ref a] [.ref a] _ _ rfl hr e0 (hbd s1 (.ref a)) (.cons rfl .nil) (hsp H hO hS)) fun r s2 z => ?_
  match r, z with
  | .error _, z => exact z.elim
  | .ok .next, z => exact z.elim
  | .ok .brk, z => exact z.elim
  | .ok .cont, z => exact z.elim
  | .ok (.ret u), ⟨v, H2, os, bare, un, hok2, rr, q⟩ =>
    have q2 : v = .bl true := q
    subst q2
    obtain rfl : u = Value.bool true := rr
    refine ⟨rfl, OldK.of_keep fun b o e => ?_, os, bare⟩
    cases z : H b with
    | none => exact un.keep b o e z (fun m => (List.not_mem_nil (show b ∈ ([] : List Addr) from m)).elim) (by simp)
    | some u =>
      obtain ⟨_, _, rfl⟩ := hsome z
      have t1 := (hok b _ z).1
      have t2 := (hok2 b _ (un.frzs b ob _ z)).1
      rw [e] at t1
      rw [t2, ← t1]
/-- the end: the law's promise over the written part alone -/
theorem walk_kept {l : PySem.W.OpenLaw} {n k : Nat} {q : Program} {loose : List Str} {XP : (Str → Option Value) → Heap → Prop} {YP : World → Heap → Prop} {d : DefRec} {KK : Params → PySem.W.Frag} {sp : PySem.W.Frag → Sp} {x : Str}
    (hn : l.most = some n) (hn2 : n ≤ sizeLine) (hdf : d.params.defaults = []) (hr : Room k callerA) (hY : ∀ (w : World) (h : Heap), YP w h → (KK w.params).In h)
    (F : ∀ (w : World) (mg : Str → Option Value) (fa : Addr) (h : Heap), (KK w.params).In h → h.Ns mainGlobals mg → mg d.name = some (.ref fa) →
      ∃ fd : FuncData, (∀ (s : Shared) (u : Value), BindsTo s fd ⟨[u], []⟩ [(x, u)]) ∧ ∀ bs : Heap, (KK w.params).In bs → bs.Ns mainGlobals mg → Kept l.prog w (KK w.params) mg bs k fa fd [x] (sp (KK w.params)))
    (hsp : ∀ (K : PySem.W.Frag) (H : Hp) (a : Addr) (ns : List Int), ns.length ≤ n → Only H → SqL K H a (ns.map V.int) → sp K [.ref a] H (fun v _ => v = .bl true) fun _ _ _ => False) :
    PySem.W.WalkO q loose XP YP l.row.toRowW d [] (fun f vs => PySem.call f vs) := by
  refine Att.attach_call hn hdf fun w s0 s1 mg mb fa o pm cd doc a vs ns G Y ho hd hcd hmg hobj hints hlen hg => ?_
  obtain ⟨fd, hb, hF⟩ := F w mg fa _ (hY w _ Y) G.T.g hmg
  exact run_law (hY w _ Y) G.T.g G.T.b G.T.builtins G.T.nolimit hg hobj hints (Nat.le_trans hlen hn2) hr hF hb fun H hO hS => hsp (KK w.params) H a ns hlen hO hS
end
end KW

/-! turning points, as mathematics: the stack's way and the law's way -/
namespace PM
/-- r lies between its neighbours b and a -/
abbrev Btw (r b a : Int) : Prop := (b < r ∧ r < a) ∨ (a < r ∧ r < b)
/-- the stack's way from b, a (a on top) on -/
def tq : Int → Int → List Int → List Int
  | _, a, [] => [a]
  | b, a, r :: l => if a = r then tq b a l else if Btw a b r then tq b r l else a :: tq a r l
def ts : Int → List Int → List Int
  | a, [] => [a]
  | a, r :: l => if a = r then ts a l else a :: tq a r l
def tp : List Int → List Int
  | [] => []
  | x :: l => ts x l
/-- repeated readings once -/
def ddf : Int → List Int → List Int
  | _, [] => []
  | p, x :: l => if x = p then ddf p l else x :: ddf x l
def dd : List Int → List Int
  | [] => []
  | x :: l => x :: ddf x l
/-- the law's way, over readings that differ from their neighbours -/
def lq : Int → Int → List Int → List Int
  | _, c, [] => [c]
  | p, c, d :: l => if (decide (c > p) = decide (c > d)) then c :: lq c d l else lq c d l
def lp : List Int → List Int
  | [] => []
  | [x] => [x]
  | x :: y :: l => x :: lq x y l
theorem tq_lq : ∀ (l : List Int) (b p a : Int), a ≠ b → a ≠ p → (a > b ↔ a > p) → tq b a l = lq p a (ddf a l)
  | [], _, _, _, _, _, _ => rfl
  | r :: l, b, p, a, h1, h2, h3 => by
    simp only [tq, ddf]
    by_cases e : a = r
    · rw [if_pos e, if_pos e.symm]
      exact tq_lq l b p a h1 h2 h3
    · rw [if_neg e, if_neg (show ¬ r = a from fun z => e z.symm)]
      simp only [lq]
      by_cases bt : Btw a b r
      · rw [if_pos bt]
        have hk : ¬ (decide (a > p) = decide (a > r)) := by
          intro z
          rw [decide_eq_decide] at z
          omega
        rw [if_neg hk]
        exact tq_lq l b a r (by omega) (fun z => e z.symm) (by omega)
      · rw [if_neg bt]
        have hk : decide (a > p) = decide (a > r) := by
          rw [decide_eq_decide]
          omega
        rw [if_pos hk]
        rw [tq_lq l a a r (fun z => e z.symm) (fun z => e z.symm) Iff.rfl]
theorem ts_lp : ∀ (l : List Int) (a : Int), ts a l = lp (a :: ddf a l)
  | [], _ => rfl
  | r :: l, a => by
    simp only [ts, ddf]
    by_cases e : a = r
    · rw [if_pos e, if_pos e.symm]
      exact ts_lp l a
    · rw [if_neg e, if_neg (show ¬ r = a from fun z => e z.symm)]
      rw [tq_lq l a a r (fun z => e z.symm) (fun z => e z.symm) Iff.rfl]
      rfl
theorem tp_lp (ns : List Int) : tp ns = lp (dd ns) := by
  cases ns with
  | nil => rfl
  | cons a l => exact ts_lp l a
/-- what the stack leaves, goes through the stack as it is -/
theorem tq_again : ∀ (l : List Int) (b a : Int), a ≠ b → ∃ x s, tq b a l = x :: s ∧ x ≠ b ∧ (x > b ↔ a > b) ∧ tq b x s = x :: s
  | [], b, a, h => ⟨a, [], rfl, h, Iff.rfl, rfl⟩
  | r :: l, b, a, h => by
    simp only [tq]
    by_cases e : a = r
    · rw [if_pos e]
      exact tq_again l b a h
    · rw [if_neg e]
      by_cases bt : Btw a b r
      · rw [if_pos bt]
        obtain ⟨x, s, h1, h2, h3, h4⟩ := tq_again l b r (by omega)
        exact ⟨x, s, h1, h2, by omega, h4⟩
      · rw [if_neg bt]
        obtain ⟨y, s, h1, h2, h3, h4⟩ := tq_again l a r (fun z => e z.symm)
        refine ⟨a, y :: s, by rw [h1], h, Iff.rfl, ?_⟩
        simp only [tq]
        have n1 : ¬ Btw a b y := by
          intro z
          have h6 : r > a ↔ y > a := h3.symm
          omega
        rw [if_neg (fun z : a = y => h2 z.symm), if_neg n1, h4]
theorem ts_again : ∀ (l : List Int) (a : Int), tp (ts a l) = ts a l
  | [], _ => rfl
  | r :: l, a => by
    simp only [ts]
    by_cases e : a = r
    · rw [if_pos e]
      exact ts_again l a
    · rw [if_neg e]
      obtain ⟨x, s, h1, h2, _, h4⟩ := tq_again l a r (fun z => e z.symm)
      rw [h1]
      show ts a (x :: s) = a :: x :: s
      simp only [ts]
      rw [if_neg (fun z : a = x => h2 z.symm), h4]
theorem tp_again (ns : List Int) : tp (tp ns) = tp ns := by
  cases ns with
  | nil => rfl
  | cons a l => exact ts_again l a
theorem tq_last : ∀ (l : List Int) (b a z : Int), (a :: l).getLast? = some z → tq b a (l ++ [z]) = tq b a l
  | [], b, a, z, h => by
    have e : a = z := Option.some.inj h
    subst e
    show tq b a [a] = [a]
    simp only [tq, if_true]
  | r :: l, b, a, z, h => by
    have h2 : (r :: l).getLast? = some z := by rw [List.getLast?_cons_cons] at h; exact h
    show tq b a (r :: (l ++ [z])) = tq b a (r :: l)
    simp only [tq]
    by_cases e : a = r
    · rw [if_pos e, if_pos e]
      subst e
      exact tq_last l b a z h2
    · rw [if_neg e, if_neg e, tq_last l b r z h2, tq_last l a r z h2]
theorem ts_last : ∀ (l : List Int) (a z : Int), (a :: l).getLast? = some z → ts a (l ++ [z]) = ts a l
  | [], a, z, h => by
    have e : a = z := Option.some.inj h
    subst e
    show ts a [a] = [a]
    simp only [ts, if_true]
  | r :: l, a, z, h => by
    have h2 : (r :: l).getLast? = some z := by rw [List.getLast?_cons_cons] at h; exact h
    show ts a (r :: (l ++ [z])) = ts a (r :: l)
    simp only [ts]
    by_cases e : a = r
    · rw [if_pos e, if_pos e]
      subst e
      exact ts_last l a z h2
    · rw [if_neg e, if_neg e, tq_last l a r z h2]
theorem tp_last (ns : List Int) (z : Int) (h : ns.getLast? = some z) : tp (ns ++ [z]) = tp ns := by
  cases ns with
  | nil => simp at h
  | cons a l => exact ts_last l a z h
/-- sizes and bounds -/
theorem tq_mem : ∀ (l : List Int) (b a x : Int), x ∈ tq b a l → x = a ∨ x ∈ l
  | [], _, _, x, h => .inl (List.mem_singleton.mp h)
  | r :: l, b, a, x, h => by
    simp only [tq] at h
    split at h
    · rcases tq_mem l b a x h with z | z
      · exact .inl z
      · exact .inr (List.mem_cons_of_mem _ z)
    · split at h
      · rcases tq_mem l b r x h with z | z
        · rw [z]; exact .inr List.mem_cons_self
        · exact .inr (List.mem_cons_of_mem _ z)
      · rcases List.mem_cons.mp h with z | z
        · exact .inl z
        · rcases tq_mem l a r x z with z | z
          · rw [z]; exact .inr List.mem_cons_self
          · exact .inr (List.mem_cons_of_mem _ z)
theorem tq_len : ∀ (l : List Int) (b a : Int), (tq b a l).length ≤ l.length + 1
  | [], _, _ => Nat.le_refl _
  | r :: l, b, a => by
    have h1 := tq_len l b a
    have h2 := tq_len l b r
    have h3 := tq_len l a r
    simp only [tq, List.length_cons]
    split
    · omega
    · split
      · omega
      · rw [List.length_cons]; omega
theorem ts_mem : ∀ (l : List Int) (a x : Int), x ∈ ts a l → x = a ∨ x ∈ l
  | [], _, x, h => .inl (List.mem_singleton.mp h)
  | r :: l, a, x, h => by
    simp only [ts] at h
    split at h
    · rcases ts_mem l a x h with z | z
      · exact .inl z
      · exact .inr (List.mem_cons_of_mem _ z)
    · rcases List.mem_cons.mp h with z | z
      · exact .inl z
      · rcases tq_mem l a r x z with z | z
        · rw [z]; exact .inr List.mem_cons_self
        · exact .inr (List.mem_cons_of_mem _ z)
theorem ts_len : ∀ (l : List Int) (a : Int), (ts a l).length ≤ l.length + 1
  | [], _ => Nat.le_refl _
  | r :: l, a => by
    have h1 := ts_len l a
    have h2 := tq_len l a r
    simp only [ts, List.length_cons]
    split
    · omega
    · rw [List.length_cons]; omega
theorem tp_mem {ns : List Int} {x : Int} (h : x ∈ tp ns) : x ∈ ns := by
  cases ns with
  | nil => exact h
  | cons a l =>
    rcases ts_mem l a x h with z | z
    · rw [z]; exact List.mem_cons_self
    · exact List.mem_cons_of_mem _ z
theorem tp_len (ns : List Int) : (tp ns).length ≤ ns.length := by
  cases ns with
  | nil => exact Nat.le_refl _
  | cons a l => exact ts_len l a
/-- the swings of turning points -/
def rg (a b : Int) : Int × Int := (if b < a then b else a, if b > a then b else a)
def sw : List Int → List (Int × Int)
  | x :: y :: l => rg x y :: sw (y :: l)
  | _ => []
theorem sw_len : ∀ ps : List Int, (sw ps).length = ps.length - 1
  | [] => rfl
  | [_] => rfl
  | x :: y :: l => by
    have := sw_len (y :: l)
    simp only [sw, List.length_cons] at this ⊢
    omega
theorem sw_take : ∀ (ps : List Int) (i : Nat) (x y : Int), ps[i]? = some x → ps[i + 1]? = some y → (sw ps).take (i + 1) = (sw ps).take i ++ [rg x y]
  | [], _, _, _, h, _ => by simp at h
  | [_], 0, _, _, _, h => by simp at h
  | [_], i + 1, _, _, h, _ => by simp at h
  | a :: b :: l, 0, x, y, h, h2 => by
    have e1 : a = x := Option.some.inj h
    have e2 : b = y := Option.some.inj h2
    subst e1 e2
    rfl
  | a :: b :: l, i + 1, x, y, h, h2 => by
    have ih := sw_take (b :: l) i x y h h2
    show rg a b :: (sw (b :: l)).take (i + 1) = rg a b :: (sw (b :: l)).take i ++ [rg x y]
    rw [ih]
    rfl
theorem sw_mem : ∀ (ps : List Int) (B : Nat), (∀ x ∈ ps, x.natAbs < B) → ∀ r ∈ sw ps, r.1.natAbs < B ∧ r.2.natAbs < B
  | [], _, _, r, h => by simp [sw] at h
  | [_], _, _, r, h => by simp [sw] at h
  | x :: y :: l, B, hb, r, h => by
    rcases List.mem_cons.mp (show r ∈ rg x y :: sw (y :: l) from h) with z | z
    · have h1 := hb x List.mem_cons_self
      have h2 := hb y (List.mem_cons_of_mem _ List.mem_cons_self)
      rw [z]
      unfold rg
      constructor <;> (dsimp only; split <;> assumption)
    · exact sw_mem (y :: l) B (fun x hx => hb x (List.mem_cons_of_mem _ hx)) r z
end PM

/-! points taken out, in any order: one count -/
namespace RM
open PM
/-- of four points in a row, the middle two may be taken out -/
abbrev Taken (a b c d : Int) : Prop := ((rg a b).1 ≤ (rg b c).1 ∧ (rg b c).2 ≤ (rg a b).2) ∧ ((rg c d).1 ≤ (rg b c).1 ∧ (rg b c).2 ≤ (rg c d).2)
/-- up and down by turns -/
def ZZ : List Int → Prop
  | x :: y :: z :: r => ((x < y ∧ z < y) ∨ (y < x ∧ y < z)) ∧ ZZ (y :: z :: r)
  | [x, y] => x ≠ y
  | _ => True
inductive Step : List Int → Int × Int → List Int → Prop
  | here {a b c d : Int} {post : List Int} : Taken a b c d → Step (a :: b :: c :: d :: post) (rg b c) (a :: d :: post)
  | there {x : Int} {p q : List Int} {cy : Int × Int} : Step p cy q → Step (x :: p) cy (x :: q)
theorem ZZ.tail {x : Int} : ∀ {p : List Int}, ZZ (x :: p) → ZZ p
  | [], _ => trivial
  | [_], _ => trivial
  | [y, z], h => by
    have h1 := h.1
    show y ≠ z
    omega
  | y :: z :: u :: r, h => h.2
theorem Step.head {x : Int} {p q : List Int} {cy : Int × Int} (h : Step (x :: p) cy q) : ∃ q', q = x :: q' := by
  cases h with
  | here _ => exact ⟨_, rfl⟩
  | there _ => exact ⟨_, rfl⟩
theorem Step.len {p q : List Int} {cy : Int × Int} (h : Step p cy q) : p.length = q.length + 2 := by
  induction h with
  | here _ => simp only [List.length_cons]
  | there _ ih => simp only [List.length_cons]; omega
theorem rg_up {a b : Int} (h : a < b) : rg a b = (a, b) := by unfold rg; rw [if_neg (by omega), if_pos (by omega)]
theorem rg_down {a b : Int} (h : b < a) : rg a b = (b, a) := by unfold rg; rw [if_pos h, if_neg (by omega)]
/-- among points that go up and down -/
theorem taken_iff {a b c d : Int} (h : ZZ (a :: b :: c :: d :: [])) : Taken a b c d ↔ (a < b ∧ c < b ∧ c < d ∧ a ≤ c ∧ b ≤ d) ∨ (b < a ∧ b < c ∧ d < c ∧ c ≤ a ∧ d ≤ b) := by
  have h1 := h.1
  have h2 := h.2.1
  unfold Taken
  rcases h1 with ⟨x, y⟩ | ⟨x, y⟩
  · have z : c < d := by omega
    rw [rg_up x, rg_down y, rg_up z]
    dsimp only
    omega
  · have z : d < c := by omega
    rw [rg_down x, rg_up y, rg_down z]
    dsimp only
    omega
theorem ZZ.four {a b c d : Int} {r : List Int} (h : ZZ (a :: b :: c :: d :: r)) : ZZ (a :: b :: c :: d :: []) := by
  refine ⟨h.1, h.2.1, ?_⟩
  have := h.2.1
  show c ≠ d
  omega
theorem zz_here {a b c d : Int} : ∀ {post : List Int}, ZZ (a :: b :: c :: d :: post) → Taken a b c d → ZZ (a :: d :: post)
  | [], h, t => by
    rcases (taken_iff h.four).mp t with z | z
    · show a ≠ d
      omega
    · show a ≠ d
      omega
  | e :: r, h, t => by
    have h3 := h.2.2.1
    refine ⟨?_, h.2.2.2⟩
    rcases (taken_iff h.four).mp t with z | z <;> omega
theorem zz_cons {x y : Int} {p : List Int} (h : ZZ (x :: y :: p)) : x ≠ y := by
  cases p with
  | nil => exact h
  | cons z r => have := h.1; omega
theorem ZZ.step {p q : List Int} {cy : Int × Int} (h : Step p cy q) : ZZ p → ZZ q := by
  induction h with
  | here t => exact fun z => zz_here z t
  | @there x p q cy h ih =>
    intro z
    have zq := ih z.tail
    cases h with
    | @here a b c d post t =>
      have z1 := z.1
      have ti := (taken_iff z.tail.four).mp t
      refine ⟨?_, zq⟩
      rcases ti with t | t <;> omega
    | @there y p' q' cy' h' =>
      cases q' with
      | nil =>
        have := h'.len
        exact zz_cons z
      | cons u v =>
        cases p' with
        | nil => have := h'.len; simp at this
        | cons u' v' =>
          obtain ⟨v'', e⟩ := h'.head
          have e1 : u = u' := (List.cons.inj e).1
          subst e1
          exact ⟨z.1, zq⟩
/-- two ways to go on meet again -/
theorem diamond {p p1 : List Int} {c1 : Int × Int} (h1 : Step p c1 p1) : ∀ {p2 : List Int} {c2 : Int × Int}, Step p c2 p2 → ZZ p → (c1 = c2 ∧ p1 = p2) ∨ ∃ p3, Step p1 c2 p3 ∧ Step p2 c1 p3 := by
  have key : ∀ {a b c d : Int} {post : List Int} {p2 : List Int} {c2 : Int × Int}, Taken a b c d → Step (b :: c :: d :: post) c2 p2 → ZZ (a :: b :: c :: d :: post) →
      (rg b c = c2 ∧ a :: d :: post = a :: p2) ∨ ∃ p3, Step (a :: d :: post) c2 p3 ∧ Step (a :: p2) (rg b c) p3 := by
    intro a b c d post p2 c2 t h z
    have t1 := (taken_iff z.four).mp t
    cases h with
    | @here _ _ _ e post' t2 =>
      have t3 := (taken_iff z.tail.four).mp t2
      have ebd : b = d := by omega
      subst ebd
      refine .inl ⟨?_, rfl⟩
      have z1 := z.1
      rcases z1 with ⟨x, y⟩ | ⟨x, y⟩
      · rw [rg_down y, rg_up y]
      · rw [rg_up y, rg_down y]
    | @there _ _ q2 _ h2 =>
      cases h2 with
      | @here _ _ e f post' t2 =>
        have t3 := (taken_iff z.tail.tail.four).mp t2
        have za : ZZ (a :: d :: e :: f :: post') := zz_here z t
        have zb : ZZ (a :: b :: c :: f :: post') := ZZ.step (.there (.there (.here t2))) z
        exact .inr ⟨a :: f :: post', .here ((taken_iff za.four).mpr (by omega)), .here ((taken_iff zb.four).mpr (by omega))⟩
      | @there _ _ q3 _ h3 =>
        obtain ⟨q4, rfl⟩ := h3.head
        exact .inr ⟨a :: d :: q4, .there h3, .here t⟩
  induction h1 with
  | @here a b c d post t =>
    intro p2 c2 h2 z
    cases h2 with
    | here _ => exact .inl ⟨rfl, rfl⟩
    | @there _ _ q2 _ h2 => exact key t h2 z
  | @there x p q cy h1 ih =>
    intro p2 c2 h2 z
    cases h2 with
    | @here a b c d post t =>
      rcases key t h1 z with ⟨e1, e2⟩ | ⟨p3, s1, s2⟩
      · exact .inl ⟨e1.symm, e2.symm⟩
      · exact .inr ⟨p3, s2, s1⟩
    | @there _ _ q2 _ h2 =>
      rcases ih h2 z.tail with ⟨e1, e2⟩ | ⟨p3, s1, s2⟩
      · exact .inl ⟨e1, by rw [e2]⟩
      · exact .inr ⟨x :: p3, .there s1, .there s2⟩
inductive Run : List Int → List (Int × Int) → List Int → Prop
  | nil (p : List Int) : Run p [] p
  | cons {p q r : List Int} {c : Int × Int} {cs : List (Int × Int)} : Step p c q → Run q cs r → Run p (c :: cs) r
/-- nothing can be taken out -/
def NF (p : List Int) : Prop := ∀ c q, ¬ Step p c q
theorem Run.snoc {p q r : List Int} {c : Int × Int} {cs : List (Int × Int)} (h : Run p cs q) (s : Step q c r) : Run p (cs ++ [c]) r := by
  induction h with
  | nil p => exact .cons s (.nil _)
  | cons h1 _ ih => exact .cons h1 (ih s)
theorem Run.zz {p q : List Int} {cs : List (Int × Int)} (h : Run p cs q) : ZZ p → ZZ q := by
  induction h with
  | nil p => exact id
  | cons h1 _ ih => exact fun z => ih (ZZ.step h1 z)
theorem Run.len {p q : List Int} {cs : List (Int × Int)} (h : Run p cs q) : p.length = q.length + 2 * cs.length := by
  induction h with
  | nil p => simp
  | cons h1 _ ih => have := h1.len; rw [List.length_cons]; omega
theorem ends : ∀ (n : Nat) (p : List Int), p.length ≤ n → ∃ cs r, Run p cs r ∧ NF r
  | 0, p, h => ⟨[], p, .nil p, fun c q s => by have := s.len; omega⟩
  | n + 1, p, h => by
    by_cases e : ∃ c q, Step p c q
    · obtain ⟨c, q, s⟩ := e
      have := s.len
      obtain ⟨cs, r, h1, h2⟩ := ends n q (by omega)
      exact ⟨c :: cs, r, .cons s h1, h2⟩
    · exact ⟨[], p, .nil p, fun c q s => e ⟨c, q, s⟩⟩
/-- in whatever order points are taken out, the same cycles and the same rest come out -/
theorem unique : ∀ (n : Nat) (p : List Int), p.length ≤ n → ZZ p → ∀ {cs ds : List (Int × Int)} {r s : List Int}, Run p cs r → NF r → Run p ds s → NF s → r = s ∧ cs.Perm ds := by
  intro n
  induction n with
  | zero =>
    intro p hp z cs ds r s h1 n1 h2 n2
    cases h1 with
    | nil _ => cases h2 with
      | nil _ => exact ⟨rfl, .nil⟩
      | cons s2 _ => exact absurd s2 (n1 _ _)
    | cons s1 _ => have := s1.len; omega
  | succ n ih =>
    intro p hp z cs ds r s h1 n1 h2 n2
    cases h1 with
    | nil _ => cases h2 with
      | nil _ => exact ⟨rfl, .nil⟩
      | cons s2 _ => exact absurd s2 (n1 _ _)
    | @cons _ q1 _ c1 cs' s1 r1 =>
      cases h2 with
      | nil _ => exact absurd s1 (n2 _ _)
      | @cons _ q2 _ c2 ds' s2 r2 =>
        have l1 := s1.len
        have l2 := s2.len
        rcases diamond s1 s2 z with ⟨e1, e2⟩ | ⟨p3, t1, t2⟩
        · subst e1 e2
          obtain ⟨e, pm⟩ := ih q1 (by omega) (ZZ.step s1 z) r1 n1 r2 n2
          exact ⟨e, pm.cons _⟩
        · obtain ⟨es, t, r3, n3⟩ := ends p3.length p3 (Nat.le_refl _)
          obtain ⟨e1, m1⟩ := ih q1 (by omega) (ZZ.step s1 z) r1 n1 (.cons t1 r3) n3
          obtain ⟨e2, m2⟩ := ih q2 (by omega) (ZZ.step s2 z) r2 n2 (.cons t2 r3) n3
          refine ⟨e1.trans e2.symm, ?_⟩
          exact ((m1.cons c1).trans (.swap c2 c1 es)).trans (m2.symm.cons c2)
theorem one_count {p : List Int} (z : ZZ p) {cs ds : List (Int × Int)} {r s : List Int} (h1 : Run p cs r) (n1 : NF r) (h2 : Run p ds s) (n2 : NF s) : r = s ∧ cs.Perm ds := unique p.length p (Nat.le_refl _) z h1 n1 h2 n2
/-! ### the stack's way -/
theorem Step.suffix {p q : List Int} {cy : Int × Int} (h : Step p cy q) (l : List Int) : Step (p ++ l) cy (q ++ l) := by
  induction h with
  | here t => exact .here t
  | there _ ih => exact .there ih
theorem Step.prefix {p q : List Int} {cy : Int × Int} (h : Step p cy q) : ∀ l : List Int, Step (l ++ p) cy (l ++ q)
  | [] => h
  | x :: l => .there (h.prefix l)
theorem step_last {p : List Int} {cy : Int × Int} {q : List Int} (h : Step p cy q) : ∀ {m : List Int} {x : Int}, p = m ++ [x] → (∃ q', Step m cy q' ∧ q = q' ++ [x]) ∨ ∃ pre a b c, p = pre ++ [a, b, c, x] ∧ Taken a b c x := by
  induction h with
  | @here a b c d post t =>
    intro m x e
    rcases List.eq_nil_or_concat post with rfl | ⟨post', y, rfl⟩
    · have e2 : [a, b, c] ++ [d] = m ++ [x] := e
      obtain ⟨_, e4⟩ := List.append_inj' e2 rfl
      have e5 : d = x := (List.cons.inj e4).1
      subst e5
      exact .inr ⟨[], a, b, c, rfl, t⟩
    · have e2 : (a :: b :: c :: d :: post') ++ [y] = m ++ [x] := by rw [← e]; simp
      obtain ⟨e3, e4⟩ := List.append_inj' e2 rfl
      have e5 : y = x := (List.cons.inj e4).1
      subst e5 e3
      exact .inl ⟨a :: d :: post', .here t, by simp⟩
  | @there y p q cy h ih =>
    intro m x e
    cases m with
    | nil =>
      have e2 : p = [] := (List.cons.inj e).2
      subst e2
      cases h
    | cons y' m' =>
      obtain ⟨e1, e2⟩ := List.cons.inj e
      subst e1
      rcases ih e2 with ⟨q', s, e3⟩ | ⟨pre, a, b, c, e3, t⟩
      · exact .inl ⟨y :: q', .there s, by rw [e3]; rfl⟩
      · exact .inr ⟨y :: pre, a, b, c, by rw [e3]; rfl, t⟩
theorem nf_push {m : List Int} {x : Int} (h : NF m) (n : ∀ pre a b c, m ++ [x] = pre ++ [a, b, c, x] → ¬ Taken a b c x) : NF (m ++ [x]) := by
  intro cy q s
  rcases step_last s rfl with ⟨q', s', _⟩ | ⟨pre, a, b, c, e, t⟩
  · exact h _ _ s'
  · exact n pre a b c e t
theorem nf_prefix {m l : List Int} (h : NF (m ++ l)) : NF m := fun cy q s => h _ _ (s.suffix l)
/-- turning points go up and down -/
theorem tq_zz : ∀ (l : List Int) (b a : Int), a ≠ b → ∃ x s, tq b a l = x :: s ∧ (x > b ↔ a > b) ∧ x ≠ b ∧ ZZ (b :: x :: s)
  | [], b, a, h => ⟨a, [], rfl, Iff.rfl, h, fun z => h z.symm⟩
  | r :: l, b, a, h => by
    simp only [tq]
    by_cases e : a = r
    · rw [if_pos e]
      exact tq_zz l b a h
    · rw [if_neg e]
      by_cases bt : Btw a b r
      · rw [if_pos bt]
        obtain ⟨x, s, h1, h2, h3, h4⟩ := tq_zz l b r (by omega)
        exact ⟨x, s, h1, by omega, h3, h4⟩
      · rw [if_neg bt]
        obtain ⟨y, s, h1, h2, h3, h4⟩ := tq_zz l a r (fun z => e z.symm)
        refine ⟨a, y :: s, by rw [h1], Iff.rfl, h, ?_, h4⟩
        have h5 : y > a ↔ r > a := h2
        omega
theorem ts_zz : ∀ (l : List Int) (a : Int), ZZ (ts a l)
  | [], _ => trivial
  | r :: l, a => by
    simp only [ts]
    by_cases e : a = r
    · rw [if_pos e]
      exact ts_zz l a
    · rw [if_neg e]
      obtain ⟨x, s, h1, _, _, h4⟩ := tq_zz l a r (fun z => e z.symm)
      rw [h1]
      exact h4
theorem tp_zz (ns : List Int) : ZZ (tp ns) := by
  cases ns with
  | nil => exact trivial
  | cons a l => exact ts_zz l a
end RM

/-! heaps; the texts of data; a walk over two tuples -/
namespace KA
open PySem PySem.Spec PyProof.Rows L2
theorem same_new {H : Hp} {p : Addr} {o : HO} (h : H p = none) : Same H (upd H p o) := fun b x e => by
  rw [upd_ne (ne_of_none e h)]
  exact e
theorem same_again {H0 H : Hp} {p : Addr} {o : HO} (h : H0 p = none) (s : Same H0 H) : Same H0 (upd H p o) := fun b x e => by
  rw [upd_ne (ne_of_none e h)]
  exact s b x e
theorem SqT_same {K : PySem.W.Frag} {H H' : Hp} {a : Addr} {xs : List V} (e : Same H H') (h : SqT K H a xs) : SqT K H' a xs := by
  rcases h with (h | ⟨o, h⟩) | h
  · exact .inl (.inl (e _ _ h))
  · exact .inl (.inr ⟨o, e _ _ h⟩)
  · exact .inr h
theorem int_at {ns : List Int} {i : Nat} {x : V} (h : (ns.map V.int)[i]? = some x) : ∃ r, ns[i]? = some r ∧ x = .int r := by
  rw [List.getElem?_map] at h
  cases e : ns[i]? with
  | none => rw [e] at h; cases h
  | some r => rw [e] at h; exact ⟨r, rfl, (Option.some.inj h).symm⟩
theorem small3000 {n : Nat} (h : n ≤ 3000) : n < sizeLine := Nat.lt_of_le_of_lt h (by decide)
theorem at_int {ns : List Int} {i : Nat} {r : Int} (h : ns[i]? = some r) : (ns.map V.int)[i]? = some (.int r) := by
  rw [List.getElem?_map, h]
  rfl
end KA
namespace KB
end KB
namespace PH
open PySem PySem.Spec PyProof.Rows L2 KA
/-- a list or a tuple of xs stands at a -/
def Sq (K : PySem.W.Frag) (H : Hp) (a : Addr) (xs : List V) : Prop := SqL K H a xs ∨ SqT K H a xs
theorem Sq.same {K : PySem.W.Frag} {H H' : Hp} {a : Addr} {xs : List V} (h : Sq K H a xs) (e : Same H H') : Sq K H' a xs := h.elim (fun z => .inl (e.seq z)) (fun z => .inr (SqT_same e z))
/-- pairs of ints stand at the refs of xs -/
def PairsAt (H : Hp) : List V → List (Int × Int) → Prop
  | [], [] => True
  | x :: xs, r :: rs => (∃ p, x = .ref p ∧ H p = some (.tup [.int r.1, .int r.2])) ∧ PairsAt H xs rs
  | _, _ => False
theorem PairsAt.same {H H' : Hp} (e : Same H H') : ∀ {xs : List V} {rs : List (Int × Int)}, PairsAt H xs rs → PairsAt H' xs rs
  | [], [], _ => trivial
  | x :: xs, r :: rs, ⟨⟨p, h1, h2⟩, h3⟩ => ⟨⟨p, h1, e _ _ h2⟩, PairsAt.same e h3⟩
  | [], _ :: _, h => h.elim
  | _ :: _, [], h => h.elim
theorem PairsAt.length {H : Hp} : ∀ {xs : List V} {rs : List (Int × Int)}, PairsAt H xs rs → xs.length = rs.length
  | [], [], _ => rfl
  | x :: xs, r :: rs, ⟨_, h3⟩ => by rw [List.length_cons, List.length_cons, PairsAt.length h3]
  | [], _ :: _, h => h.elim
  | _ :: _, [], h => h.elim
theorem PairsAt.append {H : Hp} : ∀ {xs ys : List V} {rs ss : List (Int × Int)}, PairsAt H xs rs → PairsAt H ys ss → PairsAt H (xs ++ ys) (rs ++ ss)
  | [], _, [], _, _, h => h
  | x :: xs, _, r :: rs, _, ⟨h1, h2⟩, h => ⟨h1, PairsAt.append h2 h⟩
  | [], _, _ :: _, _, h, _ => h.elim
  | _ :: _, _, [], _, h, _ => h.elim
theorem PairsAt.take {H : Hp} : ∀ {xs : List V} {rs : List (Int × Int)} (n : Nat), PairsAt H xs rs → PairsAt H (xs.take n) (rs.take n)
  | [], [], n, _ => by simp [PairsAt]
  | x :: xs, r :: rs, 0, _ => trivial
  | x :: xs, r :: rs, n + 1, ⟨h1, h2⟩ => ⟨h1, PairsAt.take n h2⟩
  | [], _ :: _, _, h => h.elim
  | _ :: _, [], _, h => h.elim
theorem PairsAt.get {H : Hp} : ∀ {xs : List V} {rs : List (Int × Int)} {i : Nat} {x : V}, PairsAt H xs rs → xs[i]? = some x → ∃ p a b, x = .ref p ∧ H p = some (.tup [.int a, .int b])
  | x :: xs, r :: rs, 0, y, ⟨⟨p, h1, h2⟩, _⟩, e => ⟨p, r.1, r.2, by rw [← h1]; exact (Option.some.inj e).symm, h2⟩
  | x :: xs, r :: rs, i + 1, y, ⟨_, h⟩, e => PairsAt.get h e
  | [], [], i, y, _, e => by simp at e
  | [], _ :: _, _, _, h, _ => h.elim
  | _ :: _, [], _, _, h, _ => h.elim
/-! ### data -/
def dInts (ns : List Int) : List PyData := ns.map PyData.int
def dPairs (rs : List (Int × Int)) : List PyData := rs.map fun r => .tuple [.int r.1, .int r.2]
theorem dp_ints {K : PySem.W.Frag} {H : Hp} : ∀ ns : List Int, DpAll K H (ns.map V.int) (dInts ns)
  | [] => .nil
  | n :: ns => .cons (.int n) (dp_ints ns)
theorem dp_pairs {K : PySem.W.Frag} {H : Hp} : ∀ {xs : List V} {rs : List (Int × Int)}, PairsAt H xs rs → DpAll K H xs (dPairs rs)
  | [], [], _ => .nil
  | x :: xs, r :: rs, ⟨⟨p, h1, h2⟩, h3⟩ => by
    subst h1
    exact .cons (.tup (SqT.of h2) (.cons (.int _) (.cons (.int _) .nil))) (dp_pairs h3)
  | [], _ :: _, h => h.elim
  | _ :: _, [], h => h.elim
theorem lay_ints : ∀ ns : List Int, PyData.canLayAll0 (dInts ns) = true
  | [] => rfl
  | n :: ns => by
    show (PyData.canLay0 (.int n) && PyData.canLayAll0 (dInts ns)) = true
    rw [lay_ints ns]
    simp only [PyData.canLay0, Bool.and_true]
theorem lay_pairs : ∀ rs : List (Int × Int), PyData.canLayAll0 (dPairs rs) = true
  | [] => rfl
  | r :: rs => by
    show (PyData.canLay0 (.tuple [.int r.1, .int r.2]) && PyData.canLayAll0 (dPairs rs)) = true
    rw [lay_pairs rs]
    simp only [PyData.canLay0, PyData.canLayAll0, Bool.and_true]
theorem depth_pairs : ∀ rs : List (Int × Int), PyData.depthAll (dPairs rs) ≤ 3
  | [] => Nat.zero_le _
  | r :: rs => by
    have h := depth_pairs rs
    show max (PyData.depth (.tuple [.int r.1, .int r.2])) (PyData.depthAll (dPairs rs)) ≤ 3
    simp only [PyData.depth, PyData.depthAll]
    omega
theorem shaped_of {d : PyData} (h1 : d.canLay0 = true) (h2 : d.depth ≤ 64) : SeqAt.shaped d = true := by
  unfold SeqAt.shaped
  rw [h1, decide_eq_true h2]
  rfl
theorem shaped_lst (ns : List Int) : SeqAt.shaped (.list (dInts ns)) = true :=
  shaped_of (by simp only [PyData.canLay0, lay_ints]) (by have := KG.depth_all ns; show PyData.depth (.list (ns.map PyData.int)) ≤ 64; simp only [PyData.depth]; omega)
theorem shaped_tup (ns : List Int) : SeqAt.shaped (.tuple (dInts ns)) = true :=
  shaped_of (by simp only [PyData.canLay0, lay_ints]) (by have := KG.depth_all ns; show PyData.depth (.tuple (ns.map PyData.int)) ≤ 64; simp only [PyData.depth]; omega)
theorem shaped_prs (rs : List (Int × Int)) : SeqAt.shaped (.list (dPairs rs)) = true :=
  shaped_of (by simp only [PyData.canLay0, lay_pairs]) (by have := depth_pairs rs; simp only [PyData.depth]; omega)
theorem eqv_same {d : PyData} (h : SeqAt.shaped d = true) : PyData.eqv d d = true := by
  refine SeqAt.eqv_refl d ?_
  unfold SeqAt.shaped at h
  rw [Bool.and_eq_true] at h
  exact h.1
/-- what repr asks of data -/
structure Nice (d : PyData) : Prop where
  show' : d.showable = true
  dict : d.hasDict = false
  depth : d.depth ≤ 10
  fits : d.shown.length ≤ sizeLine
theorem nice_lst {ns : List Int} (h : ∀ n ∈ ns, n.natAbs < 2 ^ 39) (hl : ns.length ≤ 2000) : Nice (.list (dInts ns)) :=
  ⟨by simp only [PyData.showable]; exact KG.show_all ns fun m hm => Nat.lt_trans (h m hm) (by decide), by simp only [PyData.hasDict]; exact KG.nodict_all ns,
    by have := KG.depth_all ns; show PyData.depth (.list (ns.map PyData.int)) ≤ 10; simp only [PyData.depth]; omega, KG.repr_fits h hl⟩
theorem nice_tup {ns : List Int} (h : ∀ n ∈ ns, n.natAbs < 2 ^ 39) (hl : ns.length ≤ 2000) : Nice (.tuple (dInts ns)) :=
  ⟨by simp only [PyData.showable]; exact KG.show_all ns fun m hm => Nat.lt_trans (h m hm) (by decide), by simp only [PyData.hasDict]; exact KG.nodict_all ns,
    by have := KG.depth_all ns; show PyData.depth (.tuple (ns.map PyData.int)) ≤ 10; simp only [PyData.depth]; omega, by
      refine PyData.shown_fits (B := 13) (by decide) (by decide) ?_ ?_
      · simp only [PyData.leavesShort]
        exact KG.leaves_all ns fun n hn => Nat.lt_trans (h n hn) (by decide)
      · have := KG.weight_all ns h
        show PyData.weight (.tuple (ns.map PyData.int)) ≤ _
        simp only [PyData.weight]
        omega⟩
theorem leaf_int {a : Int} (h : a.natAbs < 2 ^ 39) : PyData.leavesShort 13 (.int a) = true := by
  have := KG.leaves_all [a] fun n hn => by rw [List.mem_singleton.mp hn]; exact Nat.lt_trans h (by decide)
  simpa only [List.map_cons, List.map_nil, PyData.leavesShortAll, Bool.and_true] using this
theorem show_int {a : Int} (h : a.natAbs < 2 ^ 39) : PyData.showable (.int a) = true := by
  have := KG.show_all [a] fun n hn => by rw [List.mem_singleton.mp hn]; exact Nat.lt_trans h (by decide)
  simpa only [List.map_cons, List.map_nil, PyData.showableAll, Bool.and_true] using this
theorem weight_int {a : Int} (h : a.natAbs < 2 ^ 39) : PyData.weight (.int a) + 1 ≤ 60 := by
  have := KG.weight_all [a] fun n hn => by rw [List.mem_singleton.mp hn]; exact h
  simp only [List.map_cons, List.map_nil, PyData.weightAll, List.length_singleton] at this
  omega
theorem pairs_show : ∀ rs : List (Int × Int), (∀ r ∈ rs, r.1.natAbs < 2 ^ 39 ∧ r.2.natAbs < 2 ^ 39) → PyData.showableAll (dPairs rs) = true
  | [], _ => rfl
  | r :: rs, h => by
    have h1 := h r List.mem_cons_self
    show (PyData.showable (.tuple [.int r.1, .int r.2]) && PyData.showableAll (dPairs rs)) = true
    rw [pairs_show rs fun x hx => h x (List.mem_cons_of_mem _ hx)]
    have e1 := show_int h1.1
    have e2 := show_int h1.2
    simp only [PyData.showable, PyData.showableAll] at e1 e2 ⊢
    rw [e1, e2]
    rfl
theorem pairs_dict : ∀ rs : List (Int × Int), PyData.hasDictAll (dPairs rs) = false
  | [] => rfl
  | r :: rs => by
    show (PyData.hasDict (.tuple [.int r.1, .int r.2]) || PyData.hasDictAll (dPairs rs)) = false
    rw [pairs_dict rs]
    simp only [PyData.hasDict, PyData.hasDictAll, Bool.or_self]
theorem pairs_leaves : ∀ rs : List (Int × Int), (∀ r ∈ rs, r.1.natAbs < 2 ^ 39 ∧ r.2.natAbs < 2 ^ 39) → PyData.leavesShortAll 13 (dPairs rs) = true
  | [], _ => rfl
  | r :: rs, h => by
    have h1 := h r List.mem_cons_self
    show (PyData.leavesShort 13 (.tuple [.int r.1, .int r.2]) && PyData.leavesShortAll 13 (dPairs rs)) = true
    rw [pairs_leaves rs fun x hx => h x (List.mem_cons_of_mem _ hx)]
    have e : PyData.leavesShort 13 (.tuple [.int r.1, .int r.2]) = PyData.leavesShortAll 13 [.int r.1, .int r.2] := by simp only [PyData.leavesShort]
    have e' : PyData.leavesShortAll 13 [.int r.1, .int r.2] = (PyData.leavesShort 13 (.int r.1) && (PyData.leavesShort 13 (.int r.2) && true)) := by simp only [PyData.leavesShortAll]
    rw [e, e', leaf_int h1.1, leaf_int h1.2]
    rfl
theorem pairs_weight : ∀ rs : List (Int × Int), (∀ r ∈ rs, r.1.natAbs < 2 ^ 39 ∧ r.2.natAbs < 2 ^ 39) → PyData.weightAll (dPairs rs) ≤ 130 * rs.length
  | [], _ => Nat.le_refl _
  | r :: rs, h => by
    have h1 := h r List.mem_cons_self
    have h2 := pairs_weight rs fun x hx => h x (List.mem_cons_of_mem _ hx)
    have w1 := weight_int h1.1
    have w2 := weight_int h1.2
    have e : PyData.weightAll (dPairs (r :: rs)) = PyData.weight (.tuple [.int r.1, .int r.2]) + 1 + PyData.weightAll (dPairs rs) := by
      show PyData.weightAll (_ :: _) = _
      simp only [PyData.weightAll]
      rfl
    have e2 : PyData.weight (.tuple [.int r.1, .int r.2]) = PyData.weight (.int r.1) + 1 + (PyData.weight (.int r.2) + 1 + 0) := by simp only [PyData.weight, PyData.weightAll]
    rw [e, e2, List.length_cons]
    omega
theorem nice_prs {rs : List (Int × Int)} (h : ∀ r ∈ rs, r.1.natAbs < 2 ^ 39 ∧ r.2.natAbs < 2 ^ 39) (hl : rs.length ≤ 2000) : Nice (.list (dPairs rs)) :=
  ⟨by simp only [PyData.showable]; exact pairs_show rs h, by simp only [PyData.hasDict]; exact pairs_dict rs, by have := depth_pairs rs; simp only [PyData.depth]; omega, by
    refine PyData.shown_fits (B := 13) (by decide) (by decide) ?_ ?_
    · simp only [PyData.leavesShort]
      exact pairs_leaves rs h
    · have := pairs_weight rs h
      simp only [PyData.weight]
      omega⟩
section
variable {X : Cx}
/-- repr of data at an address, while no repr is under way -/
def rReprD (K : PySem.W.Frag) : List V → Hp → VK → Prop := fun vs H Q => ∃ (a : Addr) (d : PyData), vs = [V.ref a] ∧ Dp K H (.ref a) d ∧ Nice d ∧ Q (.str d.shown) H
theorem cr_reprD (hg : X.A.guards = some []) (hu : X.A.units + 100 < cLine) : CallR X (.builtin "repr") (rReprD X.K) := by
  intro pins s σ H vs us Q I r h
  obtain ⟨a, d, rfl, hd, nc, q⟩ := h
  rw [Vals.ref1 r]
  obtain ⟨as, rd⟩ := Dp.reads I d (.ref a) (.ref a) hd rfl
  refine repr_of_reads' rd nc.show' (PyData.noDict_hsm nc.dict) hg (by have := nc.depth; omega) (fun _ _ e => e) (fun g u tk k => ?_) nc.fits
  exact ⟨.str d.shown, H, I.kept k, ⟨u, rfl⟩, q⟩
theorem cr_reprB : CallR X (.builtin "repr") (fun vs H Q => ∃ b : Bool, vs = [V.bl b] ∧ Q (.str (if b = true then "True" else "False")) H) := by
  intro pins s σ H vs us Q I r h
  obtain ⟨b, rfl, q⟩ := h
  obtain ⟨u, rfl, ru⟩ := vals1 r
  cases ru
  exact PySem.P.repr_of_bool ⟨.str _, H, I.tok _, ⟨_, rfl⟩, q⟩
end
section
variable {K : PySem.W.Frag} {a b : Addr} {xs ys : List V}
theorem walk_tups {n : Nat} (hn : n = min xs.length ys.length) : Walk (RZ.ItzT K a b) n (fun H => SqT K H a xs ∧ SqT K H b ys) (YPair (fun i => xs[i]?) (fun i => ys[i]?)) := by
  refine ⟨fun i H hi q => ⟨xs, ys, xs[i]'(by omega), ys[i]'(by omega), q.1, q.2, List.getElem?_eq_getElem (by omega), List.getElem?_eq_getElem (by omega)⟩, fun H q => ⟨xs, ys, q.1, q.2, by omega⟩, fun i H v H' _ q y => ?_⟩
  obtain ⟨T, x, z, h1, h2, h3, h4, h5⟩ := y
  exact ⟨T, x, z, h1, h2, h3, h4 xs q.1, h5 ys q.2⟩
end
/-- two promises of one def -/
theorem both {P : Program} {w : World} {K : PySem.W.Frag} {mg : Str → Option Value} {base : Heap} {CX : CXT} {k : Nat} {f : Addr} {fd : FuncData} {ps : List Str} {sp sp' : Sp}
    (F : FnOk P w K mg base CX k f fd ps sp) (G : FnOk P w K mg base CX k f fd ps sp') : FnOk P w K mg base CX k f fd ps (fun vs H Q E => sp vs H Q E ∨ sp' vs H Q E) :=
  ⟨fun vs H Q E h => h.elim (F.len vs H Q E) (G.len vs H Q E), fun A outer s H args us vs Q E hr e0 hb r h => h.elim (F.run A outer s H args us vs Q E hr e0 hb r) (G.run A outer s H args us vs Q E hr e0 hb r)⟩
end PH

namespace KA
open PySem PySem.Spec PyProof.Rows L2
def topS (i : Nat) : Stmt := PySem.Challenge.pw_wearswings_k56_values_that_are_matchings.main.body.getD i (.Pass ⟨0, 0, 0, 0⟩)
end KA
namespace KD
open PySem PySem.Spec PyProof.Rows L2 KA
abbrev sFeed : Stmt := topS 20
abbrev sTake : Stmt := topS 21
abbrev sPick : Stmt := topS 22
theorem scFeed : FnScope ["script", "index", "cell", "great"] ["script", "index"] (defScope sFeed) := ⟨rfl, rfl, rfl, by decide +kernel, rfl, by decide +kernel, by decide +kernel⟩
theorem scTake : FnScope ["feed", "size", "digit"] ["feed", "size"] (defScope sTake) := ⟨rfl, rfl, rfl, by decide +kernel, rfl, by decide +kernel, by decide +kernel⟩
theorem scPick : FnScope ["feed", "options"] ["feed", "options"] (defScope sPick) := ⟨rfl, rfl, rfl, by decide +kernel, rfl, by decide +kernel, by decide +kernel⟩
/-- a feed stands at p -/
def FeedAt (H : Hp) (p : Addr) : Prop := ∃ d st : Int, 0 ≤ d ∧ 0 ≤ st ∧ st < 2305843009213693951 ∧ H p = some (.lst [.int d, .int st])
/-- all that was tracked is as it was, but what stands at f -/
def Ch (f : Addr) (H H' : Hp) : Prop := ∀ b o, b ≠ f → H b = some o → H' b = some o
theorem Ch.refl (f : Addr) (H : Hp) : Ch f H H := fun _ _ _ e => e
theorem Ch.trans {f : Addr} {H H1 H2 : Hp} (a : Ch f H H1) (b : Ch f H1 H2) : Ch f H H2 := fun c o n e => b c o n (a c o n e)
theorem Ch.of_same {f : Addr} {H H' : Hp} (s : Same H H') : Ch f H H' := fun c o _ e => s c o e
theorem Ch.put {f : Addr} {H : Hp} {o : HO} : Ch f H (upd H f o) := fun b x n e => by rw [upd_ne n]; exact e
theorem Ch.new {f p : Addr} {H : Hp} {o : HO} (h : H p = none) : Ch f H (upd H p o) := .of_same (same_new h)
theorem Ch.again {f p : Addr} {H0 H : Hp} {o : HO} (h : H0 p = none) (c : Ch f H0 H) : Ch f H0 (upd H p o) := fun b x n e => by
  rw [upd_ne (ne_of_none e h)]
  exact c b x n e
theorem Ch.free {f p : Addr} {H H' : Hp} (c : Ch f H H') (n : p ≠ f) (h : H' p = none) : H p = none := by
  cases e : H p with
  | none => rfl
  | some o =>
    rw [c p o n e] at h
    cases h
theorem Ch.seq {K : PySem.W.Frag} {f : Addr} {H H' : Hp} {a : Addr} {xs : List V} (c : Ch f H H') (n : a ≠ f) (h : SqL K H a xs) : SqL K H' a xs := by
  rcases h with (h | ⟨o, h⟩) | h
  · exact .inl (.inl (c _ _ n h))
  · exact .inl (.inr ⟨o, c _ _ n h⟩)
  · exact .inr h
/-- what stood ahead of the feed is as it was -/
theorem Ch.old {f : Addr} {H0 H H' : Hp} (c : Ch f H H') (hf : H0 f = none) (s : Same H0 H) : Same H0 H' := fun b o e => c b o (ne_of_none e hf) (s b o e)
theorem FeedAt.ne {H : Hp} {f p : Addr} (h : FeedAt H f) (n : H p = none) : p ≠ f := by
  obtain ⟨d, st, _, _, _, e⟩ := h
  exact fun z => by rw [z, e] at n; cases n
theorem FeedAt.upd {H : Hp} {f p : Addr} {o : HO} (h : FeedAt H f) (n : p ≠ f) : FeedAt (upd H p o) f := by
  obtain ⟨d, st, h1, h2, h3, e⟩ := h
  exact ⟨d, st, h1, h2, h3, by rw [upd_ne n.symm]; exact e⟩
theorem FeedAt.same {H H' : Hp} {f : Addr} (h : FeedAt H f) (s : Same H H') : FeedAt H' f := by
  obtain ⟨d, st, h1, h2, h3, e⟩ := h
  exact ⟨d, st, h1, h2, h3, s _ _ e⟩
section
variable {P : Program} {w : World} {K : PySem.W.Frag} {mg : Str → Option Value} {base : Heap}
def spFeed (K : PySem.W.Frag) : Sp := fun vs H Q _ => ∃ (a : Addr) (ns : List Int) (k : Int), vs = [.ref a, .int k] ∧ SqL K H a (ns.map V.int) ∧ 0 ≤ k ∧ k ≤ 100 ∧
  ∀ H' p, Same H H' → H p = none → FeedAt H' p → Q (.ref p) H'
theorem ok_feed {f : Addr} {fd : FuncData} {k : Nat} (F : Fun K "_law_feed" "_law_feed" sFeed f fd) (ml : mg "len" = none) (mm : mg "max" = none) (ma : mg "abs" = none) : FnOk P w K mg base CX0 (k + 1) f fd ["script", "index"] (spFeed K) := by
  refine F.ok scFeed (fun vs H Q E h => ?_) (fun cdv A outer s H vs Q E hr h => ?_)
  · obtain ⟨a, ns, z, rfl, _⟩ := h
    rfl
  · obtain ⟨a, ns, z, rfl, hS, h0, h1, q⟩ := h
    refine ⟨_, pss_cons (ps_set (i := 2) scFeed.nd rfl (.inl rfl) (pe_ifExp (pt_cmpR op_lt (pv 1) (pe_callB call_len_seq (by rfl) ml PySem.boot_len (pa_cons (pv 0) pa_nil)) (nomark _)) (pe_ix ix_list (pv 0) (pv 1) (fun _ _ => rfl)) (pe_op op_add (pe_op op_mul pe_int (pv 1)) pe_int)))
      (pss_cons (ps_set (i := 3) scFeed.nd rfl (.inl rfl) (pe_op op_sub (pe_callB call_abs (by rfl) ma (by decide +kernel) (pa_cons (pv 2) pa_nil)) (pe_op op_pow pe_int pe_int)))
      (pss_one (ps_ret (pe_lst (pa_cons (pe_callB (call_max2 rfl) (by rfl) mm (by decide +kernel) (pa_cons pe_int (pa_cons (pv 3) pa_nil))) (pa_cons (pe_op op_mod (pe_op op_add (pe_op op_mul (pv 2) pe_int) (pe_op op_mul pe_int (pe_op op_add (pv 1) pe_int))) pe_int) pa_nil)))))), ?_⟩
    refine ⟨.int z, rfl, .ref a, rfl, a, ns.map V.int, rfl, .inl hS, z, _, rfl, rfl, _, rfl, ite2 (fun e => ?_) (fun e => ?_)⟩
    · have hz : z < ((ns.map V.int).length : Nat) := of_decide_eq_true e
      rw [List.length_map] at hz
      obtain ⟨j, rfl⟩ : ∃ j : Nat, z = (j : Int) := ⟨z.toNat, by omega⟩
      have hj : j < ns.length := by omega
      have gj : (ns.map V.int)[j]? = some (.int ns[j]) := by rw [List.getElem?_map, List.getElem?_eq_getElem hj]; rfl
      refine ⟨.ref a, rfl, .int j, rfl, a, _, _, _, rfl, rfl, hS, atI_nat gj, ?_⟩
      refine ⟨.int _, rfl, _, rfl, 10, 18, rfl, rfl, ⟨by decide, by decide, by decide⟩, _, _, rfl, rfl, .int _, rfl, 0, _, rfl, ?_⟩
      refine ⟨.int _, rfl, _, _, rfl, rfl, .inr ⟨by decide, by decide⟩, .int _, rfl, _, 1, rfl, rfl, 3935559000370003845, _, rfl, rfl, .inl ⟨by decide, by decide⟩, _, _, rfl, rfl, _, _, rfl, rfl, by show (0 : Int) < 2305843009213693951; decide, ?_⟩
      refine ⟨by show 2 ≤ sizeLine; decide, fun p np => q _ p (same_new np) np ⟨_, _, ?_, Int.emod_nonneg _ (by decide), Int.emod_lt_of_pos _ (by decide), upd_same⟩⟩
      split <;> omega
    · refine ⟨.int z, rfl, 59, z, rfl, rfl, .inl ⟨by decide, by decide⟩, _, _, rfl, rfl, ?_⟩
      refine ⟨.int _, rfl, _, rfl, 10, 18, rfl, rfl, ⟨by decide, by decide, by decide⟩, _, _, rfl, rfl, .int _, rfl, 0, _, rfl, ?_⟩
      refine ⟨.int _, rfl, _, _, rfl, rfl, .inr ⟨by decide, by decide⟩, .int _, rfl, _, 1, rfl, rfl, 3935559000370003845, _, rfl, rfl, .inl ⟨by decide, by decide⟩, _, _, rfl, rfl, _, _, rfl, rfl, by show (0 : Int) < 2305843009213693951; decide, ?_⟩
      refine ⟨by show 2 ≤ sizeLine; decide, fun p np => q _ p (same_new np) np ⟨_, _, ?_, Int.emod_nonneg _ (by decide), Int.emod_lt_of_pos _ (by decide), upd_same⟩⟩
      split <;> omega
def spTake : Sp := fun vs H Q _ => ∃ (f : Addr) (m : Int), vs = [.ref f, .int m] ∧ 0 < m ∧ m < 2 ^ 64 ∧ FeedAt H f ∧ ∀ H' r, Ch f H H' → FeedAt H' f → 0 ≤ r → r < m → Q (.int r) H'
theorem ok_take {f : Addr} {fd : FuncData} {k : Nat} (F : Fun K "_law_take" "_law_take" sTake f fd) : FnOk P w K mg base CX0 (k + 1) f fd ["feed", "size"] spTake := by
  refine F.ok scTake (fun vs H Q E h => ?_) (fun cdv A outer s H vs Q E hr h => ?_)
  · obtain ⟨a, m, rfl, _⟩ := h
    rfl
  · obtain ⟨f, m, rfl, m0, m1, ⟨d, st, d0, t0, t1, hf⟩, q⟩ := h
    refine ⟨_, pss_cons (ps_if (pt_cmpR op_gt (pe_ix ix_list (pv 0) pe_int (fun _ _ => rfl)) pe_int (nomark _))
        (pss_cons (ps_set (i := 2) scTake.nd rfl (.inl rfl) (pe_op op_mod (pe_ix ix_list (pv 0) pe_int (fun _ _ => rfl)) (pv 1)))
          (pss_cons (ps_asg (pe_op op_fdivW (pe_ix ix_list (pv 0) pe_int (fun _ _ => rfl)) (pv 1)) (pg_sub (pv 0) pe_int set_list)) (pss_one (ps_ret (pv 2))))) pss_nil)
      (pss_cons (ps_asg (pe_op op_mod (pe_op op_add (pe_op op_mul (pe_ix ix_list (pv 0) pe_int (fun _ _ => rfl)) pe_int) pe_int) pe_int) (pg_sub (pv 0) pe_int set_list))
      (pss_one (ps_ret (pe_op op_mod (pe_op op_fdiv (pe_ix ix_list (pv 0) pe_int (fun _ _ => rfl)) pe_int) (pv 1))))), ?_⟩
    have a0 : atI [V.int d, V.int st] 0 = some (.int d) := rfl
    have a1 : atI [V.int d, V.int st] 1 = some (.int st) := rfl
    refine ⟨.ref f, rfl, f, _, 0, .int d, rfl, rfl, SqL.of hf, a0, d, 0, rfl, rfl, _, rfl, ite2 (fun e => ?_) (fun e => ?_)⟩
    · have hd : d > 0 := of_decide_eq_true e
      refine ⟨.ref f, rfl, f, _, 0, .int d, rfl, rfl, SqL.of hf, a0, .int m, rfl, d, m, rfl, rfl, m0, ?_⟩
      refine ⟨.ref f, rfl, f, _, 0, .int d, rfl, rfl, SqL.of hf, a0, .int m, rfl, d, m, rfl, rfl, wide_div (b := 64) m0 (by omega) (by decide) (by decide), ?_⟩
      refine ⟨.ref f, rfl, f, _, 0, 0, rfl, rfl, hf, rfl, .int (d % m), rfl, ?_⟩
      refine q _ _ Ch.put ⟨d / m, st, Int.ediv_nonneg d0 (by omega), t0, t1, upd_same⟩ (Int.emod_nonneg _ (by omega)) (Int.emod_lt_of_pos _ m0)
    · refine ⟨.ref f, rfl, f, _, 1, .int st, rfl, rfl, SqL.of hf, a1, st, 742938285, rfl, rfl, .inr ⟨by decide, by decide⟩, _, _, rfl, rfl, _, _, rfl, rfl, by show (0 : Int) < 2305843009213693951; decide, ?_⟩
      refine ⟨.ref f, rfl, f, _, 1, 1, rfl, rfl, hf, rfl, ?_⟩
      refine ⟨.ref f, rfl, f, _, 1, _, rfl, rfl, SqL.of upd_same, rfl, _, 16777216, rfl, rfl, ⟨by decide, by decide⟩, .int m, rfl, _, m, rfl, rfl, m0, ?_⟩
      exact q _ _ Ch.put ⟨d, _, d0, Int.emod_nonneg _ (by decide), Int.emod_lt_of_pos _ (by decide), upd_same⟩ (Int.emod_nonneg _ (by omega)) (Int.emod_lt_of_pos _ m0)
def spPick (K : PySem.W.Frag) : Sp := fun vs H Q _ => ∃ (f c : Addr) (xs : List V), vs = [.ref f, .ref c] ∧ c ≠ f ∧ SqL K H c xs ∧ 0 < xs.length ∧ xs.length ≤ 1000 ∧ FeedAt H f ∧
  ∀ H' (j : Nat) v, xs[j]? = some v → Ch f H H' → FeedAt H' f → Q v H'
theorem ok_pick {f fT : Addr} {fd fdT : FuncData} {k : Nat} (F : Fun K "_law_pick" "_law_pick" sPick f fd) (FT : Fun K "_law_take" "_law_take" sTake fT fdT) (gT : mg "_law_take" = some (.ref fT)) (bT : Binds K fdT ["feed", "size"] []) (ml : mg "len" = none) :
    FnOk P w K mg base CX0 (k + 2) f fd ["feed", "options"] (spPick K) := by
  have GT : FnOk P w K mg base CX0 (k + 1) fT fdT ["feed", "size"] spTake := ok_take FT
  refine F.ok scPick (fun vs H Q E h => ?_) (fun cdv A outer s H vs Q E hr h => ?_)
  · obtain ⟨a, m, xs, rfl, _⟩ := h
    rfl
  · obtain ⟨f, c, xs, rfl, ncf, hS, l0, l1, hf, q⟩ := h
    refine ⟨_, pss_one (ps_ret (pe_ix ix_list (pv 1) (pe_call GT hr (by rfl) gT FT.kp bT .nil pass0 (pa_cons (pv 0) (pa_cons (pe_callB call_len_seq (by rfl) ml PySem.boot_len (pa_cons (pv 1) pa_nil)) pa_nil))) (fun _ _ => rfl))), ?_⟩
    refine ⟨.ref c, rfl, .ref f, rfl, .ref c, rfl, c, xs, rfl, .inl hS, f, _, rfl, by omega, by omega, hf, fun H' r ch fe r0 r1 => ?_⟩
    obtain ⟨j, rfl⟩ : ∃ j : Nat, r = (j : Int) := ⟨r.toNat, by omega⟩
    have hj : j < xs.length := by omega
    exact ⟨c, xs, _, xs[j], rfl, rfl, ch.seq ncf hS, atI_nat (List.getElem?_eq_getElem hj), q H' j _ (List.getElem?_eq_getElem hj) ch fe⟩
end
end KD

/-! values of many kinds, as data: none, bools, ints, texts, lists, tuples, the empty dict -/
namespace DV
open PySem PySem.Spec PyProof.Rows L2 KA KD PH
mutual
inductive Dv (f : Addr) (H : Hp) : V → PyData → Prop
  | non : Dv f H .non .none
  | bl (b : Bool) : Dv f H (.bl b) (.bool b)
  | int (i : Int) : Dv f H (.int i) (.int i)
  | str (x : Str) : Dv f H (.str x) (.str x)
  | lst {a : Addr} {xs : List V} {ds : List PyData} : a ≠ f → H a = some (.lst xs) → DvAll f H xs ds → Dv f H (.ref a) (.list ds)
  | tup {a : Addr} {xs : List V} {ds : List PyData} : a ≠ f → H a = some (.tup xs) → DvAll f H xs ds → Dv f H (.ref a) (.tuple ds)
  | dic {a : Addr} : a ≠ f → H a = some (.dT []) → Dv f H (.ref a) (.dict [])
inductive DvAll (f : Addr) (H : Hp) : List V → List PyData → Prop
  | nil : DvAll f H [] []
  | cons {v : V} {vs : List V} {d : PyData} {ds : List PyData} : Dv f H v d → DvAll f H vs ds → DvAll f H (v :: vs) (d :: ds)
end
mutual
theorem Dv.ch {f : Addr} {H H' : Hp} (c : Ch f H H') : ∀ (d : PyData) (v : V), Dv f H v d → Dv f H' v d
  | .none, _, h => by cases h; exact .non
  | .bool b, _, h => by cases h; exact .bl b
  | .int i, _, h => by cases h; exact .int i
  | .str x, _, h => by cases h; exact .str x
  | .list ds, _, h => by
    cases h with
    | lst n e a => exact .lst n (c _ _ n e) (DvAll.ch c ds _ a)
  | .tuple ds, _, h => by
    cases h with
    | tup n e a => exact .tup n (c _ _ n e) (DvAll.ch c ds _ a)
  | .dict kvs, _, h => by
    cases h with
    | dic n e => exact .dic n (c _ _ n e)
theorem DvAll.ch {f : Addr} {H H' : Hp} (c : Ch f H H') : ∀ (ds : List PyData) (vs : List V), DvAll f H vs ds → DvAll f H' vs ds
  | [], _, h => by cases h; exact .nil
  | d :: ds, _, h => by
    cases h with
    | cons h1 h2 => exact .cons (Dv.ch c d _ h1) (DvAll.ch c ds _ h2)
end
theorem Dv.same {f : Addr} {H H' : Hp} {d : PyData} {v : V} (h : Dv f H v d) (s : Same H H') : Dv f H' v d := h.ch (.of_same s) _ _
theorem DvAll.same {f : Addr} {H H' : Hp} {d : List PyData} {v : List V} (h : DvAll f H v d) (s : Same H H') : DvAll f H' v d := h.ch (.of_same s) _ _
theorem DvAll.length {f : Addr} {H : Hp} : ∀ {vs : List V} {ds : List PyData}, DvAll f H vs ds → vs.length = ds.length
  | _, _, .nil => rfl
  | _, _, .cons _ h => by rw [List.length_cons, List.length_cons, h.length]
theorem DvAll.at {f : Addr} {H : Hp} : ∀ {vs : List V} {ds : List PyData} {i : Nat} {v : V}, DvAll f H vs ds → vs[i]? = some v → ∃ d, ds[i]? = some d ∧ Dv f H v d
  | _, _, 0, _, .cons h _, e => ⟨_, rfl, by cases e; exact h⟩
  | _, _, i + 1, _, .cons _ h, e => h.at (i := i) e
theorem DvAll.app {f : Addr} {H : Hp} : ∀ {vs us : List V} {ds es : List PyData}, DvAll f H vs ds → DvAll f H us es → DvAll f H (vs ++ us) (ds ++ es)
  | _, _, _, _, .nil, h => h
  | _, _, _, _, .cons h1 h2, h => .cons h1 (h2.app h)
theorem DvAll.take {f : Addr} {H : Hp} : ∀ {vs : List V} {ds : List PyData} (n : Nat), DvAll f H vs ds → DvAll f H (vs.take n) (ds.take n)
  | _, _, 0, _ => .nil
  | _, _, n + 1, .nil => .nil
  | _, _, n + 1, .cons h1 h2 => .cons h1 (h2.take n)
theorem DvAll.drop {f : Addr} {H : Hp} : ∀ {vs : List V} {ds : List PyData} (n : Nat), DvAll f H vs ds → DvAll f H (vs.drop n) (ds.drop n)
  | _, _, 0, h => h
  | _, _, n + 1, .nil => .nil
  | _, _, n + 1, .cons h1 h2 => h2.drop n
theorem DvAll.rev {f : Addr} {H : Hp} : ∀ {vs : List V} {ds : List PyData}, DvAll f H vs ds → DvAll f H vs.reverse ds.reverse
  | _, _, .nil => .nil
  | _, _, .cons h1 h2 => by rw [List.reverse_cons, List.reverse_cons]; exact h2.rev.app (.cons h1 .nil)
theorem dv_ints {f : Addr} {H : Hp} : ∀ ns : List Int, DvAll f H (ns.map V.int) (dInts ns)
  | [] => .nil
  | n :: ns => .cons (.int n) (dv_ints ns)
theorem dv_pairs {f : Addr} {H : Hp} (hf : ∃ l, H f = some (.lst l)) : ∀ {xs : List V} {rs : List (Int × Int)}, PairsAt H xs rs → DvAll f H xs (dPairs rs)
  | [], [], _ => .nil
  | x :: xs, r :: rs, ⟨⟨p, h1, h2⟩, h3⟩ => by
    subst h1
    exact .cons (.tup (fun z => by obtain ⟨l, hf⟩ := hf; rw [z, hf] at h2; cases h2) h2 (.cons (.int _) (.cons (.int _) .nil))) (dv_pairs hf h3)
  | [], _ :: _, h => h.elim
  | _ :: _, [], h => h.elim
mutual
theorem Dv.dp {f : Addr} {H : Hp} {K : PySem.W.Frag} : ∀ (d : PyData) (v : V), Dv f H v d → d.canLay0 = true → Dp K H v d
  | .none, _, h, _ => by cases h; exact .non
  | .bool b, _, h, _ => by cases h; exact .bl b
  | .int i, _, h, _ => by cases h; exact .int i
  | .str x, _, h, _ => by cases h; exact .str x
  | .list ds, _, h, l => by
    cases h with
    | lst n e a => exact .lst (SqL.of e) (DvAll.dp ds _ a (by simpa only [PyData.canLay0] using l))
  | .tuple ds, _, h, l => by
    cases h with
    | tup n e a => exact .tup (SqT.of e) (DvAll.dp ds _ a (by simpa only [PyData.canLay0] using l))
  | .dict kvs, _, h, l => by simp [PyData.canLay0] at l
theorem DvAll.dp {f : Addr} {H : Hp} {K : PySem.W.Frag} : ∀ (ds : List PyData) (vs : List V), DvAll f H vs ds → PyData.canLayAll0 ds = true → DpAll K H vs ds
  | [], _, h, _ => by cases h; exact .nil
  | d :: ds, _, h, l => by
    cases h with
    | cons h1 h2 =>
      have l2 : d.canLay0 = true ∧ PyData.canLayAll0 ds = true := by simpa only [PyData.canLayAll0, Bool.and_eq_true] using l
      exact .cons (Dv.dp d _ h1 l2.1) (DvAll.dp ds _ h2 l2.2)
end
/-! ### their types -/
def tyS : PyData → String
  | .none => "NoneType" | .bool _ => "bool" | .int _ => "int" | .str _ => "str" | .list _ => "list" | .tuple _ => "tuple" | .dict _ => "dict"
theorem Dv.ty {f : Addr} {H : Hp} {K : PySem.W.Frag} {v : V} {d : PyData} (h : Dv f H v d) : TyX K H v (.type (tyS d)) := by
  cases h with
  | non => exact .base .non
  | bl b => exact .base (.bl b)
  | int i => exact .base (.int i)
  | str x => exact .base (.str x)
  | lst _ e _ => exact .base (.lst e)
  | tup _ e _ => exact .base (.tup e)
  | dic _ e => exact .base (.dT e)
def isI : PyData → Bool
  | .int _ => true | .bool _ => true | _ => false
def isB : PyData → Bool
  | .bool _ => true | _ => false
def isT : PyData → Bool
  | .tuple _ => true | _ => false
theorem kit_i {K : PySem.W.Frag} : ∀ d : PyData, PySem.W.kitOne K (.type (tyS d)) (.type "int") = some (isI d)
  | .none => kit_ty (show kitB "NoneType" "int" = some false by decide +kernel)
  | .bool _ => kit_ty (show kitB "bool" "int" = some true by decide +kernel)
  | .int _ => kit_ty (show kitB "int" "int" = some true by decide +kernel)
  | .str _ => kit_ty (show kitB "str" "int" = some false by decide +kernel)
  | .list _ => kit_ty (show kitB "list" "int" = some false by decide +kernel)
  | .tuple _ => kit_ty (show kitB "tuple" "int" = some false by decide +kernel)
  | .dict _ => kit_ty (show kitB "dict" "int" = some false by decide +kernel)
theorem kit_b {K : PySem.W.Frag} : ∀ d : PyData, PySem.W.kitOne K (.type (tyS d)) (.type "bool") = some (isB d)
  | .none => kit_ty (show kitB "NoneType" "bool" = some false by decide +kernel)
  | .bool _ => kit_ty (show kitB "bool" "bool" = some true by decide +kernel)
  | .int _ => kit_ty (show kitB "int" "bool" = some false by decide +kernel)
  | .str _ => kit_ty (show kitB "str" "bool" = some false by decide +kernel)
  | .list _ => kit_ty (show kitB "list" "bool" = some false by decide +kernel)
  | .tuple _ => kit_ty (show kitB "tuple" "bool" = some false by decide +kernel)
  | .dict _ => kit_ty (show kitB "dict" "bool" = some false by decide +kernel)
theorem kit_t {K : PySem.W.Frag} : ∀ d : PyData, PySem.W.kitOne K (.type (tyS d)) (.type "tuple") = some (isT d)
  | .none => kit_ty (show kitB "NoneType" "tuple" = some false by decide +kernel)
  | .bool _ => kit_ty (show kitB "bool" "tuple" = some false by decide +kernel)
  | .int _ => kit_ty (show kitB "int" "tuple" = some false by decide +kernel)
  | .str _ => kit_ty (show kitB "str" "tuple" = some false by decide +kernel)
  | .list _ => kit_ty (show kitB "list" "tuple" = some false by decide +kernel)
  | .tuple _ => kit_ty (show kitB "tuple" "tuple" = some true by decide +kernel)
  | .dict _ => kit_ty (show kitB "dict" "tuple" = some false by decide +kernel)
theorem isi_i {f : Addr} {H : Hp} {K : PySem.W.Frag} {v : V} {d : PyData} {Q : VK} (h : Dv f H v d) (q : Q (.bl (isI d)) H) : rIsi K [v, .ty "int"] H Q := ⟨v, .ty "int", _, .type "int", _, rfl, .ty "int", h.ty, kit_i d, q⟩
theorem isi_b {f : Addr} {H : Hp} {K : PySem.W.Frag} {v : V} {d : PyData} {Q : VK} (h : Dv f H v d) (q : Q (.bl (isB d)) H) : rIsi K [v, .ty "bool"] H Q := ⟨v, .ty "bool", _, .type "bool", _, rfl, .ty "bool", h.ty, kit_b d, q⟩
theorem isi_t {f : Addr} {H : Hp} {K : PySem.W.Frag} {v : V} {d : PyData} {Q : VK} (h : Dv f H v d) (q : Q (.bl (isT d)) H) : rIsi K [v, .ty "tuple"] H Q := ⟨v, .ty "tuple", _, .type "tuple", _, rfl, .ty "tuple", h.ty, kit_t d, q⟩
/-! ### repr -/
section
variable {X : Cx} {pins : List (Addr × Obj)} {σ : L2.St} {H : Hp} {s : Shared} {f : Addr}
mutual
theorem Dv.reads (I : Inv X pins σ H s) : ∀ (d : PyData) (v : V) (u : Value), Dv f H v d → RelV v u → ∃ as, Reads s.heap u d as ∧ (d = .dict [] → sysModules ∉ as)
  | .none, _, _, h, r => by
    cases h
    cases r
    exact ⟨_, Reads.none, fun z => nomatch z⟩
  | .bool b, _, _, h, r => by
    cases h
    cases r
    exact ⟨_, Reads.bool b, fun z => nomatch z⟩
  | .int i, _, _, h, r => by
    cases h
    obtain ⟨t, rfl⟩ := r
    exact ⟨_, Reads.int i t, fun z => nomatch z⟩
  | .str x, _, _, h, r => by
    cases h
    obtain ⟨t, rfl⟩ := r
    exact ⟨_, Reads.str x t, fun z => nomatch z⟩
  | .list ds, _, _, h, r => by
    cases h with
    | lst hn hs ha =>
      cases r
      obtain ⟨its, rv, ⟨o, n, ho, hc, _, hd⟩, _⟩ := I.list (SqL.of hs)
      obtain ⟨as, hr⟩ := DvAll.reads I ds _ its ha rv
      exact ⟨_, Reads.list ho hc hd hr, fun z => nomatch z⟩
  | .tuple ds, _, _, h, r => by
    cases h with
    | tup hn hs ha =>
      cases r
      obtain ⟨its, rv, ⟨o, ho, hc, n, hd⟩, _⟩ := I.tuple (SqT.of hs)
      obtain ⟨as, hr⟩ := DvAll.reads I ds _ its ha rv
      exact ⟨_, Reads.tuple ho hc hd hr, fun z => nomatch z⟩
  | .dict kvs, _, _, h, r => by
    cases h with
    | dic hn hs =>
      cases r
      obtain ⟨_, hd, xs, kt, o, es, ep, h1, h2, h3, h4, h5⟩ := (show ObjOk X.prog X.w H s.heap _ (.dT []) from I.hok _ _ hs)
      cases kt
      have e0 : es = #[] := by
        have : es.size = 0 := by simpa [Paired] using h4
        exact Array.eq_empty_of_size_eq_zero this
      subst e0
      refine ⟨_, Reads.dict h1 h2.1 h3 .nil .nil, fun _ z => ?_⟩
      simp only [List.append_nil, List.mem_singleton] at z
      rw [← z] at hd
      simp at hd
theorem DvAll.reads (I : Inv X pins σ H s) : ∀ (ds : List PyData) (vs : List V) (us : List Value), DvAll f H vs ds → Vals vs us → ∃ as, ReadsAll s.heap us ds as
  | [], _, _, h, r => by
    cases h
    cases r
    exact ⟨_, ReadsAll.nil⟩
  | d :: ds, _, _, h, r => by
    cases h with
    | cons h1 h2 =>
      cases r with
      | cons r1 r2 =>
        obtain ⟨as, q1, _⟩ := Dv.reads I d _ _ h1 r1
        obtain ⟨bs, q2⟩ := DvAll.reads I ds _ _ h2 r2
        exact ⟨_, ReadsAll.cons q1 q2⟩
end
theorem Dv.shows {prog : Program} {w : World} (I : Inv X pins σ H s) {d : PyData} {v : V} {u : Value} (h : Dv f H v d) (r : RelV v u) (hs : d.showable = true) (hd : d.hasDict = false ∨ d = .dict []) (hz : d.shown.length ≤ sizeLine) :
    ∃ as bs, Reads s.heap u d as ∧ ReadAtMost s.heap d.depth bs ∧ ReprK prog w bs s.heap d.depth u d.shown := by
  obtain ⟨as, rd, no⟩ := Dv.reads I d v u h r
  obtain ⟨bs, b1, b2⟩ := ReprK.of_reads (prog := prog) (w := w) rd hs (fun x => hd.elim (fun z => absurd x (by rw [z]; decide)) no) hz
  exact ⟨as, bs, rd, b1, b2⟩
end
/-! ### small data -/
structure It (d : PyData) : Prop where
  sh : d.showable = true
  le : d.leavesShort 13 = true
  de : d.depth ≤ 4
  we : d.weight ≤ 1000
  lay : d.canLay0 = true
structure Tp (d : PyData) : Prop where
  di : d.hasDict = false ∨ d = .dict []
  sh : d.showable = true
  le : d.leavesShort 13 = true
  de : d.depth ≤ 6
  we : d.weight ≤ 200000
theorem it_int {i : Int} (h : i.natAbs < 2 ^ 39) : It (.int i) :=
  ⟨show_int h, leaf_int h, by simp only [PyData.depth]; omega, by have := weight_int h; omega, rfl⟩
theorem it_all : ∀ {ds : List PyData}, (∀ d ∈ ds, It d) → PyData.showableAll ds = true ∧ PyData.leavesShortAll 13 ds = true ∧ PyData.depthAll ds ≤ 4 ∧ PyData.weightAll ds ≤ 1001 * ds.length ∧ PyData.canLayAll0 ds = true
  | [], _ => ⟨rfl, rfl, Nat.zero_le _, Nat.zero_le _, rfl⟩
  | d :: ds, h => by
    obtain ⟨a1, a2, a3, a4, a5⟩ := it_all fun x hx => h x (List.mem_cons_of_mem _ hx)
    obtain ⟨b1, b2, b3, b4, b5⟩ := h d List.mem_cons_self
    simp only [PyData.showableAll, PyData.leavesShortAll, PyData.depthAll, PyData.weightAll, PyData.canLayAll0, List.length_cons, a1, a2, a5, b1, b2, b5, Bool.and_self, true_and, and_true]
    omega
theorem it_pair {a b : Int} (h1 : a.natAbs < 2 ^ 39) (h2 : b.natAbs < 2 ^ 39) : It (.tuple [.int a, .int b]) := by
  have x := it_int h1
  have y := it_int h2
  have w1 := weight_int h1
  have w2 := weight_int h2
  refine ⟨?_, ?_, ?_, ?_, ?_⟩
  · simp only [PyData.showable, PyData.showableAll]
    have a1 := x.sh; have a2 := y.sh
    simp only [PyData.showable] at a1 a2
    rw [a1, a2]; rfl
  · simp only [PyData.leavesShort, PyData.leavesShortAll]
    have a1 := x.le; have a2 := y.le
    simp only [PyData.leavesShort] at a1 a2
    rw [a1, a2]; rfl
  · simp only [PyData.depth, PyData.depthAll]; omega
  · simp only [PyData.weight, PyData.weightAll] at w1 w2 ⊢
    omega
  · rfl
theorem tp_tup {ds : List PyData} (h : ∀ d ∈ ds, It d) (hl : ds.length ≤ 100) : Tp (.tuple ds) := by
  obtain ⟨a1, a2, a3, a4, a5⟩ := it_all h
  refine ⟨.inl (PyData.hasDict_of_canLay _ (by simp only [PyData.canLay0]; exact a5)), ?_, ?_, ?_, ?_⟩
  · simp only [PyData.showable]; exact a1
  · simp only [PyData.leavesShort]; exact a2
  · simp only [PyData.depth]; omega
  · simp only [PyData.weight]; omega
theorem tp_lst {ds : List PyData} (h : ∀ d ∈ ds, It d) (hl : ds.length ≤ 100) : Tp (.list ds) := by
  obtain ⟨a1, a2, a3, a4, a5⟩ := it_all h
  refine ⟨.inl (PyData.hasDict_of_canLay _ (by simp only [PyData.canLay0]; exact a5)), ?_, ?_, ?_, ?_⟩
  · simp only [PyData.showable]; exact a1
  · simp only [PyData.leavesShort]; exact a2
  · simp only [PyData.depth]; omega
  · simp only [PyData.weight]; omega
theorem tp_one {ds : List PyData} (h : ∀ d ∈ ds, It d) (hl : ds.length ≤ 100) : Tp (.tuple [.tuple ds]) := by
  obtain ⟨a1, a2, a3, a4, a5⟩ := it_all h
  refine ⟨.inl (PyData.hasDict_of_canLay _ (by simp only [PyData.canLay0, PyData.canLayAll0, a5, Bool.and_self])), ?_, ?_, ?_, ?_⟩
  · simp only [PyData.showable, PyData.showableAll, a1, Bool.and_self]
  · simp only [PyData.leavesShort, PyData.leavesShortAll, a2, Bool.and_self]
  · simp only [PyData.depth, PyData.depthAll]; omega
  · simp only [PyData.weight, PyData.weightAll]; omega
theorem tp_len {d : PyData} (h : Tp d) : d.shown.length ≤ sizeLine := PyData.shown_fits (B := 13) (by decide) (by decide) h.le (by have := h.we; omega)
theorem tp2_len {d e : PyData} (h : Tp d) (g : Tp e) : (PyData.list [d, e]).shown.length ≤ sizeLine := by
  refine PyData.shown_fits (B := 13) (by decide) (by decide) ?_ ?_
  · simp only [PyData.leavesShort, PyData.leavesShortAll, h.le, g.le, Bool.and_self]
  · have := h.we; have := g.we
    simp only [PyData.weight, PyData.weightAll]; omega
/-- repr of a list of two values -/
def rReprV : List V → Hp → VK → Prop := fun vs H Q => ∃ (f a : Addr) (v1 v2 : V) (d1 d2 : PyData), vs = [V.ref a] ∧ H a = some (.lst [v1, v2]) ∧ Dv f H v1 d1 ∧ Dv f H v2 d2 ∧ Tp d1 ∧ Tp d2 ∧ Q (.str (PyData.list [d1, d2]).shown) H
theorem cr_reprV {X : Cx} (hg : X.A.guards = some []) (hu : X.A.units + 100 < cLine) : CallR X (.builtin "repr") rReprV := by
  intro pins s σ H vs us Q I r h
  obtain ⟨f, a, v1, v2, d1, d2, rfl, ha, h1, h2, t1, t2, q⟩ := h
  rw [Vals.ref1 r]
  obtain ⟨its, rv, ⟨o, n, ho, hc, _, hd⟩, _⟩ := I.list (SqL.of (K := X.K) ha)
  cases rv with
  | cons r1 rv =>
    rename_i u1 us1
    cases rv with
    | cons r2 rv =>
      rename_i u2 us2
      cases rv
      obtain ⟨as1, b1, rd1, m1, k1⟩ := Dv.shows (prog := X.prog) (w := X.w) I h1 r1 t1.sh t1.di (tp_len t1)
      obtain ⟨as2, b2, rd2, m2, k2⟩ := Dv.shows (prog := X.prog) (w := X.w) I h2 r2 t2.sh t2.di (tp_len t2)
      have rd := Reads.list ho hc hd (ReadsAll.cons rd1 (ReadsAll.cons rd2 ReadsAll.nil))
      have hz := tp2_len t1 t2
      have z1 := t1.de
      have z2 := t2.de
      have mm : ReadAtMost s.heap (PyData.depthAll [d1, d2]) (b1 ++ b2) := (m1.mono (by simp only [PyData.depthAll]; omega)).append (m2.mono (by simp only [PyData.depthAll]; omega))
      have hna : a ∉ b1 ++ b2 := not_mem_of_deeper rd (by simp only [PyData.depth]; omega) mm
      have hk : ReprAllK X.prog X.w (b1 ++ b2) s.heap (PyData.depthAll [d1, d2]) [u1, u2] (PyData.shownAll [d1, d2]) := by
        simp only [PyData.shownAll]
        exact .cons ((k1.more fun b hb => List.mem_append_left _ hb).level_le (by simp only [PyData.depthAll]; omega)) (.cons ((k2.more fun b hb => List.mem_append_right _ hb).level_le (by simp only [PyData.depthAll]; omega)) .nil)
      have hz' : (listText (PyData.shownAll [d1, d2])).length ≤ sizeLine := by simpa only [PyData.shown] using hz
      refine call_repr_slot (by omega) ⟨o, ho, hc⟩ F.slot_list_repr.toG ?_
      refine call_list_reprK ho hc hd hna (by simpa using hk.length_eq) (fun i y e => hk.item i y (by simpa using e)) hg (fun b _ => Clear.nil b) (by show X.A.units + 1 + _ < cLine; simp only [PyData.depthAll]; omega) (fun _ _ e => e) ?_ hz'
      intro h' u tk k
      refine ⟨_, _, rfl, .str _, H, I.kept k, ⟨u, ?_⟩, q⟩
      simp only [PyData.shown]
/-! ### what is written -/
section
variable {X : Cx} {f : Addr} {e : Expr} {es : List Expr} {ds : List PyData} {d : PyData} {pos : Pos}
def teD (f : Addr) (d : PyData) : TE := fun _ H Q => FeedAt H f ∧ ∀ v H', Same H H' → Dv f H' v d → Q v H'
def tLits (f : Addr) : List PyData → TA
  | [] => tNil
  | d :: ds => tCons (teD f d) (tLits f ds)
theorem lits : ∀ (ds : List PyData) (σ : L2.St) (H : Hp) (Q : List V → Hp → Prop), FeedAt H f → (∀ vs H', Same H H' → DvAll f H' vs ds → Q vs H') → tLits f ds σ H Q
  | [], σ, H, Q, _, q => q [] H (Same.refl H) .nil
  | d :: ds, σ, H, Q, hf, q => ⟨hf, fun v H1 s1 dv => lits ds σ H1 _ (hf.same s1) fun vs H2 s2 da => q (v :: vs) H2 (s1.trans s2) (.cons (dv.same s2) da)⟩
theorem pe_D {t : TE} (h : PE X e t) (w : ∀ σ H Q, teD f d σ H Q → t σ H Q) : PE X e (teD f d) := ⟨fun pins s σ H Q I q => h.run pins s σ H Q I (w σ H Q q)⟩
theorem pa_nilD : PA X [] (tLits f []) := pa_nil
theorem pa_consD (ha : PE X e (teD f d)) (hr : PA X es (tLits f ds)) (hs : starEach (e :: es) X.env = (false, eval e X.env) :: starEach es X.env := by rfl) : PA X (e :: es) (tLits f (d :: ds)) := pa_cons ha hr hs
theorem pe_tupD {x1} (h : PA X es (tLits f ds)) (z : ds.length ≤ 100 := by decide) : PE X (.Tuple es x1 pos) (teD f (.tuple ds)) := pe_D (pe_tup h) fun σ H Q q => lits ds σ H _ q.1 fun vs H' s da =>
  ⟨Nat.le_of_lt (small3000 (show vs.length ≤ 3000 by rw [da.length]; omega)), fun p np => q.2 _ _ (s.trans (same_new np)) (.tup ((q.1.same s).ne np) upd_same (da.same (same_new np)))⟩
theorem pe_lstD {x1} (h : PA X es (tLits f ds)) (z : ds.length ≤ 100 := by decide) : PE X (.List es x1) (teD f (.list ds)) := pe_D (pe_lst h) fun σ H Q q => lits ds σ H _ q.1 fun vs H' s da =>
  ⟨Nat.le_of_lt (small3000 (show vs.length ≤ 3000 by rw [da.length]; omega)), fun p np => q.2 _ _ (s.trans (same_new np)) (.lst ((q.1.same s).ne np) upd_same (da.same (same_new np)))⟩
theorem pe_intD {i : Int} (h : PE X e (tC (.int i))) : PE X e (teD f (.int i)) := pe_D h fun σ H Q q => q.2 _ _ (Same.refl H) (.int i)
theorem pe_blD {b : Bool} (h : PE X e (tC (.bl b))) : PE X e (teD f (.bool b)) := pe_D h fun σ H Q q => q.2 _ _ (Same.refl H) (.bl b)
theorem pe_strD {x : Str} (h : PE X e (tC (.str x))) : PE X e (teD f (.str x)) := pe_D h fun σ H Q q => q.2 _ _ (Same.refl H) (.str x)
theorem pe_nonD (h : PE X e (tC .non)) : PE X e (teD f .none) := pe_D h fun σ H Q q => q.2 _ _ (Same.refl H) .non
theorem pe_dicD : PE X (.Dict [] [] pos) (teD f (.dict [])) := pe_D pe_dnewT fun σ H Q q p np => q.2 _ _ (same_new np) (.dic (q.1.ne np) upd_same)
end
end DV

/-! places, sorted pairs, the stack's turns -/
namespace RN
open PM RM
def takenAt (ps : List Int) (i : Nat) : Bool := match ps.drop i with
  | a :: b :: c :: d :: _ => decide (Taken a b c d)
  | _ => false
theorem taken_here {ps : List Int} {i : Nat} (h : takenAt ps i = true) : ∃ pre a b c d post, ps = pre ++ a :: b :: c :: d :: post ∧ pre.length = i ∧ Taken a b c d := by
  unfold takenAt at h
  split at h
  · rename_i a b c d post e
    refine ⟨ps.take i, a, b, c, d, post, by rw [← e, List.take_append_drop], ?_, of_decide_eq_true h⟩
    have : (ps.drop i).length = post.length + 4 := by rw [e]; simp
    rw [List.length_drop] at this
    rw [List.length_take]
    omega
  · cases h
theorem taken_get {ps : List Int} {i : Nat} {a b c d : Int} (h0 : ps[i]? = some a) (h1 : ps[i + 1]? = some b) (h2 : ps[i + 2]? = some c) (h3 : ps[i + 3]? = some d) : takenAt ps i = decide (Taken a b c d) := by
  have e : ∀ {j : Nat} {r : Int}, ps[j]? = some r → ps.drop j = r :: ps.drop (j + 1) := fun {j r} h => by
    obtain ⟨k1, k2⟩ := List.getElem?_eq_some_iff.mp h
    rw [List.drop_eq_getElem_cons k1, k2]
  unfold takenAt
  rw [e h0, e h1, e h2, e h3]
theorem taken_lt {ps : List Int} {i : Nat} (h : takenAt ps i = true) : i < ps.length - 3 := by
  obtain ⟨pre, a, b, c, d, post, e, hl, _⟩ := taken_here h
  rw [e]
  simp only [List.length_append, List.length_cons]
  omega
theorem step_at {ps q : List Int} {cy : Int × Int} (h : Step ps cy q) : ∃ i, takenAt ps i = true := by
  induction h with
  | here t => exact ⟨0, decide_eq_true t⟩
  | there _ ih =>
    obtain ⟨i, e⟩ := ih
    exact ⟨i + 1, e⟩
def plc (ps : List Int) : List Int := ((List.range (ps.length - 3)).filter (takenAt ps)).map fun (i : Nat) => (i : Int) + 1
theorem plc_mem {ps : List Int} {x : Int} (h : x ∈ plc ps) : ∃ i : Nat, x = (i : Int) + 1 ∧ takenAt ps i = true := by
  obtain ⟨i, hi, e⟩ := List.mem_map.mp h
  exact ⟨i, e.symm, (List.mem_filter.mp hi).2⟩
theorem nf_of_plc {ps : List Int} (h : plc ps = []) : NF ps := by
  intro c q s
  obtain ⟨i, e⟩ := step_at s
  have : (i : Int) + 1 ∈ plc ps := List.mem_map.mpr ⟨i, List.mem_filter.mpr ⟨List.mem_range.mpr (taken_lt e), e⟩, rfl⟩
  rw [h] at this
  cases this
theorem plc_of_nf {ps : List Int} (h : NF ps) : plc ps = [] := by
  cases e : plc ps with
  | nil => rfl
  | cons x l =>
    have hx : x ∈ plc ps := by rw [e]; exact List.mem_cons_self
    obtain ⟨i, _, t⟩ := plc_mem hx
    obtain ⟨pre, a, b, c, d, post, e2, _, tk⟩ := taken_here t
    rw [e2] at h
    exact absurd ((Step.here tk).prefix pre) (h _ _)
theorem Run.suffix {p q : List Int} {cs : List (Int × Int)} (h : Run p cs q) (l : List Int) : Run (p ++ l) cs (q ++ l) := by
  induction h with
  | nil p => exact .nil _
  | cons s _ ih => exact .cons (s.suffix l) ih
theorem Run.ends {p r : List Int} {cs : List (Int × Int)} (h : Run p cs r) : (cs = [] ∧ p = r) ∨ 2 ≤ r.length := by
  induction h with
  | nil p => exact .inl ⟨rfl, rfl⟩
  | @cons p q r c cs s h ih =>
    refine .inr ?_
    rcases ih with ⟨_, e⟩ | e
    · subst e
      have : ∀ {p q : List Int} {c : Int × Int}, Step p c q → 2 ≤ q.length := by
        intro p q c s
        induction s with
        | here _ => simp only [List.length_cons]; omega
        | there _ ih => simp only [List.length_cons]; omega
      exact this s
    · exact e
theorem tq_zig : ∀ (l : List Int) (b a : Int), ZZ (b :: a :: l) → tq b a l = a :: l
  | [], _, _, _ => rfl
  | r :: l, b, a, z => by
    have h1 := z.1
    simp only [tq]
    rw [if_neg (by omega), if_neg (by omega), tq_zig l a r z.2]
theorem zz_tp {ps : List Int} (z : ZZ ps) : tp ps = ps := by
  match ps, z with
  | [], _ => rfl
  | [x], _ => rfl
  | x :: y :: l, z =>
    show ts x (y :: l) = _
    simp only [ts]
    rw [if_neg (zz_cons z), tq_zig l x y z]
/-- pairs in their order -/
abbrev Le (r s : Int × Int) : Prop := r.1 < s.1 ∨ (r.1 = s.1 ∧ r.2 ≤ s.2)
theorem le_anti {r s : Int × Int} (h1 : Le r s) (h2 : Le s r) : r = s := by
  obtain ⟨a, b⟩ := r
  obtain ⟨c, d⟩ := s
  have e1 : a = c := by simp only [Le] at h1 h2; omega
  have e2 : b = d := by simp only [Le] at h1 h2; omega
  rw [e1, e2]
theorem sorted_same : ∀ {l m : List (Int × Int)}, l.Perm m → l.Pairwise Le → m.Pairwise Le → l = m
  | [], m, h, _, _ => (List.Perm.nil_eq h)
  | x :: l, m, h, h1, h2 => by
    cases m with
    | nil => exact absurd h.length_eq (by simp)
    | cons y m =>
      have hx := List.pairwise_cons.mp h1
      have hy := List.pairwise_cons.mp h2
      have e : x = y := by
        have m1 : x ∈ y :: m := h.mem_iff.mp List.mem_cons_self
        have m2 : y ∈ x :: l := h.mem_iff.mpr List.mem_cons_self
        rcases List.mem_cons.mp m1 with e | e
        · exact e
        · rcases List.mem_cons.mp m2 with e' | e'
          · exact e'.symm
          · exact le_anti (hx.1 y e') (hy.1 x e)
      subst e
      rw [sorted_same ((List.perm_cons x).mp h) hx.2 hy.2]
end RN

/-! lists or tuples of ints: max, min, index, slices; len of a set -/
namespace GU
open PySem PySem.Spec PyProof.Rows L2 KA PH
section
variable {prog : Program} {w : World} {A : Around} {E : Value → Shared → Prop} {s : Shared} {l : Addr} {xs : Array (Int × Tok)}
theorem iter_intTup {Q : Value → Shared → Prop} (hl : s.heap.IsTuple l (intItems xs))
    (h : ∀ s₂ : Shared, s₂ = { s with heap := s.heap.push { cls := .type "tuple_iterator", data := .fields #[.ref l, .int 0 0] } } →
      (s₂.heap.IsTupleIter s.heap.objs.size l 0 ∧ s₂.heap.IsTuple l (intItems xs)) → (∀ b ∈ [s.heap.objs.size, l], b < s₂.heap.objs.size) → l ≠ s.heap.objs.size → Q (.ref s.heap.objs.size) s₂) :
    wpAny (model prog w) A (pyIter (.ref l)) Q E s := by
  have hlt : l < s.heap.objs.size := by obtain ⟨_, e, _⟩ := hl; exact Heap.lt_size e
  refine wpAny_pyIter_tuple hl (h _ rfl ⟨⟨_, Heap.get?_push_size _ rfl, rfl, rfl⟩, hl.push _⟩ (fun b hb => ?_) (Nat.ne_of_lt hlt))
  show b < (s.heap.push _).objs.size
  rw [Heap.size_push]
  rcases List.mem_cons.mp hb with rfl | hb
  · exact Nat.lt_succ_self _
  · rcases List.mem_cons.mp hb with rfl | hb
    · exact Nat.lt_succ_of_lt hlt
    · cases hb
theorem old_keptT {h' : Heap} (hk : ∀ b o, b ∉ [s.heap.objs.size] → (s.heap.push { cls := .type "tuple_iterator", data := .fields #[.ref l, .int 0 0] }).get? b = some o → h'.get? b = some o) :
    ∀ b o, s.heap.get? b = some o → h'.get? b = some o := fun b o e => by
  refine hk b o (fun hm => ?_) (Heap.get?_push_of_some _ e)
  rcases List.mem_cons.mp hm with e1 | hm
  · exact absurd (e1 ▸ Heap.lt_size e) (Nat.lt_irrefl _)
  · cases hm
theorem max_intTup {Q : Value → Shared → Prop} (hh : A.handled = none) (hl : s.heap.IsTuple l (intItems xs)) (hne : 0 < xs.size)
    (h : ∀ v h' tk, (intItems xs)[argBest (fun i j => decide (numAt xs i > numAt xs j)) (xs.size - 1)]? = some v → (∀ b o, s.heap.get? b = some o → h'.get? b = some o) → Q v { s with heap := h', toks := tk }) :
    wpAny (model prog w) A (call (.builtin "max") [.ref l]) Q E s := by
  refine call_max_walk (iter_intTup hl fun s₂ e st hfp hlI => ?_)
  subst e
  refine ⟨_, _, _, _, _, _, _, rfl, Walks.tuple (A := A.in1) hh _ l hlI (intItems xs), st, hfp, by simpa [intItems] using hne, CmpOf.ints_gt (numAt xs) (fun _ _ => intItems_at), fun v h' tk hP hk => ?_⟩
  exact h v h' tk (by simpa [intItems] using hP) (old_keptT hk)
theorem min_intTup {Q : Value → Shared → Prop} (hh : A.handled = none) (hl : s.heap.IsTuple l (intItems xs)) (hne : 0 < xs.size)
    (h : ∀ v h' tk, (intItems xs)[argBest (fun i j => decide (numAt xs i < numAt xs j)) (xs.size - 1)]? = some v → (∀ b o, s.heap.get? b = some o → h'.get? b = some o) → Q v { s with heap := h', toks := tk }) :
    wpAny (model prog w) A (call (.builtin "min") [.ref l]) Q E s := by
  refine call_min_walk (iter_intTup hl fun s₂ e st hfp hlI => ?_)
  subst e
  refine ⟨_, _, _, _, _, _, _, rfl, Walks.tuple (A := A.in1) hh _ l hlI (intItems xs), st, hfp, by simpa [intItems] using hne, CmpOf.ints_lt (numAt xs) (fun _ _ => intItems_at), fun v h' tk hP hk => ?_⟩
  exact h v h' tk (by simpa [intItems] using hP) (old_keptT hk)
end
section
variable {prog : Program} {w : World} {A : Around} {E : Value → Shared → Prop} {s : Shared} {l : Addr} {its : List Value} {ns : List Int} {Q : Value → Shared → Prop}
theorem max_rawT (hh : A.handled = none) (hl : IsTup s.heap l its.toArray) (hi : IntsAre its ns) (hne : 0 < ns.length)
    (h : ∀ h' tk M t', (∀ b o, s.heap.get? b = some o → h'.get? b = some o) → M ∈ ns → (∀ a, a ∈ ns → a ≤ M) → Q (.int M t') { s with heap := h', toks := tk }) : wpAny (model prog w) A (call (.builtin "max") [.ref l]) Q E s := by
  obtain ⟨xs, e⟩ := hi.allInts.items
  have hn : numsOf (intItems xs).toList = ns := by rw [← e]; exact hi.numsOf
  rw [nums_intItems] at hn
  subst hn
  rw [e] at hl
  have hsz : 0 < xs.size := by simpa using hne
  have hl2 : s.heap.IsTuple l (intItems xs) := by
    obtain ⟨o, ho, hc, n, hd⟩ := hl
    exact ⟨o, ho, hc, n, hd⟩
  refine max_intTup hh hl2 hsz fun v h' tk hv hk => ?_
  obtain ⟨t, rfl⟩ := intItems_at hv
  obtain ⟨h1, h2⟩ := argBest_gt (numAt xs) (xs.size - 1)
  refine h h' tk _ t hk ?_ fun a ha => ?_
  · rw [numAt_eq]; exact PySem.getD_mem (by rw [List.length_map, Array.length_toList]; omega)
  · obtain ⟨j, hj, rfl⟩ := mem_getD ha
    rw [List.length_map, Array.length_toList] at hj
    rw [← numAt_eq]; exact h2 j (by omega)
theorem min_rawT (hh : A.handled = none) (hl : IsTup s.heap l its.toArray) (hi : IntsAre its ns) (hne : 0 < ns.length)
    (h : ∀ h' tk M t', (∀ b o, s.heap.get? b = some o → h'.get? b = some o) → M ∈ ns → (∀ a, a ∈ ns → M ≤ a) → Q (.int M t') { s with heap := h', toks := tk }) : wpAny (model prog w) A (call (.builtin "min") [.ref l]) Q E s := by
  obtain ⟨xs, e⟩ := hi.allInts.items
  have hn : numsOf (intItems xs).toList = ns := by rw [← e]; exact hi.numsOf
  rw [nums_intItems] at hn
  subst hn
  rw [e] at hl
  have hsz : 0 < xs.size := by simpa using hne
  have hl2 : s.heap.IsTuple l (intItems xs) := by
    obtain ⟨o, ho, hc, n, hd⟩ := hl
    exact ⟨o, ho, hc, n, hd⟩
  refine min_intTup hh hl2 hsz fun v h' tk hv hk => ?_
  obtain ⟨t, rfl⟩ := intItems_at hv
  obtain ⟨h1, h2⟩ := argBest_lt (numAt xs) (xs.size - 1)
  refine h h' tk _ t hk ?_ fun a ha => ?_
  · rw [numAt_eq]; exact PySem.getD_mem (by rw [List.length_map, Array.length_toList]; omega)
  · obtain ⟨j, hj, rfl⟩ := mem_getD ha
    rw [List.length_map, Array.length_toList] at hj
    rw [← numAt_eq]; exact h2 j (by omega)
end
section
variable {X : Cx}
/-- one of two readings -/
theorem pe_either {e : Expr} {t u : TE} (h : PE X e t) (g : PE X e u) : PE X e (fun σ H Q => t σ H Q ∨ u σ H Q) :=
  ⟨fun pins s σ H Q I q => q.elim (h.run pins s σ H Q I) (g.run pins s σ H Q I)⟩
/-- max(xs), min(xs) of a list or a tuple of ints -/
def rMaxS (K : PySem.W.Frag) : List V → Hp → VK → Prop := fun vs H Q => ∃ (a : Addr) (ns : List Int), vs = [V.ref a] ∧ Sq K H a (ns.map V.int) ∧ 0 < ns.length ∧ ∀ m, m ∈ ns → (∀ y, y ∈ ns → y ≤ m) → Q (.int m) H
def rMinS (K : PySem.W.Frag) : List V → Hp → VK → Prop := fun vs H Q => ∃ (a : Addr) (ns : List Int), vs = [V.ref a] ∧ Sq K H a (ns.map V.int) ∧ 0 < ns.length ∧ ∀ m, m ∈ ns → (∀ y, y ∈ ns → m ≤ y) → Q (.int m) H
theorem cr_maxS (hc : X.calm = true) : CallR X (.builtin "max") (rMaxS X.K) := by
  intro pins s σ H vs us Q I r h
  obtain ⟨a, ns, rfl, hs | hs, hne, q⟩ := h
  · exact cr_max hc pins s σ H _ us Q I r ⟨a, ns, rfl, hs, hne, q⟩
  · obtain ⟨its, rv, hl, _⟩ := I.tuple hs
    rw [Vals.ref1 r]
    exact max_rawT (I.ok.hd hc) hl rv.ints hne fun h' tk m t' hk h1 h2 => ⟨.int _, H, I.kept hk, ⟨_, rfl⟩, q m h1 h2⟩
theorem cr_minS (hc : X.calm = true) : CallR X (.builtin "min") (rMinS X.K) := by
  intro pins s σ H vs us Q I r h
  obtain ⟨a, ns, rfl, hs | hs, hne, q⟩ := h
  · exact cr_min hc pins s σ H _ us Q I r ⟨a, ns, rfl, hs, hne, q⟩
  · obtain ⟨its, rv, hl, _⟩ := I.tuple hs
    rw [Vals.ref1 r]
    exact min_rawT (I.ok.hd hc) hl rv.ints hne fun h' tk m t' hk h1 h2 => ⟨.int _, H, I.kept hk, ⟨_, rfl⟩, q m h1 h2⟩
/-- xs[lo:hi] of a list or a tuple -/
def rSlS (K : PySem.W.Frag) : V → Option Int → Option Int → Hp → VK → Prop := fun x lo hi H Q => ∃ a xs, x = .ref a ∧ Sq K H a xs ∧ ∀ H' p, Same H H' → Sq K H' p (cutV xs lo hi) → Q (.ref p) H'
theorem cut_whole {xs : List V} {lo hi : Option Int} (h : HT.sIx xs.length 0 lo = 0 ∧ HT.sIx xs.length xs.length hi = xs.length) : cutV xs lo hi = xs := by
  unfold cutV
  rw [h.1, h.2, List.drop_zero, Nat.sub_zero, List.take_length]
theorem sl_S : SlR X (rSlS X.K) := by
  intro pins s σ H x v vl vu lo hi sl Q I rx hs pl pu h
  obtain ⟨a, xs, rfl, hS | hS, q⟩ := h
  · exact sl_list pins s σ H _ v vl vu lo hi sl Q I rx hs pl pu ⟨a, xs, rfl, hS, fun p np => q _ p (same_new np) (.inl (SqL.of upd_same))⟩
  · exact sl_tupA pins s σ H _ v vl vu lo hi sl Q I rx hs pl pu ⟨a, xs, rfl, hS, fun w => q H a (Same.refl H) (by rw [cut_whole w]; exact .inr hS), fun _ p np => q _ p (same_new np) (.inr (SqT.of upd_same))⟩
/-- xs.index(y) of ints -/
def rIdxL (K : PySem.W.Frag) : V → List V → Hp → VK → Prop := fun x xs H Q => ∃ (a : Addr) (ns : List Int) (y : Int) (j : Nat), x = V.ref a ∧ xs = [V.int y] ∧ SqL K H a (ns.map V.int) ∧ ns[j]? = some y ∧ (∀ m z, m < j → ns[m]? = some z → z ≠ y) ∧ Q (.int (j : Nat)) H
def rIdxT (K : PySem.W.Frag) : V → List V → Hp → VK → Prop := fun x xs H Q => ∃ (a : Addr) (ns : List Int) (y : Int) (j : Nat), x = V.ref a ∧ xs = [V.int y] ∧ SqT K H a (ns.map V.int) ∧ ns[j]? = some y ∧ (∀ m z, m < j → ns[m]? = some z → z ≠ y) ∧ Q (.int (j : Nat)) H
theorem flat_ints (ns : List Int) : (ns.map V.int).all flatV = true := by
  rw [List.all_map]
  exact List.all_eq_true.mpr fun _ _ => rfl
theorem mt_idxL : MtR X "list.index" (rIdxL X.K) := by
  intro pins s σ H x xs v us Q I rx rxs h
  obtain ⟨a, ns, y, j, rfl, rfl, hs, hy, hno, q⟩ := h
  refine mt_index pins s σ H _ _ v us Q I rx rxs ⟨a, ns.map V.int, .int y, j, .int y, rfl, rfl, hs, rfl, flat_ints ns, at_int hy, beq_self_eq_true y, fun m z hm hz => ?_, q⟩
  obtain ⟨r, hr, rfl⟩ := int_at hz
  exact beq_eq_false_iff_ne.mpr (hno m r hm hr)
theorem mt_idxT : MtR X "tuple.index" (rIdxT X.K) := by
  intro pins s σ H x xs v us Q I rx rs h
  obtain ⟨p, ys, z, j, rfl, rfl, hq, hy, hno, q⟩ := h
  cases rx
  obtain ⟨u, rfl, t, rfl⟩ := vals1 rs
  obtain ⟨its, r, pl, hz⟩ := I.tuple hq
  obtain ⟨⟨cls, dd, dt, sl⟩, ho, hc, n, hd⟩ := pl
  simp only at hc hd
  subst hc
  subst hd
  have hl : its.toArray.size = ys.length := by rw [List.size_toArray, ← r.length, List.length_map]
  have hj : j < its.toArray.size := by rw [hl]; exact (List.getElem?_eq_some_iff.mp hy).1
  have at' : ∀ (m : Nat) (hm : m < its.toArray.size), ∃ y t', ys[m]? = some y ∧ its.toArray[m] = Value.int y t' := fun m hm => by
    have hm' : m < ys.length := by rw [← hl]; exact hm
    obtain ⟨w, hw, t', hw'⟩ := r.get (i := m) (x := .int ys[m]) (by simp [hm'])
    refine ⟨ys[m], t', List.getElem?_eq_getElem hm', ?_⟩
    have e := (List.getElem?_eq_some_iff.mp hw).2
    rw [← hw', ← e]
    simp
  refine call_meets PySem.F.slot_tuple_index ⟨_, ho, rfl⟩ PySem.F.entry_tuple_index (PySem.F.args_tuple_index_2 _ _) (TI.tuple_indexAt p its.toArray n dd sl (.int z t) (eqU (.int z)) j hj ?_ ?_)
    ⟨ho, fun w hw => mem_eqAt (x := .int z) ⟨t, rfl⟩ rfl r (flat_ints ys) w (by simpa using hw), ⟨.int (j : Nat), H, I.tok _, ⟨_, rfl⟩, q⟩⟩
  · obtain ⟨y, t', h1, h2⟩ := at' j hj
    rw [hy] at h1
    cases h1
    rw [h2]
    show (z == z) = true
    exact beq_self_eq_true z
  · intro m hm hmj
    obtain ⟨y, t', h1, h2⟩ := at' m hm
    rw [h2]
    show (y == z) = false
    exact beq_eq_false_iff_ne.mpr (hno m y hmj h1)
/-- len(s) of a set of ints -/
def rLenSet (w : World) : List V → Hp → VK → Prop := fun vs H Q => ∃ (a : Addr) (S : Int → Bool) (n : Nat), vs = [V.ref a] ∧ H a = some (SetO w a S n) ∧ n < 2 ^ 40 ∧ ((∃ ks : List Int, ks.Nodup ∧ ks.length = n ∧ ∀ k, k ∈ ks ↔ S k = true) → Q (.int (n : Nat)) H)
theorem cr_lenSet : CallR X (.builtin "len") (rLenSet X.w) := by
  intro pins s σ H vs us Q I r h
  obtain ⟨a, S, n, rfl, ha, hn, q⟩ := h
  rw [Vals.ref1 r]
  obtain ⟨o, es, ep, t, ho, hex, hd, h1, h2, h3, h4, hf, hsz, _⟩ := setO_get I ha
  refine call_len_set ho hex hd hf (by omega) ⟨.int (n : Nat), H, I.tok _, ⟨_, by rw [hsz]⟩, q ⟨es.toList.map keyOf, h2, by rw [List.length_map, Array.length_toList, hsz], fun k => (h3 k).symm⟩⟩
end
end GU

/-! lists in ascending order -/
namespace BO
open PySem PySem.Spec PyProof.Rows L2 KA PH PM RM RN
abbrev sPI : Stmt := topS 9
abbrev sPT : Stmt := topS 10
theorem scPI : FnScope ["row", "value", "start", "end", "middle"] ["row", "value"] (defScope sPI) := ⟨rfl, rfl, rfl, by decide +kernel, rfl, by decide +kernel, by decide +kernel⟩
theorem scPT : FnScope ["row", "value"] ["row", "value"] (defScope sPT) := ⟨rfl, rfl, rfl, by decide +kernel, rfl, by decide +kernel, by decide +kernel⟩
abbrev Lt (r s : Int × Int) : Prop := r.1 < s.1 ∨ (r.1 = s.1 ∧ r.2 < s.2)
theorem lex_iff (r s : Int × Int) : HT.lexLt [r.1, r.2] [s.1, s.2] = decide (Lt r s) := by
  by_cases h : r.1 = s.1
  · by_cases g : r.2 = s.2
    · have : ¬ Lt r s := by simp only [Lt]; omega
      rw [decide_eq_false this]
      simp [HT.lexLt, h, g]
    · have : decide (Lt r s) = decide (r.2 < s.2) := by rw [decide_eq_decide]; simp only [Lt]; omega
      rw [this]
      simp [HT.lexLt, h, g]
  · have : decide (Lt r s) = decide (r.1 < s.1) := by rw [decide_eq_decide]; simp only [Lt]; omega
    rw [this]
    simp [HT.lexLt, h]
theorem nlt_le {r s : Int × Int} : ¬ Lt r s ↔ Le s r := by simp only [Lt, Le]; omega
theorem le_trans {r s t : Int × Int} (h : Le r s) (g : Le s t) : Le r t := by simp only [Le] at *; omega
theorem lt_le {r s : Int × Int} (h : Lt r s) : Le r s := by simp only [Lt, Le] at *; omega
theorem le_lt {r s t : Int × Int} (h : Le r s) (g : Lt s t) : Lt r t := by simp only [Lt, Le] at *; omega
/-- the place of c in a row -/
def PlaceOf (rs : List (Int × Int)) (c : Int × Int) (i : Nat) : Prop := i ≤ rs.length ∧ (∀ j r, j < i → rs[j]? = some r → Lt r c) ∧ ∀ j r, i ≤ j → rs[j]? = some r → Le c r
theorem place_sorted {rs : List (Int × Int)} {c : Int × Int} {i : Nat} (srt : rs.Pairwise Le) (h : PlaceOf rs c i) : (rs.take i ++ [c] ++ rs.drop i).Pairwise Le := by
  obtain ⟨h0, h1, h2⟩ := h
  have e : rs = rs.take i ++ rs.drop i := (List.take_append_drop i rs).symm
  have s2 := srt
  rw [e] at s2
  obtain ⟨p1, p2, p3⟩ := List.pairwise_append.mp s2
  refine List.pairwise_append.mpr ⟨List.pairwise_append.mpr ⟨p1, List.pairwise_singleton _ _, fun a ha b hb => ?_⟩, p2, fun a ha b hb => ?_⟩
  · rw [List.mem_singleton.mp hb]
    obtain ⟨j, hj, rfl⟩ := List.mem_iff_getElem.mp ha
    rw [List.length_take] at hj
    refine lt_le (h1 j _ (by omega) ?_)
    rw [List.getElem_take]
    exact List.getElem?_eq_getElem _
  · rcases List.mem_append.mp ha with z | z
    · exact p3 a z b hb
    · rw [List.mem_singleton.mp z]
      obtain ⟨j, hj, rfl⟩ := List.mem_iff_getElem.mp hb
      rw [List.length_drop] at hj
      refine h2 (i + j) _ (by omega) ?_
      rw [List.getElem_drop]
      exact List.getElem?_eq_getElem _
theorem pairs_ins {H : Hp} {v : Addr} {c : Int × Int} (hv : H v = some (.tup [.int c.1, .int c.2])) {xs : List V} {rs : List (Int × Int)} (h : PairsAt H xs rs) (i : Nat) : PairsAt H (xs.take i ++ [.ref v] ++ xs.drop i) (rs.take i ++ [c] ++ rs.drop i) := by
  have t : ∀ (i : Nat) {xs : List V} {rs : List (Int × Int)}, PairsAt H xs rs → PairsAt H (xs.take i) (rs.take i) ∧ PairsAt H (xs.drop i) (rs.drop i) := by
    intro i
    induction i with
    | zero => intro xs rs h; exact ⟨trivial, h⟩
    | succ i ih =>
      intro xs rs h
      cases xs with
      | nil => cases rs with
        | nil => exact ⟨trivial, trivial⟩
        | cons _ _ => exact h.elim
      | cons x xs => cases rs with
        | nil => exact h.elim
        | cons r rs =>
          obtain ⟨a, b⟩ := ih h.2
          exact ⟨⟨h.1, a⟩, b⟩
  obtain ⟨a, b⟩ := t i h
  exact (a.append (show PairsAt H [.ref v] [c] from ⟨⟨v, rfl, hv⟩, trivial⟩)).append b
theorem perm_ins {α : Type} (xs : List α) (c : α) (i : Nat) : (xs.take i ++ [c] ++ xs.drop i).Perm (c :: xs) := by
  have h : (xs.take i ++ [c] ++ xs.drop i).Perm ([c] ++ xs.take i ++ xs.drop i) := List.Perm.append_right _ List.perm_append_comm
  refine h.trans ?_
  rw [List.append_assoc, List.take_append_drop]
  exact List.Perm.refl _
theorem pair_get {H : Hp} {xs : List V} {rs : List (Int × Int)} (h : PairsAt H xs rs) {i : Nat} {r : Int × Int} (hr : rs[i]? = some r) : ∃ p, xs[i]? = some (.ref p) ∧ H p = some (.tup [.int r.1, .int r.2]) := by
  induction xs generalizing rs i with
  | nil => cases rs with
    | nil => cases hr
    | cons _ _ => exact h.elim
  | cons y xs ih =>
    cases rs with
    | nil => exact h.elim
    | cons q rs =>
      obtain ⟨⟨p, e, hp⟩, h2⟩ := h
      cases i with
      | zero =>
        have : q = r := Option.some.inj hr
        subst this
        exact ⟨p, by rw [← e]; rfl, hp⟩
      | succ i => exact ih h2 hr
section
variable {P : Program} {w : World} {K : PySem.W.Frag} {mg : Str → Option Value} {base : Heap}
def spPI : Sp := fun vs H Q _ => ∃ (row v : Addr) (xs : List V) (rs : List (Int × Int)) (c : Int × Int), vs = [.ref row, .ref v] ∧ H row = some (.lst xs) ∧ PairsAt H xs rs ∧ rs.Pairwise Le ∧ H v = some (.tup [.int c.1, .int c.2]) ∧ rs.length ≤ 2500 ∧ ∀ i : Nat, PlaceOf rs c i → Q (.int i) H
theorem ok_PI {f : Addr} {fd : FuncData} {k : Nat} (F : Fun K "place_in" "place_in" sPI f fd) (ml : mg "len" = none) : FnOk P w K mg base CX0 (k + 1) f fd ["row", "value"] spPI := by
  refine F.ok scPI (fun vs H Q E h => ?_) (fun cdv A outer s H vs Q E hr h => ?_)
  · obtain ⟨row, v, xs, rs, c, rfl, _⟩ := h
    rfl
  · obtain ⟨row, v, xs, rs, c, rfl, hx, pa, srt, hv, hl, hq⟩ := h
    have hu : (A.deeper (envOfC "place_in" (defScope sPI) s.heap.objs.size f cdv)).units < cLine := by have := hr.un; omega
    refine ⟨_, pss_cons (ps_par (i := 2) (j := 3) (by rfl) scPI.nd rfl rfl (by decide) rfl rfl (pa_cons pe_int (pa_cons (pe_callB call_len_seq (by rfl) ml PySem.boot_len (pa_cons (pv 0) pa_nil)) pa_nil)) (by rfl))
      (pss_cons (ps_while PassesOwn.never (pt_cmpR op_lt (pv 2) (pv 3) (nomark _))
        (pss_cons (ps_set (i := 4) scPI.nd rfl (.inl rfl) (pe_op op_fdiv (pe_op op_add (pv 2) (pv 3)) pe_int))
        (pss_one (ps_if (pt_cmpR (op_ltT hu) (pe_ix ix_list (pv 0) (pv 4) (fun _ _ => rfl)) (pv 1) (nomark _)) (pss_one (ps_set (i := 2) scPI.nd rfl (.inl rfl) (pe_op op_add (pv 4) pe_int))) (pss_one (ps_set (i := 3) scPI.nd rfl (.inl rfl) (pv 4)))))))
      (pss_one (ps_ret (pv 2)))), ?_⟩
    have xl := pa.length
    refine ⟨.ref row, rfl, row, xs, rfl, .inl (SqL.of hx), .int 0, .int xs.length, rfl, ?_⟩
    refine ⟨fun n σ Hx => Hx = H ∧ ∃ (st en : Nat) (r4 : Option V), n = en - st ∧ st ≤ en ∧ en ≤ rs.length ∧ σ = [some (.ref row), some (.ref v), some (.int st), some (.int en), r4] ∧ (∀ j r, j < st → rs[j]? = some r → Lt r c) ∧ ∀ j r, en ≤ j → rs[j]? = some r → Le c r,
      ⟨_, rfl, 0, rs.length, _, rfl, Nat.zero_le _, Nat.le_refl _, by rw [xl]; rfl, fun j r h => absurd h (Nat.not_lt_zero _), fun j r h e => by
        have := (List.getElem?_eq_some_iff.mp e).1
        omega⟩, ?_⟩
    rintro n σ Hx ⟨rfl, st, en, r4, rfl, h1, h2, rfl, h3, h4⟩
    refine ⟨.int st, rfl, .int en, rfl, st, en, rfl, rfl, _, rfl, ?_⟩
    by_cases lt : st < en
    · rw [decide_eq_true (show (st : Int) < (en : Int) by omega)]
      refine iteT ?_
      refine ⟨fun σ Hy => ∃ m', m' < en - st ∧ Hy = Hx ∧ ∃ (st en : Nat) (r4 : Option V), m' = en - st ∧ st ≤ en ∧ en ≤ rs.length ∧ σ = [some (.ref row), some (.ref v), some (.int st), some (.int en), r4] ∧ (∀ j r, j < st → rs[j]? = some r → Lt r c) ∧ ∀ j r, en ≤ j → rs[j]? = some r → Le c r, fun _ _ z => z, ?_⟩
      have em : ((st : Int) + (en : Int)) / 2 = (((st + en) / 2 : Nat) : Int) := by omega
      refine ⟨.int st, rfl, .int en, rfl, st, en, rfl, rfl, _, 2, rfl, rfl, ⟨by decide, by decide⟩, ?_⟩
      show gName 4 (V.int (((st : Int) + (en : Int)) / 2)) _ _ _
      rw [em]
      generalize hmid : (st + en) / 2 = mid
      have b1 : st ≤ mid ∧ mid < en := by omega
      obtain ⟨r, hr2⟩ : ∃ r, rs[mid]? = some r := ⟨_, List.getElem?_eq_getElem (by omega)⟩
      obtain ⟨p, hp1, hp2⟩ := pair_get pa hr2
      refine ⟨.ref row, rfl, .int mid, rfl, row, xs, mid, .ref p, rfl, rfl, SqL.of hx, atI_nat hp1, .ref v, rfl, p, v, [r.1, r.2], [c.1, c.2], rfl, rfl, SqT.of hp2, SqT.of hv, _, rfl, ?_⟩
      rw [lex_iff]
      by_cases l : Lt r c
      · rw [decide_eq_true l]
        refine iteT ⟨.int mid, rfl, mid, 1, rfl, rfl, en - (mid + 1), by omega, rfl, mid + 1, en, _, rfl, by omega, h2, rfl, fun j q hj e => ?_, h4⟩
        rcases Nat.lt_or_ge j mid with z | z
        · have hle : Le q r := by
            have := List.pairwise_iff_getElem.mp srt
            obtain ⟨q1, q2⟩ := List.getElem?_eq_some_iff.mp e
            obtain ⟨q3, q4⟩ := List.getElem?_eq_some_iff.mp hr2
            have := this j mid q1 q3 z
            rw [q2, q4] at this
            exact this
          exact le_lt hle l
        · have : j = mid := by omega
          subst this
          rw [hr2] at e
          rw [← Option.some.inj e]
          exact l
      · rw [decide_eq_false l]
        refine iteF ⟨.int mid, rfl, mid - st, by omega, rfl, st, mid, _, rfl, b1.1, by omega, rfl, h3, fun j q hj e => ?_⟩
        have l2 := nlt_le.mp l
        rcases Nat.lt_or_ge mid j with z | z
        · have hle : Le r q := by
            have := List.pairwise_iff_getElem.mp srt
            obtain ⟨q1, q2⟩ := List.getElem?_eq_some_iff.mp e
            obtain ⟨q3, q4⟩ := List.getElem?_eq_some_iff.mp hr2
            have := this mid j q3 q1 z
            rw [q2, q4] at this
            exact this
          exact le_trans l2 hle
        · have : j = mid := by omega
          subst this
          rw [hr2] at e
          rw [← Option.some.inj e]
          exact l2
    · rw [decide_eq_false (show ¬ (st : Int) < (en : Int) by omega)]
      refine iteF ?_
      have : st = en := by omega
      subst this
      exact ⟨.int st, rfl, hq st ⟨h2, h3, h4⟩⟩
def spPT : Sp := fun vs H Q _ => ∃ (row v : Addr) (xs : List V) (rs : List (Int × Int)) (c : Int × Int), vs = [.ref row, .ref v] ∧ H row = some (.lst xs) ∧ PairsAt H xs rs ∧ rs.Pairwise Le ∧ H v = some (.tup [.int c.1, .int c.2]) ∧ rs.length ≤ 2500 ∧
  ∀ xs' rs', PairsAt H xs' rs' → rs'.Perm (c :: rs) → rs'.Pairwise Le → Q .non (upd H row (.lst xs'))
theorem ok_PT {f fI : Addr} {fd dI : FuncData} {k : Nat} (F : Fun K "put_in" "put_in" sPT f fd) (GI : FnOk P w K mg base CX0 k fI dI ["row", "value"] spPI) (gI : mg "place_in" = some (.ref fI)) (kI : PySem.W.keepIn K (.ref fI) = true) (bI : Binds K dI ["row", "value"] []) :
    FnOk P w K mg base CX0 (k + 1) f fd ["row", "value"] spPT := by
  refine F.ok scPT (fun vs H Q E h => ?_) (fun cdv A outer s H vs Q E hr h => ?_)
  · obtain ⟨row, v, xs, rs, c, rfl, _⟩ := h
    rfl
  · obtain ⟨row, v, xs, rs, c, rfl, hx, pa, srt, hv, hl, hq⟩ := h
    refine ⟨_, pss_one (ps_expr (pe_bm PySem.F.plainAttrs_list PySem.F.slot_list_insert PySem.F.type_list_insert mt_insert (pv 0) (pa_cons (pe_call GI hr (by rfl) gI kI bI .nil pass0 (pa_cons (pv 0) (pa_cons (pv 1) pa_nil))) (pa_cons (pv 1) pa_nil)))), ?_⟩
    have xl := pa.length
    refine ⟨.ref row, rfl, .inl ⟨rfl, _, SqL.of hx⟩, .ref row, rfl, .ref v, rfl, row, v, xs, rs, c, rfl, hx, pa, srt, hv, hl, fun i pl => ?_⟩
    refine ⟨.ref v, rfl, row, xs, i, .ref v, rfl, rfl, hx, Nat.lt_of_le_of_lt (show xs.length ≤ 2500 by omega) (by decide), by omega, by have := pl.1; omega, ?_⟩
    exact hq _ _ (pairs_ins hv pa i) (perm_ins rs c i) (place_sorted srt pl)
end
end BO

/-! the greedy way of finding a matching: where it fails there is a crowd -/
namespace K55
def cont (o r : Int × Int) : Prop := o.1 ≤ r.1 ∧ r.2 ≤ o.2
section
variable {n m : Nat} {inn out : Nat → Int × Int} {x : Int × Int} {o : Nat → Nat}
/-- reached from x by going from a range to the owner of a range around it, in k steps -/
inductive Rch (n : Nat) (inn out : Nat → Int × Int) (x : Int × Int) (o : Nat → Nat) : Nat → Nat → Prop
  | base {i : Nat} : i < n → cont (out (o i)) x → Rch n inn out x o 1 i
  | step {k i j : Nat} : Rch n inn out x o k i → j < n → cont (out (o j)) (inn i) → Rch n inn out x o (k + 1) j
theorem Rch.pos {k i : Nat} (h : Rch n inn out x o k i) : 1 ≤ k := by cases h <;> omega
theorem Rch.lt {k i : Nat} (h : Rch n inn out x o k i) : i < n := by cases h <;> assumption
/-- what the greedy way has done for n ranges, in ascending order of their low ends -/
structure Greedy (n m : Nat) (inn out : Nat → Int × Int) (o : Nat → Nat) : Prop where
  low : ∀ i j, i ≤ j → j < n → (inn i).1 ≤ (inn j).1
  lt : ∀ i, i < n → o i < m
  has : ∀ i, i < n → cont (out (o i)) (inn i)
  inj : ∀ i j, i < n → j < n → o i = o j → i = j
  best : ∀ i p, i < n → p < m → cont (out p) (inn i) → (∀ j, j < i → o j ≠ p) → (out (o i)).2 ≤ (out p).2
theorem no_way (g : Greedy n m inn out o) (hx : ∀ i, i < n → (inn i).1 ≤ x.1) : ∀ (k i q : Nat), Rch n inn out x o k i → (∀ k', k' < k → ¬ Rch n inn out x o k' i) → q < m → cont (out q) (inn i) → (∀ j, j < n → o j = q → i < j) →
    (∀ k' i', k' < k → Rch n inn out x o k' i' → ¬ cont (out q) (inn i')) → ¬ cont (out q) x → False := by
  intro k
  induction k with
  | zero => intro i q h; have := h.pos; omega
  | succ k ih =>
    intro i q h lev hq hc free nc nx
    have hi := h.lt
    have b := g.best i q hi hq hc (fun j hj e => by have := free j (by omega) e; omega)
    cases h with
    | base hi hx2 =>
      have := hx i hi
      apply nx
      unfold cont at *
      omega
    | @step _ i2 _ h2 hi hc2 =>
      have n1 := nc k i2 (by omega) h2
      have hi2 := h2.lt
      have l1 : (inn i2).1 < (inn i).1 := by unfold cont at *; omega
      have l2 : i2 < i := by
        apply Classical.byContradiction
        intro z
        have := g.low i i2 (by omega) hi2
        omega
      refine ih i2 (o i) h2 (fun k' hk h3 => lev (k' + 1) (by omega) (.step h3 hi hc2)) (g.lt i hi) hc2 (fun j hj e => ?_) (fun k' i3 hk h3 c3 => lev (k' + 1) (by omega) (.step h3 hi c3)) (fun c => lev 1 (by have := h2.pos; omega) (.base hi c))
      have := g.inj j i hj hi e
      omega
/-- x finds no place: all ranges around it, and around those whose places it would need, are taken by them -/
theorem crowd (g : Greedy n m inn out o) (hx : ∀ i, i < n → (inn i).1 ≤ x.1) (fail : ∀ p, p < m → cont (out p) x → ∃ i, i < n ∧ o i = p) :
    ∃ S : Nat → Prop, (∀ i, S i → i < n) ∧ ∀ p, p < m → (cont (out p) x ∨ ∃ i, S i ∧ cont (out p) (inn i)) → ∃ i, S i ∧ o i = p := by
  refine ⟨fun i => ∃ k, Rch n inn out x o k i, fun i ⟨k, h⟩ => h.lt, fun p hp h => ?_⟩
  rcases h with h | ⟨i, ⟨k, h⟩, c⟩
  · obtain ⟨i, hi, e⟩ := fail p hp h
    exact ⟨i, ⟨1, .base hi (by rw [e]; exact h)⟩, e⟩
  · by_cases fr : ∃ j, j < n ∧ o j = p
    · obtain ⟨j, hj, e⟩ := fr
      exact ⟨j, ⟨k + 1, .step h hj (by rw [e]; exact c)⟩, e⟩
    · exfalso
      have all : ∀ k i, Rch n inn out x o k i → ¬ cont (out p) (inn i) := by
        intro k
        induction k using Nat.strongRecOn with
        | ind k ih =>
          intro i h c
          refine no_way g hx k i p h (fun k' hk h3 => ih k' hk i h3 c) hp c (fun j hj e => (fr ⟨j, hj, e⟩).elim) (fun k' i' hk h3 => ih k' hk i' h3) (fun c2 => ?_)
          obtain ⟨j, hj, e⟩ := fail p hp c2
          exact fr ⟨j, hj, e⟩
      exact all k i h c
end
end K55

/-! the greedy way over lists of places -/
namespace K55b
open K55
abbrev Rg := Int × Int
def hasB (o r : Rg) : Bool := decide (o.1 ≤ r.1) && decide (r.2 ≤ o.2)
theorem hasB_iff {o r : Rg} : hasB o r = true ↔ cont o r := by unfold hasB cont; simp
/-- first, second: the ranges at a place; L: places of the first list by low ends; fr: places of the second list by high ends -/
def go (f s : Nat → Rg) : List Nat → List Nat → List (Nat × Option Nat)
  | [], _ => []
  | a :: L, fr => match fr.find? (fun p => hasB (s p) (f a)) with
    | none => (a, none) :: go f s L fr
    | some p => (a, some p) :: go f s L (fr.erase p)
/-- what has been done -/
structure Inv (f s : Nat → Rg) (fr0 : List Nat) (d : List (Nat × Nat)) (fr : List Nat) : Prop where
  free : ∀ q, q ∈ fr ↔ q ∈ fr0 ∧ ∀ e ∈ d, e.2 ≠ q
  nd : fr.Nodup
  srt : fr.Pairwise fun p q => (s p).2 ≤ (s q).2
  mem : ∀ e ∈ d, e.2 ∈ fr0 ∧ cont (s e.2) (f e.1)
  inj : (d.map (·.2)).Nodup
  best : ∀ (i : Nat) (e : Nat × Nat) (q : Nat), d[i]? = some e → q ∈ fr0 → cont (s q) (f e.1) → (∀ (j : Nat) (g : Nat × Nat), j < i → d[j]? = some g → g.2 ≠ q) → (s e.2).2 ≤ (s q).2
theorem find_first {s : Nat → Rg} {t : Nat → Bool} : ∀ {fr : List Nat} {p : Nat}, fr.find? t = some p → fr.Pairwise (fun p q => (s p).2 ≤ (s q).2) → p ∈ fr ∧ t p = true ∧ ∀ q ∈ fr, t q = true → (s p).2 ≤ (s q).2
  | [], p, h, _ => by simp at h
  | a :: fr, p, h, srt => by
    rw [List.find?_cons] at h
    cases e : t a with
    | true =>
      rw [e] at h
      have h : a = p := Option.some.inj h
      subst h
      refine ⟨List.mem_cons_self, e, fun q hq _ => ?_⟩
      rcases List.mem_cons.mp hq with z | z
      · rw [z]; exact Int.le_refl _
      · exact (List.pairwise_cons.mp srt).1 q z
    | false =>
      rw [e] at h
      obtain ⟨h1, h2, h3⟩ := find_first h (List.pairwise_cons.mp srt).2
      refine ⟨List.mem_cons_of_mem _ h1, h2, fun q hq tq => ?_⟩
      rcases List.mem_cons.mp hq with z | z
      · rw [z, e] at tq; cases tq
      · exact h3 q z tq
theorem inv_step {f s : Nat → Rg} {fr0 fr : List Nat} {d : List (Nat × Nat)} {a p : Nat} (v : Inv f s fr0 d fr) (h : fr.find? (fun p => hasB (s p) (f a)) = some p) : Inv f s fr0 (d ++ [(a, p)]) (fr.erase p) := by
  obtain ⟨h1, h2, h3⟩ := find_first h v.srt
  obtain ⟨p1, p2⟩ := (v.free p).mp h1
  constructor
  · intro q
    rw [v.nd.mem_erase_iff, v.free q]
    constructor
    · rintro ⟨n, m, k⟩
      refine ⟨m, fun e he => ?_⟩
      rcases List.mem_append.mp he with z | z
      · exact k e z
      · rw [List.mem_singleton.mp z]; exact fun z => n z.symm
    · rintro ⟨m, k⟩
      exact ⟨fun z => k (a, p) (List.mem_append_right _ List.mem_cons_self) z.symm, m, fun e he => k e (List.mem_append_left _ he)⟩
  · exact v.nd.erase _
  · exact v.srt.sublist List.erase_sublist
  · intro e he
    rcases List.mem_append.mp he with z | z
    · exact v.mem e z
    · rw [List.mem_singleton.mp z]; exact ⟨p1, hasB_iff.mp h2⟩
  · rw [List.map_append, List.nodup_append]
    refine ⟨v.inj, by simp, fun x hx y hy => ?_⟩
    obtain ⟨e, he, rfl⟩ := List.mem_map.mp hx
    rw [show y = p by simpa using hy]
    exact p2 e he
  · intro i e q hi hq c k
    rcases Nat.lt_or_ge i d.length with z | z
    · rw [List.getElem?_append_left z] at hi
      refine v.best i e q hi hq c fun j g hj hg => k j g hj ?_
      rw [List.getElem?_append_left (by omega)]
      exact hg
    · rw [List.getElem?_append_right z] at hi
      have e2 : e = (a, p) := by
        cases n : i - d.length with
        | zero => rw [n] at hi; exact (Option.some.inj hi).symm
        | succ _ => rw [n] at hi; simp at hi
      subst e2
      have iz : i = d.length := by
        cases n : i - d.length with
        | zero => omega
        | succ _ => rw [n] at hi; simp at hi
      refine h3 q ((v.free q).mpr ⟨hq, fun g hg => ?_⟩) (hasB_iff.mpr c)
      obtain ⟨j, hj⟩ := List.getElem?_of_mem hg
      have hl := (List.getElem?_eq_some_iff.mp hj).1
      exact k j g (by omega) (by rw [List.getElem?_append_left hl]; exact hj)
/-- where one finds no place, a set of done ones owns all places around it and around them -/
theorem inv_fail {f s : Nat → Rg} {fr0 fr : List Nat} {d : List (Nat × Nat)} {a m : Nat} (v : Inv f s fr0 d fr) (hm : ∀ q, q ∈ fr0 ↔ q < m) (low : ∀ (i j : Nat) (e g : Nat × Nat), i ≤ j → d[i]? = some e → d[j]? = some g → (f e.1).1 ≤ (f g.1).1) (hx : ∀ e ∈ d, (f e.1).1 ≤ (f a).1)
    (h : fr.find? (fun p => hasB (s p) (f a)) = none) : ∃ S : Nat × Nat → Prop, (∀ e, S e → e ∈ d) ∧ ∀ q, q < m → (cont (s q) (f a) ∨ ∃ e, S e ∧ cont (s q) (f e.1)) → ∃ e, S e ∧ e.2 = q := by
  let D : Nat → Nat × Nat := fun i => (d[i]?).getD (0, 0)
  have dg : ∀ i, i < d.length → d[i]? = some (D i) := fun i hi => by
    show d[i]? = some ((d[i]?).getD (0, 0))
    rw [List.getElem?_eq_getElem hi]
    rfl
  have dm : ∀ i, i < d.length → D i ∈ d := fun i hi => List.mem_of_getElem? (dg i hi)
  have gr : Greedy d.length m (fun i => f (D i).1) s (fun i => (D i).2) := by
    constructor
    · intro i j hij hj
      exact low i j _ _ hij (dg i (by omega)) (dg j hj)
    · intro i hi
      exact (hm _).mp (v.mem _ (dm i hi)).1
    · intro i hi
      exact (v.mem _ (dm i hi)).2
    · intro i j hi hj e
      have e1 : (d.map (·.2))[i]? = some (D i).2 := by rw [List.getElem?_map, dg i hi]; rfl
      have e2 : (d.map (·.2))[j]? = some (D j).2 := by rw [List.getElem?_map, dg j hj]; rfl
      rw [← e] at e2
      exact (List.getElem?_inj (by rw [List.length_map]; exact hi) v.inj).mp (e1.trans e2.symm)
    · intro i p hi hp c k
      refine v.best i (D i) p (dg i hi) ((hm p).mpr hp) c fun j g hj hg => ?_
      have : g = D j := by
        have := dg j (by omega)
        rw [hg] at this
        exact Option.some.inj this
      rw [this]
      exact k j hj
  obtain ⟨S, h1, h2⟩ := crowd gr (x := f a) (fun i hi => hx _ (dm i hi)) fun p hp c => by
    apply Classical.byContradiction
    intro z
    have : p ∈ fr := (v.free p).mpr ⟨(hm p).mpr hp, fun e he q => by
      obtain ⟨j, hj⟩ := List.getElem?_of_mem he
      have hl := (List.getElem?_eq_some_iff.mp hj).1
      have : D j = e := by
        have := dg j hl
        rw [hj] at this
        exact (Option.some.inj this).symm
      exact z ⟨j, hl, by show (D j).2 = p; rw [this]; exact q⟩⟩
    have := List.find?_eq_none.mp h p this
    exact this (hasB_iff.mpr c)
  refine ⟨fun e => ∃ i, S i ∧ D i = e, fun e ⟨i, hi, z⟩ => by rw [← z]; exact dm i (h1 i hi), fun q hq k => ?_⟩
  obtain ⟨i, hi, e⟩ := h2 q hq (by
    rcases k with k | ⟨e, ⟨i, hi, z⟩, k⟩
    · exact .inl k
    · exact .inr ⟨i, hi, by show cont (s q) (f (D i).1); rw [z]; exact k⟩)
  exact ⟨D i, ⟨i, hi, rfl⟩, e⟩
end K55b

/-! the greedy way with what is free kept in order -/
namespace K55d
open K55 K55b RN
/-- a place as it is kept: its high end, itself -/
def pr (s : Nat → Rg) (p : Nat) : Int × Int := ((s p).2, (p : Int))
abbrev Lt (r s : Int × Int) : Prop := r.1 < s.1 ∨ (r.1 = s.1 ∧ r.2 < s.2)
def Place (rs : List (Int × Int)) (c : Int × Int) (i : Nat) : Prop := i ≤ rs.length ∧ (∀ j r, j < i → rs[j]? = some r → Lt r c) ∧ ∀ j r, i ≤ j → rs[j]? = some r → Le c r
def keep (O : List Nat) (p : Nat) : Bool := !O.contains p
theorem keep_iff {O : List Nat} {p : Nat} : keep O p = true ↔ p ∉ O := by unfold keep; simp
theorem keep_cons {O : List Nat} {p q : Nat} : keep (p :: O) q = (!(q == p) && keep O q) := by
  unfold keep
  rw [List.contains_cons, Bool.not_or]
theorem push {s : Nat → Rg} {fr O : List Nat} {p : Nat} {rs : List (Int × Int)} (srt : (fr.map (pr s)).Pairwise Le) (nd : fr.Nodup) (hp : p ∈ fr) (hO : p ∉ O) (h1 : rs.Perm (pr s p :: (fr.filter (keep (p :: O))).map (pr s))) (h2 : rs.Pairwise Le) :
    rs = (fr.filter (keep O)).map (pr s) := by
  refine sorted_same ?_ h2 (srt.sublist (List.Sublist.map _ List.filter_sublist))
  refine h1.trans ?_
  have e : (fr.filter (keep (p :: O))) = (fr.filter (keep O)).erase p := by
    rw [(nd.sublist List.filter_sublist).erase_eq_filter, List.filter_filter]
    refine List.filter_congr fun q _ => ?_
    rw [keep_cons]
    rfl
  rw [e, ← List.map_cons]
  refine List.Perm.map _ ?_
  exact (List.perm_cons_erase (List.mem_filter.mpr ⟨hp, keep_iff.mpr hO⟩)).symm
theorem find_at {t : Nat → Bool} : ∀ {g : List Nat} {i p : Nat}, (∀ j q, j < i → g[j]? = some q → t q = false) → g[i]? = some p → t p = true → g.find? t = some p
  | [], i, p, _, e, _ => by simp at e
  | a :: g, 0, p, _, e, h => by
    have : a = p := by simpa using e
    subst this
    rw [List.find?_cons, h]
  | a :: g, i + 1, p, hj, e, h => by
    rw [List.find?_cons, hj 0 a (Nat.succ_pos _) rfl]
    exact find_at (i := i) (fun j q hlt hq => hj (j + 1) q (by omega) hq) e h
theorem find_no {t : Nat → Bool} {g : List Nat} (h : ∀ j q, j < g.length → g[j]? = some q → t q = false) : g.find? t = none := by
  rw [List.find?_eq_none]
  intro q hq
  obtain ⟨j, hj, rfl⟩ := List.mem_iff_getElem.mp hq
  rw [h j _ hj (List.getElem?_eq_getElem hj)]
  exact Bool.false_ne_true
theorem find_filter {t c : Nat → Bool} : ∀ {g : List Nat}, (∀ q ∈ g, t q = true → c q = true) → g.find? t = (g.filter c).find? t
  | [], _ => rfl
  | a :: g, h => by
    have ih := find_filter (t := t) (c := c) (g := g) fun q hq => h q (List.mem_cons_of_mem _ hq)
    rw [List.find?_cons, List.filter_cons]
    cases ht : t a with
    | true =>
      rw [h a List.mem_cons_self ht]
      simp [ht]
    | false =>
      rw [ih]
      cases c a with
      | true => simp [ht]
      | false => simp
theorem er_map {g : Nat → Int × Int} : ∀ (l : List Nat) (i : Nat), (l.map g).eraseIdx i = (l.eraseIdx i).map g
  | [], _ => rfl
  | _ :: _, 0 => rfl
  | a :: l, i + 1 => by
    show g a :: (l.map g).eraseIdx i = g a :: (l.eraseIdx i).map g
    rw [er_map l i]
theorem er_nodup : ∀ {l : List Nat} {i p : Nat}, l.Nodup → l[i]? = some p → l.eraseIdx i = l.erase p
  | [], _, _, _, e => by simp at e
  | a :: l, 0, p, _, e => by
    have : a = p := by simpa using e
    subst this
    show l = _
    rw [List.erase_cons_head]
  | a :: l, i + 1, p, nd, e => by
    have e : l[i]? = some p := e
    have nd2 := List.nodup_cons.mp nd
    have ne : a ≠ p := fun z => nd2.1 (by rw [z]; exact List.mem_of_getElem? e)
    show a :: l.eraseIdx i = _
    rw [er_nodup nd2.2 e, List.erase_cons_tail (by simpa using ne)]
theorem found {f s : Nat → Rg} {fr O : List Nat} {a i : Nat} (nd : fr.Nodup) (h1 : ∀ q ∈ O, (f a).1 < (s q).1) (h2 : ∀ q ∈ fr, q ∉ O → (s q).1 ≤ (f a).1) (pl : Place ((fr.filter (keep O)).map (pr s)) ((f a).2, 0) i) :
    (i < ((fr.filter (keep O)).map (pr s)).length → ∃ p, p ∈ fr ∧ p ∉ O ∧ ((fr.filter (keep O)).map (pr s))[i]? = some (pr s p) ∧ fr.find? (fun p => hasB (s p) (f a)) = some p ∧ ((fr.filter (keep O)).map (pr s)).eraseIdx i = ((fr.erase p).filter (keep O)).map (pr s)) ∧
    (¬ i < ((fr.filter (keep O)).map (pr s)).length → fr.find? (fun p => hasB (s p) (f a)) = none) := by
  have hf : fr.find? (fun p => hasB (s p) (f a)) = (fr.filter (keep O)).find? (fun p => hasB (s p) (f a)) := find_filter fun q hq ht => keep_iff.mpr fun m => by
    have := h1 q m
    have := (hasB_iff.mp ht).1
    omega
  have low : ∀ j q, (fr.filter (keep O))[j]? = some q → q ∈ fr ∧ q ∉ O ∧ (s q).1 ≤ (f a).1 := fun j q e => by
    obtain ⟨m1, m2⟩ := List.mem_filter.mp (List.mem_of_getElem? e)
    exact ⟨m1, keep_iff.mp m2, h2 q m1 (keep_iff.mp m2)⟩
  have no : ∀ j q, j < i → (fr.filter (keep O))[j]? = some q → hasB (s q) (f a) = false := fun j q hj e => by
    have := pl.2.1 j (pr s q) hj (by rw [List.getElem?_map, e]; rfl)
    have l := low j q e
    simp only [Lt, pr] at this
    unfold hasB
    rw [decide_eq_false (show ¬ (f a).2 ≤ (s q).2 by omega), Bool.and_false]
  rw [hf]
  refine ⟨fun hi => ?_, fun hi => ?_⟩
  · rw [List.length_map] at hi
    have e : (fr.filter (keep O))[i]? = some (fr.filter (keep O))[i] := List.getElem?_eq_getElem hi
    generalize (fr.filter (keep O))[i] = p at e
    have l := low i p e
    have ge := pl.2.2 i (pr s p) (Nat.le_refl _) (by rw [List.getElem?_map, e]; rfl)
    simp only [Le, pr] at ge
    have yes : hasB (s p) (f a) = true := hasB_iff.mpr ⟨l.2.2, by omega⟩
    refine ⟨p, l.1, l.2.1, by rw [List.getElem?_map, e]; rfl, find_at no e yes, ?_⟩
    rw [er_map]
    congr 1
    have ndg := nd.sublist (List.filter_sublist (p := keep O))
    have e2 : (fr.filter (keep O)).eraseIdx i = (fr.filter (keep O)).erase p := er_nodup ndg e
    rw [e2, ndg.erase_eq_filter, nd.erase_eq_filter, List.filter_filter, List.filter_filter]
    exact List.filter_congr fun q _ => Bool.and_comm _ _
  · refine find_no fun j q hj e => no j q ?_ e
    rw [List.length_map] at hi
    omega
end K55d

/-! sorted of a list of triples of ints, up and down -/
namespace GS3
open PySem PySem.Spec PyProof.Rows L2 SrtO
/-- a tuple of these ints -/
def IsTI (h : Heap) (v : Value) (ns : List Int) : Prop := ∃ (a : Addr) (o : Obj) (items : Array Value) (n : Nat), v = .ref a ∧ h.get? a = some o ∧ o.cls = .type "tuple" ∧ o.data = .seq items n ∧ IntsAre items.toList ns
theorem IsTI.keeps {h h' : Heap} {v : Value} {ns : List Int} (x : IsTI h v ns) (k : ∀ b o, h.get? b = some o → o.cls = .type "tuple" → h'.get? b = some o) : IsTI h' v ns := by
  obtain ⟨a, o, items, n, e, ho, hc, hd, hi⟩ := x
  exact ⟨a, o, items, n, e, k a o ho hc, hc, hd, hi⟩
section
variable {prog : Program} {w : World} {A : Around} {s : Shared}
theorem kat_ints {Q : Bool → Shared → Prop} : ∀ (ns ms : List Int) (vs ws : List Value) (i : Nat), IntsAre vs ns → IntsAre ws ms → ns.length = ms.length → Q (HT.lexLt ns ms) s → PySem.W.KatLex prog w A true false Q (vs.zip ws) i s
  | [], [], _, _, i, .nil, .nil, _, h => PySem.W.kat_nil h
  | x :: ns, y :: ms, _, _, i, .cons _ t h1, .cons _ u h2, hl, h => by
    have hl2 : ns.length = ms.length := by simpa using hl
    rw [HT.lexLt_cons] at h
    rw [List.zip_cons_cons]
    refine PySem.W.kat_cons (SeqAt.EqAt.int_int x t y u prog w _ _ ?_)
    refine PySem.W.kat_go (fun e1 => ?_) (fun e1 => ?_)
    · have ex : x = y := by simpa using e1
      rw [if_pos ex] at h
      exact PySem.W.kat_yes (kat_ints ns ms _ _ (i + 1) h1 h2 hl2 h)
    · have ex : ¬ x = y := by simpa using e1
      rw [if_neg ex] at h
      cases i with
      | zero => exact PySem.W.kat_no (oneLt_int h)
      | succ i => exact PySem.W.kat_no (PySem.W.kat_one _ _ (PyProof.Rows.lt_int h))
  | [], _ :: _, _, _, _, _, _, hl, _ => by simp at hl
  | _ :: _, [], _, _, _, _, _, hl, _ => by simp at hl
theorem ints_cmp {vs : List Value} {k : Value → List Int} {d : Nat} (hp : ∀ v ∈ vs, IsTI s.heap v (k v) ∧ (k v).length = d) : Cmp prog w A s (tuples' true) (fun p => p.1 ∈ vs) (lt2 fun v u => HT.lexLt (k v) (k u)) := by
  intro p q hm hm'
  obtain ⟨⟨a, o, xs, n, e, ho, hc, hd, hi⟩, l1⟩ := hp _ hm
  obtain ⟨⟨b, ob, ys, m, e2, ho2, hc2, hd2, hi2⟩, l2⟩ := hp _ hm'
  show wpAny (model prog w) A (keyLt' (tuples' true) p.1 q.1) (fun r s' => s' = s ∧ r = HT.lexLt (k p.1) (k q.1)) (fun _ _ => False) s
  generalize k p.1 = ns at *
  generalize k q.1 = ms at *
  rw [e, e2]
  refine PySem.W.kat_lt ho hd ho2 hd2 ?_
  have z1 := hi.length
  have z2 := hi2.length
  rw [Array.length_toList] at z1 z2
  rw [show decide (xs.size < ys.size) = false from decide_eq_false (by omega)]
  exact kat_ints ns ms _ _ 0 hi hi2 (by omega) ⟨rfl, rfl⟩
theorem firsts {h : Heap} : ∀ {vs : List Value} {k : Value → List Int}, (∀ v ∈ vs, IsTI h v (k v) ∧ (k v).length = 3) → ∃ fs : List Value, PySem.W.KatTups h vs fs ∧ fs.length = vs.length ∧ ∀ f ∈ fs, ∃ x t, f = Value.int x t
  | [], _, _ => ⟨[], PySem.W.KatTups.nil, rfl, fun _ hm => by simp at hm⟩
  | v :: vs, k, hp => by
    obtain ⟨fs, h1, h2, h3⟩ := firsts (vs := vs) (k := k) fun v' hm => hp v' (List.mem_cons_of_mem _ hm)
    obtain ⟨⟨a, o, xs, n, e, ho, hc, hd, hi⟩, l⟩ := hp v (List.mem_cons_self ..)
    generalize k v = ns at hi l
    subst e
    obtain ⟨y, ys, e⟩ : ∃ y ys, xs.toList = y :: ys := by
      cases q : xs.toList with
      | nil =>
        rw [q] at hi
        cases hi
        simp at l
      | cons y ys => exact ⟨y, ys, rfl⟩
    rw [e] at hi
    cases hi with
    | cons x t hr =>
      refine ⟨.int x t :: fs, PySem.W.KatTups.cons ho hc hd (by rw [← Array.getElem?_toList, e]; rfl) h1, by rw [List.length_cons, List.length_cons, h2], fun f hm => ?_⟩
      rcases List.mem_cons.mp hm with rfl | hm
      · exact ⟨x, t, rfl⟩
      · exact h3 f hm
theorem ints_sortable {a : Addr} {vs : List Value} {k : Value → List Int} (h0 : 0 < vs.length) (hp : ∀ v ∈ vs, IsTI s.heap v (k v) ∧ (k v).length = 3) (ha : ∀ o, s.heap.get? a = some o → o.cls ≠ .type "tuple") : SortableO prog w A s a vs fun v u => HT.lexLt (k v) (k u) := by
  intro h' keep
  have hp' : ∀ v ∈ vs, IsTI h' v (k v) ∧ (k v).length = 3 := fun v hm => ⟨(hp v hm).1.keeps fun b o e c => keep b o (fun z => by subst z; exact ha o e c) e, (hp v hm).2⟩
  obtain ⟨fs, h1, h2, h3⟩ := firsts hp'
  refine ⟨tuples' true, fun Q E hq => ?_, ints_cmp (s := { s with heap := h' }) hp'⟩
  refine PySem.W.kat_kind (T := .type "int") h1 (by omega) (fun f hm => ?_) (by rfl) ?_
  · obtain ⟨x, t, rfl⟩ := h3 f hm
    exact PySem.W.Looks.now
  · have e : (Value.type "int" != Value.type "tuple") = true := by first | decide +kernel | rfl | decide
    rw [e]
    exact hq
end
section
variable {X : Cx}
def rSortT (K : PySem.W.Frag) (b : Bool) (a : Addr) (H : Hp) (Q : VK) : Prop := ∃ (xs : List V) (k : V → List Int), SqL K H a xs ∧ (∀ x ∈ xs, ∃ t, x = V.ref t ∧ H t = some (.tup ((k x).map V.int)) ∧ (k x).length = 3) ∧
  ∀ ys p, (ys.Pairwise fun x y => HT.lexLt (k y) (k x) = false) → ys.Perm xs → H p = none → Q (.ref p) (upd H p (.lst (if b = true then ys.reverse else ys)))
theorem ti_of {pins : List (Addr × Obj)} {s : Shared} {σ : L2.St} {H : Hp} (I : Inv X pins σ H s) {t : Addr} {ns : List Int} (ht : H t = some (.tup (ns.map V.int))) : IsTI s.heap (.ref t) ns := by
  obtain ⟨_, its, r, o, ho, hc, n, hd⟩ := (show ObjOk X.prog X.w H s.heap t (.tup (ns.map V.int)) from I.hok _ _ ht)
  exact ⟨t, o, its.toArray, n, rfl, ho, hc, hd, intsAre_of r⟩
theorem not_tup {h : Heap} {a : Addr} {vs : List Value} {n : Nat} (ha : h.get? a = some (seqObj "list" vs.toArray n)) : ∀ o, h.get? a = some o → o.cls ≠ .type "tuple" := fun o e => by
  rw [ha] at e
  cases e
  intro c
  exact absurd (Value.type.inj c) (by decide)
theorem cr_sortedT3 : CallR X (.builtin "sorted") (fun vs H Q => ∃ a, vs = [.ref a] ∧ rSortT X.K false a H Q) := by
  intro pins s σ H vs us Q I r h
  obtain ⟨a, rfl, xs, k, hs, hx, q⟩ := h
  obtain ⟨its, rv, hl, hz⟩ := I.list hs
  obtain rfl := Vals.ref1 r
  obtain ⟨e1, e2⟩ := refs_back rv fun x m => by
    obtain ⟨t, e, _⟩ := hx x m
    exact ⟨t, e⟩
  have hp : ∀ v ∈ its, IsTI s.heap v (k (backV v)) ∧ (k (backV v)).length = 3 := fun v hv => by
    obtain ⟨t, rfl⟩ := e2 v hv
    have hm : V.ref t ∈ xs := by rw [e1]; exact List.mem_map.mpr ⟨_, hv, rfl⟩
    obtain ⟨t', e, ht, h3⟩ := hx _ hm
    cases e
    exact ⟨ti_of I ht, h3⟩
  have hzl : its.length ≤ sizeLine := by rw [← rv.length]; exact hz
  refine sorted_ord (NtL.swo_lexL fun u => k (backV u)) hl.isList hzl (fun h2 h₁ a' g kk => ints_sortable (s := { s with heap := h₁ }) (by omega) (fun v hv => ⟨(hp v hv).1.keeps fun b o e _ => (kk b o e).2, (hp v hv).2⟩) (not_tup g)) fun out h1 h2 => ?_
  have h3 : ∀ u ∈ out, ∃ a, u = Value.ref a := fun u hu => e2 u (h2.perm.mem_iff.mp hu)
  obtain ⟨n, hn⟩ := sortedAll_at s.heap its out.toArray
  have pm : (out.map backV).Perm xs := by rw [e1]; exact h2.perm.map _
  refine ⟨.ref _, upd H (s.heap.objs.size + 1) (.lst (out.map backV)), I.laid (t' := s.toks) (fun _ _ => sortedAll_old) (Nat.le_succ _) ⟨?_, out, n, vals_back h3, hn⟩, rfl, q _ _ (List.pairwise_map.mpr (h1.imp fun {x y} z => z)) pm (I.hok.fresh (Nat.le_succ _))⟩
  rw [pm.length_eq]
  exact hz
theorem cr_sortedT3R : CallRK X (.builtin "sorted") [Str.ofString "reverse"] (fun vs zs H Q => ∃ a, vs = [.ref a] ∧ zs = [.bl true] ∧ rSortT X.K true a H Q) := by
  intro pins s σ H vs zs us ws Q I r rz h
  obtain ⟨a, rfl, rfl, xs, k, hs, hx, q⟩ := h
  obtain ⟨its, rv, hl, hz⟩ := I.list hs
  obtain rfl := Vals.ref1 r
  obtain ⟨w1, rfl, ew⟩ := vals1 rz
  obtain rfl : w1 = Value.bool true := ew
  obtain ⟨e1, e2⟩ := refs_back rv fun x m => by
    obtain ⟨t, e, _⟩ := hx x m
    exact ⟨t, e⟩
  have hp : ∀ v ∈ its, IsTI s.heap v (k (backV v)) ∧ (k (backV v)).length = 3 := fun v hv => by
    obtain ⟨t, rfl⟩ := e2 v hv
    have hm : V.ref t ∈ xs := by rw [e1]; exact List.mem_map.mpr ⟨_, hv, rfl⟩
    obtain ⟨t', e, ht, h3⟩ := hx _ hm
    cases e
    exact ⟨ti_of I ht, h3⟩
  have hzl : its.length ≤ sizeLine := by rw [← rv.length]; exact hz
  refine SrtR.sorted_ordK (b := true) (fun _ => rfl) (PyProof.Rows.args_sorted_rev _ _) (fun _ => PyProof.Rows.args_list_sort_rev _ _) (NtL.swo_lexL fun u => k (backV u)) hl.isList hzl (fun h2 h₁ a' g kk => ints_sortable (s := { s with heap := h₁ }) (by omega) (fun v hv => ⟨(hp v hv).1.keeps fun b o e _ => (kk b o e).2, (hp v hv).2⟩) (not_tup g)) fun out h1 h2 => ?_
  have pm0 : out.Perm its := h2.perm.trans (List.reverse_perm _)
  have h3 : ∀ u ∈ out, ∃ a, u = Value.ref a := fun u hu => e2 u (pm0.mem_iff.mp hu)
  have h3r : ∀ u ∈ out.reverse, ∃ a, u = Value.ref a := fun u hu => h3 u (List.mem_reverse.mp hu)
  obtain ⟨n, hn⟩ := sortedAll_at s.heap its (if true = true then out.toArray.reverse else out.toArray)
  have pm : (out.map backV).Perm xs := by rw [e1]; exact pm0.map _
  have e0 : (if true = true then out.toArray.reverse else out.toArray) = out.reverse.toArray := by rw [if_pos rfl]; simp
  rw [e0] at hn ⊢
  refine ⟨.ref _, upd H (s.heap.objs.size + 1) (.lst (out.map backV).reverse), I.laid (t' := s.toks) (fun _ _ => sortedAll_old) (Nat.le_succ _) ⟨?_, out.reverse, n, by rw [← List.map_reverse]; exact vals_back h3r, hn⟩, rfl, q _ _ (List.pairwise_map.mpr (h1.imp fun {x y} z => z)) pm (I.hok.fresh (Nat.le_succ _))⟩
  rw [List.length_reverse, pm.length_eq]
  exact hz
end
end GS3

/-! enumerate of a tuple -/
namespace GE
open PySem PySem.Spec PyProof.Rows L2
/-- the tuple at a, each item in a new pair -/
def IteT (K : PySem.W.Frag) (a : Addr) : It :=
  ⟨fun i H => ∃ (xs : List V) (x : V), SqT K H a xs ∧ xs[i]? = some x, fun i H v H' => ∃ T x, v = .ref T ∧ H T = none ∧ H' = upd H T (.tup [.int (i : Nat), x]) ∧ ∀ xs, SqT K H a xs → xs[i]? = some x, fun i H => ∃ xs : List V, SqT K H a xs ∧ xs.length ≤ i⟩
theorem turn_enumT {P : Program} {w : World} {K : PySem.W.Frag} {elts : List Expr} {kk : Nat} {tpos : Pos} (a e it : Addr) :
    Turn P w K (.Tuple elts kk tpos) (IteT K a) [e, it] e (fun i h => (∃ old, IsEnum h e it ((i : Nat) : Int) old) ∧ h.IsTupleIter it a i ∧ e ≠ it) where
  mem := by simp
  obj := fun i h st b hb => by
    obtain ⟨⟨old, he⟩, ⟨o, ho, hc, hd⟩, _⟩ := st
    have e' : b = e ∨ b = it := by simpa using hb
    rcases e' with z | z
    · rw [z]; exact ⟨_, he, fun v q => nomatch q⟩
    · rw [z]; exact ⟨o, ho, fun v q => by rw [hd] at q; cases q⟩
  keep := fun i h h' st k => let ⟨⟨old, he⟩, hi, hne⟩ := st; ⟨⟨old, k e (by simp) _ he⟩, hi.at fun o q => k it (by simp) o q, hne⟩
  item := by
    intro X hP hw hK hc i pins s σ H E I hf st hg
    subst hP hw hK
    obtain ⟨⟨old, he⟩, hit, hne⟩ := st
    obtain ⟨xs, x, hq, hx⟩ := hg
    obtain ⟨its, rv, p, hz⟩ := I.tuple hq
    obtain ⟨u, hu, ru⟩ := rv.get hx
    have p2 : s.heap.IsTuple a its.toArray := p
    have hel : e < s.heap.objs.size := Heap.lt_size he
    have hil : it < s.heap.objs.size := by obtain ⟨_, q, _⟩ := hit; exact Heap.lt_size q
    have nai : a ≠ it := fun z => by
      obtain ⟨o1, g1, c1, _⟩ := hit
      obtain ⟨o2, g2, c2, _⟩ := p2
      rw [z, g1] at g2
      cases g2
      rw [c1] at c2
      exact absurd (Value.type.inj c2) (by decide)
    have nae : e ≠ a := fun z => by
      obtain ⟨o2, g2, c2, _⟩ := p2
      have g1 := he
      rw [z] at g1
      rw [g1] at g2
      cases g2
      exact absurd (Value.type.inj c2) (by decide)
    have hlt : i < its.toArray.size := by
      have := (List.getElem?_eq_some_iff.mp hu).1
      simpa using this
    refine wpAny_pyNext_enum_itemD (Draws.tuple (prog := X.prog) (w := X.w) (A := X.A.in1) (I.ok.hd hc) it a nai its.toArray) he ⟨hit, p2⟩ hlt hne (by simp [hne, nae]) fun x' h' tk px ho st' hT hsz hk => ?_
    have ex : x' = u := by
      have px2 : its[i]? = some x' := by simpa using px
      rw [hu] at px2
      exact (Option.some.inj px2).symm
    subst ex
    refine ⟨_, rfl, wpAny_letOwnedTupleGo_enum (s := { s with heap := h', toks := tk + 1 }) ho fun h'' he' sb => ?_⟩
    have hT2 : h''.get? s.heap.objs.size = some { cls := .type "tuple", data := .seq #[.int i tk, x'] } := (sb.2 _ (Nat.ne_of_gt hel)).trans hT
    have new : ObjOk X.prog X.w (upd H s.heap.objs.size (.tup [.int (i : Nat), x])) h'' s.heap.objs.size (.tup [.int (i : Nat), x]) :=
      ⟨by show 2 ≤ sizeLine; decide, [.int i tk, x'], .cons ⟨_, rfl⟩ (.cons ru .nil), ⟨_, hT2, rfl, _, rfl⟩⟩
    have I1 : Inv X pins σ (upd H s.heap.objs.size (.tup [.int (i : Nat), x])) { s with heap := h'', toks := tk + 1 } :=
      I.turnedNew (ch := [e, it]) (fun b ob hb q => (sb.2 b (fun z => hb (by simp [z]))).trans (hk b ob (fun z => hb (by simp [z])) (fun z => hb (by simp [z])) q)) hf (Nat.le_refl _) new
    refine ⟨.ref s.heap.objs.size, _, I1, rfl, ⟨_, x, rfl, I.hok.fresh (Nat.le_refl _), rfl, fun ys hy => by rw [I.tuple_inj hy hq]; exact hx⟩, ⟨⟨x', ?_⟩, st'.1.at fun o q => (sb.2 it (Ne.symm hne)).trans q, hne⟩, fun b hb => ?_⟩
    · have e1 : ((i + 1 : Nat) : Int) = (i : Int) + 1 := by omega
      rw [e1]; exact he'
    · have hb' : b < s.heap.objs.size := by
        have e' : b = e ∨ b = it := by simpa using hb
        rcases e' with z | z
        · rw [z]; exact hel
        · rw [z]; exact hil
      rw [upd_ne (Nat.ne_of_lt hb')]
      exact (hf b hb).1
  done := by
    intro X hP hw hK hc i pins s σ H E I hf st hg
    subst hP hw hK
    obtain ⟨⟨old, he⟩, hit, hne⟩ := st
    obtain ⟨xs, hq, hx⟩ := hg
    obtain ⟨its, rv, p, hz⟩ := I.tuple hq
    have p2 : s.heap.IsTuple a its.toArray := p
    obtain ⟨f0, f1, f2, f3, f4, f5⟩ := hf it (by simp)
    have hl := rv.length
    have D : Draws X.prog X.w X.A.in1 it [it, a] i (fun _ _ => True) (fun j h => j = i ∧ h.IsTupleIter it a i ∧ h.IsTuple a its.toArray) :=
      { live := fun _ _ st => let ⟨o, ho, _⟩ := st.2.1; ⟨o, ho⟩
        frame := fun _ _ _ st hk => ⟨st.1, st.2.1.at fun o e => hk it (by simp) o e, st.2.2.at fun o e => hk a (by simp) o e⟩
        item := fun j s Q E hj st _ => absurd st.1 (Nat.ne_of_lt hj)
        done := fun s Q E st hE => wpAny_nextOf_tuple_end (I.ok.hd hc) st.2.1 st.2.2 (by simp; omega) hE }
    exact wpAny_pyNext_enum_endD D he ⟨rfl, hit, p2⟩ fun h' eb => ⟨rfl, I.turned (t' := s.toks) (fun b o hb q => eb b o hb q) f0 f1 f3 f4 f5⟩
  self := fun A i s Q E st h => let ⟨⟨_, he⟩, _⟩ := st; wpAny_pyIter_enum he h
theorem meets_enum1 {v : Value} {o : Obj} {H : Heap → Prop} (B : Begins v o H) :
    Meets (Builtin.«enumerate.__new__» ⟨[.type "enumerate", v], []⟩) (fun _ R s => H s.heap ∧
      R (.ok (.ret (.ref (s.heap.push o).objs.size))) { s with heap := (s.heap.push o).push { cls := .type "enumerate", data := .fields #[.none, .bool false, .ref s.heap.objs.size, rawInt 0, .none, .none] } }) :=
  .of_wp fun prog w A R s h => by
    obtain ⟨hp, g, d, tk, os⟩ := s
    obtain ⟨h1, h⟩ := h
    have hsub := sub_enumerate
    have q1 : ∀ {A' : Around} {E : Value → Shared → Prop} {Q : Value → Shared → Prop}, Q (.ref hp.objs.size) ⟨hp.push o, g, d, tk, os⟩ → wpAny (model prog w) A' (pyIter v) Q E ⟨hp, g, d, tk, os⟩ :=
      fun q => B.iter prog w _ _ ⟨hp, g, d, tk, os⟩ _ h1 q
    wp_walk using q1
    refine wpAny_stack_any fun st => wpAny_pure ?_
    split
    · rename_i c _ _ _ _ _
      cases (c == Value.type "enumerate")
      · wp_walk using q1
        exact ⟨_, rfl, h⟩
      · wp_walk using q1
        exact ⟨_, rfl, h⟩
    · wp_walk using q1
      exact ⟨_, rfl, h⟩
theorem call_enum1 {prog : Program} {w : World} {A : Around} {E : Value → Shared → Prop} {s : Shared} {t : Addr} {o : Obj} {H : Heap → Prop} {Q : Value → Shared → Prop} (B : Begins (.ref t) o H) (h1 : H s.heap)
    (h : ∀ h', IsEnum h' (s.heap.objs.size + 1) s.heap.objs.size 0 .none → h'.get? s.heap.objs.size = some o → h'.objs.size = s.heap.objs.size + 2 →
      (∀ b o, s.heap.get? b = some o → h'.get? b = some o) → Q (.ref (s.heap.objs.size + 1)) { s with heap := h' }) :
    wpAny (model prog w) A (call (.type "enumerate") [.ref t]) Q E s := by
  refine callType_new F.called_enumerate (by decide) (F.typeCall_enumerate_1 _) (F.newCall_enumerate_1 _) (fun obj => F.args_object_init_2 obj _) F.entry_enumerate_new (meets_enum1 B) ⟨h1, ?_⟩
  have hz : (s.heap.push o).objs.size = s.heap.objs.size + 1 := Heap.size_push ..
  show _ ∧ _
  rw [hz]
  have he : IsEnum ((s.heap.push o).push { cls := .type "enumerate", data := .fields #[.none, .bool false, .ref s.heap.objs.size, rawInt 0, .none, .none] }) (s.heap.objs.size + 1) s.heap.objs.size 0 .none := by
    have := Heap.get?_push_size (s.heap.push o) (o := { cls := .type "enumerate", data := .fields #[.none, .bool false, .ref s.heap.objs.size, rawInt 0, .none, .none] }) rfl
    rw [hz] at this
    exact this
  exact ⟨⟨_, he, rfl⟩, h _ he (Heap.get?_push_of_some _ (Heap.get?_push_size _ B.free)) (by rw [Heap.size_push, hz]) fun b o x => Heap.get?_push_of_some _ (Heap.get?_push_of_some _ x)⟩
/-- enumerate of a list or a tuple -/
def iEnumB (K : PySem.W.Frag) (ta : TA) : TI := fun σ H R => ta σ H fun vs H1 => ∃ a, vs = [.ref a] ∧ ((∃ xs, SqL K H1 a xs ∧ R (Ite K a) H1) ∨ ∃ xs, SqT K H1 a xs ∧ R (IteT K a) H1)
theorem pi_enumB {X : Cx} {e : Expr} {ta : TA} {p pos tpos : Pos} {elts : List Expr} {kk : Nat} (hg : Gl X "enumerate") (hm : X.mg "enumerate" = none) (ha : PA X [e] ta) (hs : starEach [e] X.env = [(false, eval e X.env)] := by rfl) :
    PI X (.Tuple elts kk tpos) (.Call (.Name "enumerate" p) [e] [] pos) (iEnumB X.K ta) := by
  refine ⟨fun pins s σ H R I h => ?_⟩
  refine Call_ (ld_blt I hg hm boot_enumerate (PyProof.Rows.callWith_type1 (thn (ha.run pos pins s σ H _ I h) fun us s1 ⟨vs, H1, I1, r1, q1⟩ => ?_) hs rfl))
  obtain ⟨a, ex, q⟩ := q1
  subst ex
  have top : ∀ b, b ∈ [s1.heap.objs.size + 1, s1.heap.objs.size] → s1.heap.objs.size ≤ b := fun b hb => by
    have e' : b = s1.heap.objs.size + 1 ∨ b = s1.heap.objs.size := by simpa using hb
    rcases e' with z | z
    · rw [z]; exact Nat.le_add_right _ _
    · rw [z]; exact Nat.le_refl _
  cases r1 with
  | cons r rr =>
    cases rr
    cases r
    rcases q with ⟨xs, hq, q⟩ | ⟨xs, hq, q⟩
    · obtain ⟨its, rv, p', hz⟩ := I1.list hq
      refine call_enumerate_list p'.isList fun h' he hit hsz hk => wpAny_pyIter_enum he ?_
      have I2 : Inv X pins σ H1 { s1 with heap := h' } := I1.kept (t' := s1.toks) hk
      exact ⟨s1.heap.objs.size + 1, [s1.heap.objs.size + 1, s1.heap.objs.size], _, _, H1, rfl, I2, turn_enum a (s1.heap.objs.size + 1) s1.heap.objs.size, ⟨⟨.none, he⟩, hit, Nat.succ_ne_self _⟩, fun b hb => I1.fpOk (top b hb) (I1.hok.fresh (top b hb)), q⟩
    · obtain ⟨its, rv, p', hz⟩ := I1.tuple hq
      have p2 : s1.heap.IsTuple a its.toArray := p'
      refine call_enum1 (begins_tuple a its.toArray) p2 fun h' he hit hsz hk => wpAny_pyIter_enum he ?_
      have I2 : Inv X pins σ H1 { s1 with heap := h' } := I1.kept (t' := s1.toks) hk
      exact ⟨s1.heap.objs.size + 1, [s1.heap.objs.size + 1, s1.heap.objs.size], _, _, H1, rfl, I2, turn_enumT a (s1.heap.objs.size + 1) s1.heap.objs.size, ⟨⟨.none, he⟩, ⟨_, hit, rfl, rfl⟩, Nat.succ_ne_self _⟩, fun b hb => I1.fpOk (top b hb) (I1.hok.fresh (top b hb)), q⟩
theorem walk_enumT {K : PySem.W.Frag} {a : Addr} {xs : List V} : Walk (IteT K a) xs.length (fun H => SqT K H a xs) (YPair (fun i => some (.int (i : Nat))) (fun i => xs[i]?)) :=
  ⟨fun i H hi q => ⟨xs, xs[i], q, by simp [hi]⟩, fun H q => ⟨xs, q, Nat.le_refl _⟩, fun i H v H' _ q y => by
    obtain ⟨T, x, h1, h2, h3, h4⟩ := y
    exact ⟨T, _, x, h1, h2, h3, rfl, h4 xs q⟩⟩
/-- enumerate of a list or a tuple: a walk over it, by what it gives -/
def iEnumS (K : PySem.W.Frag) (ta : TA) : TI := fun σ H R => ta σ H fun vs H1 => ∃ a xs, vs = [.ref a] ∧ PH.Sq K H1 a xs ∧
  ∀ (J : It) (G : Hp → Prop), Walk J xs.length G (YPair (fun i => some (.int (i : Nat))) (fun i => xs[i]?)) → (∀ H', L2.Same H1 H' → G H') → R J H1
theorem pi_enumS {X : Cx} {e : Expr} {ta : TA} {p pos tpos : Pos} {elts : List Expr} {kk : Nat} (hg : Gl X "enumerate") (hm : X.mg "enumerate" = none) (ha : PA X [e] ta) (hs : starEach [e] X.env = [(false, eval e X.env)] := by rfl) :
    PI X (.Tuple elts kk tpos) (.Call (.Name "enumerate" p) [e] [] pos) (iEnumS X.K ta) := by
  refine ⟨fun pins s σ H R I h => ?_⟩
  refine Call_ (ld_blt I hg hm boot_enumerate (PyProof.Rows.callWith_type1 (thn (ha.run pos pins s σ H _ I h) fun us s1 ⟨vs, H1, I1, r1, q1⟩ => ?_) hs rfl))
  obtain ⟨a, xs, ex, hq, q⟩ := q1
  subst ex
  have top : ∀ b, b ∈ [s1.heap.objs.size + 1, s1.heap.objs.size] → s1.heap.objs.size ≤ b := fun b hb => by
    have e' : b = s1.heap.objs.size + 1 ∨ b = s1.heap.objs.size := by simpa using hb
    rcases e' with z | z
    · rw [z]; exact Nat.le_add_right _ _
    · rw [z]; exact Nat.le_refl _
  cases r1 with
  | cons r rr =>
    cases rr
    cases r
    rcases hq with hq | hq
    · obtain ⟨its, rv, p', hz⟩ := I1.list hq
      refine call_enumerate_list p'.isList fun h' he hit hsz hk => wpAny_pyIter_enum he ?_
      have I2 : Inv X pins σ H1 { s1 with heap := h' } := I1.kept (t' := s1.toks) hk
      exact ⟨s1.heap.objs.size + 1, [s1.heap.objs.size + 1, s1.heap.objs.size], _, _, H1, rfl, I2, turn_enum a (s1.heap.objs.size + 1) s1.heap.objs.size, ⟨⟨.none, he⟩, hit, Nat.succ_ne_self _⟩, fun b hb => I1.fpOk (top b hb) (I1.hok.fresh (top b hb)), q _ _ walk_enum fun H' s => s.seq hq⟩
    · obtain ⟨its, rv, p', hz⟩ := I1.tuple hq
      have p2 : s1.heap.IsTuple a its.toArray := p'
      refine call_enum1 (begins_tuple a its.toArray) p2 fun h' he hit hsz hk => wpAny_pyIter_enum he ?_
      have I2 : Inv X pins σ H1 { s1 with heap := h' } := I1.kept (t' := s1.toks) hk
      exact ⟨s1.heap.objs.size + 1, [s1.heap.objs.size + 1, s1.heap.objs.size], _, _, H1, rfl, I2, turn_enumT a (s1.heap.objs.size + 1) s1.heap.objs.size, ⟨⟨.none, he⟩, ⟨_, hit, rfl, rfl⟩, Nat.succ_ne_self _⟩, fun b hb => I1.fpOk (top b hb) (I1.hok.fresh (top b hb)), q _ _ walk_enumT fun H' s => KA.SqT_same s hq⟩
end GE

/-! == and != of two instances by an own __eq__, both answers -/
namespace GN
open PySem PySem.Spec PyProof.Rows L2
section
variable {M : Model} {prog : Program} {w : World} {A : Around} {E : Value → Shared → Prop} {s : Shared} {K : PySem.W.Frag} {x C L f : Addr} {ox : Obj} {od : Option Obj}
theorem entry_ne {y : Value} (X : K.In s.heap) (I : PySem.W.InstAt s.heap x ox C od) (hs : PySem.W.findIn K (.ref C) "__eq__" = some (some (.ref f))) (hf : PySem.W.isFn K (.ref f) = true) (hu : A.units < cLine) {Q : Fin → Shared → Prop}
    (hcall : wpAny (model prog w) A (call (.ref f) [.ref x, y]) (fun v s' => ∃ b, v = .bool b ∧ Q (.done (.ret (.bool (!b)))) s') E s) :
    wpAny (model prog w) A (Builtin.«object.__ne__» ⟨[.ref x, y], []⟩) Q E s := by
  unfold Builtin.«object.__ne__»
  repeat (first
    | with_reducible refine wpAny_cRoomFor hu ?_
    | (refine wpAny_bind (m := callSpecialIfBound? (.ref x) (Str.ofString "__eq__") [y])
        (PySem.W.ifBound_K X I hs hf (wpAny_mono hcall (fun r s' hr => by
          obtain ⟨b, rfl, hq⟩ := hr
          repeat (first | exact hq | exact wpAny_pure hq | exact wpAny_truthy_bool hq | (refine wpAny_bind (m := truthy (.bool _)) (wpAny_truthy_bool ?_)) | wp_step)) fun _ _ e => e)))
    | wp_step)
theorem ifBound_ne {args : List Value} {Q : Option Value → Shared → Prop} (X : K.In s.heap) (I : PySem.W.InstAt s.heap x ox C od) (hs : PySem.W.findIn K (.ref C) "__ne__" = some (some (.builtin "object.__ne__")))
    (h : wpAny M A (call (.builtin "object.__ne__") (.ref x :: args)) (fun v => Q (some v)) E s) : wpAny M A (callSpecialIfBound? (.ref x) "__ne__" args) Q E s := by
  simp only [callSpecialIfBound?, bindSpecialIfBound?]
  refine wpAny_holding (wpAny_bind (wpAny_bind (wpAny_bind (I.type.here ((PySem.W.looks_findIn X hs).here ?_)))))
  refine wpAny_bind (wpAny_askSetting (wpAny_ite ?_))
  have fin : wpAny M A (call (.builtin "object.__ne__") ([.ref x] ++ args) >>= fun v => pure (some v)) Q E s := wpAny_bind (wpAny_mono h (fun v s' h' => wpAny_pure h') fun _ _ h' => h')
  split
  · exact wpAny_bind (wpAny_of_eq (F.cmp_object.ne.bind _) (wpAny_pure (by exact fin)))
  · exact wpAny_tryCatch (wpAny_bind (wpAny_of_eq (F.cmp_object.ne.bind _) (wpAny_pure (by exact fin))))
theorem rc_ne {b tb : Value} {Q : Value → Shared → Prop} (hu : A.units + 1 < cLine) (X : K.In s.heap) (I : PySem.W.InstAt s.heap x ox C od) (hb : PySem.W.Looks (model prog w) s.heap (typeOf b) tb) (hn : PySem.W.notFirst K C tb = true)
    (hm : PySem.W.mroIn K C (.type "object") = some true) (hs : PySem.W.findIn K (.ref C) "__eq__" = some (some (.ref f))) (hf : PySem.W.isFn K (.ref f) = true) (hne : PySem.W.findIn K (.ref C) "__ne__" = some (some (.builtin "object.__ne__")))
    (h : wpAny (model prog w) A.in1 (call (.ref f) [.ref x, b]) (fun v s' => ∃ r, v = .bool r ∧ Q (.bool (!r)) s') E s) : wpAny (model prog w) A (richCompare .NotEq (.ref x) b) Q E s := by
  have one : wpAny (model prog w) A (tryCompare (.ref x) "__ne__" b) (fun r s' => ∃ v, r = some v ∧ Q v s') E s := by
    unfold tryCompare
    refine wpAny_bind (ifBound_ne X I hne (wpAny_call (codeAny_call_builtin F.cmp_object.ne.plain F.cmpEntry_ne (PySem.W.check_slot F.cmpKind_ne F.cmpSplit_ne (I.type.andThen (PySem.W.looks_mroIn X hm)) (F.cmpArgs_ne _ _)
      (entry_ne (A := A.in1) X I hs hf hu (wpAny_mono h (fun v s' hv => ?_) fun _ _ e => e))))))
    obtain ⟨r, rfl, hq⟩ := hv
    first
      | exact ⟨r, rfl, wpAny_pure ⟨_, rfl, hq⟩⟩
      | exact ⟨r, rfl, wpAny_pure (wpAny_pure ⟨_, rfl, hq⟩)⟩
      | exact ⟨r, rfl, _, rfl, hq⟩
  unfold richCompare
  simp only [oneThing_ref]
  refine wpAny_holding (wpAny_bind (wpAny_cRoomFor (Nat.lt_of_succ_lt hu) ?_))
  refine wpAny_bind (I.type.here (wpAny_bind (hb.here ?_)))
  split
  · rename_i q
    have e : PySem.W.subIn K tb (.ref C) = some false := by
      rcases Bool.or_eq_true_iff.mp hn with e | e
      · rw [beq_iff_eq.mp e] at q; simp at q
      · exact beq_iff_eq.mp e
    refine wpAny_bind ((PySem.W.looks_subIn X e).here ?_)
    simp only [Bool.false_eq_true, if_false]
    refine wpAny_bind (wpAny_mono one (fun r s' z => ?_) fun _ _ e => e)
    obtain ⟨v, rfl, hq⟩ := z
    exact wpAny_pure hq
  · refine wpAny_bind (wpAny_pure ?_)
    simp only [Bool.false_eq_true, if_false]
    refine wpAny_bind (wpAny_mono one (fun r s' z => ?_) fun _ _ e => e)
    obtain ⟨v, rfl, hq⟩ := z
    exact wpAny_pure hq
end
section
variable {X : Cx} {n : Nat} {CX : CXT} {C f : Addr} {fd : FuncData} {ps : List Str} {sp : Sp} {E : XK}
/-- a def of the text, called from below -/
theorem call_own (F : FnOk X.prog X.w X.K X.mg X.base CX n f fd ps sp) (hb : Binds X.K fd ps []) (hx : Passes CX X E) {A : Around} (sb : Sub X n A) {pins : List (Addr × Obj)} {σ : L2.St} {H : Hp} {s : Shared} (I : Inv X pins σ H s) {vs : List V} {us : List Value} (r2 : Vals vs us) {Q : VK} (hsp : sp vs H Q E) :
    wpAny (model X.prog X.w) A (call (.ref f) us) (fun v s' => ∃ z H', Inv X pins σ H' s' ∧ RelV z v ∧ Q z H') X.xe s := by
  have e0 : Env0 X.prog X.w X.K X.mg X.base A X.stack s H := by
    have e := I.env0
    exact ⟨by rw [sb.fr]; exact e.frames, e.mod, e.bs, e.bsz, e.funs, e.frf, e.hok, e.bare⟩
  have hl := F.len _ _ _ _ hsp
  refine wpAny_call (codeAny_mono (F.run A X.stack s H ⟨us, []⟩ us vs _ E sb.room e0 (by
    have := hb s us I.kIn (by rw [List.append_nil, ← r2.length]; exact hl)
    simpa using this) r2 hsp) fun r s' hq => ?_)
  cases r with
  | error e => exact hx pins σ H s e s' I hq
  | ok fl =>
    cases fl with
    | ret w =>
      obtain ⟨z, H', I', rz, ez⟩ := I.after hq
      exact ⟨z, H', I', rz, ez⟩
    | next => exact False.elim hq
    | brk => exact False.elim hq
    | cont => exact False.elim hq
/-- what == (neg: !=) of two instances of the class asks -/
def rOwn (C : Addr) (sp : Sp) (E : XK) (neg : Bool) : R2 := fun x y H Q => ∃ a b dx dy fs gs, x = .ref a ∧ y = .ref b ∧ H a = some (.ins C dx fs) ∧ H b = some (.ins C dy gs) ∧ sp [.ref a, .ref b] H (fun v H' => ∃ r, v = .bl r ∧ Q (.bl (neg != r)) H') E
theorem op_eqOwn (F : FnOk X.prog X.w X.K X.mg X.base CX n f fd ps sp) (hr : Room n X.A) (hs : PySem.W.findIn X.K (.ref C) "__eq__" = some (some (.ref f))) (hf : PySem.W.isFn X.K (.ref f) = true) (hb : Binds X.K fd ps []) (hx : Passes CX X E) : OpR X (compareOp .Eq) (rOwn C sp E false) := by
  intro pins s σ H x y v u Q I rx ry hq
  obtain ⟨a, b, dx, dy, fs, gs, rfl, rfl, ha, hb', hsp⟩ := hq
  cases rx
  cases ry
  obtain ⟨mA, J, _⟩ := ins_get I.hok ha
  obtain ⟨mB, J', _⟩ := ins_get I.hok hb'
  obtain ⟨od, J, _⟩ := J.look
  obtain ⟨od', J', _⟩ := J'.look
  have sb : Sub X n X.A := ⟨hr, rfl⟩
  have r2 : Vals [V.ref a, V.ref b] [Value.ref a, Value.ref b] := .cons rfl (.cons rfl .nil)
  obtain ⟨m, hF⟩ := I.fr
  show wpAny (model X.prog X.w) X.A (richCompare .Eq _ _) (EP X pins σ Q) X.xe s
  refine PySem.W.cmp_K (op := .Eq) (tb := .ref C) sb.room.units0 hF I.ok.mod.kin J J'.type (by simp [PySem.W.notFirst]) hs hf ?_
  refine wpAny_mono (call_own F hb hx sb I r2 hsp) (fun v s' hv => ?_) fun _ _ e => e
  obtain ⟨z, H', I', rz, r, rfl, q⟩ := hv
  cases rz
  exact ⟨.bl r, H', I', rfl, by cases r <;> exact q⟩
theorem op_neOwn (F : FnOk X.prog X.w X.K X.mg X.base CX n f fd ps sp) (hr : Room (n + 1) X.A) (hs : PySem.W.findIn X.K (.ref C) "__eq__" = some (some (.ref f))) (hf : PySem.W.isFn X.K (.ref f) = true) (hm : PySem.W.mroIn X.K C (.type "object") = some true)
    (hne : PySem.W.findIn X.K (.ref C) "__ne__" = some (some (.builtin "object.__ne__"))) (hb : Binds X.K fd ps []) (hx : Passes CX X E) : OpR X (compareOp .NotEq) (rOwn C sp E true) := by
  intro pins s σ H x y v u Q I rx ry hq
  obtain ⟨a, b, dx, dy, fs, gs, rfl, rfl, ha, hb', hsp⟩ := hq
  cases rx
  cases ry
  obtain ⟨mA, J, _⟩ := ins_get I.hok ha
  obtain ⟨mB, J', _⟩ := ins_get I.hok hb'
  obtain ⟨od, J, _⟩ := J.look
  obtain ⟨od', J', _⟩ := J'.look
  have sb : Sub X (n + 1) X.A := ⟨hr, rfl⟩
  have r2 : Vals [V.ref a, V.ref b] [Value.ref a, Value.ref b] := .cons rfl (.cons rfl .nil)
  show wpAny (model X.prog X.w) X.A (richCompare .NotEq _ _) (EP X pins σ Q) X.xe s
  refine rc_ne (tb := .ref C) sb.in1.room.units0 I.kIn J J'.type (by simp [PySem.W.notFirst]) hm hs hf hne ?_
  refine wpAny_mono (call_own F hb hx sb.in1 I r2 hsp) (fun v s' hv => ?_) fun _ _ e => e
  obtain ⟨z, H', I', rz, r, rfl, q⟩ := hv
  cases rz
  exact ⟨r, rfl, .bl (!r), H', I', rfl, by cases r <;> exact q⟩
end
end GN

set_option pp.maxSteps 900
/-! _best_places -/
namespace P5P
open PySem PySem.Spec PyProof.Rows L2 KA KD PH PM RM RN K55b K55d
abbrev sBP : Stmt := topS 17
theorem scBP : FnScope ["first", "second", "places", "at", "low", "high", "inner", "place", "outer", "free", "_", "end", "found"] ["first", "second"] (defScope sBP) := ⟨rfl, rfl, rfl, by decide +kernel, rfl, by decide +kernel, by decide +kernel⟩
def at0 (rs : List (Int × Int)) (i : Nat) : Int × Int := (rs[i]?).getD (0, 0)
def k3 (rs : List (Int × Int)) (i : Nat) : List Int := [(at0 rs i).1, (at0 rs i).2, (i : Int)]
/-- tuples of ints stand at the refs of xs -/
def TAt (H : Hp) : List V → List (List Int) → Prop
  | [], [] => True
  | x :: xs, l :: ls => (∃ p, x = .ref p ∧ H p = some (.tup (l.map V.int))) ∧ TAt H xs ls
  | _, _ => False
theorem TAt.map {H H' : Hp} (e : ∀ p (l : List Int), H p = some (.tup (l.map V.int)) → H' p = some (.tup (l.map V.int))) : ∀ {xs : List V} {ls : List (List Int)}, TAt H xs ls → TAt H' xs ls
  | [], [], _ => trivial
  | x :: xs, l :: ls, ⟨⟨p, h1, h2⟩, h3⟩ => ⟨⟨p, h1, e p l h2⟩, TAt.map e h3⟩
  | [], _ :: _, h => h.elim
  | _ :: _, [], h => h.elim
theorem TAt.same {H H' : Hp} {xs : List V} {ls : List (List Int)} (h : TAt H xs ls) (e : Same H H') : TAt H' xs ls := h.map fun p l g => e _ _ g
theorem TAt.length {H : Hp} : ∀ {xs : List V} {ls : List (List Int)}, TAt H xs ls → xs.length = ls.length
  | [], [], _ => rfl
  | x :: xs, r :: rs, ⟨_, h3⟩ => by rw [List.length_cons, List.length_cons, TAt.length h3]
  | [], _ :: _, h => h.elim
  | _ :: _, [], h => h.elim
theorem TAt.append {H : Hp} : ∀ {xs ys : List V} {rs ss : List (List Int)}, TAt H xs rs → TAt H ys ss → TAt H (xs ++ ys) (rs ++ ss)
  | [], _, [], _, _, h => h
  | x :: xs, _, r :: rs, _, ⟨h1, h2⟩, h => ⟨h1, TAt.append h2 h⟩
  | [], _, _ :: _, _, h, _ => h.elim
  | _ :: _, _, [], _, h, _ => h.elim
theorem TAt.at {H : Hp} : ∀ {xs : List V} {ls : List (List Int)} {i : Nat} {x : V}, TAt H xs ls → xs[i]? = some x → ∃ l p, ls[i]? = some l ∧ x = .ref p ∧ H p = some (.tup (l.map V.int))
  | [], [], _, _, _, e => by simp at e
  | x :: xs, r :: cs, 0, _, ⟨⟨p, h1, h2⟩, h3⟩, e => by
    simp only [List.getElem?_cons_zero, Option.some.injEq] at e
    subst e
    exact ⟨r, p, rfl, h1, h2⟩
  | x :: xs, r :: cs, i + 1, _, ⟨_, h3⟩, e => TAt.at (i := i) h3 e
  | [], _ :: _, _, _, h, _ => h.elim
  | _ :: _, [], _, _, h, _ => h.elim
/-- the ints at a ref -/
def kT (H : Hp) : V → List Int
  | .ref p => match H p with
    | some (.tup xs) => xs.map fun v => match v with | .int i => i | _ => 0
    | _ => []
  | _ => []
theorem kT_at {H : Hp} {p : Addr} {l : List Int} (h : H p = some (.tup (l.map V.int))) : kT H (.ref p) = l := by
  show (match H p with | some (.tup xs) => xs.map (fun v => match v with | .int i => i | _ => 0) | _ => []) = l
  rw [h]
  show (l.map V.int).map _ = l
  rw [List.map_map]
  exact (List.map_congr_left fun _ _ => rfl).trans (List.map_id l)
/-- the place that a triple tells -/
def gT (H : Hp) (v : V) : Nat := ((kT H v).getD 2 0).toNat
theorem tat_of {H : Hp} {rs : List (Int × Int)} : ∀ {ys : List V}, (∀ y ∈ ys, ∃ p, y = .ref p ∧ H p = some (.tup ((k3 rs (gT H y)).map V.int))) → TAt H ys ((ys.map (gT H)).map (k3 rs))
  | [], _ => trivial
  | y :: ys, h => ⟨h y List.mem_cons_self, tat_of fun z hz => h z (List.mem_cons_of_mem _ hz)⟩
theorem tat_mem {H : Hp} {rs : List (Int × Int)} : ∀ {xs : List V} {L : List Nat}, TAt H xs (L.map (k3 rs)) → xs.map (gT H) = L ∧ ∀ y ∈ xs, ∃ p, y = .ref p ∧ H p = some (.tup ((k3 rs (gT H y)).map V.int)) ∧ kT H y = k3 rs (gT H y)
  | [], [], _ => ⟨rfl, fun _ z => (List.not_mem_nil z).elim⟩
  | x :: xs, j :: L, ⟨⟨p, h1, h2⟩, h3⟩ => by
    obtain ⟨e, all⟩ := tat_mem h3
    subst h1
    have k := kT_at h2
    have g : gT H (.ref p) = j := by
      unfold gT
      rw [k]
      show ((j : Int)).toNat = j
      omega
    refine ⟨by rw [List.map_cons, g, e], fun y hy => ?_⟩
    rcases List.mem_cons.mp hy with z | z
    · subst z
      exact ⟨p, rfl, by rw [g]; exact h2, by rw [g]; exact k⟩
    · exact all y z
  | [], _ :: _, h => h.elim
  | _ :: _, [], h => h.elim
def ordL (rs : List (Int × Int)) (i j : Nat) : Prop := HT.lexLt (k3 rs j) (k3 rs i) = false
theorem sorted_trips {H : Hp} {rs : List (Int × Int)} {xs ys : List V} {n : Nat} (h : TAt H xs ((List.range n).map (k3 rs))) (srt : ys.Pairwise fun x y => HT.lexLt (kT H y) (kT H x) = false) (pm : ys.Perm xs) :
    ∃ L : List Nat, TAt H ys (L.map (k3 rs)) ∧ L.Perm (List.range n) ∧ L.Pairwise (ordL rs) := by
  obtain ⟨e, all⟩ := tat_mem h
  have all2 : ∀ y ∈ ys, ∃ p, y = .ref p ∧ H p = some (.tup ((k3 rs (gT H y)).map V.int)) ∧ kT H y = k3 rs (gT H y) := fun y hy => all y (pm.mem_iff.mp hy)
  refine ⟨ys.map (gT H), tat_of fun y hy => ?_, ?_, ?_⟩
  · obtain ⟨p, h1, h2, _⟩ := all2 y hy
    exact ⟨p, h1, h2⟩
  · rw [← e]
    exact pm.map _
  · rw [List.pairwise_map]
    refine srt.imp_of_mem fun {x y} hx hy z => ?_
    obtain ⟨_, _, _, e1⟩ := all2 x hx
    obtain ⟨_, _, _, e2⟩ := all2 y hy
    unfold ordL
    rw [← e1, ← e2]
    exact z
theorem ord_low {rs : List (Int × Int)} {i j : Nat} (h : ordL rs i j) : (at0 rs i).1 ≤ (at0 rs j).1 := by
  unfold ordL k3 at h
  rw [HT.lexLt_cons] at h
  split at h
  · omega
  · have := of_decide_eq_false h
    omega
theorem fr_ex (ss : List (Int × Int)) : ∃ fr : List Nat, fr.Perm (List.range ss.length) ∧ (fr.map (pr (at0 ss))).Pairwise Le := by
  refine ⟨(List.range ss.length).mergeSort (fun p q => decide (Le (pr (at0 ss) p) (pr (at0 ss) q))), List.mergeSort_perm _ _, ?_⟩
  rw [List.pairwise_map]
  refine (List.pairwise_mergeSort (le := fun p q => decide (Le (pr (at0 ss) p) (pr (at0 ss) q))) (fun a b c h1 h2 => ?_) (fun a b => ?_) _).imp fun {x y} h => of_decide_eq_true h
  · have h1 := of_decide_eq_true h1
    have h2 := of_decide_eq_true h2
    refine decide_eq_true ?_
    simp only [Le] at *
    omega
  · rw [Bool.or_eq_true, decide_eq_true_iff, decide_eq_true_iff]
    simp only [Le]
    omega
/-- the list of places that was found -/
def res (d : List (Nat × Option Nat)) (n : Nat) : List V := (List.range n).map fun i => match d.lookup i with | some (some p) => V.int (p : Int) | _ => V.non
theorem res_nil (n : Nat) : res [] n = List.replicate n V.non := by
  unfold res
  rw [List.eq_replicate_iff]
  refine ⟨by rw [List.length_map, List.length_range], fun b hb => ?_⟩
  obtain ⟨i, _, rfl⟩ := List.mem_map.mp hb
  rfl
theorem res_len (d : List (Nat × Option Nat)) (n : Nat) : (res d n).length = n := by unfold res; rw [List.length_map, List.length_range]
theorem look_app (d : List (Nat × Option Nat)) (a i : Nat) (o : Option Nat) (h : a ∉ d.map (·.1)) : (d ++ [(a, o)]).lookup i = if i = a then some o else d.lookup i := by
  induction d with
  | nil =>
    show List.lookup i [(a, o)] = _
    unfold List.lookup
    by_cases e : i = a
    · rw [if_pos e, e]; simp
    · rw [if_neg e]
      have : (i == a) = false := by simpa using e
      rw [this]
      rfl
  | cons x d ih =>
    obtain ⟨y, z⟩ := x
    have h1 : a ≠ y := fun e => h (by rw [e]; exact List.mem_cons_self)
    have ih := ih fun m => h (List.mem_cons_of_mem _ m)
    show List.lookup i ((y, z) :: (d ++ [(a, o)])) = _
    rw [List.lookup_cons, List.lookup_cons, ih]
    by_cases e : i = y
    · subst e
      have ne : ¬ i = a := fun q => h1 q.symm
      simp [ne]
    · have : (i == y) = false := by simpa using e
      rw [this]
theorem res_none {d : List (Nat × Option Nat)} {n a : Nat} (h : a ∉ d.map (·.1)) (hd : d.lookup a = none) : res (d ++ [(a, none)]) n = res d n := by
  unfold res
  refine List.map_congr_left fun i _ => ?_
  rw [look_app d a i none h]
  by_cases e : i = a
  · subst e; rw [if_pos rfl, hd]
  · rw [if_neg e]
theorem res_some {d : List (Nat × Option Nat)} {n a p : Nat} (h : a ∉ d.map (·.1)) (ha : a < n) : res (d ++ [(a, some p)]) n = (res d n).set a (.int (p : Int)) := by
  refine List.ext_getElem? fun i => ?_
  unfold res
  rw [List.getElem?_set, List.getElem?_map, List.getElem?_map, List.length_map, List.length_range]
  by_cases hi : i < n
  · rw [List.getElem?_range hi]
    simp only [Option.map_some]
    rw [look_app d a i _ h]
    by_cases e : a = i
    · subst e; rw [if_pos rfl, if_pos rfl, if_pos ha]
    · rw [if_neg (fun z => e z.symm), if_neg e]
  · rw [List.getElem?_eq_none (by rw [List.length_range]; omega)]
    split
    · omega
    · rfl
theorem lookup_none {d : List (Nat × Option Nat)} {a : Nat} (h : a ∉ d.map (·.1)) : d.lookup a = none := by
  induction d with
  | nil => rfl
  | cons x d ih =>
    obtain ⟨y, z⟩ := x
    rw [List.lookup_cons]
    have : (a == y) = false := by
      have : a ≠ y := fun e => h (by rw [e]; exact List.mem_cons_self)
      simpa using this
    rw [this]
    exact ih fun m => h (List.mem_cons_of_mem _ m)
/-- the pairs (an end, its place), sorted: the places by their ends -/
theorem by_ends {g : Nat → Int} {n : Nat} {ds : List (Int × Int)} (p : ds.Perm ((List.range n).map fun j => (g j, (j : Int)))) (s : ds.Pairwise Le) : ∃ L : List Nat, ds = L.map (fun j => (g j, (j : Int))) ∧ L.Perm (List.range n) ∧ (L.map g).Pairwise (· ≤ ·) := by
  have key : ∀ d ∈ ds, d = (g d.2.toNat, ((d.2.toNat : Nat) : Int)) := fun d hd => by
    obtain ⟨j, _, rfl⟩ := List.mem_map.mp (p.mem_iff.mp hd)
    simp
  refine ⟨ds.map fun d => d.2.toNat, ?_, ?_, ?_⟩
  · rw [List.map_map]
    have := List.map_congr_left (f := fun d => d) (g := (fun j => (g j, (j : Int))) ∘ fun d : Int × Int => d.2.toNat) (l := ds) key
    simpa using this
  · have := p.map fun d : Int × Int => d.2.toNat
    rw [List.map_map] at this
    have e : ((fun d : Int × Int => d.2.toNat) ∘ fun j : Nat => (g j, (j : Int))) = id := by funext j; simp
    rw [e, List.map_id] at this
    exact this
  · rw [List.map_map, List.pairwise_map]
    refine s.imp_of_mem fun {c d} hc hd h => ?_
    have h1 : c.1 = g c.2.toNat := congrArg Prod.fst (key c hc)
    have h2 : d.1 = g d.2.toNat := congrArg Prod.fst (key d hd)
    have h3 : c.1 ≤ d.1 := by unfold Le at h; omega
    show g c.2.toNat ≤ g d.2.toNat
    rw [← h1, ← h2]
    exact h3
theorem pairs_upd {H : Hp} {R : Addr} {l l' : List V} (e : H R = some (.lst l)) : ∀ {xs : List V} {rs : List (Int × Int)}, PairsAt H xs rs → PairsAt (upd H R (.lst l')) xs rs
  | [], [], _ => trivial
  | x :: xs, r :: rs, ⟨⟨p, h1, h2⟩, h3⟩ => ⟨⟨p, h1, by rw [upd_ne (fun z => by rw [z, e] at h2; cases h2)]; exact h2⟩, pairs_upd e h3⟩
  | [], _ :: _, h => h.elim
  | _ :: _, [], h => h.elim
theorem flat_rep (n : Nat) : (List.replicate n [V.non]).flatten = List.replicate n V.non := by
  induction n with
  | zero => rfl
  | succ n ih => rw [List.replicate_succ, List.flatten_cons, ih]; rfl
theorem tat_upd {H : Hp} {R : Addr} {l : List V} {o : HO} (e : H R = some (.lst l)) {xs : List V} {ls : List (List Int)} (h : TAt H xs ls) : TAt (upd H R o) xs ls :=
  h.map fun p t g => by rw [upd_ne (fun z => by rw [z, e] at g; cases g)]; exact g
theorem pr_at {H : Hp} : ∀ {xs : List V} {cs : List (Int × Int)} {i : Nat} {x : V}, PairsAt H xs cs → xs[i]? = some x → ∃ r p, cs[i]? = some r ∧ x = .ref p ∧ H p = some (.tup [.int r.1, .int r.2])
  | [], [], _, _, _, e => by simp at e
  | x :: xs, r :: cs, 0, _, ⟨⟨p, h1, h2⟩, h3⟩, e => by
    simp only [List.getElem?_cons_zero, Option.some.injEq] at e
    subst e
    exact ⟨r, p, rfl, h1, h2⟩
  | x :: xs, r :: cs, i + 1, _, ⟨_, h3⟩, e => pr_at (i := i) h3 e
  | [], _ :: _, _, _, h, _ => h.elim
  | _ :: _, [], _, _, h, _ => h.elim
theorem sIx {k n : Nat} (h : k < n) : seqIndex? ((k : Nat) : Int) n = some k := by
  unfold seqIndex?
  have e : ¬ ((k : Nat) : Int) < 0 := by omega
  simp only [e, if_false]
  have e2 : (decide (0 ≤ ((k : Nat) : Int)) && decide (((k : Nat) : Int) < (n : Int))) = true := by
    rw [decide_eq_true (by omega), decide_eq_true (by omega)]; rfl
  rw [if_pos e2]
  simp
/-- the state of the loop's things -/
structure Lp (H : Hp) (p2 p3 c fa : Addr) (ys2 : List V) (rs ss : List (Int × Int)) (L fr0 : List Nat) (i : Nat) (Hz : Hp) (pre : List (Nat × Option Nat)) (fr O : List Nat) (zs fs : List V) : Prop where
  sm : Same H Hz
  e2 : Hz p2 = some (.lst ys2)
  t2 : TAt Hz ys2 (L.map (k3 rs))
  ec : Hz c = some (.lst (res pre rs.length))
  go : go (at0 rs) (at0 ss) L fr0 = pre ++ K55b.go (at0 rs) (at0 ss) (L.drop i) fr
  pf : pre.map (·.1) = L.take i
  e3 : Hz p3 = some (.lst zs.reverse)
  t3 : TAt Hz zs (O.map (k3 ss))
  ef : Hz fa = some (.lst fs)
  pr : PairsAt Hz fs ((fr.filter (keep O)).map (pr (at0 ss)))
  nd : fr.Nodup
  srt : (fr.map (K55d.pr (at0 ss))).Pairwise Le
  ofr : ∀ q ∈ O, q ∈ fr
  ond : O.Nodup
  osr : O.Pairwise (ordL ss)
  low : ∀ q ∈ fr, q ∉ O → ∀ a ∈ L.drop i, (at0 ss q).1 ≤ (at0 rs a).1
  len : fr.length ≤ 500
theorem pairs_erase {H : Hp} : ∀ {xs : List V} {rs : List (Int × Int)} (j : Nat), PairsAt H xs rs → PairsAt H (xs.eraseIdx j) (rs.eraseIdx j)
  | [], [], _, _ => trivial
  | x :: xs, r :: rs, 0, ⟨_, h⟩ => h
  | x :: xs, r :: rs, j + 1, ⟨h1, h2⟩ => ⟨h1, pairs_erase j h2⟩
  | [], _ :: _, _, h => h.elim
  | _ :: _, [], _, h => h.elim
section
variable {H Hz Hv : Hp} {p2 p3 c fa : Addr} {ys2 : List V} {rs ss : List (Int × Int)} {L fr0 : List Nat} {i : Nat} {pre : List (Nat × Option Nat)} {fr O : List Nat} {zs fs : List V}
theorem Lp.same (g : Lp H p2 p3 c fa ys2 rs ss L fr0 i Hz pre fr O zs fs) (s : Same Hz Hv) : Lp H p2 p3 c fa ys2 rs ss L fr0 i Hv pre fr O zs fs :=
  ⟨g.sm.trans s, s _ _ g.e2, g.t2.same s, s _ _ g.ec, g.go, g.pf, s _ _ g.e3, g.t3.same s, s _ _ g.ef, g.pr.same s, g.nd, g.srt, g.ofr, g.ond, g.osr, g.low, g.len⟩
theorem Lp.no (g : Lp H p2 p3 c fa ys2 rs ss L fr0 i Hz pre fr O zs fs) {a : Nat} (ea : L[i]? = some a) (ndL : L.Nodup) (hf : fr.find? (fun p => hasB (at0 ss p) (at0 rs a)) = none) :
    Lp H p2 p3 c fa ys2 rs ss L fr0 (i + 1) Hz (pre ++ [(a, none)]) fr O zs fs := by
  have hd : L.drop i = a :: L.drop (i + 1) := by
    obtain ⟨h1, h2⟩ := List.getElem?_eq_some_iff.mp ea
    rw [List.drop_eq_getElem_cons h1, h2]
  have ht : L.take (i + 1) = L.take i ++ [a] := by rw [List.take_add_one, ea, Option.toList_some]
  have hn : a ∉ pre.map (·.1) := by
    rw [g.pf]
    have := ndL
    rw [← List.take_append_drop i L, hd] at this
    exact fun m => (List.nodup_append.mp this).2.2 a m a List.mem_cons_self rfl
  refine ⟨g.sm, g.e2, g.t2, ?_, ?_, ?_, g.e3, g.t3, g.ef, g.pr, g.nd, g.srt, g.ofr, g.ond, g.osr, fun q m n b hb => g.low q m n b (by rw [hd]; exact List.mem_cons_of_mem _ hb), g.len⟩
  · rw [res_none hn (lookup_none hn)]
    exact g.ec
  · rw [g.go, hd, List.append_assoc]
    show pre ++ K55b.go _ _ (a :: L.drop (i + 1)) fr = _
    simp only [K55b.go, hf]
    rfl
  · rw [List.map_append, g.pf, ht]
    rfl
theorem Lp.yes (g : Lp H p2 p3 c fa ys2 rs ss L fr0 i Hz pre fr O zs fs) {a p j : Nat} (ea : L[i]? = some a) (ndL : L.Nodup) (han : a < rs.length) (hf : fr.find? (fun p => hasB (at0 ss p) (at0 rs a)) = some p) (hp : p ∈ fr) (hpO : p ∉ O)
    (er : ((fr.filter (keep O)).map (K55d.pr (at0 ss))).eraseIdx j = ((fr.erase p).filter (keep O)).map (K55d.pr (at0 ss))) (nf0 : H fa = none) (nc0 : H c = none) (nfc : fa ≠ c) (nf2 : fa ≠ p2) (nf3 : fa ≠ p3) (n2c : p2 ≠ c) (n3c : p3 ≠ c) :
    Lp H p2 p3 c fa ys2 rs ss L fr0 (i + 1) (upd (upd Hz fa (.lst (fs.eraseIdx j))) c (.lst ((res pre rs.length).set a (.int (p : Int))))) (pre ++ [(a, some p)]) (fr.erase p) O zs (fs.eraseIdx j) := by
  have hd : L.drop i = a :: L.drop (i + 1) := by
    obtain ⟨h1, h2⟩ := List.getElem?_eq_some_iff.mp ea
    rw [List.drop_eq_getElem_cons h1, h2]
  have ht : L.take (i + 1) = L.take i ++ [a] := by rw [List.take_add_one, ea, Option.toList_some]
  have hn : a ∉ pre.map (·.1) := by
    rw [g.pf]
    have := ndL
    rw [← List.take_append_drop i L, hd] at this
    exact fun m => (List.nodup_append.mp this).2.2 a m a List.mem_cons_self rfl
  have ec1 : (upd Hz fa (.lst (fs.eraseIdx j))) c = some (.lst (res pre rs.length)) := by rw [upd_ne nfc.symm]; exact g.ec
  refine ⟨same_again nc0 (same_again nf0 g.sm), by rw [upd_ne n2c, upd_ne nf2.symm]; exact g.e2, tat_upd ec1 (tat_upd g.ef g.t2), ?_, ?_, ?_, by rw [upd_ne n3c, upd_ne nf3.symm]; exact g.e3, tat_upd ec1 (tat_upd g.ef g.t3), by rw [upd_ne nfc, upd_same], ?_, g.nd.erase _, g.srt.sublist (List.Sublist.map _ List.erase_sublist), fun q m => ?_, g.ond, g.osr, fun q m n b hb => g.low q (List.mem_of_mem_erase m) n b (by rw [hd]; exact List.mem_cons_of_mem _ hb), Nat.le_trans (List.length_erase_le) g.len⟩
  · rw [res_some hn han]
    exact upd_same
  · rw [g.go, hd, List.append_assoc]
    show pre ++ K55b.go _ _ (a :: L.drop (i + 1)) fr = _
    simp only [K55b.go, hf]
    rfl
  · rw [List.map_append, g.pf, ht]
    rfl
  · rw [← er]
    have := pairs_erase j g.pr
    have h1 : PairsAt (upd Hz fa (.lst (fs.eraseIdx j))) (fs.eraseIdx j) (((fr.filter (keep O)).map (K55d.pr (at0 ss))).eraseIdx j) := pairs_upd g.ef this
    exact pairs_upd ec1 h1
  · exact (g.nd.mem_erase_iff).mpr ⟨fun z => hpO (by rw [← z]; exact m), g.ofr q m⟩
theorem Lp.pop {q : Nat} {z : V} {v : Addr} {fs' : List V} {rs' : List (Int × Int)} (g : Lp H p2 p3 c fa ys2 rs ss L fr0 i Hz pre fr (q :: O) (z :: zs) fs) (hlow : ∀ a ∈ L.drop i, (at0 ss q).1 ≤ (at0 rs a).1)
    (nv : (upd Hz p3 (.lst zs.reverse)) v = none) (hp : PairsAt (upd (upd Hz p3 (.lst zs.reverse)) v (.tup [.int (at0 ss q).2, .int (q : Int)])) fs' rs') (pm : rs'.Perm (K55d.pr (at0 ss) q :: (fr.filter (keep (q :: O))).map (K55d.pr (at0 ss)))) (st : rs'.Pairwise Le)
    (nf0 : H fa = none) (n30 : H p3 = none) (nfc : fa ≠ c) (nf2 : fa ≠ p2) (nf3 : fa ≠ p3) (n3c : p3 ≠ c) (n32 : p3 ≠ p2) :
    Lp H p2 p3 c fa ys2 rs ss L fr0 i (upd (upd (upd Hz p3 (.lst zs.reverse)) v (.tup [.int (at0 ss q).2, .int (q : Int)])) fa (.lst fs')) pre fr O zs fs' := by
  have nO := List.nodup_cons.mp g.ond
  have e := K55d.push g.srt g.nd (g.ofr q List.mem_cons_self) nO.1 pm st
  have sv := same_new nv (o := .tup [.int (at0 ss q).2, .int (q : Int)])
  have ef1 : (upd (upd Hz p3 (.lst zs.reverse)) v (.tup [.int (at0 ss q).2, .int (q : Int)])) fa = some (.lst fs) := sv _ _ (by rw [upd_ne nf3]; exact g.ef)
  refine ⟨same_again nf0 ((same_again n30 g.sm).trans sv), ?_, ?_, ?_, g.go, g.pf, ?_, ?_, upd_same, ?_, g.nd, g.srt, fun x m => g.ofr x (List.mem_cons_of_mem _ m), nO.2, (List.pairwise_cons.mp g.osr).2, fun x m n b hb => ?_, g.len⟩
  · rw [upd_ne nf2.symm]
    exact sv _ _ (by rw [upd_ne n32.symm]; exact g.e2)
  · exact tat_upd ef1 ((tat_upd g.e3 g.t2).same sv)
  · rw [upd_ne nfc.symm]
    exact sv _ _ (by rw [upd_ne n3c.symm]; exact g.ec)
  · rw [upd_ne nf3.symm]
    exact sv _ _ upd_same
  · exact tat_upd ef1 ((tat_upd g.e3 g.t3.2).same sv)
  · rw [← e]
    exact pairs_upd ef1 hp
  · by_cases hx : x = q
    · subst hx
      exact hlow b hb
    · exact g.low x m (fun z => (List.mem_cons.mp z).elim hx n) b hb
end
section
variable {P : Program} {w : World} {K : PySem.W.Frag} {mg : Str → Option Value} {base : Heap}
def spBP (K : PySem.W.Frag) : Sp := fun vs H Q _ => ∃ (a b : Addr) (xs ys : List V) (rs ss : List (Int × Int)), vs = [.ref a, .ref b] ∧ Sq K H a xs ∧ PairsAt H xs rs ∧ Sq K H b ys ∧ PairsAt H ys ss ∧ rs.length ≤ 500 ∧ ss.length ≤ 500 ∧
  ∀ H' c L fr0, Same H H' → H c = none → H' c = some (.lst (res (go (at0 rs) (at0 ss) L fr0) rs.length)) → L.Perm (List.range rs.length) → L.Pairwise (ordL rs) → fr0.Perm (List.range ss.length) → (fr0.map (pr (at0 ss))).Pairwise Le → Q (.ref c) H'
theorem ok_BP {f fPI fPT : Addr} {fd dPI dPT : FuncData} {k : Nat} (F : Fun K "_best_places" "_best_places" sBP f fd)
    (GPI : FnOk P w K mg base CX0 (k + 2) fPI dPI ["row", "value"] BO.spPI) (gPI : mg "place_in" = some (.ref fPI)) (kPI : PySem.W.keepIn K (.ref fPI) = true) (bPI : Binds K dPI ["row", "value"] [])
    (GPT : FnOk P w K mg base CX0 (k + 2) fPT dPT ["row", "value"] BO.spPT) (gPT : mg "put_in" = some (.ref fPT)) (kPT : PySem.W.keepIn K (.ref fPT) = true) (bPT : Binds K dPT ["row", "value"] [])
    (ml : mg "len" = none) (ms : mg "sorted" = none) (me : mg "enumerate" = none) : FnOk P w K mg base CX0 (k + 3) f fd ["first", "second"] (spBP K) := by
  refine F.ok scBP (fun vs H Q E h => ?_) (fun cdv A outer s H vs Q E hr h => ?_)
  · obtain ⟨a, b, xs, ys, rs, ss, rfl, _⟩ := h
    rfl
  · obtain ⟨a, b, xs, ys, rs, ss, rfl, hA, pa, hB, pb, la, lb, hq⟩ := h
    refine ⟨_, (pss_cons (ps_set (i := 2) scBP.nd rfl (.inl rfl) (pe_op op_rep (pe_lst (pa_cons pe_non pa_nil)) (pe_callB call_len_seq (by rfl) ml PySem.boot_len (pa_cons (pv 0) pa_nil))))
      (pss_cons (ps_set (i := 6) scBP.nd rfl (.inl rfl) (pe_callB GS3.cr_sortedT3 (by rfl) ms (by decide +kernel) (pa_cons (pe_lc (own := [("at", 3), ("low", 4), ("high", 5)]) (g := gTup K 2 (gCons (gName 3) (gCons (gTup K 2 (gCons (gName 4) (gCons (gName 5) gNil))) gNil))) (tt := tYes) rfl scBP.nd (GE.pi_enumS (by rfl) me (pa_cons (pv 0) pa_nil)) (blkOk_by (own := [("at", 3), ("low", 4), ("high", 5)]) (N := ["first", "second", "places", "at", "low", "high", "inner", "place", "outer", "free", "_", "end", "found"]) (sc := defScope sBP) (by decide +kernel)) (fun _ _ _ _ _ => (pg_tup rfl (pgs_cons (pg_name (i := 3) scBP.nd rfl (Or.inl rfl) (Or.inr rfl)) (pgs_cons (pg_tup rfl (pgs_cons (pg_name (i := 4) scBP.nd rfl (Or.inl rfl) (Or.inr rfl)) (pgs_cons (pg_name (i := 5) scBP.nd rfl (Or.inl rfl) (Or.inr rfl)) pgs_nil))) pgs_nil)))) (fun _ _ _ _ _ => pts_nil) (fun _ _ _ _ _ => (pe_tup (pa_cons (pv 4) (pa_cons (pv 5) (pa_cons (pv 3) pa_nil)))))) pa_nil)))
      (pss_cons (ps_set (i := 8) scBP.nd rfl (.inl rfl) (pe_callBK GS3.cr_sortedT3R (by rfl) ms (by decide +kernel) (pa_cons (pe_lc (own := [("place", 7), ("low", 4), ("high", 5)]) (g := gTup K 2 (gCons (gName 7) (gCons (gTup K 2 (gCons (gName 4) (gCons (gName 5) gNil))) gNil))) (tt := tYes) rfl scBP.nd (GE.pi_enumS (by rfl) me (pa_cons (pv 1) pa_nil)) (blkOk_by (own := [("place", 7), ("low", 4), ("high", 5)]) (N := ["first", "second", "places", "at", "low", "high", "inner", "place", "outer", "free", "_", "end", "found"]) (sc := defScope sBP) (by decide +kernel)) (fun _ _ _ _ _ => (pg_tup rfl (pgs_cons (pg_name (i := 7) scBP.nd rfl (Or.inl rfl) (Or.inr rfl)) (pgs_cons (pg_tup rfl (pgs_cons (pg_name (i := 4) scBP.nd rfl (Or.inl rfl) (Or.inr rfl)) (pgs_cons (pg_name (i := 5) scBP.nd rfl (Or.inl rfl) (Or.inr rfl)) pgs_nil))) pgs_nil)))) (fun _ _ _ _ _ => pts_nil) (fun _ _ _ _ _ => (pe_tup (pa_cons (pv 4) (pa_cons (pv 5) (pa_cons (pv 7) pa_nil)))))) pa_nil) (pk_cons pe_bl pk_nil)))
      (pss_cons (ps_set (i := 9) scBP.nd rfl (.inl rfl) (pe_lst pa_nil))
      (pss_cons (ps_for PassesOwn.never rfl (pi_list (pv 6)) (pg_tup rfl (pgs_cons (pg_name (i := 4) scBP.nd rfl (.inl rfl)) (pgs_cons (pg_name (i := 5) scBP.nd rfl (.inl rfl)) (pgs_cons (pg_name (i := 3) scBP.nd rfl (.inl rfl)) pgs_nil))))
      (pss_cons (ps_while PassesOwn.never (PW.pt (pw_and (pt_truth (pv 8) (by intro _; rfl)) (pw_and1 (pt_cmpR op_le (pe_ix ix_tup (pe_ix ix_list (pv 8) (pe_un un_neg pe_int) (fun _ _ => rfl)) pe_int (fun _ _ => rfl)) (pv 4) (nomark _)))))
      (pss_cons (ps_asg (pe_bm0 PySem.F.plainAttrs_list PySem.F.slot_list_pop PySem.F.type_list_pop mt_pop (pv 8)) (pg_tup rfl (pgs_cons (pg_name (i := 10) scBP.nd rfl (.inl rfl)) (pgs_cons (pg_name (i := 11) scBP.nd rfl (.inl rfl)) (pgs_cons (pg_name (i := 7) scBP.nd rfl (.inl rfl)) pgs_nil)))))
      (pss_one (ps_expr (pe_call GPT hr (by rfl) gPT kPT bPT .nil pass0 (pa_cons (pv 9) (pa_cons (pe_tup (pa_cons (pv 11) (pa_cons (pv 7) pa_nil))) pa_nil)))))))
      (pss_cons (ps_set (i := 12) scBP.nd rfl (.inl rfl) (pe_call GPI hr (by rfl) gPI kPI bPI .nil pass0 (pa_cons (pv 9) (pa_cons (pe_tup (pa_cons (pv 5) (pa_cons pe_int pa_nil))) pa_nil))))
      (pss_one (ps_if (pt_cmpR op_lt (pv 12) (pe_callB call_len_seq (by rfl) ml PySem.boot_len (pa_cons (pv 9) pa_nil)) (nomark _)) (pss_one (ps_asg (pe_bm PySem.F.plainAttrs_list PySem.F.slot_list_pop PySem.F.type_list_pop mt_popAt (pv 9) (pa_cons (pv 12) pa_nil)) (pg_tup rfl (pgs_cons (pg_name (i := 10) scBP.nd rfl (.inl rfl)) (pgs_cons (pg_sub (pv 2) (pv 3) set_list) pgs_nil))))) pss_nil)))))
      (pss_one (ps_ret (pv 2)))))))), ?_⟩
    have l2s : 2 ≤ sizeLine := by decide
    have lxa := pa.length
    have lxb := pb.length
    refine ⟨by show 1 ≤ sizeLine; decide, fun l nl => ⟨.ref a, rfl, a, xs, rfl, (hA.same (same_new nl)), l, (xs.length : Int), [.non], rfl, rfl, upd_same, by omega, by omega, by show 1 * _ ≤ sizeLine; exact Nat.le_trans (show _ ≤ 3000 by omega) (by decide), fun c nc => ?_⟩⟩
    have s1 := (same_new (o := .lst [.non]) nl).trans (same_new (o := .lst (List.replicate (xs.length : Int).toNat [.non]).flatten) nc)
    have nc0 : H c = none := (same_new (o := .lst [.non]) nl).free nc
    have ec := upd_same (H := upd H l (.lst [.non])) (a := c) (o := .lst (List.replicate (xs.length : Int).toNat [.non]).flatten)
    generalize upd (upd H l (.lst [.non])) c (.lst (List.replicate (xs.length : Int).toNat [.non]).flatten) = H1 at s1 ec ⊢
    rw [flat_rep, Int.toNat_natCast, lxa, ← res_nil] at ec
    clear nl nc l
    refine ⟨.ref a, rfl, a, xs, rfl, hA.same s1, fun J G wk hG D nD => ?_⟩
    refine lc_it wk (fun i Hz => Same H1 Hz ∧ ∃ acc : List V, Hz D = some (.lst acc) ∧ TAt Hz acc ((List.range i).map (k3 rs))) ⟨same_new nD, [], upd_same, trivial⟩ (fun i Hz _ z => hG _ z.1) ?_ ?_
    · rintro i v Hz Hy hi ⟨sz, acc, eD, pd⟩ ⟨T, x, y, rfl, nT, rfl, hx, hy⟩
      obtain rfl : V.int (i : Int) = x := Option.some.inj hx
      obtain ⟨r, p, er, rfl, e2⟩ := pr_at pa hy
      have ea : at0 rs i = r := by unfold at0; rw [er]; rfl
      have sT := same_new (o := .tup [.int (i : Int), .ref p]) nT
      have s3 := sz.trans sT
      have hp := s3 _ _ (s1 _ _ e2)
      have la2 := pd.length
      rw [List.length_map, List.length_range] at la2
      refine ⟨T, _, rfl, SqT.of upd_same, rfl, .int (i : Int), [.ref p], rfl, .ref p, [], rfl, p, _, rfl, SqT.of hp, rfl, .int r.1, [.int r.2], rfl, .int r.2, [], rfl, rfl, rfl, rfl, iteT (B := True) ?_⟩
      refine ⟨.int r.1, rfl, .int r.2, rfl, .int (i : Int), rfl, (show 3 ≤ sizeLine by decide), fun q nq => ?_⟩
      have sq := same_new (o := .tup [.int r.1, .int r.2, .int (i : Int)]) nq
      have eD2 := sq _ _ (sT _ _ eD)
      refine ⟨acc, eD2, Nat.lt_of_le_of_lt (show acc.length ≤ 3000 by omega) (by decide), same_again nD (s3.trans sq), acc ++ [.ref q], upd_same, ?_⟩
      rw [List.range_succ, List.map_append]
      exact tat_upd eD2 (TAt.append (pd.same (sT.trans sq)) ⟨⟨q, rfl, by rw [show k3 rs i = [r.1, r.2, (i : Int)] by unfold k3; rw [ea]]; exact upd_same⟩, trivial⟩)
    rintro Hz ⟨sz, acc, eD, pd⟩
    rw [lxa] at pd
    have mm := (tat_mem pd).2
    refine ⟨D, rfl, acc, kT Hz, SqL.of eD, fun x hx => (mm x hx).elim fun p z => ⟨p, z.1, by rw [z.2.2]; exact z.2.1, by rw [z.2.2]; rfl⟩, fun ys2 p2 sr pm np2 => ?_⟩
    obtain ⟨L, tL, pL, oL⟩ := sorted_trips pd sr pm
    have sp := same_new np2 (o := .lst ys2)
    have sB := (s1.trans sz).trans sp
    have e2 : (upd Hz p2 (.lst (if false = true then ys2.reverse else ys2))) p2 = some (.lst ys2) := upd_same
    have ec2 := sp _ _ (sz _ _ ec)
    have tL2 := tL.same sp
    have np20 : H p2 = none := (s1.trans sz).free np2
    have n2c : p2 ≠ c := fun z => by rw [z, sz _ _ ec] at np2; cases np2
    show _
    have sp : Same Hz (upd Hz p2 (.lst (if false = true then ys2.reverse else ys2))) := sp
    have sB : Same H (upd Hz p2 (.lst (if false = true then ys2.reverse else ys2))) := sB
    have ec2 : (upd Hz p2 (.lst (if false = true then ys2.reverse else ys2))) c = some (.lst (res [] rs.length)) := ec2
    have tL2 : TAt (upd Hz p2 (.lst (if false = true then ys2.reverse else ys2))) ys2 (L.map (k3 rs)) := tL2
    generalize upd Hz p2 (.lst (if false = true then ys2.reverse else ys2)) = H2 at sB e2 ec2 tL2 ⊢
    clear sp tL np2 mm eD pd sz sr pm ec s1 nD
    refine ⟨.ref b, rfl, b, ys, rfl, hB.same sB, fun J G wk hG D nD => ?_⟩
    refine lc_it wk (fun i Hz => Same H2 Hz ∧ ∃ acc : List V, Hz D = some (.lst acc) ∧ TAt Hz acc ((List.range i).map (k3 ss))) ⟨same_new nD, [], upd_same, trivial⟩ (fun i Hz _ z => hG _ z.1) ?_ ?_
    · rintro i v Hz Hy hi ⟨sz, acc, eD, pd⟩ ⟨T, x, y, rfl, nT, rfl, hx, hy⟩
      obtain rfl : V.int (i : Int) = x := Option.some.inj hx
      obtain ⟨r, p, er, rfl, e2⟩ := pr_at pb hy
      have ea : at0 ss i = r := by unfold at0; rw [er]; rfl
      have sT := same_new (o := .tup [.int (i : Int), .ref p]) nT
      have s3 := sz.trans sT
      have hp := s3 _ _ (sB _ _ e2)
      have la2 := pd.length
      rw [List.length_map, List.length_range] at la2
      refine ⟨T, _, rfl, SqT.of upd_same, rfl, .int (i : Int), [.ref p], rfl, .ref p, [], rfl, p, _, rfl, SqT.of hp, rfl, .int r.1, [.int r.2], rfl, .int r.2, [], rfl, rfl, rfl, rfl, iteT (B := True) ?_⟩
      refine ⟨.int r.1, rfl, .int r.2, rfl, .int (i : Int), rfl, (show 3 ≤ sizeLine by decide), fun q nq => ?_⟩
      have sq := same_new (o := .tup [.int r.1, .int r.2, .int (i : Int)]) nq
      have eD2 := sq _ _ (sT _ _ eD)
      refine ⟨acc, eD2, Nat.lt_of_le_of_lt (show acc.length ≤ 3000 by omega) (by decide), same_again nD (s3.trans sq), acc ++ [.ref q], upd_same, ?_⟩
      rw [List.range_succ, List.map_append]
      exact tat_upd eD2 (TAt.append (pd.same (sT.trans sq)) ⟨⟨q, rfl, by rw [show k3 ss i = [r.1, r.2, (i : Int)] by unfold k3; rw [ea]]; exact upd_same⟩, trivial⟩)
    rintro Hz ⟨sz, acc, eD, pd⟩
    rw [lxb] at pd
    have mm := (tat_mem pd).2
    refine ⟨D, rfl, rfl, acc, kT Hz, SqL.of eD, fun x hx => (mm x hx).elim fun p z => ⟨p, z.1, by rw [z.2.2]; exact z.2.1, by rw [z.2.2]; rfl⟩, fun ys3 p3 sr pm np3 => ?_⟩
    obtain ⟨O0, tO, pO, oO⟩ := sorted_trips pd sr pm
    have sp : Same Hz (upd Hz p3 (.lst (if true = true then ys3.reverse else ys3))) := same_new np3
    have e3 : (upd Hz p3 (.lst (if true = true then ys3.reverse else ys3))) p3 = some (.lst ys3.reverse) := upd_same
    have sC := (sB.trans sz).trans sp
    have e2' := sp _ _ (sz _ _ e2)
    have ec' := sp _ _ (sz _ _ ec2)
    have tL' := (tL2.same sz).same sp
    have tO' := tO.same sp
    have np30 : H p3 = none := (sB.trans sz).free np3
    have n3c : p3 ≠ c := fun z => by rw [z, sz _ _ ec2] at np3; cases np3
    have n32 : p3 ≠ p2 := fun z => by rw [z, sz _ _ e2] at np3; cases np3
    generalize upd Hz p3 (.lst (if true = true then ys3.reverse else ys3)) = H3 at sC e3 e2' ec' tL' tO' ⊢
    refine ⟨Nat.zero_le _, fun fa nfa => ?_⟩
    have sf := same_new nfa (o := .lst [])
    have ef := upd_same (H := H3) (a := fa) (o := .lst [])
    have sD := sC.trans sf
    have e2'' := sf _ _ e2'
    have e3'' := sf _ _ e3
    have ec'' := sf _ _ ec'
    have tL'' := tL'.same sf
    have tO'' := tO'.same sf
    have nf0 : H fa = none := sC.free nfa
    have nfc : fa ≠ c := fun z => by rw [z, ec'] at nfa; cases nfa
    have nf2 : fa ≠ p2 := fun z => by rw [z, e2'] at nfa; cases nfa
    have nf3 : fa ≠ p3 := fun z => by rw [z, e3] at nfa; cases nfa
    generalize upd H3 fa (.lst []) = H4 at sD e2'' e3'' ec'' tL'' tO'' ef ⊢
    obtain ⟨fr0, pf0, sf0⟩ := fr_ex ss
    have nd0 : fr0.Nodup := pf0.nodup_iff.mpr List.nodup_range
    have lO : O0.length = ss.length := by rw [pO.length_eq, List.length_range]
    have lL : L.length = rs.length := by rw [pL.length_eq, List.length_range]
    have lfr : fr0.length = ss.length := by rw [pf0.length_eq, List.length_range]
    have f0 : fr0.filter (keep O0) = [] := List.filter_eq_nil_iff.mpr fun q hq z => (keep_iff.mp z) (pO.mem_iff.mpr (pf0.mem_iff.mp hq))
    refine ⟨.ref p2, rfl, p2, rfl, ⟨ys2, SqL.of e2''⟩, for_it (walk_list (xs := ys2)) (fun i σ Hz => ∃ (pre : List (Nat × Option Nat)) (fr O : List Nat) (zs fs : List V), Lp H p2 p3 c fa ys2 rs ss L fr0 i Hz pre fr O zs fs ∧ ∃ r3 r4 r5 r7 r10 r11 r12 : Option V, σ = [some (.ref a), some (.ref b), some (.ref c), r3, r4, r5, some (.ref p2), r7, some (.ref p3), some (.ref fa), r10, r11, r12])
      ⟨[], fr0, O0, ys3, [], ⟨sD, e2'', tL'', ec'', rfl, rfl, e3'', tO'', ef, by rw [f0]; trivial, nd0, sf0, fun q hq => pf0.mem_iff.mpr (pO.mem_iff.mp hq), pO.nodup_iff.mpr List.nodup_range, oO, fun q hq hn => absurd (pO.mem_iff.mpr (pf0.mem_iff.mp hq)) hn, by omega⟩, _, _, _, _, _, _, _, rfl⟩ (fun i σ Hz _ z => by obtain ⟨_, _, _, _, _, g, _⟩ := z; exact SqL.of g.e2) ?_ ?_⟩
    · rintro i x σ Hz Hy hi ⟨pre, fr, O, zs, fs, g, r3, r4, r5, r7, r10, r11, r12, rfl⟩ ⟨rfl, hx⟩
      obtain ⟨l, p, el, rfl, ep⟩ := g.t2.at hx
      rw [List.getElem?_map] at el
      obtain ⟨at', ea, rfl⟩ := Option.map_eq_some_iff.mp el
      have ndL : L.Nodup := pL.nodup_iff.mpr List.nodup_range
      have han : at' < rs.length := List.mem_range.mp (pL.mem_iff.mp (List.mem_of_getElem? ea))
      have hat : at' ∈ L.drop i := by
        obtain ⟨h1, h2⟩ := List.getElem?_eq_some_iff.mp ea
        rw [List.drop_eq_getElem_cons h1, h2]
        exact List.mem_cons_self
      have hlater : ∀ b ∈ L.drop i, (at0 rs at').1 ≤ (at0 rs b).1 := fun b hb => by
        obtain ⟨h1, h2⟩ := List.getElem?_eq_some_iff.mp ea
        have sub := oL.sublist (List.drop_sublist i L)
        rw [List.drop_eq_getElem_cons h1, h2] at hb sub
        rcases List.mem_cons.mp hb with z | z
        · rw [z]; exact Int.le_refl _
        · exact ord_low ((List.pairwise_cons.mp sub).1 b z)
      refine ⟨p, _, rfl, SqT.of ep, rfl, .int (at0 rs at').1, _, rfl, .int (at0 rs at').2, _, rfl, .int (at' : Int), _, rfl, rfl, ?_⟩
      refine ⟨fun n σ Hw => ∃ (O : List Nat) (zs fs : List V), n = O.length ∧ Lp H p2 p3 c fa ys2 rs ss L fr0 i Hw pre fr O zs fs ∧ ∃ r7 r10 r11 r12 : Option V, σ = [some (.ref a), some (.ref b), some (.ref c), some (.int (at' : Int)), some (.int (at0 rs at').1), some (.int (at0 rs at').2), some (.ref p2), r7, some (.ref p3), some (.ref fa), r10, r11, r12], ⟨_, O, zs, fs, rfl, g, _, _, _, _, rfl⟩, ?_⟩
      clear g ep hx el
      rintro n σ Hw ⟨O, zs, fs, rfl, g, r7, r10, r11, r12, rfl⟩
      refine ⟨.ref p3, rfl, _, .inl ⟨_, SqL.of g.e3, rfl⟩, ?_⟩
      cases zs with
      | nil =>
        have hO0 : O = [] := by
          have := g.t3.length
          rw [List.length_map] at this
          exact List.length_eq_zero_iff.mp this.symm
        have hO : ∀ q ∈ O, (at0 rs at').1 < (at0 ss q).1 := fun q m => by rw [hO0] at m; exact (List.not_mem_nil m).elim
        refine iteF ?_
        refine iteF ?_
        refine ⟨.ref fa, rfl, .int (at0 rs at').2, rfl, l2s, fun v nv => ?_⟩
        have sv := same_new nv (o := .tup [.int (at0 rs at').2, .int 0])
        refine ⟨fa, v, fs, _, ((at0 rs at').2, 0), rfl, sv _ _ g.ef, g.pr.same sv, g.srt.sublist (List.Sublist.map _ List.filter_sublist), upd_same, by rw [List.length_map]; exact Nat.le_trans (List.length_filter_le _ _) (Nat.le_trans g.len (by decide)), fun j pl => ?_⟩
        have gv := g.same sv
        generalize upd Hw v (.tup [.int (at0 rs at').2, .int 0]) = Hv at gv ⊢
        have lf := gv.pr.length
        obtain ⟨F1, F2⟩ := K55d.found (f := at0 rs) (s := at0 ss) (a := at') (i := j) gv.nd hO (fun q m n => gv.low q m n at' hat) pl
        refine ⟨.int j, rfl, .ref fa, rfl, fa, fs, rfl, .inl (SqL.of gv.ef), (j : Int), (fs.length : Int), rfl, rfl, _, rfl, ?_⟩
        by_cases hj : j < fs.length
        · rw [decide_eq_true (show (j : Int) < (fs.length : Int) by omega)]
          obtain ⟨p', m1, m2, e1, fd', er⟩ := F1 (by rw [← lf]; exact hj)
          obtain ⟨tv, e5, e6⟩ := BO.pair_get gv.pr e1
          have hn : tv ≠ fa := fun z => by rw [z, gv.ef] at e6; cases e6
          have lfs : fs.length ≤ 500 := by rw [lf, List.length_map]; exact Nat.le_trans (List.length_filter_le _ _) gv.len
          refine iteT ⟨.ref fa, rfl, .inl ⟨rfl, _, SqL.of gv.ef⟩, .int j, rfl, fa, fs, (j : Int), j, .ref tv, rfl, rfl, gv.ef, by omega, by omega, sIx hj, e5, ?_⟩
          refine ⟨tv, _, rfl, SqT.of (by rw [upd_ne hn]; exact e6), rfl, .int (at0 ss p').2, _, rfl, .int (p' : Int), _, rfl, .ref c, rfl, .int (at' : Int), rfl, c, res pre rs.length, (at' : Int), at', rfl, rfl, by rw [upd_ne nfc.symm]; exact gv.ec, ?_, rfl, ?_⟩
          · rw [res_len]
            unfold ixN
            rw [if_pos (by omega), if_pos (by omega)]
            rfl
          · exact ⟨pre ++ [(at', some p')], fr.erase p', _, _, fs.eraseIdx j, gv.yes ea ndL han fd' m1 m2 er nf0 nc0 nfc nf2 nf3 n2c n3c, _, _, _, _, _, _, _, rfl⟩
        · rw [decide_eq_false (show ¬ (j : Int) < (fs.length : Int) by omega)]
          exact iteF ⟨pre ++ [(at', none)], fr, _, _, fs, gv.no ea ndL (F2 (by rw [← lf]; exact hj)), _, _, _, _, _, _, _, rfl⟩
      | cons z zs =>
        cases O with
        | nil => exact g.t3.elim
        | cons q O =>
        obtain ⟨⟨t, rfl, ht⟩, t3'⟩ := g.t3
        have nem : (!((V.ref t :: zs).reverse).isEmpty) = true := by rw [List.reverse_cons]; cases zs.reverse <;> rfl
        rw [nem]
        refine iteT ⟨.ref p3, rfl, 1, rfl, p3, _, _, .ref t, rfl, rfl, SqL.of g.e3, by rw [List.reverse_cons]; exact atI_last _ _, t, _, 0, .int (at0 ss q).1, rfl, rfl, SqT.of ht, rfl, .int (at0 rs at').1, rfl, (at0 ss q).1, (at0 rs at').1, rfl, rfl, _, rfl, ?_⟩
        by_cases hlow : (at0 ss q).1 ≤ (at0 rs at').1
        · rw [decide_eq_true hlow]
          refine iteT ⟨fun σ Hw => ∃ m', m' < (q :: O).length ∧ ∃ (O : List Nat) (zs fs : List V), m' = O.length ∧ Lp H p2 p3 c fa ys2 rs ss L fr0 i Hw pre fr O zs fs ∧ ∃ r7 r10 r11 r12 : Option V, σ = [some (.ref a), some (.ref b), some (.ref c), some (.int (at' : Int)), some (.int (at0 rs at').1), some (.int (at0 rs at').2), some (.ref p2), r7, some (.ref p3), some (.ref fa), r10, r11, r12], fun _ _ z => z, ?_⟩
          have n3t : t ≠ p3 := fun z => by rw [z, g.e3] at ht; cases ht
          refine ⟨.ref p3, rfl, .inl ⟨rfl, _, SqL.of g.e3⟩, p3, _, .ref t, rfl, rfl, g.e3, by rw [List.reverse_cons, List.length_append, List.length_singleton, Nat.add_sub_cancel, List.getElem?_append_right (Nat.le_refl _), Nat.sub_self]; rfl, ?_⟩
          rw [show (V.ref t :: zs).reverse.dropLast = zs.reverse by rw [List.reverse_cons, List.dropLast_concat]]
          refine ⟨t, _, rfl, SqT.of (by rw [upd_ne n3t]; exact ht), rfl, .int (at0 ss q).1, _, rfl, .int (at0 ss q).2, _, rfl, .int (q : Int), _, rfl, rfl, ?_⟩
          refine ⟨.ref fa, rfl, .int (at0 ss q).2, rfl, .int (q : Int), rfl, l2s, fun v nv => ?_⟩
          have sv := same_new nv (o := .tup [.int (at0 ss q).2, .int (q : Int)])
          refine ⟨fa, v, fs, _, ((at0 ss q).2, (q : Int)), rfl, sv _ _ (by rw [upd_ne nf3]; exact g.ef), (pairs_upd g.e3 g.pr).same sv, g.srt.sublist (List.Sublist.map _ List.filter_sublist), upd_same, by rw [List.length_map]; exact Nat.le_trans (List.length_filter_le _ _) (Nat.le_trans g.len (by decide)), fun fs' rs' hp pm st => ?_⟩
          exact ⟨O.length, Nat.lt_succ_self _, O, zs, fs', rfl, g.pop (fun b hb => Int.le_trans hlow (hlater b hb)) nv hp pm st nf0 np30 nfc nf2 nf3 n3c n32, _, _, _, _, rfl⟩
        · have hO : ∀ x ∈ q :: O, (at0 rs at').1 < (at0 ss x).1 := fun x m => by
            rcases List.mem_cons.mp m with z | z
            · rw [z]; omega
            · have := ord_low ((List.pairwise_cons.mp g.osr).1 x z)
              omega
          rw [decide_eq_false hlow]
          refine iteF ?_
          refine ⟨.ref fa, rfl, .int (at0 rs at').2, rfl, l2s, fun v nv => ?_⟩
          have sv := same_new nv (o := .tup [.int (at0 rs at').2, .int 0])
          refine ⟨fa, v, fs, _, ((at0 rs at').2, 0), rfl, sv _ _ g.ef, g.pr.same sv, g.srt.sublist (List.Sublist.map _ List.filter_sublist), upd_same, by rw [List.length_map]; exact Nat.le_trans (List.length_filter_le _ _) (Nat.le_trans g.len (by decide)), fun j pl => ?_⟩
          have gv := g.same sv
          generalize upd Hw v (.tup [.int (at0 rs at').2, .int 0]) = Hv at gv ⊢
          have lf := gv.pr.length
          obtain ⟨F1, F2⟩ := K55d.found (f := at0 rs) (s := at0 ss) (a := at') (i := j) gv.nd hO (fun q m n => gv.low q m n at' hat) pl
          refine ⟨.int j, rfl, .ref fa, rfl, fa, fs, rfl, .inl (SqL.of gv.ef), (j : Int), (fs.length : Int), rfl, rfl, _, rfl, ?_⟩
          by_cases hj : j < fs.length
          · rw [decide_eq_true (show (j : Int) < (fs.length : Int) by omega)]
            obtain ⟨p', m1, m2, e1, fd', er⟩ := F1 (by rw [← lf]; exact hj)
            obtain ⟨tv, e5, e6⟩ := BO.pair_get gv.pr e1
            have hn : tv ≠ fa := fun z => by rw [z, gv.ef] at e6; cases e6
            have lfs : fs.length ≤ 500 := by rw [lf, List.length_map]; exact Nat.le_trans (List.length_filter_le _ _) gv.len
            refine iteT ⟨.ref fa, rfl, .inl ⟨rfl, _, SqL.of gv.ef⟩, .int j, rfl, fa, fs, (j : Int), j, .ref tv, rfl, rfl, gv.ef, by omega, by omega, sIx hj, e5, ?_⟩
            refine ⟨tv, _, rfl, SqT.of (by rw [upd_ne hn]; exact e6), rfl, .int (at0 ss p').2, _, rfl, .int (p' : Int), _, rfl, .ref c, rfl, .int (at' : Int), rfl, c, res pre rs.length, (at' : Int), at', rfl, rfl, by rw [upd_ne nfc.symm]; exact gv.ec, ?_, rfl, ?_⟩
            · rw [res_len]
              unfold ixN
              rw [if_pos (by omega), if_pos (by omega)]
              rfl
            · exact ⟨pre ++ [(at', some p')], fr.erase p', _, _, fs.eraseIdx j, gv.yes ea ndL han fd' m1 m2 er nf0 nc0 nfc nf2 nf3 n2c n3c, _, _, _, _, _, _, _, rfl⟩
          · rw [decide_eq_false (show ¬ (j : Int) < (fs.length : Int) by omega)]
            exact iteF ⟨pre ++ [(at', none)], fr, _, _, fs, gv.no ea ndL (F2 (by rw [← lf]; exact hj)), _, _, _, _, _, _, _, rfl⟩
    · rintro σ Hz ⟨pre, fr, O, zs, fs, g, r3, r4, r5, r7, r10, r11, r12, rfl⟩
      have hl := g.t2.length
      rw [List.length_map] at hl
      have hg := g.go
      rw [hl, List.drop_length] at hg
      have hg : go (at0 rs) (at0 ss) L fr0 = pre := by rw [hg]; exact List.append_nil _
      refine ⟨.ref c, rfl, hq Hz c L fr0 g.sm nc0 (by rw [hg]; exact g.ec) pL oL pf0 sf0⟩
end
end P5P

/-! zip of a list and a tuple -/
namespace GZ
open PySem PySem.Spec PyProof.Rows L2
/-- the list at a, the tuple at b, the items in new pairs -/
def ItzM (K : PySem.W.Frag) (a b : Addr) : It :=
  ⟨fun i H => ∃ (xs ys : List V) (x y : V), SqL K H a xs ∧ SqT K H b ys ∧ xs[i]? = some x ∧ ys[i]? = some y,
    fun i H v H' => ∃ T x y, v = .ref T ∧ H T = none ∧ H' = upd H T (.tup [x, y]) ∧ (∀ xs, SqL K H a xs → xs[i]? = some x) ∧ ∀ ys, SqT K H b ys → ys[i]? = some y,
    fun i H => ∃ xs ys : List V, SqL K H a xs ∧ SqT K H b ys ∧ (xs.length = i ∨ ys.length = i) ∧ i ≤ xs.length ∧ i ≤ ys.length⟩
theorem sep {z TI TO i1 i2 a b : Addr} (D : ZipApart z TI TO i1 i2 a b) : ZipSep2 z TI TO i1 i2 [i1, a] [i2, b] :=
  { TIz := D.TIz, TOz := D.TOz, TITO := D.TITO, TIi1 := D.TIi1, mem1 := by simp, zf1 := by simp [D.i1z.symm, D.l1z.symm], Tf1 := by simp [D.l1TO.symm, D.TOi1], TIi2 := D.TIi2, mem2 := by simp, zf2 := by simp [D.i2z.symm, D.l2z.symm], Tf2 := by simp [D.l2TO.symm, D.TOi2], sep1_2 := by simp [D.i12, D.l2i1.symm], sep2_1 := by simp [D.i12.symm, D.l1i2.symm] }
theorem turn_zipM {P : Program} {w : World} {K : PySem.W.Frag} {elts : List Expr} {kk : Nat} {tpos : Pos} {a b z TI TO i1 i2 : Addr} (D : ZipApart z TI TO i1 i2 a b) :
    Turn P w K (.Tuple elts kk tpos) (ItzM K a b) [z, TI, TO, i1, i2] z (fun i h => IsZip h z TI TO .none ∧ IsTupOf2 h TI (.ref i1) (.ref i2) ∧ (∃ x y, IsTupOf2 h TO x y) ∧ h.IsListIter i1 a i ∧ h.IsTupleIter i2 b i) where
  mem := by simp
  obj := fun i h st c hc => by
    obtain ⟨hz, hTI, ⟨x, y, hTO⟩, ⟨o1, e1, _, d1⟩, ⟨o2, e2, _, d2⟩⟩ := st
    have e' : c = z ∨ c = TI ∨ c = TO ∨ c = i1 ∨ c = i2 := by simpa using hc
    rcases e' with q | q | q | q | q
    · rw [q]; exact ⟨_, hz, fun v q => nomatch q⟩
    · rw [q]; exact ⟨_, hTI, fun v q => nomatch q⟩
    · rw [q]; exact ⟨_, hTO, fun v q => nomatch q⟩
    · rw [q]; exact ⟨o1, e1, fun v q => by rw [d1] at q; cases q⟩
    · rw [q]; exact ⟨o2, e2, fun v q => by rw [d2] at q; cases q⟩
  keep := fun i h h' st k => by
    obtain ⟨hz, hTI, ⟨x, y, hTO⟩, h1, h2⟩ := st
    exact ⟨k z (by simp) _ hz, k TI (by simp) _ hTI, ⟨x, y, k TO (by simp) _ hTO⟩, h1.at fun o q => k i1 (by simp) o q, h2.at fun o q => k i2 (by simp) o q⟩
  item := by
    intro X hP hw hK hc i pins s σ H E I hf st hg
    subst hP hw hK
    obtain ⟨hz, hTI, ⟨x0, y0, hTO⟩, h1, h2⟩ := st
    obtain ⟨xs, ys, x, y, hqx, hqy, hx, hy⟩ := hg
    obtain ⟨its, rv, p, _⟩ := I.list hqx
    obtain ⟨its2, rv2, p2, _⟩ := I.tuple hqy
    obtain ⟨u, hu, ru⟩ := rv.get hx
    obtain ⟨u2, hu2, ru2⟩ := rv2.get hy
    have p2' : s.heap.IsTuple b its2.toArray := p2
    have hzl : z < s.heap.objs.size := Heap.lt_size hz
    have lt1 : i < its.toArray.size := by have := (List.getElem?_eq_some_iff.mp hu).1; simpa using this
    have lt2 : i < its2.toArray.size := by have := (List.getElem?_eq_some_iff.mp hu2).1; simpa using this
    refine wpAny_pyNext_zipD2_item (sep D) (Draws.list (prog := X.prog) (w := X.w) (A := X.A.in1) (I.ok.hd hc) i1 a D.l1i1 its.toArray) (Draws.tuple (prog := X.prog) (w := X.w) (A := X.A.in1) (I.ok.hd hc) i2 b D.l2i2 its2.toArray) hz hTI hTO ⟨h1, p.isList⟩ ⟨h2, p2'⟩ lt1 lt2
      fun v1 v2 h' tk q1 q2 z' TO' st1' st2' hT hsz hk => ?_
    have ex : v1 = u := by
      have px2 : its[i]? = some v1 := by simpa using q1
      rw [hu] at px2
      exact (Option.some.inj px2).symm
    have ey : v2 = u2 := by
      have px2 : its2[i]? = some v2 := by simpa using q2
      rw [hu2] at px2
      exact (Option.some.inj px2).symm
    subst ex ey
    refine ⟨_, rfl, wpAny_letOwnedTupleGo_zip (s := { s with heap := h', toks := tk }) z' fun h'' z'' sb => ?_⟩
    have hT2 : h''.get? s.heap.objs.size = some { cls := .type "tuple", data := .seq #[v1, v2] } := (sb.2 _ (Nat.ne_of_gt hzl)).trans hT
    have new : ObjOk X.prog X.w (upd H s.heap.objs.size (.tup [x, y])) h'' s.heap.objs.size (.tup [x, y]) :=
      ⟨by show 2 ≤ sizeLine; decide, [v1, v2], .cons ru (.cons ru2 .nil), ⟨_, hT2, rfl, _, rfl⟩⟩
    have I1 : Inv X pins σ (upd H s.heap.objs.size (.tup [x, y])) { s with heap := h'', toks := tk } :=
      I.turnedNew (ch := [z, TI, TO, i1, i2]) (fun c o hb q => (sb.2 c (fun q' => hb (by simp [q']))).trans (hk c o (fun q' => hb (by simp [q'])) (fun q' => hb (by simp [q'])) (fun q' => hb (by simp [q'])) (fun q' => hb (by simp [q'])) q)) hf (Nat.le_refl _) new
    refine ⟨.ref s.heap.objs.size, _, I1, rfl, ⟨_, x, y, rfl, I.hok.fresh (Nat.le_refl _), rfl, fun l hl => by rw [I.list_inj hl hqx]; exact hx, fun l hl => by rw [I.tuple_inj hl hqy]; exact hy⟩, ⟨z'', ?_, ⟨v1, v2, ?_⟩, ?_, ?_⟩, fun c hcm => ?_⟩
    · exact (sb.2 _ D.TIz).trans (hk _ _ D.TIz D.TITO D.TIi1 D.TIi2 hTI)
    · exact (sb.2 _ D.TOz).trans TO'
    · exact st1'.1.at fun o q => (sb.2 _ D.i1z).trans q
    · exact st2'.1.at fun o q => (sb.2 _ D.i2z).trans q
    · have hlt : c < s.heap.objs.size := by
        have e' : c = z ∨ c = TI ∨ c = TO ∨ c = i1 ∨ c = i2 := by simpa using hcm
        rcases e' with q | q | q | q | q
        · rw [q]; exact hzl
        · rw [q]; exact Heap.lt_size hTI
        · rw [q]; exact Heap.lt_size hTO
        · rw [q]; obtain ⟨_, e1, _⟩ := h1; exact Heap.lt_size e1
        · rw [q]; obtain ⟨_, e2, _⟩ := h2; exact Heap.lt_size e2
      rw [upd_ne (Nat.ne_of_lt hlt)]
      exact (hf c hcm).1
  done := by
    intro X hP hw hK hc i pins s σ H E I hf st hg
    subst hP hw hK
    obtain ⟨hz, hTI, ⟨x0, y0, hTO⟩, h1, h2⟩ := st
    obtain ⟨xs, ys, hqx, hqy, hend, hl1, hl2⟩ := hg
    obtain ⟨its, rv, p, _⟩ := I.list hqx
    obtain ⟨its2, rv2, p2, _⟩ := I.tuple hqy
    have p2' : s.heap.IsTuple b its2.toArray := p2
    have l1 := rv.length
    have l2 := rv2.length
    refine wpAny_pyNext_zipD2_end (sep D) (Draws.list (prog := X.prog) (w := X.w) (A := X.A.in1) (I.ok.hd hc) i1 a D.l1i1 its.toArray) (Draws.tuple (prog := X.prog) (w := X.w) (A := X.A.in1) (I.ok.hd hc) i2 b D.l2i2 its2.toArray) hz hTI hTO ⟨h1, p.isList⟩ ⟨h2, p2'⟩ (by simp; omega) (by simp; omega) (by simp; omega)
      fun h' tk hk => ⟨rfl, I.turnedL (t' := tk) (ch := [z, TI, TO, i1, i2]) (fun c o hb q => hk c o (fun q' => hb (by simp [q'])) (fun q' => hb (by simp [q'])) (fun q' => hb (by simp [q'])) (fun q' => hb (by simp [q'])) q) hf⟩
  self := fun A i s Q E st h => wpAny_pyIter_zip st.1 h
def iZipM (K : PySem.W.Frag) (ta : TA) : TI := fun σ H R => ta σ H fun vs H1 => ∃ a b xs ys, vs = [.ref a, .ref b] ∧ SqL K H1 a xs ∧ SqT K H1 b ys ∧ R (ItzM K a b) H1
theorem pi_zipM {X : Cx} {e e2 : Expr} {ta : TA} {p pos tpos : Pos} {elts : List Expr} {kk : Nat} (hg : Gl X "zip") (hm : X.mg "zip" = none) (ha : PA X [e, e2] ta)
    (hs : starEach [e, e2] X.env = (false, eval e X.env) :: starEach [e2] X.env := by rfl) (hpl : (backTo pos (starEach [e2] X.env)).any (·.1) = false := by rfl) :
    PI X (.Tuple elts kk tpos) (.Call (.Name "zip" p) [e, e2] [] pos) (iZipM X.K ta) := by
  refine ⟨fun pins s σ H R I h => ?_⟩
  refine Call_ (ld_blt I hg hm PyProof.Rows.boot_zip (PyProof.Rows.callWith_type1 (thn (ha.run pos pins s σ H _ I h) fun us s1 ⟨vs, H1, I1, r1, q1⟩ => ?_) hs hpl))
  obtain ⟨a, b, xs, ys, ex, hqx, hqy, q⟩ := q1
  subst ex
  cases r1 with
  | cons r rr =>
    cases rr with
    | cons r' rr =>
      cases rr
      cases r
      cases r'
      obtain ⟨its, rv, p1, _⟩ := I1.list hqx
      obtain ⟨its2, rv2, p2, _⟩ := I1.tuple hqy
      have p2' : s1.heap.IsTuple b its2.toArray := p2
      have la : a < s1.heap.objs.size := p1.lt
      have lb : b < s1.heap.objs.size := by obtain ⟨_, e, _⟩ := p2'; exact Heap.lt_size e
      refine zip_begins2 (begins_list a its.toArray) (begins_tuple b its2.toArray) p1.isList p2' fun h' hz hTI hTO h1 h2 hsz hk => wpAny_pyIter_zip hz ?_
      have I2 : Inv X pins σ H1 { s1 with heap := h' } := I1.kept (t' := s1.toks) hk
      refine ⟨s1.heap.objs.size + 4, [s1.heap.objs.size + 4, s1.heap.objs.size + 2, s1.heap.objs.size + 3, s1.heap.objs.size, s1.heap.objs.size + 1], _, _, H1, rfl, I2, turn_zipM (PySem.W.ktu_apart s1.heap.objs.size a b la lb), ⟨hz, hTI, ⟨_, _, hTO⟩, ⟨_, h1, rfl, rfl⟩, ⟨_, h2, rfl, rfl⟩⟩, fun c hcm => ?_, q⟩
      have e' : c = s1.heap.objs.size + 4 ∨ c = s1.heap.objs.size + 2 ∨ c = s1.heap.objs.size + 3 ∨ c = s1.heap.objs.size ∨ c = s1.heap.objs.size + 1 := by simpa using hcm
      have hle : s1.heap.objs.size ≤ c := by
        rcases e' with z | z | z | z | z <;> rw [z] <;> first | exact Nat.le_refl _ | exact Nat.le_add_right _ _
      exact I1.fpOk hle (I1.hok.fresh hle)
theorem walk_zipM {K : PySem.W.Frag} {a b : Addr} {xs ys : List V} {n : Nat} (hn : n = min xs.length ys.length) : Walk (ItzM K a b) n (fun H => SqL K H a xs ∧ SqT K H b ys) (YPair (fun i => xs[i]?) (fun i => ys[i]?)) := by
  refine ⟨fun i H hi q => ⟨xs, ys, xs[i]'(by omega), ys[i]'(by omega), q.1, q.2, List.getElem?_eq_getElem (by omega), List.getElem?_eq_getElem (by omega)⟩, fun H q => ⟨xs, ys, q.1, q.2, by omega, by omega, by omega⟩, fun i H v H' _ q y => ?_⟩
  obtain ⟨T, x, z, h1, h2, h3, h4, h5⟩ := y
  exact ⟨T, x, z, h1, h2, h3, h4 xs q.1, h5 ys q.2⟩
/-- zip of a list and a list or a tuple: a walk over both, by what it gives -/
def iZipS (K : PySem.W.Frag) (ta : TA) : TI := fun σ H R => ta σ H fun vs H1 => ∃ a b xs ys, vs = [.ref a, .ref b] ∧ SqL K H1 a xs ∧ PH.Sq K H1 b ys ∧
  ∀ (J : It) (G : Hp → Prop), Walk J (min xs.length ys.length) G (YPair (fun i => xs[i]?) (fun i => ys[i]?)) → (∀ H', L2.Same H1 H' → G H') → R J H1
theorem pi_zipS {X : Cx} {e e2 : Expr} {ta : TA} {p pos tpos : Pos} {elts : List Expr} {kk : Nat} (hg : Gl X "zip") (hm : X.mg "zip" = none) (ha : PA X [e, e2] ta)
    (hs : starEach [e, e2] X.env = (false, eval e X.env) :: starEach [e2] X.env := by rfl) (hpl : (backTo pos (starEach [e2] X.env)).any (·.1) = false := by rfl) :
    PI X (.Tuple elts kk tpos) (.Call (.Name "zip" p) [e, e2] [] pos) (iZipS X.K ta) := by
  refine ⟨fun pins s σ H R I h => ?_⟩
  refine Call_ (ld_blt I hg hm PyProof.Rows.boot_zip (PyProof.Rows.callWith_type1 (thn (ha.run pos pins s σ H _ I h) fun us s1 ⟨vs, H1, I1, r1, q1⟩ => ?_) hs hpl))
  obtain ⟨a, b, xs, ys, ex, hqx, hqy, q⟩ := q1
  subst ex
  have top : ∀ c, c ∈ [s1.heap.objs.size + 4, s1.heap.objs.size + 2, s1.heap.objs.size + 3, s1.heap.objs.size, s1.heap.objs.size + 1] → s1.heap.objs.size ≤ c := fun c hcm => by
    have e' : c = s1.heap.objs.size + 4 ∨ c = s1.heap.objs.size + 2 ∨ c = s1.heap.objs.size + 3 ∨ c = s1.heap.objs.size ∨ c = s1.heap.objs.size + 1 := by simpa using hcm
    rcases e' with z | z | z | z | z <;> rw [z] <;> first | exact Nat.le_refl _ | exact Nat.le_add_right _ _
  cases r1 with
  | cons r rr =>
    cases rr with
    | cons r' rr =>
      cases rr
      cases r
      cases r'
      obtain ⟨its, rv, p1, _⟩ := I1.list hqx
      have la : a < s1.heap.objs.size := p1.lt
      rcases hqy with hqy | hqy
      · obtain ⟨its2, rv2, p2, _⟩ := I1.list hqy
        have lb : b < s1.heap.objs.size := p2.lt
        refine call_zip_2 p1.isList p2.isList fun h' hz hTI hTO h1 h2 hsz hk => wpAny_pyIter_zip hz ?_
        have I2 : Inv X pins σ H1 { s1 with heap := h' } := I1.kept (t' := s1.toks) hk
        exact ⟨s1.heap.objs.size + 4, [s1.heap.objs.size + 4, s1.heap.objs.size + 2, s1.heap.objs.size + 3, s1.heap.objs.size, s1.heap.objs.size + 1], _, _, H1, rfl, I2, turn_zip (PySem.W.ktu_apart s1.heap.objs.size a b la lb), ⟨hz, hTI, ⟨_, _, hTO⟩, h1, h2⟩, fun c hcm => I1.fpOk (top c hcm) (I1.hok.fresh (top c hcm)), q _ _ (walk_zip rfl) fun H' s => ⟨s.seq hqx, s.seq hqy⟩⟩
      · obtain ⟨its2, rv2, p2, _⟩ := I1.tuple hqy
        have p2' : s1.heap.IsTuple b its2.toArray := p2
        have lb : b < s1.heap.objs.size := by obtain ⟨_, e, _⟩ := p2'; exact Heap.lt_size e
        refine zip_begins2 (begins_list a its.toArray) (begins_tuple b its2.toArray) p1.isList p2' fun h' hz hTI hTO h1 h2 hsz hk => wpAny_pyIter_zip hz ?_
        have I2 : Inv X pins σ H1 { s1 with heap := h' } := I1.kept (t' := s1.toks) hk
        exact ⟨s1.heap.objs.size + 4, [s1.heap.objs.size + 4, s1.heap.objs.size + 2, s1.heap.objs.size + 3, s1.heap.objs.size, s1.heap.objs.size + 1], _, _, H1, rfl, I2, turn_zipM (PySem.W.ktu_apart s1.heap.objs.size a b la lb), ⟨hz, hTI, ⟨_, _, hTO⟩, ⟨_, h1, rfl, rfl⟩, ⟨_, h2, rfl, rfl⟩⟩, fun c hcm => I1.fpOk (top c hcm) (I1.hok.fresh (top c hcm)), q _ _ (walk_zipM rfl) fun H' s => ⟨s.seq hqx, KA.SqT_same s hqy⟩⟩
end GZ

/-! walks and items of what is a list or a tuple; keyword-only parameters -/
namespace GB
open PySem PySem.Spec PyProof.Rows L2 PH KA
section
variable {X : Cx} {tg l : Expr} {tl : TE}
def iBoth (K : PySem.W.Frag) (tl : TE) : TI := fun σ H R => tl σ H fun x H1 => ∃ a, x = .ref a ∧ (((∃ xs, SqL K H1 a xs) ∧ R (Itl K a) H1) ∨ ((∃ xs, SqT K H1 a xs) ∧ R (Itt K a) H1))
theorem pi_both (hl : PE X l tl) : PI X tg l (iBoth X.K tl) := by
  refine ⟨fun pins s σ H R I h => ?_⟩
  refine thn (hl.run pins s σ H _ I h) fun v s1 ⟨x, H1, I1, r1, q1⟩ => ?_
  obtain ⟨a, e, q⟩ := q1
  subst e
  cases r1
  rcases q with ⟨⟨xs, hq⟩, q⟩ | ⟨⟨xs, hq⟩, q⟩
  · obtain ⟨its, rv, p, hz⟩ := I1.list hq
    refine wpAny_pyIter_list p.isList ?_
    refine ⟨s1.heap.objs.size, [s1.heap.objs.size], _, _, H1, rfl, I1.kept (t' := s1.toks) fun b o e => Heap.get?_push_of_some _ e, turn_list a _, ⟨_, Heap.get?_push_size _ rfl, rfl, rfl⟩, fun b hb => ?_, q⟩
    have e : b = s1.heap.objs.size := by simpa using hb
    subst e
    exact I1.fpOk (Nat.le_refl _) (I1.hok.fresh (Nat.le_refl _))
  · obtain ⟨its, rv, p, hz⟩ := I1.tuple hq
    refine wpAny_pyIter_tuple (show s1.heap.IsTuple a its.toArray from p) ?_
    refine ⟨s1.heap.objs.size, [s1.heap.objs.size], _, _, H1, rfl, I1.kept (t' := s1.toks) fun b o e => Heap.get?_push_of_some _ e, turn_tuple a _, ⟨_, Heap.get?_push_size _ rfl, rfl, rfl⟩, fun b hb => ?_, q⟩
    have e : b = s1.heap.objs.size := by simpa using hb
    subst e
    exact I1.fpOk (Nat.le_refl _) (I1.hok.fresh (Nat.le_refl _))
def rIxB (K : PySem.W.Frag) : R2 := fun x y H Q => ∃ p xs i v, x = .ref p ∧ y = .int i ∧ Sq K H p xs ∧ atI xs i = some v ∧ Q v H
theorem ix_both : IxR X (rIxB X.K) := by
  intro value slice pins s σ H x y v u Q I rx ry ⟨p, xs, i, z, e1, e2, hq, he, q⟩ hs
  rcases hq with hq | hq
  · exact ix_list value slice pins s σ H x y v u Q I rx ry ⟨p, xs, i, z, e1, e2, hq, he, q⟩ hs
  · exact ix_tup value slice pins s σ H x y v u Q I rx ry ⟨p, xs, i, z, e1, e2, hq, he, q⟩ hs
end
/-- f(e, .., k = v): the keyword-only parameter is named -/
theorem kbn1 {K : PySem.W.Frag} {x qual : Str} {params : Arguments} {body : List Stmt} {scope : Scope} {kws : List (Str × V)} {f : Addr} {fd : FuncData} {ps : List Str} {k : Str} (F : FunD K x qual params body scope [] kws f fd) (n : Nat)
    (h : ∀ (kV doc pm : Value) (an : Option Addr) (cdv ct : Value) (us : List Value) (w : Value), us.length = n → bindArgs (PySem.W.fnOf x qual params body scope .none kV doc pm an cdv ct) ⟨us, [(k, w)]⟩ = pure (ps.zip (us ++ [w]))) :
    KBn K fd ps n [k] (fun us ws => us ++ ws) (fun vs zs => vs ++ zs) := by
  obtain ⟨oc, od, dV, kV, doc, pm, an, cdv, ct, osl, rfl, lk, hcd, hD, hK⟩ := F.ex
  rcases hD with ⟨_, rfl⟩ | ⟨e, _⟩
  · refine ⟨fun s us ws X l1 l2 => ?_, fun r1 r2 => r1.append r2⟩
    match ws, l2 with
    | [w], _ => exact .of_eq (h kV doc pm an cdv ct us w l1)
  · exact absurd rfl e
end GB

set_option pp.maxSteps 900
/-! is_matching over values of any kind -/
namespace P5I
open PySem PySem.Spec PyProof.Rows L2 KA KD PH PM RM RN K55 K55b K55d DV P5P
abbrev sNu : Stmt := topS 5
abbrev sCont : Stmt := topS 7
abbrev sIM : Stmt := topS 16
theorem scNu : FnScope ["value"] ["value"] (defScope sNu) := ⟨rfl, rfl, rfl, by decide +kernel, rfl, by decide +kernel, by decide +kernel⟩
theorem scCo : FnScope ["outer", "inner"] ["outer", "inner"] (defScope sCont) := ⟨rfl, rfl, rfl, by decide +kernel, rfl, by decide +kernel, by decide +kernel⟩
theorem scIM : FnScope ["first", "second", "value", "place", "inner"] ["first", "second", "value"] (defScope sIM) := ⟨rfl, rfl, rfl, by decide +kernel, rfl, by decide +kernel, by decide +kernel⟩
def isNum : PyData → Bool
  | .int _ => true | _ => false
def isL : PyData → Bool
  | .list _ => true | _ => false
theorem isL_lst {d : PyData} (h : isL d = true) : ∃ ds, d = .list ds := by
  cases d with
  | list ds => exact ⟨ds, rfl⟩
  | _ => exact absurd h (by simp [isL])
theorem kit_l {K : PySem.W.Frag} : ∀ d : PyData, PySem.W.kitOne K (.type (tyS d)) (.type "list") = some (isL d)
  | .none => kit_ty (show kitB "NoneType" "list" = some false by decide +kernel)
  | .bool _ => kit_ty (show kitB "bool" "list" = some false by decide +kernel)
  | .int _ => kit_ty (show kitB "int" "list" = some false by decide +kernel)
  | .str _ => kit_ty (show kitB "str" "list" = some false by decide +kernel)
  | .list _ => kit_ty (show kitB "list" "list" = some true by decide +kernel)
  | .tuple _ => kit_ty (show kitB "tuple" "list" = some false by decide +kernel)
  | .dict _ => kit_ty (show kitB "dict" "list" = some false by decide +kernel)
def plB (n : Nat) : PyData → Bool
  | .int i => decide (0 ≤ i) && decide (i < (n : Int)) | _ => false
theorem pl_int {n : Nat} {d : PyData} (h : plB n d = true) : ∃ i : Int, d = .int i ∧ 0 ≤ i ∧ i < n := by
  cases d with
  | int i =>
    simp only [plB, Bool.and_eq_true, decide_eq_true_eq] at h
    exact ⟨i, rfl, h.1, h.2⟩
  | _ => exact absurd h (by simp [plB])
theorem pl_all {n : Nat} : ∀ {ds : List PyData}, ds.all (plB n) = true → ∃ ns : List Int, ds = dInts ns ∧ ∀ x ∈ ns, 0 ≤ x ∧ x < n
  | [], _ => ⟨[], rfl, fun _ z => nomatch z⟩
  | d :: ds, h => by
    rw [List.all_cons, Bool.and_eq_true] at h
    obtain ⟨i, rfl, h1, h2⟩ := pl_int h.1
    obtain ⟨ns, rfl, hn⟩ := pl_all h.2
    exact ⟨i :: ns, rfl, fun x hx => by
      rcases List.mem_cons.mp hx with rfl | hx
      · exact ⟨h1, h2⟩
      · exact hn x hx⟩
theorem pl_ints {n : Nat} : ∀ {ns : List Int}, (∀ x ∈ ns, 0 ≤ x ∧ x < n) → (dInts ns).all (plB n) = true
  | [], _ => rfl
  | i :: ns, h => by
    show (plB n (.int i) && (dInts ns).all (plB n)) = true
    rw [pl_ints fun x hx => h x (List.mem_cons_of_mem _ hx), Bool.and_true]
    have := h i List.mem_cons_self
    simp only [plB, Bool.and_eq_true, decide_eq_true_eq]
    exact this
def intsOf : List PyData → List Int
  | [] => [] | .int i :: ds => i :: intsOf ds | _ :: ds => intsOf ds
theorem intsOf_ints : ∀ ns : List Int, intsOf (dInts ns) = ns
  | [] => rfl
  | n :: ns => by show n :: intsOf (dInts ns) = _; rw [intsOf_ints ns]
theorem dv_ints_of {f : Addr} {H : Hp} : ∀ {ns : List Int} {xs : List V}, DvAll f H xs (dInts ns) → xs = ns.map V.int
  | [], _, h => by cases h; rfl
  | n :: ns, _, h => by
    cases h with
    | cons h1 h2 =>
      cases h1
      rw [dv_ints_of h2]
      rfl
def cB (o r : Int × Int) : Bool := decide (o.1 ≤ r.1) && decide (r.2 ≤ o.2)
def okP (rs ss : List (Int × Int)) (ns : List Int) (i : Nat) : Bool := cB (at0 ss ((ns[i]?).getD 0).toNat) (at0 rs i)
def matN (rs ss : List (Int × Int)) (ns : List Int) : Bool := decide ns.Nodup && (List.range rs.length).all (okP rs ss ns)
/-- a matching of rs into ss -/
def matB (rs ss : List (Int × Int)) : PyData → Bool
  | .list ds => decide (ds.length = rs.length) && (ds.all (plB ss.length) && matN rs ss (intsOf ds))
  | _ => false
theorem matB_not {rs ss : List (Int × Int)} {d : PyData} (h : isL d = false) : matB rs ss d = false := by
  cases d with
  | list ds => exact absurd h (by simp [isL])
  | _ => rfl
theorem sub_len : ∀ {ns ks : List Int}, ks.Nodup → (∀ k ∈ ks, k ∈ ns) → ks.length ≤ ns.length ∧ (ks.length = ns.length → ns.Nodup)
  | [], ks, _, h => by
    have : ks = [] := List.eq_nil_iff_forall_not_mem.mpr fun k hk => nomatch h k hk
    subst this
    exact ⟨Nat.le_refl _, fun _ => List.nodup_nil⟩
  | x :: t, ks, nd, h => by
    have nd2 : (ks.erase x).Nodup := nd.erase x
    have sub : ∀ k ∈ ks.erase x, k ∈ t := fun k hk => by
      have e := (nd.mem_erase_iff).mp hk
      rcases List.mem_cons.mp (h k e.2) with z | z
      · exact absurd z e.1
      · exact z
    obtain ⟨l1, l2⟩ := sub_len nd2 sub
    have le := List.length_erase (a := x) (l := ks)
    by_cases hx : x ∈ ks
    · rw [if_pos hx] at le
      have lp := List.length_pos_of_mem hx
      refine ⟨by rw [List.length_cons]; omega, fun e => ?_⟩
      rw [List.length_cons] at e
      refine List.nodup_cons.mpr ⟨fun hxt => ?_, l2 (by omega)⟩
      have l3 := (sub_len nd (ns := t) fun k hk => by
        rcases List.mem_cons.mp (h k hk) with z | z
        · rw [z]; exact hxt
        · exact z).1
      omega
    · rw [if_neg hx] at le
      refine ⟨by rw [List.length_cons]; omega, fun e => ?_⟩
      rw [List.length_cons] at e
      omega
theorem set_len {ns ks : List Int} (nd : ks.Nodup) (h : ∀ k, k ∈ ks ↔ decide (k ∈ ns) = true) : decide (V.int (ks.length : Nat) = V.int (ns.length : Nat)) = decide ns.Nodup := by
  have h' : ∀ k, k ∈ ks ↔ k ∈ ns := fun k => by rw [h k, decide_eq_true_eq]
  by_cases e : ns.Nodup
  · rw [decide_eq_true e]
    have a := (sub_len nd fun k hk => (h' k).mp hk).1
    have b := (sub_len e fun k hk => (h' k).mpr hk).1
    exact decide_eq_true (by rw [show ks.length = ns.length by omega])
  · rw [decide_eq_false e]
    refine decide_eq_false fun z => e ((sub_len nd fun k hk => (h' k).mp hk).2 ?_)
    simp only [V.int.injEq] at z
    omega
theorem map_take {α β : Type} {g : α → β} {ds : List α} {i : Nat} {d : α} (e : ds[i]? = some d) : (ds.take (i + 1)).map g = (ds.take i).map g ++ [g d] := by
  rw [List.take_add_one, e, Option.toList_some, List.map_append]
  rfl
theorem all_id' {α : Type} {g : α → Bool} (ds : List α) : (ds.map g).all id = ds.all g := by
  rw [List.all_map]
  rfl
section
variable {P : Program} {w : World} {K : PySem.W.Frag} {mg : Str → Option Value} {base : Heap}
def spCont (K : PySem.W.Frag) : Sp := fun vs H Q _ => ∃ (p q : Addr) (a b c d : Int), vs = [.ref p, .ref q] ∧ SqT K H p [.int a, .int b] ∧ SqT K H q [.int c, .int d] ∧ Q (.bl (decide (a ≤ c) && decide (d ≤ b))) H
theorem ok_Cont {f : Addr} {fd : FuncData} {k : Nat} (F : Fun K "contains" "contains" sCont f fd) : FnOk P w K mg base CX0 (k + 1) f fd ["outer", "inner"] (spCont K) := by
  refine F.ok scCo (fun vs H Q E h => ?_) (fun cdv A outer s H vs Q E hr h => ?_)
  · obtain ⟨p, q, a, b, c, d, rfl, _⟩ := h
    rfl
  · obtain ⟨p, q, a, b, c, d, rfl, h1, h2, hq⟩ := h
    refine ⟨_, pss_one (ps_ret (pe_and (pe_cmpR op_le (pe_ix ix_tup (pv 0) pe_int (fun _ _ => rfl)) (pe_ix ix_tup (pv 1) pe_int (fun _ _ => rfl)) (nomark _)) (pe_one (pe_cmpR op_le (pe_ix ix_tup (pv 1) pe_int (fun _ _ => rfl)) (pe_ix ix_tup (pv 0) pe_int (fun _ _ => rfl)) (nomark _))))), ?_⟩
    refine ⟨.ref p, rfl, p, _, 0, .int a, rfl, rfl, h1, rfl, .ref q, rfl, q, _, 0, .int c, rfl, rfl, h2, rfl, a, c, rfl, rfl, _, rfl, ?_⟩
    by_cases e : a ≤ c
    · rw [decide_eq_true e] at hq ⊢
      exact iteT ⟨.ref q, rfl, q, _, 1, .int d, rfl, rfl, h2, rfl, .ref p, rfl, p, _, 1, .int b, rfl, rfl, h1, rfl, d, b, rfl, rfl, hq⟩
    · rw [decide_eq_false e] at hq ⊢
      exact iteF hq
def spNu : Sp := fun vs H Q _ => ∃ (v : V) (g : Addr) (d : PyData), vs = [v] ∧ Dv g H v d ∧ Q (.bl (isNum d)) H
theorem ok_nu {f : Addr} {fd : FuncData} {k : Nat} (F : Fun K "is_number" "is_number" sNu f fd) (ms : mg "isinstance" = none) (mi : mg "int" = none) (mb : mg "bool" = none) : FnOk P w K mg base CX0 (k + 1) f fd ["value"] spNu := by
  refine F.ok scNu (fun vs H Q E h => ?_) (fun cdv A outer s H vs Q E hr h => ?_)
  · obtain ⟨v, g, d, rfl, hd, hq⟩ := h
    rfl
  · obtain ⟨v, g, d, rfl, hd, hq⟩ := h
    refine ⟨_, (pss_one (ps_ret (pe_and (pe_callB call_isi (by rfl) ms (by decide +kernel) (pa_cons (pv 0) (pa_cons (pe_bltn (v := .ty "int") (by rfl) mi (by decide +kernel) rfl) pa_nil))) (pe_one (pe_not (pe_callB call_isi (by rfl) ms (by decide +kernel) (pa_cons (pv 0) (pa_cons (pe_bltn (v := .ty "bool") (by rfl) mb (by decide +kernel) rfl) pa_nil)))))))), ?_⟩
    refine ⟨v, rfl, v, .ty "int", _, .type "int", _, rfl, .ty "int", hd.ty, kit_i d, _, rfl, ?_⟩
    cases hi : isI d with
    | false =>
      rw [show isNum d = false by cases d <;> simp_all [isI, isNum]] at hq
      exact iteF hq
    | true =>
      refine iteT ⟨v, rfl, v, .ty "bool", _, .type "bool", _, rfl, .ty "bool", hd.ty, kit_b d, _, rfl, ?_⟩
      rw [show isNum d = !isB d by cases d <;> simp_all [isI, isB, isNum]] at hq
      exact hq
def spIM (K : PySem.W.Frag) : Sp := fun vs H Q _ => ∃ (a b g : Addr) (xs ys : List V) (rs ss : List (Int × Int)) (v : V) (d : PyData), vs = [.ref a, .ref b, v] ∧ Sq K H a xs ∧ PairsAt H xs rs ∧ Sq K H b ys ∧ PairsAt H ys ss ∧ rs.length ≤ 500 ∧ ss.length ≤ 500 ∧ Dv g H v d ∧
  ∀ H', Same H H' → Q (.bl (matB rs ss d)) H'
theorem ok_IM {f fNU fCO : Addr} {fd dNU dCO : FuncData} {k : Nat} (F : Fun K "is_matching" "is_matching" sIM f fd) (GNU : FnOk P w K mg base CX0 (k + 1) fNU dNU ["value"] spNu) (gNU : mg "is_number" = some (.ref fNU)) (kNU : PySem.W.keepIn K (.ref fNU) = true) (bNU : Binds K dNU ["value"] []) (GCO : FnOk P w K mg base CX0 (k + 1) fCO dCO ["outer", "inner"] (spCont K)) (gCO : mg "contains" = some (.ref fCO)) (kCO : PySem.W.keepIn K (.ref fCO) = true) (bCO : Binds K dCO ["outer", "inner"] []) (ms : mg "isinstance" = none) (ml : mg "list" = none) (mlen : mg "len" = none) (mall : mg "all" = none) (mset : mg "set" = none) (mz : mg "zip" = none) : FnOk P w K mg base CX0 (k + 2) f fd ["first", "second", "value"] (spIM K) := by
  refine F.ok scIM (fun vs H Q E h => ?_) (fun cdv A outer s H vs Q E hr h => ?_)
  · obtain ⟨a, b, g, xs, ys, rs, ss, v, d, rfl, _⟩ := h
    rfl
  · obtain ⟨a, b, g, xs, ys, rs, ss, v, d, rfl, hA, pa, hB, pb, hl1, hl2, hd, hq⟩ := h
    refine ⟨_, (pss_cons (ps_if (PW.pt (pw_or (pt_not (pt_val (pe_callB call_isi (by rfl) ms (by decide +kernel) (pa_cons (pv 2) (pa_cons (pe_bltn (v := .ty "list") (by rfl) ml (by decide +kernel) rfl) pa_nil))))) (pw_or1 (pt_cmpR op_ne (pe_callB call_len_seq (by rfl) mlen PySem.boot_len (pa_cons (pv 2) pa_nil)) (pe_callB call_len_seq (by rfl) mlen PySem.boot_len (pa_cons (pv 0) pa_nil)) (nomark _))))) (pss_one (ps_ret pe_bl)) pss_nil)
      (pss_cons (ps_if (pt_not (pt_val (pe_callB (cr_all rfl) (by rfl) mall (by decide +kernel) (pa_cons (pe_lc (own := [("place", 3)]) (g := gName 3) (tt := tYes) (te := tAndV (tCall spNu [] E0 (tCons (tVar 3) tNil)) (tChain (rI0 fun i j => V.bl (decide (i ≤ j))) (rI0 fun i j => V.bl (decide (i < j))) (tC (V.int 0)) (tVar 3) (tCB (fun xs H Q => ∃ p ys, xs = [V.ref p] ∧ (SqL K H p ys ∨ SqT K H p ys) ∧ Q (.int ys.length) H) (tCons (tVar 1) tNil)))) rfl scIM.nd (pi_list (pv 2)) (blkOk_by (own := [("place", 3)]) (N := ["first", "second", "value", "place", "inner"]) (sc := defScope sIM) (by decide +kernel)) (fun _ _ _ _ _ => (pg_name (i := 3) scIM.nd rfl (Or.inl rfl) (Or.inr rfl))) (fun _ _ _ _ _ => pts_nil) (fun _ _ _ _ _ => (pe_and (pe_call (GNU.mono (show k + 1 ≤ k + 1 by omega)) hr (by rfl) gNU kNU bNU .nil pass0 (pa_cons (pv 3) pa_nil)) (pe_one (pe_chain op_le op_lt pe_int (pv 3) (pe_callB call_len_seq (by rfl) mlen PySem.boot_len (pa_cons (pv 1) pa_nil))))))) pa_nil)))) (pss_one (ps_ret pe_bl)) pss_nil)
      (pss_cons (ps_if (pt_cmpR op_ne (pe_callB GU.cr_lenSet (by rfl) mlen PySem.boot_len (pa_cons (pe_callTy (KS.cr_setL rfl) (by rfl) mset (by decide +kernel) (pa_cons (pv 2) pa_nil)) pa_nil)) (pe_callB call_len_seq (by rfl) mlen PySem.boot_len (pa_cons (pv 2) pa_nil)) (nomark _)) (pss_one (ps_ret pe_bl)) pss_nil)
      (pss_one (ps_ret (pe_callB (cr_all rfl) (by rfl) mall (by decide +kernel) (pa_cons (pe_lc (own := [("place", 3), ("inner", 4)]) (g := gTup K 2 (gCons (gName 3) (gCons (gName 4) gNil))) (tt := tYes) (te := tCall (spCont K) [] E0 (tCons (tOp (GB.rIxB K) (tVar 1) (tVar 3)) (tCons (tVar 4) tNil))) rfl scIM.nd (GZ.pi_zipS (by rfl) mz (pa_cons (pv 2) (pa_cons (pv 0) pa_nil))) (blkOk_by (own := [("place", 3), ("inner", 4)]) (N := ["first", "second", "value", "place", "inner"]) (sc := defScope sIM) (by decide +kernel)) (fun _ _ _ _ _ => (pg_tup rfl (pgs_cons (pg_name (i := 3) scIM.nd rfl (Or.inl rfl) (Or.inr rfl)) (pgs_cons (pg_name (i := 4) scIM.nd rfl (Or.inl rfl) (Or.inr rfl)) pgs_nil)))) (fun _ _ _ _ _ => pts_nil) (fun _ _ _ _ _ => (pe_call (GCO.mono (show k + 1 ≤ k + 1 by omega)) hr (by rfl) gCO kCO bCO .nil pass0 (pa_cons (pe_ix GB.ix_both (pv 1) (pv 3) (fun _ _ => rfl)) (pa_cons (pv 4) pa_nil))))) pa_nil))))))), ?_⟩
    have la := pa.length
    have lb := pb.length
    refine ⟨v, rfl, v, .ty "list", _, .type "list", _, rfl, .ty "list", hd.ty, kit_l d, _, rfl, ?_⟩
    cases ht : isL d with
    | false =>
      have hq := hq _ (Same.refl H)
      rw [matB_not ht] at hq
      exact iteT (iteT hq)
    | true =>
      obtain ⟨ds, rfl⟩ := isL_lst ht
      cases hd with
      | @lst c zs _ hn e da =>
        refine iteF ⟨.ref c, rfl, _, _, rfl, .inl (SqL.of e), .ref a, rfl, a, xs, rfl, hA, rfl, _, rfl, ?_⟩
        by_cases hl : ds.length = rs.length
        rotate_left
        · have e2 : decide (V.int (zs.length : Int) = V.int (xs.length : Int)) = false := decide_eq_false fun z => by
            have := da.length
            simp only [V.int.injEq] at z
            omega
          rw [e2]
          have hq := hq _ (Same.refl H)
          rw [show matB rs ss (.list ds) = false by show (_ && _) = _; rw [decide_eq_false hl]; rfl] at hq
          exact iteT hq
        · have lz := da.length
          have e2 : decide (V.int (zs.length : Int) = V.int (xs.length : Int)) = true := decide_eq_true (by rw [lz, hl, la])
          rw [e2]
          refine iteF ⟨.ref c, rfl, c, rfl, ⟨zs, SqL.of e⟩, fun D nD => ?_⟩
          refine lc_it (walk_list (xs := zs)) (fun i Hz => Same H Hz ∧ Hz D = some (.lst (((ds.take i).map (plB ss.length)).map V.bl))) ⟨same_new nD, upd_same⟩ (fun i Hz _ z => SqL.of (z.1 _ _ e)) ?_ ?_
          · rintro i x Hz H2 hi ⟨sz, hD⟩ ⟨rfl, hx⟩
            obtain ⟨d3, e3, dv⟩ := da.at hx
            refine ⟨rfl, iteT (B := True) ⟨x, rfl, x, g, d3, rfl, dv.same sz, _, rfl, ?_⟩⟩
            have fin : ∀ bb, bb = plB ss.length d3 → ∃ acc, H2 D = some (.lst acc) ∧ acc.length < sizeLine ∧ (∀ b o, H b = some o → upd H2 D (.lst (acc ++ [V.bl bb])) b = some o) ∧ upd H2 D (.lst (acc ++ [V.bl bb])) D = some (.lst (((ds.take (i + 1)).map (plB ss.length)).map V.bl)) := fun bb hb => by
              refine ⟨_, hD, ?_, fun b o eb => ?_, ?_⟩
              · simp only [List.length_map, List.length_take]
                exact small3000 (by omega)
              · rw [upd_ne (ne_of_none eb nD)]
                exact sz b o eb
              · rw [map_take e3, List.map_append, hb]
                exact upd_same
            cases hn2 : isNum d3 with
            | false =>
              obtain ⟨acc, g1, g2, g3, g4⟩ := fin false (by cases d3 <;> simp_all [plB, isNum])
              exact iteF ⟨acc, g1, g2, g3, g4⟩
            | true =>
              obtain ⟨j, rfl⟩ : ∃ j, d3 = .int j := by
                cases d3 with
                | int j => exact ⟨j, rfl⟩
                | _ => exact absurd hn2 (by simp [isNum])
              cases dv
              refine iteT ⟨.int j, rfl, 0, j, rfl, rfl, _, rfl, ?_⟩
              by_cases h0 : (0 : Int) ≤ j
              · rw [decide_eq_true h0]
                obtain ⟨acc, g1, g2, g3, g4⟩ := fin (decide (j < (ys.length : Nat))) (by simp only [plB, h0, decide_true, Bool.true_and, lb])
                exact iteT ⟨.ref b, rfl, b, ys, rfl, hB.same sz, j, _, rfl, rfl, acc, g1, g2, g3, g4⟩
              · rw [decide_eq_false h0]
                obtain ⟨acc, g1, g2, g3, g4⟩ := fin false (by simp only [plB, h0, decide_false, Bool.false_and])
                exact iteF ⟨acc, g1, g2, g3, g4⟩
          · rintro Hz ⟨sz, hD⟩
            rw [lz, List.take_length] at hD
            refine ⟨D, ds.map (plB ss.length), rfl, SqL.of hD, _, rfl, ?_⟩
            rw [all_id']
            cases hb : ds.all (plB ss.length) with
            | false =>
              have hq := hq _ sz
              rw [show matB rs ss (.list ds) = false by show (_ && (_ && _)) = _; rw [hb, Bool.false_and, Bool.and_false]] at hq
              exact iteT hq
            | true =>
              obtain ⟨ns, rfl, hns⟩ := pl_all hb
              have ez := dv_ints_of da
              subst ez
              have ln : ns.length = rs.length := by rw [← hl]; simp [dInts]
              have e3 := sz _ _ e
              refine iteF ⟨.ref c, rfl, c, ns, rfl, SqL.of e3, by omega, fun p n np hpn => ?_⟩
              refine ⟨p, _, n, rfl, upd_same, by omega, fun ⟨ks, nd, lk, mk⟩ => ?_⟩
              have sp := same_new np (o := SetO w p (fun j => decide (j ∈ ns)) n)
              refine ⟨.ref c, rfl, c, _, rfl, .inl (SqL.of (sp _ _ e3)), rfl, _, rfl, ?_⟩
              subst lk
              rw [List.length_map, set_len nd mk]
              have s2 := sz.trans sp
              by_cases hnd : ns.Nodup
              rotate_left
              · rw [decide_eq_false hnd]
                have hq := hq _ s2
                rw [show matB rs ss (.list (dInts ns)) = false by show (_ && (_ && matN _ _ _)) = _; rw [intsOf_ints, show matN rs ss ns = false by unfold matN; rw [decide_eq_false hnd, Bool.false_and], Bool.and_false, Bool.and_false]] at hq
                exact iteT hq
              · rw [decide_eq_true hnd]
                have e4 := s2 _ _ e
                refine iteF ⟨.ref c, rfl, .ref a, rfl, c, a, _, xs, rfl, SqL.of e4, hA.same s2, fun J G wk hG D2 nD2 => ?_⟩
                refine lc_it wk (fun i Hy => Same (upd Hz p (SetO w p (fun j => decide (j ∈ ns)) ks.length)) Hy ∧ Hy D2 = some (.lst (((List.range i).map (okP rs ss ns)).map V.bl))) ⟨same_new nD2, upd_same⟩ (fun i Hy _ z => hG _ z.1) ?_ ?_
                · rintro i y Hy Hx hi ⟨sy, hD2⟩ ⟨T, x, u, rfl, nT, rfl, hx, hu⟩
                  obtain ⟨m, hm, rfl⟩ := int_at hx
                  obtain ⟨r, p2, er, rfl, e5⟩ := pr_at pa hu
                  obtain ⟨m0, m1⟩ := hns m (List.mem_of_getElem? hm)
                  obtain ⟨j, rfl⟩ : ∃ j : Nat, m = (j : Int) := ⟨m.toNat, by omega⟩
                  have hj : j < ys.length := by omega
                  have ej := List.getElem?_eq_getElem hj
                  obtain ⟨r2, p3, er2, ep3, e6⟩ := pr_at pb ej
                  have sT := same_new nT (o := .tup [.int (j : Int), .ref p2])
                  have s3 := (s2.trans sy).trans sT
                  refine ⟨T, _, rfl, SqT.of upd_same, rfl, .int (j : Int), [.ref p2], rfl, .ref p2, [], rfl, rfl, rfl, iteT (B := True) ?_⟩
                  refine ⟨.ref b, rfl, .int (j : Int), rfl, b, ys, _, ys[j], rfl, rfl, hB.same s3, atI_nat ej, .ref p2, rfl, ?_⟩
                  rw [ep3]
                  refine ⟨p3, p2, r2.1, r2.2, r.1, r.2, rfl, SqT.of (s3 _ _ e6), SqT.of (s3 _ _ e5), _, sT _ _ hD2, ?_, fun b3 o eb => ?_, ?_⟩
                  · simp only [List.length_map, List.length_range]
                    exact small3000 (by rw [List.length_map] at hi; omega)
                  · rw [upd_ne (ne_of_none eb nD2)]
                    exact sT _ _ (sy b3 o eb)
                  · rw [List.range_succ, List.map_append, List.map_append, List.map_cons, List.map_nil, List.map_cons, List.map_nil, show okP rs ss ns i = (decide (r2.1 ≤ r.1) && decide (r.2 ≤ r2.2)) by unfold okP; rw [hm]; show cB (at0 ss ((j : Int)).toNat) (at0 rs i) = _; rw [Int.toNat_natCast]; unfold at0; rw [er, er2]; rfl]
                    exact upd_same
                · rintro Hy ⟨sy, hD2⟩
                  rw [List.length_map, la, ln, Nat.min_self] at hD2
                  refine ⟨D2, _, rfl, SqL.of hD2, ?_⟩
                  rw [all_id']
                  have hq := hq _ (s2.trans sy)
                  rw [show matB rs ss (.list (dInts ns)) = (List.range rs.length).all (okP rs ss ns) by show (_ && (_ && matN _ _ _)) = _; rw [decide_eq_true hl, hb, intsOf_ints, Bool.true_and, Bool.true_and]; unfold matN; rw [decide_eq_true hnd, Bool.true_and]] at hq
                  exact hq
end
end P5I

/-! a matching is there exactly if no set of ranges is around more of the first list than of the second -/
namespace K55c
open K55 K55b
theorem sub_len {α : Type} [DecidableEq α] : ∀ {l m : List α}, l.Nodup → (∀ x ∈ l, x ∈ m) → l.length ≤ m.length
  | [], _, _, _ => Nat.zero_le _
  | a :: l, m, nd, h => by
    have n := List.nodup_cons.mp nd
    have ih := sub_len (l := l) (m := m.erase a) n.2 fun x hx => by
      have : x ≠ a := fun z => n.1 (z ▸ hx)
      exact (List.mem_erase_of_ne this).mpr (h x (List.mem_cons_of_mem _ hx))
    have e := List.length_erase_of_mem (h a List.mem_cons_self)
    have pos : 0 < m.length := List.length_pos_of_mem (h a List.mem_cons_self)
    rw [List.length_cons]
    omega
/-- the places of the ranges that are around one of a set -/
def plcs (s : Nat → Rg) (m : Nat) (V : List Rg) : List Nat := (List.range m).filter fun i => V.any (hasB (s i))
theorem plcs_mem {s : Nat → Rg} {m i : Nat} {V : List Rg} : i ∈ plcs s m V ↔ i < m ∧ ∃ v ∈ V, cont (s i) v := by
  unfold plcs
  rw [List.mem_filter, List.mem_range, List.any_eq_true]
  constructor
  · rintro ⟨h, v, hv, c⟩
    exact ⟨h, v, hv, hasB_iff.mp c⟩
  · rintro ⟨h, v, hv, c⟩
    exact ⟨h, v, hv, hasB_iff.mpr c⟩
theorem plcs_nd (s : Nat → Rg) (m : Nat) (V : List Rg) : (plcs s m V).Nodup := List.nodup_range.sublist List.filter_sublist
theorem cont_refl (r : Rg) : cont r r := ⟨Int.le_refl _, Int.le_refl _⟩
theorem cont_trans {a b c : Rg} (h : cont a b) (g : cont b c) : cont a c := by unfold cont at *; omega
/-- with a matching no set is around more of the first list -/
theorem matched {f s : Nat → Rg} {n m : Nat} {o : Nat → Nat} (lt : ∀ i, i < n → o i < m) (has : ∀ i, i < n → cont (s (o i)) (f i)) (inj : ∀ i j, i < n → j < n → o i = o j → i = j) (V : List Rg) : (plcs f n V).length ≤ (plcs s m V).length := by
  have h : ((plcs f n V).map o).length ≤ (plcs s m V).length := sub_len (by
      refine List.pairwise_map.mpr ?_
      refine (plcs_nd f n V).imp_of_mem fun {i j} hi hj ne e => ne (inj i j (plcs_mem.mp hi).1 (plcs_mem.mp hj).1 e)) fun x hx => by
    obtain ⟨i, hi, rfl⟩ := List.mem_map.mp hx
    obtain ⟨h1, v, hv, c⟩ := plcs_mem.mp hi
    exact plcs_mem.mpr ⟨lt i h1, v, hv, cont_trans (has i h1) c⟩
  rw [List.length_map] at h
  exact h
/-- a crowd is around more of the first list than of the second -/
theorem crowded {f s : Nat → Rg} {n m a : Nat} {d : List (Nat × Nat)} (ha : a < n) (hd : ∀ e ∈ d, e.1 < n) (nd : (d.map (·.1)).Nodup) (na : a ∉ d.map (·.1)) (S : Nat × Nat → Prop)
    (own : ∀ q, q < m → (cont (s q) (f a) ∨ ∃ e, (S e ∧ e ∈ d) ∧ cont (s q) (f e.1)) → ∃ e, (S e ∧ e ∈ d) ∧ e.2 = q) : ∃ V : List Rg, V ≠ [] ∧ (∀ v ∈ V, ∃ i, i < n ∧ v = f i) ∧ (plcs s m V).length < (plcs f n V).length := by
  classical
  let T := d.filter fun e => decide (S e)
  have tm : ∀ e, e ∈ T ↔ S e ∧ e ∈ d := fun e => by
    show e ∈ d.filter _ ↔ _
    rw [List.mem_filter]
    simp [And.comm]
  refine ⟨f a :: T.map fun e => f e.1, by simp, fun v hv => ?_, ?_⟩
  · rcases List.mem_cons.mp hv with z | z
    · exact ⟨a, ha, z⟩
    · obtain ⟨e, he, rfl⟩ := List.mem_map.mp z
      exact ⟨e.1, hd e ((tm e).mp he).2, rfl⟩
  · have up : (plcs s m (f a :: T.map fun e => f e.1)).length ≤ (T.map (·.2)).length := sub_len (plcs_nd _ _ _) fun q hq => by
      obtain ⟨h1, v, hv, c⟩ := plcs_mem.mp hq
      obtain ⟨e, he, e2⟩ := own q h1 (by
        rcases List.mem_cons.mp hv with z | z
        · exact .inl (z ▸ c)
        · obtain ⟨e, he, rfl⟩ := List.mem_map.mp z
          exact .inr ⟨e, (tm e).mp he, c⟩)
      exact List.mem_map.mpr ⟨e, (tm e).mpr he, e2⟩
    have down : (a :: T.map (·.1)).length ≤ (plcs f n (f a :: T.map fun e => f e.1)).length := sub_len (by
        refine List.nodup_cons.mpr ⟨fun z => ?_, nd.sublist (List.filter_sublist.map _)⟩
        obtain ⟨e, he, e2⟩ := List.mem_map.mp z
        exact na (List.mem_map.mpr ⟨e, ((tm e).mp he).2, e2⟩)) fun i hi => by
      rcases List.mem_cons.mp hi with z | z
      · subst z
        exact plcs_mem.mpr ⟨ha, f i, List.mem_cons_self, cont_refl _⟩
      · obtain ⟨e, he, e2⟩ := List.mem_map.mp z
        subst e2
        exact plcs_mem.mpr ⟨hd e ((tm e).mp he).2, f e.1, List.mem_cons_of_mem _ (List.mem_map.mpr ⟨e, he, rfl⟩), cont_refl _⟩
    rw [List.length_map] at up
    rw [List.length_cons, List.length_map] at down
    omega
/-- the greedy way from what has been done on: either all find a place, each its own, or there is a crowd -/
theorem go_or {f s : Nat → Rg} {fr0 : List Nat} {n m : Nat} (hm : ∀ q, q ∈ fr0 ↔ q < m) : ∀ (L fr : List Nat) (d : List (Nat × Nat)), Inv f s fr0 d fr → (∀ a ∈ L, a < n) → (∀ e ∈ d, e.1 < n) → (d.map (·.1) ++ L).Nodup →
    (d.map (fun e => (f e.1).1) ++ L.map (fun a => (f a).1)).Pairwise (· ≤ ·) →
    (∃ d3 fr2, Inv f s fr0 (d ++ d3) fr2 ∧ d3.map (·.1) = L ∧ go f s L fr = d3.map (fun e => (e.1, some e.2))) ∨ ((∃ a ∈ L, (a, none) ∈ go f s L fr) ∧ ∃ V : List Rg, V ≠ [] ∧ (∀ v ∈ V, ∃ i, i < n ∧ v = f i) ∧ (plcs s m V).length < (plcs f n V).length)
  | [], fr, d, v, _, _, _, _ => .inl ⟨[], fr, by simpa using v, rfl, rfl⟩
  | a :: L, fr, d, v, hL, hd, nd, srt => by
    have srt2 := List.pairwise_append.mp srt
    have hlow : ∀ e ∈ d, (f e.1).1 ≤ (f a).1 := fun e he => srt2.2.2 _ (List.mem_map.mpr ⟨e, he, rfl⟩) _ (List.mem_map.mpr ⟨a, List.mem_cons_self, rfl⟩)
    cases h : fr.find? (fun p => hasB (s p) (f a)) with
    | none =>
      right
      refine ⟨⟨a, List.mem_cons_self, by unfold go; rw [h]; exact List.mem_cons_self⟩, ?_⟩
      obtain ⟨S, h1, h2⟩ := inv_fail v hm (fun i j e g hij hi hj => by
        rcases Nat.lt_or_eq_of_le hij with z | z
        · have hjl := (List.getElem?_eq_some_iff.mp hj).1
          have p := List.pairwise_iff_getElem.mp srt2.1 i j (by rw [List.length_map]; omega) (by rw [List.length_map]; omega) z
          rw [List.getElem_map, List.getElem_map] at p
          rw [(List.getElem?_eq_some_iff.mp hi).2, (List.getElem?_eq_some_iff.mp hj).2] at p
          exact p
        · subst z
          rw [hi] at hj
          rw [Option.some.inj hj]
          exact Int.le_refl _) hlow h
      have ndl := List.nodup_append.mp nd
      refine crowded (hL a List.mem_cons_self) hd ndl.1 (fun z => ndl.2.2 a z a List.mem_cons_self rfl) S fun q hq k => ?_
      obtain ⟨e, he, e2⟩ := h2 q hq (by
        rcases k with k | ⟨e, he, c⟩
        · exact .inl k
        · exact .inr ⟨e, he.1, c⟩)
      exact ⟨e, ⟨he, h1 e he⟩, e2⟩
    | some p =>
      have v2 := inv_step v h
      have ih := go_or hm L (fr.erase p) (d ++ [(a, p)]) v2 (fun b hb => hL b (List.mem_cons_of_mem _ hb)) (fun e he => by
        rcases List.mem_append.mp he with z | z
        · exact hd e z
        · rw [List.mem_singleton.mp z]; exact hL a List.mem_cons_self) (by simpa using nd) (by simpa using srt)
      rcases ih with ⟨d3, fr2, v3, e1, e2⟩ | ⟨⟨b, hb, k⟩, V, hV⟩
      · refine .inl ⟨(a, p) :: d3, fr2, by simpa using v3, by rw [List.map_cons, e1], ?_⟩
        unfold go
        rw [h]
        show (a, some p) :: go f s L (fr.erase p) = _
        rw [e2]
        rfl
      · refine .inr ⟨⟨b, List.mem_cons_of_mem _ hb, ?_⟩, V, hV⟩
        unfold go
        rw [h]
        exact List.mem_cons_of_mem _ k
end K55c

set_option pp.maxSteps 900
/-! never_more, matching -/
namespace P5N
open PySem PySem.Spec PyProof.Rows L2 KA KD PH PM RM RN K55 K55b K55c K55d P5P
abbrev sNM : Stmt := topS 14
abbrev sMA : Stmt := topS 15
theorem scNM : FnScope ["first", "second"] ["first", "second"] (defScope sNM) := ⟨rfl, rfl, rfl, by decide +kernel, rfl, by decide +kernel, by decide +kernel⟩
theorem scMA : FnScope ["first", "second", "places", "crowd", "low", "high"] ["first", "second"] (defScope sMA) := ⟨rfl, rfl, rfl, by decide +kernel, rfl, by decide +kernel, by decide +kernel⟩
/-- each range of the first list has a place of its own around it in the second -/
def NM (rs ss : List (Int × Int)) : Prop := ∃ o : Nat → Nat, (∀ i, i < rs.length → o i < ss.length) ∧ (∀ i, i < rs.length → cont (at0 ss (o i)) (at0 rs i)) ∧ ∀ i j, i < rs.length → j < rs.length → o i = o j → i = j
noncomputable def nm (rs ss : List (Int × Int)) : Bool := @decide (NM rs ss) (Classical.propDecidable _)
theorem nm_iff {rs ss : List (Int × Int)} : nm rs ss = true ↔ NM rs ss := by unfold nm; exact @decide_eq_true_iff _ (Classical.propDecidable _)
/-- places of its own for each, as a list -/
def Mt (rs ss : List (Int × Int)) (ps : List Int) : Prop := ps.length = rs.length ∧ ps.Nodup ∧ ∀ i, i < rs.length → ∃ p : Nat, ps[i]? = some (p : Int) ∧ p < ss.length ∧ cont (at0 ss p) (at0 rs i)
theorem go_keys {f s : Nat → Rg} : ∀ (L fr : List Nat), (go f s L fr).map (·.1) = L
  | [], _ => rfl
  | a :: L, fr => by
    simp only [go]
    split
    · rw [List.map_cons, go_keys L fr]
    · rw [List.map_cons, go_keys L _]
theorem look_nodup : ∀ {l : List (Nat × Option Nat)} {a : Nat} {x : Option Nat}, (a, x) ∈ l → (l.map (·.1)).Nodup → l.lookup a = some x
  | (b, y) :: l, a, x, m, nd => by
    have nd2 := List.nodup_cons.mp nd
    rw [List.lookup_cons]
    rcases List.mem_cons.mp m with z | z
    · cases z
      simp
    · have : (a == b) = false := by
        have : a ≠ b := fun e => nd2.1 (by rw [← e]; exact List.mem_map.mpr ⟨_, z, rfl⟩)
        simpa using this
      rw [this]
      exact look_nodup z nd2.2
theorem res_flat (d : List (Nat × Option Nat)) (n : Nat) : (res d n).all flatV = true := by
  unfold res
  rw [List.all_map]
  refine List.all_eq_true.mpr fun i _ => ?_
  show flatV (match d.lookup i with | some (some p) => V.int (p : Int) | _ => V.non) = true
  split <;> rfl
theorem snd_inj : ∀ {d : List (Nat × Nat)} {e g : Nat × Nat}, (d.map (·.2)).Nodup → e ∈ d → g ∈ d → e.2 = g.2 → e = g
  | x :: d, e, g, nd, he, hg, h => by
    have nd2 := List.nodup_cons.mp nd
    rcases List.mem_cons.mp he with z | z <;> rcases List.mem_cons.mp hg with y | y
    · rw [z, y]
    · exact absurd (List.mem_map.mpr ⟨g, y, by rw [← h, z]⟩) nd2.1
    · exact absurd (List.mem_map.mpr ⟨e, z, by rw [h, y]⟩) nd2.1
    · exact snd_inj nd2.2 z y h
section
variable {rs ss : List (Int × Int)} {L fr0 : List Nat}
theorem two (pL : L.Perm (List.range rs.length)) (oL : L.Pairwise (ordL rs)) (pf : fr0.Perm (List.range ss.length)) (sf : (fr0.map (K55d.pr (at0 ss))).Pairwise Le) :
    (∃ o : Nat → Nat, res (go (at0 rs) (at0 ss) L fr0) rs.length = (List.range rs.length).map (fun i => V.int (o i : Nat)) ∧ (∀ i, i < rs.length → o i < ss.length) ∧ (∀ i, i < rs.length → cont (at0 ss (o i)) (at0 rs i)) ∧ ∀ i j, i < rs.length → j < rs.length → o i = o j → i = j) ∨
    (V.non ∈ res (go (at0 rs) (at0 ss) L fr0) rs.length ∧ ¬ NM rs ss) := by
  have nd0 : fr0.Nodup := pf.nodup_iff.mpr List.nodup_range
  have ndL : L.Nodup := pL.nodup_iff.mpr List.nodup_range
  have hm : ∀ q, q ∈ fr0 ↔ q < ss.length := fun q => by rw [pf.mem_iff, List.mem_range]
  have hL : ∀ a ∈ L, a < rs.length := fun a m => List.mem_range.mp (pL.mem_iff.mp m)
  have srt : fr0.Pairwise fun p q => (at0 ss p).2 ≤ (at0 ss q).2 := (List.pairwise_map.mp sf).imp fun {x y} h => by
    simp only [Le, K55d.pr] at h
    omega
  have v0 : Inv (at0 rs) (at0 ss) fr0 [] fr0 := ⟨fun q => ⟨fun h => ⟨h, fun _ z => (List.not_mem_nil z).elim⟩, fun h => h.1⟩, nd0, srt, fun _ z => (List.not_mem_nil z).elim, List.nodup_nil, fun i e q h => by simp at h⟩
  rcases go_or hm L fr0 [] v0 hL (fun _ z => (List.not_mem_nil z).elim) (by simpa using ndL) (by simpa using (List.pairwise_map.mpr (oL.imp fun {x y} h => ord_low h))) with ⟨d3, fr2, iv, hk, hg⟩ | ⟨⟨a, ha, hn⟩, V0, hV, hVi, hlt⟩
  · left
    have iv : Inv (at0 rs) (at0 ss) fr0 d3 fr2 := by simpa using iv
    have keys : ∀ i, i < rs.length → ∃ p, (i, p) ∈ d3 := fun i hi => by
      have : i ∈ L := pL.mem_iff.mpr (List.mem_range.mpr hi)
      rw [← hk] at this
      obtain ⟨e, he, rfl⟩ := List.mem_map.mp this
      exact ⟨e.2, he⟩
    have look : ∀ i p, (i, p) ∈ d3 → (go (at0 rs) (at0 ss) L fr0).lookup i = some (some p) := fun i p m => look_nodup (by rw [hg]; exact List.mem_map.mpr ⟨(i, p), m, rfl⟩) (by rw [go_keys]; exact ndL)
    refine ⟨fun i => match (go (at0 rs) (at0 ss) L fr0).lookup i with | some (some p) => p | _ => 0, ?_, fun i hi => ?_, fun i hi => ?_, fun i j hi hj h => ?_⟩
    · unfold res
      refine List.map_congr_left fun i hi => ?_
      obtain ⟨p, m⟩ := keys i (List.mem_range.mp hi)
      rw [look i p m]
      show V.int (p : Int) = V.int (((match (go (at0 rs) (at0 ss) L fr0).lookup i with | some (some p) => p | _ => 0 : Nat)) : Int)
      rw [look i p m]
    · obtain ⟨p, m⟩ := keys i hi
      show (match (go (at0 rs) (at0 ss) L fr0).lookup i with | some (some p) => p | _ => 0) < _
      rw [look i p m]
      exact (hm p).mp (iv.mem _ m).1
    · obtain ⟨p, m⟩ := keys i hi
      show cont (at0 ss (match (go (at0 rs) (at0 ss) L fr0).lookup i with | some (some p) => p | _ => 0)) _
      rw [look i p m]
      exact (iv.mem _ m).2
    · obtain ⟨p, m⟩ := keys i hi
      obtain ⟨q, m2⟩ := keys j hj
      have h : (match (go (at0 rs) (at0 ss) L fr0).lookup i with | some (some p) => p | _ => 0) = (match (go (at0 rs) (at0 ss) L fr0).lookup j with | some (some p) => p | _ => 0) := h
      rw [look i p m, look j q m2] at h
      exact congrArg Prod.fst (snd_inj iv.inj m m2 h)
  · right
    refine ⟨?_, fun ⟨o, h1, h2, h3⟩ => absurd (matched h1 h2 h3 V0) (by omega)⟩
    unfold res
    refine List.mem_map.mpr ⟨a, List.mem_range.mpr (hL a ha), ?_⟩
    rw [look_nodup hn (by rw [go_keys]; exact ndL)]
theorem inv_non : ∀ {xs : List V}, inV .non xs = true ↔ V.non ∈ xs
  | [] => by simp [inV]
  | x :: xs => by
    have ih := inv_non (xs := xs)
    unfold inV at ih ⊢
    rw [List.any_cons, Bool.or_eq_true, ih, List.mem_cons]
    refine or_congr ⟨fun h => ?_, fun h => by rw [← h]; rfl⟩ Iff.rfl
    cases x with
    | non => rfl
    | _ => cases h
theorem best_says (pL : L.Perm (List.range rs.length)) (oL : L.Pairwise (ordL rs)) (pf : fr0.Perm (List.range ss.length)) (sf : (fr0.map (K55d.pr (at0 ss))).Pairwise Le) :
    (res (go (at0 rs) (at0 ss) L fr0) rs.length).all flatV = true ∧ (!inV .non (res (go (at0 rs) (at0 ss) L fr0) rs.length)) = nm rs ss := by
  refine ⟨res_flat _ _, ?_⟩
  rcases two pL oL pf sf with ⟨o, e, h⟩ | ⟨h1, h2⟩
  · have : nm rs ss = true := nm_iff.mpr ⟨o, h⟩
    rw [this]
    cases hn : inV .non (res (go (at0 rs) (at0 ss) L fr0) rs.length) with
    | false => rfl
    | true =>
      have m := inv_non.mp hn
      rw [e] at m
      obtain ⟨i, _, z⟩ := List.mem_map.mp m
      cases z
  · rw [inv_non.mpr h1]
    cases hn : nm rs ss with
    | false => rfl
    | true => exact absurd (nm_iff.mp hn) h2
theorem best_all (pL : L.Perm (List.range rs.length)) (oL : L.Pairwise (ordL rs)) (pf : fr0.Perm (List.range ss.length)) (sf : (fr0.map (K55d.pr (at0 ss))).Pairwise Le) (hn : nm rs ss = true) :
    ∃ ps : List Int, res (go (at0 rs) (at0 ss) L fr0) rs.length = ps.map V.int ∧ Mt rs ss ps := by
  rcases two pL oL pf sf with ⟨o, e, h1, h2, h3⟩ | ⟨_, h2⟩
  · refine ⟨(List.range rs.length).map fun i => ((o i : Nat) : Int), by rw [e, List.map_map]; rfl, by rw [List.length_map, List.length_range], ?_, fun i hi => ⟨o i, by rw [List.getElem?_map, List.getElem?_range hi]; rfl, h1 i hi, h2 i hi⟩⟩
    rw [List.Nodup, List.pairwise_map]
    refine List.Pairwise.imp_of_mem (fun {i j} hi hj ne z => ?_) List.nodup_range
    exact ne (h3 i j (List.mem_range.mp hi) (List.mem_range.mp hj) (by omega))
  · exact absurd (nm_iff.mp hn) h2
end
section
variable {P : Program} {w : World} {K : PySem.W.Frag} {mg : Str → Option Value} {base : Heap}
def spNM (K : PySem.W.Frag) : Sp := fun vs H Q _ => ∃ (a b : Addr) (xs ys : List V) (rs ss : List (Int × Int)), vs = [.ref a, .ref b] ∧ Sq K H a xs ∧ PairsAt H xs rs ∧ Sq K H b ys ∧ PairsAt H ys ss ∧ rs.length ≤ 500 ∧ ss.length ≤ 500 ∧
  ∀ H', Same H H' → Q (.bl (nm rs ss)) H'
theorem ok_NM {f fBP : Addr} {fd dBP : FuncData} {k : Nat} (F : Fun K "never_more" "never_more" sNM f fd) (GBP : FnOk P w K mg base CX0 (k + 3) fBP dBP ["first", "second"] (spBP K)) (gBP : mg "_best_places" = some (.ref fBP)) (kBP : PySem.W.keepIn K (.ref fBP) = true) (bBP : Binds K dBP ["first", "second"] []) : FnOk P w K mg base CX0 (k + 4) f fd ["first", "second"] (spNM K) := by
  refine F.ok scNM (fun vs H Q E h => ?_) (fun cdv A outer s H vs Q E hr h => ?_)
  · obtain ⟨a, b, xs, ys, rs, ss, rfl, _⟩ := h
    rfl
  · obtain ⟨a, b, xs, ys, rs, ss, rfl, hA, pa, hB, pb, la, lb, hq⟩ := h
    refine ⟨_, (pss_one (ps_ret (pe_cmpR op_notIn_seq pe_non (pe_call GBP hr (by rfl) gBP kBP bBP .nil pass0 (pa_cons (pv 0) (pa_cons (pv 1) pa_nil))) (by rfl)))), ?_⟩
    refine ⟨.ref a, rfl, .ref b, rfl, a, b, xs, ys, rs, ss, rfl, hA, pa, hB, pb, la, lb, fun H' c L fr0 s nc hc pL oL pf sf => ?_⟩
    obtain ⟨e1, e2⟩ := best_says pL oL pf sf
    refine ⟨c, _, rfl, .inl (SqL.of hc), rfl, e1, ?_⟩
    show Q (V.bl (!inV .non _)) H'
    rw [e2]
    exact hq H' s
def spMA (K : PySem.W.Frag) : Sp := fun vs H Q _ => ∃ (a b : Addr) (xs ys : List V) (rs ss : List (Int × Int)), vs = [.ref a, .ref b] ∧ Sq K H a xs ∧ PairsAt H xs rs ∧ Sq K H b ys ∧ PairsAt H ys ss ∧ rs.length ≤ 500 ∧ ss.length ≤ 500 ∧ nm rs ss = true ∧
  ∀ H' c (ps : List Int), Same H H' → H c = none → H' c = some (.lst (ps.map V.int)) → Mt rs ss ps → Q (.ref c) H'
theorem ok_MA {f fBP : Addr} {fd dBP : FuncData} {k : Nat} (F : Fun K "matching" "matching" sMA f fd) (GBP : FnOk P w K mg base CX0 (k + 3) fBP dBP ["first", "second"] (spBP K)) (gBP : mg "_best_places" = some (.ref fBP)) (kBP : PySem.W.keepIn K (.ref fBP) = true) (bBP : Binds K dBP ["first", "second"] []) : FnOk P w K mg base CX0 (k + 4) f fd ["first", "second"] (spMA K) := by
  refine F.ok scMA (fun vs H Q E h => ?_) (fun cdv A outer s H vs Q E hr h => ?_)
  · obtain ⟨a, b, xs, ys, rs, ss, rfl, _⟩ := h
    rfl
  · obtain ⟨a, b, xs, ys, rs, ss, rfl, hA, pa, hB, pb, la, lb, hn, hq⟩ := h
    refine ⟨_, (pss_cons (ps_set (i := 2) scMA.nd rfl (.inl rfl) (pe_call GBP hr (by rfl) gBP kBP bBP .nil pass0 (pa_cons (pv 0) (pa_cons (pv 1) pa_nil))))
      (pss_cons (ps_if (pt_cmpR op_in_seq pe_non (pv 2) (by rfl)) pss_never pss_nil)
      (pss_one (ps_ret (pv 2))))), ?_⟩
    refine ⟨.ref a, rfl, .ref b, rfl, a, b, xs, ys, rs, ss, rfl, hA, pa, hB, pb, la, lb, fun H' c L fr0 s nc hc pL oL pf sf => ?_⟩
    obtain ⟨e1, e2⟩ := best_says pL oL pf sf
    obtain ⟨ps, e3, mt⟩ := best_all pL oL pf sf hn
    refine ⟨.ref c, rfl, c, _, rfl, .inl (SqL.of hc), rfl, e1, _, rfl, ?_⟩
    have e4 : inV .non (res (go (at0 rs) (at0 ss) L fr0) rs.length) = false := by
      rw [hn] at e2
      simpa using e2
    show if inV .non _ = true then _ else _
    rw [e4]
    refine iteF ⟨.ref c, rfl, hq H' c ps s nc (by rw [← e3]; exact hc) mt⟩
end
end P5N

set_option pp.maxSteps 900
/-! k56: the law's own defs -/
namespace P5K
open PySem PySem.Spec PyProof.Rows L2 KA KD PH PM RM RN K55 K55b K55d DV P5P P5I
abbrev sLR : Stmt := topS 23
abbrev sHs : Stmt := topS 24
abbrev sSC : Stmt := topS 25
abbrev sLM : Stmt := topS 26
theorem scLR : FnScope ["feed", "most", "top", "found", "turn", "low"] ["feed", "most", "top"] (defScope sLR) := ⟨rfl, rfl, rfl, by decide +kernel, rfl, by decide +kernel, by decide +kernel⟩
theorem scHs : FnScope ["outer", "inner"] ["outer", "inner"] (defScope sHs) := ⟨rfl, rfl, rfl, by decide +kernel, rfl, by decide +kernel, by decide +kernel⟩
theorem scSC : FnScope ["ranges", "far", "step", "low", "high"] ["ranges", "far", "step"] (defScope sSC) := ⟨rfl, rfl, rfl, by decide +kernel, rfl, by decide +kernel, by decide +kernel⟩
theorem scLM : FnScope ["first", "second", "value", "k", "place"] ["first", "second", "value"] (defScope sLM) := ⟨rfl, rfl, rfl, by decide +kernel, rfl, by decide +kernel, by decide +kernel⟩
theorem iteD {c : Bool} {A B : Prop} (h1 : c = true → A) (h2 : c = false → B) : if c = true then A else B := by
  cases c with
  | true => exact iteT (h1 rfl)
  | false => exact iteF (h2 rfl)
theorem PairsAt.mp {H H' : Hp} (e : ∀ p (a b : Int), H p = some (.tup [.int a, .int b]) → H' p = some (.tup [.int a, .int b])) : ∀ {xs : List V} {rs : List (Int × Int)}, PairsAt H xs rs → PairsAt H' xs rs
  | [], [], _ => trivial
  | x :: xs, r :: rs, ⟨⟨p, h1, h2⟩, h3⟩ => ⟨⟨p, h1, e p _ _ h2⟩, PairsAt.mp e h3⟩
  | [], _ :: _, h => h.elim
  | _ :: _, [], h => h.elim
theorem PairsAt.ch {f : Addr} {H H' : Hp} (c : Ch f H H') (hf : FeedAt H f) {xs : List V} {rs : List (Int × Int)} (h : PairsAt H xs rs) : PairsAt H' xs rs :=
  PairsAt.mp (fun p a b e => c _ _ (fun z => by obtain ⟨d, st, _, _, _, e2⟩ := hf; rw [z, e2] at e; cases e) e) h
theorem PairsAt.put {D : Addr} {H : Hp} {l l2 : List V} (e : H D = some (.lst l)) {xs : List V} {rs : List (Int × Int)} (h : PairsAt H xs rs) : PairsAt (upd H D (.lst l2)) xs rs :=
  PairsAt.mp (fun p a b e2 => by rw [upd_ne (fun z => by rw [z, e] at e2; cases e2)]; exact e2) h
theorem PairsAt.rep {H : Hp} {p : Addr} {r : Int × Int} (h : H p = some (.tup [.int r.1, .int r.2])) : ∀ n : Nat, PairsAt H (List.replicate n (.ref p)) (List.replicate n r)
  | 0 => trivial
  | n + 1 => ⟨⟨p, rfl, h⟩, PairsAt.rep h n⟩
theorem cut_to (xs : List V) (k : Nat) : cutV xs none (some ((k : Nat) : Int)) = xs.take k := by
  unfold cutV
  rw [HT.sIx_none, HT.sIx_nat]
  simp only [Nat.sub_zero, List.drop_zero]
  rcases Nat.le_total k xs.length with h | h
  · rw [Nat.min_eq_left h]
  · rw [Nat.min_eq_right h, List.take_length, List.take_of_length_le h]
theorem cut_from (xs : List V) (k : Nat) : cutV xs (some ((k : Nat) : Int)) none = xs.drop k := by
  unfold cutV
  rw [HT.sIx_nat, HT.sIx_none]
  rcases Nat.le_total k xs.length with h | h
  · rw [Nat.min_eq_left h, List.take_of_length_le (by rw [List.length_drop]; omega)]
  · rw [Nat.min_eq_right h, Nat.sub_self, List.drop_eq_nil_of_le h]
    rfl
theorem getI {ns : List Int} {i : Nat} {m : Int} (h : (ns.map V.int)[i]? = some (.int m)) : ns[i]? = some m := by
  obtain ⟨z, h1, h2⟩ := int_at h
  cases h2
  exact h1
theorem in_ints {m : Int} : ∀ {ns : List Int}, inV (.int m) (ns.map V.int) = decide (m ∈ ns)
  | [] => rfl
  | n :: ns => by
    have ih := in_ints (m := m) (ns := ns)
    unfold inV at ih ⊢
    rw [List.map_cons, List.any_cons, ih]
    show ((n == m) || decide (m ∈ ns)) = _
    by_cases h : n = m
    · subst h
      simp
    · have h2 : ¬ m = n := fun z => h z.symm
      simp [h, h2]
/-- the first i are places of their own, around -/
def MatI (rs ss : List (Int × Int)) (ds : List PyData) (i : Nat) : Prop := ∃ ns : List Int, ds.take i = dInts ns ∧ (∀ x ∈ ns, 0 ≤ x ∧ x < ss.length) ∧ ns.Nodup ∧ ∀ j, j < i → okP rs ss ns j = true
theorem matI_len {rs ss : List (Int × Int)} {ds : List PyData} {i : Nat} {ns : List Int} (hi : i ≤ ds.length) (h : ds.take i = dInts ns) : ns.length = i := by
  have := congrArg List.length h
  simp only [dInts, List.length_take, List.length_map] at this
  omega
theorem matI_step {rs ss : List (Int × Int)} {ds : List PyData} {i : Nat} {m : Nat} {ns : List Int} (h1 : ds.take i = dInts ns) (h2 : ∀ x ∈ ns, 0 ≤ x ∧ x < ss.length) (h3 : ns.Nodup) (h4 : ∀ j, j < i → okP rs ss ns j = true)
    (e : ds[i]? = some (.int (m : Int))) (hm : m < ss.length) (hn : (m : Int) ∉ ns) (hc : cB (at0 ss m) (at0 rs i) = true) : MatI rs ss ds (i + 1) := by
  have hi := (List.getElem?_eq_some_iff.mp e).1
  have ln : ns.length = i := matI_len (rs := rs) (ss := ss) (by omega) h1
  refine ⟨ns ++ [(m : Int)], ?_, fun x hx => ?_, ?_, fun j hj => ?_⟩
  · rw [List.take_add_one, e, Option.toList_some, h1]
    simp [dInts]
  · rcases List.mem_append.mp hx with z | z
    · exact h2 x z
    · rw [List.mem_singleton.mp z]
      omega
  · refine List.nodup_append.mpr ⟨h3, by simp, fun a ha b hb => ?_⟩
    rw [List.mem_singleton.mp hb]
    exact fun z => hn (by rw [← z]; exact ha)
  · by_cases hj2 : j < i
    · have := h4 j hj2
      unfold okP at this ⊢
      rw [List.getElem?_append_left (by omega)]
      exact this
    · have : j = i := by omega
      subst this
      unfold okP
      rw [List.getElem?_append_right (by omega), ln, Nat.sub_self]
      exact hc
theorem matI_end {rs ss : List (Int × Int)} {ds : List PyData} (h : MatI rs ss ds ds.length) (e : ds.length = rs.length) : matB rs ss (.list ds) = true := by
  obtain ⟨ns, h1, h2, h3, h4⟩ := h
  rw [List.take_length] at h1
  subst h1
  show (_ && (_ && matN _ _ _)) = true
  rw [decide_eq_true e, pl_ints h2, intsOf_ints]
  unfold matN
  rw [decide_eq_true h3, Bool.true_and, Bool.true_and, Bool.true_and]
  exact List.all_eq_true.mpr fun j hj => h4 j (by rw [e]; exact List.mem_range.mp hj)
theorem mat_fa {rs ss : List (Int × Int)} {ds : List PyData} {i : Nat} {d : PyData} (e : ds[i]? = some d) (h : plB ss.length d = false) : matB rs ss (.list ds) = false := by
  show (_ && (_ && _)) = false
  rw [show ds.all (plB ss.length) = false from List.all_eq_false.mpr ⟨d, List.mem_of_getElem? e, by rw [h]; exact Bool.false_ne_true⟩, Bool.false_and, Bool.and_false]
theorem mat_split {rs ss : List (Int × Int)} {ds : List PyData} (h : matB rs ss (.list ds) = true) : ∃ ns : List Int, ds = dInts ns ∧ ns.length = rs.length ∧ ns.Nodup ∧ ∀ j, j < rs.length → okP rs ss ns j = true := by
  have h : (_ && (_ && matN _ _ _)) = true := h
  simp only [Bool.and_eq_true, decide_eq_true_eq] at h
  obtain ⟨h1, h2, h3⟩ := h
  obtain ⟨ns, rfl, _⟩ := pl_all h2
  rw [intsOf_ints] at h3
  unfold matN at h3
  simp only [Bool.and_eq_true, decide_eq_true_eq] at h3
  exact ⟨ns, rfl, by simpa [dInts] using h1, h3.1, fun j hj => List.all_eq_true.mp h3.2 j (List.mem_range.mpr hj)⟩
theorem dInts_at {ns : List Int} {i : Nat} {m : Int} (e : (dInts ns)[i]? = some (.int m)) : ns[i]? = some m := by
  unfold dInts at e
  rw [List.getElem?_map] at e
  cases h : ns[i]? with
  | none => rw [h] at e; cases e
  | some z => rw [h] at e; cases e; rfl
theorem mat_fb {rs ss : List (Int × Int)} {ds : List PyData} {i : Nat} {m : Int} {ms : List Int} (e : ds[i]? = some (.int m)) (h1 : ds.take i = dInts ms) (h : m ∈ ms) : matB rs ss (.list ds) = false := by
  cases hb : matB rs ss (.list ds) with
  | false => rfl
  | true =>
    obtain ⟨ns, rfl, hl, nd, _⟩ := mat_split hb
    have e2 := dInts_at e
    have h2 : ns.take i = ms := by
      have : dInts (ns.take i) = dInts ms := by rw [← h1]; unfold dInts; rw [List.map_take]
      have := congrArg intsOf this
      rwa [intsOf_ints, intsOf_ints] at this
    subst h2
    obtain ⟨j, hj⟩ := List.getElem?_of_mem h
    rw [List.getElem?_take] at hj
    split at hj
    · rename_i hji
      have hi := (List.getElem?_eq_some_iff.mp e2).1
      exact absurd ((List.getElem?_inj (by omega) nd).mp (hj.trans e2.symm)) (by omega)
    · cases hj
theorem mat_fc {rs ss : List (Int × Int)} {ds : List PyData} {i : Nat} {m : Nat} (e : ds[i]? = some (.int (m : Int))) (hi : i < rs.length) (hc : cB (at0 ss m) (at0 rs i) = false) : matB rs ss (.list ds) = false := by
  cases hb : matB rs ss (.list ds) with
  | false => rfl
  | true =>
    obtain ⟨ns, rfl, hl, nd, hk⟩ := mat_split hb
    have h := hk i hi
    unfold okP at h
    rw [dInts_at e] at h
    have h : cB (at0 ss ((m : Int)).toNat) (at0 rs i) = true := h
    rw [Int.toNat_natCast, hc] at h
    cases h
section
variable {P : Program} {w : World} {K : PySem.W.Frag} {mg : Str → Option Value} {base : Heap}
def spLR : Sp := fun vs H Q _ => ∃ (f : Addr) (most top : Int), vs = [.ref f, .int most, .int top] ∧ 0 ≤ most ∧ most ≤ 100 ∧ 1 ≤ top ∧ top ≤ 1000000 ∧ FeedAt H f ∧
  ∀ H' p xs rs, Ch f H H' → FeedAt H' f → H p = none → H' p = some (.lst xs) → PairsAt H' xs rs → (rs.length : Int) ≤ most + 1 → (∀ r ∈ rs, 0 ≤ r.1 ∧ r.1 < r.2 ∧ r.2 ≤ top) → Q (.ref p) H'
theorem ok_LR {f : Addr} {fd : FuncData} {fTA : Addr} {dTA : FuncData} {k : Nat} (F : Fun K "_law_ranges" "_law_ranges" sLR f fd) (GTA : FnOk P w K mg base CX0 (k + 1) fTA dTA ["feed", "size"] spTake) (gTA : mg "_law_take" = some (.ref fTA)) (kTA : PySem.W.keepIn K (.ref fTA) = true) (bTA : Binds K dTA ["feed", "size"] []) (mr : mg "range" = none) (mi : mg "int" = none) : FnOk P w K mg base CX0 (k + 2) f fd ["feed", "most", "top"] spLR := by
  refine F.ok scLR (fun vs H Q E h => ?_) (fun cdv A outer s H vs Q E hr h => ?_)
  · obtain ⟨f, most, top, rfl, _⟩ := h
    rfl
  · obtain ⟨f, most, top, rfl, m0, m1, t0, t1, hf, hq⟩ := h
    refine ⟨_, (pss_cons (ps_set (i := 3) scLR.nd rfl (.inl rfl) (pe_lst pa_nil))
      (pss_cons (ps_for PassesOwn.never rfl (pi_range1 rfl mr (pa_cons (pe_call (GTA.mono (show k + 1 ≤ k + 1 by omega)) hr (by rfl) gTA kTA bTA .nil pass0 (pa_cons (pv 0) (pa_cons (pe_op op_add (pv 1) pe_int) pa_nil))) pa_nil)) (pg_name (i := 4) scLR.nd rfl (.inl rfl))
      (pss_cons (ps_set (i := 5) scLR.nd rfl (.inl rfl) (pe_call (GTA.mono (show k + 1 ≤ k + 1 by omega)) hr (by rfl) gTA kTA bTA .nil pass0 (pa_cons (pv 0) (pa_cons (pv 2) pa_nil))))
      (pss_one (ps_expr (pe_bm PySem.F.plainAttrs_list PySem.F.slot_list_append PySem.F.type_list_append mt_append (pv 3) (pa_cons (pe_tup (pa_cons (pv 5) (pa_cons (pe_op op_add (pe_op op_add (pv 5) pe_int) (pe_call (GTA.mono (show k + 1 ≤ k + 1 by omega)) hr (by rfl) gTA kTA bTA .nil pass0 (pa_cons (pv 0) (pa_cons (pe_op op_sub (pv 2) (pv 5)) pa_nil)))) pa_nil))) pa_nil))))))
      (pss_one (ps_ret (pe_op op_cat (pv 3) (pe_slice sl_list (pv 3) po_none (po_some (pe_callTy call_int1 (by rfl) mi (by decide +kernel) (pa_cons (pe_cmpR op_eq (pe_call (GTA.mono (show k + 1 ≤ k + 1 by omega)) hr (by rfl) gTA kTA bTA .nil pass0 (pa_cons (pv 0) (pa_cons pe_int pa_nil))) pe_int (nomark _)) pa_nil))))))))), ?_⟩
    refine ⟨by show 0 ≤ sizeLine; exact Nat.zero_le _, fun D nD => ?_⟩
    have nDf := hf.ne nD
    refine ⟨.ref f, rfl, .int most, rfl, most, 1, rfl, rfl, f, _, rfl, by omega, by omega, hf.upd nDf, fun H1 n c1 f1 n0 n1 => ?_⟩
    have hD1 := c1 _ _ nDf (upd_same (H := H) (a := D) (o := .lst []))
    have c01 : Ch f H H1 := (Ch.new nD).trans c1
    refine ⟨n, rfl, by omega, by omega, for_range (lo := 0) (n := n.toNat) (fun i σ Hz => Ch f H Hz ∧ FeedAt Hz f ∧ ∃ xs rs, Hz D = some (.lst xs) ∧ PairsAt Hz xs rs ∧ rs.length = i ∧ (∀ r ∈ rs, 0 ≤ r.1 ∧ r.1 < r.2 ∧ r.2 ≤ top) ∧ ∃ r4 r5 : Option V, σ = [some (.ref f), some (.int most), some (.int top), some (.ref D), r4, r5])
      ⟨c01, f1, [], [], hD1, trivial, rfl, fun _ z => (List.not_mem_nil z).elim, _, _, rfl⟩ ?_ ?_⟩
    · rintro i σ Hz hi ⟨cz, fz, xs, rs, hD, pa, ln, bd, r4, r5, rfl⟩
      have lx := pa.length
      refine ⟨.ref f, rfl, .int top, rfl, f, top, rfl, by omega, by omega, fz, fun H2 lo c2 f2 l0 l1 => ?_⟩
      refine ⟨.ref D, rfl, .inl ⟨rfl, _, SqL.of (c2 _ _ nDf hD)⟩, .int lo, rfl, .int lo, rfl, lo, 1, rfl, rfl, .ref f, rfl, .int top, rfl, .int lo, rfl, top, lo, rfl, rfl, f, _, rfl, by omega, by omega, f2, fun H3 e c3 f3 e0 e1 => ?_⟩
      have c23 := c2.trans c3
      refine ⟨_, _, rfl, rfl, by show 2 ≤ sizeLine; decide, fun p np => ?_⟩
      have sp := same_new np (o := .tup [.int lo, .int (lo + 1 + e)])
      have hD3 := sp _ _ (c23 _ _ nDf hD)
      have hp := upd_same (H := H3) (a := p) (o := .tup [.int lo, .int (lo + 1 + e)])
      have f4 := f3.same sp
      have pa4 := (PairsAt.ch c23 fz pa).same sp
      have c4 := (cz.trans c23).trans (.of_same sp)
      generalize upd H3 p (.tup [.int lo, .int (lo + 1 + e)]) = H4 at hD3 hp f4 pa4 c4 ⊢
      refine ⟨D, _, _, rfl, rfl, hD3, Nat.lt_of_le_of_lt (show xs.length ≤ 3000 by omega) (by decide), ?_⟩
      refine ⟨Ch.again nD c4, f4.upd nDf, xs ++ [.ref p], rs ++ [(lo, lo + 1 + e)], upd_same, ?_, by rw [List.length_append, List.length_singleton, ln], fun r hr => ?_, _, _, rfl⟩
      · exact PairsAt.put hD3 (pa4.append ⟨⟨p, rfl, hp⟩, trivial⟩)
      · rcases List.mem_append.mp hr with z | z
        · exact bd r z
        · rw [List.mem_singleton.mp z]
          show 0 ≤ lo ∧ lo < lo + 1 + e ∧ lo + 1 + e ≤ top
          omega
    · rintro σ Hz ⟨cz, fz, xs, rs, hD, pa, ln, bd, r4, r5, rfl⟩
      have lx := pa.length
      refine ⟨.ref D, rfl, .ref D, rfl, .ref f, rfl, f, 4, rfl, by decide, by decide, fz, fun H2 r c2 f2 r0 r1 => ?_⟩
      have hD2 := c2 _ _ nDf hD
      have pa2 := PairsAt.ch c2 fz pa
      refine ⟨rfl, .inr ⟨_, rfl, ?_⟩⟩
      obtain ⟨j, hj⟩ : ∃ j : Nat, (if decide (V.int r = V.int 0) = true then (1 : Int) else 0) = (j : Int) ∧ j ≤ 1 := by
        cases decide (V.int r = V.int 0) with
        | true => exact ⟨1, rfl, Nat.le_refl _⟩
        | false => exact ⟨0, rfl, Nat.zero_le _⟩
      rw [hj.1]
      refine ⟨_, rfl, D, xs, rfl, SqL.of hD2, fun p np => ?_⟩
      rw [cut_to]
      have sp := same_new np (o := .lst (xs.take j))
      have hp := upd_same (H := H2) (a := p) (o := .lst (xs.take j))
      have npf := f2.ne np
      have hD3 := sp _ _ hD2
      have pa3 := pa2.same sp
      have f3 := f2.same sp
      have c3 := (cz.trans c2).trans (.of_same sp)
      generalize upd H2 p (.lst (xs.take j)) = H3 at hp hD3 pa3 f3 c3 ⊢
      refine ⟨D, p, _, _, rfl, rfl, hD3, hp, Nat.le_of_lt (Nat.lt_of_le_of_lt (show _ ≤ 3000 by rw [List.length_take]; omega) (by decide)), fun u nu => ?_⟩
      have su := same_new nu (o := .lst (xs ++ xs.take j))
      refine hq _ u _ (rs ++ rs.take j) (c3.trans (.of_same su)) (f3.same su) (c3.free (f3.ne nu) nu) upd_same ((pa3.append (pa3.take j)).same su) (by rw [List.length_append, List.length_take]; omega) fun r hr => ?_
      rcases List.mem_append.mp hr with z | z
      · exact bd r z
      · exact bd r (List.mem_of_mem_take z)
theorem ok_hs {f : Addr} {fd : FuncData} {k : Nat} (F : Fun K "_law_has" "_law_has" sHs f fd) : FnOk P w K mg base CX0 (k + 1) f fd ["outer", "inner"] (spCont K) := by
  refine F.ok scHs (fun vs H Q E h => ?_) (fun cdv A outer s H vs Q E hr h => ?_)
  · obtain ⟨p, q, a, b, c, d, rfl, _⟩ := h
    rfl
  · obtain ⟨p, q, a, b, c, d, rfl, h1, h2, hq⟩ := h
    refine ⟨_, pss_one (ps_ret (pe_and (pe_cmpR op_le (pe_ix ix_tup (pv 0) pe_int (fun _ _ => rfl)) (pe_ix ix_tup (pv 1) pe_int (fun _ _ => rfl)) (nomark _)) (pe_one (pe_cmpR op_le (pe_ix ix_tup (pv 1) pe_int (fun _ _ => rfl)) (pe_ix ix_tup (pv 0) pe_int (fun _ _ => rfl)) (nomark _))))), ?_⟩
    refine ⟨.ref p, rfl, p, _, 0, .int a, rfl, rfl, h1, rfl, .ref q, rfl, q, _, 0, .int c, rfl, rfl, h2, rfl, a, c, rfl, rfl, _, rfl, ?_⟩
    by_cases e : a ≤ c
    · rw [decide_eq_true e] at hq ⊢
      exact iteT ⟨.ref q, rfl, q, _, 1, .int d, rfl, rfl, h2, rfl, .ref p, rfl, p, _, 1, .int b, rfl, rfl, h1, rfl, d, b, rfl, rfl, hq⟩
    · rw [decide_eq_false e] at hq ⊢
      exact iteF hq
def spSC : Sp := fun vs H Q _ => ∃ (a : Addr) (far step : Int) (xs : List V) (rs : List (Int × Int)), vs = [.ref a, .int far, .int step] ∧ H a = some (.lst xs) ∧ PairsAt H xs rs ∧ rs.length ≤ 500 ∧ (∀ r ∈ rs, r.1.natAbs < 2 ^ 40 ∧ r.2.natAbs < 2 ^ 40) ∧
  ∀ H' p ys, Same H H' → H p = none → H' p = some (.lst ys) → PairsAt H' ys (rs.map fun r => (r.1 * step + far, r.2 * step + far)) → Q (.ref p) H'
theorem ok_SC {f : Addr} {fd : FuncData} {k : Nat} (F : Fun K "_law_scaled" "_law_scaled" sSC f fd)  : FnOk P w K mg base CX0 (k + 1) f fd ["ranges", "far", "step"] spSC := by
  refine F.ok scSC (fun vs H Q E h => ?_) (fun cdv A outer s H vs Q E hr h => ?_)
  · obtain ⟨a, far, step, xs, rs, rfl, _⟩ := h
    rfl
  · obtain ⟨a, far, step, xs, rs, rfl, hA, pa, hl, bd, hq⟩ := h
    refine ⟨_, (pss_one (ps_ret (pe_lc (own := [("low", 3), ("high", 4)]) (g := gTup K 2 (gCons (gName 3) (gCons (gName 4) gNil))) (tt := tYes)  rfl scSC.nd (pi_list (pv 0)) (blkOk_by (own := [("low", 3), ("high", 4)]) (N := ["ranges", "far", "step", "low", "high"]) (sc := defScope sSC) (by decide +kernel)) (fun _ _ _ _ _ => (pg_tup rfl (pgs_cons (pg_name (i := 3) scSC.nd rfl (Or.inl rfl) (Or.inr rfl)) (pgs_cons (pg_name (i := 4) scSC.nd rfl (Or.inl rfl) (Or.inr rfl)) pgs_nil)))) (fun _ _ _ _ _ => pts_nil) (fun _ _ _ _ _ => (pe_tup (pa_cons (pe_op op_add (pe_op op_mul (pv 3) (pv 2)) (pv 1)) (pa_cons (pe_op op_add (pe_op op_mul (pv 4) (pv 2)) (pv 1)) pa_nil))))))), ?_⟩
    have la := pa.length
    refine ⟨.ref a, rfl, a, rfl, ⟨xs, SqL.of hA⟩, fun D nD => ?_⟩
    refine lc_it (walk_list (xs := xs)) (fun i Hz => Same H Hz ∧ ∃ acc : List V, Hz D = some (.lst acc) ∧ PairsAt Hz acc ((rs.take i).map fun r => (r.1 * step + far, r.2 * step + far))) ⟨same_new nD, [], upd_same, trivial⟩ (fun i Hz _ z => SqL.of (z.1 _ _ hA)) ?_ ?_
    · rintro i v Hz Hy hi ⟨sz, acc, eD, pd⟩ ⟨rfl, hx⟩
      obtain ⟨r, p, er, rfl, e2⟩ := pr_at pa hx
      have la2 := pd.length
      rw [List.length_map, List.length_take] at la2
      obtain ⟨b1, b2⟩ := bd r (List.mem_of_getElem? er)
      refine ⟨p, _, rfl, SqT.of (sz _ _ e2), rfl, .int r.1, [.int r.2], rfl, .int r.2, [], rfl, rfl, rfl, iteT (B := True) ?_⟩
      refine ⟨.int r.1, rfl, .int step, rfl, r.1, step, rfl, rfl, .inl ⟨by omega, by omega⟩, .int far, rfl, _, far, rfl, rfl, .int r.2, rfl, .int step, rfl, r.2, step, rfl, rfl, .inl ⟨by omega, by omega⟩, .int far, rfl, _, far, rfl, rfl, (show 2 ≤ sizeLine by decide), fun q nq => ?_⟩
      have sq := same_new nq (o := .tup [.int (r.1 * step + far), .int (r.2 * step + far)])
      have eD2 := sq _ _ eD
      refine ⟨acc, eD2, Nat.lt_of_le_of_lt (show acc.length ≤ 3000 by omega) (by decide), same_again nD (sz.trans sq), acc ++ [.ref q], upd_same, ?_⟩
      rw [List.take_add_one, er, Option.toList_some, List.map_append]
      exact PairsAt.put eD2 ((pd.same sq).append ⟨⟨q, rfl, upd_same⟩, trivial⟩)
    rintro Hz ⟨sz, acc, eD, pd⟩
    rw [la, List.take_length] at pd
    exact hq Hz D acc sz nD eD pd
def spLM (K : PySem.W.Frag) : Sp := fun vs H Q _ => ∃ (a b g : Addr) (xs ys : List V) (rs ss : List (Int × Int)) (v : V) (d : PyData), vs = [.ref a, .ref b, v] ∧ H a = some (.lst xs) ∧ PairsAt H xs rs ∧ H b = some (.lst ys) ∧ PairsAt H ys ss ∧ rs.length ≤ 500 ∧ ss.length ≤ 500 ∧ Dv g H v d ∧
  ∀ H', Same H H' → Q (.bl (matB rs ss d)) H'
theorem ok_LM {f : Addr} {fd : FuncData} {fHS : Addr} {dHS : FuncData} {k : Nat} (F : Fun K "_law_is_matching" "_law_is_matching" sLM f fd) (GHS : FnOk P w K mg base CX0 (k + 1) fHS dHS ["outer", "inner"] (spCont K)) (gHS : mg "_law_has" = some (.ref fHS)) (kHS : PySem.W.keepIn K (.ref fHS) = true) (bHS : Binds K dHS ["outer", "inner"] []) (ms : mg "isinstance" = none) (ml : mg "list" = none) (mlen : mg "len" = none) (mi : mg "int" = none) (mb : mg "bool" = none) (me : mg "enumerate" = none) : FnOk P w K mg base CX0 (k + 2) f fd ["first", "second", "value"] (spLM K) := by
  refine F.ok scLM (fun vs H Q E h => ?_) (fun cdv A outer s H vs Q E hr h => ?_)
  · obtain ⟨a, b, g, xs, ys, rs, ss, v, d, rfl, _⟩ := h
    rfl
  · obtain ⟨a, b, g, xs, ys, rs, ss, v, d, rfl, hA, pa, hB, pb, hl1, hl2, hd, hq⟩ := h
    refine ⟨_, (pss_cons (ps_if (PW.pt (pw_or (pt_not (pt_val (pe_callB call_isi (by rfl) ms (by decide +kernel) (pa_cons (pv 2) (pa_cons (pe_bltn (v := .ty "list") (by rfl) ml (by decide +kernel) rfl) pa_nil))))) (pw_or1 (pt_cmpR op_ne (pe_callB call_len_seq (by rfl) mlen PySem.boot_len (pa_cons (pv 2) pa_nil)) (pe_callB call_len_seq (by rfl) mlen PySem.boot_len (pa_cons (pv 0) pa_nil)) (nomark _))))) (pss_one (ps_ret pe_bl)) pss_nil)
      (pss_cons (ps_for PassesOwn.never rfl (GE.pi_enumS (by rfl) me (pa_cons (pv 2) pa_nil)) (pg_tup rfl (pgs_cons (pg_name (i := 3) scLM.nd rfl (.inl rfl)) (pgs_cons (pg_name (i := 4) scLM.nd rfl (.inl rfl)) pgs_nil)))
      (pss_cons (ps_if (PW.pt (pw_or (pt_not (pt_val (pe_callB call_isi (by rfl) ms (by decide +kernel) (pa_cons (pv 4) (pa_cons (pe_bltn (v := .ty "int") (by rfl) mi (by decide +kernel) rfl) pa_nil))))) (pw_or (pt_val (pe_callB call_isi (by rfl) ms (by decide +kernel) (pa_cons (pv 4) (pa_cons (pe_bltn (v := .ty "bool") (by rfl) mb (by decide +kernel) rfl) pa_nil)))) (pw_or1 (pt_not (pt_chain op_le op_lt pe_int (pv 4) (pe_callB call_len_seq (by rfl) mlen PySem.boot_len (pa_cons (pv 1) pa_nil)))))))) (pss_one (ps_ret pe_bl)) pss_nil)
      (pss_one (ps_if (PW.pt (pw_or (pt_cmpR op_in_seq (pv 4) (pe_slice sl_list (pv 2) po_none (po_some (pv 3))) (by rfl)) (pw_or1 (pt_not (pt_val (pe_call (GHS.mono (show k + 1 ≤ k + 1 by omega)) hr (by rfl) gHS kHS bHS .nil pass0 (pa_cons (pe_ix ix_list (pv 1) (pv 4) (fun _ _ => rfl)) (pa_cons (pe_ix ix_list (pv 0) (pv 3) (fun _ _ => rfl)) pa_nil)))))))) (pss_one (ps_ret pe_bl)) pss_nil))))
      (pss_one (ps_ret pe_bl)))), ?_⟩
    have la := pa.length
    have lb := pb.length
    refine ⟨v, rfl, v, .ty "list", _, .type "list", _, rfl, .ty "list", hd.ty, kit_l d, _, rfl, ?_⟩
    cases ht : isL d with
    | false =>
      have hq := hq _ (Same.refl H)
      rw [matB_not ht] at hq
      exact iteT (iteT hq)
    | true =>
      obtain ⟨ds, rfl⟩ := isL_lst ht
      cases hd with
      | @lst c zs _ hn e da =>
        have lz := da.length
        refine iteF ⟨.ref c, rfl, _, _, rfl, .inl (SqL.of e), .ref a, rfl, a, xs, rfl, .inl (SqL.of hA), rfl, _, rfl, ?_⟩
        by_cases hl : ds.length = rs.length
        rotate_left
        · have e2 : decide (V.int (zs.length : Int) = V.int (xs.length : Int)) = false := decide_eq_false fun z => by
            simp only [V.int.injEq] at z
            omega
          rw [e2]
          have hq := hq _ (Same.refl H)
          rw [show matB rs ss (.list ds) = false by show (_ && _) = _; rw [decide_eq_false hl]; rfl] at hq
          exact iteT hq
        · have e2 : decide (V.int (zs.length : Int) = V.int (xs.length : Int)) = true := decide_eq_true (by rw [lz, hl, la])
          rw [e2]
          refine iteF ⟨.ref c, rfl, c, zs, rfl, .inl (SqL.of e), fun J G wk hG => for_it wk (fun i σ Hz => Same H Hz ∧ MatI rs ss ds i ∧ ∃ r3 r4 : Option V, σ = [some (.ref a), some (.ref b), some (.ref c), r3, r4])
            ⟨Same.refl H, ⟨[], rfl, fun _ z => (List.not_mem_nil z).elim, List.nodup_nil, fun _ z => absurd z (by omega)⟩, _, _, rfl⟩ (fun i σ Hz _ z => hG _ z.1) ?_ ?_⟩
          · rintro i w σ Hz Hy hi ⟨sz, ⟨ns, m1, m2, m3, m4⟩, r3, r4, rfl⟩ ⟨T, x, y, rfl, nT, rfl, hx, hy⟩
            obtain rfl : V.int (i : Int) = x := Option.some.inj hx
            obtain ⟨d3, e3, dv⟩ := da.at hy
            have sT := same_new nT (o := .tup [.int (i : Int), y])
            have s3 := sz.trans sT
            have dv := (dv.same s3)
            have ln : ns.length = i := matI_len (rs := rs) (ss := ss) (by omega) m1
            have fail : matB rs ss (.list ds) = false → Q (.bl false) (upd Hz T (.tup [.int (i : Int), y])) := fun h => by
              have hq := hq _ s3
              rw [h] at hq
              exact hq
            refine ⟨T, _, rfl, SqT.of upd_same, rfl, .int (i : Int), [y], rfl, y, [], rfl, rfl, ?_⟩
            refine ⟨y, rfl, y, .ty "int", _, .type "int", _, rfl, .ty "int", dv.ty, kit_i d3, _, rfl, ?_⟩
            cases hi1 : isI d3 with
            | false => exact iteT (iteT (fail (mat_fa e3 (by cases d3 <;> simp_all [plB, isI]))))
            | true =>
              refine iteF ⟨y, rfl, y, .ty "bool", _, .type "bool", _, rfl, .ty "bool", dv.ty, kit_b d3, _, rfl, ?_⟩
              cases hb1 : isB d3 with
              | true => exact iteT (iteT (fail (mat_fa e3 (by cases d3 <;> simp_all [plB, isB]))))
              | false =>
                obtain ⟨m, rfl⟩ : ∃ m, d3 = .int m := by
                  cases d3 with
                  | int j => exact ⟨j, rfl⟩
                  | _ => exact absurd hi1 (by simp_all [isI, isB])
                cases dv
                refine iteF ⟨.int m, rfl, 0, m, rfl, rfl, _, rfl, ?_⟩
                by_cases h0 : (0 : Int) ≤ m
                rotate_left
                · rw [decide_eq_false h0]
                  exact iteF ⟨_, rfl, iteT (fail (mat_fa e3 (by simp [plB, h0])))⟩
                rw [decide_eq_true h0]
                refine iteT ⟨.ref b, rfl, b, ys, rfl, .inl (SqL.of (s3 _ _ hB)), m, _, rfl, rfl, _, rfl, ?_⟩
                by_cases h1 : m < (ys.length : Int)
                rotate_left
                · rw [decide_eq_false h1]
                  exact iteT (fail (mat_fa e3 (by rw [← lb]; simp [plB, h1])))
                rw [decide_eq_true h1]
                obtain ⟨j, rfl⟩ : ∃ j : Nat, m = (j : Int) := ⟨m.toNat, by omega⟩
                have hj : j < ys.length := by omega
                refine iteF ⟨.int (j : Int), rfl, .ref c, rfl, .int (i : Int), rfl, _, rfl, c, zs, rfl, SqL.of (s3 _ _ e), fun p np => ?_⟩
                rw [cut_to, show zs.take i = ns.map V.int from dv_ints_of (by rw [← m1]; exact da.take i)]
                have sp := same_new np (o := .lst (ns.map V.int))
                refine ⟨p, _, rfl, .inl (SqL.of upd_same), rfl, GU.flat_ints ns, _, rfl, ?_⟩
                show if inV _ _ = true then _ else _
                rw [in_ints]
                have s4 := s3.trans sp
                generalize upd (upd Hz T (.tup [.int (i : Int), .int (j : Int)])) p (.lst (ns.map V.int)) = H4 at s4 ⊢
                have fail : matB rs ss (.list ds) = false → Q (.bl false) H4 := fun h => by
                  have hq := hq _ s4
                  rw [h] at hq
                  exact hq
                by_cases hm : (j : Int) ∈ ns
                · rw [decide_eq_true hm]
                  exact iteT (iteT (fail (mat_fb e3 m1 hm)))
                rw [decide_eq_false hm]
                have hi2 : i < xs.length := by omega
                have ei := List.getElem?_eq_getElem hi2
                have ej := List.getElem?_eq_getElem hj
                obtain ⟨r2, p2, er2, ep2, eh2⟩ := pr_at pb ej
                obtain ⟨r1, p1, er1, ep1, eh1⟩ := pr_at pa ei
                refine iteF ⟨.ref b, rfl, .int (j : Int), rfl, b, ys, _, ys[j], rfl, rfl, SqL.of (s4 _ _ hB), atI_nat ej, .ref a, rfl, .int (i : Int), rfl, a, xs, _, xs[i], rfl, rfl, SqL.of (s4 _ _ hA), atI_nat ei, ?_⟩
                rw [ep1, ep2]
                have ec : (decide (r2.1 ≤ r1.1) && decide (r1.2 ≤ r2.2)) = cB (at0 ss j) (at0 rs i) := by unfold at0; rw [er1, er2]; rfl
                refine ⟨p2, p1, r2.1, r2.2, r1.1, r1.2, rfl, SqT.of (s4 _ _ eh2), SqT.of (s4 _ _ eh1), _, rfl, ?_⟩
                rw [ec]
                cases hc : cB (at0 ss j) (at0 rs i) with
                | false => exact iteT (fail (mat_fc e3 (by omega) hc))
                | true => exact iteF ⟨s4, matI_step m1 m2 m3 m4 e3 (by omega) hm hc, _, _, rfl⟩
          · rintro σ Hz ⟨sz, mi, r3, r4, rfl⟩
            have hq := hq _ sz
            rw [lz] at mi
            rw [matI_end mi hl] at hq
            exact hq
end
end P5K

/-! xs[::-1] of a list -/
namespace GR
open PySem PySem.Spec PyProof.Rows L2
def tBack (K : PySem.W.Frag) (te : TE) (tk : TO) : TE := fun σ H Q => te σ H fun v H1 => tk σ H1 fun o H2 => o = some (-1) ∧ ∃ a xs, v = .ref a ∧ SqL K H2 a xs ∧ ∀ p, H2 p = none → Q (.ref p) (upd H2 p (.lst xs.reverse))
theorem pe_back {X : Cx} {e st : Expr} {te : TE} {tk : TO} {p2 pos : Pos} (he : PE X e te) (hk : PO X (some st) tk) : PE X (.Subscript e (.Slice none none (some st) p2) pos) (tBack X.K te tk) := by
  refine ⟨fun pins s σ H Q I h => ?_⟩
  refine Subscript_ (thn (he.run pins s σ H _ I h) fun v s1 ⟨x, H1, I1, r1, q1⟩ => ?_)
  refine wpAny_Slice ?_
  rw [evalPart_none]
  refine wpAny_pure ?_
  refine wpAny_pure ?_
  refine thn (hk.run pins s1 σ H1 _ I1 q1) fun vk s2 ⟨o, H2, I2, pk, q2⟩ => ?_
  obtain ⟨rfl, a, xs, rfl, hx, q⟩ := q2
  have I4 : Inv X pins σ H2 { s2 with heap := s2.heap.push { cls := .type "slice", data := .fields #[.none, .none, vk] } } := I2.kept (t' := s2.toks) fun b ob q => Heap.get?_push_of_some _ q
  cases r1
  obtain ⟨its, r, ht, hz⟩ := I4.list hx
  have hlen := r.length
  have hs : ({ s2 with heap := s2.heap.push { cls := .type "slice", data := .fields #[.none, .none, vk] } } : Shared).heap.IsSliceOf s2.heap.objs.size .none .none vk := Heap.IsSliceOf.new ..
  have hg : wpAny (model X.prog X.w) X.A (getItem (.ref a) (.ref s2.heap.objs.size)) (EP X pins σ Q) X.xe { s2 with heap := s2.heap.push { cls := .type "slice", data := .fields #[.none, .none, vk] } } := by
    refine wpAny_getItem_list_slice ht.isList hs .none .none pk (by simp) ?_ (by rw [List.size_toArray] <;> omega)
    rw [PySem.W.krv_pick]
    refine ⟨.ref _, _, I4.laid (t' := s2.toks) (o := .lst xs.reverse) (fun b ob q => Heap.get?_push_of_some _ q) (Nat.le_refl _) ?_, rfl, q _ (I4.hok.fresh (Nat.le_refl _))⟩
    exact ⟨by rw [List.length_reverse]; exact hz, _, 0, r.reverse, Heap.get?_push_size _ rfl⟩
  show wpAny (model X.prog X.w) X.A (subscriptTail e (.Slice none none (some st) p2) (.ref a) (.ref s2.heap.objs.size)) (EP X pins σ Q) X.xe _
  exact tail_any (ops := [.ref a, .ref s2.heap.objs.size]) ht.isList.typeIs slot_list_getitem.lookup hg (by with_unfolding_all rfl)
end GR

/-! t[::-1] of a tuple; data of a pair of tuples -/
namespace GT
open PySem PySem.Spec PyProof.Rows L2 HT
section
variable {prog : Program} {w : World} {A : Around} {E : Value → Shared → Prop} {s : Shared}
theorem adjust_back (n : Nat) : Builtin.Slice.sliceAdjust none none (-1) (n : Int) = ((n : Int) - 1, -1) := by
  have h1 : ((-1 : Int) < 0) := by decide
  unfold Builtin.Slice.sliceAdjust
  simp only [h1, if_true]
theorem places_back (n : Nat) : Builtin.Slice.slicePlaces ((n : Int) - 1) (-1) (-1) = n := by
  unfold Builtin.Slice.slicePlaces
  have h1 : ¬ ((-1 : Int) > 0) := by decide
  have h2 : (- -1 : Int) = 1 := by decide
  simp only [h1, if_false, h2, Int.ediv_one]
  split <;> omega
theorem applied_back {sl : Addr} {vk : Value} {n : Nat} {Q : Int × Int × Nat → Shared → Prop} (hs : s.heap.IsSliceOf sl .none .none vk) (pk : IsPart vk (some (-1)))
    (h : Q ((n : Int) - 1, -1, n) s) : wpAny (model prog w) A (Builtin.Slice.sliceApplied (.ref sl) (pure (n : Int))) Q E s := by
  obtain ⟨os, hos, hcs, hds⟩ := id hs
  unfold Builtin.Slice.sliceApplied Builtin.Slice.sliceFields
  refine wpAny_bind (wpAny_bind (wpAny_field hos hds (x := .none) rfl (wpAny_bind (wpAny_field hos hds (x := .none) rfl (wpAny_bind (wpAny_field hos hds (x := vk) rfl (wpAny_pure ?_)))))))
  refine wpAny_bind (slicePart_ pk ?_)
  show wpAny _ _ (if ((-1 : Int) == 0) = true then _ else _) _ _ s
  rw [if_neg (by decide)]
  refine wpAny_bind (slicePart_none (wpAny_bind (slicePart_none (wpAny_bind (wpAny_pure ?_)))))
  show wpAny _ _ (match Builtin.Slice.sliceAdjust none none (-1) (n : Int) with | (lo, hi) => pure (lo, (-1 : Int), Builtin.Slice.slicePlaces lo hi (-1))) _ _ s
  rw [adjust_back n]
  show wpAny _ _ (pure ((n : Int) - 1, (-1 : Int), Builtin.Slice.slicePlaces ((n : Int) - 1) (-1) (-1))) _ _ s
  rw [places_back]
  exact wpAny_pure h
theorem pick_back (xs : Array Value) : ((List.range xs.size).filterMap fun (m : Nat) => xs[(((xs.size : Int) - 1) + (m : Int) * (-1)).toNat]?).toArray = xs.toList.reverse.toArray := by
  have e : (fun (m : Nat) => xs[(((xs.size : Int) - 1) + (m : Int) * (-1)).toNat]?) = fun m => (fun k => xs[k]?) ((xs.size - 1) - m) := by
    funext m
    have : (((xs.size : Int) - 1) + (m : Int) * (-1)).toNat = xs.size - 1 - m := by omega
    rw [this]
  rw [e]
  have := PySem.W.krv_all xs
  have k := PySem.W.krv_range xs.size
  rw [← this, ← List.filterMap_reverse, ← k, List.filterMap_map]
  rfl
theorem getItem_tuple_back {t sl : Addr} {items : Array Value} {vk : Value} {Q : Value → Shared → Prop} (ht : IsTup s.heap t items) (hs : s.heap.IsSliceOf sl .none .none vk) (pk : IsPart vk (some (-1)))
    (h : Q (.ref s.heap.objs.size) { s with heap := s.heap.push { cls := .type "tuple", data := .seq items.toList.reverse.toArray } })
    (hsz : items.size ≤ sizeLine) : wpAny (model prog w) A (getItem (.ref t) (.ref sl)) Q E s := by
  have htake : sizeOk (.seq items.toList.reverse.toArray) := by
    show items.toList.reverse.toArray.size ≤ sizeLine
    rw [List.size_toArray, List.length_reverse, Array.length_toList]
    exact hsz
  obtain ⟨os, hos, hcs, hds⟩ := id hs
  have hTs : s.TypeIs (.ref sl) "slice" := ⟨os, hos, hcs⟩
  unfold getItem
  try with_reducible refine wpAny_holding ?_
  first | refine wpAny_bind (wpAny_pure ?_) | skip
  refine wpAny_bind (wpAny_sequenceKey ht.typeIs (by decide) ?_)
  refine wpAny_bind (wpAny_callSpecial?_slot (name := Str.ofString "__getitem__") ht.typeIs PyProof.Rows.slot_tuple_getitem
    (wpAny_call_entry PyProof.Rows.slot_tuple_getitem ht.typeIs entry_tuple_getitem ?_ (args_tuple_getitem _ _)))
  show wpAny _ _ (Builtin.Tuple.tupleItemsOf (.ref t) >>= _) _ _ s
  refine wpAny_bind (tupleItemsOf_ ht ?_)
  refine wpAny_bind (wpAny_typeOf hTs ?_)
  rw [if_pos (by decide)]
  refine wpAny_bind (applied_back hs pk ?_)
  have hno : ¬ (((((items.size : Int) - 1) == 0 && (-1 : Int) == 1) && items.size == items.size) = true) := by
    intro q
    rw [Bool.and_eq_true, Bool.and_eq_true] at q
    exact absurd q.1.2 (by decide)
  show wpAny _ _ (if ((((items.size : Int) - 1) == 0 && (-1 : Int) == 1) && items.size == items.size) = true then _ else _) _ _ s
  rw [if_neg hno, pick_back]
  first
    | exact wpAny_bind (m := Builtin.Tuple.tupleExact _) (wpAny_newObj_type (wpAny_pure ⟨_, rfl, wpAny_pure h⟩) htake)
    | exact wpAny_bind (m := Builtin.Tuple.tupleExact _) (wpAny_newObj_type (wpAny_bind (wpAny_pure (wpAny_pure ⟨_, rfl, wpAny_pure h⟩))) htake)
    | exact wpAny_bind (wpAny_bind (m := Builtin.Tuple.tupleExact _) (wpAny_newObj_type (wpAny_pure (wpAny_pure ⟨_, rfl, wpAny_pure h⟩)) htake))
    | exact wpAny_bind (wpAny_bind (m := Builtin.Tuple.tupleExact _) (wpAny_newObj_type (wpAny_pure ⟨_, rfl, wpAny_pure h⟩) htake))
end
def tBackT (K : PySem.W.Frag) (te : TE) (tk : TO) : TE := fun σ H Q => te σ H fun v H1 => tk σ H1 fun o H2 => o = some (-1) ∧ ∃ a xs, v = .ref a ∧ SqT K H2 a xs ∧ ∀ p, H2 p = none → Q (.ref p) (upd H2 p (.tup xs.reverse))
theorem pe_backT {X : Cx} {e st : Expr} {te : TE} {tk : TO} {p2 pos : Pos} (he : PE X e te) (hk : PO X (some st) tk) : PE X (.Subscript e (.Slice none none (some st) p2) pos) (tBackT X.K te tk) := by
  refine ⟨fun pins s σ H Q I h => ?_⟩
  refine Subscript_ (thn (he.run pins s σ H _ I h) fun v s1 ⟨x, H1, I1, r1, q1⟩ => ?_)
  refine wpAny_Slice ?_
  rw [evalPart_none]
  refine wpAny_pure ?_
  refine wpAny_pure ?_
  refine thn (hk.run pins s1 σ H1 _ I1 q1) fun vk s2 ⟨o, H2, I2, pk, q2⟩ => ?_
  obtain ⟨rfl, a, xs, rfl, hx, q⟩ := q2
  have I4 : Inv X pins σ H2 { s2 with heap := s2.heap.push { cls := .type "slice", data := .fields #[.none, .none, vk] } } := I2.kept (t' := s2.toks) fun b ob q => Heap.get?_push_of_some _ q
  cases r1
  obtain ⟨its, r, ht, hz⟩ := I4.tuple hx
  have hlen := r.length
  have hs : ({ s2 with heap := s2.heap.push { cls := .type "slice", data := .fields #[.none, .none, vk] } } : Shared).heap.IsSliceOf s2.heap.objs.size .none .none vk := Heap.IsSliceOf.new ..
  have hg : wpAny (model X.prog X.w) X.A (getItem (.ref a) (.ref s2.heap.objs.size)) (EP X pins σ Q) X.xe { s2 with heap := s2.heap.push { cls := .type "slice", data := .fields #[.none, .none, vk] } } := by
    refine getItem_tuple_back ht hs pk ?_ (by rw [List.size_toArray] <;> omega)
    refine ⟨.ref _, _, I4.laid (t' := s2.toks) (o := .tup xs.reverse) (fun b ob q => Heap.get?_push_of_some _ q) (Nat.le_refl _) ?_, rfl, q _ (I4.hok.fresh (Nat.le_refl _))⟩
    exact ⟨by rw [List.length_reverse]; exact hz, _, r.reverse, IsTup.new _ _⟩
  show wpAny (model X.prog X.w) X.A (subscriptTail e (.Slice none none (some st) p2) (.ref a) (.ref s2.heap.objs.size)) (EP X pins σ Q) X.xe _
  exact tail_any (ops := [.ref a, .ref s2.heap.objs.size]) ht.typeIs PyProof.Rows.slot_tuple_getitem.lookup hg (by with_unfolding_all rfl)
end GT

set_option pp.maxSteps 900
/-! k56: values made -/
namespace P5M
open PySem PySem.Spec PyProof.Rows L2 KA KD PH PM RM RN K55 K55b K55d DV P5P P5I P5K
abbrev sLO : Stmt := topS 27
theorem scLO : FnScope ["feed", "value", "size", "found", "at", "odd", "case", "place"] ["feed", "value", "size"] (defScope sLO) := ⟨rfl, rfl, rfl, by decide +kernel, rfl, by decide +kernel, by decide +kernel⟩
structure It2 (d : PyData) : Prop where
  sh : d.showable = true
  le : d.leavesShort 25 = true
  de : d.depth ≤ 2
  we : d.weight ≤ 1000
  lay : d.canLay0 = true
structure Tz (d : PyData) : Prop where
  di : d.hasDict = false ∨ d = .dict []
  sh : d.showable = true
  le : d.leavesShort 25 = true
  de : d.depth ≤ 6
  we : d.weight ≤ 200000
def itB2 (d : PyData) : Bool := d.showable && d.leavesShort 25 && decide (d.depth ≤ 2) && decide (d.weight ≤ 1000) && d.canLay0
theorem it2_of {d : PyData} (h : itB2 d = true) : It2 d := by
  simp only [itB2, Bool.and_eq_true, decide_eq_true_eq] at h
  exact ⟨h.1.1.1.1, h.1.1.1.2, h.1.1.2, h.1.2, h.2⟩
theorem it2_list {ds : List PyData} (h : ds.all itB2 = true) : ∀ d ∈ ds, It2 d := fun d hd => it2_of (List.all_eq_true.mp h d hd)
theorem it2_int {i : Int} (h : i.natAbs < 2 ^ 39) : It2 (.int i) := by
  have x := it_int h
  have y : decide ((PyData.shown (.int i)).length ≤ 13) = true := x.le
  have y2 := of_decide_eq_true y
  exact ⟨x.sh, by show decide ((PyData.shown (.int i)).length ≤ 25) = true; exact decide_eq_true (by omega), by show PyData.depth (.int i) ≤ 2; simp only [PyData.depth]; omega, x.we, rfl⟩
theorem it2_all : ∀ {ds : List PyData}, (∀ d ∈ ds, It2 d) → PyData.showableAll ds = true ∧ PyData.leavesShortAll 25 ds = true ∧ PyData.depthAll ds ≤ 2 ∧ PyData.weightAll ds ≤ 1001 * ds.length ∧ PyData.canLayAll0 ds = true
  | [], _ => ⟨rfl, rfl, Nat.zero_le _, Nat.zero_le _, rfl⟩
  | d :: ds, h => by
    obtain ⟨a1, a2, a3, a4, a5⟩ := it2_all fun x hx => h x (List.mem_cons_of_mem _ hx)
    obtain ⟨b1, b2, b3, b4, b5⟩ := h d List.mem_cons_self
    simp only [PyData.showableAll, PyData.leavesShortAll, PyData.depthAll, PyData.weightAll, PyData.canLayAll0, List.length_cons, a1, a2, a5, b1, b2, b5, Bool.and_self, true_and, and_true]
    omega
theorem tz_tup {ds : List PyData} (h : ∀ d ∈ ds, It2 d) (hl : ds.length ≤ 100) : Tz (.tuple ds) := by
  obtain ⟨a1, a2, a3, a4, a5⟩ := it2_all h
  refine ⟨.inl (PyData.hasDict_of_canLay _ (by simp only [PyData.canLay0]; exact a5)), ?_, ?_, ?_, ?_⟩
  · simp only [PyData.showable]; exact a1
  · simp only [PyData.leavesShort]; exact a2
  · simp only [PyData.depth]; omega
  · simp only [PyData.weight]; omega
theorem tz_lst {ds : List PyData} (h : ∀ d ∈ ds, It2 d) (hl : ds.length ≤ 100) : Tz (.list ds) := by
  obtain ⟨a1, a2, a3, a4, a5⟩ := it2_all h
  refine ⟨.inl (PyData.hasDict_of_canLay _ (by simp only [PyData.canLay0]; exact a5)), ?_, ?_, ?_, ?_⟩
  · simp only [PyData.showable]; exact a1
  · simp only [PyData.leavesShort]; exact a2
  · simp only [PyData.depth]; omega
  · simp only [PyData.weight]; omega
theorem tz_one {ds : List PyData} (h : ∀ d ∈ ds, It2 d) (hl : ds.length ≤ 100) : Tz (.list [.list ds]) := by
  obtain ⟨a1, a2, a3, a4, a5⟩ := it2_all h
  refine ⟨.inl (PyData.hasDict_of_canLay _ (by simp only [PyData.canLay0, PyData.canLayAll0, a5, Bool.and_self])), ?_, ?_, ?_, ?_⟩
  · simp only [PyData.showable, PyData.showableAll, a1, Bool.and_self]
  · simp only [PyData.leavesShort, PyData.leavesShortAll, a2, Bool.and_self]
  · simp only [PyData.depth, PyData.depthAll]; omega
  · simp only [PyData.weight, PyData.weightAll]; omega
theorem tz_it {d : PyData} (h : It2 d) : Tz d := ⟨.inl (PyData.hasDict_of_canLay _ h.lay), h.sh, h.le, by have := h.de; omega, by have := h.we; omega⟩
theorem tz_dict : Tz (.dict []) := ⟨.inr rfl, by decide +kernel, by decide +kernel, by decide +kernel, by decide +kernel⟩
theorem it2_app {ds es : List PyData} (h1 : ∀ d ∈ ds, It2 d) (h2 : ∀ d ∈ es, It2 d) : ∀ d ∈ ds ++ es, It2 d := fun d hd => (List.mem_append.mp hd).elim (h1 d) (h2 d)
theorem it2_take {ds : List PyData} {n : Nat} (h : ∀ d ∈ ds, It2 d) : ∀ d ∈ ds.take n, It2 d := fun d hd => h d (List.mem_of_mem_take hd)
theorem it2_drop {ds : List PyData} {n : Nat} (h : ∀ d ∈ ds, It2 d) : ∀ d ∈ ds.drop n, It2 d := fun d hd => h d (List.mem_of_mem_drop hd)
theorem tz_len {d : PyData} (h : Tz d) : d.shown.length ≤ sizeLine := by
  have e := PyData.shown_le 25 (by decide) d h.le
  have w := h.we
  have : 27 * 200000 + 25 ≤ sizeLine := by decide
  omega
section
variable {X : Cx}
/-- repr of one value, while no repr is under way -/
def rReprZ : List V → Hp → VK → Prop := fun vs H Q => ∃ (g : Addr) (v : V) (d : PyData), vs = [v] ∧ Dv g H v d ∧ Tz d ∧ Q (.str d.shown) H
theorem cr_reprZ (hg : X.A.guards = some []) (hu : X.A.units + 100 < cLine) : CallR X (.builtin "repr") rReprZ := by
  intro pins s σ H vs us Q I r h
  obtain ⟨g, v, d, rfl, hd, tz, q⟩ := h
  obtain ⟨u, rfl, ru⟩ := vals1 r
  have byRef : ∀ (a : Addr) (as : List Addr), Reads s.heap (.ref a) d as → (d.hasDict = true → sysModules ∉ as) → wpAny (model X.prog X.w) X.A (call (.builtin "repr") [.ref a]) (EP X pins σ Q) X.xe s := fun a as rd no =>
    repr_of_reads' rd tz.sh no hg (by have := tz.de; omega) (fun _ _ e => e) (fun h' u tk k => ⟨.str d.shown, H, I.kept k, ⟨u, rfl⟩, q⟩) (tz_len tz)
  have nd : (∀ x, d ≠ .dict x) → d.hasDict = false := fun n => tz.di.elim id fun z => absurd z (n _)
  cases hd with
  | non =>
    cases ru
    exact PySem.P.repr_of_none ⟨.str _, H, I.tok _, ⟨_, rfl⟩, q⟩
  | bl b =>
    cases ru
    refine PySem.P.repr_of_bool ⟨.str _, H, I.tok _, ⟨_, rfl⟩, ?_⟩
    cases b <;> exact q
  | int i =>
    obtain ⟨t, rfl⟩ := ru
    have := tz.sh
    refine PySem.P.repr_of_int (by simpa only [PyData.showable, decide_eq_true_eq] using this) ⟨.str _, H, I.tok _, ⟨_, rfl⟩, q⟩
  | str x =>
    obtain ⟨t, rfl⟩ := ru
    exact PySem.P.repr_of_str ⟨.str _, H, I.tok _, ⟨_, rfl⟩, q⟩ (tz_len tz)
  | lst n e a =>
    have hd := Dv.lst n e a
    cases ru
    obtain ⟨as, rd, _⟩ := Dv.reads I _ _ _ hd rfl
    exact byRef _ as rd (PyData.noDict_hsm (nd fun _ z => nomatch z))
  | tup n e a =>
    have hd := Dv.tup n e a
    cases ru
    obtain ⟨as, rd, _⟩ := Dv.reads I _ _ _ hd rfl
    exact byRef _ as rd (PyData.noDict_hsm (nd fun _ z => nomatch z))
  | dic n e =>
    have hd := Dv.dic n e
    cases ru
    obtain ⟨as, rd, no⟩ := Dv.reads I _ _ _ hd rfl
    exact byRef _ as rd fun _ => no rfl
end
theorem slL {K : PySem.W.Frag} {f a : Addr} {xs : List V} {lo hi : Option Int} {H : Hp} {Q : VK} (ha : H a = some (.lst xs)) (hf : FeedAt H f)
    (q : ∀ H' p, Same H H' → p ≠ f → H' p = some (.lst (cutV xs lo hi)) → Q (.ref p) H') : rSlL K (.ref a) lo hi H Q :=
  ⟨a, xs, rfl, SqL.of ha, fun p np => q _ p (same_new np) (hf.ne np) upd_same⟩
theorem ctL {f a b : Addr} {xs ys : List V} {H : Hp} {Q : VK} (ha : H a = some (.lst xs)) (hb : H b = some (.lst ys)) (hf : FeedAt H f) (hl : xs.length + ys.length ≤ 2000)
    (q : ∀ H' p, Same H H' → p ≠ f → H' p = some (.lst (xs ++ ys)) → Q (.ref p) H') : rCat (.ref a) (.ref b) H Q :=
  ⟨a, b, xs, ys, rfl, rfl, ha, hb, Nat.le_of_lt (small3000 (by omega)), fun p np => q _ p (same_new np) (hf.ne np) upd_same⟩
section
variable {P : Program} {w : World} {K : PySem.W.Frag} {mg : Str → Option Value} {base : Heap}
def spLO : Sp := fun vs H Q _ => ∃ (f a : Addr) (ns : List Int) (size : Int), vs = [.ref f, .ref a, .int size] ∧ FeedAt H f ∧ H a = some (.lst (ns.map V.int)) ∧ ns.length ≤ 20 ∧ (∀ x ∈ ns, x.natAbs < 2 ^ 39) ∧ 0 ≤ size ∧ size ≤ 100 ∧
  ∀ H' v d, Ch f H H' → FeedAt H' f → Dv f H' v d → Tz d → Q v H'
theorem ok_LO {f : Addr} {fd : FuncData} {fTA : Addr} {dTA : FuncData} {fPI : Addr} {dPI : FuncData} {k : Nat} (F : Fun K "_law_other" "_law_other" sLO f fd) (GTA : FnOk P w K mg base CX0 (k + 1) fTA dTA ["feed", "size"] spTake) (gTA : mg "_law_take" = some (.ref fTA)) (kTA : PySem.W.keepIn K (.ref fTA) = true) (bTA : Binds K dTA ["feed", "size"] []) (GPI : FnOk P w K mg base CX0 (k + 2) fPI dPI ["feed", "options"] (spPick K)) (gPI : mg "_law_pick" = some (.ref fPI)) (kPI : PySem.W.keepIn K (.ref fPI) = true) (bPI : Binds K dPI ["feed", "options"] []) (ml : mg "list" = none) (mlen : mg "len" = none) (mt : mg "tuple" = none) : FnOk P w K mg base CX0 (k + 3) f fd ["feed", "value", "size"] spLO := by
  refine F.ok scLO (fun vs H Q E h => ?_) (fun cdv A outer s H vs Q E hr h => ?_)
  · obtain ⟨f, a, ns, size, rfl, _⟩ := h
    rfl
  · obtain ⟨f, a, ns, size, rfl, hf, ha, hlen, hb, z0, z1, hq⟩ := h
    refine ⟨_, (pss_cons (ps_set (i := 3) scLO.nd rfl (.inl rfl) (pe_callTy call_list_of (by rfl) ml (by decide +kernel) (pa_cons (pv 1) pa_nil)))
      (pss_cons (ps_set (i := 4) scLO.nd rfl (.inl rfl) (pe_call (GTA.mono (show k + 1 ≤ k + 2 by omega)) hr (by rfl) gTA kTA bTA .nil pass0 (pa_cons (pv 0) (pa_cons (pe_op op_add (pe_callB call_len_seq (by rfl) mlen PySem.boot_len (pa_cons (pv 3) pa_nil)) pe_int) pa_nil))))
      (pss_cons (ps_set (i := 5) scLO.nd rfl (.inl rfl) (pe_lst (pa_cons pe_bl (pa_cons pe_bl (pa_cons (pe_un un_neg pe_int) (pa_cons (pv 2) (pa_cons pe_non (pa_cons pe_str (pa_cons (pe_tup (pa_cons pe_int pa_nil)) (pa_cons (pe_op op_pow pe_int pe_int) (pa_cons (pe_call (GTA.mono (show k + 1 ≤ k + 2 by omega)) hr (by rfl) gTA kTA bTA .nil pass0 (pa_cons (pv 0) (pa_cons (pe_op op_add (pv 2) pe_int) pa_nil))) (pa_cons (pe_call (GTA.mono (show k + 1 ≤ k + 2 by omega)) hr (by rfl) gTA kTA bTA .nil pass0 (pa_cons (pv 0) (pa_cons (pe_op op_add (pv 2) pe_int) pa_nil))) pa_nil))))))))))))
      (pss_cons (ps_set (i := 6) scLO.nd rfl (.inl rfl) (pe_call (GTA.mono (show k + 1 ≤ k + 2 by omega)) hr (by rfl) gTA kTA bTA .nil pass0 (pa_cons (pv 0) (pa_cons pe_int pa_nil))))
      (pss_cons (ps_if (pt_cmpR op_eq (pv 6) pe_int (nomark _)) (pss_one (ps_ret (pe_op op_cat (pe_slice sl_list (pv 3) po_none (po_some (pv 4))) (pe_slice sl_list (pv 3) (po_some (pe_op op_add (pv 4) pe_int)) po_none)))) pss_nil)
      (pss_cons (ps_if (pt_cmpR op_eq (pv 6) pe_int (nomark _)) (pss_one (ps_ret (pe_op op_cat (pe_op op_cat (pe_slice sl_list (pv 3) po_none (po_some (pv 4))) (pe_lst (pa_cons (pe_call (GPI.mono (show k + 2 ≤ k + 2 by omega)) hr (by rfl) gPI kPI bPI .nil pass0 (pa_cons (pv 0) (pa_cons (pv 5) pa_nil))) pa_nil))) (pe_slice sl_list (pv 3) (po_some (pv 4)) po_none)))) pss_nil)
      (pss_cons (ps_if (pt_cmpR op_eq (pv 6) pe_int (nomark _)) (pss_one (ps_ret (pe_op op_cat (pe_op op_cat (pe_slice sl_list (pv 3) po_none (po_some (pv 4))) (pe_lst (pa_cons (pe_call (GPI.mono (show k + 2 ≤ k + 2 by omega)) hr (by rfl) gPI kPI bPI .nil pass0 (pa_cons (pv 0) (pa_cons (pv 5) pa_nil))) pa_nil))) (pe_slice sl_list (pv 3) (po_some (pe_op op_add (pv 4) pe_int)) po_none)))) pss_nil)
      (pss_cons (ps_if (pt_cmpR op_eq (pv 6) pe_int (nomark _)) (pss_one (ps_ret (GR.pe_back (pv 3) (po_some (pe_un un_neg pe_int))))) pss_nil)
      (pss_cons (ps_if (pt_cmpR op_eq (pv 6) pe_int (nomark _)) (pss_one (ps_ret (pe_call (GPI.mono (show k + 2 ≤ k + 2 by omega)) hr (by rfl) gPI kPI bPI .nil pass0 (pa_cons (pv 0) (pa_cons (pe_lst (pa_cons (pe_callTy call_tuple_of (by rfl) mt (by decide +kernel) (pa_cons (pv 3) pa_nil)) (pa_cons pe_non (pa_cons pe_dnewT (pa_cons pe_str (pa_cons pe_int (pa_cons (pe_lst (pa_cons (pv 3) pa_nil)) pa_nil))))))) pa_nil))))) pss_nil)
      (pss_cons (ps_if (pt_cmpR op_eq (pv 6) pe_int (nomark _)) (pss_one (ps_ret (pe_lc (own := [("place", 7)]) (g := gName 7) (tt := tYes) (te := tCall spTake [] E0 (tCons (tVar 0) (tCons (tOp (rI0 fun i j => V.int (i + j)) (tVar 2) (tC (V.int 1))) tNil))) rfl scLO.nd (pi_list (pv 3)) (blkOk_by (own := [("place", 7)]) (N := ["feed", "value", "size", "found", "at", "odd", "case", "place"]) (sc := defScope sLO) (by decide +kernel)) (fun _ _ _ _ _ => (pg_name (i := 7) scLO.nd rfl (Or.inl rfl) (Or.inr rfl))) (fun _ _ _ _ _ => pts_nil) (fun _ _ _ _ _ => (pe_call (GTA.mono (show k + 1 ≤ k + 2 by omega)) hr (by rfl) gTA kTA bTA .nil pass0 (pa_cons (pv 0) (pa_cons (pe_op op_add (pv 2) pe_int) pa_nil))))))) pss_nil)
      (pss_one (ps_ret (pv 3))))))))))))), ?_⟩
    have lx : (ns.map V.int).length = ns.length := List.length_map _
    refine ⟨.ref a, rfl, a, _, rfl, .inl (SqL.of ha), fun p np => ?_⟩
    have dx : DvAll f (upd H p (.lst (ns.map V.int))) (ns.map V.int) (dInts ns) := dv_ints ns
    have sp := same_new np (o := .lst (ns.map V.int))
    have npf := hf.ne np
    have hp := upd_same (H := H) (a := p) (o := .lst (ns.map V.int))
    have f1 := hf.same sp
    have c1 := Ch.of_same (f := f) sp
    generalize upd H p (.lst (ns.map V.int)) = H1 at dx hp f1 c1 ⊢
    have hit : ∀ d ∈ dInts ns, It2 d := fun d hd => by
      obtain ⟨z, hz, rfl⟩ := List.mem_map.mp hd
      exact it2_int (hb z hz)
    have ld : (dInts ns).length = ns.length := by unfold dInts; rw [List.length_map]
    generalize hxs : ns.map V.int = xs at lx dx hp ⊢
    generalize hds : dInts ns = ds at dx hit ld
    refine ⟨.ref f, rfl, .ref p, rfl, p, xs, rfl, .inl (SqL.of hp), _, 1, rfl, rfl, f, _, rfl, by omega, by omega, f1, fun H2 r c2 f2 r0 r1 => ?_⟩
    obtain ⟨j, rfl⟩ : ∃ j : Nat, r = (j : Int) := ⟨r.toNat, by omega⟩
    have hj : j ≤ ds.length := by omega
    refine ⟨1, rfl, .int size, rfl, by show 1 ≤ sizeLine; decide, fun t nt => ⟨10, 20, rfl, rfl, ⟨by decide, by decide, by decide⟩, ?_⟩⟩
    have st := same_new nt (o := .tup [.int 0])
    have ht := upd_same (H := H2) (a := t) (o := .tup [.int 0])
    have ntf := f2.ne nt
    have f3 := f2.same st
    have c13 := c1.trans (c2.trans (.of_same st))
    have hp3 := st _ _ (c2 _ _ npf hp)
    have dx3 := (dx.ch c2 _ _).same st
    generalize upd H2 t (.tup [.int 0]) = H3 at ht f3 c13 hp3 dx3 ⊢
    clear st nt c2 f2 c1 f1 hp dx
    refine ⟨.ref f, rfl, .int size, rfl, size, 1, rfl, rfl, f, _, rfl, by omega, by omega, f3, fun H4 u1 c4 f4 u10 u11 => ?_⟩
    refine ⟨.ref f, rfl, .int size, rfl, size, 1, rfl, rfl, f, _, rfl, by omega, by omega, f4, fun H5 u2 c5 f5 u20 u21 => ?_⟩
    have c45 := c4.trans c5
    refine ⟨by show 10 ≤ sizeLine; decide, fun o no => ?_⟩
    have so := same_new no (o := .lst [.bl true, .bl false, .int (-1), .int size, .non, .str "0", .ref t, .int (10 ^ (20 : Int).toNat), .int u1, .int u2])
    have ho := upd_same (H := H5) (a := o) (o := .lst [.bl true, .bl false, .int (-1), .int size, .non, .str "0", .ref t, .int (10 ^ (20 : Int).toNat), .int u1, .int u2])
    have dO : DvAll f (upd H5 o (.lst [.bl true, .bl false, .int (-1), .int size, .non, .str "0", .ref t, .int (10 ^ (20 : Int).toNat), .int u1, .int u2])) [.bl true, .bl false, .int (-1), .int size, .non, .str "0", .ref t, .int (10 ^ (20 : Int).toNat), .int u1, .int u2]
        [.bool true, .bool false, .int (-1), .int size, .none, .str "0", .tuple [.int 0], .int (10 ^ (20 : Int).toNat), .int u1, .int u2] :=
      .cons (.bl _) (.cons (.bl _) (.cons (.int _) (.cons (.int _) (.cons .non (.cons (.str _) (.cons (.tup ntf (so _ _ (c45 _ _ ntf ht)) (.cons (.int _) .nil)) (.cons (.int _) (.cons (.int _) (.cons (.int _) .nil)))))))))
    have itO : ∀ d ∈ ([.bool true, .bool false, .int (-1), .int size, .none, .str "0", .tuple [.int 0], .int (10 ^ (20 : Int).toNat), .int u1, .int u2] : List PyData), It2 d := fun d m => by
      simp only [List.mem_cons, List.not_mem_nil, or_false] at m
      rcases m with rfl | rfl | rfl | rfl | rfl | rfl | rfl | rfl | rfl | rfl
      · exact it2_of (by decide +kernel)
      · exact it2_of (by decide +kernel)
      · exact it2_of (by decide +kernel)
      · exact it2_int (by omega)
      · exact it2_of (by decide +kernel)
      · exact it2_of (by decide +kernel)
      · exact it2_of (by decide +kernel)
      · exact it2_of (by decide +kernel)
      · exact it2_int (by omega)
      · exact it2_int (by omega)
    have f6 := f5.same so
    have nof := f5.ne no
    have c16 := (c13.trans c45).trans (.of_same so)
    have hp6 := so _ _ (c45 _ _ npf hp3)
    have dx6 := (dx3.ch c45 _ _).same so
    generalize upd H5 o (.lst [.bl true, .bl false, .int (-1), .int size, .non, .str "0", .ref t, .int (10 ^ (20 : Int).toNat), .int u1, .int u2]) = H6 at ho dO f6 c16 hp6 dx6 ⊢
    have lO : ([.bl true, .bl false, .int (-1), .int size, .non, .str "0", .ref t, .int (10 ^ (20 : Int).toNat), .int u1, .int u2] : List V).length = 10 := rfl
    generalize ([.bl true, .bl false, .int (-1), .int size, .non, .str "0", .ref t, .int (10 ^ (20 : Int).toNat), .int u1, .int u2] : List V) = os at ho dO lO ⊢
    generalize ([.bool true, .bool false, .int (-1), .int size, .none, .str "0", .tuple [.int 0], .int (10 ^ (20 : Int).toNat), .int u1, .int u2] : List PyData) = dos at dO itO
    clear so no c45 c5 c4 f5 f4 f3 c13 hp3 dx3 ht ntf
    refine ⟨.ref f, rfl, f, 7, rfl, by decide, by decide, f6, fun H7 cs c7 f7 q0 q1 => ?_⟩
    have hp7 := c7 _ _ npf hp6
    have ho7 := c7 _ _ nof ho
    have dx7 := dx6.ch c7 _ _
    have dO7 := dO.ch c7 _ _
    have c17 := c16.trans c7
    clear c7 f6 c16 hp6 dx6 ho dO
    -- 0
    refine ⟨.int cs, rfl, rfl, _, rfl, iteD (fun _ => ?_) (fun _ => ?_)⟩
    · refine ⟨.ref p, rfl, .int (j : Int), rfl, _, rfl, slL hp7 f7 fun H8 p8 s8 n8 e8 => ?_⟩
      rw [cut_to] at e8
      refine ⟨.ref p, rfl, .int (j : Int), rfl, _, 1, rfl, rfl, _, rfl, ?_⟩
      dsimp only [tNoPart]
      refine (slL (s8 _ _ hp7) (f7.same s8) fun H9 p9 s9 n9 e9 => ?_)
      rw [show ((j : Nat) : Int) + 1 = ((j + 1 : Nat) : Int) by omega, cut_from] at e9
      refine ctL (s9 _ _ e8) e9 ((f7.same s8).same s9) (by rw [List.length_take, List.length_drop]; omega) fun Hz pz sz nz ez => ?_
      have sA := (s8.trans s9).trans sz
      exact hq Hz _ (.list (ds.take j ++ ds.drop (j + 1))) (c17.trans (.of_same sA)) (f7.same sA) (.lst nz ez (((dx7.take j).app (dx7.drop (j + 1))).same sA)) (tz_lst (it2_app (it2_take hit) (it2_drop hit)) (by simp only [List.length_append, List.length_take, List.length_drop]; omega))
    refine ⟨.int cs, rfl, rfl, _, rfl, iteD (fun _ => ?_) (fun _ => ?_)⟩
    · refine ⟨.ref p, rfl, .int (j : Int), rfl, _, rfl, slL hp7 f7 fun H8 p8 s8 n8 e8 => ?_⟩
      rw [cut_to] at e8
      refine ⟨.ref f, rfl, .ref o, rfl, f, o, _, rfl, nof, SqL.of (s8 _ _ ho7), by omega, by omega, f7.same s8, fun H9 jj v9 hv9 c9 f9 => ?_⟩
      obtain ⟨d9, hd9, dv9⟩ := ((dO7.same s8).ch c9 _ _).at hv9
      have it9 := itO _ (List.mem_of_getElem? hd9)
      have c19 := (c17.trans (.of_same s8)).trans c9
      have e89 := c9 _ _ n8 e8
      have hp9 := c9 _ _ npf (s8 _ _ hp7)
      have dx9 := (dx7.same s8).ch c9 _ _
      refine ⟨show 1 ≤ sizeLine by decide, fun t5 nt5 => ?_⟩
      have st5 := same_new nt5 (o := .lst [v9])
      have lt : (xs.take j).length ≤ 20 := by rw [List.length_take]; omega
      have le : (xs.drop j).length ≤ 20 := by rw [List.length_drop]; omega
      refine ctL (st5 _ _ e89) upd_same (f9.same st5) (by simp only [List.length_singleton]; omega) fun Ha pa sa na ea => ?_
      refine ⟨.ref p, rfl, .int (j : Int), rfl, _, rfl, ?_⟩
      dsimp only [tNoPart]
      refine (slL (sa _ _ (st5 _ _ hp9)) ((f9.same st5).same sa) fun Hb pb sb nb eb => ?_)
      rw [cut_from] at eb
      refine ctL (sb _ _ ea) eb (((f9.same st5).same sa).same sb) (by rw [List.length_append, List.length_singleton]; omega) fun Hc pc sc nc ec => ?_
      have sA := ((st5.trans sa).trans sb).trans sc
      exact hq Hc _ (.list ((ds.take j ++ [d9]) ++ ds.drop j)) (c19.trans (.of_same sA)) (f9.same sA) (.lst nc ec ((((dx9.take j).app (.cons dv9 .nil)).app (dx9.drop j)).same sA))
        (tz_lst (it2_app (it2_app (it2_take hit) (fun d m => by rw [List.mem_singleton.mp m]; exact it9)) (it2_drop hit)) (by simp only [List.length_append, List.length_take, List.length_drop, List.length_singleton]; omega))
    refine ⟨.int cs, rfl, rfl, _, rfl, iteD (fun _ => ?_) (fun _ => ?_)⟩
    · refine ⟨.ref p, rfl, .int (j : Int), rfl, _, rfl, slL hp7 f7 fun H8 p8 s8 n8 e8 => ?_⟩
      rw [cut_to] at e8
      refine ⟨.ref f, rfl, .ref o, rfl, f, o, _, rfl, nof, SqL.of (s8 _ _ ho7), by omega, by omega, f7.same s8, fun H9 jj v9 hv9 c9 f9 => ?_⟩
      obtain ⟨d9, hd9, dv9⟩ := ((dO7.same s8).ch c9 _ _).at hv9
      have it9 := itO _ (List.mem_of_getElem? hd9)
      have c19 := (c17.trans (.of_same s8)).trans c9
      have e89 := c9 _ _ n8 e8
      have hp9 := c9 _ _ npf (s8 _ _ hp7)
      have dx9 := (dx7.same s8).ch c9 _ _
      refine ⟨show 1 ≤ sizeLine by decide, fun t5 nt5 => ?_⟩
      have st5 := same_new nt5 (o := .lst [v9])
      have lt : (xs.take j).length ≤ 20 := by rw [List.length_take]; omega
      have le : (xs.drop (j + 1)).length ≤ 20 := by rw [List.length_drop]; omega
      refine ctL (st5 _ _ e89) upd_same (f9.same st5) (by simp only [List.length_singleton]; omega) fun Ha pa sa na ea => ?_
      refine ⟨.ref p, rfl, .int (j : Int), rfl, _, 1, rfl, rfl, _, rfl, ?_⟩
      dsimp only [tNoPart]
      refine (slL (sa _ _ (st5 _ _ hp9)) ((f9.same st5).same sa) fun Hb pb sb nb eb => ?_)
      rw [show ((j : Nat) : Int) + 1 = ((j + 1 : Nat) : Int) by omega, cut_from] at eb
      refine ctL (sb _ _ ea) eb (((f9.same st5).same sa).same sb) (by rw [List.length_append, List.length_singleton]; omega) fun Hc pc sc nc ec => ?_
      have sA := ((st5.trans sa).trans sb).trans sc
      exact hq Hc _ (.list ((ds.take j ++ [d9]) ++ ds.drop (j + 1))) (c19.trans (.of_same sA)) (f9.same sA) (.lst nc ec ((((dx9.take j).app (.cons dv9 .nil)).app (dx9.drop (j + 1))).same sA))
        (tz_lst (it2_app (it2_app (it2_take hit) (fun d m => by rw [List.mem_singleton.mp m]; exact it9)) (it2_drop hit)) (by simp only [List.length_append, List.length_take, List.length_drop, List.length_singleton]; omega))
    refine ⟨.int cs, rfl, rfl, _, rfl, iteD (fun _ => ?_) (fun _ => ?_)⟩
    · refine ⟨.ref p, rfl, 1, rfl, _, rfl, rfl, p, xs, rfl, SqL.of hp7, fun u nu => ?_⟩
      have su := same_new nu (o := .lst xs.reverse)
      exact hq _ _ (.list ds.reverse) (c17.trans (.of_same su)) (f7.same su) (.lst (f7.ne nu) upd_same (dx7.rev.same su)) (tz_lst (fun d m => hit d (List.mem_reverse.mp m)) (by rw [List.length_reverse]; omega))
    refine ⟨.int cs, rfl, rfl, _, rfl, iteD (fun _ => ?_) (fun _ => ?_)⟩
    · refine ⟨.ref f, rfl, .ref p, rfl, p, xs, rfl, .inl ⟨SqL.of hp7, fun t1 nt1 => fun dd ndd => ⟨.ref p, rfl, show 1 ≤ sizeLine by decide, fun l1 nl1 => ?_⟩⟩⟩
      have u1 := same_new nt1 (o := .tup xs)
      have u2 := same_new ndd (o := .dT [])
      have u3 := same_new nl1 (o := .lst [.ref p])
      have uA := (u1.trans u2).trans u3
      have k1 := u3 _ _ (u2 _ _ (upd_same (H := H7) (a := t1) (o := .tup xs)))
      have k2 := u3 _ _ (upd_same (H := upd H7 t1 (.tup xs)) (a := dd) (o := .dT []))
      have k3 := upd_same (H := upd (upd H7 t1 (.tup xs)) dd (.dT [])) (a := l1) (o := .lst [.ref p])
      have m1 := f7.ne nt1
      have m2 := (f7.same u1).ne ndd
      have m3 := ((f7.same u1).same u2).ne nl1
      have f8 := f7.same uA
      have c18 := c17.trans (.of_same uA)
      have hp8 := uA _ _ hp7
      have dx8 := dx7.same uA
      generalize upd (upd (upd H7 t1 (.tup xs)) dd (.dT [])) l1 (.lst [.ref p]) = H8 at k1 k2 k3 f8 c18 hp8 dx8 ⊢
      refine ⟨show 6 ≤ sizeLine by decide, fun ll nll => ?_⟩
      have u4 := same_new nll (o := .lst [.ref t1, .non, .ref dd, .str "", .int 7, .ref l1])
      have dA : DvAll f (upd H8 ll (.lst [.ref t1, .non, .ref dd, .str "", .int 7, .ref l1])) [.ref t1, .non, .ref dd, .str "", .int 7, .ref l1] [.tuple ds, .none, .dict [], .str "", .int 7, .list [.list ds]] :=
        .cons (.tup m1 (u4 _ _ k1) (dx8.same u4)) (.cons .non (.cons (.dic m2 (u4 _ _ k2)) (.cons (.str _) (.cons (.int _) (.cons (.lst m3 (u4 _ _ k3) (.cons (.lst npf (u4 _ _ hp8) (dx8.same u4)) .nil)) .nil)))))
      have tA : ∀ d ∈ ([.tuple ds, .none, .dict [], .str "", .int 7, .list [.list ds]] : List PyData), Tz d := fun d m => by
        simp only [List.mem_cons, List.not_mem_nil, or_false] at m
        rcases m with rfl | rfl | rfl | rfl | rfl | rfl
        · exact tz_tup hit (by omega)
        · exact tz_it (it2_of (by decide +kernel))
        · exact tz_dict
        · exact tz_it (it2_of (by decide +kernel))
        · exact tz_it (it2_of (by decide +kernel))
        · exact tz_one hit (by omega)
      have f9 := f8.same u4
      have c19 := c18.trans (.of_same u4)
      have nllf := f8.ne nll
      have ell := upd_same (H := H8) (a := ll) (o := .lst [.ref t1, .non, .ref dd, .str "", .int 7, .ref l1])
      refine ⟨f, ll, _, rfl, nllf, SqL.of ell, by show 0 < 6; decide, by show 6 ≤ 1000; decide, f9, fun Hz k v hv cz fz => ?_⟩
      obtain ⟨d, hd, dv⟩ := (dA.ch cz _ _).at hv
      exact hq Hz v d (c19.trans cz) fz dv (tA d (List.mem_of_getElem? hd))
    refine ⟨.int cs, rfl, rfl, _, rfl, iteD (fun _ => ?_) (fun _ => ?_)⟩
    · refine ⟨.ref p, rfl, p, rfl, ⟨xs, SqL.of hp7⟩, fun D nD => ?_⟩
      have nDf := f7.ne nD
      refine lc_it (walk_list (xs := xs)) (fun i Hz => Ch f H7 Hz ∧ FeedAt Hz f ∧ ∃ ms : List Int, ms.length = i ∧ (∀ x ∈ ms, 0 ≤ x ∧ x ≤ size) ∧ Hz D = some (.lst (ms.map V.int))) ⟨Ch.new nD, f7.upd nDf, [], rfl, fun _ z => (List.not_mem_nil z).elim, upd_same⟩ (fun i Hz _ z => SqL.of (z.1 _ _ npf hp7)) ?_ ?_
      · rintro i x Hz Hy hi ⟨cz, fz, ms, h1, h2, h3⟩ ⟨rfl, hx⟩
        refine ⟨rfl, iteT (B := True) ⟨.ref f, rfl, .int size, rfl, size, 1, rfl, rfl, f, _, rfl, by omega, by omega, fz, fun Hw r cw fw r0 r1 => ?_⟩⟩
        refine ⟨_, cw _ _ nDf h3, ?_, Ch.again nD (cz.trans cw), fw.upd nDf, ms ++ [r], by rw [List.length_append, List.length_singleton, h1], fun x hx => ?_, ?_⟩
        · rw [List.length_map, h1]
          exact small3000 (by omega)
        · rcases List.mem_append.mp hx with z | z
          · exact h2 x z
          · rw [List.mem_singleton.mp z]
            omega
        · rw [upd_same, List.map_append]
          rfl
      · rintro Hz ⟨cz, fz, ms, h1, h2, h3⟩
        exact hq Hz _ (.list (dInts ms)) (c17.trans cz) fz (.lst nDf h3 (dv_ints ms)) (tz_lst (fun d hd => by
          obtain ⟨z, hz, rfl⟩ := List.mem_map.mp hd
          exact it2_int (by have := h2 z hz; omega)) (by unfold dInts; rw [List.length_map]; omega))
    exact ⟨.ref p, rfl, hq H7 (.ref p) (.list ds) c17 f7 (.lst npf hp7 dx7) (tz_lst hit (by omega))⟩
end
end P5M

set_option pp.maxSteps 900
/-! k56's law -/
namespace P5L
open PySem PySem.Spec PyProof.Rows L2 KA KD PH PM RM RN K55 K55b K55d DV P5P P5N P5I P5K P5M
abbrev sLaw : Stmt := topS 28
theorem scLaw : FnScope ["script", "index", "feed", "second", "first", "far", "value", "turn", "other", "before", "found", "low", "high"] ["script"] (defScope P5L.sLaw) := ⟨rfl, rfl, rfl, by decide +kernel, rfl, by decide +kernel, by decide +kernel⟩
structure Txt (K : PySem.W.Frag) (mg : Str → Option Value) (fNU fCO fPIN fPT fBP fNM fMA fIM fFE fTA fPI fLR fHS fSC fLM fLO : Addr) (dNU dCO dPIN dPT dBP dNM dMA dIM dFE dTA dPI dLR dHS dSC dLM dLO : FuncData) : Prop where
  FNU : Fun K "is_number" "is_number" sNu fNU dNU
  gNU : mg "is_number" = some (.ref fNU)
  kNU : PySem.W.keepIn K (.ref fNU) = true
  bNU : Binds K dNU ["value"] []
  FCO : Fun K "contains" "contains" sCont fCO dCO
  gCO : mg "contains" = some (.ref fCO)
  kCO : PySem.W.keepIn K (.ref fCO) = true
  bCO : Binds K dCO ["outer", "inner"] []
  FPIN : Fun K "place_in" "place_in" BO.sPI fPIN dPIN
  gPIN : mg "place_in" = some (.ref fPIN)
  kPIN : PySem.W.keepIn K (.ref fPIN) = true
  bPIN : Binds K dPIN ["row", "value"] []
  FPT : Fun K "put_in" "put_in" BO.sPT fPT dPT
  gPT : mg "put_in" = some (.ref fPT)
  kPT : PySem.W.keepIn K (.ref fPT) = true
  bPT : Binds K dPT ["row", "value"] []
  FBP : Fun K "_best_places" "_best_places" sBP fBP dBP
  gBP : mg "_best_places" = some (.ref fBP)
  kBP : PySem.W.keepIn K (.ref fBP) = true
  bBP : Binds K dBP ["first", "second"] []
  FNM : Fun K "never_more" "never_more" sNM fNM dNM
  gNM : mg "never_more" = some (.ref fNM)
  kNM : PySem.W.keepIn K (.ref fNM) = true
  bNM : Binds K dNM ["first", "second"] []
  FMA : Fun K "matching" "matching" sMA fMA dMA
  gMA : mg "matching" = some (.ref fMA)
  kMA : PySem.W.keepIn K (.ref fMA) = true
  bMA : Binds K dMA ["first", "second"] []
  FIM : Fun K "is_matching" "is_matching" sIM fIM dIM
  gIM : mg "is_matching" = some (.ref fIM)
  kIM : PySem.W.keepIn K (.ref fIM) = true
  bIM : Binds K dIM ["first", "second", "value"] []
  FFE : Fun K "_law_feed" "_law_feed" sFeed fFE dFE
  gFE : mg "_law_feed" = some (.ref fFE)
  kFE : PySem.W.keepIn K (.ref fFE) = true
  bFE : Binds K dFE ["script", "index"] []
  FTA : Fun K "_law_take" "_law_take" sTake fTA dTA
  gTA : mg "_law_take" = some (.ref fTA)
  kTA : PySem.W.keepIn K (.ref fTA) = true
  bTA : Binds K dTA ["feed", "size"] []
  FPI : Fun K "_law_pick" "_law_pick" sPick fPI dPI
  gPI : mg "_law_pick" = some (.ref fPI)
  kPI : PySem.W.keepIn K (.ref fPI) = true
  bPI : Binds K dPI ["feed", "options"] []
  FLR : Fun K "_law_ranges" "_law_ranges" sLR fLR dLR
  gLR : mg "_law_ranges" = some (.ref fLR)
  kLR : PySem.W.keepIn K (.ref fLR) = true
  bLR : Binds K dLR ["feed", "most", "top"] []
  FHS : Fun K "_law_has" "_law_has" sHs fHS dHS
  gHS : mg "_law_has" = some (.ref fHS)
  kHS : PySem.W.keepIn K (.ref fHS) = true
  bHS : Binds K dHS ["outer", "inner"] []
  FSC : Fun K "_law_scaled" "_law_scaled" sSC fSC dSC
  gSC : mg "_law_scaled" = some (.ref fSC)
  kSC : PySem.W.keepIn K (.ref fSC) = true
  bSC : Binds K dSC ["ranges", "far", "step"] []
  FLM : Fun K "_law_is_matching" "_law_is_matching" sLM fLM dLM
  gLM : mg "_law_is_matching" = some (.ref fLM)
  kLM : PySem.W.keepIn K (.ref fLM) = true
  bLM : Binds K dLM ["first", "second", "value"] []
  FLO : Fun K "_law_other" "_law_other" sLO fLO dLO
  gLO : mg "_law_other" = some (.ref fLO)
  kLO : PySem.W.keepIn K (.ref fLO) = true
  bLO : Binds K dLO ["feed", "value", "size"] []
  len : mg "len" = none
  max : mg "max" = none
  min : mg "min" = none
  abs : mg "abs" = none
  range : mg "range" = none
  sorted : mg "sorted" = none
  tuple : mg "tuple" = none
  list : mg "list" = none
  int : mg "int" = none
  isinstance : mg "isinstance" = none
  bool : mg "bool" = none
  enumerate : mg "enumerate" = none
  all : mg "all" = none
  repr : mg "repr" = none
  set : mg "set" = none
  zip : mg "zip" = none
theorem join1 {R : Hp → V → Prop} {Pj : Hp → V → Prop} {A B : Prop} {c : Bool} (h1 : c = true → (∀ H v, Pj H v → R H v) → A) (h2 : c = false → (∀ H v, Pj H v → R H v) → B) (k : ∀ H v, Pj H v → R H v) : if c = true then A else B := by
  cases c with
  | true => exact iteT (h1 rfl k)
  | false => exact iteF (h2 rfl k)
section
variable {P : Program} {w : World} {K : PySem.W.Frag} {mg : Str → Option Value} {base : Heap} {fNU fCO fPIN fPT fBP fNM fMA fIM fFE fTA fPI fLR fHS fSC fLM fLO : Addr} {dNU dCO dPIN dPT dBP dNM dMA dIM dFE dTA dPI dLR dHS dSC dLM dLO : FuncData}
def spLaw (K : PySem.W.Frag) : Sp := fun vs H Q _ => ∃ (a : Addr) (ns : List Int), vs = [.ref a] ∧ SqL K H a (ns.map V.int) ∧ ns.length ≤ 63 ∧ ∀ H', Q (.bl true) H'
theorem len_law {K : PySem.W.Frag} : ∀ vs H Q E, (spLaw K) vs H Q E → vs.length = (["script"] : List Str).length := fun vs H Q E h => by
  obtain ⟨a, ns, rfl, _⟩ := h
  rfl
theorem ok_law {f0 : Addr} {fd : FuncData} (F : Fun K "law" "law" P5L.sLaw f0 fd) (T : Txt K mg fNU fCO fPIN fPT fBP fNM fMA fIM fFE fTA fPI fLR fHS fSC fLM fLO dNU dCO dPIN dPT dBP dNM dMA dIM dFE dTA dPI dLR dHS dSC dLM dLO) : KW.Kept P w K mg base 5 f0 fd ["script"] (spLaw K) := by
  have GNU : FnOk P w K mg base CX0 1 fNU dNU ["value"] spNu := ok_nu T.FNU T.isinstance T.int T.bool
  have GCO : FnOk P w K mg base CX0 1 fCO dCO ["outer", "inner"] (spCont K) := ok_Cont T.FCO
  have GPIN : FnOk P w K mg base CX0 1 fPIN dPIN ["row", "value"] BO.spPI := BO.ok_PI T.FPIN T.len
  have GPT : FnOk P w K mg base CX0 2 fPT dPT ["row", "value"] BO.spPT := BO.ok_PT T.FPT GPIN T.gPIN T.kPIN T.bPIN
  have GBP : FnOk P w K mg base CX0 3 fBP dBP ["first", "second"] (spBP K) := ok_BP T.FBP (GPIN.mono (by decide)) T.gPIN T.kPIN T.bPIN GPT T.gPT T.kPT T.bPT T.len T.sorted T.enumerate
  have GNM : FnOk P w K mg base CX0 4 fNM dNM ["first", "second"] (spNM K) := ok_NM T.FNM GBP T.gBP T.kBP T.bBP
  have GMA : FnOk P w K mg base CX0 4 fMA dMA ["first", "second"] (spMA K) := ok_MA T.FMA GBP T.gBP T.kBP T.bBP
  have GIM : FnOk P w K mg base CX0 2 fIM dIM ["first", "second", "value"] (spIM K) := ok_IM T.FIM GNU T.gNU T.kNU T.bNU GCO T.gCO T.kCO T.bCO T.isinstance T.list T.len T.all T.set T.zip
  have GFE : FnOk P w K mg base CX0 1 fFE dFE ["script", "index"] (spFeed K) := ok_feed T.FFE T.len T.max T.abs
  have GTA : FnOk P w K mg base CX0 1 fTA dTA ["feed", "size"] spTake := ok_take T.FTA
  have GPI : FnOk P w K mg base CX0 2 fPI dPI ["feed", "options"] (spPick K) := ok_pick T.FPI T.FTA T.gTA T.bTA T.len
  have GLR : FnOk P w K mg base CX0 2 fLR dLR ["feed", "most", "top"] spLR := ok_LR T.FLR GTA T.gTA T.kTA T.bTA T.range T.int
  have GHS : FnOk P w K mg base CX0 1 fHS dHS ["outer", "inner"] (spCont K) := ok_hs T.FHS
  have GSC : FnOk P w K mg base CX0 1 fSC dSC ["ranges", "far", "step"] spSC := ok_SC T.FSC
  have GLM : FnOk P w K mg base CX0 2 fLM dLM ["first", "second", "value"] (spLM K) := ok_LM T.FLM GHS T.gHS T.kHS T.bHS T.isinstance T.list T.len T.int T.bool T.enumerate
  have GLO : FnOk P w K mg base CX0 3 fLO dLO ["feed", "value", "size"] spLO := ok_LO T.FLO GTA T.gTA T.kTA T.bTA GPI T.gPI T.kPI T.bPI T.list T.len T.tuple
  have GNU := GNU.mono (show 1 ≤ 4 by decide)
  have GCO := GCO.mono (show 1 ≤ 4 by decide)
  have GPIN := GPIN.mono (show 1 ≤ 4 by decide)
  have GPT := GPT.mono (show 2 ≤ 4 by decide)
  have GBP := GBP.mono (show 3 ≤ 4 by decide)
  have GNM := GNM.mono (show 4 ≤ 4 by decide)
  have GMA := GMA.mono (show 4 ≤ 4 by decide)
  have GIM := GIM.mono (show 2 ≤ 4 by decide)
  have GFE := GFE.mono (show 1 ≤ 4 by decide)
  have GTA := GTA.mono (show 1 ≤ 4 by decide)
  have GPI := GPI.mono (show 2 ≤ 4 by decide)
  have GLR := GLR.mono (show 2 ≤ 4 by decide)
  have GHS := GHS.mono (show 1 ≤ 4 by decide)
  have GSC := GSC.mono (show 1 ≤ 4 by decide)
  have GLM := GLM.mono (show 2 ≤ 4 by decide)
  have GLO := GLO.mono (show 3 ≤ 4 by decide)
  refine KW.kept_of F P5L.scLaw len_law (fun cdv A outer s H vs Q E hgA hr h => ?_)
  · obtain ⟨a, ns, rfl, hS, hlen, q⟩ := h
    have hg : (A.deeper (envOfC "law" (defScope P5L.sLaw) s.heap.objs.size f0 cdv)).guards = some [] := hgA
    have hu : (A.deeper (envOfC "law" (defScope P5L.sLaw) s.heap.objs.size f0 cdv)).units + 100 < cLine := by have := hr.un; omega
    refine ⟨_, (pss_cons (ps_for PassesOwn.never rfl (pi_range1 rfl T.range (pa_cons (pe_callB (call_max2 rfl) (by rfl) T.max (by decide +kernel) (pa_cons pe_int (pa_cons (pe_callB (call_min2 rfl) (by rfl) T.min (by decide +kernel) (pa_cons pe_int (pa_cons (pe_callB call_len_seq (by rfl) T.len PySem.boot_len (pa_cons (pv 0) pa_nil)) pa_nil))) pa_nil))) pa_nil)) (pg_name (i := 1) P5L.scLaw.nd rfl (.inl rfl))
      (pss_cons (ps_set (i := 2) P5L.scLaw.nd rfl (.inl rfl) (pe_call GFE hr (by rfl) T.gFE T.kFE T.bFE .nil pass0 (pa_cons (pv 0) (pa_cons (pv 1) pa_nil))))
      (pss_cons (ps_set (i := 3) P5L.scLaw.nd rfl (.inl rfl) (pe_op op_cat (pe_call GLR hr (by rfl) T.gLR T.kLR T.bLR .nil pass0 (pa_cons (pv 2) (pa_cons pe_int (pa_cons pe_int pa_nil)))) (pe_op op_rep (pe_lst (pa_cons (pe_tup (pa_cons pe_int (pa_cons pe_int pa_nil))) pa_nil)) (pe_call GTA hr (by rfl) T.gTA T.kTA T.bTA .nil pass0 (pa_cons (pv 2) (pa_cons pe_int pa_nil))))))
      (pss_cons (ps_set (i := 4) P5L.scLaw.nd rfl (.inl rfl) (pe_slice sl_list (pe_lc (own := [("low", 11), ("high", 12)]) (g := gTup K 2 (gCons (gName 11) (gCons (gName 12) gNil))) (tt := tYes)  rfl P5L.scLaw.nd (pi_list (pv 3)) (blkOk_by (own := [("low", 11), ("high", 12)]) (N := ["script", "index", "feed", "second", "first", "far", "value", "turn", "other", "before", "found", "low", "high"]) (sc := defScope P5L.sLaw) (by decide +kernel)) (fun _ _ _ _ _ => (pg_tup rfl (pgs_cons (pg_name (i := 11) P5L.scLaw.nd rfl (Or.inl rfl) (Or.inr rfl)) (pgs_cons (pg_name (i := 12) P5L.scLaw.nd rfl (Or.inl rfl) (Or.inr rfl)) pgs_nil)))) (fun _ _ _ _ _ => pts_nil) (fun _ _ _ _ _ => (pe_tup (pa_cons (pv 11) (pa_cons (pe_op op_add (pv 11) pe_int) pa_nil))))) po_none (po_some (pe_call GTA hr (by rfl) T.gTA T.kTA T.bTA .nil pass0 (pa_cons (pv 2) (pa_cons pe_int pa_nil))))))
      (pss_cons (ps_set (i := 5) P5L.scLaw.nd rfl (.inl rfl) (pe_call GPI hr (by rfl) T.gPI T.kPI T.bPI .nil pass0 (pa_cons (pv 2) (pa_cons (pe_lst (pa_cons pe_int (pa_cons (pe_un un_neg pe_int) (pa_cons (pe_un un_neg pe_int) (pa_cons (pe_op op_sub (pe_op op_pow pe_int pe_int) pe_int) pa_nil))))) pa_nil))))
      (pss_cons (ps_par (i := 4) (j := 3) (by rfl) P5L.scLaw.nd rfl rfl (by decide) rfl rfl (pa_cons (pe_call GSC hr (by rfl) T.gSC T.kSC T.bSC .nil pass0 (pa_cons (pv 4) (pa_cons (pv 5) (pa_cons pe_int pa_nil)))) (pa_cons (pe_call GSC hr (by rfl) T.gSC T.kSC T.bSC .nil pass0 (pa_cons (pv 3) (pa_cons (pv 5) (pa_cons pe_int pa_nil)))) pa_nil)) (by rfl))
      (pss_cons (ps_set (i := 6) P5L.scLaw.nd rfl (.inl rfl) (pe_ifExp (pt_val (pe_call GNM hr (by rfl) T.gNM T.kNM T.bNM .nil pass0 (pa_cons (pv 4) (pa_cons (pv 3) pa_nil)))) (pe_call GMA hr (by rfl) T.gMA T.kMA T.bMA .nil pass0 (pa_cons (pv 4) (pa_cons (pv 3) pa_nil))) (pe_op op_rep (pe_lst (pa_cons pe_int pa_nil)) (pe_callB call_len_seq (by rfl) T.len PySem.boot_len (pa_cons (pv 4) pa_nil)))))
      (pss_one (ps_for PassesOwn.never rfl (pi_range1 rfl T.range (pa_cons pe_int pa_nil)) (pg_name (i := 7) P5L.scLaw.nd rfl (.inl rfl))
      (pss_cons (ps_set (i := 8) P5L.scLaw.nd rfl (.inl rfl) (pe_ifExp (pt_cmpR op_gt (pv 7) pe_int (nomark _)) (pe_call GLO hr (by rfl) T.gLO T.kLO T.bLO .nil pass0 (pa_cons (pv 2) (pa_cons (pv 6) (pa_cons (pe_callB call_len_seq (by rfl) T.len PySem.boot_len (pa_cons (pv 3) pa_nil)) pa_nil)))) (pv 6)))
      (pss_cons (ps_par (i := 9) (j := 10) (by rfl) P5L.scLaw.nd rfl rfl (by decide) rfl rfl (pa_cons (pe_callB (cr_reprZ hg hu) (by rfl) T.repr (by decide +kernel) (pa_cons (pv 8) pa_nil)) (pa_cons (pe_call GIM hr (by rfl) T.gIM T.kIM T.bIM .nil pass0 (pa_cons (pe_callTy call_tuple_of (by rfl) T.tuple (by decide +kernel) (pa_cons (pv 4) pa_nil)) (pa_cons (pe_callTy call_tuple_of (by rfl) T.tuple (by decide +kernel) (pa_cons (pv 3) pa_nil)) (pa_cons (pv 8) pa_nil)))) pa_nil)) (by rfl))
      (pss_cons (ps_if (pt_cmpR op_ne (pe_call GIM hr (by rfl) T.gIM T.kIM T.bIM .nil pass0 (pa_cons (pv 4) (pa_cons (pv 3) (pa_cons (pv 8) pa_nil)))) (pv 10) (nomark _)) (pss_one (ps_ret pe_bl)) pss_nil)
      (pss_one (ps_if (PW.pt (pw_or (pt_cmpR op_ne (pe_callB cr_reprB (by rfl) T.repr (by decide +kernel) (pa_cons (pv 10) pa_nil)) (pe_callB cr_reprB (by rfl) T.repr (by decide +kernel) (pa_cons (pe_call GLM hr (by rfl) T.gLM T.kLM T.bLM .nil pass0 (pa_cons (pv 4) (pa_cons (pv 3) (pa_cons (pv 8) pa_nil)))) pa_nil)) (nomark _)) (pw_or1 (pt_cmpR op_ne (pe_callB (cr_reprZ hg hu) (by rfl) T.repr (by decide +kernel) (pa_cons (pv 8) pa_nil)) (pv 9) (nomark _))))) (pss_one (ps_ret pe_bl)) pss_nil))))))))))))))
      (pss_one (ps_ret pe_bl))), ?_⟩
    have l1s : 1 ≤ sizeLine := by decide
    have l2s : 2 ≤ sizeLine := by decide
    have l4s : 4 ≤ sizeLine := by decide
    refine ⟨.ref a, rfl, a, ns.map V.int, rfl, .inl hS, 4, ((ns.map V.int).length : Int), rfl, 1, _, rfl, _, rfl, ?_⟩
    generalize hm : (if (if ((ns.map V.int).length : Int) < 4 then ((ns.map V.int).length : Int) else 4) > 1 then (if ((ns.map V.int).length : Int) < 4 then ((ns.map V.int).length : Int) else 4) else 1) = m
    have m0 : 0 ≤ m ∧ m ≤ 4 := by subst hm; split <;> split <;> omega
    refine ⟨by omega, by omega, for_range (lo := 0) (n := m.toNat) (fun i σ H' => Same H H' ∧ ∃ r1 r2 r3 r4 r5 r6 r7 r8 r9 r10 r11 r12 : Option V, σ = [some (.ref a), r1, r2, r3, r4, r5, r6, r7, r8, r9, r10, r11, r12]) ⟨Same.refl H, _, _, _, _, _, _, _, _, _, _, _, _, rfl⟩ ?_ (fun σ H1 _ => q _)⟩
    rintro i σ H' hi ⟨sm, r1, r2, r3, r4, r5, r6, r7, r8, r9, r10, r11, r12, rfl⟩
    refine ⟨.ref a, rfl, .int (0 + (i : Int)), rfl, a, ns, 0 + (i : Int), rfl, sm.seq hS, by omega, by omega, fun H1 f s1 nf fe => ?_⟩
    have hf0 : H f = none := sm.free nf
    have sm1 := sm.trans s1
    clear sm s1 nf
    refine ⟨.ref f, rfl, f, 6, 5, rfl, by decide, by decide, by decide, by decide, fe, fun H2 p2 xs2 rs2 c2 fe2 np2 e2 pa2 lr2 b2 => ?_⟩
    have lx2 := pa2.length
    have n2f := fe.ne np2
    have sm2 := c2.old hf0 sm1
    clear c2 fe np2 sm1
    refine ⟨l2s, fun t nt => ⟨l1s, fun o no => ?_⟩⟩
    have st := same_new nt (o := .tup [.int 0, .int 5])
    have so := same_new no (o := .lst [.ref t])
    have sA := st.trans so
    have ht := so _ _ (upd_same (H := H2) (a := t) (o := .tup [.int 0, .int 5]))
    have ho := upd_same (H := upd H2 t (.tup [.int 0, .int 5])) (a := o) (o := .lst [.ref t])
    have nof := (fe2.same st).ne no
    have fe3 := fe2.same sA
    have sm3 := sm2.trans sA
    have e3 := sA _ _ e2
    have pa3 := pa2.same sA
    generalize upd (upd H2 t (.tup [.int 0, .int 5])) o (.lst [.ref t]) = H3 at ht ho fe3 sm3 e3 pa3 ⊢
    clear sA st so nt no fe2 sm2 e2 pa2
    refine ⟨.ref f, rfl, f, 3, rfl, by decide, by decide, fe3, fun H4 w3 c4 fe4 w30 w31 => ?_⟩
    have ntf : t ≠ f := fun z => by obtain ⟨_, _, _, _, _, e⟩ := fe3; rw [z, e] at ht; cases ht
    refine ⟨o, w3, [.ref t], rfl, rfl, c4 _ _ nof ho, by omega, by omega, by show 1 * _ ≤ sizeLine; exact Nat.le_trans (show _ ≤ 3000 by omega) (by decide), fun u nu => ?_⟩
    have ef : (List.replicate w3.toNat [V.ref t]).flatten = List.replicate w3.toNat (.ref t) := by
      generalize w3.toNat = z
      induction z with
      | zero => rfl
      | succ z ih => rw [List.replicate_succ, List.flatten_cons, ih]; rfl
    rw [ef]
    have su := same_new nu (o := .lst (List.replicate w3.toNat (.ref t)))
    have hu2 := upd_same (H := H4) (a := u) (o := .lst (List.replicate w3.toNat (.ref t)))
    have e5 := su _ _ (c4 _ _ n2f e3)
    have pa5 := (PairsAt.ch c4 fe3 pa3).same su
    have ht5 := su _ _ (c4 _ _ ntf ht)
    have fe5 := fe4.same su
    have sm5 := (c4.old hf0 sm3).trans su
    generalize upd H4 u (.lst (List.replicate w3.toNat (.ref t))) = H5 at hu2 e5 pa5 ht5 fe5 sm5 ⊢
    clear su nu c4 fe4 fe3 sm3 e3 pa3 ht ho ef
    refine ⟨p2, u, _, _, rfl, rfl, e5, hu2, Nat.le_of_lt (Nat.lt_of_le_of_lt (show _ ≤ 3000 by rw [List.length_replicate]; omega) (by decide)), fun b nb => ?_⟩
    have sb := same_new nb (o := .lst (xs2 ++ List.replicate w3.toNat (.ref t)))
    have hB := upd_same (H := H5) (a := b) (o := .lst (xs2 ++ List.replicate w3.toNat (.ref t)))
    have pb := (pa5.append (PairsAt.rep (r := (0, 5)) ht5 w3.toNat)).same sb
    have fe6 := fe5.same sb
    have sm6 := sm5.trans sb
    have nbf := fe5.ne nb
    have bs : ∀ r ∈ rs2 ++ List.replicate w3.toNat ((0, 5) : Int × Int), 0 ≤ r.1 ∧ r.1 < r.2 ∧ r.2 ≤ 5 := fun r hr => by
      rcases List.mem_append.mp hr with z | z
      · exact b2 r z
      · rw [List.eq_of_mem_replicate z]
        decide
    have ls : (rs2 ++ List.replicate w3.toNat ((0, 5) : Int × Int)).length ≤ 9 := by rw [List.length_append, List.length_replicate]; omega
    generalize upd H5 b (.lst (xs2 ++ List.replicate w3.toNat (.ref t))) = H6 at hB pb fe6 sm6 ⊢
    generalize xs2 ++ List.replicate w3.toNat (.ref t) = ys at hB pb
    generalize rs2 ++ List.replicate w3.toNat ((0, 5) : Int × Int) = ss at bs ls pb
    clear sb nb sm5 fe5 ht5 pa5 e5 hu2 b2 lr2 lx2 n2f nof ntf w30 w31
    have ly := pb.length
    -- first
    refine ⟨.ref b, rfl, b, rfl, ⟨ys, SqL.of hB⟩, fun D nD => ?_⟩
    refine lc_it (walk_list (xs := ys)) (fun i Hz => Same H6 Hz ∧ ∃ acc : List V, Hz D = some (.lst acc) ∧ PairsAt Hz acc ((ss.take i).map fun r => (r.1, r.1 + 1))) ⟨same_new nD, [], upd_same, trivial⟩ (fun i Hz _ z => SqL.of (z.1 _ _ hB)) ?_ ?_
    · rintro i v Hz Hy hi ⟨sz, acc, eD, pd⟩ ⟨rfl, hx⟩
      obtain ⟨r, p, er, rfl, e2⟩ := pr_at pb hx
      have la2 := pd.length
      rw [List.length_map, List.length_take] at la2
      refine ⟨p, _, rfl, SqT.of (sz _ _ e2), rfl, .int r.1, [.int r.2], rfl, .int r.2, [], rfl, rfl, rfl, iteT (B := True) ?_⟩
      refine ⟨.int r.1, rfl, .int r.1, rfl, r.1, 1, rfl, rfl, l2s, fun q nq => ?_⟩
      have sq := same_new nq (o := .tup [.int r.1, .int (r.1 + 1)])
      have eD2 := sq _ _ eD
      refine ⟨acc, eD2, Nat.lt_of_le_of_lt (show acc.length ≤ 3000 by omega) (by decide), same_again nD (sz.trans sq), acc ++ [.ref q], upd_same, ?_⟩
      rw [List.take_add_one, er, Option.toList_some, List.map_append]
      exact PairsAt.put eD2 ((pd.same sq).append ⟨⟨q, rfl, upd_same⟩, trivial⟩)
    rintro H7 ⟨s7, acc, eD, pd⟩
    rw [ly, List.take_length] at pd
    have nDf := fe6.ne nD
    have fe7 := fe6.same s7
    have sm7 := sm6.trans s7
    have hB7 := s7 _ _ hB
    have pb7 := pb.same s7
    clear s7 nD fe6 sm6 hB pb
    refine ⟨.ref f, rfl, f, 6, rfl, by decide, by decide, fe7, fun H8 w8 c8 fe8 w80 w81 => ?_⟩
    obtain ⟨j8, rfl⟩ : ∃ j : Nat, w8 = (j : Int) := ⟨w8.toNat, by omega⟩
    refine ⟨_, rfl, D, acc, rfl, SqL.of (c8 _ _ nDf eD), fun b1 nb1 => ?_⟩
    rw [cut_to]
    have sp := same_new nb1 (o := .lst (acc.take j8))
    have hA := upd_same (H := H8) (a := b1) (o := .lst (acc.take j8))
    have pa := ((PairsAt.ch c8 fe7 pd).take j8).same sp
    have hB9 := sp _ _ (c8 _ _ nbf hB7)
    have pb9 := (PairsAt.ch c8 fe7 pb7).same sp
    have fe9 := fe8.same sp
    have sm9 := (c8.old hf0 sm7).trans sp
    have n1f := fe8.ne nb1
    have br : ∀ r ∈ (ss.map fun r => (r.1, r.1 + 1)).take j8, 0 ≤ r.1 ∧ r.1 < r.2 ∧ r.2 ≤ 5 := fun r hr => by
      obtain ⟨z, hz, rfl⟩ := List.mem_map.mp (List.mem_of_mem_take hr)
      have := bs z hz
      show 0 ≤ z.1 ∧ z.1 < z.1 + 1 ∧ z.1 + 1 ≤ 5
      omega
    have lr : ((ss.map fun r => (r.1, r.1 + 1)).take j8).length ≤ 9 := by rw [List.length_take, List.length_map]; omega
    generalize upd H8 b1 (.lst (acc.take j8)) = H9 at hA pa hB9 pb9 fe9 sm9 ⊢
    generalize acc.take j8 = xs at hA pa
    generalize (ss.map fun r => (r.1, r.1 + 1)).take j8 = rs at pa br lr
    clear sp nb1 c8 fe8 sm7 fe7 hB7 pb7 pd eD nDf
    -- far
    refine ⟨.ref f, rfl, 3, rfl, 50, rfl, 10, 9, rfl, rfl, ⟨by decide, by decide, by decide⟩, _, 60, rfl, rfl, l4s, fun l nl => ?_⟩
    have sl := same_new nl (o := .lst [.int 0, .int (-3), .int (-50), .int (10 ^ (9 : Int).toNat - 60)])
    refine ⟨f, l, _, rfl, fe9.ne nl, SqL.of upd_same, by show 0 < 4; decide, by show 4 ≤ 1000; decide, fe9.same sl, fun H10 k vv hk c10 fe10 => ?_⟩
    obtain ⟨far, rfl, b1', b2'⟩ : ∃ far, vv = V.int far ∧ -50 ≤ far ∧ far ≤ 1000000000 := by
      match k, hk with
      | 0, hk => exact ⟨_, (Option.some.inj hk).symm, by decide, by decide⟩
      | 1, hk => exact ⟨_, (Option.some.inj hk).symm, by decide, by decide⟩
      | 2, hk => exact ⟨_, (Option.some.inj hk).symm, by decide, by decide⟩
      | 3, hk => exact ⟨_, (Option.some.inj hk).symm, by decide, by decide⟩
      | n + 4, hk => simp at hk
    have sm10 := c10.old hf0 (sm9.trans sl)
    have hA10 := c10 _ _ n1f (sl _ _ hA)
    have hB10 := c10 _ _ nbf (sl _ _ hB9)
    have pa10 := PairsAt.ch c10 (fe9.same sl) (pa.same sl)
    have pb10 := PairsAt.ch c10 (fe9.same sl) (pb9.same sl)
    clear hk c10 nl sl fe9 sm9 hA hB9 pa pb9
    -- first, second
    refine ⟨.ref b1, rfl, .int far, rfl, b1, far, 1, xs, rs, rfl, hA10, pa10, by omega, fun r hr => by have := br r hr; omega, fun H11 q1 zs1 s11 nq1 eq1 pz1 => ?_⟩
    refine ⟨.ref b, rfl, .int far, rfl, b, far, 1, ys, ss, rfl, s11 _ _ hB10, pb10.same s11, by omega, fun r hr => by have := bs r hr; omega, fun H12 q2 zs2 s12 nq2 eq2 pz2 => ⟨.ref q1, .ref q2, rfl, ?_⟩⟩
    have fe12 := (fe10.same s11).same s12
    have sm12 := (sm10.trans s11).trans s12
    have nq1f : q1 ≠ f := fe10.ne nq1
    have nq2f : q2 ≠ f := (fe10.same s11).ne nq2
    have eq1 := s12 _ _ eq1
    have pz1 := pz1.same s12
    have lr' : (rs.map fun r => (r.1 * 1 + far, r.2 * 1 + far)).length ≤ 9 := by rw [List.length_map]; exact lr
    have ls' : (ss.map fun r => (r.1 * 1 + far, r.2 * 1 + far)).length ≤ 9 := by rw [List.length_map]; exact ls
    generalize (rs.map fun r => (r.1 * 1 + far, r.2 * 1 + far)) = R1 at pz1 lr'
    generalize (ss.map fun r => (r.1 * 1 + far, r.2 * 1 + far)) = R2 at pz2 ls'
    have lz1 := pz1.length
    have lz2 := pz2.length
    clear s11 s12 nq1 nq2 hA10 hB10 pa10 pb10 fe10 sm10 br bs lr ls ly
    -- value
    refine ⟨.ref q1, rfl, .ref q2, rfl, q1, q2, zs1, zs2, R1, R2, rfl, .inl (SqL.of eq1), pz1, .inl (SqL.of eq2), pz2, by omega, by omega, fun H13 s13 => ⟨_, rfl, ?_⟩⟩
    refine join1 (R := ?R) (Pj := fun Hy v => Same H12 Hy ∧ ∃ (c : Addr) (ms : List Int), v = .ref c ∧ H12 c = none ∧ Hy c = some (.lst (ms.map V.int)) ∧ ms.length ≤ 20 ∧ ∀ x ∈ ms, x.natAbs < 2 ^ 39) (fun hn key => ?h1) (fun hn key => ?h2) ?kk1
    case h1 =>
      refine ⟨.ref q1, rfl, .ref q2, rfl, q1, q2, zs1, zs2, R1, R2, rfl, .inl (SqL.of (s13 _ _ eq1)), pz1.same s13, .inl (SqL.of (s13 _ _ eq2)), pz2.same s13, by omega, by omega, hn, fun H14 c ps s14 nc ec mt => ?_⟩
      generalize hvv : V.ref c = vv
      refine key H14 vv ⟨s13.trans s14, c, ps, hvv.symm, s13.free nc, ec, by have := mt.1; omega, fun x hx => ?_⟩
      obtain ⟨i, hi⟩ := List.getElem?_of_mem hx
      have hl := (List.getElem?_eq_some_iff.mp hi).1
      obtain ⟨p, e, hp, _⟩ := mt.2.2 i (by have := mt.1; omega)
      rw [hi] at e
      cases e
      omega
    case h2 =>
      refine ⟨l1s, fun o no => ⟨.ref q1, rfl, q1, zs1, rfl, .inl (SqL.of (same_new no _ _ (s13 _ _ eq1))), o, (zs1.length : Int), [.int 0], rfl, rfl, upd_same, by omega, by omega, by show 1 * _ ≤ sizeLine; exact Nat.le_trans (show _ ≤ 3000 by omega) (by decide), fun c nc => ?_⟩⟩
      have so := same_new no (o := .lst [.int 0])
      have sc := same_new nc (o := .lst (List.replicate (zs1.length : Int).toNat [.int 0]).flatten)
      have ef : (List.replicate (zs1.length : Int).toNat [V.int 0]).flatten = (List.replicate zs1.length (0 : Int)).map V.int := by
        rw [Int.toNat_natCast]
        generalize zs1.length = z
        induction z with
        | zero => rfl
        | succ z ih => rw [List.replicate_succ, List.flatten_cons, ih]; rfl
      rw [ef] at sc
      rw [ef]
      exact key _ (.ref c) ⟨(s13.trans so).trans sc, c, _, rfl, (s13.trans so).free nc, upd_same, by rw [List.length_replicate]; omega, fun x hx => by rw [List.eq_of_mem_replicate hx]; decide⟩
    case kk1 =>
    rintro H14 v14 ⟨s14, c, ms, rfl, nc, ec, lms, bms⟩
    have fe14 := fe12.same s14
    have sm14 := sm12.trans s14
    have ncf : c ≠ f := fe12.ne nc
    have eq1 := s14 _ _ eq1
    have eq2 := s14 _ _ eq2
    have pz1 := pz1.same s14
    have pz2 := pz2.same s14
    clear s14 s13 nc fe12 sm12
    refine ⟨8, rfl, by decide, by decide, for_range (lo := 0) (n := 8) (fun i σ Hx => Ch f H14 Hx ∧ FeedAt Hx f ∧ ∃ r1 r7 r8 r9 r10 r11 r12 : Option V, σ = [some (.ref a), r1, some (.ref f), some (.ref q2), some (.ref q1), some (.int far), some (.ref c), r7, r8, r9, r10, r11, r12]) ⟨Ch.refl f H14, fe14, _, _, _, _, _, _, _, rfl⟩ ?_ (fun σ Hx z => ?_)⟩
    · rintro i2 σ Hx hi2 ⟨cx, fx, r1, r7, r8, r9, r10, r11, r12, rfl⟩
      have hq1 := cx _ _ nq1f eq1
      have hq2 := cx _ _ nq2f eq2
      have hc := cx _ _ ncf ec
      refine ⟨.int (0 + (i2 : Int)), rfl, 0 + (i2 : Int), 0, rfl, rfl, _, rfl, ?_⟩
      refine join1 (R := ?R2) (Pj := fun Hy v => Ch f H14 Hy ∧ FeedAt Hy f ∧ ∃ d, Dv f Hy v d ∧ Tz d) (fun _ key => ?g1) (fun _ key => ?g2) ?g3
      case g1 =>
        refine ⟨.ref f, rfl, .ref c, rfl, .ref q2, rfl, q2, zs2, rfl, .inl (SqL.of hq2), f, c, ms, _, rfl, fx, hc, lms, bms, by omega, by omega, fun Hy v d cy fy dv tz => ?_⟩
        exact key Hy v ⟨cx.trans cy, fy, d, dv, tz⟩
      case g2 =>
        refine ⟨.ref c, rfl, ?_⟩
        exact key Hx (.ref c) ⟨cx, fx, .list (dInts ms), .lst ncf hc (dv_ints ms), tz_lst (fun d hd => by
          obtain ⟨z, hz, rfl⟩ := List.mem_map.mp hd
          exact it2_int (bms z hz)) (by unfold dInts; rw [List.length_map]; omega)⟩
      case g3 =>
      rintro Hy v ⟨cy, fy, d, dv, tz⟩
      have hq1 := cy _ _ nq1f eq1
      have hq2 := cy _ _ nq2f eq2
      have pa := PairsAt.ch cy fe14 pz1
      have pb := PairsAt.ch cy fe14 pz2
      clear hc cx fx
      refine ⟨v, rfl, f, v, d, rfl, dv, tz, .ref q1, rfl, q1, zs1, rfl, .inl ⟨SqL.of hq1, fun t1 nt1 => ?_⟩⟩
      have u1 := same_new nt1 (o := .tup zs1)
      refine ⟨.ref q2, rfl, q2, zs2, rfl, .inl ⟨SqL.of (u1 _ _ hq2), fun t2 nt2 => ?_⟩⟩
      have u2 := same_new nt2 (o := .tup zs2)
      have uA := u1.trans u2
      have e1 := u2 _ _ (upd_same (H := Hy) (a := t1) (o := .tup zs1))
      have e2 := upd_same (H := upd Hy t1 (.tup zs1)) (a := t2) (o := .tup zs2)
      refine ⟨v, rfl, t1, t2, f, zs1, zs2, R1, R2, v, d, rfl, .inr (SqT.of e1), pa.same uA, .inr (SqT.of e2), pb.same uA, by omega, by omega, dv.same uA, fun Hz s3 => ⟨.str _, .bl _, rfl, ?_⟩⟩
      have sz := uA.trans s3
      refine ⟨.ref q1, rfl, .ref q2, rfl, v, rfl, q1, q2, f, zs1, zs2, R1, R2, v, d, rfl, .inl (SqL.of (sz _ _ hq1)), pa.same sz, .inl (SqL.of (sz _ _ hq2)), pb.same sz, by omega, by omega, dv.same sz, fun Hw s4 => ⟨.bl _, rfl, rfl, _, rfl, ?_⟩⟩
      rw [decide_eq_true rfl]
      have sw := sz.trans s4
      refine iteF ⟨.bl _, rfl, _, rfl, .ref q1, rfl, .ref q2, rfl, v, rfl, q1, q2, f, zs1, zs2, R1, R2, v, d, rfl, sw _ _ hq1, pa.same sw, sw _ _ hq2, pb.same sw, by omega, by omega, dv.same sw, fun Hv s5 => ⟨_, rfl, rfl, _, rfl, ?_⟩⟩
      rw [decide_eq_true rfl]
      have sv := sw.trans s5
      refine iteF ⟨v, rfl, f, v, d, rfl, dv.same sv, tz, .str _, rfl, rfl, _, rfl, ?_⟩
      rw [decide_eq_true rfl]
      exact iteF ⟨cy.trans (.of_same sv), fy.same sv, _, _, _, _, _, _, _, rfl⟩
    · obtain ⟨cx, fx, r1, r7, r8, r9, r10, r11, r12, rfl⟩ := z
      exact ⟨cx.old hf0 sm14, _, _, _, _, _, _, _, _, _, _, _, _, rfl⟩
end
end P5L

set_option pp.maxSteps 300
namespace P5E0
open PySem PySem.Spec PyProof.Rows L2 KA KD PH PM RM RN K55 K55b K55d DV P5P P5N P5I P5K P5M P5L
theorem all_mk {l : PySem.W.OpenLaw} {w : World} {K : PySem.W.Frag} {h : Heap} {mg : Str → Option Value} {fa fNU fCO fPIN fPT fBP fNM fMA fIM fFE fTA fPI fLR fHS fSC fLM fLO fLAW : Addr} (X : K.In h) (G : h.Ns mainGlobals mg) (hfa : mg "law" = some (.ref fa))
    {odNU anNU odCO anCO odPIN anPIN odPT anPT odBP anBP odNM anNM odMA anMA odIM anIM odFE anFE odTA anTA odPI anPI odLR anLR odHS anHS odSC anSC odLM anLM odLO anLO odLAW anLAW : Option Addr} {slNU slCO slPIN slPT slBP slNM slMA slIM slFE slTA slPI slLR slHS slSC slLM slLO slLAW : Array (Option Value)} {ocNU dcNU pmNU cdNU ctNU kVNU ocCO dcCO pmCO cdCO ctCO kVCO ocPIN dcPIN pmPIN cdPIN ctPIN kVPIN ocPT dcPT pmPT cdPT ctPT kVPT ocBP dcBP pmBP cdBP ctBP kVBP ocNM dcNM pmNM cdNM ctNM kVNM ocMA dcMA pmMA cdMA ctMA kVMA ocIM dcIM pmIM cdIM ctIM kVIM ocFE dcFE pmFE cdFE ctFE kVFE ocTA dcTA pmTA cdTA ctTA kVTA ocPI dcPI pmPI cdPI ctPI kVPI ocLR dcLR pmLR cdLR ctLR kVLR ocHS dcHS pmHS cdHS ctHS kVHS ocSC dcSC pmSC cdSC ctSC kVSC ocLM dcLM pmLM cdLM ctLM kVLM ocLO dcLO pmLO cdLO ctLO kVLO ocLAW dcLAW pmLAW cdLAW ctLAW kVLAW : Value}
    (aNU : PySem.W.nsIn K mainGlobals "is_number" = some (some (.ref fNU)))
    (lNU : K.lookup fNU = some ⟨ocNU, odNU, .func (PySem.W.fnOf "is_number" "is_number" (defArgs sNu) (defBody sNu) (defScope sNu) .none kVNU dcNU pmNU anNU cdNU ctNU), slNU⟩)
    (cNU : PySem.W.codeIn K cdNU "is_number" = true)
    (kNU : PySem.W.keepIn K (.ref fNU) = true)
    (aCO : PySem.W.nsIn K mainGlobals "contains" = some (some (.ref fCO)))
    (lCO : K.lookup fCO = some ⟨ocCO, odCO, .func (PySem.W.fnOf "contains" "contains" (defArgs sCont) (defBody sCont) (defScope sCont) .none kVCO dcCO pmCO anCO cdCO ctCO), slCO⟩)
    (cCO : PySem.W.codeIn K cdCO "contains" = true)
    (kCO : PySem.W.keepIn K (.ref fCO) = true)
    (aPIN : PySem.W.nsIn K mainGlobals "place_in" = some (some (.ref fPIN)))
    (lPIN : K.lookup fPIN = some ⟨ocPIN, odPIN, .func (PySem.W.fnOf "place_in" "place_in" (defArgs BO.sPI) (defBody BO.sPI) (defScope BO.sPI) .none kVPIN dcPIN pmPIN anPIN cdPIN ctPIN), slPIN⟩)
    (cPIN : PySem.W.codeIn K cdPIN "place_in" = true)
    (kPIN : PySem.W.keepIn K (.ref fPIN) = true)
    (aPT : PySem.W.nsIn K mainGlobals "put_in" = some (some (.ref fPT)))
    (lPT : K.lookup fPT = some ⟨ocPT, odPT, .func (PySem.W.fnOf "put_in" "put_in" (defArgs BO.sPT) (defBody BO.sPT) (defScope BO.sPT) .none kVPT dcPT pmPT anPT cdPT ctPT), slPT⟩)
    (cPT : PySem.W.codeIn K cdPT "put_in" = true)
    (kPT : PySem.W.keepIn K (.ref fPT) = true)
    (aBP : PySem.W.nsIn K mainGlobals "_best_places" = some (some (.ref fBP)))
    (lBP : K.lookup fBP = some ⟨ocBP, odBP, .func (PySem.W.fnOf "_best_places" "_best_places" (defArgs sBP) (defBody sBP) (defScope sBP) .none kVBP dcBP pmBP anBP cdBP ctBP), slBP⟩)
    (cBP : PySem.W.codeIn K cdBP "_best_places" = true)
    (kBP : PySem.W.keepIn K (.ref fBP) = true)
    (aNM : PySem.W.nsIn K mainGlobals "never_more" = some (some (.ref fNM)))
    (lNM : K.lookup fNM = some ⟨ocNM, odNM, .func (PySem.W.fnOf "never_more" "never_more" (defArgs sNM) (defBody sNM) (defScope sNM) .none kVNM dcNM pmNM anNM cdNM ctNM), slNM⟩)
    (cNM : PySem.W.codeIn K cdNM "never_more" = true)
    (kNM : PySem.W.keepIn K (.ref fNM) = true)
    (aMA : PySem.W.nsIn K mainGlobals "matching" = some (some (.ref fMA)))
    (lMA : K.lookup fMA = some ⟨ocMA, odMA, .func (PySem.W.fnOf "matching" "matching" (defArgs sMA) (defBody sMA) (defScope sMA) .none kVMA dcMA pmMA anMA cdMA ctMA), slMA⟩)
    (cMA : PySem.W.codeIn K cdMA "matching" = true)
    (kMA : PySem.W.keepIn K (.ref fMA) = true)
    (aIM : PySem.W.nsIn K mainGlobals "is_matching" = some (some (.ref fIM)))
    (lIM : K.lookup fIM = some ⟨ocIM, odIM, .func (PySem.W.fnOf "is_matching" "is_matching" (defArgs sIM) (defBody sIM) (defScope sIM) .none kVIM dcIM pmIM anIM cdIM ctIM), slIM⟩)
    (cIM : PySem.W.codeIn K cdIM "is_matching" = true)
    (kIM : PySem.W.keepIn K (.ref fIM) = true)
    (aFE : PySem.W.nsIn K mainGlobals "_law_feed" = some (some (.ref fFE)))
    (lFE : K.lookup fFE = some ⟨ocFE, odFE, .func (PySem.W.fnOf "_law_feed" "_law_feed" (defArgs sFeed) (defBody sFeed) (defScope sFeed) .none kVFE dcFE pmFE anFE cdFE ctFE), slFE⟩)
    (cFE : PySem.W.codeIn K cdFE "_law_feed" = true)
    (kFE : PySem.W.keepIn K (.ref fFE) = true)
    (aTA : PySem.W.nsIn K mainGlobals "_law_take" = some (some (.ref fTA)))
    (lTA : K.lookup fTA = some ⟨ocTA, odTA, .func (PySem.W.fnOf "_law_take" "_law_take" (defArgs sTake) (defBody sTake) (defScope sTake) .none kVTA dcTA pmTA anTA cdTA ctTA), slTA⟩)
    (cTA : PySem.W.codeIn K cdTA "_law_take" = true)
    (kTA : PySem.W.keepIn K (.ref fTA) = true)
    (aPI : PySem.W.nsIn K mainGlobals "_law_pick" = some (some (.ref fPI)))
    (lPI : K.lookup fPI = some ⟨ocPI, odPI, .func (PySem.W.fnOf "_law_pick" "_law_pick" (defArgs sPick) (defBody sPick) (defScope sPick) .none kVPI dcPI pmPI anPI cdPI ctPI), slPI⟩)
    (cPI : PySem.W.codeIn K cdPI "_law_pick" = true)
    (kPI : PySem.W.keepIn K (.ref fPI) = true)
    (aLR : PySem.W.nsIn K mainGlobals "_law_ranges" = some (some (.ref fLR)))
    (lLR : K.lookup fLR = some ⟨ocLR, odLR, .func (PySem.W.fnOf "_law_ranges" "_law_ranges" (defArgs sLR) (defBody sLR) (defScope sLR) .none kVLR dcLR pmLR anLR cdLR ctLR), slLR⟩)
    (cLR : PySem.W.codeIn K cdLR "_law_ranges" = true)
    (kLR : PySem.W.keepIn K (.ref fLR) = true)
    (aHS : PySem.W.nsIn K mainGlobals "_law_has" = some (some (.ref fHS)))
    (lHS : K.lookup fHS = some ⟨ocHS, odHS, .func (PySem.W.fnOf "_law_has" "_law_has" (defArgs sHs) (defBody sHs) (defScope sHs) .none kVHS dcHS pmHS anHS cdHS ctHS), slHS⟩)
    (cHS : PySem.W.codeIn K cdHS "_law_has" = true)
    (kHS : PySem.W.keepIn K (.ref fHS) = true)
    (aSC : PySem.W.nsIn K mainGlobals "_law_scaled" = some (some (.ref fSC)))
    (lSC : K.lookup fSC = some ⟨ocSC, odSC, .func (PySem.W.fnOf "_law_scaled" "_law_scaled" (defArgs sSC) (defBody sSC) (defScope sSC) .none kVSC dcSC pmSC anSC cdSC ctSC), slSC⟩)
    (cSC : PySem.W.codeIn K cdSC "_law_scaled" = true)
    (kSC : PySem.W.keepIn K (.ref fSC) = true)
    (aLM : PySem.W.nsIn K mainGlobals "_law_is_matching" = some (some (.ref fLM)))
    (lLM : K.lookup fLM = some ⟨ocLM, odLM, .func (PySem.W.fnOf "_law_is_matching" "_law_is_matching" (defArgs sLM) (defBody sLM) (defScope sLM) .none kVLM dcLM pmLM anLM cdLM ctLM), slLM⟩)
    (cLM : PySem.W.codeIn K cdLM "_law_is_matching" = true)
    (kLM : PySem.W.keepIn K (.ref fLM) = true)
    (aLO : PySem.W.nsIn K mainGlobals "_law_other" = some (some (.ref fLO)))
    (lLO : K.lookup fLO = some ⟨ocLO, odLO, .func (PySem.W.fnOf "_law_other" "_law_other" (defArgs sLO) (defBody sLO) (defScope sLO) .none kVLO dcLO pmLO anLO cdLO ctLO), slLO⟩)
    (cLO : PySem.W.codeIn K cdLO "_law_other" = true)
    (kLO : PySem.W.keepIn K (.ref fLO) = true)
    (z1 : PySem.W.nsIn K mainGlobals "len" = some none)
    (z2 : PySem.W.nsIn K mainGlobals "max" = some none)
    (z3 : PySem.W.nsIn K mainGlobals "min" = some none)
    (z4 : PySem.W.nsIn K mainGlobals "abs" = some none)
    (z5 : PySem.W.nsIn K mainGlobals "range" = some none)
    (z6 : PySem.W.nsIn K mainGlobals "sorted" = some none)
    (z7 : PySem.W.nsIn K mainGlobals "tuple" = some none)
    (z8 : PySem.W.nsIn K mainGlobals "list" = some none)
    (z9 : PySem.W.nsIn K mainGlobals "int" = some none)
    (z10 : PySem.W.nsIn K mainGlobals "isinstance" = some none)
    (z11 : PySem.W.nsIn K mainGlobals "bool" = some none)
    (z12 : PySem.W.nsIn K mainGlobals "enumerate" = some none)
    (z13 : PySem.W.nsIn K mainGlobals "all" = some none)
    (z14 : PySem.W.nsIn K mainGlobals "repr" = some none)
    (z15 : PySem.W.nsIn K mainGlobals "set" = some none)
    (z16 : PySem.W.nsIn K mainGlobals "zip" = some none)
    (aLAW : PySem.W.nsIn K mainGlobals "law" = some (some (.ref fLAW)))
    (lLAW : K.lookup fLAW = some ⟨ocLAW, odLAW, .func (PySem.W.fnOf "law" "law" (defArgs P5L.sLaw) (defBody P5L.sLaw) (defScope P5L.sLaw) .none kVLAW dcLAW pmLAW anLAW cdLAW ctLAW), slLAW⟩)
    (cLAW : PySem.W.codeIn K cdLAW "law" = true)
    (kLAW : PySem.W.keepIn K (.ref fLAW) = true) :
    ∃ fd : FuncData, (∀ (s : Shared) (v : Value), BindsTo s fd ⟨[v], []⟩ [("script", v)]) ∧ ∀ base : Heap, K.In base → base.Ns mainGlobals mg → KW.Kept l.prog w K mg base 5 fa fd ["script"] (P5L.spLaw K) := by
  have e := hfa.symm.trans (PySem.W.mg_of X G aLAW)
  cases e
  have FNU := fun_mk (st := sNu) lNU cNU kNU
  have bNU := FNU.binds (ps := ["value"]) fun _ _ _ _ _ _ us hl => match us, hl with | [_], _ => rfl
  have FCO := fun_mk (st := sCont) lCO cCO kCO
  have bCO := FCO.binds (ps := ["outer", "inner"]) fun _ _ _ _ _ _ us hl => match us, hl with | [_, _], _ => rfl
  have FPIN := fun_mk (st := BO.sPI) lPIN cPIN kPIN
  have bPIN := FPIN.binds (ps := ["row", "value"]) fun _ _ _ _ _ _ us hl => match us, hl with | [_, _], _ => rfl
  have FPT := fun_mk (st := BO.sPT) lPT cPT kPT
  have bPT := FPT.binds (ps := ["row", "value"]) fun _ _ _ _ _ _ us hl => match us, hl with | [_, _], _ => rfl
  have FBP := fun_mk (st := sBP) lBP cBP kBP
  have bBP := FBP.binds (ps := ["first", "second"]) fun _ _ _ _ _ _ us hl => match us, hl with | [_, _], _ => rfl
  have FNM := fun_mk (st := sNM) lNM cNM kNM
  have bNM := FNM.binds (ps := ["first", "second"]) fun _ _ _ _ _ _ us hl => match us, hl with | [_, _], _ => rfl
  have FMA := fun_mk (st := sMA) lMA cMA kMA
  have bMA := FMA.binds (ps := ["first", "second"]) fun _ _ _ _ _ _ us hl => match us, hl with | [_, _], _ => rfl
  have FIM := fun_mk (st := sIM) lIM cIM kIM
  have bIM := FIM.binds (ps := ["first", "second", "value"]) fun _ _ _ _ _ _ us hl => match us, hl with | [_, _, _], _ => rfl
  have FFE := fun_mk (st := sFeed) lFE cFE kFE
  have bFE := FFE.binds (ps := ["script", "index"]) fun _ _ _ _ _ _ us hl => match us, hl with | [_, _], _ => rfl
  have FTA := fun_mk (st := sTake) lTA cTA kTA
  have bTA := FTA.binds (ps := ["feed", "size"]) fun _ _ _ _ _ _ us hl => match us, hl with | [_, _], _ => rfl
  have FPI := fun_mk (st := sPick) lPI cPI kPI
  have bPI := FPI.binds (ps := ["feed", "options"]) fun _ _ _ _ _ _ us hl => match us, hl with | [_, _], _ => rfl
  have FLR := fun_mk (st := sLR) lLR cLR kLR
  have bLR := FLR.binds (ps := ["feed", "most", "top"]) fun _ _ _ _ _ _ us hl => match us, hl with | [_, _, _], _ => rfl
  have FHS := fun_mk (st := sHs) lHS cHS kHS
  have bHS := FHS.binds (ps := ["outer", "inner"]) fun _ _ _ _ _ _ us hl => match us, hl with | [_, _], _ => rfl
  have FSC := fun_mk (st := sSC) lSC cSC kSC
  have bSC := FSC.binds (ps := ["ranges", "far", "step"]) fun _ _ _ _ _ _ us hl => match us, hl with | [_, _, _], _ => rfl
  have FLM := fun_mk (st := sLM) lLM cLM kLM
  have bLM := FLM.binds (ps := ["first", "second", "value"]) fun _ _ _ _ _ _ us hl => match us, hl with | [_, _, _], _ => rfl
  have FLO := fun_mk (st := sLO) lLO cLO kLO
  have bLO := FLO.binds (ps := ["feed", "value", "size"]) fun _ _ _ _ _ _ us hl => match us, hl with | [_, _, _], _ => rfl
  have FLAW := fun_mk (st := P5L.sLaw) lLAW cLAW kLAW
  have T : P5L.Txt K mg fNU fCO fPIN fPT fBP fNM fMA fIM fFE fTA fPI fLR fHS fSC fLM fLO _ _ _ _ _ _ _ _ _ _ _ _ _ _ _ _ := ⟨FNU, PySem.W.mg_of X G aNU, kNU, bNU, FCO, PySem.W.mg_of X G aCO, kCO, bCO, FPIN, PySem.W.mg_of X G aPIN, kPIN, bPIN, FPT, PySem.W.mg_of X G aPT, kPT, bPT, FBP, PySem.W.mg_of X G aBP, kBP, bBP, FNM, PySem.W.mg_of X G aNM, kNM, bNM, FMA, PySem.W.mg_of X G aMA, kMA, bMA, FIM, PySem.W.mg_of X G aIM, kIM, bIM, FFE, PySem.W.mg_of X G aFE, kFE, bFE, FTA, PySem.W.mg_of X G aTA, kTA, bTA, FPI, PySem.W.mg_of X G aPI, kPI, bPI, FLR, PySem.W.mg_of X G aLR, kLR, bLR, FHS, PySem.W.mg_of X G aHS, kHS, bHS, FSC, PySem.W.mg_of X G aSC, kSC, bSC, FLM, PySem.W.mg_of X G aLM, kLM, bLM, FLO, PySem.W.mg_of X G aLO, kLO, bLO, PySem.W.mg_none_of X G z1, PySem.W.mg_none_of X G z2, PySem.W.mg_none_of X G z3, PySem.W.mg_none_of X G z4, PySem.W.mg_none_of X G z5, PySem.W.mg_none_of X G z6, PySem.W.mg_none_of X G z7, PySem.W.mg_none_of X G z8, PySem.W.mg_none_of X G z9, PySem.W.mg_none_of X G z10, PySem.W.mg_none_of X G z11, PySem.W.mg_none_of X G z12, PySem.W.mg_none_of X G z13, PySem.W.mg_none_of X G z14, PySem.W.mg_none_of X G z15, PySem.W.mg_none_of X G z16⟩
  exact ⟨PySem.W.fnOf "law" "law" (defArgs P5L.sLaw) (defBody P5L.sLaw) (defScope P5L.sLaw) .none kVLAW dcLAW pmLAW anLAW cdLAW ctLAW, fun s v => .of_eq rfl, fun base _ _ => P5L.ok_law FLAW T⟩
end P5E0
open PySem PySem.W PyProof.Rows
set_option maxRecDepth 100000 in
set_option maxHeartbeats 0 in
theorem PySem.Challenge.cw_wearswings_k56_values_that_are_matchings_holds : PySem.Challenge.rw_wearswings_k56_values_that_are_matchings.Holds := by
  w_on; o_law; k_head; (case hw => w_witness2)
  k_fill
  refine KW.walk_kept (l := PySem.Challenge.rw_wearswings_k56_values_that_are_matchings) (n := 63) (k := 5) (x := "script") (sp := P5L.spLaw) rfl (by decide) rfl ⟨rfl, by decide, by decide⟩ (fun w h Y => PySem.W.kIn_of Y) ?F (fun K H a ns hl _ hS => ⟨a, ns, rfl, hS, hl, fun _ => rfl⟩)
  case F =>
    intro w mg fa h KX G hmg
    refine' P5E0.all_mk KX G hmg ?aNU ?lNU ?cNU ?kNU ?aCO ?lCO ?cCO ?kCO ?aPIN ?lPIN ?cPIN ?kPIN ?aPT ?lPT ?cPT ?kPT ?aBP ?lBP ?cBP ?kBP ?aNM ?lNM ?cNM ?kNM ?aMA ?lMA ?cMA ?kMA ?aIM ?lIM ?cIM ?kIM ?aFE ?lFE ?cFE ?kFE ?aTA ?lTA ?cTA ?kTA ?aPI ?lPI ?cPI ?kPI ?aLR ?lLR ?cLR ?kLR ?aHS ?lHS ?cHS ?kHS ?aSC ?lSC ?cSC ?kSC ?aLM ?lLM ?cLM ?kLM ?aLO ?lLO ?cLO ?kLO ?z1 ?z2 ?z3 ?z4 ?z5 ?z6 ?z7 ?z8 ?z9 ?z10 ?z11 ?z12 ?z13 ?z14 ?z15 ?z16 ?aLAW ?lLAW ?cLAW ?kLAW
    (case aNU => k_is)
    (case lNU => k_is)
    (case cNU => k_is)
    (case kNU => k_is)
    (case aCO => k_is)
    (case lCO => k_is)
    (case cCO => k_is)
    (case kCO => k_is)
    (case aPIN => k_is)
    (case lPIN => k_is)
    (case cPIN => k_is)
    (case kPIN => k_is)
    (case aPT => k_is)
    (case lPT => k_is)
    (case cPT => k_is)
    (case kPT => k_is)
    (case aBP => k_is)
    (case lBP => k_is)
    (case cBP => k_is)
    (case kBP => k_is)
    (case aNM => k_is)
    (case lNM => k_is)
    (case cNM => k_is)
    (case kNM => k_is)
    (case aMA => k_is)
    (case lMA => k_is)
    (case cMA => k_is)
    (case kMA => k_is)
    (case aIM => k_is)
    (case lIM => k_is)
    (case cIM => k_is)
    (case kIM => k_is)
    (case aFE => k_is)
    (case lFE => k_is)
    (case cFE => k_is)
    (case kFE => k_is)
    (case aTA => k_is)
    (case lTA => k_is)
    (case cTA => k_is)
    (case kTA => k_is)
    (case aPI => k_is)
    (case lPI => k_is)
    (case cPI => k_is)
    (case kPI => k_is)
    (case aLR => k_is)
    (case lLR => k_is)
    (case cLR => k_is)
    (case kLR => k_is)
    (case aHS => k_is)
    (case lHS => k_is)
    (case cHS => k_is)
    (case kHS => k_is)
    (case aSC => k_is)
    (case lSC => k_is)
    (case cSC => k_is)
    (case kSC => k_is)
    (case aLM => k_is)
    (case lLM => k_is)
    (case cLM => k_is)
    (case kLM => k_is)
    (case aLO => k_is)
    (case lLO => k_is)
    (case cLO => k_is)
    (case kLO => k_is)
    (case z1 => k_is)
    (case z2 => k_is)
    (case z3 => k_is)
    (case z4 => k_is)
    (case z5 => k_is)
    (case z6 => k_is)
    (case z7 => k_is)
    (case z8 => k_is)
    (case z9 => k_is)
    (case z10 => k_is)
    (case z11 => k_is)
    (case z12 => k_is)
    (case z13 => k_is)
    (case z14 => k_is)
    (case z15 => k_is)
    (case z16 => k_is)
    (case aLAW => k_is)
    (case lLAW => k_is)
    (case cLAW => k_is)
    (case kLAW => k_is)

